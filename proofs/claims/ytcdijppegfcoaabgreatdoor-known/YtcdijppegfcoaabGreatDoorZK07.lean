import Derived.Test.YtcdijppegfcoaabGreatDoorZK00
import Derived.Deep.LoopGhost
import Derived.Test.YtcdijppegfcoaabGreatDoorZK02
import Derived.Outline
import Derived.Test.YtcdijppegfcoaabGreatDoorZK03
set_option maxRecDepth 100000
set_option maxHeartbeats 8000000
namespace Go.Proofs.YtcdijppegfcoaabGreatDoor
open Go.RowKit
structure KeptTo (n rb : Nat) (w w' : World) : Prop where
  os : w'.os = w.os
  tape : w'.tape = w.tape
  output : w'.output = w.output
  size : w.heap.size ≤ w'.heap.size
  block : ∀ k,k < n → k ≠ rb → w'.heap[k]? = w.heap[k]?
theorem own_at {w w' : World} {base e size n : Nat} {v : Value} {xs : List Value} (h : w.ownsRow base e size v n xs) (hk : ∀ k,some k = v.ownBlock → w'.heap[k]? = w.heap[k]?) : w'.ownsRow base e size v n xs := by
  obtain ⟨h1,h2⟩ := h
  refine ⟨h1,?_⟩
  rcases h2 with h2 | ⟨g,cap,cur,rfl,hg,hh,r⟩
  · exact Or.inl h2
  · exact Or.inr ⟨g,cap,cur,rfl,hg,by rw [hk g rfl]; exact hh,r⟩
theorem one_new (w : World) (a : Value) (t : TypeId) : ∀ (j : Nat) (u : Value),[a][j]? = some u → (w.alloc (.cells #[a] t)).cell? (Addr.add ⟨w.heap.size,0,none⟩ j) = some u := by
  intro j u h
  match j,h with
  | 0,h => simp at h; subst h; simp [Addr.add]
theorem one_str (l : List UInt8) : ∀ u,u ∈ [Value.string (B l)] → u.oneCell' = true := by
  intro u hu
  simp only [List.mem_cons,List.not_mem_nil,or_false] at hu
  subst hu; rfl
theorem info_str : (Tryz.prog.info? 9).map (fun i => (i.zero,i.size,i.bytes)) = some (some (.string (B [])),1,16) := by kernel_rfl
theorem own_view {w : World} {base : Nat} {v : Value} {names : List (List UInt8)} (h : w.ownsRow base 9 1 v names.length (strs names)) :
    ∃ ao cp,v = .slice ao names.length cp ∧ ∀ j,j < names.length → ∃ gn,ao = some ⟨gn,0,none⟩ ∧ base ≤ gn ∧ gn < w.heap.size ∧ w.cell? ⟨gn,j,none⟩ = some (.string (B (names.getD j []))) := by
  obtain ⟨_,h2⟩ := h
  rcases h2 with ⟨rfl,h0⟩ | ⟨gn,cap,cur,rfl,hg,hh,_,_,_,ht⟩
  · exact ⟨none,0,by rw [h0],fun j hj => by omega⟩
  · refine ⟨some ⟨gn,0,none⟩,cap,rfl,fun j hj => ⟨gn,rfl,hg,lt_of_block hh,?_⟩⟩
    have e : (strs names)[j]? = some (.string (B (names.getD j []))) := by simp [strs,List.getD,hj]
    rw [← ht,List.getElem?_take,if_pos (by omega)] at e
    simp only [World.cell?,hh]
    simpa using e
def BLW (w w' : World) (e : Ending) (us : List Value) : Prop :=
  ∃ ao cap,e = .returned (.slice ao us.length cap) ∧ w.grownBy w' none ∧ ∀ (j : Nat) (u : Value),us[j]? = some u → ∃ gn,ao = some ⟨gn,0,none⟩ ∧ gn < w'.heap.size ∧ w'.cell? ⟨gn,j,none⟩ = some u
theorem mBelowVar (b : Nat) (w : World) : (Go.method 502 242 (.pointer (some ⟨b,0,none⟩)) "Below").run Tryz.prog w = .ok (255,.pointer (some ⟨b,0,none⟩)) w := by kernel_rfl
theorem mBelowBasic (b : Nat) (w : World) : (Go.method 502 275 (.pointer (some ⟨b,0,none⟩)) "Below").run Tryz.prog w = .ok (256,.pointer (some ⟨b,0,none⟩)) w := by kernel_rfl
theorem mBelowList (b : Nat) (w : World) : (Go.method 502 279 (.pointer (some ⟨b,0,none⟩)) "Below").run Tryz.prog w = .ok (257,.pointer (some ⟨b,0,none⟩)) w := by kernel_rfl
theorem mBelowPair (b : Nat) (w : World) : (Go.method 502 291 (.pointer (some ⟨b,0,none⟩)) "Below").run Tryz.prog w = .ok (258,.pointer (some ⟨b,0,none⟩)) w := by kernel_rfl
theorem mBelowArrow (b : Nat) (w : World) : (Go.method 502 209 (.pointer (some ⟨b,0,none⟩)) "Below").run Tryz.prog w = .ok (242,.pointer (some ⟨b,0,none⟩)) w := by kernel_rfl
theorem below_var (b : Nat) (w : World) : Calls Tryz.prog 255 #[.pointer (some ⟨b,0,none⟩)] w fun e w' => BLW w w' e [] := by
  go_enter Tryz.func255,Tryz.ntmps255
  go_wp2
  go_ret
  exact ⟨none,0,rfl,World.grownBy.refl _ _,fun j u h => by simp at h⟩
theorem below_basic (b : Nat) (w : World) : Calls Tryz.prog 256 #[.pointer (some ⟨b,0,none⟩)] w fun e w' => BLW w w' e [] := by
  go_enter Tryz.func256,Tryz.ntmps256
  go_wp2
  go_ret
  exact ⟨none,0,rfl,World.grownBy.refl _ _,fun j u h => by simp at h⟩
theorem blw_one (w : World) (u : Value) (t : TypeId) : BLW w (w.alloc (.cells #[u] t)) (.returned (.slice (some ⟨w.heap.size,0,none⟩) 1 1)) [u] := by
  refine ⟨_,1,rfl,World.grownBy_alloc _ _ _,fun j x h => ⟨_,rfl,by simp,?_⟩⟩
  match j,h with
  | 0,h => simp at h; subst h; simp [go_sem]
  | j + 1,h => simp at h
theorem blw_two (w : World) (u z : Value) (t : TypeId) : BLW w (w.alloc (.cells #[u,z] t)).drew (.returned (.slice (some ⟨w.heap.size,0,none⟩) 2 2)) [u,z] := by
  have g := World.grownBy_alloc w (.cells #[u,z] t) none
  refine ⟨_,2,rfl,⟨g.os,g.tape,g.output,g.size,g.block⟩,fun j x h => ⟨_,rfl,by simp,?_⟩⟩
  match j,h with
  | 0,h => simp at h; subst h; simp [go_sem]
  | 1,h => simp at h; subst h; simp [go_sem]
  | j + 2,h => simp at h
theorem below_list (b : Nat) (w : World) (t1 : TypeId) (b1 : Nat) (h : w.heap[b]? = some (.cells #[(.iface t1 (.pointer (some ⟨b1,0,none⟩)))] 281 (0,0))) :
    Calls Tryz.prog 257 #[.pointer (some ⟨b,0,none⟩)] w fun e w' => BLW w w' e [(.iface t1 (.pointer (some ⟨b1,0,none⟩)))] := by
  have c0 : w.cell? ⟨b,0,none⟩ = some (.iface t1 (.pointer (some ⟨b1,0,none⟩))) := by simp [World.cell?,h]
  clear h
  go_enter Tryz.func257,Tryz.ntmps257
  go_wp2
  go_ret
  exact blw_one w _ _
theorem below_pair (b : Nat) (w : World) (t1 t2 : TypeId) (b1 b2 : Nat) (h : w.heap[b]? = some (.cells #[(.iface t1 (.pointer (some ⟨b1,0,none⟩))),(.iface t2 (.pointer (some ⟨b2,0,none⟩)))] 319 (0,0))) :
    Calls Tryz.prog 258 #[.pointer (some ⟨b,0,none⟩)] w fun e w' => BLW w w' e [(.iface t1 (.pointer (some ⟨b1,0,none⟩))),(.iface t2 (.pointer (some ⟨b2,0,none⟩)))] := by
  have c0 : w.cell? ⟨b,0,none⟩ = some (.iface t1 (.pointer (some ⟨b1,0,none⟩))) := by simp [World.cell?,h]
  have c1 : w.cell? ⟨b,1,none⟩ = some (.iface t2 (.pointer (some ⟨b2,0,none⟩))) := by simp [World.cell?,h]
  clear h
  go_enter Tryz.func258,Tryz.ntmps258
  go_wp2_with fail
  (try go_region)
  go_wp2
  go_ret
  exact blw_two w _ _ _
theorem below_arrow (b : Nat) (w : World) (t1 t2 : TypeId) (b1 b2 : Nat) (h : w.heap[b]? = some (.cells #[(.iface t1 (.pointer (some ⟨b1,0,none⟩))),(.iface t2 (.pointer (some ⟨b2,0,none⟩)))] 211 (0,0))) :
    Calls Tryz.prog 242 #[.pointer (some ⟨b,0,none⟩)] w fun e w' => BLW w w' e [(.iface t1 (.pointer (some ⟨b1,0,none⟩))),(.iface t2 (.pointer (some ⟨b2,0,none⟩)))] := by
  have c0 : w.cell? ⟨b,0,none⟩ = some (.iface t1 (.pointer (some ⟨b1,0,none⟩))) := by simp [World.cell?,h]
  have c1 : w.cell? ⟨b,1,none⟩ = some (.iface t2 (.pointer (some ⟨b2,0,none⟩))) := by simp [World.cell?,h]
  clear h
  go_enter Tryz.func242,Tryz.ntmps242
  go_wp2_with fail
  (try go_region)
  go_wp2
  go_ret
  exact blw_two w _ _ _
theorem below_any {ns : List (List UInt8)} {m : Nat} {H : Nat → Option Obj} {v : Value} {x : Ty} (h : QRep ns (m + 1) H v x) :
    ∃ t b us F,v = .iface t (.pointer (some ⟨b,0,none⟩)) ∧ us.length = x.kids.length ∧ us.length ≤ 2 ∧ (∀ (i : Nat) (u : Value) (y : Ty),us[i]? = some u → x.kids[i]? = some y → QRep ns m H u y) ∧ (∀ w,(Go.method 502 t (.pointer (some ⟨b,0,none⟩)) "Below").run Tryz.prog w = .ok (F,.pointer (some ⟨b,0,none⟩)) w) ∧
      (∀ w,Fz H w → Calls Tryz.prog F #[.pointer (some ⟨b,0,none⟩)] w fun e w' => BLW w w' e us) ∧ (F = 255 ∨ F = 256 ∨ F = 257 ∨ F = 258 ∨ F = 242) := by
  obtain ⟨b,h⟩ := h
  rcases h with ⟨h1,h2,h3,h4,h5⟩ | ⟨h1,h2,h3,h4⟩ | ⟨h1,a,u,h2,h3,h4,h5⟩ | ⟨h1,a,c,u,z,h2,h3,h4,h5,h6⟩ | ⟨h1,a,c,u,z,h2,h3,h4,h5,h6⟩
  · exact ⟨_,b,[],_,h4,by rw [h2]; rfl,by simp,fun i u y e => by simp at e,fun w => mBelowVar b w,fun w _ => below_var b w,Or.inl rfl⟩
  · exact ⟨_,b,[],_,h3,by rw [h2]; rfl,by simp,fun i u y e => by simp at e,fun w => mBelowBasic b w,fun w _ => below_basic b w,Or.inr (Or.inl rfl)⟩
  · refine ⟨_,b,[u],_,h3,by rw [h2]; rfl,by simp,fun i u' y e1 e2 => ?_,fun w => mBelowList b w,fun w hz => ?_,Or.inr (Or.inr (Or.inl rfl))⟩
    · rw [h2] at e2
      match i,e1,e2 with
      | 0,e1,e2 => simp at e1 e2; subst e1 e2; exact h5
      | i + 1,e1,e2 => simp at e1
    · obtain ⟨t1,b1,_,rfl,_⟩ := h5.val hz
      exact below_list b w t1 b1 (hz _ _ h4)
  · refine ⟨_,b,[u,z],_,h3,by rw [h2]; rfl,by simp,fun i u' y e1 e2 => ?_,fun w => mBelowPair b w,fun w hz => ?_,Or.inr (Or.inr (Or.inr (Or.inl rfl)))⟩
    · rw [h2] at e2
      match i,e1,e2 with
      | 0,e1,e2 => simp at e1 e2; subst e1 e2; exact h5
      | 1,e1,e2 => simp at e1 e2; subst e1 e2; exact h6
      | i + 2,e1,e2 => simp at e1
    · obtain ⟨t1,b1,_,rfl,_⟩ := h5.val hz
      obtain ⟨t2,b2,_,rfl,_⟩ := h6.val hz
      exact below_pair b w t1 t2 b1 b2 (hz _ _ h4)
  · refine ⟨_,b,[u,z],_,h3,by rw [h2]; rfl,by simp,fun i u' y e1 e2 => ?_,fun w => mBelowArrow b w,fun w hz => ?_,Or.inr (Or.inr (Or.inr (Or.inr (rfl))))⟩
    · rw [h2] at e2
      match i,e1,e2 with
      | 0,e1,e2 => simp at e1 e2; subst e1 e2; exact h5
      | 1,e1,e2 => simp at e1 e2; subst e1 e2; exact h6
      | i + 2,e1,e2 => simp at e1
    · obtain ⟨t1,b1,_,rfl,_⟩ := h5.val hz
      obtain ⟨t2,b2,_,rfl,_⟩ := h6.val hz
      exact below_arrow b w t1 t2 b1 b2 (hz _ _ h4)
theorem room_any (ns : List (List UInt8)) : ∀ (m : Nat) (H : Nat → Option Obj) (v : Value) (x : Ty) (w : World) (L : Nat),QRep ns m H v x → Fz H w → tySize m x ≤ 100000 → L ≤ 100000 →
    Calls Tryz.prog 86 #[v,.int .i64 (L : Int)] w fun e w' => e = .returned (.int .i64 (max ((L : Int) - (tySize m x : Int)) (-1))) ∧ w.grownBy w' none := by
  intro m
  induction m with
  | zero => intro H v x w L h; exact absurd h id
  | succ m ih =>
    intro H v x w L h hz hs hL
    obtain ⟨t,b,us,F,rfl,hl,hl2,hk,hm,hb,hF⟩ := below_any h
    have hsz : tySize (m + 1) x = 1 + (x.kids.map (tySize m)).sum := rfl
    rw [hsz] at hs ⊢
    have hm1 := hm w
    have HB := hid (hb w hz)
    have HK := hid hk
    have IH := hid ih
    have HL := hid hl
    have HZ := hid hz
    have HS := hid hs
    have hLi : (L : Int) ≤ 100000 := by omega
    obtain ⟨S,hS⟩ : ∃ S,S = (x.kids.map (tySize m)).sum := ⟨_,rfl⟩
    rw [← hS]
    have HSS := hid hS
    clear h hz hs hm hb hk ih hl hsz hS
    rcases hF with rfl | rfl | rfl | rfl | rfl
    all_goals
      go_enter Tryz.func86,Tryz.ntmps86
      go_wp2_with fail
      refine HB.out.mono ?_
      rintro e w1 ⟨ao,cap,rfl,g1,hrow⟩
      have HROW := hid hrow
      have G1 := hid g1
      clear hrow g1 HB hm1
      go_wp2_with fail
      go_loopg [1,12] (us.length + 1) (fun gh v i wi => ∃ j k : Nat,j ≤ us.length ∧ i = .int .i64 j ∧ gh = us.length - j + 1 ∧ k ≤ 100000 ∧ Hid (k = 1 + ((x.kids.take j).map (tySize m)).sum) ∧ v = .int .i64 (max ((L : Int) - (k : Int)) (-1)) ∧ Hid (w1.grownBy wi none))
      case atStart => exact ⟨0,1,by omega,rfl,by omega,by omega,hid rfl,by congr 1; omega,World.grownBy.refl _ _⟩
      case round =>
        obtain ⟨j,k,hj,rfl,hgj,hk,HKJ,rfl,HG⟩ := hrel
        by_cases hjl : j < us.length
        · obtain ⟨u,hu⟩ : ∃ u,us[j]? = some u := ⟨us[j],List.getElem?_eq_getElem hjl⟩
          obtain ⟨y,hy⟩ : ∃ y,x.kids[j]? = some y := ⟨x.kids[j]'(by rw [← HL.out]; exact hjl),List.getElem?_eq_getElem _⟩
          obtain ⟨gn,rfl,hgl,hcell0⟩ := HROW.out j u hu
          have hcell : wr.cell? ⟨gn,j,none⟩ = some u := by rw [World.cell?_of_block (a := ⟨gn,j,none⟩) (HG.out.block gn hgl (by simp))]; exact hcell0
          have hry := HK.out j u y hu hy
          have hzr : Fz H wr := (HZ.out.grown G1.out).grown HG.out
          obtain ⟨t1,b1,_,rfl,_⟩ := hry.val hzr
          have hstep : 1 + ((x.kids.take (j + 1)).map (tySize m)).sum = k + tySize m y := by
            rw [List.take_add_one,hy,List.map_append,List.sum_append,HKJ.out]
            simp
            omega
          have hle : k + tySize m y ≤ 1 + S := by
            have h1 := sum_take_le (x.kids.map (tySize m)) (j + 1)
            rw [← List.map_take] at h1
            rw [HSS.out]
            omega
          have hS1 : 1 + S ≤ 100000 := by rw [HSS.out]; exact HS.out
          by_cases hneg : (L : Int) - (k : Int) < 0
          · have h1 : max ((L : Int) - (k : Int)) (-1) < 0 := by omega
            have e9 : max ((L : Int) - (k : Int)) (-1) = -1 := by omega
            rw [e9]
            have e8 : max ((L : Int) - ((1 + S : Nat) : Int)) (-1) = -1 := by omega
            clear hu hy hry hzr hcell0 hstep h1 e9
            go_wp2
            go_ret
            exact ⟨by rw [e8]; rfl,G1.out.trans HG.out⟩
          · have e9 : max ((L : Int) - (k : Int)) (-1) = ((L - k : Nat) : Int) := by omega
            rw [e9]
            have CON := hid (IH.out H _ y wr (L - k) hry hzr (by omega) (by omega))
            obtain ⟨dy,hdy2⟩ : ∃ dy : Nat,dy = tySize m y := ⟨_,rfl⟩
            rw [← hdy2] at hstep CON hle
            have HST := hid hstep
            have h1 : ¬ (((L - k : Nat) : Int) < 0) := by omega
            have e7 : max (((L - k : Nat) : Int) - (dy : Int)) (-1) = max ((L : Int) - ((k + dy : Nat) : Int)) (-1) := by omega
            rw [e7] at CON
            clear hu hy hry hzr hcell0 hstep hdy2 e9 e7 hneg
            go_wp2_with fail
            refine CON.out.mono ?_
            rintro e w' ⟨rfl,g'⟩
            have G' := hid g'
            clear g'
            go_wp2_with fail
            go_roundg (us.length - (j + 1) + 1)
            case measure => omega
            case rel => exact ⟨j + 1,k + dy,by omega,by go_num,rfl,by omega,hid HST.out.symm,rfl,hid (HG.out.trans G'.out)⟩
        · have hje : j = us.length := by omega
          subst hje
          have e : k = 1 + S := by
            have := HKJ.out
            rw [HL.out,List.take_length] at this
            rw [HSS.out]
            exact this
          subst e
          go_wp2
          go_ret
          exact ⟨rfl,G1.out.trans HG.out⟩
theorem big_any (ns : List (List UInt8)) (m : Nat) (H : Nat → Option Obj) (v : Value) (x : Ty) (w : World) (h : QRep ns m H v x) (hz : Fz H w) (hs : tySize m x ≤ 100000) :
    Calls Tryz.prog 53 #[v] w fun e w' => e = .returned (.bool (decide (120 < tySize m x))) ∧ w.grownBy w' none := by
  have CON := hid (room_any ns m H v x w 120 h hz hs (by omega))
  obtain ⟨t,b,_,rfl,_⟩ := h.val hz
  clear h hz
  by_cases hd : 120 < tySize m x
  · have e9 : max (((120 : Nat) : Int) - (tySize m x : Int)) (-1) = -1 := by omega
    rw [e9] at CON
    rw [decide_eq_true hd]
    clear hd e9
    go_enter Tryz.func53,Tryz.ntmps53
    go_wp2_with fail
    refine CON.out.mono ?_
    rintro e w1 ⟨rfl,g1⟩
    have G1 := hid g1
    clear g1
    go_wp2
    go_ret
    exact ⟨rfl,G1.out⟩
  · have e9 : max (((120 : Nat) : Int) - (tySize m x : Int)) (-1) = ((120 - tySize m x : Nat) : Int) := by omega
    rw [e9] at CON
    rw [decide_eq_false hd]
    have h1 : ¬ (((120 - tySize m x : Nat) : Int) < 0) := by omega
    clear hd e9
    generalize 120 - tySize m x = q at *
    go_enter Tryz.func53,Tryz.ntmps53
    go_wp2_with fail
    refine CON.out.mono ?_
    rintro e w1 ⟨rfl,g1⟩
    have G1 := hid g1
    clear g1
    go_wp2
    go_ret
    exact ⟨rfl,G1.out⟩
theorem two_cells {w : World} {n : Nat} {x y : Value} {t : TypeId} {p : Nat × Nat} (h : w.heap[n]? = some (.cells #[x,y] t p)) : w.cell? ⟨n,0,none⟩ = some x ∧ w.cell? ⟨n,1,none⟩ = some y := by
  constructor <;> simp [World.cell?,h]
theorem one_cj {w : World} {b : Nat} {p : Value} {t : TypeId} (h : w.heap[b]? = some (.cells #[p] t (0,0))) : w.cell? ⟨b,0,none⟩ = some p ∧ w.frozen? ⟨b,0,none⟩ = false := by simp [World.cell?,World.frozen?,h]
theorem DW.drew {H : Nat → Option Obj} {ca : List Nat} {σ : Sto} {d : Nat → Nat} {c : Dc} {bs : Nat} {s : Ds} {w : World} (h : DW H ca σ d c bs s w) : DW H ca σ d c bs s w.drew := ⟨h.cs.drew,h.dr.drew,h.lowa,h.lowH,h.off,h.big⟩
theorem first_cell {H : Nat → Option Obj} {ca : List Nat} {σ : Sto} {d : Nat → Nat} {c : Dc} {bs : Nat} {s s' : Ds} {w : World} {v : Value} {b : Nat} {n : Nat} {a : AB} (hx : c.own = some a) (hn : n ≤ 1099511627776) (hO : s.O.length ≤ 200)
    (hN : Calls Tryz.prog 168 #[v] w fun e w' => e = .returned (.iface 173 (.pointer (some ⟨b,0,none⟩))) ∧ DW H ca σ d c bs s w' ∧ Gb (DG ca c bs) w w')
    (hb : ca[n]? = some b) (hp : putS ([95] ++ letterS ((ordS s.O n).idxOf n)) 0 0 ⟨s.steps,s.out,s.stands,s.L,ordS s.O n⟩ = some s') :
    Calls Tryz.prog 128 #[CP c.db,v] w (ADP H ca σ d c bs s' w) := by
  have HN := hid hN
  have HB := hid (And.intro hb (And.intro hp (And.intro hn hO)))
  have q0 := e_Cell_Basic b
  have q1 := e_Cell_Var b
  have q2 := e_Cell_Cell b
  have HX := hid hx
  clear hN hb hx hn hO hp
  unfold CP
  go_enter Tryz.func128,Tryz.ntmps128
  go_wp2_with fail
  refine HN.out.mono ?_
  rintro e w1 ⟨rfl,r1,g1⟩
  obtain ⟨v1,hv1,_⟩ := r1.cs.blk n b HB.out.1
  have c0 := (cell_at hv1).1
  obtain ⟨sv,hsv,_⟩ := r1.dr.blk
  have c1 : w1.cell? ⟨c.db,1,none⟩ = some (.func (.func 213) #[] #[.pointer (some ⟨a.kb,0,none⟩),.pointer (some ⟨a.nb,0,none⟩)]) := by rw [(draft_cells hsv).2.1]; unfold Dc.ownV; rw [HX.out]; rfl
  have HC := hid (ask_i w1.drew a n s.O HB.out.2.2.1 ((r1.dr.drew).ow a HX.out).1 HB.out.2.2.2)
  have R1 := hid (And.intro r1 g1)
  clear r1 g1 HN hsv hv1
  go_wp2_with fail
  go_region_with (first
    | (go_at_call 213; refine HC.out.mono ?_; rintro e w2 ⟨rfl,i2,g2⟩; have R2 := hid ((DW.drew R1.out.1).ownL HX.out i2 g2); have HW := hid (word_any R2.out.1 HB.out.2.1); clear i2 g2; unfold CP at HW)
    | (go_at_call 169; refine HW.out.mono ?_; rintro e w3 ⟨rfl,r3,g3⟩; have R3 := hid (And.intro r3 g3); clear r3 g3))
  all_goals
    go_wp2
    first | go_end0 | skip
    exact ⟨rfl,R3.out.1,(R1.out.2.tr (Gb.drewL R2.out.2)).tr R3.out.2⟩
theorem first_list {H : Nat → Option Obj} {ca : List Nat} {σ : Sto} {d : Nat → Nat} {c : Dc} {bs : Nat} {s s' : Ds} {w : World} {v : Value} {b : Nat} {md f : Nat} {u : Value} {a : Et} {s1 s2 : Ds}
    (hN : Calls Tryz.prog 168 #[v] w fun e w' => e = .returned (.iface 279 (.pointer (some ⟨b,0,none⟩))) ∧ DW H ca σ d c bs s w' ∧ Gb (DG ca c bs) w w')
    (hb : H b = some (.cells #[u] 281 (0,0))) (hA : ADDC H ca σ d c bs md f) (hu : ER H ca u a) (p1 : putS [91] 0 0 s = some s1) (p2 : draftS σ md f a s1 = some s2) (p3 : putS [93] 0 0 s2 = some s') :
    Calls Tryz.prog 128 #[CP c.db,v] w (ADP H ca σ d c bs s' w) := by
  have HF := hid (show ∀ w,Fz H w → w.cell? ⟨b,0,none⟩ = some u from (fun w hz => (one_cj (hz _ _ hb)).1))
  have HN := hid hN
  have HA := hid hA
  have q0 := e_List_Basic b
  have q1 := e_List_Var b
  have q2 := e_List_Cell b
  have q3 := e_List_List b
  have P := hid (And.intro hu (And.intro p1 (And.intro p2 p3)))
  clear hu p1 p2 p3
  clear hN hb hA
  unfold CP
  go_enter Tryz.func128,Tryz.ntmps128
  go_wp2_with fail
  refine HN.out.mono ?_
  rintro e w1 ⟨rfl,r1,g1⟩
  have G1 := hid g1
  clear g1 HN
  have c0 := HF.out w1 r1.cs.fz
  have C1 := hid (word_any r1 P.out.2.1)
  clear r1
  unfold CP at C1
  go_wp2_with fail
  refine C1.out.mono ?_
  rintro e w2 ⟨rfl,r2,g2⟩
  have G2 := hid g2
  clear g2
  have c0 := HF.out w2 r2.cs.fz
  have C2 := hid (HA.out u a s1 s2 _ P.out.1 P.out.2.2.1 r2)
  clear r2
  unfold CP at C2
  go_wp2_with fail
  refine C2.out.mono ?_
  rintro e w3 ⟨rfl,r3,g3⟩
  have G3 := hid g3
  clear g3
  have c0 := HF.out w3 r3.cs.fz
  have C3 := hid (word_any r3 P.out.2.2.2)
  clear r3
  unfold CP at C3
  go_wp2_with fail
  refine C3.out.mono ?_
  rintro e w4 ⟨rfl,r4,g4⟩
  have G4 := hid g4
  clear g4
  have RR := hid r4
  clear r4
  go_wp2
  first | go_end0 | skip
  exact ⟨rfl,RR.out,(((G1.out.tr G2.out).tr G3.out).tr G4.out)⟩
theorem first_pair {H : Nat → Option Obj} {ca : List Nat} {σ : Sto} {d : Nat → Nat} {c : Dc} {bs : Nat} {s s' : Ds} {w : World} {v : Value} {b : Nat} {md f : Nat} {u z : Value} {a k : Et} {s1 s2 s3 s4 : Ds}
    (hN : Calls Tryz.prog 168 #[v] w fun e w' => e = .returned (.iface 291 (.pointer (some ⟨b,0,none⟩))) ∧ DW H ca σ d c bs s w' ∧ Gb (DG ca c bs) w w')
    (hb : H b = some (.cells #[u,z] 319 (0,0))) (hA : ADDC H ca σ d c bs md f) (hu : ER H ca u a) (hz : ER H ca z k) (p1 : putS [40] 0 0 s = some s1) (p2 : draftS σ md f a s1 = some s2) (p3 : putS [44,32] 0 0 s2 = some s3) (p4 : draftS σ md f k s3 = some s4) (p5 : putS [41] 0 0 s4 = some s') :
    Calls Tryz.prog 128 #[CP c.db,v] w (ADP H ca σ d c bs s' w) := by
  have HF := hid (show ∀ w,Fz H w → w.cell? ⟨b,0,none⟩ = some u ∧ w.cell? ⟨b,1,none⟩ = some z from (fun w hz => two_cells (hz _ _ hb)))
  have HN := hid hN
  have HA := hid hA
  have q0 := e_Pair_Basic b
  have q1 := e_Pair_Var b
  have q2 := e_Pair_Cell b
  have q3 := e_Pair_List b
  have q4 := e_Pair_Pair b
  have P := hid (And.intro hu (And.intro hz (And.intro p1 (And.intro p2 (And.intro p3 (And.intro p4 p5))))))
  clear hu hz p1 p2 p3 p4 p5
  clear hN hb hA
  unfold CP
  go_enter Tryz.func128,Tryz.ntmps128
  go_wp2_with fail
  refine HN.out.mono ?_
  rintro e w1 ⟨rfl,r1,g1⟩
  have G1 := hid g1
  clear g1 HN
  have c0 := (HF.out w1 r1.cs.fz).1
  have c1 := (HF.out w1 r1.cs.fz).2
  have C1 := hid (word_any r1 P.out.2.2.1)
  clear r1
  unfold CP at C1
  go_wp2_with fail
  refine C1.out.mono ?_
  rintro e w2 ⟨rfl,r2,g2⟩
  have G2 := hid g2
  clear g2
  have c0 := (HF.out w2 r2.cs.fz).1
  have c1 := (HF.out w2 r2.cs.fz).2
  have C2 := hid (HA.out u a s1 s2 _ P.out.1 P.out.2.2.2.1 r2)
  clear r2
  unfold CP at C2
  go_wp2_with fail
  refine C2.out.mono ?_
  rintro e w3 ⟨rfl,r3,g3⟩
  have G3 := hid g3
  clear g3
  have c0 := (HF.out w3 r3.cs.fz).1
  have c1 := (HF.out w3 r3.cs.fz).2
  have C3 := hid (word_any r3 P.out.2.2.2.2.1)
  clear r3
  unfold CP at C3
  go_wp2_with fail
  refine C3.out.mono ?_
  rintro e w4 ⟨rfl,r4,g4⟩
  have G4 := hid g4
  clear g4
  have c0 := (HF.out w4 r4.cs.fz).1
  have c1 := (HF.out w4 r4.cs.fz).2
  have C4 := hid (HA.out z k s3 s4 _ P.out.2.1 P.out.2.2.2.2.2.1 r4)
  clear r4
  unfold CP at C4
  go_wp2_with fail
  refine C4.out.mono ?_
  rintro e w5 ⟨rfl,r5,g5⟩
  have G5 := hid g5
  clear g5
  have c0 := (HF.out w5 r5.cs.fz).1
  have c1 := (HF.out w5 r5.cs.fz).2
  have C5 := hid (word_any r5 P.out.2.2.2.2.2.2)
  clear r5
  unfold CP at C5
  go_wp2_with fail
  refine C5.out.mono ?_
  rintro e w6 ⟨rfl,r6,g6⟩
  have G6 := hid g6
  clear g6
  have RR := hid r6
  clear r6
  go_wp2
  first | go_end0 | skip
  exact ⟨rfl,RR.out,(((((G1.out.tr G2.out).tr G3.out).tr G4.out).tr G5.out).tr G6.out)⟩
theorem first_arrow {H : Nat → Option Obj} {ca : List Nat} {σ : Sto} {d : Nat → Nat} {c : Dc} {bs : Nat} {s s' : Ds} {w : World} {v : Value} {b : Nat} {md f : Nat} {u z : Value} {a k : Et} {s1 s2 : Ds}
    (hN : Calls Tryz.prog 168 #[v] w fun e w' => e = .returned (.iface 209 (.pointer (some ⟨b,0,none⟩))) ∧ DW H ca σ d c bs s w' ∧ Gb (DG ca c bs) w w')
    (hb : H b = some (.cells #[u,z] 211 (0,0))) (hA : ADDC H ca σ d c bs md f) (hR : FRMC H ca σ d c bs md f) (hu : ER H ca u a) (hz : ER H ca z k) (p1 : fromS (draftS σ md f) σ a (some s) = some s1) (p2 : putS [32,45,62,32] 0 0 s1 = some s2) (p3 : draftS σ md f k s2 = some s') :
    Calls Tryz.prog 128 #[CP c.db,v] w (ADP H ca σ d c bs s' w) := by
  have HF := hid (show ∀ w,Fz H w → w.cell? ⟨b,0,none⟩ = some u ∧ w.cell? ⟨b,1,none⟩ = some z from (fun w hz => two_cells (hz _ _ hb)))
  have HN := hid hN
  have HA := hid hA
  have q0 := e_Arrow_Basic b
  have q1 := e_Arrow_Var b
  have q2 := e_Arrow_Cell b
  have q3 := e_Arrow_List b
  have q4 := e_Arrow_Pair b
  have q5 := e_Arrow_Arrow b
  have P := hid (And.intro hu (And.intro hz (And.intro p1 (And.intro p2 p3))))
  have HR := hid hR
  clear hu hz p1 p2 p3 hR
  clear hN hb hA
  unfold CP
  go_enter Tryz.func128,Tryz.ntmps128
  go_wp2_with fail
  refine HN.out.mono ?_
  rintro e w1 ⟨rfl,r1,g1⟩
  have G1 := hid g1
  clear g1 HN
  have c0 := (HF.out w1 r1.cs.fz).1
  have c1 := (HF.out w1 r1.cs.fz).2
  have C1 := hid (HR.out u a s s1 _ P.out.1 P.out.2.2.1 r1)
  clear r1
  unfold CP at C1
  go_wp2_with fail
  refine C1.out.mono ?_
  rintro e w2 ⟨rfl,r2,g2⟩
  have G2 := hid g2
  clear g2
  have c0 := (HF.out w2 r2.cs.fz).1
  have c1 := (HF.out w2 r2.cs.fz).2
  have C2 := hid (word_any r2 P.out.2.2.2.1)
  clear r2
  unfold CP at C2
  go_wp2_with fail
  refine C2.out.mono ?_
  rintro e w3 ⟨rfl,r3,g3⟩
  have G3 := hid g3
  clear g3
  have c0 := (HF.out w3 r3.cs.fz).1
  have c1 := (HF.out w3 r3.cs.fz).2
  have C3 := hid (HA.out z k s2 s' _ P.out.2.1 P.out.2.2.2.2 r3)
  clear r3
  unfold CP at C3
  go_wp2_with fail
  refine C3.out.mono ?_
  rintro e w4 ⟨rfl,r4,g4⟩
  have G4 := hid g4
  clear g4
  have RR := hid r4
  clear r4
  go_wp2
  first | go_end0 | skip
  exact ⟨rfl,RR.out,(((G1.out.tr G2.out).tr G3.out).tr G4.out)⟩
theorem first_any {H : Nat → Option Obj} {ca : List Nat} {σ : Sto} {d : Nat → Nat} {c : Dc} {bs md f : Nat} (hM : Md md c) (hA : ADDC H ca σ d c bs md f) (hR : FRMC H ca σ d c bs md f) : FSTC H ca σ d c bs md f := by
  intro v t s s' w hv hs h
  obtain ⟨v1,m,hr1,_,hN⟩ := now_q (σ := σ) (d := d) hv h.cs
  -- now leaves one of the kinds: each by its own walk
  have key : ∀ v1,ERep 0 H ca (m + 2) v1 (nowS σ t) → Calls Tryz.prog 168 #[v] w (fun e w' => e = .returned v1 ∧ DW H ca σ d c bs s w' ∧ Gb (DG ca c bs) w w') →
      Calls Tryz.prog 128 #[CP c.db,v] w (ADP H ca σ d c bs s' w) := by
    intro v1 hr hC
    unfold firstS at hs
    generalize nowS σ t = u at hs hr
    obtain ⟨b,hr⟩ := hr
    rcases hr with ⟨h1,h2,h3,h4⟩ | ⟨h1,h2,h3,h0,h4,h5⟩ | ⟨h1,h2,h3,h4⟩ | ⟨h1,h0,a,u1,h2,h3,h4,h5⟩ | ⟨h1,h0,a,k,u1,z,h2,h3,h4,h5,h6⟩ | ⟨h1,h0,a,k,u1,z,h2,h3,h4,h5,h6⟩
    · rw [if_neg (by rw [h1]; decide),if_pos h1] at hs
      unfold ownS at hs
      split at hs
      · rename_i hc
        obtain ⟨a,ha⟩ := Option.isSome_iff_exists.1 (hM.2 hc.1)
        subst h4
        have hl : u.num < σ.rep.length := by rw [← h.cs.len]; exact (List.getElem?_eq_some_iff.1 h3).1
        exact first_cell ha (by have := h.cs.few; omega) hc.2 hC h3 hs
      · cases hs
    · rw [if_pos h1] at hs
      unfold anyS at hs
      subst h4
      by_cases hm : md = 0
      · rw [if_pos hm] at hs
        exact first_var_id (hM.1.1 hm) hC h5 (any_id hs)
      · rw [if_neg hm] at hs
        split at hs
        · rename_i hL
          cases ha : c.any with
          | none => exact absurd (hM.1.2 ha) hm
          | some a => exact first_var_ask ha hC h5 (any_ask ha h3 hL hs)
        · cases hs
    · rw [if_neg (by rcases h1 with h1 | h1 <;> rw [h1] <;> decide),if_neg (by rcases h1 with h1 | h1 <;> rw [h1] <;> decide),h2] at hs
      subst h3
      exact first_basic hC h4 hs
    · rw [if_neg (by rw [h1]; decide),if_neg (by rw [h1]; decide),h2] at hs
      subst h3
      obtain ⟨s2,e2,p3⟩ := wordS_some hs
      obtain ⟨s1,e1,p2⟩ := goOn_some e2
      exact first_list hC h4 hA ⟨_,h5⟩ e1 p2 p3
    · rw [if_neg (by rw [h1]; decide),if_neg (by rw [h1]; decide),h2] at hs
      subst h3
      have hs' : (if u.kind = kFun then goOn (draftS σ md f) k (wordS [32,45,62,32] (fromS (draftS σ md f) σ a (some s))) else wordS [41] (goOn (draftS σ md f) k (wordS [44,32] (goOn (draftS σ md f) a (wordS [40] (some s)))))) = some s' := hs
      rw [if_neg (by rw [h1]; decide)] at hs'
      obtain ⟨s4,e4,p5⟩ := wordS_some hs'
      obtain ⟨s3,e3,p4⟩ := goOn_some e4
      obtain ⟨s2,e2,p3⟩ := wordS_some e3
      obtain ⟨s1,e1,p2⟩ := goOn_some e2
      exact first_pair hC h4 hA ⟨_,h5⟩ ⟨_,h6⟩ e1 p2 p3 p4 p5
    · rw [if_neg (by rw [h1]; decide),if_neg (by rw [h1]; decide),h2] at hs
      subst h3
      have hs' : (if u.kind = kFun then goOn (draftS σ md f) k (wordS [32,45,62,32] (fromS (draftS σ md f) σ a (some s))) else wordS [41] (goOn (draftS σ md f) k (wordS [44,32] (goOn (draftS σ md f) a (wordS [40] (some s)))))) = some s' := hs
      rw [if_pos h1] at hs'
      obtain ⟨s2,e2,p3⟩ := goOn_some hs'
      obtain ⟨s1,e1,p2⟩ := wordS_some e2
      exact first_arrow hC h4 hA hR ⟨_,h5⟩ ⟨_,h6⟩ e1 p2 p3
  refine key v1 hr1 (hN.mono ?_)
  rintro e w' ⟨rfl,q2,q3⟩
  exact ⟨rfl,h.cells q2 q3,DG.cells q3⟩
theorem kinds_ne : (kInt ≠ kFun ∧ kBool ≠ kFun ∧ oList ≠ kFun ∧ oPair ≠ kFun ∧ oCell ≠ kFun ∧ ([] : List UInt8) ≠ kFun) := by decide
theorem ERep.arrow {lo m : Nat} {H : Nat → Option Obj} {ca : List Nat} {v : Value} {t : Et} (h : ERep lo H ca m v t) : ∃ T0 b,v = .iface T0 (.pointer (some ⟨b,0,none⟩)) ∧
    ((t.kind = kFun ∧ ∀ w,(Instr.typeAssert (.iface T0 (.pointer (some ⟨b,0,none⟩))) 77 209 true).run Tryz.prog w = .ok (.tuple #[.pointer (some ⟨b,0,none⟩),.bool true]) w) ∨
     (t.kind ≠ kFun ∧ ∀ w,(Instr.typeAssert (.iface T0 (.pointer (some ⟨b,0,none⟩))) 77 209 true).run Tryz.prog w = .ok (.tuple #[.pointer none,.bool false]) w)) := by
  cases m with
  | zero => exact absurd h id
  | succ m =>
  obtain ⟨b,h⟩ := h
  obtain ⟨n1,n2,n3,n4,n5,n6⟩ := kinds_ne
  rcases h with ⟨h1,h2,h3,h4⟩ | ⟨h1,h2,h3,h0,h4,h5⟩ | ⟨h1,h2,h3,h4⟩ | ⟨h1,h0,a,u,h2,h3,h4,h5⟩ | ⟨h1,h0,a,c,u,z,h2,h3,h4,h5,h6⟩ | ⟨h1,h0,a,c,u,z,h2,h3,h4,h5,h6⟩
  · exact ⟨_,b,h4,Or.inr ⟨by rw [h1]; exact n5,fun w => e_Cell_Arrow b w⟩⟩
  · exact ⟨_,b,h4,Or.inr ⟨by rw [h1]; exact n6,fun w => e_Var_Arrow b w⟩⟩
  · exact ⟨_,b,h3,Or.inr ⟨by rcases h1 with h1 | h1 <;> rw [h1] <;> assumption,fun w => e_Basic_Arrow b w⟩⟩
  · exact ⟨_,b,h3,Or.inr ⟨by rw [h1]; exact n3,fun w => e_List_Arrow b w⟩⟩
  · exact ⟨_,b,h3,Or.inr ⟨by rw [h1]; exact n4,fun w => e_Pair_Arrow b w⟩⟩
  · exact ⟨_,b,h3,Or.inl ⟨h1,fun w => e_Arrow_Arrow b w⟩⟩
theorem from_any {H : Nat → Option Obj} {ca : List Nat} {σ : Sto} {d : Nat → Nat} {c : Dc} {bs md f : Nat} (hA : ADDC H ca σ d c bs md f) : FRMC H ca σ d c bs md f := by
  intro v t s s' w hv hs h
  obtain ⟨v1,m,hr1,_,hN⟩ := now_q (σ := σ) (d := d) hv h.cs
  obtain ⟨T0,b,rfl,hq⟩ := hr1.arrow
  have HN := hid hN
  have HD := hid h
  have HA := hid hA
  have HV := hid hv
  clear hN h hA hv hr1
  unfold fromS at hs
  unfold CP
  rcases hq with ⟨hk,hq⟩ | ⟨hk,hq⟩
  · rw [if_pos hk] at hs
    obtain ⟨s2,e2,p3⟩ := wordS_some hs
    obtain ⟨s1,e1,p2⟩ := goOn_some e2
    have P := hid (And.intro (show putS [40] 0 0 s = some s1 from e1) (And.intro p2 p3))
    clear hs e2 e1 p2 p3 hk
    go_enter Tryz.func170,Tryz.ntmps170
    go_wp2_with fail
    refine HN.out.mono ?_
    rintro e w1 ⟨rfl,r0,g0⟩
    have r1 := HD.out.cells r0 g0
    have G1 := hid (DG.cells (c := c) (bs := bs) g0)
    have C1 := hid (word_any r1 P.out.1)
    clear r0 g0 r1 HN
    unfold CP at C1
    go_wp2_with fail
    refine C1.out.mono ?_
    rintro e w2 ⟨rfl,r2,g2⟩
    have G2 := hid g2
    have C2 := hid (HA.out _ _ _ _ _ HV.out P.out.2.1 r2)
    clear r2 g2 C1
    unfold CP at C2
    go_wp2_with fail
    refine C2.out.mono ?_
    rintro e w3 ⟨rfl,r3,g3⟩
    have G3 := hid g3
    have C3 := hid (word_any r3 P.out.2.2)
    clear r3 g3 C2
    unfold CP at C3
    go_wp2_with fail
    refine C3.out.mono ?_
    rintro e w4 ⟨rfl,r4,g4⟩
    have R4 := hid (And.intro r4 g4)
    clear r4 g4 C3
    go_wp2
    first | go_end0 | skip
    exact ⟨rfl,R4.out.1,((G1.out.tr G2.out).tr G3.out).tr R4.out.2⟩
  · rw [if_neg hk] at hs
    have P := hid (show draftS σ md f t s = some s' from hs)
    clear hs hk
    go_enter Tryz.func170,Tryz.ntmps170
    go_wp2_with fail
    refine HN.out.mono ?_
    rintro e w1 ⟨rfl,r0,g0⟩
    have r1 := HD.out.cells r0 g0
    have G1 := hid (DG.cells (c := c) (bs := bs) g0)
    have C1 := hid (HA.out _ _ _ _ _ HV.out P.out r1)
    clear r0 g0 r1 HN
    unfold CP at C1
    go_wp2_with fail
    refine C1.out.mono ?_
    rintro e w2 ⟨rfl,r2,g2⟩
    have R2 := hid (And.intro r2 g2)
    clear r2 g2 C1
    go_wp2
    first | go_end0 | skip
    exact ⟨rfl,R2.out.1,G1.out.tr R2.out.2⟩
theorem DR.stand {c : Dc} {bs : Nat} {s : Ds} {w w' : World} {l : List (Nat × Nat × Nat)} (h : DR c bs s w) (hm : GM kI standA 3 w' c.mb l) (g : w.grownBy w' (some c.mb)) : DR c bs ⟨s.steps,s.out,l,s.L,s.O⟩ w' := by
  obtain ⟨sv,hb,ho⟩ := h.blk
  have hk : ∀ (k : Nat) (o : Obj),w.heap[k]? = some o → k ≠ c.mb → w'.heap[k]? = some o := fun k o e hn => (g.block k (lt_of_block e) (by simpa using hn)).trans e
  have hc : ∀ (k : Nat) (cs : Array Value) (t : TypeId) (fz : Nat × Nat),w.heap[k]? = some (Obj.cells cs t fz) → k ≠ c.mb := fun k cs t fz e => h.st.apart e
  have s1 : ∀ (k : Nat) (o : Obj),w.heap[k]? = some o → k ≠ c.mb → w'.heap[k]? = w.heap[k]? := fun k o e hn => (hk k o e hn).trans e.symm
  refine ⟨⟨sv,hk _ _ hb (hc _ _ _ _ hb),ho.1,?_⟩,h.run,h.ok,h.short,hm,fun b hb2 => ?_,fun b hb2 => ?_,h.ap,h.lo⟩
  · rcases ho.2 with q | ⟨gb,cap,cur,q1,q2,q3,q4⟩
    · exact Or.inl q
    · exact Or.inr ⟨gb,cap,cur,q1,q2,hk _ _ q3 (hc _ _ _ _ q3),q4⟩
  · obtain ⟨j,l3,l4⟩ := h.an b hb2
    obtain ⟨D,⟨es,clock,q1,q2⟩,q3⟩ := j.mp
    exact ⟨j.same (s1 _ _ j.mrk (hc _ _ _ _ j.mrk)) (s1 _ _ j.nf (hc _ _ _ _ j.nf)) (s1 _ _ j.blk (hc _ _ _ _ j.blk)) (s1 _ _ q1 l4),l3,l4⟩
  · obtain ⟨j,l3⟩ := h.ow b hb2
    obtain ⟨es,cl,e⟩ := j.mp.isMap
    exact ⟨j.same (s1 _ _ j.mrk (hc _ _ _ _ j.mrk)) (s1 _ _ j.nf (hc _ _ _ _ j.nf)) (s1 _ _ j.blk (hc _ _ _ _ j.blk)) (s1 _ _ e l3),l3⟩
theorem zero_step (w : World) : (zeroValue 225).run Tryz.prog w = .ok (.agg #[.string (B []),.int .i64 0,.int .i64 0]) w := by kernel_rfl
theorem DW.stand {H : Nat → Option Obj} {ca : List Nat} {σ : Sto} {d : Nat → Nat} {c : Dc} {bs : Nat} {s : Ds} {w w' : World} {l : List (Nat × Nat × Nat)} (h : DW H ca σ d c bs s w) (hm : GM kI standA 3 w' c.mb l) (g : w.grownBy w' (some c.mb)) : DW H ca σ d c bs ⟨s.steps,s.out,l,s.L,s.O⟩ w' ∧ Gb (DG ca c bs) w w' := by
  have g1 : Gb (fun k => bs ≤ k) w w' := Gb.of g (fun b e => by cases e; exact Or.inl h.dr.lo.2)
  exact ⟨h.put (h.dr.stand hm g) g1,DG.put g1⟩
theorem DW.alloc {H : Nat → Option Obj} {ca : List Nat} {σ : Sto} {d : Nat → Nat} {c : Dc} {bs : Nat} {s : Ds} {w : World} (h : DW H ca σ d c bs s w) (o : Obj) : DW H ca σ d c bs s (w.alloc o) :=
  ⟨h.cs.gb (R := fun _ => False) ((Gb.refl _ _).alloc o) (fun _ _ e => e) (fun _ _ _ e => e),h.dr.same fun k x e _ => by rw [Below.heap_alloc _ _ _ (lt_of_block e)]; exact e,h.lowa,h.lowH,h.off,by simp; have := h.big; omega⟩
theorem Gb.allocL {R : Nat → Prop} {w w' : World} {o : Obj} (h : Gb R (w.alloc o) w') : Gb R w w' := ((Gb.refl R w).alloc o).tr h
theorem add_other {H : Nat → Option Obj} {ca : List Nat} {σ : Sto} {d : Nat → Nat} {c : Dc} {bs : Nat} {s' : Ds} {w : World} {T0 : TypeId} {b : Nat}
    (hq : ∀ w,(Instr.typeAssert (.iface T0 (.pointer (some ⟨b,0,none⟩))) 77 173 true).run Tryz.prog w = .ok (.tuple #[.pointer none,.bool false]) w)
    (hF : Calls Tryz.prog 128 #[CP c.db,.iface T0 (.pointer (some ⟨b,0,none⟩))] w (ADP H ca σ d c bs s' w)) :
    Calls Tryz.prog 87 #[CP c.db,.iface T0 (.pointer (some ⟨b,0,none⟩))] w (ADP H ca σ d c bs s' w) := by
  have HF := hid hF
  clear hF
  unfold CP at HF ⊢
  go_enter Tryz.func87,Tryz.ntmps87
  go_wp2_with fail
  refine HF.out.mono ?_
  rintro e w1 ⟨rfl,r1,g1⟩
  have R1 := hid (And.intro r1 g1)
  clear r1 g1 HF
  go_wp2
  first | go_end0 | skip
  exact ⟨rfl,R1.out.1,R1.out.2⟩
theorem add_again {H : Nat → Option Obj} {ca : List Nat} {σ : Sto} {d : Nat → Nat} {c : Dc} {bs : Nat} {s s' : Ds} {w : World} {n b x y : Nat} (hb : ca[n]? = some b) (h : DW H ca σ d c bs s w) (hg : getL s.stands (σ.root n) = some (x,y)) (hp : putS [] x y s = some s') :
    Calls Tryz.prog 87 #[CP c.db,CI b] w (ADP H ca σ d c bs s' w) := by
  have HL := hid (last_any (d n + 1) n b w (by omega) hb h.cs)
  have q1 := e_Cell_Cell b
  have Q := hid (And.intro hb (And.intro h (And.intro hg hp)))
  clear hb h hg hp
  unfold CP at HL ⊢
  unfold CI
  go_enter Tryz.func87,Tryz.ntmps87
  go_wp2_with fail
  refine HL.out.mono ?_
  rintro e w1 ⟨b1,rfl,h1,h2,h3,_⟩
  have r1 := Q.out.2.1.cells h2 h3
  have G1 := hid (DG.cells (c := c) (bs := bs) h3)
  obtain ⟨v1,hv1,_⟩ := h2.blk _ b1 h1
  have c0 := (cell_at hv1).1
  obtain ⟨sv,hsv,_⟩ := r1.dr.blk
  have c4 := (draft_cells hsv).2.2.2.2.1
  have hfew : σ.root n ≤ 1099511627776 := by
    have := (List.getElem?_eq_some_iff.1 h1).1
    rw [h2.len] at this
    have := h2.few
    omega
  have hlk := r1.dr.st.look intLaw Tryz.underlying213 (zero_step w1) (kI_key hfew)
  rw [Q.out.2.2.1] at hlk
  simp only [Option.map_some,Option.getD_some,standA,Option.isSome_some] at hlk
  have C1 := hid (put_any (r1.alloc (.cells #[.string (B []),.int .i64 (x : Int),.int .i64 (y : Int)] 225)).dr Q.out.2.2.2 (r1.alloc (.cells #[.string (B []),.int .i64 (x : Int),.int .i64 (y : Int)] 225)).big)
  have R1 := hid r1
  clear h1 h2 h3 hv1 r1 hsv hfew HL
  unfold CP stepA at C1
  unfold CP
  go_wp2_with fail
  refine C1.out.mono ?_
  rintro e w2 ⟨rfl,r2,g2⟩
  have R2 := hid (And.intro r2 g2)
  clear r2 g2 C1
  go_wp2
  first | go_end0 | skip
  exact ⟨rfl,(R1.out.alloc _).put R2.out.1 R2.out.2,G1.out.tr (Gb.allocL (DG.put R2.out.2))⟩
theorem add_first {H : Nat → Option Obj} {ca : List Nat} {σ : Sto} {d : Nat → Nat} {c : Dc} {bs : Nat} {s s1 : Ds} {w : World} {n b : Nat} (hb : ca[n]? = some b) (h : DW H ca σ d c bs s w) (hg : getL s.stands (σ.root n) = none) (hg1 : getL s1.stands (σ.root n) = none) (hl : s1.stands.length < 100000)
    (hF : ∀ w,DW H ca σ d c bs s w → Calls Tryz.prog 128 #[CP c.db,CI b] w (ADP H ca σ d c bs s1 w)) :
    Calls Tryz.prog 87 #[CP c.db,CI b] w (ADP H ca σ d c bs ⟨s1.steps,s1.out,s1.stands ++ [(σ.root n,s.out.length,s1.out.length)],s1.L,s1.O⟩ w) := by
  have HL := hid (last_any (d n + 1) n b w (by omega) hb h.cs)
  have q1 := e_Cell_Cell b
  have Q := hid (And.intro hb (And.intro h (And.intro hg (And.intro hg1 hl))))
  have HF := hid hF
  clear hb h hg hg1 hl hF
  unfold CP at HL ⊢
  unfold CI
  go_enter Tryz.func87,Tryz.ntmps87
  go_wp2_with fail
  refine HL.out.mono ?_
  rintro e w1 ⟨b1,rfl,h1,h2,h3,_⟩
  have r1 := Q.out.2.1.cells h2 h3
  have G1 := hid (DG.cells (c := c) (bs := bs) h3)
  obtain ⟨v1,hv1,_⟩ := h2.blk _ b1 h1
  have c0 := (cell_at hv1).1
  obtain ⟨sv,hsv,_⟩ := r1.dr.blk
  have c4 := (draft_cells hsv).2.2.2.2.1
  have c3 := (draft_cells hsv).2.2.2.1
  have hdl := lt_of_block hsv
  have hfew : σ.root n ≤ 1099511627776 := by
    have := (List.getElem?_eq_some_iff.1 h1).1
    rw [h2.len] at this
    have := h2.few
    omega
  have hlk := r1.dr.st.look intLaw Tryz.underlying213 (zero_step w1) (kI_key hfew)
  rw [Q.out.2.2.1] at hlk
  simp only [Option.map_none,Option.getD_none,Option.isSome_none] at hlk
  have C1 := hid (HF.out _ (r1.alloc (.cells #[.string (B []),.int .i64 0,.int .i64 0] 225)))
  have R1 := hid (And.intro r1 hfew)
  clear h1 h2 h3 hv1 r1 hsv hfew HL
  unfold CP CI at C1
  unfold CP
  go_wp2_with fail
  refine C1.out.mono ?_
  rintro e w2 ⟨rfl,r2,g2⟩
  obtain ⟨sv2,hsv2,_⟩ := r2.dr.blk
  have x3 := (draft_cells hsv2).2.2.2.1
  have x4 := (draft_cells hsv2).2.2.2.2.1
  obtain ⟨w5,hst,hmp,hg5⟩ := GM.store r2.drew.dr.st intLaw Tryz.underlying213 kI_inj kI_lit (by have := Q.out.2.2.2.2; omega) (s.out.length,s1.out.length) (kI_key R1.out.2)
  rw [putL_new _ Q.out.2.2.2.1] at hmp
  have R2 := hid (And.intro r2 (And.intro g2 (And.intro hmp hg5)))
  unfold standA at hst
  change (Instr.mapUpdate _ _ _ (.agg #[.string ⟨#[]⟩,_,_])).run _ _ = _ at hst
  clear r2 g2 hmp hg5 hsv2 C1
  go_wp2_with fail
  go_region
  all_goals
    go_wp2
    first | go_end0 | skip
    obtain ⟨r2,g2,hmp,hg5⟩ := R2.out
    obtain ⟨a1,a2⟩ := r2.drew.stand hmp hg5
    exact ⟨rfl,a1,(G1.out.tr (Gb.allocL g2)).tr (Gb.drewL a2)⟩
theorem add_step {H : Nat → Option Obj} {ca : List Nat} {σ : Sto} {d : Nat → Nat} {c : Dc} {bs md f : Nat} (hF : FSTC H ca σ d c bs md f) : ADDC H ca σ d c bs md (f + 1) := by
  intro v t s s' w hv hs h
  have hv0 := hv
  obtain ⟨m,hv⟩ := hv
  cases m with
  | zero => exact absurd hv id
  | succ m =>
  obtain ⟨b,hv⟩ := hv
  rw [draftS] at hs
  have other : ∀ (T0 : TypeId),v = .iface T0 (.pointer (some ⟨b,0,none⟩)) → t.kind ≠ oCell → (∀ w,(Instr.typeAssert (.iface T0 (.pointer (some ⟨b,0,none⟩))) 77 173 true).run Tryz.prog w = .ok (.tuple #[.pointer none,.bool false]) w) →
      Calls Tryz.prog 87 #[CP c.db,v] w (ADP H ca σ d c bs s' w) := fun T0 e hk hq => by
    rw [if_neg hk] at hs
    subst e
    exact add_other hq (hF _ _ _ _ _ hv0 hs h)
  rcases hv with ⟨h1,h2,h3,h4⟩ | ⟨h1,h2,h3,h0,h4,h5⟩ | ⟨h1,h2,h3,h4⟩ | ⟨h1,h0,a,u,h2,h3,h4,h5⟩ | ⟨h1,h0,a,k,u,z,h2,h3,h4,h5,h6⟩ | ⟨h1,h0,a,k,u,z,h2,h3,h4,h5,h6⟩
  · rw [if_pos h1] at hs
    subst h4
    cases hg : getL s.stands (σ.root t.num) with
    | some p =>
      rw [hg] at hs
      exact add_again h3 h hg hs
    | none =>
      rw [hg] at hs
      simp only at hs
      cases e1 : firstS (draftS σ md f) σ md t s with
      | none => rw [e1] at hs; cases hs
      | some s1 =>
        rw [e1] at hs
        unfold standS at hs
        simp only at hs
        cases hg1 : getL s1.stands (σ.root t.num) with
        | some p => rw [hg1] at hs; cases hs
        | none =>
          rw [hg1] at hs
          simp only at hs
          split at hs
          · rename_i hl
            cases hs
            exact add_first h3 h hg hg1 hl (fun w' h' => hF _ _ _ _ _ hv0 e1 h')
          · cases hs
  · exact other _ h4 (by rw [h1]; decide) (fun w => e_Var_Cell b w)
  · exact other _ h3 (by rcases h1 with h1 | h1 <;> rw [h1] <;> decide) (fun w => e_Basic_Cell b w)
  · exact other _ h3 (by rw [h1]; decide) (fun w => e_List_Cell b w)
  · exact other _ h3 (by rw [h1]; decide) (fun w => e_Pair_Cell b w)
  · exact other _ h3 (by rw [h1]; decide) (fun w => e_Arrow_Cell b w)
theorem add_any {H : Nat → Option Obj} {ca : List Nat} {σ : Sto} {d : Nat → Nat} {c : Dc} {bs md : Nat} (hM : Md md c) : ∀ f,ADDC H ca σ d c bs md f
  | 0 => fun v t s s' w _ hs _ => by cases hs
  | f + 1 => add_step (first_any hM (add_any hM f) (from_any (add_any hM f)))
end Go.Proofs.YtcdijppegfcoaabGreatDoor
