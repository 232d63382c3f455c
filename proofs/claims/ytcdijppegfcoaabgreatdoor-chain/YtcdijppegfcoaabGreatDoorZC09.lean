import Derived.Test.YtcdijppegfcoaabGreatDoorZC02
import Derived.Test.YtcdijppegfcoaabGreatDoorZC07
import Derived.Outline
import Derived.Deep.LoopGhost
import Derived.Test.YtcdijppegfcoaabGreatDoorZC01
import Derived.Test.YtcdijppegfcoaabGreatDoorChecked
import Derived.Test.YtcdijppegfcoaabGreatDoorZC00
import Derived.WalkSpells
import Derived.Deep.DeepCutAuto
import Derived.Deep.CutBlock
import Derived.Lib.SlBytesConst
import Derived.Handy
import Derived.Deep.RegionWith
import Derived.Maps.OwnSet
import Derived.Deep.RegionLaw
import Derived.Test.YtcdijppegfcoaabGreatDoorZC08
set_option maxRecDepth 100000
set_option maxHeartbeats 2000000
namespace Go.Proofs.YtcdijppegfcoaabGreatDoor
open Go.RowKit
def BLW (w w' : World) (e : Ending) (us : List Value) : Prop :=
  ∃ ao cap,e = .returned (.slice ao us.length cap) ∧ w.grownBy w' none ∧ ∀ (j : Nat) (u : Value),us[j]? = some u → ∃ gn,ao = some ⟨gn,0,none⟩ ∧ gn < w'.heap.size ∧ w'.cell? ⟨gn,j,none⟩ = some u
theorem mBelowVar (b : Nat) (w : World) : (Go.method 502 242 (.pointer (some ⟨b,0,none⟩)) "Below").run Tryz.prog w = .ok (255,.pointer (some ⟨b,0,none⟩)) w := by kernel_rfl
theorem mBelowBasic (b : Nat) (w : World) : (Go.method 502 275 (.pointer (some ⟨b,0,none⟩)) "Below").run Tryz.prog w = .ok (256,.pointer (some ⟨b,0,none⟩)) w := by kernel_rfl
theorem mBelowList (b : Nat) (w : World) : (Go.method 502 279 (.pointer (some ⟨b,0,none⟩)) "Below").run Tryz.prog w = .ok (257,.pointer (some ⟨b,0,none⟩)) w := by kernel_rfl
theorem mBelowPair (b : Nat) (w : World) : (Go.method 502 291 (.pointer (some ⟨b,0,none⟩)) "Below").run Tryz.prog w = .ok (258,.pointer (some ⟨b,0,none⟩)) w := by kernel_rfl
theorem mBelowArrow (b : Nat) (w : World) : (Go.method 502 209 (.pointer (some ⟨b,0,none⟩)) "Below").run Tryz.prog w = .ok (242,.pointer (some ⟨b,0,none⟩)) w := by kernel_rfl
theorem below_var (b : Nat) (w : World) : Calls Tryz.prog 255 #[.pointer (some ⟨b,0,none⟩)] w fun e w' => BLW w w' e [] := by
  go_enter Tryz.func255,Tryz.ntmps255
  go_wp2
  go_ret
  exact ⟨none,0,rfl,World.grownBy.refl _ _,fun j u h => by simp at h⟩
theorem below_basic (b : Nat) (w : World) : Calls Tryz.prog 256 #[.pointer (some ⟨b,0,none⟩)] w fun e w' => BLW w w' e [] := by
  go_enter Tryz.func256,Tryz.ntmps256
  go_wp2
  go_ret
  exact ⟨none,0,rfl,World.grownBy.refl _ _,fun j u h => by simp at h⟩
theorem blw_one (w : World) (u : Value) (t : TypeId) : BLW w (w.alloc (.cells #[u] t)) (.returned (.slice (some ⟨w.heap.size,0,none⟩) 1 1)) [u] := by
  refine ⟨_,1,rfl,World.grownBy_alloc _ _ _,fun j x h => ⟨_,rfl,by simp,?_⟩⟩
  match j,h with
  | 0,h => simp at h; subst h; simp [go_sem]
  | j + 1,h => simp at h
theorem blw_two (w : World) (u z : Value) (t : TypeId) : BLW w (w.alloc (.cells #[u,z] t)).drew (.returned (.slice (some ⟨w.heap.size,0,none⟩) 2 2)) [u,z] := by
  have g := World.grownBy_alloc w (.cells #[u,z] t) none
  refine ⟨_,2,rfl,⟨g.os,g.tape,g.output,g.size,g.block⟩,fun j x h => ⟨_,rfl,by simp,?_⟩⟩
  match j,h with
  | 0,h => simp at h; subst h; simp [go_sem]
  | 1,h => simp at h; subst h; simp [go_sem]
  | j + 2,h => simp at h
theorem below_list (b : Nat) (w : World) (t1 : TypeId) (b1 : Nat) (h : w.heap[b]? = some (.cells #[(.iface t1 (.pointer (some ⟨b1,0,none⟩)))] 281 (0,0))) :
    Calls Tryz.prog 257 #[.pointer (some ⟨b,0,none⟩)] w fun e w' => BLW w w' e [(.iface t1 (.pointer (some ⟨b1,0,none⟩)))] := by
  have c0 : w.cell? ⟨b,0,none⟩ = some (.iface t1 (.pointer (some ⟨b1,0,none⟩))) := by simp [World.cell?,h]
  clear h
  go_enter Tryz.func257,Tryz.ntmps257
  go_wp2
  go_ret
  exact blw_one w _ _
theorem below_pair (b : Nat) (w : World) (t1 t2 : TypeId) (b1 b2 : Nat) (h : w.heap[b]? = some (.cells #[(.iface t1 (.pointer (some ⟨b1,0,none⟩))),(.iface t2 (.pointer (some ⟨b2,0,none⟩)))] 319 (0,0))) :
    Calls Tryz.prog 258 #[.pointer (some ⟨b,0,none⟩)] w fun e w' => BLW w w' e [(.iface t1 (.pointer (some ⟨b1,0,none⟩))),(.iface t2 (.pointer (some ⟨b2,0,none⟩)))] := by
  have c0 : w.cell? ⟨b,0,none⟩ = some (.iface t1 (.pointer (some ⟨b1,0,none⟩))) := by simp [World.cell?,h]
  have c1 : w.cell? ⟨b,1,none⟩ = some (.iface t2 (.pointer (some ⟨b2,0,none⟩))) := by simp [World.cell?,h]
  clear h
  go_enter Tryz.func258,Tryz.ntmps258
  go_wp2_with fail
  (try go_region)
  go_wp2
  go_ret
  exact blw_two w _ _ _
theorem below_arrow (b : Nat) (w : World) (t1 t2 : TypeId) (b1 b2 : Nat) (h : w.heap[b]? = some (.cells #[(.iface t1 (.pointer (some ⟨b1,0,none⟩))),(.iface t2 (.pointer (some ⟨b2,0,none⟩)))] 211 (0,0))) :
    Calls Tryz.prog 242 #[.pointer (some ⟨b,0,none⟩)] w fun e w' => BLW w w' e [(.iface t1 (.pointer (some ⟨b1,0,none⟩))),(.iface t2 (.pointer (some ⟨b2,0,none⟩)))] := by
  have c0 : w.cell? ⟨b,0,none⟩ = some (.iface t1 (.pointer (some ⟨b1,0,none⟩))) := by simp [World.cell?,h]
  have c1 : w.cell? ⟨b,1,none⟩ = some (.iface t2 (.pointer (some ⟨b2,0,none⟩))) := by simp [World.cell?,h]
  clear h
  go_enter Tryz.func242,Tryz.ntmps242
  go_wp2_with fail
  (try go_region)
  go_wp2
  go_ret
  exact blw_two w _ _ _
theorem below_any {ns : List (List UInt8)} {m : Nat} {H : Nat → Option Obj} {v : Value} {x : Ty} (h : QRep ns (m + 1) H v x) :
    ∃ t b us F,v = .iface t (.pointer (some ⟨b,0,none⟩)) ∧ us.length = x.kids.length ∧ us.length ≤ 2 ∧ (∀ (i : Nat) (u : Value) (y : Ty),us[i]? = some u → x.kids[i]? = some y → QRep ns m H u y) ∧ (∀ w,(Go.method 502 t (.pointer (some ⟨b,0,none⟩)) "Below").run Tryz.prog w = .ok (F,.pointer (some ⟨b,0,none⟩)) w) ∧
      (∀ w,Fz H w → Calls Tryz.prog F #[.pointer (some ⟨b,0,none⟩)] w fun e w' => BLW w w' e us) ∧ (F = 255 ∨ F = 256 ∨ F = 257 ∨ F = 258 ∨ F = 242) := by
  obtain ⟨b,h⟩ := h
  rcases h with ⟨h1,h2,h3,h4,h5⟩ | ⟨h1,h2,h3,h4⟩ | ⟨h1,a,u,h2,h3,h4,h5⟩ | ⟨h1,a,c,u,z,h2,h3,h4,h5,h6⟩ | ⟨h1,a,c,u,z,h2,h3,h4,h5,h6⟩
  · exact ⟨_,b,[],_,h4,by rw [h2]; rfl,by simp,fun i u y e => by simp at e,fun w => mBelowVar b w,fun w _ => below_var b w,Or.inl rfl⟩
  · exact ⟨_,b,[],_,h3,by rw [h2]; rfl,by simp,fun i u y e => by simp at e,fun w => mBelowBasic b w,fun w _ => below_basic b w,Or.inr (Or.inl rfl)⟩
  · refine ⟨_,b,[u],_,h3,by rw [h2]; rfl,by simp,fun i u' y e1 e2 => ?_,fun w => mBelowList b w,fun w hz => ?_,Or.inr (Or.inr (Or.inl rfl))⟩
    · rw [h2] at e2
      match i,e1,e2 with
      | 0,e1,e2 => simp at e1 e2; subst e1 e2; exact h5
      | i + 1,e1,e2 => simp at e1
    · obtain ⟨t1,b1,_,rfl,_⟩ := h5.val hz
      exact below_list b w t1 b1 (hz _ _ h4)
  · refine ⟨_,b,[u,z],_,h3,by rw [h2]; rfl,by simp,fun i u' y e1 e2 => ?_,fun w => mBelowPair b w,fun w hz => ?_,Or.inr (Or.inr (Or.inr (Or.inl rfl)))⟩
    · rw [h2] at e2
      match i,e1,e2 with
      | 0,e1,e2 => simp at e1 e2; subst e1 e2; exact h5
      | 1,e1,e2 => simp at e1 e2; subst e1 e2; exact h6
      | i + 2,e1,e2 => simp at e1
    · obtain ⟨t1,b1,_,rfl,_⟩ := h5.val hz
      obtain ⟨t2,b2,_,rfl,_⟩ := h6.val hz
      exact below_pair b w t1 t2 b1 b2 (hz _ _ h4)
  · refine ⟨_,b,[u,z],_,h3,by rw [h2]; rfl,by simp,fun i u' y e1 e2 => ?_,fun w => mBelowArrow b w,fun w hz => ?_,Or.inr (Or.inr (Or.inr (Or.inr (rfl))))⟩
    · rw [h2] at e2
      match i,e1,e2 with
      | 0,e1,e2 => simp at e1 e2; subst e1 e2; exact h5
      | 1,e1,e2 => simp at e1 e2; subst e1 e2; exact h6
      | i + 2,e1,e2 => simp at e1
    · obtain ⟨t1,b1,_,rfl,_⟩ := h5.val hz
      obtain ⟨t2,b2,_,rfl,_⟩ := h6.val hz
      exact below_arrow b w t1 t2 b1 b2 (hz _ _ h4)
theorem room_any (ns : List (List UInt8)) : ∀ (m : Nat) (H : Nat → Option Obj) (v : Value) (x : Ty) (w : World) (L : Nat),QRep ns m H v x → Fz H w → tySize m x ≤ 100000 → L ≤ 100000 →
    Calls Tryz.prog 86 #[v,.int .i64 (L : Int)] w fun e w' => e = .returned (.int .i64 (max ((L : Int) - (tySize m x : Int)) (-1))) ∧ w.grownBy w' none := by
  intro m
  induction m with
  | zero => intro H v x w L h; exact absurd h id
  | succ m ih =>
    intro H v x w L h hz hs hL
    obtain ⟨t,b,us,F,rfl,hl,hl2,hk,hm,hb,hF⟩ := below_any h
    have hsz : tySize (m + 1) x = 1 + (x.kids.map (tySize m)).sum := rfl
    rw [hsz] at hs ⊢
    have hm1 := hm w
    have HB := hid (hb w hz)
    have HK := hid hk
    have IH := hid ih
    have HL := hid hl
    have HZ := hid hz
    have HS := hid hs
    have hLi : (L : Int) ≤ 100000 := by omega
    obtain ⟨S,hS⟩ : ∃ S,S = (x.kids.map (tySize m)).sum := ⟨_,rfl⟩
    rw [← hS]
    have HSS := hid hS
    clear h hz hs hm hb hk ih hl hsz hS
    rcases hF with rfl | rfl | rfl | rfl | rfl
    all_goals
      go_enter Tryz.func86,Tryz.ntmps86
      go_wp2_with fail
      refine HB.out.mono ?_
      rintro e w1 ⟨ao,cap,rfl,g1,hrow⟩
      have HROW := hid hrow
      have G1 := hid g1
      clear hrow g1 HB hm1
      go_wp2_with fail
      go_loopg [1,12] (us.length + 1) (fun gh v i wi => ∃ j k : Nat,j ≤ us.length ∧ i = .int .i64 j ∧ gh = us.length - j + 1 ∧ k ≤ 100000 ∧ Hid (k = 1 + ((x.kids.take j).map (tySize m)).sum) ∧ v = .int .i64 (max ((L : Int) - (k : Int)) (-1)) ∧ Hid (w1.grownBy wi none))
      case atStart => exact ⟨0,1,by omega,rfl,by omega,by omega,hid rfl,by congr 1; omega,World.grownBy.refl _ _⟩
      case round =>
        obtain ⟨j,k,hj,rfl,hgj,hk,HKJ,rfl,HG⟩ := hrel
        by_cases hjl : j < us.length
        · obtain ⟨u,hu⟩ : ∃ u,us[j]? = some u := ⟨us[j],List.getElem?_eq_getElem hjl⟩
          obtain ⟨y,hy⟩ : ∃ y,x.kids[j]? = some y := ⟨x.kids[j]'(by rw [← HL.out]; exact hjl),List.getElem?_eq_getElem _⟩
          obtain ⟨gn,rfl,hgl,hcell0⟩ := HROW.out j u hu
          have hcell : wr.cell? ⟨gn,j,none⟩ = some u := by rw [World.cell?_of_block (a := ⟨gn,j,none⟩) (HG.out.block gn hgl (by simp))]; exact hcell0
          have hry := HK.out j u y hu hy
          have hzr : Fz H wr := (HZ.out.grown G1.out).grown HG.out
          obtain ⟨t1,b1,_,rfl,_⟩ := hry.val hzr
          have hstep : 1 + ((x.kids.take (j + 1)).map (tySize m)).sum = k + tySize m y := by
            rw [List.take_add_one,hy,List.map_append,List.sum_append,HKJ.out]
            simp
            omega
          have hle : k + tySize m y ≤ 1 + S := by
            have h1 := sum_take_le (x.kids.map (tySize m)) (j + 1)
            rw [← List.map_take] at h1
            rw [HSS.out]
            omega
          have hS1 : 1 + S ≤ 100000 := by rw [HSS.out]; exact HS.out
          by_cases hneg : (L : Int) - (k : Int) < 0
          · have h1 : max ((L : Int) - (k : Int)) (-1) < 0 := by omega
            have e9 : max ((L : Int) - (k : Int)) (-1) = -1 := by omega
            rw [e9]
            have e8 : max ((L : Int) - ((1 + S : Nat) : Int)) (-1) = -1 := by omega
            clear hu hy hry hzr hcell0 hstep h1 e9
            go_wp2
            go_ret
            exact ⟨by rw [e8]; rfl,G1.out.trans HG.out⟩
          · have e9 : max ((L : Int) - (k : Int)) (-1) = ((L - k : Nat) : Int) := by omega
            rw [e9]
            have CON := hid (IH.out H _ y wr (L - k) hry hzr (by omega) (by omega))
            obtain ⟨dy,hdy2⟩ : ∃ dy : Nat,dy = tySize m y := ⟨_,rfl⟩
            rw [← hdy2] at hstep CON hle
            have HST := hid hstep
            have h1 : ¬ (((L - k : Nat) : Int) < 0) := by omega
            have e7 : max (((L - k : Nat) : Int) - (dy : Int)) (-1) = max ((L : Int) - ((k + dy : Nat) : Int)) (-1) := by omega
            rw [e7] at CON
            clear hu hy hry hzr hcell0 hstep hdy2 e9 e7 hneg
            go_wp2_with fail
            refine CON.out.mono ?_
            rintro e w' ⟨rfl,g'⟩
            have G' := hid g'
            clear g'
            go_wp2_with fail
            go_roundg (us.length - (j + 1) + 1)
            case measure => omega
            case rel => exact ⟨j + 1,k + dy,by omega,by go_num,rfl,by omega,hid HST.out.symm,rfl,hid (HG.out.trans G'.out)⟩
        · have hje : j = us.length := by omega
          subst hje
          have e : k = 1 + S := by
            have := HKJ.out
            rw [HL.out,List.take_length] at this
            rw [HSS.out]
            exact this
          subst e
          go_wp2
          go_ret
          exact ⟨rfl,G1.out.trans HG.out⟩
theorem big_any (ns : List (List UInt8)) (m : Nat) (H : Nat → Option Obj) (v : Value) (x : Ty) (w : World) (h : QRep ns m H v x) (hz : Fz H w) (hs : tySize m x ≤ 100000) :
    Calls Tryz.prog 53 #[v] w fun e w' => e = .returned (.bool (decide (120 < tySize m x))) ∧ w.grownBy w' none := by
  have CON := hid (room_any ns m H v x w 120 h hz hs (by omega))
  obtain ⟨t,b,_,rfl,_⟩ := h.val hz
  clear h hz
  by_cases hd : 120 < tySize m x
  · have e9 : max (((120 : Nat) : Int) - (tySize m x : Int)) (-1) = -1 := by omega
    rw [e9] at CON
    rw [decide_eq_true hd]
    clear hd e9
    go_enter Tryz.func53,Tryz.ntmps53
    go_wp2_with fail
    refine CON.out.mono ?_
    rintro e w1 ⟨rfl,g1⟩
    have G1 := hid g1
    clear g1
    go_wp2
    go_ret
    exact ⟨rfl,G1.out⟩
  · have e9 : max (((120 : Nat) : Int) - (tySize m x : Int)) (-1) = ((120 - tySize m x : Nat) : Int) := by omega
    rw [e9] at CON
    rw [decide_eq_false hd]
    have h1 : ¬ (((120 - tySize m x : Nat) : Int) < 0) := by omega
    clear hd e9
    generalize 120 - tySize m x = q at *
    go_enter Tryz.func53,Tryz.ntmps53
    go_wp2_with fail
    refine CON.out.mono ?_
    rintro e w1 ⟨rfl,g1⟩
    have G1 := hid g1
    clear g1
    go_wp2
    go_ret
    exact ⟨rfl,G1.out⟩
structure NM (w : World) (nb : Nat) (H : Nat → Option Obj) (v : Value) (ns : List (List UInt8)) : Prop where
  blk : w.heap[nb]? = some (.cells #[v] 26 (0,0))
  row : w.ownsRow nb 9 1 v ns.length (strs ns)
  hx : H nb = none
  hn : ∀ k,some k = v.ownBlock → H k = none
def TyPost (T : List Tok) (w w' : World) (e : Ending) (rb g cap nb : Nat) (H : Nat → Option Obj) (t : Ty) (ns' : List (List UInt8)) (s' : St) : Prop :=
  ∃ b H' v' m,e = .returned (.pointer (some ⟨b,0,none⟩)) ∧ RS w' rb g cap T s' ∧ s'.k < T.length ∧ KeptTo nb rb w w' ∧ Fz H' w' ∧ Ext w.heap.size H H' ∧ NM w' nb H' v' ns' ∧ TRep m H' b t
structure BK (T : List Tok) (w w' : World) (rb g cap nb : Nat) (H H' : Nat → Option Obj) (v : Value) (ns : List (List UInt8)) (s : St) : Prop where
  r : RS w' rb g cap T s
  k : KeptTo nb rb w w'
  z : Fz H' w'
  x : Ext w.heap.size H H'
  n : NM w' nb H' v ns
  hr : rb < nb
  hn : H' rb = none
theorem BK.end {T : List Tok} {w w1 : World} {rb g cap nb : Nat} {H H' : Nat → Option Obj} {v : Value} {ns : List (List UInt8)} {s : St} (h : BK T w w1 rb g cap nb H H' v ns s) (hk : s.k < T.length) {b m : Nat} {x : Ty} (hx : TRep m H' b x) :
    TyPost T w w1 (.returned (.pointer (some ⟨b,0,none⟩))) rb g cap nb H x ns s := ⟨b,H',v,m,rfl,h.r,hk,h.k,h.z,h.x,h.n,hx⟩
def Sh (T : List Tok) : Prop := ∀ k,((tk T k).is = kName ∨ (tk T k).is = kNum) → (tk T k).s.length ≤ 8
def Res (T : List Tok) (s : St) (x : Ex) (s' : St) : Prop := s.k ≤ s'.k ∧ s'.k < T.length ∧ (s'.bad < 0 → s.bad < 0 ∧ s.k < s'.k ∧ ∃ m,Nice m x (s'.k - s.k))
def Fu (T : List Tok) (n : Nat) (s : St) : Prop := s.k < T.length ∧ (T.length - s.k + 1 ≤ n ∨ (0 ≤ s.bad ∧ 1 ≤ n))
def TOT (T : List Tok) (n : Nat) (E : St → Option (Ex × St)) : Prop := ∀ s,Fu T n s → ∃ x s',E s = some (x,s') ∧ Res T s x s'
theorem isS_yes {T : List Tok} {s : St} {x : List UInt8} (h : isS T s x = true) : s.bad < 0 ∧ (tk T s.k).is = x := by
  simp only [isS,Bool.and_eq_true,beq_iff_eq,decide_eq_true_eq] at h
  exact h
theorem need_cases {T : List Tok} (hT : Wf T) {s : St} (hk : s.k < T.length) (x : List UInt8) (h1 : x ≠ kNone) (h2 : x ≠ kEnd) :
    ((needS T s x).k = s.k + 1 ∧ s.k + 1 < T.length ∧ (needS T s x).bad = s.bad ∧ s.bad < 0 ∧ (tk T s.k).is = x) ∨ ((needS T s x).k = s.k ∧ 0 ≤ (needS T s x).bad) := by
  by_cases hi : isS T s x = true
  · left
    have e : needS T s x = ⟨s.k + 1,s.bad⟩ := by rw [needS,if_pos hi]
    rw [e]
    exact ⟨rfl,hT.up hk hi h1 h2,rfl,(isS_yes hi).1,(isS_yes hi).2⟩
  · right
    have e : needS T s x = ⟨s.k,if s.bad < 0 then ((tk T s.k).pos : Int) else s.bad⟩ := by rw [needS,if_neg hi]
    rw [e]
    refine ⟨rfl,?_⟩
    show 0 ≤ (if s.bad < 0 then ((tk T s.k).pos : Int) else s.bad)
    split <;> omega
theorem atom_tot {T : List Tok} (hT : Wf T) (hS : Sh T) {n : Nat} {E : St → Option (Ex × St)} (hE : TOT T n E) (s : St) (hs : s.k < T.length) (hn : T.length - s.k ≤ n) :
    ∃ x s',atomS E T s = some (x,s') ∧ Res T s x s' ∧ ((isS T s kName = true ∨ isS T s kNum = true ∨ isS T s kOpen = true) → s.k < s'.k) := by
  unfold atomS
  by_cases hi : isS T s kName = true ∨ isS T s kNum = true
  · rw [if_pos hi]
    have hup : s.k + 1 < T.length := by
      rcases hi with hi | hi
      · exact hT.up hs hi (by decide) (by decide)
      · exact hT.up hs hi (by decide) (by decide)
    have hw : s.bad < 0 ∧ ((tk T s.k).is = kName ∨ (tk T s.k).is = kNum) := by
      rcases hi with hi | hi
      · exact ⟨(isS_yes hi).1,Or.inl (isS_yes hi).2⟩
      · exact ⟨(isS_yes hi).1,Or.inr (isS_yes hi).2⟩
    refine ⟨_,_,rfl,⟨Nat.le_succ _,hup,fun _ => ⟨hw.1,Nat.lt_succ_self _,1,?_⟩⟩,fun _ => Nat.lt_succ_self _⟩
    have := nice_leaf (tk T s.k).is (tk T s.k).s (tk T s.k).pos hw.2 (hS s.k hw.2)
    rw [show s.up.k - s.k = 1 from by show s.k + 1 - s.k = 1; omega]
    exact this
  · rw [if_neg hi]
    obtain ⟨s0,hs0⟩ : ∃ s0,s0 = needS T s kOpen := ⟨_,rfl⟩
    have hn0 := need_cases hT hs kOpen (by decide) (by decide)
    rw [← hs0] at hn0 ⊢
    have hopen : isS T s kOpen = true → s0.k = s.k + 1 := fun ho => by rw [hs0,needS,if_pos ho]
    have f0 : Fu T n s0 := by
      rcases hn0 with ⟨a,b,_⟩ | ⟨a,b⟩
      · exact ⟨by omega,Or.inl (by omega)⟩
      · exact ⟨by omega,Or.inr ⟨b,by omega⟩⟩
    obtain ⟨x,s1,e1,r1⟩ := hE s0 f0
    have hlt : (isS T s kName = true ∨ isS T s kNum = true ∨ isS T s kOpen = true) → s.k < s1.k := fun ho => by
      have : isS T s kOpen = true := by
        rcases ho with ho | ho | ho
        · exact absurd (Or.inl ho) hi
        · exact absurd (Or.inr ho) hi
        · exact ho
      have := hopen this
      have := r1.1
      omega
    have hk0 : s.k ≤ s0.k := by rcases hn0 with ⟨a,_⟩ | ⟨a,_⟩ <;> omega
    have hb0 : s0.bad < 0 → s.bad < 0 ∧ s0.k = s.k + 1 := fun hb => by
      rcases hn0 with ⟨a,_,_,d,_⟩ | ⟨a,b⟩
      · exact ⟨d,a⟩
      · omega
    rw [e1]
    show ∃ x' s',(if isS T s1 kComma = true then _ else _) = some (x',s') ∧ _
    by_cases hc : isS T s1 kComma = true
    · rw [if_pos hc]
      have hup := hT.up r1.2.1 hc (by decide) (by decide)
      have hb1 := (isS_yes hc).1
      obtain ⟨hb1',hk1,m1,hm1⟩ := r1.2.2 hb1
      obtain ⟨y,s2,e2,r2⟩ := hE s1.up ⟨hup,Or.inl (by show T.length - (s1.k + 1) + 1 ≤ n; have := r1.1; omega)⟩
      rw [e2]
      have hk2 : s1.k + 1 ≤ s2.k := r2.1
      have hn3 := need_cases hT r2.2.1 kShut (by decide) (by decide)
      obtain ⟨s3,hs3⟩ : ∃ s3,s3 = needS T s2 kShut := ⟨_,rfl⟩
      rw [← hs3] at hn3
      refine ⟨_,s3,by rw [hs3],⟨?_,?_,fun hb3 => ?_⟩,fun ho => ?_⟩
      · have := r1.1
        rcases hn3 with ⟨a,_⟩ | ⟨a,_⟩ <;> omega
      · have := r2.2.1
        rcases hn3 with ⟨a,_⟩ | ⟨a,_⟩ <;> omega
      · rcases hn3 with ⟨a,_,_,d,_⟩ | ⟨a,b⟩
        · obtain ⟨_,_,m2,hm2⟩ := r2.2.2 d
          obtain ⟨q1,q2⟩ := hb0 hb1'
          refine ⟨q1,by omega,max m1 m2 + 1,?_⟩
          refine (nice_pair _ (hm1.le (Nat.le_max_left m1 m2)) (hm2.le (Nat.le_max_right m1 m2))).more ?_
          have : s1.up.k = s1.k + 1 := rfl
          have := r1.1
          omega
        · omega
      · have := hlt ho
        rcases hn3 with ⟨a,_⟩ | ⟨a,_⟩ <;> omega
    · rw [if_neg hc]
      have hn3 := need_cases hT r1.2.1 kShut (by decide) (by decide)
      obtain ⟨s3,hs3⟩ : ∃ s3,s3 = needS T s1 kShut := ⟨_,rfl⟩
      rw [← hs3] at hn3
      refine ⟨x,s3,by rw [hs3],⟨?_,?_,fun hb3 => ?_⟩,fun ho => ?_⟩
      · have := r1.1
        rcases hn3 with ⟨a,_⟩ | ⟨a,_⟩ <;> omega
      · have := r1.2.1
        rcases hn3 with ⟨a,_⟩ | ⟨a,_⟩ <;> omega
      · rcases hn3 with ⟨a,_,_,d,_⟩ | ⟨a,b⟩
        · obtain ⟨hb1',hk1,m1,hm1⟩ := r1.2.2 d
          obtain ⟨q1,q2⟩ := hb0 hb1'
          exact ⟨q1,by omega,m1,hm1.more (by omega)⟩
        · omega
      · have := hlt ho
        rcases hn3 with ⟨a,_⟩ | ⟨a,_⟩ <;> omega
theorem app_tot {T : List Tok} (hT : Wf T) (hS : Sh T) {n : Nat} {E : St → Option (Ex × St)} (hE : TOT T n E) (s0 : St) : ∀ (f : Nat) (x : Ex) (s : St),T.length - s.k + 1 ≤ f → T.length - s.k ≤ n → Res T s0 x s →
    ∃ y s',appS (atomS E T) T f x s = some (y,s') ∧ Res T s0 y s'
  | 0,_,_,h,_,_ => by omega
  | f + 1,x,s,hf,hn,hr => by
    rw [appS]
    by_cases hi : isS T s kName = true ∨ isS T s kNum = true ∨ isS T s kOpen = true
    · rw [if_pos hi]
      obtain ⟨y,s1,e1,r1,l1⟩ := atom_tot hT hS hE s hr.2.1 hn
      rw [e1]
      have hl := l1 hi
      refine app_tot hT hS hE s0 f _ s1 (by have := hr.2.1; omega) (by omega) ⟨by have := hr.1; omega,r1.2.1,fun hb => ?_⟩
      obtain ⟨q1,q2,m2,h2⟩ := r1.2.2 hb
      obtain ⟨p1,p2,m1,h1⟩ := hr.2.2 q1
      refine ⟨p1,by omega,max m1 m2 + 1,?_⟩
      exact (nice_app _ (h1.le (Nat.le_max_left m1 m2)) (h2.le (Nat.le_max_right m1 m2))).more (by omega)
    · rw [if_neg hi]
      exact ⟨x,s,rfl,hr⟩
def Pres (T : List Tok) (k0 : Nat) (x : Ex) (s' : St) : Prop := k0 ≤ s'.k ∧ s'.k < T.length ∧ (s'.bad < 0 → 0 < x.names.length ∧ ∃ m,Part m x (s'.k - k0))
theorem bound_tot {T : List Tok} (hT : Wf T) (hS : Sh T) {n : Nat} {E : St → Option (Ex × St)} (hE : TOT T n E) (k0 : Nat) (x : Ex) (s : St) (hs : s.k < T.length) (hk : k0 ≤ s.k) (hn : T.length - s.k + 1 ≤ n) (hx : s.bad < 0 → ∃ m,Part m x (s.k - k0)) :
    ∃ y s',boundS E T x s = some (y,s') ∧ y.op = x.op ∧ s.k ≤ s'.k ∧ Pres T k0 y s' := by
  unfold boundS
  have h1 := need_cases hT hs kName (by decide) (by decide)
  obtain ⟨s1,hs1⟩ : ∃ s1,s1 = needS T s kName := ⟨_,rfl⟩
  rw [← hs1] at h1 ⊢
  obtain ⟨s2,hs2⟩ : ∃ s2,s2 = twiceS x.names (tk T s.k).s (tk T s.k).pos s1 := ⟨_,rfl⟩
  have k2 : s2.k = s1.k := by rw [hs2,twiceS]; split <;> rfl
  have b2 : s2.bad < 0 → s1.bad < 0 := fun hb => by
    rw [hs2,twiceS] at hb
    split at hb
    · rename_i h; exact h.2
    · exact hb
  rw [← hs2]
  have l1 : s1.k < T.length := by rcases h1 with ⟨a,_⟩ | ⟨a,_⟩ <;> omega
  have l2 : s2.k < T.length := by omega
  have h3 := need_cases hT l2 kEq (by decide) (by decide)
  obtain ⟨s3,hs3⟩ : ∃ s3,s3 = needS T s2 kEq := ⟨_,rfl⟩
  rw [← hs3] at h3 ⊢
  have k3 : s.k ≤ s3.k := by
    rcases h1 with ⟨a,_⟩ | ⟨a,_⟩ <;> rcases h3 with ⟨b,_⟩ | ⟨b,_⟩ <;> omega
  have l3 : s3.k < T.length := by
    rcases h3 with ⟨b,_⟩ | ⟨b,_⟩ <;> omega
  obtain ⟨b,s4,e4,r4⟩ := hE s3 ⟨l3,Or.inl (by omega)⟩
  rw [e4]
  refine ⟨_,s4,rfl,rfl,by have := r4.1; omega,⟨by have := r4.1; omega,r4.2.1,fun hb => ?_⟩⟩
  obtain ⟨q1,q2,m2,hm2⟩ := r4.2.2 hb
  have h3' : s3.k = s2.k + 1 ∧ s2.bad < 0 := by
    rcases h3 with ⟨a,_,_,d,_⟩ | ⟨a,b⟩
    · exact ⟨a,d⟩
    · omega
  have h1' : s1.k = s.k + 1 ∧ s.bad < 0 ∧ (tk T s.k).is = kName := by
    have := b2 h3'.2
    rcases h1 with ⟨a,_,_,d,e⟩ | ⟨a,b⟩
    · exact ⟨a,d,e⟩
    · omega
  obtain ⟨m1,hm1⟩ := hx h1'.2.1
  refine ⟨by show 0 < (x.names ++ [_]).length; simp,max m1 m2,?_⟩
  have := (hm1.le (Nat.le_max_left m1 m2)).add (tk T s.k).s (hS s.k (Or.inl h1'.2.2)) (hm2.le (Nat.le_max_right m1 m2))
  rw [show s4.k - k0 = s.k - k0 + (s4.k - s3.k) + 2 from by omega]
  exact this
theorem Part.more {m : Nat} {x : Ex} {c c' : Nat} (h : Part m x c) (hc : c ≤ c') : Part m x c' :=
  ⟨h.op,h.len,by have := h.nlen; omega,fun y hy => by obtain ⟨a,b,d⟩ := h.kids y hy; exact ⟨a,by omega,d⟩,by have := h.text; omega⟩
theorem binds_tot {T : List Tok} (hT : Wf T) (hS : Sh T) {n : Nat} {E : St → Option (Ex × St)} (hE : TOT T n E) (k0 : Nat) : ∀ (f : Nat) (x : Ex) (s : St),T.length - s.k + 1 ≤ f → T.length - s.k ≤ n → Pres T k0 x s →
    ∃ y s',bindsS E T f x s = some (y,s') ∧ s.k ≤ s'.k ∧ Pres T k0 y s'
  | 0,_,_,h,_,_ => by omega
  | f + 1,x,s,hf,hn,hr => by
    rw [bindsS]
    by_cases hi : x.op = kRec ∧ isS T s kAnd = true
    · rw [if_pos hi]
      have hup := hT.up hr.2.1 hi.2 (by decide) (by decide)
      have hb := (isS_yes hi.2).1
      have ku : s.up.k = s.k + 1 := rfl
      obtain ⟨y,s1,e1,_,k1,r1⟩ := bound_tot hT hS hE k0 x s.up hup (by have := hr.1; omega) (by omega) (fun _ => by
        obtain ⟨_,m,hm⟩ := hr.2.2 hb
        exact ⟨m,hm.more (by omega)⟩)
      rw [e1]
      obtain ⟨z,s2,e2,k2,r2⟩ := binds_tot hT hS hE k0 f y s1 (by have := hr.2.1; omega) (by omega) r1
      exact ⟨z,s2,e2,by omega,r2⟩
    · rw [if_neg hi]
      exact ⟨x,s,rfl,Nat.le_refl _,hr⟩
theorem exp_tot {T : List Tok} (hT : Wf T) (hS : Sh T) (hl : T.length ≤ 900) : ∀ n,TOT T n (expS T n)
  | 0 => fun s h => by rcases h.2 with h | h <;> omega
  | n + 1 => fun s hf => by
    have hE := exp_tot hT hS hl n
    rw [expS]
    by_cases hb : 0 ≤ s.bad
    · rw [if_pos hb]
      exact ⟨_,s,rfl,Nat.le_refl _,hf.1,fun h => by omega⟩
    rw [if_neg hb]
    have hb' : s.bad < 0 := by omega
    have hk := hf.1
    have hn : T.length - s.k ≤ n := by rcases hf.2 with h | h <;> omega
    have ku : s.up.k = s.k + 1 := rfl
    have bu : s.up.bad = s.bad := rfl
    by_cases h1 : isS T s kFun = true
    · rw [if_pos h1]
      have hup := hT.up hk h1 (by decide) (by decide)
      have c1 := need_cases hT (s := s.up) hup kName (by decide) (by decide)
      obtain ⟨s1,hs1⟩ : ∃ s1,s1 = needS T s.up kName := ⟨_,rfl⟩
      rw [← hs1] at c1 ⊢
      have l1 : s1.k < T.length := by rcases c1 with ⟨a,_⟩ | ⟨a,_⟩ <;> omega
      have c2 := need_cases hT l1 kArrow (by decide) (by decide)
      obtain ⟨s2,hs2⟩ : ∃ s2,s2 = needS T s1 kArrow := ⟨_,rfl⟩
      rw [← hs2] at c2 ⊢
      have l2 : s2.k < T.length ∧ s.k + 1 ≤ s2.k := by
        rcases c1 with ⟨a,_⟩ | ⟨a,_⟩ <;> rcases c2 with ⟨b,_⟩ | ⟨b,_⟩ <;> omega
      obtain ⟨b,s4,e4,r4⟩ := hE s2 ⟨l2.1,Or.inl (by omega)⟩
      rw [e4]
      refine ⟨_,s4,rfl,by have := r4.1; omega,r4.2.1,fun hb4 => ?_⟩
      obtain ⟨q1,q2,m,hm⟩ := r4.2.2 hb4
      have d2 : s2.k = s1.k + 1 ∧ s1.bad < 0 := by
        rcases c2 with ⟨a,_,_,d,_⟩ | ⟨a,b⟩
        · exact ⟨a,d⟩
        · omega
      have d1 : s1.k = s.up.k + 1 ∧ (tk T s.up.k).is = kName := by
        rcases c1 with ⟨a,_,_,d,e⟩ | ⟨a,b⟩
        · exact ⟨a,e⟩
        · omega
      exact ⟨hb',by omega,m + 1,(nice_fun _ _ (hS _ (Or.inl d1.2)) hm).more (by omega)⟩
    rw [if_neg h1]
    by_cases h2 : isS T s kIf = true
    · rw [if_pos h2]
      have hup := hT.up hk h2 (by decide) (by decide)
      obtain ⟨c,s1,e1,r1⟩ := hE s.up ⟨hup,Or.inl (by omega)⟩
      rw [e1]
      have c2 := need_cases hT r1.2.1 kThen (by decide) (by decide)
      obtain ⟨s2,hs2⟩ : ∃ s2,s2 = needS T s1 kThen := ⟨_,rfl⟩
      show ∃ x s',(match expS T n (needS T s1 kThen) with | none => none | some (a,s2) => _) = some (x,s') ∧ _
      rw [← hs2] at c2 ⊢
      have l2 : s2.k < T.length ∧ s1.k ≤ s2.k := by
        have := r1.2.1
        rcases c2 with ⟨b,_⟩ | ⟨b,_⟩ <;> omega
      have g1 := r1.1
      obtain ⟨a,s3,e3,r3⟩ := hE s2 ⟨l2.1,Or.inl (by omega)⟩
      rw [e3]
      have c4 := need_cases hT r3.2.1 kElse (by decide) (by decide)
      obtain ⟨s4,hs4⟩ : ∃ s4,s4 = needS T s3 kElse := ⟨_,rfl⟩
      show ∃ x s',(match expS T n (needS T s3 kElse) with | none => none | some (b,s3) => _) = some (x,s') ∧ _
      rw [← hs4] at c4 ⊢
      have l4 : s4.k < T.length ∧ s3.k ≤ s4.k := by
        have := r3.2.1
        rcases c4 with ⟨b,_⟩ | ⟨b,_⟩ <;> omega
      have g3 := r3.1
      obtain ⟨b,s5,e5,r5⟩ := hE s4 ⟨l4.1,Or.inl (by omega)⟩
      rw [e5]
      have g5 := r5.1
      refine ⟨_,s5,rfl,by omega,r5.2.1,fun hb5 => ?_⟩
      obtain ⟨q5,p5,m5,n5⟩ := r5.2.2 hb5
      have d4 : s4.k = s3.k + 1 ∧ s3.bad < 0 := by
        rcases c4 with ⟨a,_,_,d,_⟩ | ⟨a,b⟩
        · exact ⟨a,d⟩
        · omega
      obtain ⟨q3,p3,m3,n3⟩ := r3.2.2 d4.2
      have d2 : s2.k = s1.k + 1 ∧ s1.bad < 0 := by
        rcases c2 with ⟨a,_,_,d,_⟩ | ⟨a,b⟩
        · exact ⟨a,d⟩
        · omega
      obtain ⟨q1,p1,m1,n1⟩ := r1.2.2 d2.2
      refine ⟨hb',by omega,max m1 (max m3 m5) + 1,(nice_if _ (n1.le ?_) (n3.le ?_) (n5.le ?_)).more (by omega)⟩ <;> omega
    rw [if_neg h2]
    by_cases h3 : isS T s kLet = true
    · rw [if_pos h3]
      have hup := hT.up hk h3 (by decide) (by decide)
      obtain ⟨s0,hs0⟩ : ∃ s0,s0 = takeS T s.up kRec := ⟨_,rfl⟩
      have g0 : s.k + 1 ≤ s0.k ∧ s0.k < T.length := by
        rw [hs0,takeS]
        split
        · rename_i hr
          have := hT.up (s := s.up) hup hr (by decide) (by decide)
          exact ⟨by show s.k + 1 ≤ s.up.k + 1; omega,this⟩
        · exact ⟨by omega,hup⟩
      obtain ⟨x0,hx0⟩ : ∃ x0 : Ex,x0 = ⟨if isS T s.up kRec = true then kRec else kLet,[],[],(tk T s.k).pos⟩ := ⟨_,rfl⟩
      have p0 : ∀ c,Part 0 x0 c := fun c => by
        rw [hx0]
        refine ⟨?_,rfl,Nat.zero_le _,fun y hy => absurd hy (List.not_mem_nil),Nat.zero_le _⟩
        show (if isS T s.up kRec = true then kRec else kLet) = kLet ∨ (if isS T s.up kRec = true then kRec else kLet) = kRec
        split
        · right; rfl
        · left; rfl
      rw [← hs0,← hx0]
      obtain ⟨x,s1,e1,_,k1,r1⟩ := bound_tot hT hS hE (s.k + 1) x0 s0 g0.2 g0.1 (by omega) (fun _ => ⟨0,p0 _⟩)
      rw [e1]
      obtain ⟨y,s2,e2,k2,r2⟩ := binds_tot hT hS hE (s.k + 1) (T.length + 1) x s1 (by omega) (by omega) r1
      show ∃ x' s',(match bindsS (expS T n) T (T.length + 1) x s1 with | none => none | some (y,s2) => _) = some (x',s') ∧ _
      rw [e2]
      have c3 := need_cases hT r2.2.1 kIn (by decide) (by decide)
      obtain ⟨s3,hs3⟩ : ∃ s3,s3 = needS T s2 kIn := ⟨_,rfl⟩
      show ∃ x' s',(match expS T n (needS T s2 kIn) with | none => none | some (b,s3) => _) = some (x',s') ∧ _
      rw [← hs3] at c3 ⊢
      have l3 : s3.k < T.length ∧ s2.k ≤ s3.k := by
        have := r2.2.1
        rcases c3 with ⟨b,_⟩ | ⟨b,_⟩ <;> omega
      obtain ⟨b,s4,e4,r4⟩ := hE s3 ⟨l3.1,Or.inl (by omega)⟩
      rw [e4]
      have g4 := r4.1
      refine ⟨_,s4,rfl,by omega,r4.2.1,fun hb4 => ?_⟩
      obtain ⟨q4,p4,m4,n4⟩ := r4.2.2 hb4
      have d3 : s3.k = s2.k + 1 ∧ s2.bad < 0 := by
        rcases c3 with ⟨a,_,_,d,_⟩ | ⟨a,b⟩
        · exact ⟨a,d⟩
        · omega
      obtain ⟨z2,m2,n2⟩ := r2.2.2 d3.2
      have := r4.2.1
      refine ⟨hb',by omega,max m2 m4 + 1,((n2.le (Nat.le_max_left m2 m4)).done z2 (n4.le (Nat.le_max_right m2 m4)) (by omega)).more (by omega)⟩
    rw [if_neg h3]
    obtain ⟨x,s1,e1,r1,_⟩ := atom_tot hT hS hE s hk hn
    rw [e1]
    exact app_tot hT hS hE s (T.length + 1) x s1 (by omega) (by have := r1.1; omega) r1
theorem cut_len (l : List UInt8) (i k : Nat) : (cut l i k).length ≤ k - i := by
  rw [cut,List.length_drop,List.length_take]; omega
theorem tok_facts (kw : List (List UInt8)) (s : ByteArray) (J : Nat) (hJ : J ≤ s.size) {t : Tok} {r2 : Nat} (ht : tokAt kw s.data.toList J = (t,r2)) :
    t.pos = J ∧ J ≤ r2 ∧ r2 ≤ s.size ∧ ((t.is = kName ∨ t.is = kNum) → t.s.length ≤ 8) ∧ (t.is ≠ kNone → t.is ≠ kEnd → J < r2) := by
  obtain ⟨r1,r2',hr⟩ : ∃ r1 r2',(r1,r2') = raw s.data.toList J := ⟨_,_,rfl⟩
  have hle := raw_le s J hJ
  unfold tokAt at ht
  rw [← hr] at ht hle
  simp only [Prod.mk.injEq] at ht
  obtain ⟨ht,rfl⟩ := ht
  subst ht
  obtain ⟨b,hb⟩ : ∃ b,b = if (r1 = kName ∨ r1 = kNum) ∧ r2' - J > 8 then kNone else r1 := ⟨_,rfl⟩
  have hbig : (b = kName ∨ b = kNum) → r2' - J ≤ 8 := fun h => by
    by_cases hc : (r1 = kName ∨ r1 = kNum) ∧ r2' - J > 8
    · rw [if_pos hc] at hb
      rw [hb] at h
      exact absurd h (by decide)
    · rw [if_neg hc] at hb
      subst hb
      exact Nat.not_lt.1 (fun h2 => hc ⟨h,h2⟩)
  have hbr : b ≠ kNone → b = r1 := fun h => by
    by_cases hc : (r1 = kName ∨ r1 = kNum) ∧ r2' - J > 8
    · rw [if_pos hc] at hb; exact absurd hb h
    · rw [if_neg hc] at hb; exact hb
  have hlen := cut_len s.data.toList J r2'
  refine ⟨rfl,hle.1,hle.2,fun h => ?_,fun h1 h2 => ?_⟩
  · rw [← hb] at h
    show (cut s.data.toList J r2').length ≤ 8
    by_cases hk : b = kName ∧ cut s.data.toList J r2' ∈ kw
    · have := hbig (Or.inl hk.1)
      omega
    · rw [if_neg hk] at h
      have := hbig h
      omega
  · rw [← hb] at h1 h2
    by_cases hk : b = kName ∧ cut s.data.toList J r2' ∈ kw
    · have e : b = r1 := hbr (by rw [hk.1]; decide)
      exact raw_moves s J hr (by rw [← e,hk.1]; decide) (by rw [← e,hk.1]; decide)
    · rw [if_neg hk] at h1 h2
      have e := hbr h1
      exact raw_moves s J hr (by rw [← e]; exact h1) (by rw [← e]; exact h2)
theorem tk_cons (t : Tok) (T : List Tok) (k : Nat) : tk (t :: T) (k + 1) = tk T k := by simp [tk]
theorem tk_first (t : Tok) (T : List Tok) : tk (t :: T) 0 = t := by simp [tk]
theorem tk_nil (k : Nat) : tk [] k = ⟨[],[],0⟩ := by simp [tk]
theorem toks_facts (kw : List (List UInt8)) (s : ByteArray) : ∀ (f i : Nat),i ≤ s.size → s.size - i < f →
    Wf (toks kw s.data.toList f i) ∧ Sh (toks kw s.data.toList f i) ∧ ∀ k,(tk (toks kw s.data.toList f i) k).pos ≤ s.size
  | 0,_,_,h => by omega
  | f + 1,i,hi,hf => by
    have hsl : s.data.toList.length = s.size := by rw [Array.length_toList]; rfl
    have hu := upto_le isB s.data.toList i (by omega)
    rw [hsl] at hu
    obtain ⟨J,hJ⟩ : ∃ J,J = upto isB s.data.toList i := ⟨_,rfl⟩
    rw [← hJ] at hu
    obtain ⟨t,r2,ht⟩ : ∃ t r2,tokAt kw s.data.toList J = (t,r2) := ⟨_,_,rfl⟩
    obtain ⟨f1,f2,f3,f4,f5⟩ := tok_facts kw s J hu.2 ht
    rw [toks_step kw s.data.toList f i J hJ ht]
    by_cases he : t.is = kNone ∨ t.is = kEnd
    · rw [if_pos he]
      refine ⟨⟨Nat.zero_lt_one,fun k hk => ?_⟩,fun k hk => ?_,fun k => ?_⟩
      · have : k = 0 := by simpa using hk
        subst this
        rw [tk_first]
        exact ⟨fun _ => rfl,fun _ => he⟩
      · cases k with
        | zero => rw [tk_first] at hk ⊢; exact f4 hk
        | succ k => rw [tk_cons,tk_nil]; exact Nat.zero_le _
      · cases k with
        | zero => rw [tk_first,f1]; exact hu.2
        | succ k => rw [tk_cons,tk_nil]; exact Nat.zero_le _
    · rw [if_neg he]
      have hm := f5 (fun e => he (Or.inl e)) (fun e => he (Or.inr e))
      obtain ⟨g1,g2,g3⟩ := toks_facts kw s f r2 f3 (by omega)
      refine ⟨⟨Nat.succ_pos _,fun k hk => ?_⟩,fun k hk => ?_,fun k => ?_⟩
      · cases k with
        | zero =>
          rw [tk_first,List.length_cons]
          have := g1.1
          exact ⟨fun h => absurd h he,fun h => by omega⟩
        | succ k =>
          rw [tk_cons,List.length_cons]
          rw [List.length_cons] at hk
          have := g1.2 k (by omega)
          exact ⟨fun h => by have := this.1 h; omega,fun h => this.2 (by omega)⟩
      · cases k with
        | zero => rw [tk_first] at hk ⊢; exact f4 hk
        | succ k => rw [tk_cons] at hk ⊢; exact g2 k hk
      · cases k with
        | zero => rw [tk_first,f1]; exact hu.2
        | succ k => rw [tk_cons]; exact g3 k
def toksOf (kw : List (List UInt8)) (s : ByteArray) : List Tok := toks kw s.data.toList (s.size + 1) 0
theorem toksOf_len (kw : List (List UInt8)) (s : ByteArray) : (toksOf kw s).length ≤ s.size + 1 := toks_len _ _ _ _
theorem fz_none (w : World) : Fz (fun _ => none) w := fun k o e => by cases e
def fv (a b : Int) : Value := .agg #[.int .i64 a,.int .i64 b,.string (B []),.int .i64 0,.int .i64 0]
theorem TyOk.vars {N : Nat} : ∀ (m m' : Nat) (t : Ty) (l : List Nat),TyOk N m t → m ≤ m' → tyVars m' t l = tyVars m t l
  | 0,_,_,_,h,_ => absurd h id
  | m + 1,0,_,_,_,hm => by omega
  | m + 1,m' + 1,t,l,h,hm => by
    rcases h with ⟨h1,h2,h3⟩ | ⟨h1,h2,h3⟩ | ⟨h1,h2,a,h3,h4⟩ | ⟨h1,h2,a,b,h3,h4,h5⟩
    · simp only [tyVars,if_pos h1]
    · have hk : t.kind ≠ [] := by rcases h1 with h1 | h1 <;> rw [h1] <;> decide
      simp only [tyVars,if_neg hk,h3,List.foldl_nil]
    · have hk : t.kind ≠ [] := by rw [h1]; decide
      simp only [tyVars,if_neg hk,h3,List.foldl_cons,List.foldl_nil,TyOk.vars m m' a _ h4 (by omega)]
    · have hk : t.kind ≠ [] := by rcases h1 with h1 | h1 <;> rw [h1] <;> decide
      simp only [tyVars,if_neg hk,h3,List.foldl_cons,List.foldl_nil,TyOk.vars m m' a _ h4 (by omega),TyOk.vars m m' b _ h5 (by omega)]
theorem TyOk.text {N : Nat} (ns : List (List UInt8)) : ∀ (m m' : Nat) (t : Ty),TyOk N m t → m ≤ m' → tyText m' ns t = tyText m ns t
  | 0,_,_,h,_ => absurd h id
  | m + 1,0,_,_,hm => by omega
  | m + 1,m' + 1,t,h,hm => by
    rcases h with ⟨h1,h2,h3⟩ | ⟨h1,h2,h3⟩ | ⟨h1,h2,a,h3,h4⟩ | ⟨h1,h2,a,b,h3,h4,h5⟩
    · simp only [tyText,if_pos h1]
    · have hk : t.kind ≠ [] := by rcases h1 with h1 | h1 <;> rw [h1] <;> decide
      simp only [tyText,if_neg hk,h3]
    · have hk : t.kind ≠ [] := by rw [h1]; decide
      simp only [tyText,if_neg hk,h3,TyOk.text ns m m' a h4 (by omega)]
    · have hk : t.kind ≠ [] := by rcases h1 with h1 | h1 <;> rw [h1] <;> decide
      simp only [tyText,if_neg hk,h3,TyOk.text ns m m' a h4 (by omega),TyOk.text ns m m' b h5 (by omega)]
theorem ty_same {N N' m m' : Nat} {t : Ty} (h : TyOk N m t) (h' : TyOk N' m' t) : tySize m t = tySize m' t ∧ tyCanon m t = tyCanon m' t := by
  rcases Nat.le_total m m' with hl | hl
  · exact ⟨(TyOk.size m m' t h hl).symm,by unfold tyCanon; rw [TyOk.vars m m' t [] h hl,TyOk.text _ m m' t h hl]⟩
  · exact ⟨TyOk.size m' m t h' hl,by unfold tyCanon; rw [TyOk.vars m' m t [] h' hl,TyOk.text _ m' m t h' hl]⟩
theorem getD_mem {ns : List (List UInt8)} {i : Nat} (h : i < ns.length) : ns.getD i [] ∈ ns := by
  have : ns.getD i [] = ns[i] := by simp [List.getD,h]
  rw [this]
  exact List.getElem_mem h
theorem getD_inj2 {ns : List (List UInt8)} (hd : ns.Nodup) {i j : Nat} (hi : i < ns.length) (hj : j < ns.length) (h : ns.getD i [] = ns.getD j []) : i = j := by
  have e1 : ns.getD i [] = ns[i] := by simp [List.getD,hi]
  have e2 : ns.getD j [] = ns[j] := by simp [List.getD,hj]
  rw [e1,e2] at h
  have a := hd.idxOf_getElem i hi
  have b := hd.idxOf_getElem j hj
  rw [h] at a
  omega
end Go.Proofs.YtcdijppegfcoaabGreatDoor
namespace Go.Proofs.YtcdijppegfcoaabGreatDoor
open Go.RowKit Go.Maps Go.WideMaps
def tyR1 (v : Value) : Option (DataW Unit × List MemPlace) :=
  match v with
  | .string s => if s.size ≤ maxLen then some (.lit (.string s.data.toList),[]) else none
  | _ => none
def tyR (v : Value) : Option (DataW Unit × List MemPlace) :=
  match v with
  | .agg a => if a.size = 1 then tyR1 (a.getD 0 undef) else none
  | _ => none
theorem tyR_mk {t : List UInt8} (h : t.length ≤ 1000000) : tyR (.agg #[.string (B t)]) = some (.lit (.string t),[]) := by
  have hs : (B t).size ≤ maxLen := by rw [size_B]; unfold maxLen; omega
  show (if (B t).size ≤ maxLen then some (DataW.lit (.string (B t).data.toList),[]) else none) = _
  rw [if_pos hs]
  rfl
theorem tyR_inv {v : Value} {z : DataW Unit × List MemPlace} (h : tyR v = some z) : ∃ s : ByteArray,v = .agg #[.string s] ∧ z = (.lit (.string s.data.toList),[]) := by
  unfold tyR at h
  split at h
  · rename_i a
    split at h
    · rename_i hs
      unfold tyR1 at h
      split at h
      · rename_i s hs0
        split at h
        · cases h
          refine ⟨s,?_,rfl⟩
          congr 1
          apply Array.ext
          · simp [hs]
          · intro i h1 h2
            have hi : i = 0 := by omega
            subst hi
            have : a.getD 0 undef = a[0] := by simp [Array.getD,h1]
            rw [this] at hs0
            simpa using hs0
        · cases h
      · cases h
    · cases h
  · cases h
theorem zeroTyped (w : World) : (zeroValue 68).run Tryz.prog w = .ok (.agg #[.string (B [])]) w := by kernel_rfl
def FM (w : World) (mb : Nat) (ns : List (List UInt8)) (g : List (Option (List UInt8))) : Prop :=
  ∃ D : DataW Unit,w.ownsMap Tryz.prog 9 tyR mb (g.filter Option.isSome).length D ∧ Maps.size D = (g.filter Option.isSome).length ∧
    (∀ v,v < ns.length → Maps.has D (.string (ns.getD v [])) = (g.getD v none).isSome) ∧
    (∀ v t,v < ns.length → g.getD v none = some t → D.atKey (.string (ns.getD v [])) (.lit (.string [])) = .lit (.string t)) ∧
    ∀ k,Maps.has D k = true → ∃ v,v < ns.length ∧ k = .string (ns.getD v [])
theorem filter_set : ∀ (g : List (Option (List UInt8))) (v : Nat) (t : List UInt8),v < g.length → g.getD v none = none → ((g.set v (some t)).filter Option.isSome).length = (g.filter Option.isSome).length + 1
  | [],v,t,h,_ => by simp at h
  | a :: g,0,t,h,e => by
    simp at e
    subst e
    simp
  | a :: g,v + 1,t,h,e => by
    have ih := filter_set g v t (by simpa using h) (by simpa using e)
    simp only [List.set_cons_succ,List.filter_cons]
    split <;> simp [ih]
theorem FM.new (w : World) (ns : List (List UInt8)) (n : Nat) : FM (w.alloc (.map #[] 0)) w.heap.size ns (List.replicate n none) := by
  have hf : ((List.replicate n (none : Option (List UInt8))).filter Option.isSome) = [] := by
    rw [List.filter_eq_nil_iff]
    intro a ha
    rw [List.eq_of_mem_replicate ha]
    simp
  have hg : ∀ v,(List.replicate n (none : Option (List UInt8))).getD v none = none := fun v => by
    rw [List.getD_eq_getElem?_getD]
    cases e : (List.replicate n (none : Option (List UInt8)))[v]? with
    | none => rfl
    | some o => rw [List.eq_of_mem_replicate (List.mem_of_getElem? e)]; rfl
  refine ⟨.map [],?_,by rw [hf]; rfl,fun v hv => by rw [hg v]; rfl,(fun v t hv e => absurd (e.symm.trans (hg v)) (by simp)),(fun k h => absurd h (by simp [Maps.has]))⟩
  rw [hf]
  exact World.ownsMap_made _ _ _ _
theorem FM.kept {w w' : World} {mb : Nat} {ns : List (List UInt8)} {g : List (Option (List UInt8))} {r : Option Nat} (h : FM w mb ns g) (hg : w.grownBy w' r) (hne : some mb ≠ r) : FM w' mb ns g := by
  obtain ⟨D,h1,h2⟩ := h
  exact ⟨D,h1.kept hg hne,h2⟩
theorem FM.lt {w : World} {mb : Nat} {ns : List (List UInt8)} {g : List (Option (List UInt8))} (h : FM w mb ns g) : mb < w.heap.size := by
  obtain ⟨D,h1,_⟩ := h
  exact h1.lt
theorem FM.look1 {w : World} {mb : Nat} {ns : List (List UInt8)} {g : List (Option (List UInt8))} (h : FM w mb ns g) {v : Nat} (hv : v < ns.length) (hl : (ns.getD v []).length ≤ 300) {t : List UInt8} (ht : g.getD v none = some t) :
    (Instr.lookup 60 (.map (some mb)) (.string (B (ns.getD v []))) false).run Tryz.prog w = .ok (.agg #[.string (B t)]) w := by
  obtain ⟨D,h1,h2,h3,h4,h5⟩ := h
  obtain ⟨u,ps,hr,hu⟩ := h1.lookup keyLaw Tryz.underlying60 (zeroTyped w) (tyR_mk (t := []) (by simp)) (keyB hl)
  obtain ⟨s,rfl,hs⟩ := tyR_inv hu
  rw [hr]
  rw [h4 v t hv ht] at hs
  have := congrArg Prod.fst hs
  simp at this
  have e : s = B t := by
    cases s
    simp at this
    simp [B,this]
  rw [e]
theorem FM.store {w : World} {mb : Nat} {ns : List (List UInt8)} {g : List (Option (List UInt8))} (h : FM w mb ns g) (hlen : g.length = ns.length) (hL : ns.length ≤ 1000) (hd : ns.Nodup) {v : Nat} (hv : v < ns.length) (hl : (ns.getD v []).length ≤ 300) (ht : g.getD v none = none) {t : List UInt8} (htl : t.length ≤ 1000000) :
    ∃ w',(Instr.mapUpdate 60 (.map (some mb)) (.string (B (ns.getD v []))) (.agg #[.string (B t)])).run Tryz.prog w = .ok () w' ∧ FM w' mb ns (g.set v (some t)) ∧ w.grownBy w' (some mb) := by
  obtain ⟨D,h1,h2,h3,h4,h5⟩ := h
  have td := h1.tidy keyLaw
  have hfl : (g.filter Option.isSome).length ≤ 1000 := Nat.le_trans (List.length_filter_le _ _) (by omega)
  obtain ⟨w',r1,r2,r3⟩ := h1.update keyLaw Tryz.underlying60 (by unfold maxLen; omega) (keyB hl) (tyR_mk htl)
  have hf : Maps.has D (.string (ns.getD v [])) = false := by rw [h3 v hv,ht]; rfl
  have hfs := filter_set g v t (by omega) ht
  have ne : ∀ i,i < ns.length → i ≠ v → (Lit.string (ns.getD i [])) ≠ .string (ns.getD v []) := fun i hi hne e => hne (getD_inj2 hd hi hv (by simpa using e))
  have gs : ∀ i,(g.set v (some t)).getD i none = if i = v then some t else g.getD i none := fun i => by
    rw [List.getD_eq_getElem?_getD,List.getD_eq_getElem?_getD,List.getElem?_set]
    by_cases e : v = i
    · rw [if_pos e,if_pos e.symm,if_pos (by omega)]; rfl
    · rw [if_neg e,if_neg (fun h => e h.symm)]
  refine ⟨w',r1,⟨_,by rw [hfs]; exact r2,?_,fun i hi => ?_,fun i t' hi e => ?_,fun k hk => ?_⟩,r3⟩
  · rw [size_put td,hf,h2,hfs]
    simp
  · rw [gs i]
    by_cases e : i = v
    · subst e
      rw [if_pos rfl,has_put_same (k := .string (ns.getD i [])) td.isMap (by trivial)]
      rfl
    · rw [if_neg e,has_put_other (ne i hi e),h3 i hi]
  · rw [gs i] at e
    by_cases e2 : i = v
    · subst e2
      rw [if_pos rfl] at e
      cases e
      exact atKey_put_same (k := .string (ns.getD i [])) td.isMap (by trivial) _ _
    · rw [if_neg e2] at e
      rw [atKey_put_other (ne i hi e2)]
      exact h4 i t' hi e
  · by_cases e : k = .string (ns.getD v [])
    · exact ⟨v,hv,e⟩
    · rw [has_put_other e] at hk
      exact h5 k hk
theorem clone_q (s : ByteArray) (w : World) (h : s.size ≤ 281474976710656) : Calls Tryz.prog 48 #[.string s] w fun e w' => e = .returned (.string s) ∧ w.grownBy w' none := by
  go_enter Tryz.func48,Tryz.ntmps48
  go_wp2_with (go_at_call 76; refine (Tryz.stringslite_Clone _ _ h).mono ?_; rintro e w3 ⟨rfl,g3⟩; have G3 := hid g3; clear g3)
  go_ret
  exact ⟨rfl,G3.out.os,G3.out.tape,G3.out.output,G3.out.size,fun k hk _ => G3.out.block k hk⟩
def both (H1 H2 : Nat → Option Obj) (k : Nat) : Option Obj := match H1 k with
  | some o => some o
  | none => H2 k
theorem fz_both {H1 H2 : Nat → Option Obj} {w : World} (h1 : Fz H1 w) (h2 : Fz H2 w) : Fz (both H1 H2) w ∧ Ext 0 H1 (both H1 H2) ∧ Ext 0 H2 (both H1 H2) := by
  refine ⟨fun k o e => ?_,⟨fun k o e => ?_,fun k hk => by omega⟩,⟨fun k o e => ?_,fun k hk => by omega⟩⟩
  · unfold both at e
    cases e1 : H1 k with
    | some o' => rw [e1] at e; cases e; exact h1 k _ e1
    | none => rw [e1] at e; exact h2 k o e
  · unfold both; rw [e]
  · unfold both
    cases e1 : H1 k with
    | some o' =>
      have a := h1 k o' e1
      have b := h2 k o e
      rw [a] at b
      exact b
    | none => exact e
def uV (_ : Unit) : Value := .agg #[]
def ButAt (ca : List Nat) (L : List Nat) (bv : Value) (w : World) : Prop := (bv = .map none ∧ L = []) ∨ ∃ mb,bv = .map (some mb) ∧ mb ∉ ca ∧ GM kI uV 3 w mb (L.map fun n => (n,()))
theorem ButAt.gb {ca : List Nat} {L : List Nat} {bv : Value} {w w' : World} (h : ButAt ca L bv w) (g : Gb (InAs ca) w w') : ButAt ca L bv w' := by
  rcases h with h | ⟨mb,h1,h2,h3⟩
  · exact Or.inl h
  · exact Or.inr ⟨mb,h1,h2,h3.gb g h2⟩
theorem getL_unit (L : List Nat) (n : Nat) : (getL (L.map fun n => (n,())) n).isSome = decide (n ∈ L) := by
  induction L with
  | nil => rfl
  | cons a L ih =>
    rw [List.map_cons,getL]
    by_cases h : a = n
    · rw [if_pos h]; simp [h]
    · rw [if_neg h,ih]
      simp [Ne.symm h]
theorem look_none (n : Int) (w : World) : (Instr.lookup 267 (.map none) (.int .i64 n) true).run Tryz.prog w = .ok (.tuple #[.agg #[],.bool false]) w := by kernel_rfl
theorem zeroUnit (w : World) : (zeroValue 306).run Tryz.prog w = .ok (.agg #[]) w := by kernel_rfl
theorem ButAt.look {ca : List Nat} {L : List Nat} {bv : Value} {w : World} (h : ButAt ca L bv w) {n : Nat} (hn : n ≤ 1099511627776) : (Instr.lookup 267 bv (.int .i64 ((n : Int) + 1)) true).run Tryz.prog w = .ok (.tuple #[.agg #[],.bool (decide (n ∈ L))]) w := by
  rcases h with ⟨rfl,rfl⟩ | ⟨mb,rfl,_,h⟩
  · exact look_none _ w
  · rw [h.look intLaw Tryz.underlying267 (zeroUnit w) (kI_key hn),getL_unit]
    cases getL (L.map fun n => (n,())) n <;> rfl
def onto1 (H : Nat → Option Obj) (p : Nat) (o : Obj) (k : Nat) : Option Obj := if k = p then some o else H k
theorem onto1_fz {H : Nat → Option Obj} {w : World} {p : Nat} {o : Obj} (h : Fz H w) (hp : w.heap[p]? = some o) : Fz (onto1 H p o) w := fun k x e => by
  unfold onto1 at e
  split at e
  · rename_i hk; rw [hk,← e]; exact hp
  · exact h k x e
theorem onto1_ext {H : Nat → Option Obj} {p : Nat} {o : Obj} (h : H p = none) : ∀ k x,H k = some x → onto1 H p o k = some x := fun k x e => by
  unfold onto1
  rw [if_neg (fun hk => by rw [hk,h] at e; cases e)]
  exact e
theorem onto1_new {H0 H : Nat → Option Obj} {p n : Nat} {o : Obj} (h : ∀ k x,H k = some x → H0 k = some x ∨ n ≤ k) (hp : n ≤ p) : ∀ k x,onto1 H p o k = some x → H0 k = some x ∨ n ≤ k := fun k x e => by
  unfold onto1 at e
  split at e
  · rename_i hk; right; omega
  · exact h k x e
theorem onto1_at {H : Nat → Option Obj} {p : Nat} {o : Obj} : onto1 H p o p = some o := by unfold onto1; rw [if_pos rfl]
theorem CSd.grown0 {H : Nat → Option Obj} {ca : List Nat} {σ : Sto} {d : Nat → Nat} {w w' : World} (h : CSd H ca σ d w) (g : w.grownBy w' none) : CSd H ca σ d w' := h.gb (R := fun _ => False) (Gb.new g) (fun _ _ e => e) (fun _ _ _ e => e)
theorem grow1 {w : World} {gn : Nat} {u v : Value} {t : TypeId} (h : w.heap[gn]? = some (.cells #[u] t (0,0))) : w.cell? ⟨gn,0,none⟩ = some u ∧ w.frozen? ⟨gn,0,none⟩ = false ∧ (w.setCell ⟨gn,0,none⟩ v).heap[gn]? = some (.cells #[v] t (0,0)) := by simp [World.cell?,World.frozen?,World.setCell,Array.getElem?_modify,h]
theorem grow2 {w : World} {gn : Nat} {u z : Value} {t : TypeId} (h : w.heap[gn]? = some (.cells #[u,z] t (0,0))) : w.cell? ⟨gn,0,none⟩ = some u ∧ w.cell? ⟨gn,1,none⟩ = some z ∧ w.frozen? ⟨gn,0,none⟩ = false ∧ w.frozen? ⟨gn,1,none⟩ = false ∧ (∀ v,(w.setCell ⟨gn,0,none⟩ v).heap[gn]? = some (.cells #[v,z] t (0,0))) ∧ ∀ v,(w.setCell ⟨gn,1,none⟩ v).heap[gn]? = some (.cells #[u,v] t (0,0)) := by simp [World.cell?,World.frozen?,World.setCell,Array.getElem?_modify,h]
theorem csd_setNew {H : Nat → Option Obj} {ca : List Nat} {σ : Sto} {d : Nat → Nat} {w : World} {gn : Nat} (h : CSd H ca σ d w) (hg : ¬ InAs ca gn) (hh : H gn = none) (i : Nat) (v : Value) : CSd H ca σ d (w.setCell ⟨gn,i,none⟩ v) :=
  h.gb (R := fun k => k = gn) ((Gb.refl (fun k => k = gn) w).set (b := gn) (Or.inl rfl) i v) (fun a ha e => hg (e ▸ ha)) (fun k o e e2 => by rw [e2,hh] at e; cases e)
theorem gb_setNew {ca : List Nat} {w w' : World} (h : Gb (InAs ca) w w') {gn : Nat} (hg : w.heap.size ≤ gn) (i : Nat) (v : Value) : Gb (InAs ca) w (w'.setCell ⟨gn,i,none⟩ v) := h.set (b := gn) (Or.inr hg) i v
theorem ERep.onto {H H1 : Nat → Option Obj} {ca : List Nat} {v : Value} {t : Et} (h : ER H ca v t) (e : ∀ k o,H k = some o → H1 k = some o) : ER H1 ca v t := by
  obtain ⟨m,h⟩ := h
  exact ⟨m,ERep.ext (Nat.le_refl _) e (List.prefix_refl _) m v t h⟩
theorem er_val {H : Nat → Option Obj} {ca : List Nat} {v : Value} {t : Et} (h : ER H ca v t) : ∃ T0 b,IsE T0 ∧ v = .iface T0 (.pointer (some ⟨b,0,none⟩)) := by
  obtain ⟨m,h⟩ := h
  exact h.val
end Go.Proofs.YtcdijppegfcoaabGreatDoor
