import Derived.Test.YtcdijppegfcoaaaGreatDoorZT06
import Derived.Test.YtcdijppegfcoaaaGreatDoorZT14
import Derived.Outline
/-
  OUR OWN TEXT. The program's types: what lies right below one; room, Big.
-/
namespace Go.Proofs.YtcdijppegfcoaaaGreatDoor
open Go.RowKit
/-- What Below leaves. -/
def BLW (w w' : World) (e : Ending) (us : List Value) : Prop :=
  ∃ ao cap, e = .returned (.slice ao us.length cap) ∧ w.grownBy w' none ∧ ∀ (j : Nat) (u : Value), us[j]? = some u → ∃ gn, ao = some ⟨gn, 0, none⟩ ∧ gn < w'.heap.size ∧ w'.cell? ⟨gn, j, none⟩ = some u

theorem mBelowVar (b : Nat) (w : World) : (Go.method 567 309 (.pointer (some ⟨b, 0, none⟩)) "Below").run Tryz.prog w = .ok (306, .pointer (some ⟨b, 0, none⟩)) w := by kernel_rfl
theorem mBelowBasic (b : Nat) (w : World) : (Go.method 567 346 (.pointer (some ⟨b, 0, none⟩)) "Below").run Tryz.prog w = .ok (307, .pointer (some ⟨b, 0, none⟩)) w := by kernel_rfl
theorem mBelowList (b : Nat) (w : World) : (Go.method 567 349 (.pointer (some ⟨b, 0, none⟩)) "Below").run Tryz.prog w = .ok (308, .pointer (some ⟨b, 0, none⟩)) w := by kernel_rfl
theorem mBelowPair (b : Nat) (w : World) : (Go.method 567 361 (.pointer (some ⟨b, 0, none⟩)) "Below").run Tryz.prog w = .ok (309, .pointer (some ⟨b, 0, none⟩)) w := by kernel_rfl
theorem mBelowArrow (b : Nat) (w : World) : (Go.method 567 291 (.pointer (some ⟨b, 0, none⟩)) "Below").run Tryz.prog w = .ok (304, .pointer (some ⟨b, 0, none⟩)) w := by kernel_rfl

set_option maxRecDepth 100000 in
theorem below_var (b : Nat) (w : World) : Calls Tryz.prog 306 #[.pointer (some ⟨b, 0, none⟩)] w fun e w' => BLW w w' e [] := by
  go_enter Tryz.func306, Tryz.ntmps306
  go_wp2
  go_ret
  exact ⟨none, 0, rfl, World.grownBy.refl _ _, fun j u h => by simp at h⟩
set_option maxRecDepth 100000 in
theorem below_basic (b : Nat) (w : World) : Calls Tryz.prog 307 #[.pointer (some ⟨b, 0, none⟩)] w fun e w' => BLW w w' e [] := by
  go_enter Tryz.func307, Tryz.ntmps307
  go_wp2
  go_ret
  exact ⟨none, 0, rfl, World.grownBy.refl _ _, fun j u h => by simp at h⟩
theorem blw_one (w : World) (u : Value) (t : TypeId) : BLW w (w.alloc (.cells #[u] t)) (.returned (.slice (some ⟨w.heap.size, 0, none⟩) 1 1)) [u] := by
  refine ⟨_, 1, rfl, World.grownBy_alloc _ _ _, fun j x h => ⟨_, rfl, by simp, ?_⟩⟩
  match j, h with
  | 0, h => simp at h; subst h; simp [go_sem]
  | j + 1, h => simp at h
theorem blw_two (w : World) (u z : Value) (t : TypeId) : BLW w (w.alloc (.cells #[u, z] t)).drew (.returned (.slice (some ⟨w.heap.size, 0, none⟩) 2 2)) [u, z] := by
  have g := World.grownBy_alloc w (.cells #[u, z] t) none
  refine ⟨_, 2, rfl, ⟨g.os, g.tape, g.output, g.size, g.block⟩, fun j x h => ⟨_, rfl, by simp, ?_⟩⟩
  match j, h with
  | 0, h => simp at h; subst h; simp [go_sem]
  | 1, h => simp at h; subst h; simp [go_sem]
  | j + 2, h => simp at h
set_option maxRecDepth 100000 in
theorem below_list (b : Nat) (w : World) (t1 : TypeId) (b1 : Nat) (h : w.heap[b]? = some (.cells #[(.iface t1 (.pointer (some ⟨b1, 0, none⟩)))] 351 (0, 0))) :
    Calls Tryz.prog 308 #[.pointer (some ⟨b, 0, none⟩)] w fun e w' => BLW w w' e [(.iface t1 (.pointer (some ⟨b1, 0, none⟩)))] := by
  have c0 : w.cell? ⟨b, 0, none⟩ = some (.iface t1 (.pointer (some ⟨b1, 0, none⟩))) := by simp [World.cell?, h]
  clear h
  go_enter Tryz.func308, Tryz.ntmps308
  go_wp2
  go_ret
  exact blw_one w _ _
set_option maxRecDepth 100000 in
theorem below_pair (b : Nat) (w : World) (t1 t2 : TypeId) (b1 b2 : Nat) (h : w.heap[b]? = some (.cells #[(.iface t1 (.pointer (some ⟨b1, 0, none⟩))), (.iface t2 (.pointer (some ⟨b2, 0, none⟩)))] 384 (0, 0))) :
    Calls Tryz.prog 309 #[.pointer (some ⟨b, 0, none⟩)] w fun e w' => BLW w w' e [(.iface t1 (.pointer (some ⟨b1, 0, none⟩))), (.iface t2 (.pointer (some ⟨b2, 0, none⟩)))] := by
  have c0 : w.cell? ⟨b, 0, none⟩ = some (.iface t1 (.pointer (some ⟨b1, 0, none⟩))) := by simp [World.cell?, h]
  have c1 : w.cell? ⟨b, 1, none⟩ = some (.iface t2 (.pointer (some ⟨b2, 0, none⟩))) := by simp [World.cell?, h]
  clear h
  go_enter Tryz.func309, Tryz.ntmps309
  go_wp2_with fail
  (try go_region)
  go_wp2
  go_ret
  exact blw_two w _ _ _
set_option maxRecDepth 100000 in
theorem below_arrow (b : Nat) (w : World) (t1 t2 : TypeId) (b1 b2 : Nat) (h : w.heap[b]? = some (.cells #[(.iface t1 (.pointer (some ⟨b1, 0, none⟩))), (.iface t2 (.pointer (some ⟨b2, 0, none⟩)))] 293 (0, 0))) :
    Calls Tryz.prog 304 #[.pointer (some ⟨b, 0, none⟩)] w fun e w' => BLW w w' e [(.iface t1 (.pointer (some ⟨b1, 0, none⟩))), (.iface t2 (.pointer (some ⟨b2, 0, none⟩)))] := by
  have c0 : w.cell? ⟨b, 0, none⟩ = some (.iface t1 (.pointer (some ⟨b1, 0, none⟩))) := by simp [World.cell?, h]
  have c1 : w.cell? ⟨b, 1, none⟩ = some (.iface t2 (.pointer (some ⟨b2, 0, none⟩))) := by simp [World.cell?, h]
  clear h
  go_enter Tryz.func304, Tryz.ntmps304
  go_wp2_with fail
  (try go_region)
  go_wp2
  go_ret
  exact blw_two w _ _ _
/-- What lies below a type. -/
theorem below_any {ns : List (List UInt8)} {m : Nat} {H : Nat → Option Obj} {v : Value} {x : Ty} (h : QRep ns (m + 1) H v x) :
    ∃ t b us F, v = .iface t (.pointer (some ⟨b, 0, none⟩)) ∧ us.length = x.kids.length ∧ us.length ≤ 2 ∧ (∀ (i : Nat) (u : Value) (y : Ty), us[i]? = some u → x.kids[i]? = some y → QRep ns m H u y) ∧ (∀ w, (Go.method 567 t (.pointer (some ⟨b, 0, none⟩)) "Below").run Tryz.prog w = .ok (F, .pointer (some ⟨b, 0, none⟩)) w) ∧
      (∀ w, Fz H w → Calls Tryz.prog F #[.pointer (some ⟨b, 0, none⟩)] w fun e w' => BLW w w' e us) ∧ (F = 306 ∨ F = 307 ∨ F = 308 ∨ F = 309 ∨ F = 304) := by
  obtain ⟨b, h⟩ := h
  rcases h with ⟨h1, h2, h3, h4, h5⟩ | ⟨h1, h2, h3, h4⟩ | ⟨h1, a, u, h2, h3, h4, h5⟩ | ⟨h1, a, c, u, z, h2, h3, h4, h5, h6⟩ | ⟨h1, a, c, u, z, h2, h3, h4, h5, h6⟩
  · exact ⟨_, b, [], _, h4, by rw [h2]; rfl, by simp, fun i u y e => by simp at e, fun w => mBelowVar b w, fun w _ => below_var b w, Or.inl rfl⟩
  · exact ⟨_, b, [], _, h3, by rw [h2]; rfl, by simp, fun i u y e => by simp at e, fun w => mBelowBasic b w, fun w _ => below_basic b w, Or.inr (Or.inl rfl)⟩
  · refine ⟨_, b, [u], _, h3, by rw [h2]; rfl, by simp, fun i u' y e1 e2 => ?_, fun w => mBelowList b w, fun w hz => ?_, Or.inr (Or.inr (Or.inl rfl))⟩
    · rw [h2] at e2
      match i, e1, e2 with
      | 0, e1, e2 => simp at e1 e2; subst e1 e2; exact h5
      | i + 1, e1, e2 => simp at e1
    · obtain ⟨t1, b1, _, rfl, _⟩ := h5.val hz
      exact below_list b w t1 b1 (hz _ _ h4)
  · refine ⟨_, b, [u, z], _, h3, by rw [h2]; rfl, by simp, fun i u' y e1 e2 => ?_, fun w => mBelowPair b w, fun w hz => ?_, Or.inr (Or.inr (Or.inr (Or.inl rfl)))⟩
    · rw [h2] at e2
      match i, e1, e2 with
      | 0, e1, e2 => simp at e1 e2; subst e1 e2; exact h5
      | 1, e1, e2 => simp at e1 e2; subst e1 e2; exact h6
      | i + 2, e1, e2 => simp at e1
    · obtain ⟨t1, b1, _, rfl, _⟩ := h5.val hz
      obtain ⟨t2, b2, _, rfl, _⟩ := h6.val hz
      exact below_pair b w t1 t2 b1 b2 (hz _ _ h4)
  · refine ⟨_, b, [u, z], _, h3, by rw [h2]; rfl, by simp, fun i u' y e1 e2 => ?_, fun w => mBelowArrow b w, fun w hz => ?_, Or.inr (Or.inr (Or.inr (Or.inr (rfl))))⟩
    · rw [h2] at e2
      match i, e1, e2 with
      | 0, e1, e2 => simp at e1 e2; subst e1 e2; exact h5
      | 1, e1, e2 => simp at e1 e2; subst e1 e2; exact h6
      | i + 2, e1, e2 => simp at e1
    · obtain ⟨t1, b1, _, rfl, _⟩ := h5.val hz
      obtain ⟨t2, b2, _, rfl, _⟩ := h6.val hz
      exact below_arrow b w t1 t2 b1 b2 (hz _ _ h4)

set_option maxRecDepth 100000 in
set_option maxHeartbeats 2000000 in
theorem room_any (ns : List (List UInt8)) : ∀ (m : Nat) (H : Nat → Option Obj) (v : Value) (x : Ty) (w : World) (L : Nat), QRep ns m H v x → Fz H w → tySize m x ≤ 100000 → L ≤ 100000 →
    Calls Tryz.prog 143 #[v, .int .i64 (L : Int)] w fun e w' => e = .returned (.int .i64 (max ((L : Int) - (tySize m x : Int)) (-1))) ∧ w.grownBy w' none := by
  intro m
  induction m with
  | zero => intro H v x w L h; exact absurd h id
  | succ m ih =>
    intro H v x w L h hz hs hL
    obtain ⟨t, b, us, F, rfl, hl, hl2, hk, hm, hb, hF⟩ := below_any h
    have hsz : tySize (m + 1) x = 1 + (x.kids.map (tySize m)).sum := rfl
    rw [hsz] at hs ⊢
    have hm1 := hm w
    have HB := hid (hb w hz)
    have HK := hid hk
    have IH := hid ih
    have HL := hid hl
    have HZ := hid hz
    have HS := hid hs
    have hLi : (L : Int) ≤ 100000 := by omega
    obtain ⟨S, hS⟩ : ∃ S, S = (x.kids.map (tySize m)).sum := ⟨_, rfl⟩
    rw [← hS]
    have HSS := hid hS
    clear h hz hs hm hb hk ih hl hsz hS
    rcases hF with rfl | rfl | rfl | rfl | rfl
    all_goals
      go_enter Tryz.func143, Tryz.ntmps143
      go_wp2_with fail
      refine HB.out.mono ?_
      rintro e w1 ⟨ao, cap, rfl, g1, hrow⟩
      have HROW := hid hrow
      have G1 := hid g1
      clear hrow g1 HB hm1
      go_wp2_with fail
      go_loopg [1, 12] (us.length + 1) (fun gh v i wi => ∃ j k : Nat, j ≤ us.length ∧ i = .int .i64 j ∧ gh = us.length - j + 1 ∧ k ≤ 100000 ∧ Hid (k = 1 + ((x.kids.take j).map (tySize m)).sum) ∧ v = .int .i64 (max ((L : Int) - (k : Int)) (-1)) ∧ Hid (w1.grownBy wi none))
      case atStart => exact ⟨0, 1, by omega, rfl, by omega, by omega, hid rfl, by congr 1; omega, World.grownBy.refl _ _⟩
      case round =>
        obtain ⟨j, k, hj, rfl, hgj, hk, HKJ, rfl, HG⟩ := hrel
        by_cases hjl : j < us.length
        · obtain ⟨u, hu⟩ : ∃ u, us[j]? = some u := ⟨us[j], List.getElem?_eq_getElem hjl⟩
          obtain ⟨y, hy⟩ : ∃ y, x.kids[j]? = some y := ⟨x.kids[j]'(by rw [← HL.out]; exact hjl), List.getElem?_eq_getElem _⟩
          obtain ⟨gn, rfl, hgl, hcell0⟩ := HROW.out j u hu
          have hcell : wr.cell? ⟨gn, j, none⟩ = some u := by rw [World.cell?_of_block (a := ⟨gn, j, none⟩) (HG.out.block gn hgl (by simp))]; exact hcell0
          have hry := HK.out j u y hu hy
          have hzr : Fz H wr := (HZ.out.grown G1.out).grown HG.out
          obtain ⟨t1, b1, _, rfl, _⟩ := hry.val hzr
          have hstep : 1 + ((x.kids.take (j + 1)).map (tySize m)).sum = k + tySize m y := by
            rw [List.take_add_one, hy, List.map_append, List.sum_append, HKJ.out]
            simp
            omega
          have hle : k + tySize m y ≤ 1 + S := by
            have h1 := sum_take_le (x.kids.map (tySize m)) (j + 1)
            rw [← List.map_take] at h1
            rw [HSS.out]
            omega
          have hS1 : 1 + S ≤ 100000 := by rw [HSS.out]; exact HS.out
          by_cases hneg : (L : Int) - (k : Int) < 0
          · have h1 : max ((L : Int) - (k : Int)) (-1) < 0 := by omega
            have e9 : max ((L : Int) - (k : Int)) (-1) = -1 := by omega
            rw [e9]
            have e8 : max ((L : Int) - ((1 + S : Nat) : Int)) (-1) = -1 := by omega
            clear hu hy hry hzr hcell0 hstep h1 e9
            go_wp2
            go_ret
            exact ⟨by rw [e8]; rfl, G1.out.trans HG.out⟩
          · have e9 : max ((L : Int) - (k : Int)) (-1) = ((L - k : Nat) : Int) := by omega
            rw [e9]
            have CON := hid (IH.out H _ y wr (L - k) hry hzr (by omega) (by omega))
            obtain ⟨dy, hdy2⟩ : ∃ dy : Nat, dy = tySize m y := ⟨_, rfl⟩
            rw [← hdy2] at hstep CON hle
            have HST := hid hstep
            have h1 : ¬ (((L - k : Nat) : Int) < 0) := by omega
            have e7 : max (((L - k : Nat) : Int) - (dy : Int)) (-1) = max ((L : Int) - ((k + dy : Nat) : Int)) (-1) := by omega
            rw [e7] at CON
            clear hu hy hry hzr hcell0 hstep hdy2 e9 e7 hneg
            go_wp2_with fail
            refine CON.out.mono ?_
            rintro e w' ⟨rfl, g'⟩
            have G' := hid g'
            clear g'
            go_wp2_with fail
            go_roundg (us.length - (j + 1) + 1)
            case measure => omega
            case rel => exact ⟨j + 1, k + dy, by omega, by go_num, rfl, by omega, hid HST.out.symm, rfl, hid (HG.out.trans G'.out)⟩
        · have hje : j = us.length := by omega
          subst hje
          have e : k = 1 + S := by
            have := HKJ.out
            rw [HL.out, List.take_length] at this
            rw [HSS.out]
            exact this
          subst e
          go_wp2
          go_ret
          exact ⟨rfl, G1.out.trans HG.out⟩

set_option maxRecDepth 100000 in
set_option maxHeartbeats 2000000 in
theorem big_any (ns : List (List UInt8)) (m : Nat) (H : Nat → Option Obj) (v : Value) (x : Ty) (w : World) (h : QRep ns m H v x) (hz : Fz H w) (hs : tySize m x ≤ 100000) :
    Calls Tryz.prog 111 #[v] w fun e w' => e = .returned (.bool (decide (120 < tySize m x))) ∧ w.grownBy w' none := by
  have CON := hid (room_any ns m H v x w 120 h hz hs (by omega))
  obtain ⟨t, b, _, rfl, _⟩ := h.val hz
  clear h hz
  by_cases hd : 120 < tySize m x
  · have e9 : max (((120 : Nat) : Int) - (tySize m x : Int)) (-1) = -1 := by omega
    rw [e9] at CON
    rw [decide_eq_true hd]
    clear hd e9
    go_enter Tryz.func111, Tryz.ntmps111
    go_wp2_with fail
    refine CON.out.mono ?_
    rintro e w1 ⟨rfl, g1⟩
    have G1 := hid g1
    clear g1
    go_wp2
    go_ret
    exact ⟨rfl, G1.out⟩
  · have e9 : max (((120 : Nat) : Int) - (tySize m x : Int)) (-1) = ((120 - tySize m x : Nat) : Int) := by omega
    rw [e9] at CON
    rw [decide_eq_false hd]
    have h1 : ¬ (((120 - tySize m x : Nat) : Int) < 0) := by omega
    clear hd e9
    generalize 120 - tySize m x = q at *
    go_enter Tryz.func111, Tryz.ntmps111
    go_wp2_with fail
    refine CON.out.mono ?_
    rintro e w1 ⟨rfl, g1⟩
    have G1 := hid g1
    clear g1
    go_wp2
    go_ret
    exact ⟨rfl, G1.out⟩

end Go.Proofs.YtcdijppegfcoaaaGreatDoor
