import Derived.Test.YtcdijppegfcoaaaGreatDoorZT33
import Derived.Defers
import Derived.Recover
import Derived.Test.YtcdijppegfcoaaaGreatDoorZT22
/-
  OUR OWN TEXT. The program's reader: exp, whole, by induction.
-/
namespace Go.Proofs.YtcdijppegfcoaaaGreatDoor
open Go.RowKit
/-- The last call of exp hands on what it has. -/
theorem EOut.via {w w1 w' : World} {rb : Nat} {s : ByteArray} {T : List Tok} {H : Nat → Option Obj} {k0 k1 : Nat} {st' : St} {e : Ending} {ex : Ex} (hk : Kept rb w w1) (h : EOut w1 w' rb s T H k1 st' e ex) (hk0 : k0 ≤ k1) : EOut w w' rb s T H k0 st' e ex := by
  obtain ⟨h1, h2⟩ := h
  refine ⟨hk.trans h1, ?_⟩
  rcases h2 with ⟨v, H', m, q1, q2, q3, q4, q5, q6⟩ | h2
  · exact Or.inl ⟨v, H', m, q1, q2, q3, q4.from hk.size, q5, by omega⟩
  · exact Or.inr h2
theorem Kept.le {rb : Nat} {w w' : World} (h : Kept rb w w') : w.heap.size ≤ w'.heap.size := h.size

set_option maxRecDepth 100000 in
set_option maxHeartbeats 2000000 in
theorem exp_p (T : List Tok) (hl : T.length ≤ 400) : ∀ n, EXPP T n
  | 0 => fun w rb s H st ex st' hs => by simp [expS] at hs
  | n + 1 => fun w rb s H st ex st' hs h hz hr => by
    have hE := exp_p T hl n
    have hlt := h.lt
    have hneg := h.neg
    rw [expS, if_neg (by omega)] at hs
    have HP := hid (h.alloc (.cells #[.pointer (some ⟨rb, 0, none⟩)] 182))
    have HZ := hid (hz.alloc (.cells #[.pointer (some ⟨rb, 0, none⟩)] 182))
    have HE := hid hE
    have HS := hid hs
    have K0 := hid ((Kept.refl rb w).alloc (.cells #[.pointer (some ⟨rb, 0, none⟩)] 182))
    clear h hz hE hs
    unfold rdV
    go_enter Tryz.func96, Tryz.ntmps96
    go_wp2_with fail
    refine (skips_p exKw exKw_ok _ rb s T st kFun HP.out (Or.inl (by decide))).mono ?_
    rintro e w1 ⟨rfl, p1, k1⟩
    have bx1 : w1.cell? ⟨w.heap.size, 0, none⟩ = some (.pointer (some ⟨rb, 0, none⟩)) := by
      rw [kept_cell k1 (by simp) (by omega)]
      simp [go_sem]
    have hw1 : w.heap.size < w1.heap.size := by have := k1.size; simp at this; omega
    have K1 := hid (K0.out.trans k1)
    have Z1 := hid (HZ.out.kept k1 hr)
    clear HP HZ K0 k1
    cases h1 : isS T st kFun with
    | true =>
      rw [take_yes h1] at p1
      have e4 := HS.out
      rw [if_pos h1] at e4
      cases hx : expS T n (needS T (needS T st.up kName) kArrow) with
      | none => rw [hx] at e4; cases e4
      | some q =>
      obtain ⟨y, s4⟩ := q
      rw [hx] at e4
      cases e4
      have P1 := hid p1
      have HX := hid hx
      clear h1 hx p1
      go_wp2_with fail
      refine (fun_p T n hl HE.out _ rb s H st.up y st' (tk T st.k).pos HX.out P1.out Z1.out hr).mono ?_
      rintro e w2 ho
      have HO := hid (EOut.via (k0 := st.k) K1.out ho (by show st.k ≤ st.k + 1; omega))
      rcases ho with ⟨_, (⟨v, H', m, rfl, _⟩ | ⟨_, bb, rfl, _⟩)⟩
      · go_wp2
        go_ret
        exact HO.out
      · unfold refusal at HO ⊢
        go_wp2
        exact ⟨rfl, HO.out⟩
    | false =>
    rw [take_no h1] at p1
    have e4 := HS.out
    rw [if_neg (by rw [h1]; decide)] at e4
    have HS1 := hid e4
    have P1 := hid p1
    clear HS h1 p1 e4
    go_wp2_with fail
    refine (skips_p exKw exKw_ok _ rb s T st kIf P1.out (Or.inl (by decide))).mono ?_
    rintro e w2 ⟨rfl, p2, k2⟩
    have bx2 : w2.cell? ⟨w.heap.size, 0, none⟩ = some (.pointer (some ⟨rb, 0, none⟩)) := by
      rw [kept_cell k2 (by omega) (by omega)]
      exact bx1
    have hw2 : w1.heap.size ≤ w2.heap.size := k2.size
    have K2 := hid (K1.out.trans k2)
    have Z2 := hid (Z1.out.kept k2 hr)
    clear P1 K1 Z1 k2 bx1
    cases h1 : isS T st kIf with
    | true =>
      rw [take_yes h1] at p2
      have e4 := HS1.out
      rw [if_pos h1] at e4
      cases hx : expS T n st.up with
      | none => rw [hx] at e4; cases e4
      | some q =>
      obtain ⟨x, s1⟩ := q
      rw [hx] at e4
      dsimp only at e4
      cases hy : expS T n (needS T s1 kThen) with
      | none => rw [hy] at e4; cases e4
      | some q =>
      obtain ⟨y, s2⟩ := q
      rw [hy] at e4
      dsimp only at e4
      cases hw : expS T n (needS T s2 kElse) with
      | none => rw [hw] at e4; cases e4
      | some q =>
      obtain ⟨z, s3⟩ := q
      rw [hw] at e4
      cases e4
      have P2 := hid p2
      have HX := hid hx
      have HY := hid hy
      have HW := hid hw
      clear h1 hx hy hw p2
      go_wp2_with fail
      refine (choice_p T n hl HE.out _ rb s H st.up x y z s1 s2 st' (tk T st.k).pos HX.out HY.out HW.out P2.out Z2.out hr).mono ?_
      rintro e w3 ho
      have HO := hid (EOut.via (k0 := st.k) K2.out ho (by show st.k ≤ st.k + 1; omega))
      rcases ho with ⟨_, (⟨v, H', m, rfl, _⟩ | ⟨_, bb, rfl, _⟩)⟩
      · go_wp2
        go_ret
        exact HO.out
      · unfold refusal at HO ⊢
        go_wp2
        exact ⟨rfl, HO.out⟩
    | false =>
    rw [take_no h1] at p2
    have e4 := HS1.out
    rw [if_neg (by rw [h1]; decide)] at e4
    have HS2 := hid e4
    have P2 := hid p2
    clear HS1 h1 p2 e4
    go_wp2_with fail
    refine (skips_p exKw exKw_ok _ rb s T st kLet P2.out (Or.inl (by decide))).mono ?_
    rintro e w3 ⟨rfl, p3, k3⟩
    have bx3 : w3.cell? ⟨w.heap.size, 0, none⟩ = some (.pointer (some ⟨rb, 0, none⟩)) := by
      rw [kept_cell k3 (by omega) (by omega)]
      exact bx2
    have hw3 : w2.heap.size ≤ w3.heap.size := k3.size
    have K3 := hid (K2.out.trans k3)
    have Z3 := hid (Z2.out.kept k3 hr)
    clear P2 K2 Z2 k3 bx2
    cases h1 : isS T st kLet with
    | true =>
      rw [take_yes h1] at p3
      have e4 := HS2.out
      rw [if_pos h1] at e4
      have HS3 := hid e4
      have P3 := hid p3
      clear HS2 h1 p3 e4
      go_wp2_with fail
      refine (skips_p exKw exKw_ok _ rb s T st.up kRec P3.out (Or.inl (by decide))).mono ?_
      rintro e w4 ⟨rfl, p4, k4⟩
      have bx4 : w4.cell? ⟨w.heap.size, 0, none⟩ = some (.pointer (some ⟨rb, 0, none⟩)) := by
        rw [kept_cell k4 (by omega) (by omega)]
        exact bx3
      have hw4 : w3.heap.size ≤ w4.heap.size := k4.size
      have K4 := hid (K3.out.trans k4)
      have Z4 := hid (Z3.out.kept k4 hr)
      clear P3 K3 Z3 k4 bx3
      cases h1 : isS T st.up kRec with
      | true =>
        have e4 := HS3.out
        rw [if_pos h1] at e4
        cases hx : boundS (expS T n) T ⟨kRec, [], [], (tk T st.k).pos⟩ (takeS T st.up kRec) with
        | none => rw [hx] at e4; cases e4
        | some q =>
        obtain ⟨x, s1⟩ := q
        rw [hx] at e4
        dsimp only at e4
        cases hy : bindsS (expS T n) T (T.length + 1) x s1 with
        | none => rw [hy] at e4; cases e4
        | some q =>
        obtain ⟨y, s2⟩ := q
        rw [hy] at e4
        dsimp only at e4
        cases hw : expS T n (needS T s2 kIn) with
        | none => rw [hw] at e4; cases e4
        | some q =>
        obtain ⟨z, s3⟩ := q
        rw [hw] at e4
        cases e4
        rw [take_yes h1] at p4 hx
        have P4 := hid p4
        have HX := hid hx
        have HY := hid hy
        have HW := hid hw
        clear h1 hx hy hw p4
        go_wp2_with fail
        refine (letRec_p T n hl HE.out _ rb s H st.up.up x y z s1 s2 st' (tk T st.k).pos HX.out HY.out HW.out P4.out Z4.out hr).mono ?_
        rintro e w5 ho
        have HO := hid (EOut.via (k0 := st.k) K4.out ho (by show st.k ≤ st.k + 1 + 1; omega))
        rcases ho with ⟨_, (⟨v, H', m, rfl, _⟩ | ⟨_, bb, rfl, _⟩)⟩
        · go_wp2
          go_ret
          exact HO.out
        · unfold refusal at HO ⊢
          go_wp2
          exact ⟨rfl, HO.out⟩
      | false =>
        have e4 := HS3.out
        rw [if_neg (by rw [h1]; decide), take_no h1] at e4
        rw [take_no h1] at p4
        unfold boundS at e4
        rw [twice_same (by simp)] at e4
        dsimp only at e4
        cases hx : expS T n (needS T (needS T st.up kName) kEq) with
        | none => rw [hx] at e4; cases e4
        | some q =>
        obtain ⟨x, s1⟩ := q
        rw [hx] at e4
        dsimp only at e4
        have e2 : bindsS (expS T n) T (T.length + 1) ⟨kLet, [] ++ [(tk T st.up.k).s], [] ++ [x], (tk T st.k).pos⟩ s1 = some (⟨kLet, [] ++ [(tk T st.up.k).s], [] ++ [x], (tk T st.k).pos⟩, s1) := by
          rw [bindsS, if_neg]
          rintro ⟨e, _⟩
          exact absurd e (by show ¬ kLet = kRec; decide)
        rw [e2] at e4
        dsimp only at e4
        cases hw : expS T n (needS T s1 kIn) with
        | none => rw [hw] at e4; cases e4
        | some q =>
        obtain ⟨z, s3⟩ := q
        rw [hw] at e4
        cases e4
        have P4 := hid p4
        have HX := hid hx
        have HW := hid hw
        clear h1 hx hw p4 e2
        go_wp2_with fail
        refine (let_p T n hl HE.out _ rb s H st.up x z s1 st' (tk T st.k).pos HX.out HW.out P4.out Z4.out hr).mono ?_
        rintro e w5 ho
        have HO := hid (EOut.via (k0 := st.k) K4.out ho (by show st.k ≤ st.k + 1; omega))
        rcases ho with ⟨_, (⟨v, H', m, rfl, _⟩ | ⟨_, bb, rfl, _⟩)⟩
        · go_wp2
          go_ret
          exact HO.out
        · unfold refusal at HO ⊢
          go_wp2
          exact ⟨rfl, HO.out⟩
    | false =>
    rw [take_no h1] at p3
    have e4 := HS2.out
    rw [if_neg (by rw [h1]; decide)] at e4
    cases hx : atomS (expS T n) T st with
    | none => rw [hx] at e4; cases e4
    | some q =>
    obtain ⟨x, s1⟩ := q
    rw [hx] at e4
    have P3 := hid p3
    have HX := hid hx
    have HA := hid e4
    clear h1 hx p3 e4 HS2
    go_wp2_with fail
    refine (applied_p T n hl HE.out _ rb s H st x s1 ex st' HX.out HA.out P3.out Z3.out hr).mono ?_
    rintro e w5 ho
    have HO := hid (EOut.via (k0 := st.k) K3.out ho (Nat.le_refl _))
    rcases ho with ⟨_, (⟨v, H', m, rfl, _⟩ | ⟨_, bb, rfl, _⟩)⟩
    · go_wp2
      go_ret
      exact HO.out
    · unfold refusal at HO ⊢
      go_wp2
      exact ⟨rfl, HO.out⟩
end Go.Proofs.YtcdijppegfcoaaaGreatDoor

/-
  OUR OWN TEXT. The program's reader: the way out at a refusal.
-/
namespace Go.Proofs.YtcdijppegfcoaaaGreatDoor
open Go.RowKit
theorem catch_idle (p q : Addr) (w : World) :
    CallsD Tryz.prog 129 #[.pointer (some p), .pointer (some q)] .returning w fun e u' w' => e = .returned (.tuple #[]) ∧ u' = .returning ∧ w' = w := by
  refine callsD_of_wpS Tryz.func129 rfl fun c₀ cs hu => ?_
  apply wpS_seq
  apply wpS_region
  simp [wpOpsS, go_sem, recoverD, hu, Tryz.ntmps129, Exit.thenS]
  refine wpS_of_wp ?_
  go_wp2
  cases c₀
  simp_all [bodyPostS, results, Tryz.results129]

theorem frozen_past {w : World} {b o : Nat} {v : Value} (h : w.cell? ⟨b, o, none⟩ = some v) (hf : w.frozen? ⟨b, o, none⟩ = false) (x : Obj) : (w.alloc x).frozen? ⟨b, o, none⟩ = false := by
  have hl : b < w.heap.size := by
    rcases Nat.lt_or_ge b w.heap.size with h' | h'
    · exact h'
    · simp [World.cell?, Array.getElem?_eq_none h'] at h
  rw [World.frozen?_of_block (a := ⟨b, o, none⟩) (Below.heap_alloc _ _ _ hl)]
  exact hf
theorem assert_refusal (v : Value) (w : World) : (Instr.typeAssert (.iface 268 v) 20 268 true).run Tryz.prog w = .ok (.tuple #[v, .bool true]) w := by kernel_rfl

set_option maxRecDepth 100000 in
theorem catch_refusal (p q : Nat) (t b : TypeId) (v0 v1 : Value) (w : World) (h0 : w.cell? ⟨p, 0, none⟩ = some v0) (f0 : w.frozen? ⟨p, 0, none⟩ = false) (h1 : w.cell? ⟨q, 0, none⟩ = some v1) (f1 : w.frozen? ⟨q, 0, none⟩ = false) (hpq : p ≠ q) (hpl : p < w.heap.size) (hql : q < w.heap.size) :
    CallsD Tryz.prog 129 #[.pointer (some ⟨p, 0, none⟩), .pointer (some ⟨q, 0, none⟩)] (.panicking [{ v := .iface 268 (.agg #[(.iface t (.pointer (some ⟨b, 0, none⟩)))]), recovered := false }]) w fun e u' w' =>
      e = .returned (.tuple #[]) ∧ u' = .panicking [{ v := .iface 268 (.agg #[(.iface t (.pointer (some ⟨b, 0, none⟩)))]), recovered := true }] ∧ w' = (((w.setCell ⟨p, 0, none⟩ .nilIface).setCell ⟨q, 0, none⟩ (.iface t (.pointer (some ⟨b, 0, none⟩)))).alloc (.cells #[(.iface t (.pointer (some ⟨b, 0, none⟩)))] 268)).drew := by
  have a0 := fun x => cell_past h0 x
  have a1 := fun x => cell_past h1 x
  have g0 := fun x => frozen_past h0 f0 x
  have g1 := fun x => frozen_past h1 f1 x
  have hqp : q ≠ p := fun e => hpq e.symm
  have hp1 : p ≠ w.heap.size := by omega
  have hp2 : w.heap.size ≠ p := by omega
  have hq1 : q ≠ w.heap.size := by omega
  have hq2 : w.heap.size ≠ q := by omega
  refine callsD_of_wpS Tryz.func129 rfl fun c₀ cs hu => ?_
  have e0 : (#[Value.pointer (some ⟨p, 0, none⟩), .pointer (some ⟨q, 0, none⟩)] ++ Array.replicate (Tryz.f129.ntmps - (#[Value.pointer (some ⟨p, 0, none⟩), .pointer (some ⟨q, 0, none⟩)] : Array Value).size) undef) = #[Value.pointer (some ⟨p, 0, none⟩), .pointer (some ⟨q, 0, none⟩), undef, undef, undef, undef, undef, undef, undef, undef, undef, undef, undef, undef, undef] := rfl
  rw [e0]
  clear e0
  apply wpS_seq
  apply wpS_region
  simp [wpOpsS, go_sem, recoverD, hu, Exit.thenS]
  refine wpS_of_wp ?_
  have hta := assert_refusal
  go_wp2_with fail
  go_region
  refine ⟨rfl, _, rfl, .tuple #[], ?_, rfl, rfl, rfl⟩
  simp [results, Tryz.results129]

set_option maxRecDepth 100000 in
set_option maxHeartbeats 2000000 in
theorem read1_p (T : List Tok) (hl : T.length ≤ 400) (n : Nat) (w : World) (rb : Nat) (s : ByteArray) (H : Nat → Option Obj) (st : St) (ex : Ex) (st' : St) (hs : expS T n st = some (ex, st')) (h : PSt exKw w rb s T st) (hz : Fz H w) (hr : H rb = none) :
    Calls Tryz.prog 95 #[.pointer (some ⟨rb, 0, none⟩)] w fun e w' => EOut w w' rb s T H st.k st' e ex := by
  have HC := hid (exp_p T hl n w rb s H st ex st' hs h hz hr)
  unfold rdV at HC
  clear hs h hz
  go_enter Tryz.func95, Tryz.ntmps95
  go_wp2_with fail
  refine HC.out.mono ?_
  rintro e w5 ho
  have HO := hid ho
  rcases ho with ⟨_, (⟨v, H', m, rfl, _⟩ | ⟨_, bb, rfl, _⟩)⟩
  · go_wp2
    go_ret
    exact HO.out
  · unfold refusal at HO ⊢
    go_wp2
    exact ⟨rfl, HO.out⟩
end Go.Proofs.YtcdijppegfcoaaaGreatDoor

/-
  OUR OWN TEXT. The program's reader: tokens.Whole.
-/
namespace Go.Proofs.YtcdijppegfcoaaaGreatDoor
open Go.RowKit
/-- What Whole leaves. -/
def WOut (w w' : World) (s2 : St) (e : Ending) (ex : Ex) : Prop :=
  w.grownBy w' none ∧ ((s2.bad < 0 ∧ ∃ v H' m, e = .returned (.tuple #[v, .nilIface]) ∧ Fz H' w' ∧ PRep m H' v ex ∧ exDeep m ex ≤ 400) ∨
    (0 ≤ s2.bad ∧ ∃ b, e = .returned (.tuple #[.nilIface, .iface 134 (.pointer (some ⟨b, 0, none⟩))]) ∧ w'.heap[b]? = some (.cells #[.int .i64 s2.bad] 145 (0, 0))))

/-- What the way out leaves in memory. -/
theorem caught {w2 w'' : World} {N bb : Nat} {x : Int} {tx te ts : TypeId} (hw : w'' = (((w2.setCell ⟨N, 0, none⟩ .nilIface).setCell ⟨N + 1, 0, none⟩ (.iface ts (.pointer (some ⟨bb, 0, none⟩)))).alloc (.cells #[.iface ts (.pointer (some ⟨bb, 0, none⟩))] 268)).drew)
    {v0 v1 : Value} (h0 : w2.heap[N]? = some (.cells #[v0] tx (0, 0))) (h1 : w2.heap[N + 1]? = some (.cells #[v1] te (0, 0))) (hb : w2.heap[bb]? = some (.cells #[.int .i64 x] 145 (0, 0))) (hx : tx ≠ 145 := by decide) (he : te ≠ 145 := by decide) :
    w''.cell? ⟨N, 0, none⟩ = some .nilIface ∧ w''.cell? ⟨N + 1, 0, none⟩ = some (.iface ts (.pointer (some ⟨bb, 0, none⟩))) ∧ w''.heap[bb]? = some (.cells #[.int .i64 x] 145 (0, 0)) ∧
      (w2.heap.size ≤ w''.heap.size ∧ w''.os = w2.os ∧ w''.tape = w2.tape ∧ w''.output = w2.output ∧ ∀ k, k < N → w''.heap[k]? = w2.heap[k]?) := by
  have n0 : bb ≠ N := fun e => by rw [e, h0] at hb; simp at hb; exact hx hb.2
  have n1 : bb ≠ N + 1 := fun e => by rw [e, h1] at hb; simp at hb; exact he hb.2
  have l0 := lt_of_block h0
  have l1 := lt_of_block h1
  have lb := lt_of_block hb
  obtain ⟨w3, hw3⟩ : ∃ w3, w3 = (w2.setCell ⟨N, 0, none⟩ .nilIface).setCell ⟨N + 1, 0, none⟩ (.iface ts (.pointer (some ⟨bb, 0, none⟩))) := ⟨_, rfl⟩
  rw [← hw3] at hw
  have s3 : w3.heap.size = w2.heap.size := by rw [hw3]; simp [World.setCell]
  have old : ∀ k, k ≠ N → k ≠ N + 1 → w3.heap[k]? = w2.heap[k]? := fun k e1 e2 => by
    rw [hw3, Below.heap_setCell _ _ _ _ (by show k ≠ N + 1; exact e2), Below.heap_setCell _ _ _ _ (by show k ≠ N; exact e1)]
  have b0 : w3.heap[N]? = some (.cells #[.nilIface] tx (0, 0)) := by
    rw [hw3, Below.heap_setCell _ _ _ _ (by show N ≠ N + 1; omega)]
    simp [World.setCell, Array.getElem?_modify, h0]
  have b1 : w3.heap[N + 1]? = some (.cells #[.iface ts (.pointer (some ⟨bb, 0, none⟩))] te (0, 0)) := by
    have h1' : (w2.setCell ⟨N, 0, none⟩ .nilIface).heap[N + 1]? = some (.cells #[v1] te (0, 0)) := by
      rw [Below.heap_setCell _ _ _ _ (by show N + 1 ≠ N; omega)]
      exact h1
    rw [hw3]
    generalize w2.setCell ⟨N, 0, none⟩ .nilIface = w4 at h1'
    simp [World.setCell, Array.getElem?_modify, h1']
  have up : ∀ k, k < w3.heap.size → w''.heap[k]? = w3.heap[k]? := fun k hk => by rw [hw]; exact Below.heap_alloc _ _ _ hk
  refine ⟨?_, ?_, ?_, ?_, by rw [hw, hw3]; rfl, by rw [hw, hw3]; rfl, by rw [hw, hw3]; rfl, fun k hk => ?_⟩
  · simp [World.cell?, up N (by omega), b0]
  · simp [World.cell?, up (N + 1) (by omega), b1]
  · rw [up bb (by omega), old bb n0 n1]; exact hb
  · rw [hw]; simp; omega
  · rw [up k (by omega), old k (by omega) (by omega)]
theorem stored {w2 w'' : World} {N : Nat} {v u v0 v1 : Value} {tx te : TypeId} (hw : w'' = ((w2.setCell ⟨N, 0, none⟩ v).setCell ⟨N, 0, none⟩ v).setCell ⟨N + 1, 0, none⟩ u) (h0 : w2.heap[N]? = some (.cells #[v0] tx (0, 0))) (h1 : w2.heap[N + 1]? = some (.cells #[v1] te (0, 0))) :
    w''.cell? ⟨N, 0, none⟩ = some v ∧ w''.cell? ⟨N + 1, 0, none⟩ = some u ∧ (w2.heap.size ≤ w''.heap.size ∧ w''.os = w2.os ∧ w''.tape = w2.tape ∧ w''.output = w2.output ∧ ∀ k, k < N → w''.heap[k]? = w2.heap[k]?) := by
  have b0 : w''.heap[N]? = some (.cells #[v] tx (0, 0)) := by
    rw [hw, Below.heap_setCell _ _ _ _ (by show N ≠ N + 1; omega)]
    simp [World.setCell, Array.getElem?_modify, h0]
  have b1 : w''.heap[N + 1]? = some (.cells #[u] te (0, 0)) := by
    have h1' : ((w2.setCell ⟨N, 0, none⟩ v).setCell ⟨N, 0, none⟩ v).heap[N + 1]? = some (.cells #[v1] te (0, 0)) := by
      rw [Below.heap_setCell _ _ _ _ (by show N + 1 ≠ N; omega), Below.heap_setCell _ _ _ _ (by show N + 1 ≠ N; omega)]
      exact h1
    rw [hw]
    generalize (w2.setCell ⟨N, 0, none⟩ v).setCell ⟨N, 0, none⟩ v = w4 at h1'
    simp [World.setCell, Array.getElem?_modify, h1']
  refine ⟨by simp [World.cell?, b0], by simp [World.cell?, b1], by rw [hw]; simp [World.setCell], by rw [hw]; rfl, by rw [hw]; rfl, by rw [hw]; rfl, fun k hk => ?_⟩
  rw [hw, Below.heap_setCell _ _ _ _ (by show k ≠ N + 1; omega), Below.heap_setCell _ _ _ _ (by show k ≠ N; omega), Below.heap_setCell _ _ _ _ (by show k ≠ N; omega)]
theorem whole_grown {w w1 w2 w'' : World} {o : Obj} (h1 : w.grownBy w1 none) (hl : w.heap.size ≤ w1.heap.size) (h2 : Kept w1.heap.size (w1.alloc o) w2) (h3 : w2.heap.size ≤ w''.heap.size ∧ w''.os = w2.os ∧ w''.tape = w2.tape ∧ w''.output = w2.output ∧ ∀ k, k < w.heap.size → w''.heap[k]? = w2.heap[k]?) : w.grownBy w'' none := by
  obtain ⟨q1, q2, q3, q4, q5⟩ := h3
  refine ⟨q2.trans (h2.os.trans h1.os), q3.trans (h2.tape.trans h1.tape), q4.trans (h2.output.trans h1.output), ?_, fun k hk _ => ?_⟩
  · have := h2.size
    simp at this
    omega
  · rw [q5 k hk, h2.block k (by simp; omega) (by simp; omega), Below.heap_alloc _ _ _ (by omega), h1.block k hk (by simp)]

set_option maxRecDepth 100000 in
set_option maxHeartbeats 4000000 in
theorem whole_p (s : ByteArray) (hs : s.size ≤ 300) (w : World) (n : Nat) (ex : Ex) (s1 : St) (hx : expS (toksOf exKw s) n ⟨0, -1⟩ = some (ex, s1)) :
    Calls Tryz.prog 94 #[.string s, .func (.func 95) #[] #[]] w fun e w' => WOut w w' (needS (toksOf exKw s) s1 kEnd) e ex := by
  have hmf : ∀ (fn : Fn) (first cap : Array Value) (w : World), (Instr.makeFunc fn first cap).run Tryz.prog w = .ok (.func fn first cap) w := fun _ _ _ _ => rfl
  have hsl : s.data.toList.length = s.size := by rw [Array.length_toList]; rfl
  obtain ⟨T, hT⟩ : ∃ T, T = toksOf exKw s := ⟨_, rfl⟩
  have hTl : T.length ≤ 400 := by rw [hT]; have := toksOf_len exKw s; omega
  have hat : At exKw s.data.toList T 0 (upto isB s.data.toList 0) := by
    rw [hT]
    have := At.start exKw s.data.toList
    rw [hsl] at this
    exact this
  rw [← hT] at hx ⊢
  have hz300 : ((s.size : Nat) : Int) ≤ 300 := by omega
  have HX := hid hx
  have HAT := hid hat
  clear hx hat hT
  go_enter_defers Tryz.func94, Tryz.ntmps94
  go_wp2_with fail
  refine (next_any s 0 (by omega) hs _).mono ?_
  rintro e w1 ⟨rfl, g1⟩
  dsimp only [tokV]
  have ra1 : w1.heap[w.heap.size]? = some (.cells #[.nilIface] 130 (0, 0)) := by
    rw [g1.block _ (by simp; omega) (by simp), Below.heap_alloc _ _ _ (by simp)]
    exact heap_alloc_new _ _
  have rb1 : w1.heap[w.heap.size + 1]? = some (.cells #[.nilIface] 72 (0, 0)) := by
    rw [g1.block _ (by simp) (by simp)]
    exact heap_alloc_at _ _ _ (by simp)
  have hw1 := lt_of_block rb1
  have G1 := hid (((World.grownBy_alloc w (.cells #[.nilIface] 130) none).trans (World.grownBy_alloc _ (.cells #[.nilIface] 72) none)).trans g1)
  obtain ⟨J, hJ⟩ : ∃ J, J = upto isB s.data.toList 0 := ⟨_, rfl⟩
  rw [← hJ] at HAT ⊢
  clear g1 hJ
  have PS : Hid (PSt exKw (w1.alloc (.cells #[.string s, .int .i64 ((nxK s.data.toList J : Nat) : Int), .string (B (nxT s.data.toList J)), .int .i64 (J : Int)] 274)) w1.heap.size s T ⟨0, -1⟩) :=
    ⟨by decide, ⟨J, HAT.out, heap_alloc_new _ _⟩, hs⟩
  go_wp2_with fail
  refine (read1_p T hTl n _ w1.heap.size s (fun _ => none) ⟨0, -1⟩ ex s1 HX.out PS.out (fz_none _) rfl).mono ?_
  rintro e w2 ⟨k2, (⟨v, H2, m, rfl, p2, z2, e2, r2, d2⟩ | ⟨hb, bb, rfl, hrf⟩)⟩
  case inr =>
    have ra2 : w2.heap[w.heap.size]? = some (.cells #[.nilIface] 130 (0, 0)) := by
      rw [k2.block _ (by simp; omega) (by simp; omega), Below.heap_alloc _ _ _ (by omega)]
      exact ra1
    have rb2 : w2.heap[w.heap.size + 1]? = some (.cells #[.nilIface] 72 (0, 0)) := by
      rw [k2.block _ (by simp; omega) (by simp; omega), Below.heap_alloc _ _ _ (by omega)]
      exact rb1
    have K2 := hid k2
    have HB := hid hb
    have HRF := hid hrf
    clear k2 hb hrf ra1 rb1
    unfold refusal
    go_wp2
    refine leaves_cons (f := 129) (args := #[.pointer (some ⟨w.heap.size, 0, none⟩), .pointer (some ⟨w.heap.size + 1, 0, none⟩)]) (by simp) (by simp [go_sem]) ?_
    refine (catch_refusal w.heap.size (w.heap.size + 1) 134 bb .nilIface .nilIface w2 (by simp [World.cell?, ra2]) (by simp [World.frozen?, ra2]) (by simp [World.cell?, rb2]) (by simp [World.frozen?, rb2]) (by omega) (lt_of_block ra2) (lt_of_block rb2)).mono ?_
    rintro e u' w'' ⟨rfl, rfl, hw''⟩
    obtain ⟨q0, q1, q2, q3⟩ := caught hw'' ra2 rb2 HRF.out
    refine ⟨.tuple #[.nilIface, .iface 134 (.pointer (some ⟨bb, 0, none⟩))], ?_, ?_⟩
    · simp [results, Tryz.results94, go_sem, q0, q1]
    · have e5 := need_bad (T := T) (x := kEnd) HB.out
      refine ⟨whole_grown G1.out (by omega) K2.out q3, Or.inr ⟨by rw [e5]; exact HB.out, bb, rfl, by rw [e5]; exact q2⟩⟩
  case inl =>
    obtain ⟨t1, b1, ht1, rfl, hb1, hc1⟩ := r2.dat z2
    have ra2 : w2.heap[w.heap.size]? = some (.cells #[.nilIface] 130 (0, 0)) := by
      rw [k2.block _ (by simp; omega) (by simp; omega), Below.heap_alloc _ _ _ (by omega)]
      exact ra1
    have rb2 : w2.heap[w.heap.size + 1]? = some (.cells #[.nilIface] 72 (0, 0)) := by
      rw [k2.block _ (by simp; omega) (by simp; omega), Below.heap_alloc _ _ _ (by omega)]
      exact rb1
    have la2 := lt_of_block ra2
    have lb2 := lt_of_block rb2
    have a0 : w2.cell? ⟨w.heap.size, 0, none⟩ = some .nilIface := by simp [World.cell?, ra2]
    have a1 : w2.cell? ⟨w.heap.size + 1, 0, none⟩ = some .nilIface := by simp [World.cell?, rb2]
    have u0 : w2.frozen? ⟨w.heap.size, 0, none⟩ = false := by simp [World.frozen?, ra2]
    have u1 : w2.frozen? ⟨w.heap.size + 1, 0, none⟩ = false := by simp [World.frozen?, rb2]
    have hkk := p2.klt
    have hn2 := p2.neg
    obtain ⟨J2, hat2, hrd2⟩ := p2.place
    have hrl := lt_of_block hrd2
    have hend := (asked exKw exKw_ok s.data.toList J2 hat2.1).theEnd
    have hpos := (asked exKw exKw_ok s.data.toList J2 hat2.1).pos
    rw [← hat2.tk] at hend hpos
    obtain ⟨c0, c1, c2, c3, f1, f2, f3⟩ := four_p hrd2
    have hne : w1.heap.size ≠ w.heap.size := by omega
    have hne2 : w.heap.size ≠ w1.heap.size := by omega
    have K2 := hid k2
    have Z2 := hid z2
    have E2 := hid e2
    have R2 := hid r2
    have D2 := hid d2
    have RD := hid hrd2
    have RA := hid ra2
    have RB := hid rb2
    have hd400 : exDeep m ex ≤ 400 := by have := d2; simp at this; omega
    have HEND := hid hend
    have HPOS := hid hpos
    have HN2 := hid hn2
    clear k2 p2 z2 e2 r2 d2 ra1 rb1 ra2 rb2 hb1 hc1 hat2 hrd2 hend hpos c0 c2 c3 f1 f2 f3 hn2
    by_cases hk : nxK s.data.toList J2 = 0
    · rw [hk] at c1
      have HK := hid hk
      clear hk
      go_wp2
      refine leaves_cons (f := 129) (args := #[.pointer (some ⟨w.heap.size, 0, none⟩), .pointer (some ⟨w.heap.size + 1, 0, none⟩)]) (by simp) (by simp [go_sem]) ?_
      refine (catch_idle ⟨w.heap.size, 0, none⟩ ⟨w.heap.size + 1, 0, none⟩ _).mono ?_
      rintro e u' w'' ⟨rfl, rfl, hw''⟩
      obtain ⟨q0, q1, q3⟩ := stored hw'' RA.out RB.out
      refine ⟨.tuple #[(.iface t1 (.pointer (some ⟨b1, 0, none⟩))), .nilIface], ?_, ?_⟩
      · simp [results, Tryz.results94, go_sem, q0, q1]
      · have hh0 : H2 w.heap.size = none := E2.out.2 _ (by simp; omega)
        have hh1 : H2 (w.heap.size + 1) = none := E2.out.2 _ (by simp; omega)
        have e5 : (needS T s1 kEnd).bad < 0 := by
          have hi : isS T s1 kEnd = true := by simp [isS, HN2.out, HEND.out.1 HK.out]
          rw [need_yes hi, take_yes hi]
          exact HN2.out
        refine ⟨whole_grown G1.out (by omega) K2.out q3, Or.inl ⟨e5, _, H2, m, rfl, ?_, R2.out, hd400⟩⟩
        rw [hw'']
        exact ((Z2.out.set hh0 _ _).set hh0 _ _).set hh1 _ _
    · have hq : (((nxK s.data.toList J2 : Nat) : Int) == 0) = false := by simp; omega
      have HK := hid hk
      clear hk
      generalize nxK s.data.toList J2 = kk at *
      go_wp2_with fail
      have rd3 : Rdr (w2.setCell ⟨w.heap.size, 0, none⟩ (.iface t1 (.pointer (some ⟨b1, 0, none⟩)))) w1.heap.size s J2 := by
        unfold Rdr
        rw [Below.heap_setCell _ _ _ _ (by show w1.heap.size ≠ w.heap.size; omega)]
        exact RD.out
      refine (refuse_p _ w1.heap.size s J2 rd3).mono ?_
      rintro e w4 ⟨⟨bb, rfl, hbb⟩, g4⟩
      have ra4 : w4.heap[w.heap.size]? = some (.cells #[(.iface t1 (.pointer (some ⟨b1, 0, none⟩)))] 130 (0, 0)) := by
        rw [g4.block _ (by simp [World.setCell]; omega) (by simp)]
        simp [World.setCell, Array.getElem?_modify, RA.out]
      have rb4 : w4.heap[w.heap.size + 1]? = some (.cells #[.nilIface] 72 (0, 0)) := by
        rw [g4.block _ (by simp [World.setCell]; omega) (by simp), Below.heap_setCell _ _ _ _ (by show w.heap.size + 1 ≠ w.heap.size; omega)]
        exact RB.out
      have HB := hid hbb
      have G4 := hid g4
      clear hbb g4 rd3 a0 a1 u0 u1
      unfold refusal
      go_wp2
      refine leaves_cons (f := 129) (args := #[.pointer (some ⟨w.heap.size, 0, none⟩), .pointer (some ⟨w.heap.size + 1, 0, none⟩)]) (by simp) (by simp [go_sem]) ?_
      refine (catch_refusal w.heap.size (w.heap.size + 1) 134 bb (.iface t1 (.pointer (some ⟨b1, 0, none⟩))) .nilIface w4 (by simp [World.cell?, ra4]) (by simp [World.frozen?, ra4]) (by simp [World.cell?, rb4]) (by simp [World.frozen?, rb4]) (by omega) (lt_of_block ra4) (lt_of_block rb4)).mono ?_
      rintro e u' w'' ⟨rfl, rfl, hw''⟩
      obtain ⟨q0, q1, q2, q3⟩ := caught hw'' ra4 rb4 HB.out
      refine ⟨.tuple #[.nilIface, .iface 134 (.pointer (some ⟨bb, 0, none⟩))], ?_, ?_⟩
      · simp [results, Tryz.results94, go_sem, q0, q1]
      · have hi : isS T s1 kEnd = false := by
          have : ¬ (tk T s1.k).is = kEnd := fun e => HK.out (HEND.out.2 e)
          simp [isS, this]
        have e5 := need_no HN2.out hi
        obtain ⟨r1, r2, r3, r4, r5⟩ := q3
        have q3' : w2.heap.size ≤ w''.heap.size ∧ w''.os = w2.os ∧ w''.tape = w2.tape ∧ w''.output = w2.output ∧ ∀ k, k < w.heap.size → w''.heap[k]? = w2.heap[k]? := by
          have hs4 := G4.out.size
          refine ⟨by simp [World.setCell] at hs4; omega, r2.trans G4.out.os, r3.trans G4.out.tape, r4.trans G4.out.output, fun k hk => ?_⟩
          rw [r5 k hk, G4.out.block k (by simp [World.setCell]; omega) (by simp), Below.heap_setCell _ _ _ _ (by show k ≠ w.heap.size; omega)]
        refine ⟨whole_grown G1.out (by omega) K2.out q3', Or.inr ⟨by rw [e5]; simp, bb, rfl, ?_⟩⟩
        rw [e5]
        show w''.heap[bb]? = some (.cells #[.int .i64 ((tk T s1.k).pos : Int)] _ (0, 0))
        rw [HPOS.out]
        exact q2
end Go.Proofs.YtcdijppegfcoaaaGreatDoor

/-
  OUR OWN TEXT. The typing of a number.
-/
namespace Go.Proofs.YtcdijppegfcoaaaGreatDoor
open Go.RowKit
theorem blk_c {w : World} {b : Nat} {cs : Array Value} {t : TypeId} (h : w.heap[b]? = some (.cells cs t (0, 0))) (i : Nat) {v : Value} (hi : cs[i]? = some v) : w.cell? ⟨b, i, none⟩ = some v := by simp [World.cell?, h, hi]
theorem blk_f {w : World} {b : Nat} {cs : Array Value} {t : TypeId} (h : w.heap[b]? = some (.cells cs t (0, 0))) (i : Nat) : w.frozen? ⟨b, i, none⟩ = false := by simp [World.frozen?, h]
theorem put_c {w : World} {b : Nat} {v0 : Value} {t : TypeId} (h : w.heap[b]? = some (.cells #[v0] t (0, 0))) (v : Value) : (w.setCell ⟨b, 0, none⟩ v).heap[b]? = some (.cells #[v] t (0, 0)) := by simp [World.setCell, Array.getElem?_modify, h]
theorem gset {w wi : World} (hg : w.grownBy wi none) {n : Nat} (hn : w.heap.size ≤ n) (i : Nat) (a : Value) : w.grownBy (wi.setCell ⟨n, i, none⟩ a) none :=
  ⟨hg.os, hg.tape, hg.output, by have := hg.size; simp [World.setCell]; exact this, fun k hk _ => by rw [Below.heap_setCell _ _ _ _ (by show k ≠ n; omega)]; exact hg.block k hk (by simp)⟩
theorem nA_Name (b : Nat) (w : World) : (Instr.typeAssert (.iface 191 (.pointer (some ⟨b, 0, none⟩))) 130 186 true).run Tryz.prog w = .ok (.tuple #[.pointer none, .bool false]) w := by kernel_rfl
theorem nA_Fun (b : Nat) (w : World) : (Instr.typeAssert (.iface 191 (.pointer (some ⟨b, 0, none⟩))) 130 194 true).run Tryz.prog w = .ok (.tuple #[.pointer none, .bool false]) w := by kernel_rfl
theorem nA_If (b : Nat) (w : World) : (Instr.typeAssert (.iface 191 (.pointer (some ⟨b, 0, none⟩))) 130 197 true).run Tryz.prog w = .ok (.tuple #[.pointer none, .bool false]) w := by kernel_rfl
theorem nA_Let (b : Nat) (w : World) : (Instr.typeAssert (.iface 191 (.pointer (some ⟨b, 0, none⟩))) 130 200 true).run Tryz.prog w = .ok (.tuple #[.pointer none, .bool false]) w := by kernel_rfl
theorem nA_LetRec (b : Nat) (w : World) : (Instr.typeAssert (.iface 191 (.pointer (some ⟨b, 0, none⟩))) 130 206 true).run Tryz.prog w = .ok (.tuple #[.pointer none, .bool false]) w := by kernel_rfl
theorem nA_Apply (b : Nat) (w : World) : (Instr.typeAssert (.iface 191 (.pointer (some ⟨b, 0, none⟩))) 130 211 true).run Tryz.prog w = .ok (.tuple #[.pointer none, .bool false]) w := by kernel_rfl
theorem nA_Pair (b : Nat) (w : World) : (Instr.typeAssert (.iface 191 (.pointer (some ⟨b, 0, none⟩))) 130 214 true).run Tryz.prog w = .ok (.tuple #[.pointer none, .bool false]) w := by kernel_rfl
theorem idle_of (q : Addr) (w : World) :
    CallsD Tryz.prog 126 #[.pointer (some q)] .returning w fun e u' w' => e = .returned (.tuple #[]) ∧ u' = .returning ∧ w' = w := by
  refine callsD_of_wpS Tryz.func126 rfl fun c₀ cs hu => ?_
  apply wpS_seq
  apply wpS_region
  simp [wpOpsS, go_sem, recoverD, hu, Tryz.ntmps126, Exit.thenS]
  refine wpS_of_wp ?_
  go_wp2
  cases c₀
  simp_all [bodyPostS, results, Tryz.results126]

end Go.Proofs.YtcdijppegfcoaaaGreatDoor
