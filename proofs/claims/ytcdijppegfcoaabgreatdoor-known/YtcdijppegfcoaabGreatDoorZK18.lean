import Derived.Test.YtcdijppegfcoaabGreatDoorZK17
import Derived.Defers
import Derived.Recover
import Derived.Test.YtcdijppegfcoaabGreatDoorZK09
import Derived.Deep.AppendLies
set_option maxRecDepth 100000
set_option maxHeartbeats 4000000
namespace Go.Proofs.YtcdijppegfcoaabGreatDoor
open Go.RowKit
theorem EOut.via {w w1 w' : World} {rb : Nat} {s : ByteArray} {T : List Tok} {H : Nat → Option Obj} {k0 k1 : Nat} {st' : St} {e : Ending} {ex : Ex} (hk : Kept rb w w1) (h : EOut w1 w' rb s T H k1 st' e ex) (hk0 : k0 ≤ k1) : EOut w w' rb s T H k0 st' e ex := by
  obtain ⟨h1,h2⟩ := h
  refine ⟨hk.trans h1,?_⟩
  rcases h2 with ⟨v,H',m,q1,q2,q3,q4,q5,q6⟩ | h2
  · exact Or.inl ⟨v,H',m,q1,q2,q3,q4.from hk.size,q5,by omega⟩
  · exact Or.inr h2
theorem exp_p (T : List Tok) (hl : T.length ≤ 400) : ∀ n,EXPP T n
  | 0 => fun w rb s H st ex st' hs => by simp [expS] at hs
  | n + 1 => fun w rb s H st ex st' hs h hz hr => by
    have hE := exp_p T hl n
    have hlt := h.lt
    have hneg := h.neg
    rw [expS,if_neg (by omega)] at hs
    have HP := hid (h.alloc (.cells #[.pointer (some ⟨rb,0,none⟩)] 153))
    have HZ := hid (hz.alloc (.cells #[.pointer (some ⟨rb,0,none⟩)] 153))
    have HE := hid hE
    have HS := hid hs
    have K0 := hid ((Kept.refl rb w).alloc (.cells #[.pointer (some ⟨rb,0,none⟩)] 153))
    clear h hz hE hs
    unfold rdV
    go_enter Tryz.func69,Tryz.ntmps69
    go_wp2_with fail
    refine (skips_p exKw exKw_ok _ rb s T st kFun HP.out (Or.inl (by decide))).mono ?_
    rintro e w1 ⟨rfl,p1,k1⟩
    have bx1 : w1.cell? ⟨w.heap.size,0,none⟩ = some (.pointer (some ⟨rb,0,none⟩)) := by
      rw [kept_cell k1 (by simp) (by omega)]
      simp [go_sem]
    have hw1 : w.heap.size < w1.heap.size := by have := k1.size; simp at this; omega
    have K1 := hid (K0.out.trans k1)
    have Z1 := hid (HZ.out.kept k1 hr)
    clear HP HZ K0 k1
    cases h1 : isS T st kFun with
    | true =>
      rw [take_yes h1] at p1
      have e4 := HS.out
      rw [if_pos h1] at e4
      cases hx : expS T n (needS T (needS T st.up kName) kArrow) with
      | none => rw [hx] at e4; cases e4
      | some q =>
      obtain ⟨y,s4⟩ := q
      rw [hx] at e4
      cases e4
      have P1 := hid p1
      have HX := hid hx
      clear h1 hx p1
      go_wp2_with fail
      refine (fun_p T n hl HE.out _ rb s H st.up y st' (tk T st.k).pos HX.out P1.out Z1.out hr).mono ?_
      rintro e w2 ho
      have HO := hid (EOut.via (k0 := st.k) K1.out ho (by show st.k ≤ st.k + 1; omega))
      rcases ho with ⟨_,(⟨v,H',m,rfl,_⟩ | ⟨_,bb,rfl,_⟩)⟩
      · go_wp2
        go_ret
        exact HO.out
      · unfold refusal at HO ⊢
        go_wp2
        exact ⟨rfl,HO.out⟩
    | false =>
    rw [take_no h1] at p1
    have e4 := HS.out
    rw [if_neg (by rw [h1]; decide)] at e4
    have HS1 := hid e4
    have P1 := hid p1
    clear HS h1 p1 e4
    go_wp2_with fail
    refine (skips_p exKw exKw_ok _ rb s T st kIf P1.out (Or.inl (by decide))).mono ?_
    rintro e w2 ⟨rfl,p2,k2⟩
    have bx2 : w2.cell? ⟨w.heap.size,0,none⟩ = some (.pointer (some ⟨rb,0,none⟩)) := by
      rw [kept_cell k2 (by omega) (by omega)]
      exact bx1
    have hw2 : w1.heap.size ≤ w2.heap.size := k2.size
    have K2 := hid (K1.out.trans k2)
    have Z2 := hid (Z1.out.kept k2 hr)
    clear P1 K1 Z1 k2 bx1
    cases h1 : isS T st kIf with
    | true =>
      rw [take_yes h1] at p2
      have e4 := HS1.out
      rw [if_pos h1] at e4
      cases hx : expS T n st.up with
      | none => rw [hx] at e4; cases e4
      | some q =>
      obtain ⟨x,s1⟩ := q
      rw [hx] at e4
      dsimp only at e4
      cases hy : expS T n (needS T s1 kThen) with
      | none => rw [hy] at e4; cases e4
      | some q =>
      obtain ⟨y,s2⟩ := q
      rw [hy] at e4
      dsimp only at e4
      cases hw : expS T n (needS T s2 kElse) with
      | none => rw [hw] at e4; cases e4
      | some q =>
      obtain ⟨z,s3⟩ := q
      rw [hw] at e4
      cases e4
      have P2 := hid p2
      have HX := hid hx
      have HY := hid hy
      have HW := hid hw
      clear h1 hx hy hw p2
      go_wp2_with fail
      refine (choice_p T n hl HE.out _ rb s H st.up x y z s1 s2 st' (tk T st.k).pos HX.out HY.out HW.out P2.out Z2.out hr).mono ?_
      rintro e w3 ho
      have HO := hid (EOut.via (k0 := st.k) K2.out ho (by show st.k ≤ st.k + 1; omega))
      rcases ho with ⟨_,(⟨v,H',m,rfl,_⟩ | ⟨_,bb,rfl,_⟩)⟩
      · go_wp2
        go_ret
        exact HO.out
      · unfold refusal at HO ⊢
        go_wp2
        exact ⟨rfl,HO.out⟩
    | false =>
    rw [take_no h1] at p2
    have e4 := HS1.out
    rw [if_neg (by rw [h1]; decide)] at e4
    have HS2 := hid e4
    have P2 := hid p2
    clear HS1 h1 p2 e4
    go_wp2_with fail
    refine (skips_p exKw exKw_ok _ rb s T st kLet P2.out (Or.inl (by decide))).mono ?_
    rintro e w3 ⟨rfl,p3,k3⟩
    have bx3 : w3.cell? ⟨w.heap.size,0,none⟩ = some (.pointer (some ⟨rb,0,none⟩)) := by
      rw [kept_cell k3 (by omega) (by omega)]
      exact bx2
    have hw3 : w2.heap.size ≤ w3.heap.size := k3.size
    have K3 := hid (K2.out.trans k3)
    have Z3 := hid (Z2.out.kept k3 hr)
    clear P2 K2 Z2 k3 bx2
    cases h1 : isS T st kLet with
    | true =>
      rw [take_yes h1] at p3
      have e4 := HS2.out
      rw [if_pos h1] at e4
      have HS3 := hid e4
      have P3 := hid p3
      clear HS2 h1 p3 e4
      go_wp2_with fail
      refine (skips_p exKw exKw_ok _ rb s T st.up kRec P3.out (Or.inl (by decide))).mono ?_
      rintro e w4 ⟨rfl,p4,k4⟩
      have bx4 : w4.cell? ⟨w.heap.size,0,none⟩ = some (.pointer (some ⟨rb,0,none⟩)) := by
        rw [kept_cell k4 (by omega) (by omega)]
        exact bx3
      have hw4 : w3.heap.size ≤ w4.heap.size := k4.size
      have K4 := hid (K3.out.trans k4)
      have Z4 := hid (Z3.out.kept k4 hr)
      clear P3 K3 Z3 k4 bx3
      cases h1 : isS T st.up kRec with
      | true =>
        have e4 := HS3.out
        rw [if_pos h1] at e4
        cases hx : boundS (expS T n) T ⟨kRec,[],[],(tk T st.k).pos⟩ (takeS T st.up kRec) with
        | none => rw [hx] at e4; cases e4
        | some q =>
        obtain ⟨x,s1⟩ := q
        rw [hx] at e4
        dsimp only at e4
        cases hy : bindsS (expS T n) T (T.length + 1) x s1 with
        | none => rw [hy] at e4; cases e4
        | some q =>
        obtain ⟨y,s2⟩ := q
        rw [hy] at e4
        dsimp only at e4
        cases hw : expS T n (needS T s2 kIn) with
        | none => rw [hw] at e4; cases e4
        | some q =>
        obtain ⟨z,s3⟩ := q
        rw [hw] at e4
        cases e4
        rw [take_yes h1] at p4 hx
        have P4 := hid p4
        have HX := hid hx
        have HY := hid hy
        have HW := hid hw
        clear h1 hx hy hw p4
        go_wp2_with fail
        refine (letRec_p T n hl HE.out _ rb s H st.up.up x y z s1 s2 st' (tk T st.k).pos HX.out HY.out HW.out P4.out Z4.out hr).mono ?_
        rintro e w5 ho
        have HO := hid (EOut.via (k0 := st.k) K4.out ho (by show st.k ≤ st.k + 1 + 1; omega))
        rcases ho with ⟨_,(⟨v,H',m,rfl,_⟩ | ⟨_,bb,rfl,_⟩)⟩
        · go_wp2
          go_ret
          exact HO.out
        · unfold refusal at HO ⊢
          go_wp2
          exact ⟨rfl,HO.out⟩
      | false =>
        have e4 := HS3.out
        rw [if_neg (by rw [h1]; decide),take_no h1] at e4
        rw [take_no h1] at p4
        unfold boundS at e4
        rw [twice_same (by simp)] at e4
        dsimp only at e4
        cases hx : expS T n (needS T (needS T st.up kName) kEq) with
        | none => rw [hx] at e4; cases e4
        | some q =>
        obtain ⟨x,s1⟩ := q
        rw [hx] at e4
        dsimp only at e4
        have e2 : bindsS (expS T n) T (T.length + 1) ⟨kLet,[] ++ [(tk T st.up.k).s],[] ++ [x],(tk T st.k).pos⟩ s1 = some (⟨kLet,[] ++ [(tk T st.up.k).s],[] ++ [x],(tk T st.k).pos⟩,s1) := by
          rw [bindsS,if_neg]
          rintro ⟨e,_⟩
          exact absurd e (by show ¬ kLet = kRec; decide)
        rw [e2] at e4
        dsimp only at e4
        cases hw : expS T n (needS T s1 kIn) with
        | none => rw [hw] at e4; cases e4
        | some q =>
        obtain ⟨z,s3⟩ := q
        rw [hw] at e4
        cases e4
        have P4 := hid p4
        have HX := hid hx
        have HW := hid hw
        clear h1 hx hw p4 e2
        go_wp2_with fail
        refine (let_p T n hl HE.out _ rb s H st.up x z s1 st' (tk T st.k).pos HX.out HW.out P4.out Z4.out hr).mono ?_
        rintro e w5 ho
        have HO := hid (EOut.via (k0 := st.k) K4.out ho (by show st.k ≤ st.k + 1; omega))
        rcases ho with ⟨_,(⟨v,H',m,rfl,_⟩ | ⟨_,bb,rfl,_⟩)⟩
        · go_wp2
          go_ret
          exact HO.out
        · unfold refusal at HO ⊢
          go_wp2
          exact ⟨rfl,HO.out⟩
    | false =>
    rw [take_no h1] at p3
    have e4 := HS2.out
    rw [if_neg (by rw [h1]; decide)] at e4
    cases hx : atomS (expS T n) T st with
    | none => rw [hx] at e4; cases e4
    | some q =>
    obtain ⟨x,s1⟩ := q
    rw [hx] at e4
    have P3 := hid p3
    have HX := hid hx
    have HA := hid e4
    clear h1 hx p3 e4 HS2
    go_wp2_with fail
    refine (applied_p T n hl HE.out _ rb s H st x s1 ex st' HX.out HA.out P3.out Z3.out hr).mono ?_
    rintro e w5 ho
    have HO := hid (EOut.via (k0 := st.k) K3.out ho (Nat.le_refl _))
    rcases ho with ⟨_,(⟨v,H',m,rfl,_⟩ | ⟨_,bb,rfl,_⟩)⟩
    · go_wp2
      go_ret
      exact HO.out
    · unfold refusal at HO ⊢
      go_wp2
      exact ⟨rfl,HO.out⟩
theorem catch_idle (p q : Addr) (w : World) :
    CallsD Tryz.prog 109 #[.pointer (some p),.pointer (some q)] .returning w fun e u' w' => e = .returned (.tuple #[]) ∧ u' = .returning ∧ w' = w := by
  refine callsD_of_wpS Tryz.func109 rfl fun c₀ cs hu => ?_
  apply wpS_seq
  apply wpS_region
  simp [wpOpsS,go_sem,recoverD,hu,Tryz.ntmps109,Exit.thenS]
  refine wpS_of_wp ?_
  go_wp2
  cases c₀
  simp_all [bodyPostS,results,Tryz.results109]
theorem frozen_past {w : World} {b o : Nat} {v : Value} (h : w.cell? ⟨b,o,none⟩ = some v) (hf : w.frozen? ⟨b,o,none⟩ = false) (x : Obj) : (w.alloc x).frozen? ⟨b,o,none⟩ = false := by
  have hl : b < w.heap.size := by
    rcases Nat.lt_or_ge b w.heap.size with h' | h'
    · exact h'
    · simp [World.cell?,Array.getElem?_eq_none h'] at h
  rw [World.frozen?_of_block (a := ⟨b,o,none⟩) (Below.heap_alloc _ _ _ hl)]
  exact hf
theorem assert_refusal (v : Value) (w : World) : (Instr.typeAssert (.iface 202 v) 20 202 true).run Tryz.prog w = .ok (.tuple #[v,.bool true]) w := by kernel_rfl
theorem catch_refusal (p q : Nat) (t b : TypeId) (v0 v1 : Value) (w : World) (h0 : w.cell? ⟨p,0,none⟩ = some v0) (f0 : w.frozen? ⟨p,0,none⟩ = false) (h1 : w.cell? ⟨q,0,none⟩ = some v1) (f1 : w.frozen? ⟨q,0,none⟩ = false) (hpq : p ≠ q) (hpl : p < w.heap.size) (hql : q < w.heap.size) :
    CallsD Tryz.prog 109 #[.pointer (some ⟨p,0,none⟩),.pointer (some ⟨q,0,none⟩)] (.panicking [{ v := .iface 202 (.agg #[(.iface t (.pointer (some ⟨b,0,none⟩)))]),recovered := false }]) w fun e u' w' =>
      e = .returned (.tuple #[]) ∧ u' = .panicking [{ v := .iface 202 (.agg #[(.iface t (.pointer (some ⟨b,0,none⟩)))]),recovered := true }] ∧ w' = (((w.setCell ⟨p,0,none⟩ .nilIface).setCell ⟨q,0,none⟩ (.iface t (.pointer (some ⟨b,0,none⟩)))).alloc (.cells #[(.iface t (.pointer (some ⟨b,0,none⟩)))] 202)).drew := by
  have a0 := fun x => cell_past h0 x
  have a1 := fun x => cell_past h1 x
  have g0 := fun x => frozen_past h0 f0 x
  have g1 := fun x => frozen_past h1 f1 x
  have hqp : q ≠ p := fun e => hpq e.symm
  have hp1 : p ≠ w.heap.size := by omega
  have hp2 : w.heap.size ≠ p := by omega
  have hq1 : q ≠ w.heap.size := by omega
  have hq2 : w.heap.size ≠ q := by omega
  refine callsD_of_wpS Tryz.func109 rfl fun c₀ cs hu => ?_
  have e0 : (#[Value.pointer (some ⟨p,0,none⟩),.pointer (some ⟨q,0,none⟩)] ++ Array.replicate (Tryz.f109.ntmps - (#[Value.pointer (some ⟨p,0,none⟩),.pointer (some ⟨q,0,none⟩)] : Array Value).size) undef) = #[Value.pointer (some ⟨p,0,none⟩),.pointer (some ⟨q,0,none⟩),undef,undef,undef,undef,undef,undef,undef,undef,undef,undef,undef,undef,undef] := rfl
  rw [e0]
  clear e0
  apply wpS_seq
  apply wpS_region
  simp [wpOpsS,go_sem,recoverD,hu,Exit.thenS]
  refine wpS_of_wp ?_
  have hta := assert_refusal
  go_wp2_with fail
  go_region
  refine ⟨rfl,_,rfl,.tuple #[],?_,rfl,rfl,rfl⟩
  simp [results,Tryz.results109]
theorem read1_p (T : List Tok) (hl : T.length ≤ 400) (n : Nat) (w : World) (rb : Nat) (s : ByteArray) (H : Nat → Option Obj) (st : St) (ex : Ex) (st' : St) (hs : expS T n st = some (ex,st')) (h : PSt exKw w rb s T st) (hz : Fz H w) (hr : H rb = none) :
    Calls Tryz.prog 68 #[.pointer (some ⟨rb,0,none⟩)] w fun e w' => EOut w w' rb s T H st.k st' e ex := by
  have HC := hid (exp_p T hl n w rb s H st ex st' hs h hz hr)
  unfold rdV at HC
  clear hs h hz
  go_enter Tryz.func68,Tryz.ntmps68
  go_wp2_with fail
  refine HC.out.mono ?_
  rintro e w5 ho
  have HO := hid ho
  rcases ho with ⟨_,(⟨v,H',m,rfl,_⟩ | ⟨_,bb,rfl,_⟩)⟩
  · go_wp2
    go_ret
    exact HO.out
  · unfold refusal at HO ⊢
    go_wp2
    exact ⟨rfl,HO.out⟩
def WOut (w w' : World) (s2 : St) (e : Ending) (ex : Ex) : Prop :=
  w.grownBy w' none ∧ ((s2.bad < 0 ∧ ∃ v H' m,e = .returned (.tuple #[v,.nilIface]) ∧ Fz H' w' ∧ PRep m H' v ex ∧ exDeep m ex ≤ 400) ∨
    (0 ≤ s2.bad ∧ ∃ b,e = .returned (.tuple #[.nilIface,.iface 81 (.pointer (some ⟨b,0,none⟩))]) ∧ w'.heap[b]? = some (.cells #[.int .i64 s2.bad] 92 (0,0))))
theorem caught {w2 w'' : World} {N bb : Nat} {x : Int} {tx te ts : TypeId} (hw : w'' = (((w2.setCell ⟨N,0,none⟩ .nilIface).setCell ⟨N + 1,0,none⟩ (.iface ts (.pointer (some ⟨bb,0,none⟩)))).alloc (.cells #[.iface ts (.pointer (some ⟨bb,0,none⟩))] 202)).drew)
    {v0 v1 : Value} (h0 : w2.heap[N]? = some (.cells #[v0] tx (0,0))) (h1 : w2.heap[N + 1]? = some (.cells #[v1] te (0,0))) (hb : w2.heap[bb]? = some (.cells #[.int .i64 x] 92 (0,0))) (hx : tx ≠ 92 := by decide) (he : te ≠ 92 := by decide) :
    w''.cell? ⟨N,0,none⟩ = some .nilIface ∧ w''.cell? ⟨N + 1,0,none⟩ = some (.iface ts (.pointer (some ⟨bb,0,none⟩))) ∧ w''.heap[bb]? = some (.cells #[.int .i64 x] 92 (0,0)) ∧
      (w2.heap.size ≤ w''.heap.size ∧ w''.os = w2.os ∧ w''.tape = w2.tape ∧ w''.output = w2.output ∧ ∀ k,k < N → w''.heap[k]? = w2.heap[k]?) := by
  have n0 : bb ≠ N := fun e => by rw [e,h0] at hb; simp at hb; exact hx hb.2
  have n1 : bb ≠ N + 1 := fun e => by rw [e,h1] at hb; simp at hb; exact he hb.2
  have l0 := lt_of_block h0
  have l1 := lt_of_block h1
  have lb := lt_of_block hb
  obtain ⟨w3,hw3⟩ : ∃ w3,w3 = (w2.setCell ⟨N,0,none⟩ .nilIface).setCell ⟨N + 1,0,none⟩ (.iface ts (.pointer (some ⟨bb,0,none⟩))) := ⟨_,rfl⟩
  rw [← hw3] at hw
  have s3 : w3.heap.size = w2.heap.size := by rw [hw3]; simp [World.setCell]
  have old : ∀ k,k ≠ N → k ≠ N + 1 → w3.heap[k]? = w2.heap[k]? := fun k e1 e2 => by
    rw [hw3,Below.heap_setCell _ _ _ _ (by show k ≠ N + 1; exact e2),Below.heap_setCell _ _ _ _ (by show k ≠ N; exact e1)]
  have b0 : w3.heap[N]? = some (.cells #[.nilIface] tx (0,0)) := by
    rw [hw3,Below.heap_setCell _ _ _ _ (by show N ≠ N + 1; omega)]
    simp [World.setCell,Array.getElem?_modify,h0]
  have b1 : w3.heap[N + 1]? = some (.cells #[.iface ts (.pointer (some ⟨bb,0,none⟩))] te (0,0)) := by
    have h1' : (w2.setCell ⟨N,0,none⟩ .nilIface).heap[N + 1]? = some (.cells #[v1] te (0,0)) := by
      rw [Below.heap_setCell _ _ _ _ (by show N + 1 ≠ N; omega)]
      exact h1
    rw [hw3]
    generalize w2.setCell ⟨N,0,none⟩ .nilIface = w4 at h1'
    simp [World.setCell,Array.getElem?_modify,h1']
  have up : ∀ k,k < w3.heap.size → w''.heap[k]? = w3.heap[k]? := fun k hk => by rw [hw]; exact Below.heap_alloc _ _ _ hk
  refine ⟨?_,?_,?_,?_,by rw [hw,hw3]; rfl,by rw [hw,hw3]; rfl,by rw [hw,hw3]; rfl,fun k hk => ?_⟩
  · simp [World.cell?,up N (by omega),b0]
  · simp [World.cell?,up (N + 1) (by omega),b1]
  · rw [up bb (by omega),old bb n0 n1]; exact hb
  · rw [hw]; simp; omega
  · rw [up k (by omega),old k (by omega) (by omega)]
theorem stored {w2 w'' : World} {N : Nat} {v u v0 v1 : Value} {tx te : TypeId} (hw : w'' = ((w2.setCell ⟨N,0,none⟩ v).setCell ⟨N,0,none⟩ v).setCell ⟨N + 1,0,none⟩ u) (h0 : w2.heap[N]? = some (.cells #[v0] tx (0,0))) (h1 : w2.heap[N + 1]? = some (.cells #[v1] te (0,0))) :
    w''.cell? ⟨N,0,none⟩ = some v ∧ w''.cell? ⟨N + 1,0,none⟩ = some u ∧ (w2.heap.size ≤ w''.heap.size ∧ w''.os = w2.os ∧ w''.tape = w2.tape ∧ w''.output = w2.output ∧ ∀ k,k < N → w''.heap[k]? = w2.heap[k]?) := by
  have b0 : w''.heap[N]? = some (.cells #[v] tx (0,0)) := by
    rw [hw,Below.heap_setCell _ _ _ _ (by show N ≠ N + 1; omega)]
    simp [World.setCell,Array.getElem?_modify,h0]
  have b1 : w''.heap[N + 1]? = some (.cells #[u] te (0,0)) := by
    have h1' : ((w2.setCell ⟨N,0,none⟩ v).setCell ⟨N,0,none⟩ v).heap[N + 1]? = some (.cells #[v1] te (0,0)) := by
      rw [Below.heap_setCell _ _ _ _ (by show N + 1 ≠ N; omega),Below.heap_setCell _ _ _ _ (by show N + 1 ≠ N; omega)]
      exact h1
    rw [hw]
    generalize (w2.setCell ⟨N,0,none⟩ v).setCell ⟨N,0,none⟩ v = w4 at h1'
    simp [World.setCell,Array.getElem?_modify,h1']
  refine ⟨by simp [World.cell?,b0],by simp [World.cell?,b1],by rw [hw]; simp [World.setCell],by rw [hw]; rfl,by rw [hw]; rfl,by rw [hw]; rfl,fun k hk => ?_⟩
  rw [hw,Below.heap_setCell _ _ _ _ (by show k ≠ N + 1; omega),Below.heap_setCell _ _ _ _ (by show k ≠ N; omega),Below.heap_setCell _ _ _ _ (by show k ≠ N; omega)]
theorem whole_grown {w w1 w2 w'' : World} {o : Obj} (h1 : w.grownBy w1 none) (hl : w.heap.size ≤ w1.heap.size) (h2 : Kept w1.heap.size (w1.alloc o) w2) (h3 : w2.heap.size ≤ w''.heap.size ∧ w''.os = w2.os ∧ w''.tape = w2.tape ∧ w''.output = w2.output ∧ ∀ k,k < w.heap.size → w''.heap[k]? = w2.heap[k]?) : w.grownBy w'' none := by
  obtain ⟨q1,q2,q3,q4,q5⟩ := h3
  refine ⟨q2.trans (h2.os.trans h1.os),q3.trans (h2.tape.trans h1.tape),q4.trans (h2.output.trans h1.output),?_,fun k hk _ => ?_⟩
  · have := h2.size
    simp at this
    omega
  · rw [q5 k hk,h2.block k (by simp; omega) (by simp; omega),Below.heap_alloc _ _ _ (by omega),h1.block k hk (by simp)]
theorem whole_p (s : ByteArray) (hs : s.size ≤ 300) (w : World) (n : Nat) (ex : Ex) (s1 : St) (hx : expS (toksOf exKw s) n ⟨0,-1⟩ = some (ex,s1)) :
    Calls Tryz.prog 67 #[.string s,.func (.func 68) #[] #[]] w fun e w' => WOut w w' (needS (toksOf exKw s) s1 kEnd) e ex := by
  have hmf : ∀ (fn : Fn) (first cap : Array Value) (w : World),(Instr.makeFunc fn first cap).run Tryz.prog w = .ok (.func fn first cap) w := fun _ _ _ _ => rfl
  have hsl : s.data.toList.length = s.size := by rw [Array.length_toList]; rfl
  obtain ⟨T,hT⟩ : ∃ T,T = toksOf exKw s := ⟨_,rfl⟩
  have hTl : T.length ≤ 400 := by rw [hT]; have := toksOf_len exKw s; omega
  have hat : At exKw s.data.toList T 0 (upto isB s.data.toList 0) := by
    rw [hT]
    have := At.start exKw s.data.toList
    rw [hsl] at this
    exact this
  rw [← hT] at hx ⊢
  have hz300 : ((s.size : Nat) : Int) ≤ 300 := by omega
  have HX := hid hx
  have HAT := hid hat
  clear hx hat hT
  go_enter_defers Tryz.func67,Tryz.ntmps67
  go_wp2_with fail
  refine (next_any s 0 (by omega) hs _).mono ?_
  rintro e w1 ⟨rfl,g1⟩
  dsimp only [tokV]
  have ra1 : w1.heap[w.heap.size]? = some (.cells #[.nilIface] 101 (0,0)) := by
    rw [g1.block _ (by simp; omega) (by simp),Below.heap_alloc _ _ _ (by simp)]
    exact heap_alloc_new _ _
  have rb1 : w1.heap[w.heap.size + 1]? = some (.cells #[.nilIface] 56 (0,0)) := by
    rw [g1.block _ (by simp) (by simp)]
    exact heap_alloc_at _ _ _ (by simp)
  have hw1 := lt_of_block rb1
  have G1 := hid (((World.grownBy_alloc w (.cells #[.nilIface] 101) none).trans (World.grownBy_alloc _ (.cells #[.nilIface] 56) none)).trans g1)
  obtain ⟨J,hJ⟩ : ∃ J,J = upto isB s.data.toList 0 := ⟨_,rfl⟩
  rw [← hJ] at HAT ⊢
  clear g1 hJ
  have PS : Hid (PSt exKw (w1.alloc (.cells #[.string s,.int .i64 ((nxK s.data.toList J : Nat) : Int),.string (B (nxT s.data.toList J)),.int .i64 (J : Int)] 208)) w1.heap.size s T ⟨0,-1⟩) :=
    ⟨by decide,⟨J,HAT.out,heap_alloc_new _ _⟩,hs⟩
  go_wp2_with fail
  refine (read1_p T hTl n _ w1.heap.size s (fun _ => none) ⟨0,-1⟩ ex s1 HX.out PS.out (fz_none _) rfl).mono ?_
  rintro e w2 ⟨k2,(⟨v,H2,m,rfl,p2,z2,e2,r2,d2⟩ | ⟨hb,bb,rfl,hrf⟩)⟩
  case inr =>
    have ra2 : w2.heap[w.heap.size]? = some (.cells #[.nilIface] 101 (0,0)) := by
      rw [k2.block _ (by simp; omega) (by simp; omega),Below.heap_alloc _ _ _ (by omega)]
      exact ra1
    have rb2 : w2.heap[w.heap.size + 1]? = some (.cells #[.nilIface] 56 (0,0)) := by
      rw [k2.block _ (by simp; omega) (by simp; omega),Below.heap_alloc _ _ _ (by omega)]
      exact rb1
    have K2 := hid k2
    have HB := hid hb
    have HRF := hid hrf
    clear k2 hb hrf ra1 rb1
    unfold refusal
    go_wp2
    refine leaves_cons (f := 109) (args := #[.pointer (some ⟨w.heap.size,0,none⟩),.pointer (some ⟨w.heap.size + 1,0,none⟩)]) (by simp) (by simp [go_sem]) ?_
    refine (catch_refusal w.heap.size (w.heap.size + 1) 81 bb .nilIface .nilIface w2 (by simp [World.cell?,ra2]) (by simp [World.frozen?,ra2]) (by simp [World.cell?,rb2]) (by simp [World.frozen?,rb2]) (by omega) (lt_of_block ra2) (lt_of_block rb2)).mono ?_
    rintro e u' w'' ⟨rfl,rfl,hw''⟩
    obtain ⟨q0,q1,q2,q3⟩ := caught hw'' ra2 rb2 HRF.out
    refine ⟨.tuple #[.nilIface,.iface 81 (.pointer (some ⟨bb,0,none⟩))],?_,?_⟩
    · simp [results,Tryz.results67,go_sem,q0,q1]
    · have e5 := need_bad (T := T) (x := kEnd) HB.out
      refine ⟨whole_grown G1.out (by omega) K2.out q3,Or.inr ⟨by rw [e5]; exact HB.out,bb,rfl,by rw [e5]; exact q2⟩⟩
  case inl =>
    obtain ⟨t1,b1,ht1,rfl,hb1,hc1⟩ := r2.dat z2
    have ra2 : w2.heap[w.heap.size]? = some (.cells #[.nilIface] 101 (0,0)) := by
      rw [k2.block _ (by simp; omega) (by simp; omega),Below.heap_alloc _ _ _ (by omega)]
      exact ra1
    have rb2 : w2.heap[w.heap.size + 1]? = some (.cells #[.nilIface] 56 (0,0)) := by
      rw [k2.block _ (by simp; omega) (by simp; omega),Below.heap_alloc _ _ _ (by omega)]
      exact rb1
    have la2 := lt_of_block ra2
    have lb2 := lt_of_block rb2
    have a0 : w2.cell? ⟨w.heap.size,0,none⟩ = some .nilIface := by simp [World.cell?,ra2]
    have a1 : w2.cell? ⟨w.heap.size + 1,0,none⟩ = some .nilIface := by simp [World.cell?,rb2]
    have u0 : w2.frozen? ⟨w.heap.size,0,none⟩ = false := by simp [World.frozen?,ra2]
    have u1 : w2.frozen? ⟨w.heap.size + 1,0,none⟩ = false := by simp [World.frozen?,rb2]
    have hkk := p2.klt
    have hn2 := p2.neg
    obtain ⟨J2,hat2,hrd2⟩ := p2.place
    have hrl := lt_of_block hrd2
    have hend := (asked exKw exKw_ok s.data.toList J2 hat2.1).theEnd
    have hpos := (asked exKw exKw_ok s.data.toList J2 hat2.1).pos
    rw [← hat2.tk] at hend hpos
    obtain ⟨c0,c1,c2,c3,f1,f2,f3⟩ := four_p hrd2
    have hne : w1.heap.size ≠ w.heap.size := by omega
    have hne2 : w.heap.size ≠ w1.heap.size := by omega
    have K2 := hid k2
    have Z2 := hid z2
    have E2 := hid e2
    have R2 := hid r2
    have D2 := hid d2
    have RD := hid hrd2
    have RA := hid ra2
    have RB := hid rb2
    have hd400 : exDeep m ex ≤ 400 := by have := d2; simp at this; omega
    have HEND := hid hend
    have HPOS := hid hpos
    have HN2 := hid hn2
    clear k2 p2 z2 e2 r2 d2 ra1 rb1 ra2 rb2 hb1 hc1 hat2 hrd2 hend hpos c0 c2 c3 f1 f2 f3 hn2
    by_cases hk : nxK s.data.toList J2 = 0
    · rw [hk] at c1
      have HK := hid hk
      clear hk
      go_wp2
      refine leaves_cons (f := 109) (args := #[.pointer (some ⟨w.heap.size,0,none⟩),.pointer (some ⟨w.heap.size + 1,0,none⟩)]) (by simp) (by simp [go_sem]) ?_
      refine (catch_idle ⟨w.heap.size,0,none⟩ ⟨w.heap.size + 1,0,none⟩ _).mono ?_
      rintro e u' w'' ⟨rfl,rfl,hw''⟩
      obtain ⟨q0,q1,q3⟩ := stored hw'' RA.out RB.out
      refine ⟨.tuple #[(.iface t1 (.pointer (some ⟨b1,0,none⟩))),.nilIface],?_,?_⟩
      · simp [results,Tryz.results67,go_sem,q0,q1]
      · have hh0 : H2 w.heap.size = none := E2.out.2 _ (by simp; omega)
        have hh1 : H2 (w.heap.size + 1) = none := E2.out.2 _ (by simp; omega)
        have e5 : (needS T s1 kEnd).bad < 0 := by
          have hi : isS T s1 kEnd = true := by simp [isS,HN2.out,HEND.out.1 HK.out]
          rw [need_yes hi,take_yes hi]
          exact HN2.out
        refine ⟨whole_grown G1.out (by omega) K2.out q3,Or.inl ⟨e5,_,H2,m,rfl,?_,R2.out,hd400⟩⟩
        rw [hw'']
        exact ((Z2.out.set hh0 _ _).set hh0 _ _).set hh1 _ _
    · have hq : (((nxK s.data.toList J2 : Nat) : Int) == 0) = false := by simp; omega
      have HK := hid hk
      clear hk
      generalize nxK s.data.toList J2 = kk at *
      go_wp2_with fail
      have rd3 : Rdr (w2.setCell ⟨w.heap.size,0,none⟩ (.iface t1 (.pointer (some ⟨b1,0,none⟩)))) w1.heap.size s J2 := by
        unfold Rdr
        rw [Below.heap_setCell _ _ _ _ (by show w1.heap.size ≠ w.heap.size; omega)]
        exact RD.out
      refine (refuse_p _ w1.heap.size s J2 rd3).mono ?_
      rintro e w4 ⟨⟨bb,rfl,hbb⟩,g4⟩
      have ra4 : w4.heap[w.heap.size]? = some (.cells #[(.iface t1 (.pointer (some ⟨b1,0,none⟩)))] 101 (0,0)) := by
        rw [g4.block _ (by simp [World.setCell]; omega) (by simp)]
        simp [World.setCell,Array.getElem?_modify,RA.out]
      have rb4 : w4.heap[w.heap.size + 1]? = some (.cells #[.nilIface] 56 (0,0)) := by
        rw [g4.block _ (by simp [World.setCell]; omega) (by simp),Below.heap_setCell _ _ _ _ (by show w.heap.size + 1 ≠ w.heap.size; omega)]
        exact RB.out
      have HB := hid hbb
      have G4 := hid g4
      clear hbb g4 rd3 a0 a1 u0 u1
      unfold refusal
      go_wp2
      refine leaves_cons (f := 109) (args := #[.pointer (some ⟨w.heap.size,0,none⟩),.pointer (some ⟨w.heap.size + 1,0,none⟩)]) (by simp) (by simp [go_sem]) ?_
      refine (catch_refusal w.heap.size (w.heap.size + 1) 81 bb (.iface t1 (.pointer (some ⟨b1,0,none⟩))) .nilIface w4 (by simp [World.cell?,ra4]) (by simp [World.frozen?,ra4]) (by simp [World.cell?,rb4]) (by simp [World.frozen?,rb4]) (by omega) (lt_of_block ra4) (lt_of_block rb4)).mono ?_
      rintro e u' w'' ⟨rfl,rfl,hw''⟩
      obtain ⟨q0,q1,q2,q3⟩ := caught hw'' ra4 rb4 HB.out
      refine ⟨.tuple #[.nilIface,.iface 81 (.pointer (some ⟨bb,0,none⟩))],?_,?_⟩
      · simp [results,Tryz.results67,go_sem,q0,q1]
      · have hi : isS T s1 kEnd = false := by
          have : ¬ (tk T s1.k).is = kEnd := fun e => HK.out (HEND.out.2 e)
          simp [isS,this]
        have e5 := need_no HN2.out hi
        obtain ⟨r1,r2,r3,r4,r5⟩ := q3
        have q3' : w2.heap.size ≤ w''.heap.size ∧ w''.os = w2.os ∧ w''.tape = w2.tape ∧ w''.output = w2.output ∧ ∀ k,k < w.heap.size → w''.heap[k]? = w2.heap[k]? := by
          have hs4 := G4.out.size
          refine ⟨by simp [World.setCell] at hs4; omega,r2.trans G4.out.os,r3.trans G4.out.tape,r4.trans G4.out.output,fun k hk => ?_⟩
          rw [r5 k hk,G4.out.block k (by simp [World.setCell]; omega) (by simp),Below.heap_setCell _ _ _ _ (by show k ≠ w.heap.size; omega)]
        refine ⟨whole_grown G1.out (by omega) K2.out q3',Or.inr ⟨by rw [e5]; simp,bb,rfl,?_⟩⟩
        rw [e5]
        show w''.heap[bb]? = some (.cells #[.int .i64 ((tk T s1.k).pos : Int)] _ (0,0))
        rw [HPOS.out]
        exact q2
theorem blk_c {w : World} {b : Nat} {cs : Array Value} {t : TypeId} (h : w.heap[b]? = some (.cells cs t (0,0))) (i : Nat) {v : Value} (hi : cs[i]? = some v) : w.cell? ⟨b,i,none⟩ = some v := by simp [World.cell?,h,hi]
theorem blk_f {w : World} {b : Nat} {cs : Array Value} {t : TypeId} (h : w.heap[b]? = some (.cells cs t (0,0))) (i : Nat) : w.frozen? ⟨b,i,none⟩ = false := by simp [World.frozen?,h]
theorem put_c {w : World} {b : Nat} {v0 : Value} {t : TypeId} (h : w.heap[b]? = some (.cells #[v0] t (0,0))) (v : Value) : (w.setCell ⟨b,0,none⟩ v).heap[b]? = some (.cells #[v] t (0,0)) := by simp [World.setCell,Array.getElem?_modify,h]
theorem gset {w wi : World} (hg : w.grownBy wi none) {n : Nat} (hn : w.heap.size ≤ n) (i : Nat) (a : Value) : w.grownBy (wi.setCell ⟨n,i,none⟩ a) none :=
  ⟨hg.os,hg.tape,hg.output,by have := hg.size; simp [World.setCell]; exact this,fun k hk _ => by rw [Below.heap_setCell _ _ _ _ (by show k ≠ n; omega)]; exact hg.block k hk (by simp)⟩
theorem nA_Name (b : Nat) (w : World) : (Instr.typeAssert (.iface 175 (.pointer (some ⟨b,0,none⟩))) 101 157 true).run Tryz.prog w = .ok (.tuple #[.pointer none,.bool false]) w := by kernel_rfl
theorem nA_Fun (b : Nat) (w : World) : (Instr.typeAssert (.iface 175 (.pointer (some ⟨b,0,none⟩))) 101 178 true).run Tryz.prog w = .ok (.tuple #[.pointer none,.bool false]) w := by kernel_rfl
theorem nA_If (b : Nat) (w : World) : (Instr.typeAssert (.iface 175 (.pointer (some ⟨b,0,none⟩))) 101 181 true).run Tryz.prog w = .ok (.tuple #[.pointer none,.bool false]) w := by kernel_rfl
theorem nA_Let (b : Nat) (w : World) : (Instr.typeAssert (.iface 175 (.pointer (some ⟨b,0,none⟩))) 101 184 true).run Tryz.prog w = .ok (.tuple #[.pointer none,.bool false]) w := by kernel_rfl
theorem nA_LetRec (b : Nat) (w : World) : (Instr.typeAssert (.iface 175 (.pointer (some ⟨b,0,none⟩))) 101 190 true).run Tryz.prog w = .ok (.tuple #[.pointer none,.bool false]) w := by kernel_rfl
theorem nA_Apply (b : Nat) (w : World) : (Instr.typeAssert (.iface 175 (.pointer (some ⟨b,0,none⟩))) 101 195 true).run Tryz.prog w = .ok (.tuple #[.pointer none,.bool false]) w := by kernel_rfl
theorem nA_Pair (b : Nat) (w : World) : (Instr.typeAssert (.iface 175 (.pointer (some ⟨b,0,none⟩))) 101 198 true).run Tryz.prog w = .ok (.tuple #[.pointer none,.bool false]) w := by kernel_rfl
theorem idle_of (q : Addr) (w : World) :
    CallsD Tryz.prog 73 #[.pointer (some q)] .returning w fun e u' w' => e = .returned (.tuple #[]) ∧ u' = .returning ∧ w' = w := by
  refine callsD_of_wpS Tryz.func73 rfl fun c₀ cs hu => ?_
  apply wpS_seq
  apply wpS_region
  simp [wpOpsS,go_sem,recoverD,hu,Tryz.ntmps73,Exit.thenS]
  refine wpS_of_wp ?_
  go_wp2
  cases c₀
  simp_all [bodyPostS,results,Tryz.results73]
end Go.Proofs.YtcdijppegfcoaabGreatDoor
namespace Go.Proofs.YtcdijppegfcoaabGreatDoor
open Go.RowKit Go.Shelf
attribute [local go_sem] Oper.semAt_some
theorem NIs.mono {n₀ n₁ : Nat} {W : World} {sv : Value} {zs : List NE} (h : NIs n₀ W sv zs) (hn : n₀ ≤ n₁) : NIs n₁ W sv zs := by
  rcases h with e | ⟨b,cap,e,hb,hc⟩
  · exact .inl e
  · exact .inr ⟨b,cap,e,by omega,hc⟩
def inner (vs : List NE) (nm : List UInt8) : Option NE := vs.reverse.find? fun p => p.1 = nm
def schV (vs : List NE) (nm : List UInt8) (u : Value) : Value := match inner vs nm with | some p => .agg #[p.v] | none => .agg #[u]
theorem bupto_snd {vs : List NE} {k : Nat} (hk : k ≤ vs.length) : (bupto vs vs.length k).map (·.2) = vs.reverse.take k := by
  apply List.ext_getElem
  · simp [bupto]; omega
  · intro i h1 h2
    have h3 : i < k := by simpa [bupto] using h1
    have h4 : vs.length - 1 - i < vs.length := by omega
    simp [bupto,NE.at,List.getElem_reverse,h4]
    rfl
theorem inner_some {vs : List NE} {nm : List UInt8} {k : Nat} (hk : k ≤ vs.length) {ini : List (Nat × NE)} {last : Nat × NE} (e1 : bupto vs vs.length k = ini ++ [last]) (e2 : ∀ p ∈ ini,p.2.1 ≠ nm) (e3 : last.2.1 = nm) : inner vs nm = some last.2 := by
  have h1 := bupto_snd hk
  rw [e1,List.map_append] at h1
  unfold inner
  rw [← List.take_append_drop k vs.reverse,← h1,List.append_assoc,List.find?_append]
  have h2 : (ini.map (·.2)).find? (fun p => decide (p.1 = nm)) = none := by
    rw [List.find?_eq_none]
    intro x hx
    obtain ⟨y,hy,rfl⟩ := List.mem_map.1 hx
    simpa using e2 y hy
  rw [h2]
  simp [e3]
theorem inner_none {vs : List NE} {nm : List UInt8} (h : ∀ p ∈ bupto vs vs.length vs.length,p.2.1 ≠ nm) : inner vs nm = none := by
  have h1 := bupto_snd (vs := vs) (Nat.le_refl _)
  rw [List.take_of_length_le (by simp)] at h1
  unfold inner
  rw [List.find?_eq_none,← h1]
  intro x hx
  obtain ⟨y,hy,rfl⟩ := List.mem_map.1 hx
  simpa using h y hy
theorem scheme_in (F : Fence) (n : Nat) (h3 : F.fn 153) (h6 : F.fn 182) (h8 : F.fn 193) (hro : F.round = none) (hn : 6 ≤ n) (tb : Nat) (a : Option Addr) (len cap : Nat) (env : Value) (u : Value) (vs : List NE) (nm : List UInt8) (hlen : nm.length ≤ 300) (hreach : vs.length * 24 ≤ 140737488351232) (w : World)
    (c4 : w.cell? ⟨tb,4,none⟩ = some (.slice a len cap)) (c3 : w.cell? ⟨tb,3,none⟩ = some env) (hI : NIs w.heap.size w (.slice a len cap) vs) (htl : tb < w.heap.size) (hE : inner vs nm = none → (∃ T0 b0,u = .iface T0 (.pointer (some ⟨b0,0,none⟩))) ∧ ∀ W,Below w.heap.size w W → (Instr.lookup 104 env (.string (B nm)) false).run Tryz.prog W = .ok (.agg #[u]) W) :
    CallsIn F n Tryz.prog 153 #[CP tb,.string (B nm)] w fun e W' => e = .returned (schV vs nm u) ∧ Below w.heap.size w W' := by
  have h1 : 1 ≤ n := by omega
  unfold CP
  refine callsIn_of_wp_marks Tryz.func153 rfl h3 ?_ hro
  simp only [Tryz.ntmps153,List.size_toArray,List.length_cons,List.length_nil,Nat.reduceAdd,Nat.reduceSub,Array.replicate_succ,Array.replicate_zero,List.push_toArray,List.append_toArray,List.nil_append,List.cons_append]
  gi_wp2_with (gi_at_call 182; refine (back_in F (n - 1) h6 hro _ _ _ _).mono ?_; rintro e w' ⟨rfl,rfl⟩)
  have bS := ((Boxed.new w 9 (.string (B nm))).alloc (.cells #[.nilIface] 109)).alloc (.cells #[.slice a len cap] 169)
  have bR := (Boxed.new (w.alloc (.cells #[.string (B nm)] 9)) 109 .nilIface).alloc (.cells #[.slice a len cap] 169)
  have bA := Boxed.new ((w.alloc (.cells #[.string (B nm)] 9)).alloc (.cells #[.nilIface] 109)) 169 (.slice a len cap)
  simp only [World.size_alloc] at bR bA
  have hB0 : Below w.heap.size w (((w.alloc (.cells #[.string (B nm)] 9)).alloc (.cells #[.nilIface] 109)).alloc (.cells #[.slice a len cap] 169)) := (((Below.refl _ w).alloc (Nat.le_refl _) _).alloc (by simp) _).alloc (by simp; omega) _
  have hsz : (((w.alloc (.cells #[.string (B nm)] 9)).alloc (.cells #[.nilIface] 109)).alloc (.cells #[.slice a len cap] 169)).heap.size = w.heap.size + 3 := by simp
  obtain ⟨W0,hW0⟩ : ∃ W0,((w.alloc (.cells #[.string (B nm)] 9)).alloc (.cells #[.nilIface] 109)).alloc (.cells #[.slice a len cap] 169) = W0 := ⟨_,rfl⟩
  rw [hW0] at bS bR bA hB0 hsz ⊢
  clear hW0
  refine wpIn_rangeFunc_ownH hro h1 (gf := 193) (lb := #[.pointer (some ⟨w.heap.size + 1 + 1,0,none⟩)]) rfl h8 (enters_of Tryz.func193 (by kernel_rfl) rfl)
    (back_stops F (n - 1) h8 hro (by omega) (w.heap.size + 1 + 1) (w.heap.size + 3) _ vs hreach W0 (by omega) (by omega) bA.cell ((hI.below hB0).mono (by omega))) belowK_t (belowK_b (by omega)) (Below.refl _ _) (fun _ => rfl)
    (fun pre W => ((∀ p ∈ pre,p.2.1 ≠ nm) ∧ Boxed W w.heap.size 9 (.string (B nm)) ∧ Boxed W (w.heap.size + 1) 109 .nilIface) ∧ Below (w.heap.size + 3) W0 W)
    (fun c pre W => (c = .ret ∧ ∃ ini last,pre = ini ++ [last] ∧ (∀ p ∈ ini,p.2.1 ≠ nm) ∧ last.2.1 = nm ∧ Boxed W (w.heap.size + 1) 109 last.2.v) ∧ Below w.heap.size w W)
    (OwnFrom.and (Own.from (fun s A B row hs hg hr => ⟨hs.1,boxed_own _ _ (fun (_ : Unit) => _) () A B row hs.2.1 hg hr,boxed_own _ _ (fun (_ : Unit) => _) () A B row hs.2.2 hg hr⟩) _) (ownFrom_below (by omega) (by omega)))
    (fun c => OwnFrom.and (Own.from (fun s A B row hs hg hr => by obtain ⟨hc,ini,last,e1,e2,e3,e4⟩ := hs; exact ⟨hc,ini,last,e1,e2,e3,boxed_own _ _ (fun (_ : Unit) => _) () A B row e4 hg hr⟩) _) (ownFrom_below (Nat.le_refl _) (by omega)))
    ⟨⟨by simp,bS,bR⟩,Below.refl _ _⟩
    (fun x a' W => ∃ Bx,w.heap.size + 1 < Bx ∧ W.heap[Bx]? = some (.cells #[.string (B x.2.1),.iface x.2.2.1 (.pointer (some ⟨x.2.2.2,0,none⟩))] 338 (0,0)) ∧ a' = { tmps := #[.pointer (some ⟨tb,0,none⟩),.string (B nm),undef,.pointer (some ⟨w.heap.size,0,none⟩),.pointer (some ⟨w.heap.size + 1,0,none⟩),undef,.pointer (some ⟨Bx,0,none⟩),.pointer (some ⟨tb,0,none⟩),.pointer (some ⟨tb,0,none⟩),.pointer (some ⟨tb,4,none⟩),.slice a len cap,.func (.func 193) #[] #[.pointer (some ⟨w.heap.size + 1 + 1,0,none⟩)],.int .i64 (x.1 : Int),.agg #[.string (B x.2.1),.iface x.2.2.1 (.pointer (some ⟨x.2.2.2,0,none⟩))],undef,undef,undef,undef,undef,undef,undef,undef,undef,undef,undef,undef],defers := [] })
    (fun x a' _ X Y row hs hg hr => by
      obtain ⟨Bx,h1,h2,h3⟩ := hs
      refine ⟨Bx,h1,(hg.block Bx (Array.getElem?_eq_some_iff.1 h2).1 (fun e => ?_)).trans h2,h3⟩
      obtain ⟨_,o,ho,hc⟩ := hr Bx e.symm
      rw [h2] at ho; cases ho; cases hc)
    ?assign ?body ?done ?stop
  case assign =>
    rintro l pre x W K ⟨⟨hp,bS1,bR1⟩,hB1⟩ hK
    gi_wp2
    have hs1 := hB1.size
    exact hK _ _ ((KeepsOthers.alloc _ _).from _) ((Below.refl _ W).alloc (by omega) _) ⟨⟨hp,bS1.alloc _,bR1.alloc _⟩,hB1.alloc (by omega) _⟩ ⟨W.heap.size,by omega,heap_alloc_new _ _,rfl⟩
  case body =>
    rintro l pre x a' W hl ⟨r,hr⟩ ⟨⟨hp,bS1,bR1⟩,hB1⟩ ⟨Bx,hBx,bX,rfl⟩ hlt
    have cS := bS1.cell
    have cR := bR1.cell
    have fR := bR1.frozen
    have cX0 := blk_c bX 0 rfl
    have cX1 := blk_c bX 1 rfl
    gi_wp2
    · rename_i hx
      rw [str_beq] at hx
      have hx1 : x.2.1 = nm := eq_of_beq hx
      exact ⟨(KeepsOthers.setCell _ _ _).from _,⟨rfl,pre,x,rfl,hp,hx1,bR1.set _⟩,(hB0.trans (hB1.mono (by omega))).setCell (p := ⟨w.heap.size + 1,0,none⟩) (by simp) _⟩
    · rename_i hx
      rw [str_beq] at hx
      exact ⟨KeepsFrom.refl _ _,Below.refl _ _,⟨fun y hy => (List.mem_append.1 hy).elim (hp y) (fun e e' => by rw [List.mem_singleton] at e; subst e; subst e'; simp at hx),bS1,bR1⟩,hB1⟩
  case done =>
    rintro D zs W hD rfl ⟨⟨hp,bS1,bR1⟩,hB1⟩ hK
    have hB2 : Below w.heap.size w W := hB0.trans (hB1.mono (by omega))
    have cS := bS1.cell
    have cR := bR1.cell
    have fR := bR1.frozen
    have c3' := (hB2.cell (p := ⟨tb,3,none⟩) htl).trans c3
    obtain ⟨⟨T0,b0,rfl⟩,hE0⟩ := hE (inner_none hp)
    have hE1 := hE0 W.drew hB2.drew
    clear hE0 hE
    gi_wp2
    gi_region
    all_goals gi_wp2
    all_goals
      have hK' := (KeepsOthers.setCell W ⟨w.heap.size + 1,0,none⟩ (.iface T0 (.pointer (some ⟨b0,0,none⟩)))).same D _ hK rfl
      have hK2 : (W.setCell ⟨w.heap.size + 1,0,none⟩ (.iface T0 (.pointer (some ⟨b0,0,none⟩)))).drew.heap[D]? = some (.deferred (some [])) := hK'
      refine ⟨by simp,.inl ⟨_,_,rfl,run_takeDeferred hK2,?_⟩⟩
      have hc6 : (W.setCell ⟨w.heap.size + 1,0,none⟩ (.iface T0 (.pointer (some ⟨b0,0,none⟩)))).drew.cell? ⟨w.heap.size + 1,0,none⟩ = some (.iface T0 (.pointer (some ⟨b0,0,none⟩))) := World.cell?_setCell_same' W ⟨w.heap.size + 1,0,none⟩ (.iface T0 (.pointer (some ⟨b0,0,none⟩))) (by rw [cR]; rfl)
      have hc5 := cell_kept hc6 (grownBy_putObj' _ D (.deferred none)) (fun r e => by cases e; exact ⟨_,hK2,rfl⟩)
      refine ⟨.agg #[.iface T0 (.pointer (some ⟨b0,0,none⟩))],?_,by unfold schV; rw [inner_none hp],((hB2.setCell (p := ⟨w.heap.size + 1,0,none⟩) (by simp) _).drew).trans (belowK_b (w := w) (Nat.le_refl _) _ D _ _ (by omega) hK2 rfl rfl)⟩
      simp [results,Tryz.f153,go_sem,hc5]
  case stop =>
    rintro D c pre W hD ⟨k,hk,rfl⟩ ⟨⟨rfl,ini,last,e1,e2,e3,bR1⟩,hB1⟩ hK
    gi_wp2
    refine ⟨by simp,.inl ⟨_,_,rfl,run_takeDeferred hK,?_⟩⟩
    have hc5 := cell_kept bR1.cell (grownBy_putObj' _ D (.deferred none)) (fun r e => by cases e; exact ⟨_,hK,rfl⟩)
    refine ⟨.agg #[last.2.v],?_,by unfold schV; rw [inner_some hk e1 e2 e3],hB1.trans (belowK_b (w := w) (Nat.le_refl _) W D _ _ (by omega) hK rfl rfl)⟩
    simp [results,Tryz.f153,go_sem,hc5]
theorem scheme_any {tb : Nat} {a : Option Addr} {len cap : Nat} {env : Value} {u : Value} {vs : List NE} {nm : List UInt8} (hlen : nm.length ≤ 300) (hreach : vs.length * 24 ≤ 140737488351232) {w : World}
    (c4 : w.cell? ⟨tb,4,none⟩ = some (.slice a len cap)) (c3 : w.cell? ⟨tb,3,none⟩ = some env) (hI : NIs w.heap.size w (.slice a len cap) vs) (htl : tb < w.heap.size) (hE : inner vs nm = none → (∃ T0 b0,u = .iface T0 (.pointer (some ⟨b0,0,none⟩))) ∧ ∀ W,Below w.heap.size w W → (Instr.lookup 104 env (.string (B nm)) false).run Tryz.prog W = .ok (.agg #[u]) W) :
    Calls Tryz.prog 153 #[CP tb,.string (B nm)] w fun e W' => e = .returned (schV vs nm u) ∧ Below w.heap.size w W' :=
  (callsIn_wide (n := 6)).1 (scheme_in _ 6 trivial trivial trivial rfl (Nat.le_refl _) tb a len cap env u vs nm hlen hreach w c4 c3 hI htl hE)
structure TC where
  tb : Nat
  most : Value
  each : Value
  mb : Nat
  base : Nat
  ge : List (List UInt8 × Et)
  keep : List Nat
def TC.own (C : TC) (k : Nat) : Prop := C.base ≤ k ∧ k ∉ C.keep
def TC.r (C : TC) (nv : Value) : List Value := [C.most,C.each,.map (some C.mb),nv]
structure NR (H : Nat → Option Obj) (ca : List Nat) (tb base : Nat) (w : World) (nv : Value) (vs : List NE) (nb : List (List UInt8 × Et)) : Prop where
  len : vs.length = nb.length
  own : w.ownsRow base 338 2 nv vs.length (nmCells vs)
  is : ∀ (i : Nat) (p : NE) q,vs[i]? = some p → nb[i]? = some q → p.1 = q.1 ∧ ER H ca p.v q.2
  off : ∀ g,nv.ownBlock = some g → H g = none ∧ g ∉ ca ∧ g ≠ tb
  few : nb.length ≤ 1000
def GE (H : Nat → Option Obj) (ca : List Nat) (w : World) (mb : Nat) (ge : List (List UInt8 × Et)) : Prop :=
  ∃ gv : List (List UInt8 × Value),GM kS (fun v => .agg #[v]) 9 w mb gv ∧ ∀ nm t,getL ge nm = some t → ∃ v,getL gv nm = some v ∧ ER H ca v t
structure TSv (C : TC) (H : Nat → Option Obj) (ca : List Nat) (σ : Sto) (d : Nat → Nat) (nb : List (List UInt8 × Et)) (nv : Value) (vs : List NE) (w : World) : Prop where
  ms : MS H ca σ d C.tb (C.r nv) w
  nr : NR H ca C.tb C.base w nv vs nb
  env : GE H ca w C.mb C.ge
  mlo : C.mb < C.base
  tlo : C.own C.tb
  clo : ∀ a,a ∈ ca → C.own a
  kp : ∀ g,g ∈ C.keep → g < w.heap.size
  nko : ∀ g,nv.ownBlock = some g → g ∉ C.keep
theorem ownsRow_gb {R : Nat → Prop} {w w' : World} {base size n : Nat} {e : TypeId} {v : Value} {xs : List Value} (h : w.ownsRow base e size v n xs) (g : Gb R w w') (hn : ∀ k,v.ownBlock = some k → ¬ R k) : w'.ownsRow base e size v n xs := by
  obtain ⟨h1,h2⟩ := h
  refine ⟨h1,?_⟩
  rcases h2 with h2 | ⟨k,cap,cur,rfl,h3,h4,h5⟩
  · exact .inl h2
  · exact .inr ⟨k,cap,cur,rfl,h3,g.at h4 (hn k rfl),h5⟩
theorem MX.none {H H' : Nat → Option Obj} {ca ca' : List Nat} {w : World} (x : MX H H' ca ca' w) {k : Nat} (hk : k < w.heap.size) (h : H k = none) : H' k = none := by
  cases e : H' k with
  | none => rfl
  | some o =>
    rcases x.new _ _ e with h1 | h1
    · rw [h] at h1; cases h1
    · omega
theorem MX.notin {H H' : Nat → Option Obj} {ca ca' : List Nat} {w : World} (x : MX H H' ca ca' w) {k : Nat} (hk : k < w.heap.size) (h : k ∉ ca) : k ∉ ca' := fun e => by
  rcases x.cnew _ e with h1 | h1
  · exact h h1
  · omega
theorem NR.step {R : Nat → Prop} {H H' : Nat → Option Obj} {ca ca' : List Nat} {tb base : Nat} {w w' : World} {nv : Value} {vs : List NE} {nb : List (List UInt8 × Et)} (h : NR H ca tb base w nv vs nb) (x : MX H H' ca ca' w) (g : Gb R w w') (hR : ∀ k,nv.ownBlock = some k → ¬ R k) : NR H' ca' tb base w' nv vs nb :=
  ⟨h.len,ownsRow_gb h.own g hR,fun i p q e1 e2 => ⟨(h.is i p q e1 e2).1,x.er (h.is i p q e1 e2).2⟩,fun k hk => ⟨x.none (h.own.lt k hk).2 (h.off k hk).1,x.notin (h.own.lt k hk).2 (h.off k hk).2.1,(h.off k hk).2.2⟩,h.few⟩
theorem GE.step {R : Nat → Prop} {H H' : Nat → Option Obj} {ca ca' : List Nat} {mb : Nat} {ge : List (List UInt8 × Et)} {w w' : World} (h : GE H ca w mb ge) (x : MX H H' ca ca' w) (g : Gb R w w') (hR : ¬ R mb) : GE H' ca' w' mb ge := by
  obtain ⟨gv,h1,h2⟩ := h
  exact ⟨gv,h1.gb g hR,fun nm t e => by obtain ⟨v,e1,e2⟩ := h2 nm t e; exact ⟨v,e1,x.er e2⟩⟩
section
variable {C : TC} {H H' : Nat → Option Obj} {ca ca' : List Nat} {σ σ' : Sto} {d d' : Nat → Nat} {nb : List (List UInt8 × Et)} {nv : Value} {vs : List NE} {w w' : World}
theorem TSv.low (h : TSv C H ca σ d nb nv vs w) (k : Nat) (hk : k = C.tb ∨ InAs ca k) : C.own k := by
  rcases hk with e | e
  · rw [e]; exact h.tlo
  · exact h.clo k e
theorem TSv.gbase (h : TSv C H ca σ d nb nv vs w) (g : Gb (fun k => k = C.tb ∨ InAs ca k) w w') : Gb C.own w w' := g.mono fun k hk => h.low k hk
theorem TSv.bs (h : TSv C H ca σ d nb nv vs w) : C.base ≤ w.heap.size := Nat.le_trans h.tlo.1 (Nat.le_of_lt h.ms.bk.lt)
theorem TSv.step (h : TSv C H ca σ d nb nv vs w) (m : MS H' ca' σ' d' C.tb (C.r nv) w') (x : MX H H' ca ca' w) (g : Gb (fun k => k = C.tb ∨ InAs ca k) w w') : TSv C H' ca' σ' d' nb nv vs w' :=
  ⟨m,h.nr.step x g (fun k hk e => by rcases e with e | e; exact (h.nr.off k hk).2.2 e; exact (h.nr.off k hk).2.1 e),h.env.step x g (fun e => by have := (h.low _ e).1; have := h.mlo; omega),h.mlo,h.tlo,fun a ha => by
    rcases x.cnew a ha with e | e
    · exact h.clo a e
    · exact ⟨by have := h.bs; omega,fun hk => by have := h.kp a hk; omega⟩,fun k hk => Nat.lt_of_lt_of_le (h.kp k hk) g.size,h.nko⟩
theorem TSv.grown (h : TSv C H ca σ d nb nv vs w) (g : w.grownBy w' none) : TSv C H ca σ d nb nv vs w' := h.step (h.ms.grown g) (MX.refl _ _ _) (Gb.new g)
theorem MS.drew {tb : Nat} {r : List Value} (h : MS H ca σ d tb r w) : MS H ca σ d tb r w.drew := ⟨h.cs.drew,h.bk,h.ht,h.hta⟩
theorem TSv.drew (h : TSv C H ca σ d nb nv vs w) : TSv C H ca σ d nb nv vs w.drew := h.step h.ms.drew (MX.refl _ _ _) (Gb.refl _ w).drew
end
def TSP (C : TC) (H : Nat → Option Obj) (ca : List Nat) (σ' : Sto) (c : Nat) (nb : List (List UInt8 × Et)) (w : World) (e : Ending) (w' : World) : Prop :=
  ∃ H' ca' d' x nv vs,e = .returned (CP x) ∧ ca'[c]? = some x ∧ TSv C H' ca' σ' d' nb nv vs w' ∧ MX H H' ca ca' w ∧ Gb C.own w w'
theorem TSP.low {C : TC} {H H1 : Nat → Option Obj} {ca ca1 : List Nat} {σ' : Sto} {c : Nat} {nb : List (List UInt8 × Et)} {w w1 w2 : World} {e : Ending} (h : TSP C H1 ca1 σ' c nb w1 e w2) (x : MX H H1 ca ca1 w) (g : Gb C.own w w1) : TSP C H ca σ' c nb w e w2 := by
  obtain ⟨H',ca',d',y,nv,vs,h1,h2,h3,h4,h5⟩ := h
  exact ⟨H',ca',d',y,nv,vs,h1,h2,h3,x.trans h4 g.size,g.tr h5⟩
def lookT (nb ge : List (List UInt8 × Et)) (nm : List UInt8) : Option Et := match nb.reverse.find? (fun p => decide (p.1 = nm)) with
  | some p => some p.2
  | none => getL ge nm
def nameT (ge : List (List UInt8 × Et)) (nm : List UInt8) (nb : List (List UInt8 × Et)) (σ : Sto) : Option (Sto × Nat) :=
  if nm.length ≤ 300 then match lookT nb ge nm with
    | none => none
    | some t => match instS 400 t σ [] with
      | none => none
      | some (σ1,_,c) => some (σ1,c)
  else none
def ofT (o : Option Et) (σ : Sto) : Option (Sto × Nat) := if roomy σ = true then some (σ.new o,σ.rep.length) else none
theorem MX.prep {H H' : Nat → Option Obj} {ca ca' : List Nat} {w : World} (x : MX H H' ca ca' w) {m : Nat} {v : Value} {e : Ex} (h : PRep m H v e) : PRep m H' v e :=
  PRep.ext (m := w.heap.size) ⟨x.ext,fun k hk => by
    cases h1 : H k with
    | none => exact x.none hk h1
    | some o => exact x.ext k o h1⟩ m v e h
theorem PRep.val {m : Nat} {H : Nat → Option Obj} {v : Value} {e : Ex} (h : PRep m H v e) : ∃ T b,v = .iface T (.pointer (some ⟨b,0,none⟩)) := by
  cases m with
  | zero => exact absurd h id
  | succ m => obtain ⟨b,_,h1,_⟩ := h; exact ⟨_,b,h1⟩
theorem nmCells_len : ∀ vs : List NE,(nmCells vs).length = vs.length * 2
  | [] => rfl
  | p :: l => by simp [nmCells,nmCells_len l]; omega
theorem nmCells_at : ∀ (vs : List NE) (j : Nat) (p : NE),vs[j]? = some p → (nmCells vs)[j * 2]? = some (.string (B p.1)) ∧ (nmCells vs)[j * 2 + 1]? = some p.v
  | [],j,p,h => by simp at h
  | q :: l,0,p,h => by
    simp at h
    subst h
    exact ⟨rfl,rfl⟩
  | q :: l,j + 1,p,h => by
    have h1 := nmCells_at l j p (by simpa using h)
    rw [show (j + 1) * 2 = j * 2 + 2 by omega]
    simpa [nmCells] using h1
theorem nmCells_app : ∀ (a b : List NE),nmCells (a ++ b) = nmCells a ++ nmCells b
  | [],_ => rfl
  | p :: l,b => by simp [nmCells,nmCells_app l b]
theorem NR.nis {H : Nat → Option Obj} {ca : List Nat} {tb base : Nat} {w : World} {nv : Value} {vs : List NE} {nb : List (List UInt8 × Et)} (h : NR H ca tb base w nv vs nb) : NIs w.heap.size w nv vs := by
  have hl := h.own.lt
  obtain ⟨h1,h2⟩ := h.own
  rcases h2 with ⟨h2,h3⟩ | ⟨g,cap,cur,rfl,h3,h4,h5,h6,h7,h8⟩
  · exact .inl ⟨h2,List.length_eq_zero_iff.1 h3⟩
  · refine .inr ⟨g,cap,rfl,(hl g rfl).2,fun j hj => ?_⟩
    have hp : vs[j]? = some (NE.at vs j) := by unfold NE.at; rw [List.getElem?_eq_getElem hj]; rfl
    have h9 := nmCells_at vs j _ hp
    rw [← h8] at h9
    have hc : ∀ i u,i < vs.length * 2 → (cur.toList.take (vs.length * 2))[i]? = some u → w.cell? ⟨g,i,none⟩ = some u := fun i u hi hu => by
      rw [List.getElem?_take_of_lt hi] at hu
      simpa [World.cell?,h4] using hu
    exact ⟨hc _ _ (by omega) h9.1,hc _ _ (by omega) h9.2⟩
theorem NR.slice {H : Nat → Option Obj} {ca : List Nat} {tb base : Nat} {w : World} {nv : Value} {vs : List NE} {nb : List (List UInt8 × Et)} (h : NR H ca tb base w nv vs nb) : ∃ a cap,nv = .slice a vs.length cap := by
  obtain ⟨h1,h2⟩ := h.own
  rcases h2 with ⟨h2,h3⟩ | ⟨g,cap,cur,h2,_⟩
  · exact ⟨none,0,by rw [h2,h3]⟩
  · exact ⟨_,cap,h2⟩
theorem find_rel {X : NE → (List UInt8 × Et) → Prop} {nm : List UInt8} : ∀ (a : List NE) (b : List (List UInt8 × Et)),a.length = b.length → (∀ (i : Nat) p q,a[i]? = some p → b[i]? = some q → p.1 = q.1 ∧ X p q) →
    (a.find? (fun p => decide (p.1 = nm)) = none ∧ b.find? (fun p => decide (p.1 = nm)) = none) ∨ ∃ p q,a.find? (fun p => decide (p.1 = nm)) = some p ∧ b.find? (fun p => decide (p.1 = nm)) = some q ∧ X p q
  | [],[],_,_ => .inl ⟨rfl,rfl⟩
  | [],_ :: _,h,_ => by simp at h
  | _ :: _,[],h,_ => by simp at h
  | p :: a,q :: b,h,hx => by
    have h0 := hx 0 p q rfl rfl
    by_cases hp : p.1 = nm
    · refine .inr ⟨p,q,?_,?_,h0.2⟩
      · rw [List.find?_cons,decide_eq_true hp]
      · rw [List.find?_cons,decide_eq_true (h0.1.symm.trans hp)]
    · have ih := find_rel (X := X) (nm := nm) a b (by simpa using h) (fun i p q e1 e2 => hx (i + 1) p q (by simpa using e1) (by simpa using e2))
      rw [List.find?_cons,List.find?_cons,decide_eq_false hp,decide_eq_false (fun e => hp (h0.1.trans e))]
      exact ih
theorem NR.find {H : Nat → Option Obj} {ca : List Nat} {tb base : Nat} {w : World} {nv : Value} {vs : List NE} {nb : List (List UInt8 × Et)} (h : NR H ca tb base w nv vs nb) (nm : List UInt8) :
    (inner vs nm = none ∧ nb.reverse.find? (fun p => decide (p.1 = nm)) = none) ∨ ∃ p q,inner vs nm = some p ∧ nb.reverse.find? (fun p => decide (p.1 = nm)) = some q ∧ ER H ca p.v q.2 :=
  find_rel (X := fun p q => ER H ca p.v q.2) vs.reverse nb.reverse (by simp [h.len]) (fun i p q e1 e2 => by
    have h1 : i < vs.length := by simpa using (List.getElem?_eq_some_iff.1 e1).1
    rw [List.getElem?_reverse h1] at e1
    rw [List.getElem?_reverse (by rw [← h.len]; exact h1),← h.len] at e2
    exact h.is _ p q e1 e2)
theorem zeroScheme (w : World) : (zeroValue 109).run Tryz.prog w = .ok (.agg #[.nilIface]) w := by kernel_rfl
theorem scheme_t {C : TC} {H : Nat → Option Obj} {ca : List Nat} {σ : Sto} {d : Nat → Nat} {nb : List (List UInt8 × Et)} {nv : Value} {vs : List NE} {w : World} {nm : List UInt8} {t : Et} (h : TSv C H ca σ d nb nv vs w) (hn : nm.length ≤ 300) (hl : lookT nb C.ge nm = some t) :
    Calls Tryz.prog 153 #[CP C.tb,.string (B nm)] w fun e w' => ∃ v,e = .returned (.agg #[v]) ∧ ER H ca v t ∧ w.grownBy w' none := by
  obtain ⟨a,cap,e1⟩ := h.nr.slice
  have hI := h.nr.nis
  have c4 : w.cell? ⟨C.tb,4,none⟩ = some nv := by have := h.ms.bk; unfold TB TC.r at this; simp [World.cell?,this]
  have c3 : w.cell? ⟨C.tb,3,none⟩ = some (.map (some C.mb)) := by have := h.ms.bk; unfold TB TC.r at this; simp [World.cell?,this]
  have hf := h.nr.few
  have hfl := h.nr.len
  obtain ⟨gv,g1,g2⟩ := h.env
  rw [e1] at c4 hI
  unfold lookT at hl
  rcases h.nr.find nm with ⟨f1,f2⟩ | ⟨p,q,f1,f2,f3⟩
  · rw [f2] at hl
    obtain ⟨v,hv,hr⟩ := g2 nm t hl
    obtain ⟨T0,b0,_,hvv⟩ := er_val hr
    refine (scheme_any (u := v) hn (by omega) c4 c3 hI h.ms.bk.lt (fun _ => ⟨⟨T0,b0,hvv⟩,fun W hW => ?_⟩)).mono ?_
    · have := GM.look1 (g1.gb (R := fun _ => False) (Gb.below hW _) id) strLaw Tryz.underlying104 (zeroScheme W) (kS_key hn)
      rw [hv] at this
      exact this
    · rintro e w' ⟨rfl,hB⟩
      exact ⟨v,by unfold schV; rw [f1],hr,(Gb.below hB _).none⟩
  · rw [f2] at hl
    have ht : q.2 = t := Option.some.inj hl
    refine (scheme_any (u := .nilIface) hn (by omega) c4 c3 hI h.ms.bk.lt (fun e => by rw [f1] at e; cases e)).mono ?_
    rintro e w' ⟨rfl,hB⟩
    exact ⟨p.v,by unfold schV; rw [f1],by rw [← ht]; exact f3,(Gb.below hB _).none⟩
section
variable {C : TC} {H H' : Nat → Option Obj} {ca ca' : List Nat} {σ σ' : Sto} {d d' : Nat → Nat} {nb : List (List UInt8 × Et)} {nv : Value} {vs : List NE} {w w' : World}
theorem TSv.cs (h : TSv C H ca σ d nb nv vs w) (c : CSd H ca σ' d' w') (g : Gb (InAs ca) w w') : TSv C H ca σ' d' nb nv vs w' := by
  refine h.step ⟨c,?_,h.ms.ht,h.ms.hta⟩ (MX.refl _ _ _) (g.mono fun k e => Or.inr e)
  have e : σ'.rep.length = σ.rep.length := by rw [← c.len,← h.ms.cs.len]
  rw [e]
  exact h.ms.bk.gb g h.ms.hta
theorem TSv.of {o : Option Et} {v : Value} {c : Nat} (h : TSv C H ca σ d nb nv vs w) (ho : ORep H ca o v) (hr : ofT o σ = some (σ',c)) :
    Calls Tryz.prog 160 #[CP C.tb,v] w fun e w' => ∃ a,e = .returned (CP a) ∧ (ca ++ [a])[c]? = some a ∧ TSv C H (ca ++ [a]) σ' d nb nv vs w' ∧ MX H H ca (ca ++ [a]) w ∧ Gb C.own w w' := by
  unfold ofT at hr
  split at hr
  · rename_i hro
    cases hr
    refine (h.ms.of ho (of_decide_eq_true hro)).mono ?_
    rintro e w' ⟨a,rfl,m1,ha,g⟩
    have x : MX H H ca (ca ++ [a]) w := ⟨fun _ _ e => e,fun _ _ e => Or.inl e,List.prefix_append _ _,fun b hb => by
      rcases List.mem_append.1 hb with h1 | h1
      · exact Or.inl h1
      · rw [List.mem_singleton.1 h1]; exact Or.inr ha⟩
    have g2 : Gb (fun k => k = C.tb ∨ InAs ca k) w w' := g.mono fun k e => Or.inl e
    exact ⟨a,rfl,by rw [← h.ms.cs.len]; simp,h.step m1 x g2,x,h.gbase g2⟩
  · cases hr
end
theorem equal_t {C : TC} {H : Nat → Option Obj} {ca : List Nat} {σ σ' : Sto} {d : Nat → Nat} {nb : List (List UInt8 × Et)} {nv : Value} {vs : List NE} {w : World} {a b x y : Nat} (h : TSv C H ca σ d nb nv vs w) (ea : ca[a]? = some x) (eb : ca[b]? = some y) (hr : equalS a b σ = some (some σ')) :
    Calls Tryz.prog 183 #[CP C.tb,CP x,CP y] w fun e w' => (∃ z,e = .returned z) ∧ (∃ d',TSv C H ca σ' d' nb nv vs w') ∧ Gb C.own w w' := by
  have CE := hid (cequal_any ea eb hr h.ms.cs)
  have Q := hid h
  clear h ea eb hr
  unfold CP at *
  go_enter Tryz.func183,Tryz.ntmps183
  go_wp2_with fail
  refine CE.out.mono ?_
  rintro e w1 ⟨g1,rfl,d1,c1⟩
  have Q2 := hid (And.intro (show ∃ d',TSv C H ca σ' d' nb nv vs w1 from ⟨d1,Q.out.cs c1 g1⟩) (show Gb C.own w w1 from g1.mono fun k e => Q.out.clo k e))
  clear g1 c1 CE
  go_wp2
  go_end0
  exact ⟨⟨_,rfl⟩,Q2.out.1,Q2.out.2⟩
theorem info_named : (Tryz.prog.info? 338).map (fun i => (i.zero,i.size,i.bytes)) = some (some (.agg #[.string (B []),.nilIface]),2,32) := by kernel_rfl
theorem nm_one : ∀ (vs : List NE) (u : Value),u ∈ nmCells vs → u.oneCell' = true
  | [],u,h => by cases h
  | p :: l,u,h => by
    simp only [nmCells,List.mem_cons] at h
    rcases h with rfl | rfl | h
    · rfl
    · rfl
    · exact nm_one l u h
theorem nmCells_take : ∀ (vs : List NE) (n : Nat),nmCells (vs.take n) = (nmCells vs).take (n * 2)
  | [],n => by simp [nmCells]
  | p :: l,0 => rfl
  | p :: l,n + 1 => by
    rw [List.take_succ_cons,nmCells,nmCells_take l n,nmCells,show (n + 1) * 2 = n * 2 + 1 + 1 by omega,List.take_succ_cons,List.take_succ_cons]
section
variable {C : TC} {H H' : Nat → Option Obj} {ca ca' : List Nat} {σ σ' : Sto} {d d' : Nat → Nat} {nb : List (List UInt8 × Et)} {nv : Value} {vs : List NE} {w w' : World}
theorem TB.put4 {tb n : Nat} {nv' : Value} (h : TB w tb n (C.r nv)) : TB (w.setCell ⟨tb,4,none⟩ nv') tb n (C.r nv') := by
  unfold TB TC.r at h ⊢
  simp [World.setCell,Array.getElem?_modify,h]
theorem TB.c4 {tb n : Nat} (h : TB w tb n (C.r nv)) : w.cell? ⟨tb,4,none⟩ = some nv ∧ w.frozen? ⟨tb,4,none⟩ = false := by
  unfold TB TC.r at h
  simp [World.cell?,World.frozen?,h]
theorem TSv.names {nb' : List (List UInt8 × Et)} {nv' : Value} {vs' : List NE} {R : Nat → Prop} {w1 : World} (h : TSv C H ca σ d nb nv vs w) (g : Gb R w w1) (hR : ∀ k,R k → nv.ownBlock = some k) (own : w1.ownsRow C.base 338 2 nv' vs'.length (nmCells vs')) (len : vs'.length = nb'.length) (is : ∀ (i : Nat) (p : NE) q,vs'[i]? = some p → nb'[i]? = some q → p.1 = q.1 ∧ ER H ca p.v q.2)
    (at' : ∀ k,nv'.ownBlock = some k → nv.ownBlock = some k ∨ w.heap.size ≤ k) (few : nb'.length ≤ 1000) :
    TSv C H ca σ d nb' nv' vs' (w1.setCell ⟨C.tb,4,none⟩ nv') ∧ Gb C.own w (w1.setCell ⟨C.tb,4,none⟩ nv') := by
  have hRH : ∀ k,R k → H k = none ∧ k ∉ ca ∧ k ≠ C.tb := fun k hk => h.nr.off k (hR k hk)
  have c1 : CSd H ca σ d w1 := h.ms.cs.gb g (fun a ha e => (hRH a e).2.1 ha) (fun k o e hk => by rw [(hRH k hk).1] at e; cases e)
  have b1 : TB w1 C.tb σ.rep.length (C.r nv) := h.ms.bk.gb g (fun e => (hRH _ e).2.2 rfl)
  have gs : Gb (fun k => k = C.tb) w1 (w1.setCell ⟨C.tb,4,none⟩ nv') := (Gb.refl (fun k => k = C.tb) w1).set (b := C.tb) (Or.inl rfl) 4 nv'
  have off' : ∀ k,nv'.ownBlock = some k → H k = none ∧ k ∉ ca ∧ k ≠ C.tb := fun k hk => by
    rcases at' k hk with e | e
    · exact h.nr.off k e
    · exact ⟨h.ms.cs.fz.none e,fun hm => by have := InAs.lt h.ms.cs hm; omega,fun e2 => by have := h.ms.bk.lt; omega⟩
  have gb : Gb C.own w (w1.setCell ⟨C.tb,4,none⟩ nv') := (g.mono (fun k hk => ⟨(h.nr.own.lt k (hR k hk)).1,h.nko k (hR k hk)⟩)).tr (gs.mono fun k e => by rw [e]; exact h.tlo)
  refine ⟨⟨⟨csd_setNew c1 h.ms.hta h.ms.ht 4 nv',b1.put4,h.ms.ht,h.ms.hta⟩,⟨len,ownsRow_gb own gs (fun k hk => (off' k hk).2.2),is,off',few⟩,?_,h.mlo,h.tlo,h.clo,fun k hk => Nat.lt_of_lt_of_le (h.kp k hk) gb.size,fun k hk => ?_⟩,gb⟩
  · exact h.env.step (MX.refl _ _ _) gb (fun e => by have := h.mlo; have := e.1; omega)
  · rcases at' k hk with e | e
    · exact h.nko k e
    · intro h9; have := h.kp k h9; omega
end
end Go.Proofs.YtcdijppegfcoaabGreatDoor
