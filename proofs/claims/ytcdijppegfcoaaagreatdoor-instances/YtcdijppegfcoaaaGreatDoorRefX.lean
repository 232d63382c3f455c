/-
  OUR OWN TEXT. typerref's reader: exp, whole, by induction.
-/
import Derived.Test.YtcdijppegfcoaaaGreatDoorRefG
import Derived.Test.YtcdijppegfcoaaaGreatDoorRefP
namespace Go.Proofs.YtcdijppegfcoaaaGreatDoor
open Go.RowKit

theorem epost_to {T : List Tok} {rb g cap : Nat} {H : Nat → Option Obj} {s' : St} {ex : Ex} {w : World} {b : Nat}
    (h : Calls Tryz.prog 39 #[.pointer (some ⟨rb, 0, none⟩)] w fun e w' => e = .returned (.pointer (some ⟨b, 0, none⟩)) ∧ EPost T w w' rb g cap b H s' ex) :
    Calls Tryz.prog 39 #[.pointer (some ⟨rb, 0, none⟩)] w fun e w' => ∃ b H' m, e = .returned (.pointer (some ⟨b, 0, none⟩)) ∧ RS w' rb g cap T s' ∧ s'.k < T.length ∧ Kept rb w w' ∧ Fz H' w' ∧ Ext w.heap.size H H' ∧ XRep m H' b ex := by
  refine h.mono ?_
  rintro e w' ⟨he, H', m, h1, h2, h3, h4, h5, h6⟩
  exact ⟨b, H', m, he, h1, h2, h3, h4, h5, h6⟩

theorem exp_all (T : List Tok) (hT : Wf T) : ∀ n, EXP T n
  | 0 => fun w rb g cap H s ex s' hs => by simp [expS] at hs
  | n + 1 => fun w rb g cap H s ex s' hs h hk hz hr => by
    have ih := exp_all T hT n
    rw [expS] at hs
    by_cases hb : 0 ≤ s.bad
    · rw [if_pos hb] at hs
      cases hs
      exact epost_to (exp_bad T w rb g cap H s h hk hz hb)
    rw [if_neg hb] at hs
    cases h1 : isS T s kFun with
    | true =>
      rw [if_pos h1] at hs
      cases hx : expS T n (needS T (needS T s.up kName) kArrow) with
      | none => rw [hx] at hs; cases hs
      | some p =>
        obtain ⟨y, s4⟩ := p
        rw [hx] at hs
        cases hs
        exact epost_to (exp_fun T n hT ih w rb g cap H s h hk hz hr h1 y _ hx)
    | false =>
      rw [if_neg (by rw [h1]; decide)] at hs
      cases h2 : isS T s kIf with
      | true =>
        rw [if_pos h2] at hs
        cases hx : expS T n s.up with
        | none => rw [hx] at hs; cases hs
        | some p =>
          obtain ⟨a, s1⟩ := p
          rw [hx] at hs
          dsimp only at hs
          cases hy : expS T n (needS T s1 kThen) with
          | none => rw [hy] at hs; cases hs
          | some p =>
            obtain ⟨b, s2⟩ := p
            rw [hy] at hs
            dsimp only at hs
            cases hw : expS T n (needS T s2 kElse) with
            | none => rw [hw] at hs; cases hs
            | some p =>
              obtain ⟨c, s3⟩ := p
              rw [hw] at hs
              cases hs
              exact epost_to (exp_if T n hT ih w rb g cap H s h hk hz hr h1 h2 a b c s1 s2 _ hx hy hw)
      | false =>
        rw [if_neg (by rw [h2]; decide)] at hs
        cases h3 : isS T s kLet with
        | true =>
          rw [if_pos h3] at hs
          cases h4 : isS T s.up kRec with
          | true =>
            have e1 : takeS T s.up kRec = s.up.up := by unfold takeS; rw [if_pos h4]; rfl
            rw [e1, if_pos h4] at hs
            cases hx : boundS (expS T n) T ⟨kRec, [], [], (tk T s.k).pos⟩ s.up.up with
            | none => rw [hx] at hs; cases hs
            | some p =>
              obtain ⟨x, s1⟩ := p
              rw [hx] at hs
              dsimp only at hs
              cases hy : bindsS (expS T n) T (T.length + 1) x s1 with
              | none => rw [hy] at hs; cases hs
              | some p =>
                obtain ⟨y, s2⟩ := p
                rw [hy] at hs
                dsimp only at hs
                cases hw : expS T n (needS T s2 kIn) with
                | none => rw [hw] at hs; cases hs
                | some p =>
                  obtain ⟨b, s3⟩ := p
                  rw [hw] at hs
                  cases hs
                  exact epost_to (exp_rec T n hT ih w rb g cap H s h hk hz hr h1 h2 h3 h4 x y b s1 s2 _ hx hy hw)
          | false =>
            have e1 : takeS T s.up kRec = s.up := by unfold takeS; rw [if_neg (by rw [h4]; decide)]
            rw [e1, if_neg (by rw [h4]; decide)] at hs
            cases hx : boundS (expS T n) T ⟨kLet, [], [], (tk T s.k).pos⟩ s.up with
            | none => rw [hx] at hs; cases hs
            | some p =>
              obtain ⟨x, s1⟩ := p
              rw [hx] at hs
              dsimp only at hs
              have hp := bound_parts hx
              have e2 : bindsS (expS T n) T (T.length + 1) x s1 = some (x, s1) := by
                rw [bindsS, if_neg]
                rintro ⟨e, _⟩
                rw [hp.1] at e
                exact absurd e (by show ¬ kLet = kRec; decide)
              rw [e2] at hs
              dsimp only at hs
              cases hw : expS T n (needS T s1 kIn) with
              | none => rw [hw] at hs; cases hs
              | some p =>
                obtain ⟨b, s3⟩ := p
                rw [hw] at hs
                cases hs
                exact epost_to (exp_let T n hT ih w rb g cap H s h hk hz hr h1 h2 h3 h4 x b s1 _ hx hw hp.1 (by rw [hp.2.2.1]; simp))
        | false =>
          rw [if_neg (by rw [h3]; decide)] at hs
          cases hx : atomS (expS T n) T s with
          | none => rw [hx] at hs; cases hs
          | some p =>
            obtain ⟨x, s1⟩ := p
            rw [hx] at hs
            dsimp only at hs
            refine (exp_app T n hT ih w rb g cap H s h hk hz hr (by omega) h1 h2 h3 x s1 ex s' hx hs).mono ?_
            rintro e w' ⟨b, he, H', m, q1, q2, q3, q4, q5, q6⟩
            exact ⟨b, H', m, he, q1, q2, q3, q4, q5, q6⟩
end Go.Proofs.YtcdijppegfcoaaaGreatDoor
