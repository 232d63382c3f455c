import Derived.Test.YtfangljlgfcdpaaGreatDoorRefG
import Derived.Test.YtfangljlgfcdpaaGreatDoorRefP
import Derived.Test.YtfangljlgfcdpaaGreatDoorPure
import Derived.Test.YtfangljlgfcdpaaGreatDoorChecked
import Derived.Test.YtfangljlgfcdpaaGreatDoorLexB
import Derived.WalkSpells
import Derived.Outline
import Derived.Deep.DeepCutAuto
import Derived.Deep.LoopGhost
import Derived.Deep.CutBlock
import Derived.Lib.SlBytesConst
import Derived.Handy
import Derived.Test.YtfangljlgfcdpaaGreatDoorPExp
import Derived.Defers
import Derived.Recover
/-
  OUR OWN TEXT. typerref's reader: exp, whole, by induction.
-/
namespace Go.Proofs.YtfangljlgfcdpaaGreatDoor
open Go.RowKit

theorem epost_to {T : List Tok} {rb g cap : Nat} {H : Nat → Option Obj} {s' : St} {ex : Ex} {w : World} {b : Nat}
    (h : Calls Tryz.prog 34 #[.pointer (some ⟨rb, 0, none⟩)] w fun e w' => e = .returned (.pointer (some ⟨b, 0, none⟩)) ∧ EPost T w w' rb g cap b H s' ex) :
    Calls Tryz.prog 34 #[.pointer (some ⟨rb, 0, none⟩)] w fun e w' => ∃ b H' m, e = .returned (.pointer (some ⟨b, 0, none⟩)) ∧ RS w' rb g cap T s' ∧ s'.k < T.length ∧ Kept rb w w' ∧ Fz H' w' ∧ Ext w.heap.size H H' ∧ XRep m H' b ex := by
  refine h.mono ?_
  rintro e w' ⟨he, H', m, h1, h2, h3, h4, h5, h6⟩
  exact ⟨b, H', m, he, h1, h2, h3, h4, h5, h6⟩

theorem exp_all (T : List Tok) (hT : Wf T) : ∀ n, EXP T n
  | 0 => fun w rb g cap H s ex s' hs => by simp [expS] at hs
  | n + 1 => fun w rb g cap H s ex s' hs h hk hz hr => by
    have ih := exp_all T hT n
    rw [expS] at hs
    by_cases hb : 0 ≤ s.bad
    · rw [if_pos hb] at hs
      cases hs
      exact epost_to (exp_bad T w rb g cap H s h hk hz hb)
    rw [if_neg hb] at hs
    cases h1 : isS T s kFun with
    | true =>
      rw [if_pos h1] at hs
      cases hx : expS T n (needS T (needS T s.up kName) kArrow) with
      | none => rw [hx] at hs; cases hs
      | some p =>
        obtain ⟨y, s4⟩ := p
        rw [hx] at hs
        cases hs
        exact epost_to (exp_fun T n hT ih w rb g cap H s h hk hz hr h1 y _ hx)
    | false =>
      rw [if_neg (by rw [h1]; decide)] at hs
      cases h2 : isS T s kIf with
      | true =>
        rw [if_pos h2] at hs
        cases hx : expS T n s.up with
        | none => rw [hx] at hs; cases hs
        | some p =>
          obtain ⟨a, s1⟩ := p
          rw [hx] at hs
          dsimp only at hs
          cases hy : expS T n (needS T s1 kThen) with
          | none => rw [hy] at hs; cases hs
          | some p =>
            obtain ⟨b, s2⟩ := p
            rw [hy] at hs
            dsimp only at hs
            cases hw : expS T n (needS T s2 kElse) with
            | none => rw [hw] at hs; cases hs
            | some p =>
              obtain ⟨c, s3⟩ := p
              rw [hw] at hs
              cases hs
              exact epost_to (exp_if T n hT ih w rb g cap H s h hk hz hr h1 h2 a b c s1 s2 _ hx hy hw)
      | false =>
        rw [if_neg (by rw [h2]; decide)] at hs
        cases h3 : isS T s kLet with
        | true =>
          rw [if_pos h3] at hs
          cases h4 : isS T s.up kRec with
          | true =>
            have e1 : takeS T s.up kRec = s.up.up := by unfold takeS; rw [if_pos h4]; rfl
            rw [e1, if_pos h4] at hs
            cases hx : boundS (expS T n) T ⟨kRec, [], [], (tk T s.k).pos⟩ s.up.up with
            | none => rw [hx] at hs; cases hs
            | some p =>
              obtain ⟨x, s1⟩ := p
              rw [hx] at hs
              dsimp only at hs
              cases hy : bindsS (expS T n) T (T.length + 1) x s1 with
              | none => rw [hy] at hs; cases hs
              | some p =>
                obtain ⟨y, s2⟩ := p
                rw [hy] at hs
                dsimp only at hs
                cases hw : expS T n (needS T s2 kIn) with
                | none => rw [hw] at hs; cases hs
                | some p =>
                  obtain ⟨b, s3⟩ := p
                  rw [hw] at hs
                  cases hs
                  exact epost_to (exp_rec T n hT ih w rb g cap H s h hk hz hr h1 h2 h3 h4 x y b s1 s2 _ hx hy hw)
          | false =>
            have e1 : takeS T s.up kRec = s.up := by unfold takeS; rw [if_neg (by rw [h4]; decide)]
            rw [e1, if_neg (by rw [h4]; decide)] at hs
            cases hx : boundS (expS T n) T ⟨kLet, [], [], (tk T s.k).pos⟩ s.up with
            | none => rw [hx] at hs; cases hs
            | some p =>
              obtain ⟨x, s1⟩ := p
              rw [hx] at hs
              dsimp only at hs
              have hp := bound_parts hx
              have e2 : bindsS (expS T n) T (T.length + 1) x s1 = some (x, s1) := by
                rw [bindsS, if_neg]
                rintro ⟨e, _⟩
                rw [hp.1] at e
                exact absurd e (by show ¬ kLet = kRec; decide)
              rw [e2] at hs
              dsimp only at hs
              cases hw : expS T n (needS T s1 kIn) with
              | none => rw [hw] at hs; cases hs
              | some p =>
                obtain ⟨b, s3⟩ := p
                rw [hw] at hs
                cases hs
                exact epost_to (exp_let T n hT ih w rb g cap H s h hk hz hr h1 h2 h3 h4 x b s1 _ hx hw hp.1 (by rw [hp.2.2.1]; simp))
        | false =>
          rw [if_neg (by rw [h3]; decide)] at hs
          cases hx : atomS (expS T n) T s with
          | none => rw [hx] at hs; cases hs
          | some p =>
            obtain ⟨x, s1⟩ := p
            rw [hx] at hs
            dsimp only at hs
            refine (exp_app T n hT ih w rb g cap H s h hk hz hr (by omega) h1 h2 h3 x s1 ex s' hx hs).mono ?_
            rintro e w' ⟨b, he, H', m, q1, q2, q3, q4, q5, q6⟩
            exact ⟨b, H', m, he, q1, q2, q3, q4, q5, q6⟩
end Go.Proofs.YtfangljlgfcdpaaGreatDoor

/-
  OUR OWN TEXT. The plain reader ends with an expression at every list of tokens.
-/
namespace Go.Proofs.YtfangljlgfcdpaaGreatDoor
open Go.RowKit

/-- The tokens' names are short. -/
def Sh (T : List Tok) : Prop := ∀ k, ((tk T k).is = kName ∨ (tk T k).is = kNum) → (tk T k).s.length ≤ 8
def Res (T : List Tok) (s : St) (x : Ex) (s' : St) : Prop := s.k ≤ s'.k ∧ s'.k < T.length ∧ (s'.bad < 0 → s.bad < 0 ∧ s.k < s'.k ∧ ∃ m, Nice m x (s'.k - s.k))
def Fu (T : List Tok) (n : Nat) (s : St) : Prop := s.k < T.length ∧ (T.length - s.k + 1 ≤ n ∨ (0 ≤ s.bad ∧ 1 ≤ n))
def TOT (T : List Tok) (n : Nat) (E : St → Option (Ex × St)) : Prop := ∀ s, Fu T n s → ∃ x s', E s = some (x, s') ∧ Res T s x s'

theorem isS_yes {T : List Tok} {s : St} {x : List UInt8} (h : isS T s x = true) : s.bad < 0 ∧ (tk T s.k).is = x := by
  simp only [isS, Bool.and_eq_true, beq_iff_eq, decide_eq_true_eq] at h
  exact h
theorem need_cases {T : List Tok} (hT : Wf T) {s : St} (hk : s.k < T.length) (x : List UInt8) (h1 : x ≠ kNone) (h2 : x ≠ kEnd) :
    ((needS T s x).k = s.k + 1 ∧ s.k + 1 < T.length ∧ (needS T s x).bad = s.bad ∧ s.bad < 0 ∧ (tk T s.k).is = x) ∨ ((needS T s x).k = s.k ∧ 0 ≤ (needS T s x).bad) := by
  by_cases hi : isS T s x = true
  · left
    have e : needS T s x = ⟨s.k + 1, s.bad⟩ := by rw [needS, if_pos hi]
    rw [e]
    exact ⟨rfl, hT.up hk hi h1 h2, rfl, (isS_yes hi).1, (isS_yes hi).2⟩
  · right
    have e : needS T s x = ⟨s.k, if s.bad < 0 then ((tk T s.k).pos : Int) else s.bad⟩ := by rw [needS, if_neg hi]
    rw [e]
    refine ⟨rfl, ?_⟩
    show 0 ≤ (if s.bad < 0 then ((tk T s.k).pos : Int) else s.bad)
    split <;> omega

theorem atom_tot {T : List Tok} (hT : Wf T) (hS : Sh T) {n : Nat} {E : St → Option (Ex × St)} (hE : TOT T n E) (s : St) (hs : s.k < T.length) (hn : T.length - s.k ≤ n) :
    ∃ x s', atomS E T s = some (x, s') ∧ Res T s x s' ∧ ((isS T s kName = true ∨ isS T s kNum = true ∨ isS T s kOpen = true) → s.k < s'.k) := by
  unfold atomS
  by_cases hi : isS T s kName = true ∨ isS T s kNum = true
  · rw [if_pos hi]
    have hup : s.k + 1 < T.length := by
      rcases hi with hi | hi
      · exact hT.up hs hi (by decide) (by decide)
      · exact hT.up hs hi (by decide) (by decide)
    have hw : s.bad < 0 ∧ ((tk T s.k).is = kName ∨ (tk T s.k).is = kNum) := by
      rcases hi with hi | hi
      · exact ⟨(isS_yes hi).1, Or.inl (isS_yes hi).2⟩
      · exact ⟨(isS_yes hi).1, Or.inr (isS_yes hi).2⟩
    refine ⟨_, _, rfl, ⟨Nat.le_succ _, hup, fun _ => ⟨hw.1, Nat.lt_succ_self _, 1, ?_⟩⟩, fun _ => Nat.lt_succ_self _⟩
    have := nice_leaf (tk T s.k).is (tk T s.k).s (tk T s.k).pos hw.2 (hS s.k hw.2)
    rw [show s.up.k - s.k = 1 from by show s.k + 1 - s.k = 1; omega]
    exact this
  · rw [if_neg hi]
    obtain ⟨s0, hs0⟩ : ∃ s0, s0 = needS T s kOpen := ⟨_, rfl⟩
    have hn0 := need_cases hT hs kOpen (by decide) (by decide)
    rw [← hs0] at hn0 ⊢
    have hopen : isS T s kOpen = true → s0.k = s.k + 1 := fun ho => by rw [hs0, needS, if_pos ho]
    have f0 : Fu T n s0 := by
      rcases hn0 with ⟨a, b, _⟩ | ⟨a, b⟩
      · exact ⟨by omega, Or.inl (by omega)⟩
      · exact ⟨by omega, Or.inr ⟨b, by omega⟩⟩
    obtain ⟨x, s1, e1, r1⟩ := hE s0 f0
    have hlt : (isS T s kName = true ∨ isS T s kNum = true ∨ isS T s kOpen = true) → s.k < s1.k := fun ho => by
      have : isS T s kOpen = true := by
        rcases ho with ho | ho | ho
        · exact absurd (Or.inl ho) hi
        · exact absurd (Or.inr ho) hi
        · exact ho
      have := hopen this
      have := r1.1
      omega
    have hk0 : s.k ≤ s0.k := by rcases hn0 with ⟨a, _⟩ | ⟨a, _⟩ <;> omega
    have hb0 : s0.bad < 0 → s.bad < 0 ∧ s0.k = s.k + 1 := fun hb => by
      rcases hn0 with ⟨a, _, _, d, _⟩ | ⟨a, b⟩
      · exact ⟨d, a⟩
      · omega
    rw [e1]
    show ∃ x' s', (if isS T s1 kComma = true then _ else _) = some (x', s') ∧ _
    by_cases hc : isS T s1 kComma = true
    · rw [if_pos hc]
      have hup := hT.up r1.2.1 hc (by decide) (by decide)
      have hb1 := (isS_yes hc).1
      obtain ⟨hb1', hk1, m1, hm1⟩ := r1.2.2 hb1
      obtain ⟨y, s2, e2, r2⟩ := hE s1.up ⟨hup, Or.inl (by show T.length - (s1.k + 1) + 1 ≤ n; have := r1.1; omega)⟩
      rw [e2]
      have hk2 : s1.k + 1 ≤ s2.k := r2.1
      have hn3 := need_cases hT r2.2.1 kShut (by decide) (by decide)
      obtain ⟨s3, hs3⟩ : ∃ s3, s3 = needS T s2 kShut := ⟨_, rfl⟩
      rw [← hs3] at hn3
      refine ⟨_, s3, by rw [hs3], ⟨?_, ?_, fun hb3 => ?_⟩, fun ho => ?_⟩
      · have := r1.1
        rcases hn3 with ⟨a, _⟩ | ⟨a, _⟩ <;> omega
      · have := r2.2.1
        rcases hn3 with ⟨a, _⟩ | ⟨a, _⟩ <;> omega
      · rcases hn3 with ⟨a, _, _, d, _⟩ | ⟨a, b⟩
        · obtain ⟨_, _, m2, hm2⟩ := r2.2.2 d
          obtain ⟨q1, q2⟩ := hb0 hb1'
          refine ⟨q1, by omega, max m1 m2 + 1, ?_⟩
          refine (nice_pair _ (hm1.le (Nat.le_max_left m1 m2)) (hm2.le (Nat.le_max_right m1 m2))).more ?_
          have : s1.up.k = s1.k + 1 := rfl
          have := r1.1
          omega
        · omega
      · have := hlt ho
        rcases hn3 with ⟨a, _⟩ | ⟨a, _⟩ <;> omega
    · rw [if_neg hc]
      have hn3 := need_cases hT r1.2.1 kShut (by decide) (by decide)
      obtain ⟨s3, hs3⟩ : ∃ s3, s3 = needS T s1 kShut := ⟨_, rfl⟩
      rw [← hs3] at hn3
      refine ⟨x, s3, by rw [hs3], ⟨?_, ?_, fun hb3 => ?_⟩, fun ho => ?_⟩
      · have := r1.1
        rcases hn3 with ⟨a, _⟩ | ⟨a, _⟩ <;> omega
      · have := r1.2.1
        rcases hn3 with ⟨a, _⟩ | ⟨a, _⟩ <;> omega
      · rcases hn3 with ⟨a, _, _, d, _⟩ | ⟨a, b⟩
        · obtain ⟨hb1', hk1, m1, hm1⟩ := r1.2.2 d
          obtain ⟨q1, q2⟩ := hb0 hb1'
          exact ⟨q1, by omega, m1, hm1.more (by omega)⟩
        · omega
      · have := hlt ho
        rcases hn3 with ⟨a, _⟩ | ⟨a, _⟩ <;> omega

theorem app_tot {T : List Tok} (hT : Wf T) (hS : Sh T) {n : Nat} {E : St → Option (Ex × St)} (hE : TOT T n E) (s0 : St) : ∀ (f : Nat) (x : Ex) (s : St), T.length - s.k + 1 ≤ f → T.length - s.k ≤ n → Res T s0 x s →
    ∃ y s', appS (atomS E T) T f x s = some (y, s') ∧ Res T s0 y s'
  | 0, _, _, h, _, _ => by omega
  | f + 1, x, s, hf, hn, hr => by
    rw [appS]
    by_cases hi : isS T s kName = true ∨ isS T s kNum = true ∨ isS T s kOpen = true
    · rw [if_pos hi]
      obtain ⟨y, s1, e1, r1, l1⟩ := atom_tot hT hS hE s hr.2.1 hn
      rw [e1]
      have hl := l1 hi
      refine app_tot hT hS hE s0 f _ s1 (by have := hr.2.1; omega) (by omega) ⟨by have := hr.1; omega, r1.2.1, fun hb => ?_⟩
      obtain ⟨q1, q2, m2, h2⟩ := r1.2.2 hb
      obtain ⟨p1, p2, m1, h1⟩ := hr.2.2 q1
      refine ⟨p1, by omega, max m1 m2 + 1, ?_⟩
      exact (nice_app _ (h1.le (Nat.le_max_left m1 m2)) (h2.le (Nat.le_max_right m1 m2))).more (by omega)
    · rw [if_neg hi]
      exact ⟨x, s, rfl, hr⟩

/-- A let that is being read, so far. -/
def Pres (T : List Tok) (k0 : Nat) (x : Ex) (s' : St) : Prop := k0 ≤ s'.k ∧ s'.k < T.length ∧ (s'.bad < 0 → 0 < x.names.length ∧ ∃ m, Part m x (s'.k - k0))
theorem bound_tot {T : List Tok} (hT : Wf T) (hS : Sh T) {n : Nat} {E : St → Option (Ex × St)} (hE : TOT T n E) (k0 : Nat) (x : Ex) (s : St) (hs : s.k < T.length) (hk : k0 ≤ s.k) (hn : T.length - s.k + 1 ≤ n) (hx : s.bad < 0 → ∃ m, Part m x (s.k - k0)) :
    ∃ y s', boundS E T x s = some (y, s') ∧ y.op = x.op ∧ s.k ≤ s'.k ∧ Pres T k0 y s' := by
  unfold boundS
  have h1 := need_cases hT hs kName (by decide) (by decide)
  obtain ⟨s1, hs1⟩ : ∃ s1, s1 = needS T s kName := ⟨_, rfl⟩
  rw [← hs1] at h1 ⊢
  obtain ⟨s2, hs2⟩ : ∃ s2, s2 = twiceS x.names (tk T s.k).s (tk T s.k).pos s1 := ⟨_, rfl⟩
  have k2 : s2.k = s1.k := by rw [hs2, twiceS]; split <;> rfl
  have b2 : s2.bad < 0 → s1.bad < 0 := fun hb => by
    rw [hs2, twiceS] at hb
    split at hb
    · rename_i h; exact h.2
    · exact hb
  rw [← hs2]
  have l1 : s1.k < T.length := by rcases h1 with ⟨a, _⟩ | ⟨a, _⟩ <;> omega
  have l2 : s2.k < T.length := by omega
  have h3 := need_cases hT l2 kEq (by decide) (by decide)
  obtain ⟨s3, hs3⟩ : ∃ s3, s3 = needS T s2 kEq := ⟨_, rfl⟩
  rw [← hs3] at h3 ⊢
  have k3 : s.k ≤ s3.k := by
    rcases h1 with ⟨a, _⟩ | ⟨a, _⟩ <;> rcases h3 with ⟨b, _⟩ | ⟨b, _⟩ <;> omega
  have l3 : s3.k < T.length := by
    rcases h3 with ⟨b, _⟩ | ⟨b, _⟩ <;> omega
  obtain ⟨b, s4, e4, r4⟩ := hE s3 ⟨l3, Or.inl (by omega)⟩
  rw [e4]
  refine ⟨_, s4, rfl, rfl, by have := r4.1; omega, ⟨by have := r4.1; omega, r4.2.1, fun hb => ?_⟩⟩
  obtain ⟨q1, q2, m2, hm2⟩ := r4.2.2 hb
  have h3' : s3.k = s2.k + 1 ∧ s2.bad < 0 := by
    rcases h3 with ⟨a, _, _, d, _⟩ | ⟨a, b⟩
    · exact ⟨a, d⟩
    · omega
  have h1' : s1.k = s.k + 1 ∧ s.bad < 0 ∧ (tk T s.k).is = kName := by
    have := b2 h3'.2
    rcases h1 with ⟨a, _, _, d, e⟩ | ⟨a, b⟩
    · exact ⟨a, d, e⟩
    · omega
  obtain ⟨m1, hm1⟩ := hx h1'.2.1
  refine ⟨by show 0 < (x.names ++ [_]).length; simp, max m1 m2, ?_⟩
  have := (hm1.le (Nat.le_max_left m1 m2)).add (tk T s.k).s (hS s.k (Or.inl h1'.2.2)) (hm2.le (Nat.le_max_right m1 m2))
  rw [show s4.k - k0 = s.k - k0 + (s4.k - s3.k) + 2 from by omega]
  exact this

theorem Part.more {m : Nat} {x : Ex} {c c' : Nat} (h : Part m x c) (hc : c ≤ c') : Part m x c' :=
  ⟨h.op, h.len, by have := h.nlen; omega, fun y hy => by obtain ⟨a, b, d⟩ := h.kids y hy; exact ⟨a, by omega, d⟩, by have := h.text; omega⟩
theorem binds_tot {T : List Tok} (hT : Wf T) (hS : Sh T) {n : Nat} {E : St → Option (Ex × St)} (hE : TOT T n E) (k0 : Nat) : ∀ (f : Nat) (x : Ex) (s : St), T.length - s.k + 1 ≤ f → T.length - s.k ≤ n → Pres T k0 x s →
    ∃ y s', bindsS E T f x s = some (y, s') ∧ s.k ≤ s'.k ∧ Pres T k0 y s'
  | 0, _, _, h, _, _ => by omega
  | f + 1, x, s, hf, hn, hr => by
    rw [bindsS]
    by_cases hi : x.op = kRec ∧ isS T s kAnd = true
    · rw [if_pos hi]
      have hup := hT.up hr.2.1 hi.2 (by decide) (by decide)
      have hb := (isS_yes hi.2).1
      have ku : s.up.k = s.k + 1 := rfl
      obtain ⟨y, s1, e1, _, k1, r1⟩ := bound_tot hT hS hE k0 x s.up hup (by have := hr.1; omega) (by omega) (fun _ => by
        obtain ⟨_, m, hm⟩ := hr.2.2 hb
        exact ⟨m, hm.more (by omega)⟩)
      rw [e1]
      obtain ⟨z, s2, e2, k2, r2⟩ := binds_tot hT hS hE k0 f y s1 (by have := hr.2.1; omega) (by omega) r1
      exact ⟨z, s2, e2, by omega, r2⟩
    · rw [if_neg hi]
      exact ⟨x, s, rfl, Nat.le_refl _, hr⟩

theorem exp_tot {T : List Tok} (hT : Wf T) (hS : Sh T) (hl : T.length ≤ 900) : ∀ n, TOT T n (expS T n)
  | 0 => fun s h => by rcases h.2 with h | h <;> omega
  | n + 1 => fun s hf => by
    have hE := exp_tot hT hS hl n
    rw [expS]
    by_cases hb : 0 ≤ s.bad
    · rw [if_pos hb]
      exact ⟨_, s, rfl, Nat.le_refl _, hf.1, fun h => by omega⟩
    rw [if_neg hb]
    have hb' : s.bad < 0 := by omega
    have hk := hf.1
    have hn : T.length - s.k ≤ n := by rcases hf.2 with h | h <;> omega
    have ku : s.up.k = s.k + 1 := rfl
    have bu : s.up.bad = s.bad := rfl
    by_cases h1 : isS T s kFun = true
    · rw [if_pos h1]
      have hup := hT.up hk h1 (by decide) (by decide)
      have c1 := need_cases hT (s := s.up) hup kName (by decide) (by decide)
      obtain ⟨s1, hs1⟩ : ∃ s1, s1 = needS T s.up kName := ⟨_, rfl⟩
      rw [← hs1] at c1 ⊢
      have l1 : s1.k < T.length := by rcases c1 with ⟨a, _⟩ | ⟨a, _⟩ <;> omega
      have c2 := need_cases hT l1 kArrow (by decide) (by decide)
      obtain ⟨s2, hs2⟩ : ∃ s2, s2 = needS T s1 kArrow := ⟨_, rfl⟩
      rw [← hs2] at c2 ⊢
      have l2 : s2.k < T.length ∧ s.k + 1 ≤ s2.k := by
        rcases c1 with ⟨a, _⟩ | ⟨a, _⟩ <;> rcases c2 with ⟨b, _⟩ | ⟨b, _⟩ <;> omega
      obtain ⟨b, s4, e4, r4⟩ := hE s2 ⟨l2.1, Or.inl (by omega)⟩
      rw [e4]
      refine ⟨_, s4, rfl, by have := r4.1; omega, r4.2.1, fun hb4 => ?_⟩
      obtain ⟨q1, q2, m, hm⟩ := r4.2.2 hb4
      have d2 : s2.k = s1.k + 1 ∧ s1.bad < 0 := by
        rcases c2 with ⟨a, _, _, d, _⟩ | ⟨a, b⟩
        · exact ⟨a, d⟩
        · omega
      have d1 : s1.k = s.up.k + 1 ∧ (tk T s.up.k).is = kName := by
        rcases c1 with ⟨a, _, _, d, e⟩ | ⟨a, b⟩
        · exact ⟨a, e⟩
        · omega
      exact ⟨hb', by omega, m + 1, (nice_fun _ _ (hS _ (Or.inl d1.2)) hm).more (by omega)⟩
    rw [if_neg h1]
    by_cases h2 : isS T s kIf = true
    · rw [if_pos h2]
      have hup := hT.up hk h2 (by decide) (by decide)
      obtain ⟨c, s1, e1, r1⟩ := hE s.up ⟨hup, Or.inl (by omega)⟩
      rw [e1]
      have c2 := need_cases hT r1.2.1 kThen (by decide) (by decide)
      obtain ⟨s2, hs2⟩ : ∃ s2, s2 = needS T s1 kThen := ⟨_, rfl⟩
      show ∃ x s', (match expS T n (needS T s1 kThen) with | none => none | some (a, s2) => _) = some (x, s') ∧ _
      rw [← hs2] at c2 ⊢
      have l2 : s2.k < T.length ∧ s1.k ≤ s2.k := by
        have := r1.2.1
        rcases c2 with ⟨b, _⟩ | ⟨b, _⟩ <;> omega
      have g1 := r1.1
      obtain ⟨a, s3, e3, r3⟩ := hE s2 ⟨l2.1, Or.inl (by omega)⟩
      rw [e3]
      have c4 := need_cases hT r3.2.1 kElse (by decide) (by decide)
      obtain ⟨s4, hs4⟩ : ∃ s4, s4 = needS T s3 kElse := ⟨_, rfl⟩
      show ∃ x s', (match expS T n (needS T s3 kElse) with | none => none | some (b, s3) => _) = some (x, s') ∧ _
      rw [← hs4] at c4 ⊢
      have l4 : s4.k < T.length ∧ s3.k ≤ s4.k := by
        have := r3.2.1
        rcases c4 with ⟨b, _⟩ | ⟨b, _⟩ <;> omega
      have g3 := r3.1
      obtain ⟨b, s5, e5, r5⟩ := hE s4 ⟨l4.1, Or.inl (by omega)⟩
      rw [e5]
      have g5 := r5.1
      refine ⟨_, s5, rfl, by omega, r5.2.1, fun hb5 => ?_⟩
      obtain ⟨q5, p5, m5, n5⟩ := r5.2.2 hb5
      have d4 : s4.k = s3.k + 1 ∧ s3.bad < 0 := by
        rcases c4 with ⟨a, _, _, d, _⟩ | ⟨a, b⟩
        · exact ⟨a, d⟩
        · omega
      obtain ⟨q3, p3, m3, n3⟩ := r3.2.2 d4.2
      have d2 : s2.k = s1.k + 1 ∧ s1.bad < 0 := by
        rcases c2 with ⟨a, _, _, d, _⟩ | ⟨a, b⟩
        · exact ⟨a, d⟩
        · omega
      obtain ⟨q1, p1, m1, n1⟩ := r1.2.2 d2.2
      refine ⟨hb', by omega, max m1 (max m3 m5) + 1, (nice_if _ (n1.le ?_) (n3.le ?_) (n5.le ?_)).more (by omega)⟩ <;> omega
    rw [if_neg h2]
    by_cases h3 : isS T s kLet = true
    · rw [if_pos h3]
      have hup := hT.up hk h3 (by decide) (by decide)
      obtain ⟨s0, hs0⟩ : ∃ s0, s0 = takeS T s.up kRec := ⟨_, rfl⟩
      have g0 : s.k + 1 ≤ s0.k ∧ s0.k < T.length := by
        rw [hs0, takeS]
        split
        · rename_i hr
          have := hT.up (s := s.up) hup hr (by decide) (by decide)
          exact ⟨by show s.k + 1 ≤ s.up.k + 1; omega, this⟩
        · exact ⟨by omega, hup⟩
      obtain ⟨x0, hx0⟩ : ∃ x0 : Ex, x0 = ⟨if isS T s.up kRec = true then kRec else kLet, [], [], (tk T s.k).pos⟩ := ⟨_, rfl⟩
      have p0 : ∀ c, Part 0 x0 c := fun c => by
        rw [hx0]
        refine ⟨?_, rfl, Nat.zero_le _, fun y hy => absurd hy (List.not_mem_nil), Nat.zero_le _⟩
        show (if isS T s.up kRec = true then kRec else kLet) = kLet ∨ (if isS T s.up kRec = true then kRec else kLet) = kRec
        split
        · right; rfl
        · left; rfl
      rw [← hs0, ← hx0]
      obtain ⟨x, s1, e1, _, k1, r1⟩ := bound_tot hT hS hE (s.k + 1) x0 s0 g0.2 g0.1 (by omega) (fun _ => ⟨0, p0 _⟩)
      rw [e1]
      obtain ⟨y, s2, e2, k2, r2⟩ := binds_tot hT hS hE (s.k + 1) (T.length + 1) x s1 (by omega) (by omega) r1
      show ∃ x' s', (match bindsS (expS T n) T (T.length + 1) x s1 with | none => none | some (y, s2) => _) = some (x', s') ∧ _
      rw [e2]
      have c3 := need_cases hT r2.2.1 kIn (by decide) (by decide)
      obtain ⟨s3, hs3⟩ : ∃ s3, s3 = needS T s2 kIn := ⟨_, rfl⟩
      show ∃ x' s', (match expS T n (needS T s2 kIn) with | none => none | some (b, s3) => _) = some (x', s') ∧ _
      rw [← hs3] at c3 ⊢
      have l3 : s3.k < T.length ∧ s2.k ≤ s3.k := by
        have := r2.2.1
        rcases c3 with ⟨b, _⟩ | ⟨b, _⟩ <;> omega
      obtain ⟨b, s4, e4, r4⟩ := hE s3 ⟨l3.1, Or.inl (by omega)⟩
      rw [e4]
      have g4 := r4.1
      refine ⟨_, s4, rfl, by omega, r4.2.1, fun hb4 => ?_⟩
      obtain ⟨q4, p4, m4, n4⟩ := r4.2.2 hb4
      have d3 : s3.k = s2.k + 1 ∧ s2.bad < 0 := by
        rcases c3 with ⟨a, _, _, d, _⟩ | ⟨a, b⟩
        · exact ⟨a, d⟩
        · omega
      obtain ⟨z2, m2, n2⟩ := r2.2.2 d3.2
      have := r4.2.1
      refine ⟨hb', by omega, max m2 m4 + 1, ((n2.le (Nat.le_max_left m2 m4)).done z2 (n4.le (Nat.le_max_right m2 m4)) (by omega)).more (by omega)⟩
    rw [if_neg h3]
    obtain ⟨x, s1, e1, r1, _⟩ := atom_tot hT hS hE s hk hn
    rw [e1]
    exact app_tot hT hS hE s (T.length + 1) x s1 (by omega) (by have := r1.1; omega) r1
end Go.Proofs.YtfangljlgfcdpaaGreatDoor

namespace Go.Proofs.YtfangljlgfcdpaaGreatDoor
open Go.RowKit

/-- Keywords in a row of memory, from a place on. -/
def KwO (w : World) (kb ko : Nat) (kw : List (List UInt8)) : Prop := ∀ j, j < kw.length → w.cell? ⟨kb, ko + j, none⟩ = some (.string (B (kw.getD j [])))

theorem low_any (n : Int) (w : World) : Calls Tryz.prog 64 #[.int .u8 n] w fun e w' => e = .returned (.bool (decide (97 ≤ n ∧ n ≤ 122))) ∧ w' = w := by
  by_cases h1 : 97 ≤ n <;> by_cases h2 : n ≤ 122 <;>
  · go_enter Tryz.func64, Tryz.ntmps64
    go_wp2
    go_ret
    exact ⟨by simp [h1, h2], rfl⟩

theorem fig_any (n : Int) (w : World) : Calls Tryz.prog 65 #[.int .u8 n] w fun e w' => e = .returned (.bool (decide (48 ≤ n ∧ n ≤ 57))) ∧ w' = w := by
  by_cases h1 : 48 ≤ n <;> by_cases h2 : n ≤ 57 <;>
  · go_enter Tryz.func65, Tryz.ntmps65
    go_wp2
    go_ret
    exact ⟨by simp [h1, h2], rfl⟩


theorem low_is (c : UInt8) (w : World) : Calls Tryz.prog 64 #[.int .u8 (c.toNat : Int)] w fun e w' => e = .returned (.bool (low c)) ∧ w' = w := by
  refine (low_any _ w).mono ?_
  rintro e w' ⟨rfl, rfl⟩
  refine ⟨?_, rfl⟩
  have h : decide (97 ≤ (c.toNat : Int) ∧ (c.toNat : Int) ≤ 122) = low c := by
    unfold low
    rw [decide_eq_decide]
    omega
  rw [h]
theorem fig_is (c : UInt8) (w : World) : Calls Tryz.prog 65 #[.int .u8 (c.toNat : Int)] w fun e w' => e = .returned (.bool (fig c)) ∧ w' = w := by
  refine (fig_any _ w).mono ?_
  rintro e w' ⟨rfl, rfl⟩
  refine ⟨?_, rfl⟩
  have h : decide (48 ≤ (c.toNat : Int) ∧ (c.toNat : Int) ≤ 57) = fig c := by
    unfold fig
    rw [decide_eq_decide]
    omega
  rw [h]

theorem info_tok : (Tryz.prog.info? 135).map (fun i => (i.zero, i.size, i.bytes)) = some (some (.agg #[.string (B []), .string (B []), .int .i64 0]), 3, 40) := by kernel_rfl


/-- The block of a number in a body. -/
def findBlock (n : Nat) : Code → Option Code
  | .block m c => if m = n then some (.block m c) else findBlock n c
  | .seq a b => match findBlock n a with
    | some c => some c
    | none => findBlock n b
  | .loop c => findBlock n c
  | .cond _ a b => match findBlock n a with
    | some c => some c
    | none => findBlock n b
  | .scope c => findBlock n c
  | _ => none

set_option maxRecDepth 100000 in
set_option maxHeartbeats 4000000 in
theorem kinds_wp (c : Code) (hc : (Tryz.f33.body.bind (findBlock 4)) = some c) (s : ByteArray) (J : Nat) (w1 : World) (hs : s.size ≤ 300) (hJ2 : J ≤ s.size)
    (p1 p4 p5 p10 p12 p13 p14 p15 p16 p17 p18 p19 p20 p21 p22 p23 p24 p25 p26 p27 p28 p29 p30 p31 p32 p33 p34 p35 p36 p37 p38 p39 p40 p41 p42 p43 p44 p45 p46 p47 p48 p49 p50 p51 p52 p53 p54 p55 p56 p57 p58 p59 p60 p61 p62 p63 p64 p65 p66 p67 p68 p69 p70 p71 p72 p73 p74 p75 p76 p77 p78 p79 p80 p81 p82 p83 p84 p85 p86 p87 p88 p89 p90 p91 p92 p93 p94 p95 p96 p97 p98 p99 p100 p101 p102 p103 p104 p105 p106 p107 p108 p109 p110 p111 p112 p113 p114 p115 p116 p117 p118 p119 p120 p121 p122 p123 p124 p125 p126 p127 p128 p129 p130 p131 p132 p133 p134 p135 p136 p137 p138 p139 p140 p141 p142 p143 p144 p145 p146 p147 p148 p149 p150 p151 p152 p153 p154 p155 p156 p157 p158 p159 p160 p161 p162 p163 p164 p165 p166 p167 p168 p169 p170 p171 p172 p173 p174 p175 p176 : Value) (K : Act → World → Prop) (Q : Exit → Act → World → Prop)
    (hK : ∀ (n8 n10 n34 n35 n36 n37 n38 n39 n40 n41 n42 n43 n44 n45 n46 n47 n48 n49 n50 n51 n52 n53 n54 n55 n56 n57 n58 n59 n60 n61 n62 n63 n64 n65 n66 n67 n68 n69 n70 n71 n72 n73 n74 n75 n76 n77 n78 n79 n80 n81 n82 n83 n84 n85 n86 n87 n88 n89 n90 n91 n92 n93 n94 n95 n96 n97 n98 n99 n100 n101 n102 n103 n104 n105 n106 n107 n108 n109 n110 n111 n112 n113 n114 n115 n116 n117 n118 n119 n120 n121 n122 n123 n124 : Value) (wd : World), (n8 = .int .i64 ((raw s.data.toList J).2 : Nat) ∧ wd.heap[w1.heap.size]? = some (.cells #[.string (B (raw s.data.toList J).1), .string (B []), .int .i64 (J : Int)] 135 (0, 0)) ∧ Below w1.heap.size w1 wd) → K ⟨#[.string s, p1, undef, undef, p4, p5, .int .i64 (J : Int), .pointer (some ⟨w1.heap.size, 0, none⟩), n8, undef, n10, undef, p12, p13, p14, p15, p16, p17, p18, p19, p20, p21, p22, p23, p24, p25, p26, p27, p28, p29, p30, p31, p32, p33, n34, n35, n36, n37, n38, n39, n40, n41, n42, n43, n44, n45, n46, n47, n48, n49, n50, n51, n52, n53, n54, n55, n56, n57, n58, n59, n60, n61, n62, n63, n64, n65, n66, n67, n68, n69, n70, n71, n72, n73, n74, n75, n76, n77, n78, n79, n80, n81, n82, n83, n84, n85, n86, n87, n88, n89, n90, n91, n92, n93, n94, n95, n96, n97, n98, n99, n100, n101, n102, n103, n104, n105, n106, n107, n108, n109, n110, n111, n112, n113, n114, n115, n116, n117, n118, n119, n120, n121, n122, n123, n124, p125, p126, p127, p128, p129, p130, p131, p132, p133, p134, p135, p136, p137, p138, p139, p140, p141, p142, p143, p144, p145, p146, p147, p148, p149, p150, p151, p152, p153, p154, p155, p156, p157, p158, p159, p160, p161, p162, p163, p164, p165, p166, p167, p168, p169, p170, p171, p172, p173, p174, p175, p176], []⟩ wd) :
    Code.wp Tryz.prog c (Exit.then K Q) ⟨#[.string s, p1, undef, undef, p4, p5, .int .i64 (J : Int), .pointer (some ⟨w1.heap.size, 0, none⟩), .int .i64 (J : Int), undef, p10, undef, p12, p13, p14, p15, p16, p17, p18, p19, p20, p21, p22, p23, p24, p25, p26, p27, p28, p29, p30, p31, p32, p33, p34, p35, p36, p37, p38, p39, p40, p41, p42, p43, p44, p45, p46, p47, p48, p49, p50, p51, p52, p53, p54, p55, p56, p57, p58, p59, p60, p61, p62, p63, p64, p65, p66, p67, p68, p69, p70, p71, p72, p73, p74, p75, p76, p77, p78, p79, p80, p81, p82, p83, p84, p85, p86, p87, p88, p89, p90, p91, p92, p93, p94, p95, p96, p97, p98, p99, p100, p101, p102, p103, p104, p105, p106, p107, p108, p109, p110, p111, p112, p113, p114, p115, p116, p117, p118, p119, p120, p121, p122, p123, p124, p125, p126, p127, p128, p129, p130, p131, p132, p133, p134, p135, p136, p137, p138, p139, p140, p141, p142, p143, p144, p145, p146, p147, p148, p149, p150, p151, p152, p153, p154, p155, p156, p157, p158, p159, p160, p161, p162, p163, p164, p165, p166, p167, p168, p169, p170, p171, p172, p173, p174, p175, p176], []⟩ (w1.alloc (.cells #[Value.string { data := #[110, 111, 110, 101] }, Value.string { data := #[] }, Value.int IntKind.i64 (J : Int)] 135)) := by
  have HKK0 := hid hK
  clear hK
  have hsl : s.data.toList.length = s.size := by rw [Array.length_toList]; rfl
  conv at hc => lhs; whnf
  injection hc with hc
  subst hc
  by_cases hJs : J < s.size
  · have hne : ((J : Int) == (s.size : Int)) = false := beq_eq_false_iff_ne.2 (by omega)
    cases hlow : low s[J] with
    | true => 
      obtain ⟨K, hK⟩ : ∃ K, K = upto lowfig s.data.toList J := ⟨_, rfl⟩
      have hKb := upto_le lowfig s.data.toList J (by omega)
      rw [← hK, hsl] at hKb
      obtain ⟨hK1, hK2⟩ := hKb
      have HR : Hid (raw s.data.toList J = (kName, K)) := by
        show raw s.data.toList J = (kName, K)
        rw [hK]
        exact raw_name s J hJs hlow
      have HKK := (show Hid (K = upto lowfig s.data.toList J) from hK)
      clear hK
      go_wp2_with (go_at_call 64; refine (low_is _ _).mono ?_; rintro e w' ⟨rfl, rfl⟩)
      go_loopg [8] (K - J + 1) (fun g i wi => ∃ m : Nat, J ≤ m ∧ m ≤ K ∧ i = .int .i64 m ∧ g = K - m + 1 ∧ wi = w1.alloc (Obj.cells #[Value.string { data := #[110, 111, 110, 101] }, Value.string { data := #[] }, Value.int IntKind.i64 (J : Int)] 135))
      case atStart => exact ⟨J, by omega, by omega, rfl, by omega, rfl⟩
      case round =>
        obtain ⟨m, hm1, hm2, rfl, hgm, rfl⟩ := hrel
        by_cases hlt : m < K
        · have hml : m < s.size := by omega
          obtain ⟨c, hc1, hc2⟩ := upto_in lowfig s.data.toList J m hm1 (by rw [← HKK.out]; exact hlt)
          rw [byteAt s m hml] at hc1
          have hc3 : lowfig s[m] = true := by
            simp only [Option.some.injEq] at hc1
            rw [hc1]
            exact hc2
          clear hc1 hc2
          cases hlm : low s[m] with
          | true =>
            go_wp2_with (first | (go_at_call 64; refine (low_is _ _).mono ?_; rintro e w' ⟨rfl, rfl⟩) | (go_at_call 65; refine (fig_is _ _).mono ?_; rintro e w' ⟨rfl, rfl⟩))
            go_roundg (K - (m + 1) + 1)
            case measure => omega
            case rel => exact ⟨m + 1, by omega, by omega, by go_num, rfl, rfl⟩
          | false =>
            have hfm : fig s[m] = true := by simpa [lowfig, hlm] using hc3
            go_wp2_with (first | (go_at_call 64; refine (low_is _ _).mono ?_; rintro e w' ⟨rfl, rfl⟩) | (go_at_call 65; refine (fig_is _ _).mono ?_; rintro e w' ⟨rfl, rfl⟩))
            go_roundg (K - (m + 1) + 1)
            case measure => omega
            case rel => exact ⟨m + 1, by omega, by omega, by go_num, rfl, rfl⟩
        · have hmK : m = K := by omega
          subst hmK
          by_cases hml : m < s.size
          · have hb : lowfig s[m] = false := upto_out lowfig s.data.toList J s[m] (by rw [← HKK.out]; exact byteAt s m hml)
            have hb1 : low s[m] = false := by
              cases h : low s[m] with
              | true => simp [lowfig, h] at hb
              | false => rfl
            have hb2 : fig s[m] = false := by simpa [lowfig, hb1] using hb
            clear hb
            go_wp2_with (first | (go_at_call 64; refine (low_is _ _).mono ?_; rintro e w' ⟨rfl, rfl⟩) | (go_at_call 65; refine (fig_is _ _).mono ?_; rintro e w' ⟨rfl, rfl⟩))
            refine HKK0.out _ _ _ _ _ _ _ _ _ _ _ _ _ _ _ _ _ _ _ _ _ _ _ _ _ _ _ _ _ _ _ _ _ _ _ _ _ _ _ _ _ _ _ _ _ _ _ _ _ _ _ _ _ _ _ _ _ _ _ _ _ _ _ _ _ _ _ _ _ _ _ _ _ _ _ _ _ _ _ _ _ _ _ _ _ _ _ _ _ _ _ _ _ _ ?_
            rw [HR.out]
            exact ⟨rfl, heap_alloc_new _ _, (Below.refl _ _).alloc (Nat.le_refl _) _⟩
          · go_wp2_with fail
            refine HKK0.out _ _ _ _ _ _ _ _ _ _ _ _ _ _ _ _ _ _ _ _ _ _ _ _ _ _ _ _ _ _ _ _ _ _ _ _ _ _ _ _ _ _ _ _ _ _ _ _ _ _ _ _ _ _ _ _ _ _ _ _ _ _ _ _ _ _ _ _ _ _ _ _ _ _ _ _ _ _ _ _ _ _ _ _ _ _ _ _ _ _ _ _ _ _ ?_
            rw [HR.out]
            exact ⟨rfl, heap_alloc_new _ _, (Below.refl _ _).alloc (Nat.le_refl _) _⟩
    | false =>
      cases hfig : fig s[J] with
      | true =>
        obtain ⟨K, hK⟩ : ∃ K, K = upto fig s.data.toList J := ⟨_, rfl⟩
        have hKb := upto_le fig s.data.toList J (by omega)
        rw [← hK, hsl] at hKb
        obtain ⟨hK1, hK2⟩ := hKb
        have HR : Hid (raw s.data.toList J = (kNum, K)) := by
          show raw s.data.toList J = (kNum, K)
          rw [hK]
          exact raw_num s J hJs hlow hfig
        have HKK := (show Hid (K = upto fig s.data.toList J) from hK)
        clear hK
        go_wp2_with (first | (go_at_call 64; refine (low_is _ _).mono ?_; rintro e w' ⟨rfl, rfl⟩) | (go_at_call 65; refine (fig_is _ _).mono ?_; rintro e w' ⟨rfl, rfl⟩))
        go_loopg [8] (K - J + 1) (fun g i wi => ∃ m : Nat, J ≤ m ∧ m ≤ K ∧ i = .int .i64 m ∧ g = K - m + 1 ∧ wi = w1.alloc (Obj.cells #[Value.string { data := #[110, 111, 110, 101] }, Value.string { data := #[] }, Value.int IntKind.i64 (J : Int)] 135))
        case atStart => exact ⟨J, by omega, by omega, rfl, by omega, rfl⟩
        case round =>
          obtain ⟨m, hm1, hm2, rfl, hgm, rfl⟩ := hrel
          by_cases hlt : m < K
          · have hml : m < s.size := by omega
            obtain ⟨c, hc1, hc2⟩ := upto_in fig s.data.toList J m hm1 (by rw [← HKK.out]; exact hlt)
            rw [byteAt s m hml] at hc1
            have hc3 : fig s[m] = true := by
              simp only [Option.some.injEq] at hc1
              rw [hc1]
              exact hc2
            clear hc1 hc2
            go_wp2_with (first | (go_at_call 64; refine (low_is _ _).mono ?_; rintro e w' ⟨rfl, rfl⟩) | (go_at_call 65; refine (fig_is _ _).mono ?_; rintro e w' ⟨rfl, rfl⟩))
            go_roundg (K - (m + 1) + 1)
            case measure => omega
            case rel => exact ⟨m + 1, by omega, by omega, by go_num, rfl, rfl⟩
          · have hmK : m = K := by omega
            subst hmK
            by_cases hml : m < s.size
            · have hb : fig s[m] = false := upto_out fig s.data.toList J s[m] (by rw [← HKK.out]; exact byteAt s m hml)
              go_wp2_with (first | (go_at_call 64; refine (low_is _ _).mono ?_; rintro e w' ⟨rfl, rfl⟩) | (go_at_call 65; refine (fig_is _ _).mono ?_; rintro e w' ⟨rfl, rfl⟩))
              refine HKK0.out _ _ _ _ _ _ _ _ _ _ _ _ _ _ _ _ _ _ _ _ _ _ _ _ _ _ _ _ _ _ _ _ _ _ _ _ _ _ _ _ _ _ _ _ _ _ _ _ _ _ _ _ _ _ _ _ _ _ _ _ _ _ _ _ _ _ _ _ _ _ _ _ _ _ _ _ _ _ _ _ _ _ _ _ _ _ _ _ _ _ _ _ _ _ ?_
              rw [HR.out]
              exact ⟨rfl, heap_alloc_new _ _, (Below.refl _ _).alloc (Nat.le_refl _) _⟩
            · go_wp2_with fail
              refine HKK0.out _ _ _ _ _ _ _ _ _ _ _ _ _ _ _ _ _ _ _ _ _ _ _ _ _ _ _ _ _ _ _ _ _ _ _ _ _ _ _ _ _ _ _ _ _ _ _ _ _ _ _ _ _ _ _ _ _ _ _ _ _ _ _ _ _ _ _ _ _ _ _ _ _ _ _ _ _ _ _ _ _ _ _ _ _ _ _ _ _ _ _ _ _ _ ?_
              rw [HR.out]
              exact ⟨rfl, heap_alloc_new _ _, (Below.refl _ _).alloc (Nat.le_refl _) _⟩
      | false =>
        by_cases harr : ((s[J].toNat : Int) == 45) = true ∧ ∃ h : J + 1 < s.size, ((s[J + 1].toNat : Int) == 62) = true
        · obtain ⟨h45, hJ3, h62⟩ := harr
          have HR : Hid (raw s.data.toList J = (kArrow, J + 2)) := raw_arrow s J hJs hJ3 hlow hfig ((int_byte _ 45 (by decide)).1 h45) ((int_byte _ 62 (by decide)).1 h62)
          go_wp2_with (first | (go_at_call 64; refine (low_is _ _).mono ?_; rintro e w' ⟨rfl, rfl⟩) | (go_at_call 65; refine (fig_is _ _).mono ?_; rintro e w' ⟨rfl, rfl⟩))
          refine HKK0.out _ _ _ _ _ _ _ _ _ _ _ _ _ _ _ _ _ _ _ _ _ _ _ _ _ _ _ _ _ _ _ _ _ _ _ _ _ _ _ _ _ _ _ _ _ _ _ _ _ _ _ _ _ _ _ _ _ _ _ _ _ _ _ _ _ _ _ _ _ _ _ _ _ _ _ _ _ _ _ _ _ _ _ _ _ _ _ _ _ _ _ _ _ _ ?_
          rw [HR.out]
          exact ⟨rfl, heap_alloc_new _ _, (Below.refl _ _).alloc (Nat.le_refl _) _⟩
        · have HR : Hid (raw s.data.toList J = if s[J] ∈ signs then ([s[J]], J + 1) else (kNone, J)) :=
            raw_other s J hJs hlow hfig (fun e h' e' => harr ⟨(int_byte _ 45 (by decide)).2 e, h', (int_byte _ 62 (by decide)).2 e'⟩)
          have HQ := (show Hid (¬ (((s[J].toNat : Int) == 45) = true ∧ ∃ h : J + 1 < s.size, ((s[J + 1].toNat : Int) == 62) = true)) from harr)
          clear harr
          go_upto_region 24 with (first | (go_at_call 64; refine (low_is _ _).mono ?_; rintro e w' ⟨rfl, rfl⟩) | (go_at_call 65; refine (fig_is _ _).mono ?_; rintro e w' ⟨rfl, rfl⟩))
          go_cut [103] from 104 to 121 (fun b wx => b = .bool false ∧ wx = w1.alloc (Obj.cells #[Value.string { data := #[110, 111, 110, 101] }, Value.string { data := #[] }, Value.int IntKind.i64 (J : Int)] 135))
          case first =>
            cases h45 : ((s[J].toNat : Int) == 45) with
            | true =>
              by_cases hJ3 : J + 1 < s.size
              · have h62 : ((s[J + 1].toNat : Int) == 62) = false := by
                  cases h62 : ((s[J + 1].toNat : Int) == 62) with
                  | true => exact absurd ⟨h45, hJ3, h62⟩ HQ.out
                  | false => rfl
                go_wp2
                go_meet
                case rel => exact ⟨rfl, rfl⟩
              · have hd : decide ((J : Int) + 1 < (s.size : Int)) = false := by simp; omega
                go_wp2
                go_meet
                case rel => exact ⟨rfl, rfl⟩
            | false =>
              go_wp2
              go_meet
              case rel => exact ⟨rfl, rfl⟩
          case rest =>
            obtain ⟨rfl, rfl⟩ := hcut
            have kc := fun (o : Obj) (C : Array Value) (n c : Nat) => Lib.run_convert_bytes_const (P := Tryz.prog) (w1.alloc o) 137 5 C n c Tryz.underlying137 Tryz.underlying5
            simp only [World.size_alloc] at kc
            go_wp2_with fail
            go_loopg [8, 37] 7 (fun g k8 i wi => ∃ j X kk : Nat, j ≤ 6 ∧ i = .int .i64 j ∧ g = 7 - j ∧ k8 = .int .i64 kk ∧ X = 0 ∧ Hid (kk = J + (if s[J] ∈ signs.take j then 1 else 0)) ∧
                Hid (wi.heap[w1.heap.size]? = some (.cells #[.string (if s[J] ∈ signs.take j then B [s[J]] else B kNone), .string (B []), .int .i64 (J : Int)] 135 (0, 0))) ∧
                Hid (wi.heap[w1.heap.size + 1]? = some (.cells #[Value.int IntKind.u8 61, Value.int IntKind.u8 40, Value.int IntKind.u8 41, Value.int IntKind.u8 44, Value.int IntKind.u8 91, Value.int IntKind.u8 93] 5 (6, 7))) ∧ Below w1.heap.size w1 wi)
            case atStart =>
              exact ⟨0, 0, J, by omega, rfl, by omega, rfl, rfl, rfl, signs_start w1 J, heap_alloc_at _ _ _ (by simp), ((Below.refl _ _).alloc (Nat.le_refl _) _).alloc (by simp) _⟩
            case round =>
              obtain ⟨j, X, kk, hj, rfl, hgj, rfl, _, HKj, HT1, HS1, hbw⟩ := hrel
              by_cases hj6 : j < 6
              · have c1 := signs_cell HS1.out j hj6
                have c2 := cell_first HT1.out
                have c3 := free_first HT1.out
                obtain ⟨X1, hX1⟩ : ∃ X1, X1 = (if s[J] ∈ signs.take j then B [s[J]] else B kNone) := ⟨_, rfl⟩
                rw [← hX1] at c2
                obtain ⟨q, hq⟩ : ∃ q : Nat, q = (signs.getD j 0).toNat := ⟨_, rfl⟩
                rw [← hq] at c1
                have HX1 := (show Hid (X1 = (if s[J] ∈ signs.take j then B [s[J]] else B kNone)) from hX1)
                have Hq := (show Hid (q = (signs.getD j 0).toNat) from hq)
                clear hX1 hq
                have hkk : kk ≤ J + 1 := by have := HKj.out; split at this <;> omega
                cases hcc : ((s[J].toNat : Int) == (q : Int)) with
                | true =>
                  have R := sign_yes hJs hj6 HKj.out HT1.out HS1.out hbw Hq.out hcc
                  have HRR := hid R
                  clear R
                  go_wp2
                  go_roundg (7 - (j + 1))
                  case measure => omega
                  case rel => exact ⟨j + 1, 0, kk + 1, by omega, by go_num, rfl, by go_num, rfl, HRR.out.1, HRR.out.2.1, HRR.out.2.2.1, HRR.out.2.2.2⟩
                | false =>
                  have R := sign_no hJs hj6 HKj.out HT1.out Hq.out hcc
                  have HRR := hid R
                  clear R
                  go_wp2
                  go_roundg (7 - (j + 1))
                  case measure => omega
                  case rel => exact ⟨j + 1, 0, kk, by omega, by go_num, rfl, rfl, rfl, HRR.out.1, HRR.out.2, HS1, hbw⟩
              · have hj6' : j = 6 := by omega
                subst hj6'
                go_wp2
                refine HKK0.out _ _ _ _ _ _ _ _ _ _ _ _ _ _ _ _ _ _ _ _ _ _ _ _ _ _ _ _ _ _ _ _ _ _ _ _ _ _ _ _ _ _ _ _ _ _ _ _ _ _ _ _ _ _ _ _ _ _ _ _ _ _ _ _ _ _ _ _ _ _ _ _ _ _ _ _ _ _ _ _ _ _ _ _ _ _ _ _ _ _ _ _ _ _ ?_
                obtain ⟨r1, r2⟩ := sign_end hJs HKj.out HT1.out
                rw [HR.out]
                exact ⟨by rw [← r1], r2, hbw⟩
  · have hJe : J = s.size := by omega
    have heq : ((J : Int) == (s.size : Int)) = true := beq_iff_eq.2 (by omega)
    have HR : Hid (raw s.data.toList J = (kEnd, J)) := raw_end s J hJs
    clear hJe
    go_wp2
    refine HKK0.out _ _ _ _ _ _ _ _ _ _ _ _ _ _ _ _ _ _ _ _ _ _ _ _ _ _ _ _ _ _ _ _ _ _ _ _ _ _ _ _ _ _ _ _ _ _ _ _ _ _ _ _ _ _ _ _ _ _ _ _ _ _ _ _ _ _ _ _ _ _ _ _ _ _ _ _ _ _ _ _ _ _ _ _ _ _ _ _ _ _ _ _ _ _ ?_
    rw [HR.out]
    exact ⟨rfl, heap_alloc_new _ _, (Below.refl _ _).alloc (Nat.le_refl _) _⟩
end Go.Proofs.YtfangljlgfcdpaaGreatDoor

namespace Go.Proofs.YtfangljlgfcdpaaGreatDoor
open Go.RowKit

set_option maxRecDepth 100000 in
set_option maxHeartbeats 4000000 in
theorem tokens_any (s : ByteArray) (kb ko kc : Nat) (kw : List (List UInt8)) (w : World) (hs : s.size ≤ 300) (hk : KwO w kb ko kw) (hkb : kb < w.heap.size) (hkl : kw.length ≤ 100) :
    Calls Tryz.prog 33 #[.string s, .slice (some ⟨kb, ko, none⟩) kw.length kc] w fun e w' => ∃ v, e = .returned v ∧ w'.ownsRow w.heap.size 135 3 v (toks kw s.data.toList (s.size + 1) 0).length (rowCells (toks kw s.data.toList (s.size + 1) 0)) ∧ Below w.heap.size w w' := by
  have HK := (show Hid (KwO w kb ko kw) from hk)
  clear hk
  go_enter Tryz.func33, Tryz.ntmps33
  go_wp2_with fail
  go_loopg [5, 6] (s.size + 1) (fun g v i wr => ∃ k : Nat, k ≤ s.size ∧ i = .int .i64 k ∧ s.size - k < g ∧ Below w.heap.size w wr ∧
      ∃ ds, wr.ownsRow w.heap.size 135 3 v ds.length (rowCells ds) ∧ Hid (toks kw s.data.toList (s.size + 1) 0 = ds ++ toks kw s.data.toList g k))
  case atStart => exact ⟨0, by omega, rfl, by omega, Below.refl _ _, [], World.ownsRow_nil _ _ _ _, rfl⟩
  case round =>
    obtain ⟨k, hk, rfl, hg, hbel, ds, hown, HT⟩ := hrel
    obtain ⟨F, rfl⟩ : ∃ F, gk = F + 1 := ⟨gk - 1, by omega⟩
    have hsl : s.data.toList.length = s.size := by rw [Array.length_toList]; rfl
    obtain ⟨J, hJ⟩ : ∃ J, J = upto isB s.data.toList k := ⟨_, rfl⟩
    have hJb := upto_le isB s.data.toList k (by omega)
    rw [← hJ, hsl] at hJb
    obtain ⟨hJ1, hJ2⟩ := hJb
    have HJ := (show Hid (J = upto isB s.data.toList k) from hJ)
    clear hJ
    go_upto_block 2 with fail
    go_cut [6] (fun i wc => i = .int .i64 J ∧ wc = wr)
    case first =>
      go_wp2_with fail
      go_loopg [6] (J - k + 1) (fun g i wi => ∃ m : Nat, k ≤ m ∧ m ≤ J ∧ i = .int .i64 m ∧ g = J - m + 1 ∧ wi = wr)
      case atStart => exact ⟨k, by omega, by omega, rfl, by omega, rfl⟩
      case round =>
        obtain ⟨m, hm1, hm2, rfl, hgm, rfl⟩ := hrel
        by_cases hlt : m < J
        · have hml : m < s.size := by omega
          obtain ⟨c, hc1, hc2⟩ := upto_in isB s.data.toList k m hm1 (by rw [← HJ.out]; exact hlt)
          rw [byteAt s m hml] at hc1
          have hc3 : (s[m] = 32) ∨ (s[m] = 10) := by
            simp only [Option.some.injEq] at hc1
            subst hc1
            simpa [isB] using hc2
          clear hc1 hc2
          rcases hc3 with hc3 | hc3
          all_goals
            go_wp2
            go_roundg (J - (m + 1) + 1)
            case measure => omega
            case rel => exact ⟨m + 1, by omega, by omega, by go_num, rfl, rfl⟩
        · have hmJ : m = J := by omega
          subst hmJ
          by_cases hml : m < s.size
          · have hb : isB s[m] = false := upto_out isB s.data.toList k s[m] (by rw [← HJ.out]; exact byteAt s m hml)
            have hb2 : ((s[m].toNat : Int) == 32) = false ∧ ((s[m].toNat : Int) == 10) = false := notB s[m] hb
            obtain ⟨hb3, hb4⟩ := hb2
            clear hb
            go_wp2
            go_meet
            case rel => exact ⟨rfl, rfl⟩
          · go_wp2
            go_meet
            case rel => exact ⟨rfl, rfl⟩
    case rest =>
      obtain ⟨rfl, rfl⟩ := hcut
      rename World => w1
      go_upto_block 4 with fail
      go_cut [8] (fun kk wd => kk = .int .i64 ((raw s.data.toList J).2 : Nat) ∧ wd.heap[w1.heap.size]? = some (.cells #[.string (B (raw s.data.toList J).1), .string (B []), .int .i64 (J : Int)] 135 (0, 0)) ∧ Below w1.heap.size w1 wd)
      case first =>
        refine kinds_wp _ (by kernel_rfl) s J w1 hs hJ2 _ _ _ _ _ _ _ _ _ _ _ _ _ _ _ _ _ _ _ _ _ _ _ _ _ _ _ _ _ _ _ _ _ _ _ _ _ _ _ _ _ _ _ _ _ _ _ _ _ _ _ _ _ _ _ _ _ _ _ _ _ _ _ _ _ _ _ _ _ _ _ _ _ _ _ _ _ _ _ _ _ _ _ _ _ _ _ _ _ _ _ _ _ _ _ _ _ _ _ _ _ _ _ _ _ _ _ _ _ _ _ _ _ _ _ _ _ _ _ _ _ _ _ _ _ _ _ _ _ _ _ _ _ _ _ _ _ _ _ _ _ _ _ _ _ _ _ _ _ _ _ _ _ _ _ _ _ _ _ _ _ _ _ _ _ _ _ _ _ _ _ ?_
        intro _ _ _ _ _ _ _ _ _ _ _ _ _ _ _ _ _ _ _ _ _ _ _ _ _ _ _ _ _ _ _ _ _ _ _ _ _ _ _ _ _ _ _ _ _ _ _ _ _ _ _ _ _ _ _ _ _ _ _ _ _ _ _ _ _ _ _ _ _ _ _ _ _ _ _ _ _ _ _ _ _ _ _ _ _ _ _ _ _ _ _ _ _ wd hrel
        have HREL := hid hrel
        clear hrel
        dsimp only
        go_wp2_with fail
        go_meet
        case rel => exact HREL.out
      case rest =>
        obtain ⟨rfl, ht, hbw⟩ := hcut
        rename World => w2
        obtain ⟨r1, r2, hr⟩ : ∃ r1 r2, (r1, r2) = raw s.data.toList J := ⟨_, _, rfl⟩
        have hrr := raw_le s J hJ2
        rw [← hr] at ht hrr ⊢
        dsimp only at ht hrr ⊢
        obtain ⟨hr2, hr3⟩ := hrr
        have HR := (show Hid ((r1, r2) = raw s.data.toList J) from hr)
        clear hr
        have c1 := cell_first ht
        have c2 := cell_second ht
        have f1 := free_first ht
        have f2 := free_second ht
        have HT1 := (show Hid (w2.heap[w1.heap.size]? = some (.cells #[.string (B r1), .string (B []), .int .i64 (J : Int)] 135 (0, 0))) from ht)
        clear ht
        go_upto_region 28 with fail
        rw [ext_cut]
        obtain ⟨w3, hw3⟩ : ∃ w3, w3 = w2.setCell ⟨w1.heap.size, 1, none⟩ (.string (B (cut s.data.toList J r2))) := ⟨_, rfl⟩
        obtain ⟨txt, htx⟩ : ∃ txt, txt = cut s.data.toList J r2 := ⟨_, rfl⟩
        rw [← htx] at hw3 ⊢
        rw [← hw3]
        have ht3 : w3.heap[w1.heap.size]? = some (.cells #[.string (B r1), .string (B txt), .int .i64 (J : Int)] 135 (0, 0)) := by rw [hw3]; exact set_second HT1.out _
        have hb3 : Below w1.heap.size w1 w3 := by rw [hw3]; exact hbw.setCell (Nat.le_refl _) _
        have HTX := (show Hid (txt = cut s.data.toList J r2) from htx)
        clear hw3 htx HT1 hbw c1 c2 f1 f2
        have c1 := cell_first ht3
        have f1 := free_first ht3
        have HT3 := (show Hid (w3.heap[w1.heap.size]? = some (.cells #[.string (B r1), .string (B txt), .int .i64 (J : Int)] 135 (0, 0))) from ht3)
        clear ht3
        go_cut [143] (fun b wx => b = .bool (bigB r1 J r2) ∧ wx = w3)
        case first =>
          by_cases hn : r1 = kName
          · have h1 : (B r1).toList = [110, 97, 109, 101] := by rw [toList_B, hn]; rfl
            have HN := (show Hid (r1 = kName) from hn)
            clear hn
            go_wp2
            go_meet
            case rel => exact ⟨congrArg Value.bool (big_yes (Or.inl HN.out)), rfl⟩
          · have h1 : ¬ (B r1).toList = [110, 97, 109, 101] := by rw [toList_B]; exact hn
            have HN := (show Hid (¬ r1 = kName) from hn)
            clear hn
            by_cases hm : r1 = kNum
            · have h2 : (B r1).toList = [110, 117, 109] := by rw [toList_B, hm]; rfl
              have HM := (show Hid (r1 = kNum) from hm)
              clear hm
              go_wp2
              go_meet
              case rel => exact ⟨congrArg Value.bool (big_yes (Or.inr HM.out)), rfl⟩
            · have h2 : ¬ (B r1).toList = [110, 117, 109] := by rw [toList_B]; exact hm
              have HM := (show Hid (¬ r1 = kNum) from hm)
              clear hm
              go_wp2
              go_meet
              case rel => exact ⟨congrArg Value.bool (big_no HN.out HM.out), rfl⟩
        case rest =>
          obtain ⟨rfl, rfl⟩ := hcut
          rename World => w3
          go_upto_if 143 with fail
          go_cut [8] (fun k8 wx => k8 = .int .i64 (r2 : Int) ∧ Hid (wx.heap[w1.heap.size]? = some (.cells #[.string (B (bounded r1 J r2)), .string (B txt), .int .i64 (J : Int)] 135 (0, 0))) ∧ Below w1.heap.size w1 wx)
          case first =>
            cases hbig : bigB r1 J r2 with
            | true =>
              have HG := (show Hid (bigB r1 J r2 = true) from hbig)
              go_wp2
              go_meet
              case rel =>
                refine ⟨rfl, ?_, hb3.setCell (Nat.le_refl _) _⟩
                show (w3.setCell _ _).heap[_]? = _
                rw [set_first HT3.out]
                unfold bounded
                rw [if_pos HG.out]
                rfl
            | false =>
              have HG := (show Hid (bigB r1 J r2 = false) from hbig)
              go_wp2
              go_meet
              case rel =>
                refine ⟨rfl, ?_, hb3⟩
                show w3.heap[_]? = _
                unfold bounded
                rw [if_neg (by rw [HG.out]; decide)]
                exact HT3.out
          case rest =>
            obtain ⟨rfl, HT4, hb4⟩ := hcut
            rename World => w4
            have hw1 : w.heap.size ≤ w1.heap.size := hbel.size
            obtain ⟨b, hbd⟩ : ∃ b, b = bounded r1 J r2 := ⟨_, rfl⟩
            rw [← hbd] at HT4
            have HBD := (show Hid (b = bounded r1 J r2) from hbd)
            clear hbd c1 f1 HT3 hb3
            go_wp2_with fail
            go_loopg [147] (kw.length + 1) (fun g i wi => ∃ j : Nat, j ≤ kw.length ∧ i = .int .i64 j ∧ g = kw.length - j + 1 ∧ Hid (wi.heap[w1.heap.size]? = some (.cells #[.string (B (kwAfter kw b txt j)), .string (B txt), .int .i64 (J : Int)] 135 (0, 0))) ∧ Below w1.heap.size w1 wi)
            case atStart => exact ⟨0, by omega, rfl, by omega, by simpa [kwAfter] using HT4, hb4⟩
            case round =>
              obtain ⟨j, hj, rfl, hgj, HTj, hbj⟩ := hrel
              clear HT4 hb4
              have c1 := cell_first HTj.out
              have c2 := cell_second HTj.out
              have f1 := free_first HTj.out
              obtain ⟨isj, hisj⟩ : ∃ isj, isj = kwAfter kw b txt j := ⟨_, rfl⟩
              rw [← hisj] at c1
              have HI := (show Hid (isj = kwAfter kw b txt j) from hisj)
              clear hisj
              by_cases hjl : j < kw.length
              · have c3 : wr.cell? ⟨kb, ko + j, none⟩ = some (.string (B (kw.getD j []))) := by
                  rw [hbj.cell (by show kb < _; omega), hbel.cell (by show kb < _; exact hkb)]
                  exact HK.out j hjl
                obtain ⟨kj, hkj⟩ : ∃ kj, kj = kw.getD j [] := ⟨_, rfl⟩
                rw [← hkj] at c3
                have HKJ := (show Hid (kj = kw.getD j []) from hkj)
                clear hkj
                by_cases hA : isj = kName
                · have h1 : (B isj).toList = [110, 97, 109, 101] := by rw [toList_B, hA]; rfl
                  have HA := (show Hid (isj = kName) from hA)
                  clear hA
                  by_cases hB : txt = kj
                  · have h2 : ((B txt).toList == (B kj).toList) = true := by rw [hB]; exact beq_self_eq_true _
                    have HB := (show Hid (txt = kj) from hB)
                    clear hB
                    go_wp2
                    go_roundg (kw.length - (j + 1) + 1)
                    case measure => omega
                    case rel =>
                      refine ⟨j + 1, by omega, by go_num, rfl, ?_, hbj.setCell (Nat.le_refl _) _⟩
                      show (wr.setCell _ _).heap[_]? = _
                      rw [set_first HTj.out, ← kw_yes hjl (by rw [← HI.out]; exact HA.out) (by rw [← HKJ.out]; exact HB.out), HKJ.out]
                  · have h2 : ((B txt).toList == (B kj).toList) = false := by rw [toList_B, toList_B]; exact beq_eq_false_iff_ne.2 hB
                    have HB := (show Hid (¬ txt = kj) from hB)
                    clear hB
                    go_wp2
                    go_roundg (kw.length - (j + 1) + 1)
                    case measure => omega
                    case rel =>
                      refine ⟨j + 1, by omega, by go_num, rfl, ?_, hbj⟩
                      show wr.heap[_]? = _
                      rw [← kw_no hjl (fun e => HB.out (by rw [HKJ.out]; exact e.2))]
                      exact HTj.out
                · have h1 : ¬ (B isj).toList = [110, 97, 109, 101] := by rw [toList_B]; exact hA
                  have HA := (show Hid (¬ isj = kName) from hA)
                  clear hA
                  go_wp2
                  go_roundg (kw.length - (j + 1) + 1)
                  case measure => omega
                  case rel =>
                    refine ⟨j + 1, by omega, by go_num, rfl, ?_, hbj⟩
                    show wr.heap[_]? = _
                    rw [← kw_no hjl (fun e => HA.out (by rw [HI.out]; exact e.1))]
                    exact HTj.out
              · have hje : j = kw.length := by omega
                subst hje
                have c4 := cell_third HTj.out
                have hown2 := own_below hown hbj
                have hsz := hbj.size
                obtain ⟨i0, hi, hz0, hz1, hz2⟩ := info_parts info_tok
                have hdl : ds.length ≤ s.size + 1 := done_le HT.out
                go_wp2_with (at_builtin; refine wpList_append_own _ rfl (.tmp 163) (.tmp 165) 69 rfl w.heap.size 135 i0 (.agg #[.string (B []), .string (B []), .int .i64 0]) 3 40 Tryz.underlying69 hi hz0 hz1 hz2 rfl (by decide) _ _ _ rfl (hown2.alloc _) ⟨wr.heap.size, 0, none⟩ 1 1 (tokCells ⟨isj, txt, J⟩) rfl rfl ?d1 ?d2 ?d3 ?d4 ?d5 ?_)
                case d1 => exact three_new _ _ _ _ _
                case d2 => exact tok_one _
                case d3 => unfold maxLen; omega
                case d4 => omega
                case d5 => simp; omega
                intro v' w5 hown' hgrow _
                have R := tok_done (isj := isj) kw s HT.out HJ.out HR.out HTX.out (by rw [HI.out, HBD.out]) rfl
                have hw5 := hgrow.size
                have ht5 := tb_kept hown (show w1.heap.size < _ from lt_of_block HTj.out) hgrow HTj.out
                rw [← HI.out] at ht5
                have hb5 : Below w.heap.size w w5 := ((hbel.trans (hbj.mono hw1)).alloc (by omega) _).grown hgrow (by simp; omega) (fun q hq => (own_lt hown hq.symm).1)
                have c5 := cell_first ht5
                have HRR := hid R
                have HO := hid hown'
                clear R hown' hgrow c1 c2 c4 f1 ht5
                by_cases hE : isj = kNone ∨ isj = kEnd
                · have HE := (show Hid (isj = kNone ∨ isj = kEnd) from hE)
                  by_cases hN : isj = kNone
                  · have h1 : (B isj).toList = [110, 111, 110, 101] := by rw [toList_B]; exact hN
                    clear hE hN
                    go_wp2
                    go_ret
                    have e := HRR.out.1 HE.out
                    exact ⟨v', rfl, by rw [e, List.length_append, rowCells_snoc]; exact HO.out, hb5⟩
                  · have h1 : ¬ (B isj).toList = [110, 111, 110, 101] := by rw [toList_B]; exact hN
                    have h2 : (B isj).toList = [101, 110, 100] := by rw [toList_B]; exact hE.resolve_left hN
                    clear hE hN
                    go_wp2
                    go_ret
                    have e := HRR.out.1 HE.out
                    exact ⟨v', rfl, by rw [e, List.length_append, rowCells_snoc]; exact HO.out, hb5⟩
                · have HE := (show Hid (¬ (isj = kNone ∨ isj = kEnd)) from hE)
                  have h1 : ((B isj).toList == [110, 111, 110, 101]) = false := by rw [toList_B]; exact beq_eq_false_iff_ne.2 (fun e => hE (Or.inl e))
                  have h2 : ((B isj).toList == [101, 110, 100]) = false := by rw [toList_B]; exact beq_eq_false_iff_ne.2 (fun e => hE (Or.inr e))
                  clear hE
                  go_wp2
                  go_roundg F
                  case measure => omega
                  case rel =>
                    have e := HRR.out.2 HE.out
                    have ho : w5.ownsRow w.heap.size 135 3 v' (ds ++ [(⟨isj, txt, J⟩ : Tok)]).length (rowCells (ds ++ [(⟨isj, txt, J⟩ : Tok)])) := by rw [List.length_append, rowCells_snoc]; exact HO.out
                    exact ⟨r2, by omega, rfl, by omega, hb5, ds ++ [⟨isj, txt, J⟩], ho, hid e.1⟩
end Go.Proofs.YtfangljlgfcdpaaGreatDoor

/-
  OUR OWN TEXT. What the list of a text's tokens is like.
-/
namespace Go.Proofs.YtfangljlgfcdpaaGreatDoor
open Go.RowKit

theorem cut_len (l : List UInt8) (i k : Nat) : (cut l i k).length ≤ k - i := by
  rw [cut, List.length_drop, List.length_take]; omega
theorem tok_facts (kw : List (List UInt8)) (s : ByteArray) (J : Nat) (hJ : J ≤ s.size) {t : Tok} {r2 : Nat} (ht : tokAt kw s.data.toList J = (t, r2)) :
    t.pos = J ∧ J ≤ r2 ∧ r2 ≤ s.size ∧ ((t.is = kName ∨ t.is = kNum) → t.s.length ≤ 8) ∧ (t.is ≠ kNone → t.is ≠ kEnd → J < r2) := by
  obtain ⟨r1, r2', hr⟩ : ∃ r1 r2', (r1, r2') = raw s.data.toList J := ⟨_, _, rfl⟩
  have hle := raw_le s J hJ
  unfold tokAt at ht
  rw [← hr] at ht hle
  simp only [Prod.mk.injEq] at ht
  obtain ⟨ht, rfl⟩ := ht
  subst ht
  obtain ⟨b, hb⟩ : ∃ b, b = if (r1 = kName ∨ r1 = kNum) ∧ r2' - J > 8 then kNone else r1 := ⟨_, rfl⟩
  have hbig : (b = kName ∨ b = kNum) → r2' - J ≤ 8 := fun h => by
    by_cases hc : (r1 = kName ∨ r1 = kNum) ∧ r2' - J > 8
    · rw [if_pos hc] at hb
      rw [hb] at h
      exact absurd h (by decide)
    · rw [if_neg hc] at hb
      subst hb
      exact Nat.not_lt.1 (fun h2 => hc ⟨h, h2⟩)
  have hbr : b ≠ kNone → b = r1 := fun h => by
    by_cases hc : (r1 = kName ∨ r1 = kNum) ∧ r2' - J > 8
    · rw [if_pos hc] at hb; exact absurd hb h
    · rw [if_neg hc] at hb; exact hb
  have hlen := cut_len s.data.toList J r2'
  refine ⟨rfl, hle.1, hle.2, fun h => ?_, fun h1 h2 => ?_⟩
  · rw [← hb] at h
    show (cut s.data.toList J r2').length ≤ 8
    by_cases hk : b = kName ∧ cut s.data.toList J r2' ∈ kw
    · have := hbig (Or.inl hk.1)
      omega
    · rw [if_neg hk] at h
      have := hbig h
      omega
  · rw [← hb] at h1 h2
    by_cases hk : b = kName ∧ cut s.data.toList J r2' ∈ kw
    · have e : b = r1 := hbr (by rw [hk.1]; decide)
      exact raw_moves s J hr (by rw [← e, hk.1]; decide) (by rw [← e, hk.1]; decide)
    · rw [if_neg hk] at h1 h2
      have e := hbr h1
      exact raw_moves s J hr (by rw [← e]; exact h1) (by rw [← e]; exact h2)

theorem tk_cons (t : Tok) (T : List Tok) (k : Nat) : tk (t :: T) (k + 1) = tk T k := by simp [tk]
theorem tk_first (t : Tok) (T : List Tok) : tk (t :: T) 0 = t := by simp [tk]
theorem tk_nil (k : Nat) : tk [] k = ⟨[], [], 0⟩ := by simp [tk]
theorem toks_facts (kw : List (List UInt8)) (s : ByteArray) : ∀ (f i : Nat), i ≤ s.size → s.size - i < f →
    Wf (toks kw s.data.toList f i) ∧ Sh (toks kw s.data.toList f i) ∧ ∀ k, (tk (toks kw s.data.toList f i) k).pos ≤ s.size
  | 0, _, _, h => by omega
  | f + 1, i, hi, hf => by
    have hsl : s.data.toList.length = s.size := by rw [Array.length_toList]; rfl
    have hu := upto_le isB s.data.toList i (by omega)
    rw [hsl] at hu
    obtain ⟨J, hJ⟩ : ∃ J, J = upto isB s.data.toList i := ⟨_, rfl⟩
    rw [← hJ] at hu
    obtain ⟨t, r2, ht⟩ : ∃ t r2, tokAt kw s.data.toList J = (t, r2) := ⟨_, _, rfl⟩
    obtain ⟨f1, f2, f3, f4, f5⟩ := tok_facts kw s J hu.2 ht
    rw [toks_step kw s.data.toList f i J hJ ht]
    by_cases he : t.is = kNone ∨ t.is = kEnd
    · rw [if_pos he]
      refine ⟨⟨Nat.zero_lt_one, fun k hk => ?_⟩, fun k hk => ?_, fun k => ?_⟩
      · have : k = 0 := by simpa using hk
        subst this
        rw [tk_first]
        exact ⟨fun _ => rfl, fun _ => he⟩
      · cases k with
        | zero => rw [tk_first] at hk ⊢; exact f4 hk
        | succ k => rw [tk_cons, tk_nil]; exact Nat.zero_le _
      · cases k with
        | zero => rw [tk_first, f1]; exact hu.2
        | succ k => rw [tk_cons, tk_nil]; exact Nat.zero_le _
    · rw [if_neg he]
      have hm := f5 (fun e => he (Or.inl e)) (fun e => he (Or.inr e))
      obtain ⟨g1, g2, g3⟩ := toks_facts kw s f r2 f3 (by omega)
      refine ⟨⟨Nat.succ_pos _, fun k hk => ?_⟩, fun k hk => ?_, fun k => ?_⟩
      · cases k with
        | zero =>
          rw [tk_first, List.length_cons]
          have := g1.1
          exact ⟨fun h => absurd h he, fun h => by omega⟩
        | succ k =>
          rw [tk_cons, List.length_cons]
          rw [List.length_cons] at hk
          have := g1.2 k (by omega)
          exact ⟨fun h => by have := this.1 h; omega, fun h => this.2 (by omega)⟩
      · cases k with
        | zero => rw [tk_first] at hk ⊢; exact f4 hk
        | succ k => rw [tk_cons] at hk ⊢; exact g2 k hk
      · cases k with
        | zero => rw [tk_first, f1]; exact hu.2
        | succ k => rw [tk_cons]; exact g3 k
end Go.Proofs.YtfangljlgfcdpaaGreatDoor

/-
  OUR OWN TEXT. typerref.Read.
-/
namespace Go.Proofs.YtfangljlgfcdpaaGreatDoor
open Go.RowKit

theorem old_cell {w : World} {b o : Nat} {v : Value} (ob : Obj) (h : w.cell? ⟨b, o, none⟩ = some v) (hb : b < w.heap.size) : (w.alloc ob).cell? ⟨b, o, none⟩ = some v := by
  rw [← h]
  exact World.cell?_of_block (a := ⟨b, o, none⟩) (Below.heap_alloc _ _ _ hb)
/-- What read hands back: the reader's tokens, and where it stands when the end is needed. -/
def toksOf (kw : List (List UInt8)) (s : ByteArray) : List Tok := toks kw s.data.toList (s.size + 1) 0
theorem toksOf_len (kw : List (List UInt8)) (s : ByteArray) : (toksOf kw s).length ≤ s.size + 1 := toks_len _ _ _ _
/-- The reader laid into memory. -/
theorem rs_new {w : World} {g cap : Nat} {T : List Tok} {cur : Array Value} (hg : w.heap[g]? = some (.cells cur 135 (0, 0))) (ht : cur.toList.take (T.length * 3) = rowCells T) (hl : T.length ≤ 400) (hp : ∀ k, (tk T k).pos ≤ 400) :
    RS (w.alloc (.cells #[.slice (some ⟨g, 0, none⟩) T.length cap, .int .i64 0, .int .i64 (-1)] 72)) w.heap.size g cap T ⟨0, -1⟩ :=
  ⟨heap_alloc_new _ _, ⟨cur, by rw [Below.heap_alloc _ _ _ (lt_of_block hg)]; exact hg, ht⟩, hl, hp, Nat.zero_le _, by show (-1 : Int) ≤ -1; omega, by show (-1 : Int) ≤ 400; omega⟩
theorem fz_none (w : World) : Fz (fun _ => none) w := fun k o e => by cases e
def fv (a b : Int) : Value := .agg #[.int .i64 a, .int .i64 b, .string (B []), .int .i64 0, .int .i64 0]
/-- What Read answers: s2: where its reader stands at last. -/
def ReadPost (w w' : World) (e : Ending) (x : Ex) (s2 : St) : Prop :=
  Below w.heap.size w w' ∧ ((0 ≤ s2.bad ∧ e = .returned (.tuple #[.pointer none, fv 2 s2.bad])) ∨
    (s2.bad < 0 ∧ ∃ m c, Nice m x c ∧ c ≤ 400 ∧ ((40 < exDeep m x ∧ e = .returned (.tuple #[.pointer none, fv 3 0])) ∨
      (exDeep m x ≤ 40 ∧ ∃ b H', e = .returned (.tuple #[.pointer (some ⟨b, 0, none⟩), fv 0 0]) ∧ Fz H' w' ∧ XRep m H' b x))))
theorem fv_below {w w3 : World} (h : Below w.heap.size w w3) (v0 v1 v2 v3 v4 : Value) : Below w.heap.size w ((((((w3.setCell ⟨w.heap.size, 0, none⟩ v0).setCell ⟨w.heap.size, 1, none⟩ v1).setCell ⟨w.heap.size, 2, none⟩ v2).setCell ⟨w.heap.size, 3, none⟩ v3).setCell ⟨w.heap.size, 4, none⟩ v4).drew) :=
  (((((h.setCell (Nat.le_refl _) _).setCell (Nat.le_refl _) _).setCell (Nat.le_refl _) _).setCell (Nat.le_refl _) _).setCell (Nat.le_refl _) _).drew
theorem fv_below' {w w3 : World} (h : Below w.heap.size w w3) (v0 v1 v2 v3 v4 : Value) : Below w.heap.size w (((((w3.setCell ⟨w.heap.size, 0, none⟩ v0).setCell ⟨w.heap.size, 1, none⟩ v1).setCell ⟨w.heap.size, 2, none⟩ v2).setCell ⟨w.heap.size, 3, none⟩ v3).setCell ⟨w.heap.size, 4, none⟩ v4) :=
  ((((h.setCell (Nat.le_refl _) _).setCell (Nat.le_refl _) _).setCell (Nat.le_refl _) _).setCell (Nat.le_refl _) _).setCell (Nat.le_refl _) _
set_option maxRecDepth 100000 in
set_option maxHeartbeats 1000000 in
theorem read_any (s : ByteArray) (kb ko kc : Nat) (kw : List (List UInt8)) (w : World) (hg : w.cell? ⟨0, 0, none⟩ = some (.slice (some ⟨kb, ko, none⟩) kw.length kc)) (hg0 : 0 < w.heap.size) (hk : KwO w kb ko kw) (hkb : kb < w.heap.size) (hkl : kw.length ≤ 100) (hs : s.size ≤ 300)
    (x : Ex) (s1 : St) (n : Nat) (hx : expS (toksOf kw s) n ⟨0, -1⟩ = some (x, s1)) (hni : (needS (toksOf kw s) s1 kEnd).bad < 0 → ∃ m c, Nice m x c ∧ c ≤ 400) :
    Calls Tryz.prog 13 #[.string s] w fun e w' => ReadPost w w' e x (needS (toksOf kw s) s1 kEnd) := by
  have hg1 := fun ob => old_cell ob hg hg0
  have HK := hid hk
  have HX := hid hx
  have HNI := hid hni
  clear hk hx hni
  have hs' : (s.size : Int) ≤ 300 := by omega
  obtain ⟨f1, f2, f3⟩ := toks_facts kw s (s.size + 1) 0 (Nat.zero_le _) (by omega)
  have hlen := toksOf_len kw s
  have F1 := hid f1
  have F3 := hid f3
  clear f1 f2 f3
  obtain ⟨T, hT⟩ : ∃ T, T = toksOf kw s := ⟨_, rfl⟩
  rw [show toks kw s.data.toList (s.size + 1) 0 = T from hT.symm] at F1 F3
  rw [← hT] at HX hlen HNI ⊢
  have HT := hid hT
  clear hT
  go_enter Tryz.func13, Tryz.ntmps13
  go_wp2_with fail
  refine (tokens_any s kb ko kc kw _ hs ?_ ?_ hkl).mono ?_
  · exact fun j hj => old_cell _ (HK.out j hj) hkb
  · simp; omega
  rintro e1 w1 ⟨v, rfl, hown, hbel⟩
  rw [show toks kw s.data.toList (s.size + 1) 0 = T from HT.out.symm] at hown
  obtain ⟨_, hown⟩ := hown
  rcases hown with ⟨_, h0⟩ | ⟨g, cap, cur, rfl, hgb, hgh, _, _, _, hgt⟩
  · exact absurd F1.out.1 (by omega)
  have R0 := hid (rs_new (cap := cap) hgh hgt (by omega) (fun k => by have := F3.out k; omega))
  have HBEL := hid hbel
  have hfb1 : w1.heap[w.heap.size]? = some (.cells #[.int .i64 0, .int .i64 0, .string (B []), .int .i64 0, .int .i64 0] 27 (0, 0)) := by
    rw [hbel.block _ (by simp)]; exact heap_alloc_new _ _
  have hs1 : w.heap.size < w1.heap.size := lt_of_block hfb1
  have hb1 : Below w.heap.size w w1 := ((Below.refl _ _).alloc (Nat.le_refl _) _).trans (hbel.mono (by simp))
  have HF1 := hid hfb1
  have HB1 := hid hb1
  clear hbel hgh hgt hfb1 hb1
  go_wp2_with fail
  have hk0 : (0 : Nat) < T.length := F1.out.1
  refine (exp_all T F1.out n _ w1.heap.size g cap (fun _ => none) ⟨0, -1⟩ x s1 HX.out R0.out hk0 (fz_none _) rfl).mono ?_
  rintro e2 w2 ⟨b, H2, m, rfl, hr2, hk2, hkept2, hz2, hext2, hrep2⟩
  have hH2 : H2 w1.heap.size = none := (hext2.2 _ (by simp)).trans rfl
  have hHf : H2 w.heap.size = none := (hext2.2 _ (by simp; omega)).trans rfl
  have R2 := hid hr2
  have HK2 := hid hkept2
  have HZ2 := hid hz2
  have HR2 := hid hrep2
  clear hr2 hkept2 hz2 hext2 hrep2 R0
  go_wp2_with fail
  refine (need_any w2 w1.heap.size g cap T s1 kEnd R2.out hk2).mono ?_
  rintro e3 w3 ⟨rfl, hr3, hkept3⟩
  have hkept : Kept w1.heap.size (w1.alloc (.cells #[.slice (some ⟨g, 0, none⟩) T.length cap, .int .i64 0, .int .i64 (-1)] 72)) w3 := HK2.out.trans hkept3
  have hfb3 : w3.heap[w.heap.size]? = some (.cells #[.int .i64 0, .int .i64 0, .string (B []), .int .i64 0, .int .i64 0] 27 (0, 0)) := by
    rw [hkept.block _ (by simp; omega) (by simp; omega), Below.heap_alloc _ _ _ hs1]; exact HF1.out
  have hb3 : Below w.heap.size w w3 := (HB1.out.alloc (by omega) _).grown hkept (by simp; omega) (fun k e => by rw [← Option.some.inj e]; omega)
  have hz3 : Fz H2 w3 := HZ2.out.kept hkept3 hH2
  have c2 := hr3.cell2
  have HF3 := hid hfb3
  have HB3 := hid hb3
  have HZ3 := hid hz3
  clear hfb3 hb3 hz3 hkept hkept3 HK2 R2 HZ2
  obtain ⟨s2, hs2⟩ : ∃ s2, s2 = needS T s1 kEnd := ⟨_, rfl⟩
  rw [← hs2] at hr3 c2 HNI
  have HS2 := hid hs2
  have R3 := hid hr3
  clear hs2 hr3
  have q0 : w3.cell? ⟨w.heap.size, 0, none⟩ = some (.int .i64 0) := by simp [World.cell?, HF3.out]
  have q1 : w3.cell? ⟨w.heap.size, 1, none⟩ = some (.int .i64 0) := by simp [World.cell?, HF3.out]
  have q2 : w3.cell? ⟨w.heap.size, 2, none⟩ = some (.string (B [])) := by simp [World.cell?, HF3.out]
  have q3 : w3.cell? ⟨w.heap.size, 3, none⟩ = some (.int .i64 0) := by simp [World.cell?, HF3.out]
  have q4 : w3.cell? ⟨w.heap.size, 4, none⟩ = some (.int .i64 0) := by simp [World.cell?, HF3.out]
  have z0 : w3.frozen? ⟨w.heap.size, 0, none⟩ = false := by simp [World.frozen?, HF3.out]
  have z1 : w3.frozen? ⟨w.heap.size, 1, none⟩ = false := by simp [World.frozen?, HF3.out]
  have z2 : w3.frozen? ⟨w.heap.size, 2, none⟩ = false := by simp [World.frozen?, HF3.out]
  have z3 : w3.frozen? ⟨w.heap.size, 3, none⟩ = false := by simp [World.frozen?, HF3.out]
  have z4 : w3.frozen? ⟨w.heap.size, 4, none⟩ = false := by simp [World.frozen?, HF3.out]
  by_cases hbad : 0 ≤ s2.bad
  · go_wp2_with fail
    go_region
    go_wp2
    (try simp only [Exit.inBlock, Exit.then])
    refine bodyPost_ret (v := .tuple #[.pointer none, fv 2 s2.bad]) (by simp [results, Tryz.results13, go_sem, q0, q1, q2, q3, q4]; rfl) rfl ?_
    rw [← HS2.out]
    exact ⟨fv_below HB3.out _ _ _ _ _, Or.inl ⟨hbad, rfl⟩⟩
  · have hneg : s2.bad < 0 := by omega
    obtain ⟨m', c, hn, hc⟩ := HNI.out hneg
    obtain ⟨M, hM⟩ : ∃ M, M = max m m' := ⟨_, rfl⟩
    have hn' : Nice M x c := hn.le (by omega)
    have hrM : XRep M H2 b x := HR2.out.le (by omega)
    have DEEP := hid (deep_any M H2 b x w3 hrM HZ3.out (by have := hn'.deep; omega) hn'.small)
    have hdl : exDeep M x ≤ 400 := by have := hn'.deep; omega
    obtain ⟨d, hd⟩ : ∃ d, d = exDeep M x := ⟨_, rfl⟩
    rw [← hd] at DEEP hdl
    have HD := hid hd
    have HN' := hid hn'
    have HRM := hid hrM
    clear hd hn hn' hrM hM HR2 HNI
    by_cases h40 : 40 < d
    · have h40' : (40 : Int) < (d : Int) := by omega
      go_wp2_with fail
      refine DEEP.out.mono ?_
      rintro e4 w4 ⟨rfl, rfl⟩
      go_wp2_with fail
      (try go_region)
      (try go_wp2)
      (try simp only [Exit.inBlock, Exit.then])
      refine bodyPost_ret (v := .tuple #[.pointer none, fv 3 0]) (by simp [results, Tryz.results13, go_sem, q0, q1, q2, q3, q4]; rfl) rfl ?_
      rw [← HS2.out]
      exact ⟨fv_below' HB3.out _ _ _ _ _, Or.inr ⟨hneg, M, c, HN'.out, hc, Or.inl ⟨by rw [← HD.out]; exact h40, rfl⟩⟩⟩
    · have h40' : ¬ (40 : Int) < (d : Int) := by omega
      go_wp2_with fail
      refine DEEP.out.mono ?_
      rintro e4 w4 ⟨rfl, rfl⟩
      go_wp2_with fail
      (try go_region)
      (try go_wp2)
      (try simp only [Exit.inBlock, Exit.then])
      refine bodyPost_ret (v := .tuple #[.pointer (some ⟨b, 0, none⟩), fv 0 0]) (by simp [results, Tryz.results13, go_sem, q0, q1, q2, q3, q4]; rfl) rfl ?_
      rw [← HS2.out]
      refine ⟨fv_below' HB3.out _ _ _ _ _, Or.inr ⟨hneg, M, c, HN'.out, hc, Or.inr ⟨by rw [← HD.out]; omega, b, H2, rfl, ?_, HRM.out⟩⟩⟩
      exact ((((HZ3.out.set hHf _ _).set hHf _ _).set hHf _ _).set hHf _ _).set hHf _ _
end Go.Proofs.YtfangljlgfcdpaaGreatDoor

/-
  OUR OWN TEXT. typerref.Read, at every text.
-/
namespace Go.Proofs.YtfangljlgfcdpaaGreatDoor
open Go.RowKit

theorem read_all (s : ByteArray) (kb ko kc : Nat) (kw : List (List UInt8)) (w : World) (hg : w.cell? ⟨0, 0, none⟩ = some (.slice (some ⟨kb, ko, none⟩) kw.length kc)) (hg0 : 0 < w.heap.size) (hk : KwO w kb ko kw) (hkb : kb < w.heap.size) (hkl : kw.length ≤ 100) (hs : s.size ≤ 300) :
    ∃ x s1, expS (toksOf kw s) (s.size + 2) ⟨0, -1⟩ = some (x, s1) ∧ s1.k < (toksOf kw s).length ∧
      Calls Tryz.prog 13 #[.string s] w fun e w' => ReadPost w w' e x (needS (toksOf kw s) s1 kEnd) := by
  obtain ⟨f1, f2, f3⟩ := toks_facts kw s (s.size + 1) 0 (Nat.zero_le _) (by omega)
  have hlen := toksOf_len kw s
  obtain ⟨x, s1, e, r⟩ := exp_tot (T := toksOf kw s) f1 f2 (by omega) (s.size + 2) ⟨0, -1⟩ ⟨f1.1, Or.inl (by show (toksOf kw s).length - 0 + 1 ≤ s.size + 2; omega)⟩
  refine ⟨x, s1, e, r.2.1, read_any s kb ko kc kw w hg hg0 hk hkb hkl hs x s1 (s.size + 2) e (fun hb => ?_)⟩
  have hb1 : s1.bad < 0 := by
    unfold needS at hb
    split at hb
    · exact hb
    · have hb' : (if s1.bad < 0 then ((tk (toksOf kw s) s1.k).pos : Int) else s1.bad) < 0 := hb
      split at hb' <;> omega
  obtain ⟨_, _, m, hm⟩ := r.2.2 hb1
  exact ⟨m, _, hm, by have := r.2.1; show s1.k - 0 ≤ 400; omega⟩

set_option maxRecDepth 100000 in
set_option maxHeartbeats 1000000 in
theorem read_long (s : ByteArray) (w : World) (hs : 300 < s.size) :
    Calls Tryz.prog 13 #[.string s] w fun e w' => Below w.heap.size w w' ∧ e = .returned (.tuple #[.pointer none, fv 1 0]) := by
  have hs' : (300 : Int) < (s.size : Int) := by omega
  go_enter Tryz.func13, Tryz.ntmps13
  go_wp2_with fail
  (try go_region)
  (try go_wp2)
  (try simp only [Exit.inBlock, Exit.then])
  refine bodyPost_ret (v := .tuple #[.pointer none, fv 1 0]) (by simp [results, Tryz.results13, go_sem]; rfl) rfl ?_
  refine ⟨?_, rfl⟩
  exact (Below.refl _ _).alloc (Nat.le_refl _) _
end Go.Proofs.YtfangljlgfcdpaaGreatDoor

/-
  OUR OWN TEXT. The program's reader: the way out at a refusal.
-/
namespace Go.Proofs.YtfangljlgfcdpaaGreatDoor
open Go.RowKit

theorem catch_idle (p q : Addr) (w : World) :
    CallsD Tryz.prog 119 #[.pointer (some p), .pointer (some q)] .returning w fun e u' w' => e = .returned (.tuple #[]) ∧ u' = .returning ∧ w' = w := by
  refine callsD_of_wpS Tryz.func119 rfl fun c₀ cs hu => ?_
  apply wpS_seq
  apply wpS_region
  simp [wpOpsS, go_sem, recoverD, hu, Tryz.ntmps119, Exit.thenS]
  refine wpS_of_wp ?_
  go_wp2
  cases c₀
  simp_all [bodyPostS, results, Tryz.results119]

theorem frozen_past {w : World} {b o : Nat} {v : Value} (h : w.cell? ⟨b, o, none⟩ = some v) (hf : w.frozen? ⟨b, o, none⟩ = false) (x : Obj) : (w.alloc x).frozen? ⟨b, o, none⟩ = false := by
  have hl : b < w.heap.size := by
    rcases Nat.lt_or_ge b w.heap.size with h' | h'
    · exact h'
    · simp [World.cell?, Array.getElem?_eq_none h'] at h
  rw [World.frozen?_of_block (a := ⟨b, o, none⟩) (Below.heap_alloc _ _ _ hl)]
  exact hf
theorem assert_refusal (v : Value) (w : World) : (Instr.typeAssert (.iface 247 v) 20 247 true).run Tryz.prog w = .ok (.tuple #[v, .bool true]) w := by kernel_rfl

set_option maxRecDepth 100000 in
theorem catch_refusal (p q : Nat) (t b : TypeId) (v0 v1 : Value) (w : World) (h0 : w.cell? ⟨p, 0, none⟩ = some v0) (f0 : w.frozen? ⟨p, 0, none⟩ = false) (h1 : w.cell? ⟨q, 0, none⟩ = some v1) (f1 : w.frozen? ⟨q, 0, none⟩ = false) (hpq : p ≠ q) (hpl : p < w.heap.size) (hql : q < w.heap.size) :
    CallsD Tryz.prog 119 #[.pointer (some ⟨p, 0, none⟩), .pointer (some ⟨q, 0, none⟩)] (.panicking [{ v := .iface 247 (.agg #[(.iface t (.pointer (some ⟨b, 0, none⟩)))]), recovered := false }]) w fun e u' w' =>
      e = .returned (.tuple #[]) ∧ u' = .panicking [{ v := .iface 247 (.agg #[(.iface t (.pointer (some ⟨b, 0, none⟩)))]), recovered := true }] ∧ w' = (((w.setCell ⟨p, 0, none⟩ .nilIface).setCell ⟨q, 0, none⟩ (.iface t (.pointer (some ⟨b, 0, none⟩)))).alloc (.cells #[(.iface t (.pointer (some ⟨b, 0, none⟩)))] 247)).drew := by
  have a0 := fun x => cell_past h0 x
  have a1 := fun x => cell_past h1 x
  have g0 := fun x => frozen_past h0 f0 x
  have g1 := fun x => frozen_past h1 f1 x
  have hqp : q ≠ p := fun e => hpq e.symm
  have hp1 : p ≠ w.heap.size := by omega
  have hp2 : w.heap.size ≠ p := by omega
  have hq1 : q ≠ w.heap.size := by omega
  have hq2 : w.heap.size ≠ q := by omega
  refine callsD_of_wpS Tryz.func119 rfl fun c₀ cs hu => ?_
  have e0 : (#[Value.pointer (some ⟨p, 0, none⟩), .pointer (some ⟨q, 0, none⟩)] ++ Array.replicate (Tryz.f119.ntmps - (#[Value.pointer (some ⟨p, 0, none⟩), .pointer (some ⟨q, 0, none⟩)] : Array Value).size) undef) = #[Value.pointer (some ⟨p, 0, none⟩), .pointer (some ⟨q, 0, none⟩), undef, undef, undef, undef, undef, undef, undef, undef, undef, undef, undef, undef, undef] := rfl
  rw [e0]
  clear e0
  apply wpS_seq
  apply wpS_region
  simp [wpOpsS, go_sem, recoverD, hu, Exit.thenS]
  refine wpS_of_wp ?_
  have hta := assert_refusal
  go_wp2_with fail
  go_region
  refine ⟨rfl, _, rfl, .tuple #[], ?_, rfl, rfl, rfl⟩
  simp [results, Tryz.results119]

set_option maxRecDepth 100000 in
set_option maxHeartbeats 2000000 in
theorem read1_p (T : List Tok) (hl : T.length ≤ 400) (n : Nat) (w : World) (rb : Nat) (s : ByteArray) (H : Nat → Option Obj) (st : St) (ex : Ex) (st' : St) (hs : expS T n st = some (ex, st')) (h : PSt exKw w rb s T st) (hz : Fz H w) (hr : H rb = none) :
    Calls Tryz.prog 86 #[.pointer (some ⟨rb, 0, none⟩)] w fun e w' => EOut w w' rb s T H st.k st' e ex := by
  have HC := hid (exp_p T hl n w rb s H st ex st' hs h hz hr)
  unfold rdV at HC
  clear hs h hz
  go_enter Tryz.func86, Tryz.ntmps86
  go_wp2_with fail
  refine HC.out.mono ?_
  rintro e w5 ho
  have HO := hid ho
  rcases ho with ⟨_, (⟨v, H', m, rfl, _⟩ | ⟨_, bb, rfl, _⟩)⟩
  · go_wp2
    go_ret
    exact HO.out
  · unfold refusal at HO ⊢
    go_wp2
    exact ⟨rfl, HO.out⟩
end Go.Proofs.YtfangljlgfcdpaaGreatDoor

/-
  OUR OWN TEXT. The program's reader: tokens.Whole.
-/
namespace Go.Proofs.YtfangljlgfcdpaaGreatDoor
open Go.RowKit

/-- What Whole leaves. -/
def WOut (w w' : World) (s2 : St) (e : Ending) (ex : Ex) : Prop :=
  w.grownBy w' none ∧ ((s2.bad < 0 ∧ ∃ v H' m, e = .returned (.tuple #[v, .nilIface]) ∧ Fz H' w' ∧ PRep m H' v ex ∧ exDeep m ex ≤ 400) ∨
    (0 ≤ s2.bad ∧ ∃ b, e = .returned (.tuple #[.nilIface, .iface 118 (.pointer (some ⟨b, 0, none⟩))]) ∧ w'.heap[b]? = some (.cells #[.int .i64 s2.bad] 129 (0, 0))))

/-- What the way out leaves in memory. -/
theorem caught {w2 w'' : World} {N bb : Nat} {x : Int} {tx te ts : TypeId} (hw : w'' = (((w2.setCell ⟨N, 0, none⟩ .nilIface).setCell ⟨N + 1, 0, none⟩ (.iface ts (.pointer (some ⟨bb, 0, none⟩)))).alloc (.cells #[.iface ts (.pointer (some ⟨bb, 0, none⟩))] 247)).drew)
    {v0 v1 : Value} (h0 : w2.heap[N]? = some (.cells #[v0] tx (0, 0))) (h1 : w2.heap[N + 1]? = some (.cells #[v1] te (0, 0))) (hb : w2.heap[bb]? = some (.cells #[.int .i64 x] 129 (0, 0))) (hx : tx ≠ 129 := by decide) (he : te ≠ 129 := by decide) :
    w''.cell? ⟨N, 0, none⟩ = some .nilIface ∧ w''.cell? ⟨N + 1, 0, none⟩ = some (.iface ts (.pointer (some ⟨bb, 0, none⟩))) ∧ w''.heap[bb]? = some (.cells #[.int .i64 x] 129 (0, 0)) ∧
      (w2.heap.size ≤ w''.heap.size ∧ w''.os = w2.os ∧ w''.tape = w2.tape ∧ w''.output = w2.output ∧ ∀ k, k < N → w''.heap[k]? = w2.heap[k]?) := by
  have n0 : bb ≠ N := fun e => by rw [e, h0] at hb; simp at hb; exact hx hb.2
  have n1 : bb ≠ N + 1 := fun e => by rw [e, h1] at hb; simp at hb; exact he hb.2
  have l0 := lt_of_block h0
  have l1 := lt_of_block h1
  have lb := lt_of_block hb
  obtain ⟨w3, hw3⟩ : ∃ w3, w3 = (w2.setCell ⟨N, 0, none⟩ .nilIface).setCell ⟨N + 1, 0, none⟩ (.iface ts (.pointer (some ⟨bb, 0, none⟩))) := ⟨_, rfl⟩
  rw [← hw3] at hw
  have s3 : w3.heap.size = w2.heap.size := by rw [hw3]; simp [World.setCell]
  have old : ∀ k, k ≠ N → k ≠ N + 1 → w3.heap[k]? = w2.heap[k]? := fun k e1 e2 => by
    rw [hw3, Below.heap_setCell _ _ _ _ (by show k ≠ N + 1; exact e2), Below.heap_setCell _ _ _ _ (by show k ≠ N; exact e1)]
  have b0 : w3.heap[N]? = some (.cells #[.nilIface] tx (0, 0)) := by
    rw [hw3, Below.heap_setCell _ _ _ _ (by show N ≠ N + 1; omega)]
    simp [World.setCell, Array.getElem?_modify, h0]
  have b1 : w3.heap[N + 1]? = some (.cells #[.iface ts (.pointer (some ⟨bb, 0, none⟩))] te (0, 0)) := by
    have h1' : (w2.setCell ⟨N, 0, none⟩ .nilIface).heap[N + 1]? = some (.cells #[v1] te (0, 0)) := by
      rw [Below.heap_setCell _ _ _ _ (by show N + 1 ≠ N; omega)]
      exact h1
    rw [hw3]
    generalize w2.setCell ⟨N, 0, none⟩ .nilIface = w4 at h1'
    simp [World.setCell, Array.getElem?_modify, h1']
  have up : ∀ k, k < w3.heap.size → w''.heap[k]? = w3.heap[k]? := fun k hk => by rw [hw]; exact Below.heap_alloc _ _ _ hk
  refine ⟨?_, ?_, ?_, ?_, by rw [hw, hw3]; rfl, by rw [hw, hw3]; rfl, by rw [hw, hw3]; rfl, fun k hk => ?_⟩
  · simp [World.cell?, up N (by omega), b0]
  · simp [World.cell?, up (N + 1) (by omega), b1]
  · rw [up bb (by omega), old bb n0 n1]; exact hb
  · rw [hw]; simp; omega
  · rw [up k (by omega), old k (by omega) (by omega)]
theorem stored {w2 w'' : World} {N : Nat} {v u v0 v1 : Value} {tx te : TypeId} (hw : w'' = ((w2.setCell ⟨N, 0, none⟩ v).setCell ⟨N, 0, none⟩ v).setCell ⟨N + 1, 0, none⟩ u) (h0 : w2.heap[N]? = some (.cells #[v0] tx (0, 0))) (h1 : w2.heap[N + 1]? = some (.cells #[v1] te (0, 0))) :
    w''.cell? ⟨N, 0, none⟩ = some v ∧ w''.cell? ⟨N + 1, 0, none⟩ = some u ∧ (w2.heap.size ≤ w''.heap.size ∧ w''.os = w2.os ∧ w''.tape = w2.tape ∧ w''.output = w2.output ∧ ∀ k, k < N → w''.heap[k]? = w2.heap[k]?) := by
  have b0 : w''.heap[N]? = some (.cells #[v] tx (0, 0)) := by
    rw [hw, Below.heap_setCell _ _ _ _ (by show N ≠ N + 1; omega)]
    simp [World.setCell, Array.getElem?_modify, h0]
  have b1 : w''.heap[N + 1]? = some (.cells #[u] te (0, 0)) := by
    have h1' : ((w2.setCell ⟨N, 0, none⟩ v).setCell ⟨N, 0, none⟩ v).heap[N + 1]? = some (.cells #[v1] te (0, 0)) := by
      rw [Below.heap_setCell _ _ _ _ (by show N + 1 ≠ N; omega), Below.heap_setCell _ _ _ _ (by show N + 1 ≠ N; omega)]
      exact h1
    rw [hw]
    generalize (w2.setCell ⟨N, 0, none⟩ v).setCell ⟨N, 0, none⟩ v = w4 at h1'
    simp [World.setCell, Array.getElem?_modify, h1']
  refine ⟨by simp [World.cell?, b0], by simp [World.cell?, b1], by rw [hw]; simp [World.setCell], by rw [hw]; rfl, by rw [hw]; rfl, by rw [hw]; rfl, fun k hk => ?_⟩
  rw [hw, Below.heap_setCell _ _ _ _ (by show k ≠ N + 1; omega), Below.heap_setCell _ _ _ _ (by show k ≠ N; omega), Below.heap_setCell _ _ _ _ (by show k ≠ N; omega)]
theorem whole_grown {w w1 w2 w'' : World} {o : Obj} (h1 : w.grownBy w1 none) (hl : w.heap.size ≤ w1.heap.size) (h2 : Kept w1.heap.size (w1.alloc o) w2) (h3 : w2.heap.size ≤ w''.heap.size ∧ w''.os = w2.os ∧ w''.tape = w2.tape ∧ w''.output = w2.output ∧ ∀ k, k < w.heap.size → w''.heap[k]? = w2.heap[k]?) : w.grownBy w'' none := by
  obtain ⟨q1, q2, q3, q4, q5⟩ := h3
  refine ⟨q2.trans (h2.os.trans h1.os), q3.trans (h2.tape.trans h1.tape), q4.trans (h2.output.trans h1.output), ?_, fun k hk _ => ?_⟩
  · have := h2.size
    simp at this
    omega
  · rw [q5 k hk, h2.block k (by simp; omega) (by simp; omega), Below.heap_alloc _ _ _ (by omega), h1.block k hk (by simp)]

set_option maxRecDepth 100000 in
set_option maxHeartbeats 4000000 in
theorem whole_p (s : ByteArray) (hs : s.size ≤ 300) (w : World) (n : Nat) (ex : Ex) (s1 : St) (hx : expS (toksOf exKw s) n ⟨0, -1⟩ = some (ex, s1)) :
    Calls Tryz.prog 85 #[.string s, .func (.func 86) #[] #[]] w fun e w' => WOut w w' (needS (toksOf exKw s) s1 kEnd) e ex := by
  have hmf : ∀ (fn : Fn) (first cap : Array Value) (w : World), (Instr.makeFunc fn first cap).run Tryz.prog w = .ok (.func fn first cap) w := fun _ _ _ _ => rfl
  have hsl : s.data.toList.length = s.size := by rw [Array.length_toList]; rfl
  obtain ⟨T, hT⟩ : ∃ T, T = toksOf exKw s := ⟨_, rfl⟩
  have hTl : T.length ≤ 400 := by rw [hT]; have := toksOf_len exKw s; omega
  have hat : At exKw s.data.toList T 0 (upto isB s.data.toList 0) := by
    rw [hT]
    have := At.start exKw s.data.toList
    rw [hsl] at this
    exact this
  rw [← hT] at hx ⊢
  have hz300 : ((s.size : Nat) : Int) ≤ 300 := by omega
  have HX := hid hx
  have HAT := hid hat
  clear hx hat hT
  go_enter_defers Tryz.func85, Tryz.ntmps85
  go_wp2_with fail
  refine (next_any s 0 (by omega) hs _).mono ?_
  rintro e w1 ⟨rfl, g1⟩
  dsimp only [tokV]
  have ra1 : w1.heap[w.heap.size]? = some (.cells #[.nilIface] 114 (0, 0)) := by
    rw [g1.block _ (by simp; omega) (by simp), Below.heap_alloc _ _ _ (by simp)]
    exact heap_alloc_new _ _
  have rb1 : w1.heap[w.heap.size + 1]? = some (.cells #[.nilIface] 64 (0, 0)) := by
    rw [g1.block _ (by simp) (by simp)]
    exact heap_alloc_at _ _ _ (by simp)
  have hw1 := lt_of_block rb1
  have G1 := hid (((World.grownBy_alloc w (.cells #[.nilIface] 114) none).trans (World.grownBy_alloc _ (.cells #[.nilIface] 64) none)).trans g1)
  obtain ⟨J, hJ⟩ : ∃ J, J = upto isB s.data.toList 0 := ⟨_, rfl⟩
  rw [← hJ] at HAT ⊢
  clear g1 hJ
  have PS : Hid (PSt exKw (w1.alloc (.cells #[.string s, .int .i64 ((nxK s.data.toList J : Nat) : Int), .string (B (nxT s.data.toList J)), .int .i64 (J : Int)] 253)) w1.heap.size s T ⟨0, -1⟩) :=
    ⟨by decide, ⟨J, HAT.out, heap_alloc_new _ _⟩, hs⟩
  go_wp2_with fail
  refine (read1_p T hTl n _ w1.heap.size s (fun _ => none) ⟨0, -1⟩ ex s1 HX.out PS.out (fz_none _) rfl).mono ?_
  rintro e w2 ⟨k2, (⟨v, H2, m, rfl, p2, z2, e2, r2, d2⟩ | ⟨hb, bb, rfl, hrf⟩)⟩
  case inr =>
    have ra2 : w2.heap[w.heap.size]? = some (.cells #[.nilIface] 114 (0, 0)) := by
      rw [k2.block _ (by simp; omega) (by simp; omega), Below.heap_alloc _ _ _ (by omega)]
      exact ra1
    have rb2 : w2.heap[w.heap.size + 1]? = some (.cells #[.nilIface] 64 (0, 0)) := by
      rw [k2.block _ (by simp; omega) (by simp; omega), Below.heap_alloc _ _ _ (by omega)]
      exact rb1
    have K2 := hid k2
    have HB := hid hb
    have HRF := hid hrf
    clear k2 hb hrf ra1 rb1
    unfold refusal
    go_wp2
    refine leaves_cons (f := 119) (args := #[.pointer (some ⟨w.heap.size, 0, none⟩), .pointer (some ⟨w.heap.size + 1, 0, none⟩)]) (by simp) (by simp [go_sem]) ?_
    refine (catch_refusal w.heap.size (w.heap.size + 1) 118 bb .nilIface .nilIface w2 (by simp [World.cell?, ra2]) (by simp [World.frozen?, ra2]) (by simp [World.cell?, rb2]) (by simp [World.frozen?, rb2]) (by omega) (lt_of_block ra2) (lt_of_block rb2)).mono ?_
    rintro e u' w'' ⟨rfl, rfl, hw''⟩
    obtain ⟨q0, q1, q2, q3⟩ := caught hw'' ra2 rb2 HRF.out
    refine ⟨.tuple #[.nilIface, .iface 118 (.pointer (some ⟨bb, 0, none⟩))], ?_, ?_⟩
    · simp [results, Tryz.results85, go_sem, q0, q1]
    · have e5 := need_bad (T := T) (x := kEnd) HB.out
      refine ⟨whole_grown G1.out (by omega) K2.out q3, Or.inr ⟨by rw [e5]; exact HB.out, bb, rfl, by rw [e5]; exact q2⟩⟩
  case inl =>
    obtain ⟨t1, b1, ht1, rfl, hb1, hc1⟩ := r2.dat z2
    have ra2 : w2.heap[w.heap.size]? = some (.cells #[.nilIface] 114 (0, 0)) := by
      rw [k2.block _ (by simp; omega) (by simp; omega), Below.heap_alloc _ _ _ (by omega)]
      exact ra1
    have rb2 : w2.heap[w.heap.size + 1]? = some (.cells #[.nilIface] 64 (0, 0)) := by
      rw [k2.block _ (by simp; omega) (by simp; omega), Below.heap_alloc _ _ _ (by omega)]
      exact rb1
    have la2 := lt_of_block ra2
    have lb2 := lt_of_block rb2
    have a0 : w2.cell? ⟨w.heap.size, 0, none⟩ = some .nilIface := by simp [World.cell?, ra2]
    have a1 : w2.cell? ⟨w.heap.size + 1, 0, none⟩ = some .nilIface := by simp [World.cell?, rb2]
    have u0 : w2.frozen? ⟨w.heap.size, 0, none⟩ = false := by simp [World.frozen?, ra2]
    have u1 : w2.frozen? ⟨w.heap.size + 1, 0, none⟩ = false := by simp [World.frozen?, rb2]
    have hkk := p2.klt
    have hn2 := p2.neg
    obtain ⟨J2, hat2, hrd2⟩ := p2.place
    have hrl := lt_of_block hrd2
    have hend := (asked exKw exKw_ok s.data.toList J2 hat2.1).theEnd
    have hpos := (asked exKw exKw_ok s.data.toList J2 hat2.1).pos
    rw [← hat2.tk] at hend hpos
    obtain ⟨c0, c1, c2, c3, f1, f2, f3⟩ := four_p hrd2
    have hne : w1.heap.size ≠ w.heap.size := by omega
    have hne2 : w.heap.size ≠ w1.heap.size := by omega
    have K2 := hid k2
    have Z2 := hid z2
    have E2 := hid e2
    have R2 := hid r2
    have D2 := hid d2
    have RD := hid hrd2
    have RA := hid ra2
    have RB := hid rb2
    have hd400 : exDeep m ex ≤ 400 := by have := d2; simp at this; omega
    have HEND := hid hend
    have HPOS := hid hpos
    have HN2 := hid hn2
    clear k2 p2 z2 e2 r2 d2 ra1 rb1 ra2 rb2 hb1 hc1 hat2 hrd2 hend hpos c0 c2 c3 f1 f2 f3 hn2
    by_cases hk : nxK s.data.toList J2 = 0
    · rw [hk] at c1
      have HK := hid hk
      clear hk
      go_wp2
      refine leaves_cons (f := 119) (args := #[.pointer (some ⟨w.heap.size, 0, none⟩), .pointer (some ⟨w.heap.size + 1, 0, none⟩)]) (by simp) (by simp [go_sem]) ?_
      refine (catch_idle ⟨w.heap.size, 0, none⟩ ⟨w.heap.size + 1, 0, none⟩ _).mono ?_
      rintro e u' w'' ⟨rfl, rfl, hw''⟩
      obtain ⟨q0, q1, q3⟩ := stored hw'' RA.out RB.out
      refine ⟨.tuple #[(.iface t1 (.pointer (some ⟨b1, 0, none⟩))), .nilIface], ?_, ?_⟩
      · simp [results, Tryz.results85, go_sem, q0, q1]
      · have hh0 : H2 w.heap.size = none := E2.out.2 _ (by simp; omega)
        have hh1 : H2 (w.heap.size + 1) = none := E2.out.2 _ (by simp; omega)
        have e5 : (needS T s1 kEnd).bad < 0 := by
          have hi : isS T s1 kEnd = true := by simp [isS, HN2.out, HEND.out.1 HK.out]
          rw [need_yes hi, take_yes hi]
          exact HN2.out
        refine ⟨whole_grown G1.out (by omega) K2.out q3, Or.inl ⟨e5, _, H2, m, rfl, ?_, R2.out, hd400⟩⟩
        rw [hw'']
        exact ((Z2.out.set hh0 _ _).set hh0 _ _).set hh1 _ _
    · have hq : (((nxK s.data.toList J2 : Nat) : Int) == 0) = false := by simp; omega
      have HK := hid hk
      clear hk
      generalize nxK s.data.toList J2 = kk at *
      go_wp2_with fail
      have rd3 : Rdr (w2.setCell ⟨w.heap.size, 0, none⟩ (.iface t1 (.pointer (some ⟨b1, 0, none⟩)))) w1.heap.size s J2 := by
        unfold Rdr
        rw [Below.heap_setCell _ _ _ _ (by show w1.heap.size ≠ w.heap.size; omega)]
        exact RD.out
      refine (refuse_p _ w1.heap.size s J2 rd3).mono ?_
      rintro e w4 ⟨⟨bb, rfl, hbb⟩, g4⟩
      have ra4 : w4.heap[w.heap.size]? = some (.cells #[(.iface t1 (.pointer (some ⟨b1, 0, none⟩)))] 114 (0, 0)) := by
        rw [g4.block _ (by simp [World.setCell]; omega) (by simp)]
        simp [World.setCell, Array.getElem?_modify, RA.out]
      have rb4 : w4.heap[w.heap.size + 1]? = some (.cells #[.nilIface] 64 (0, 0)) := by
        rw [g4.block _ (by simp [World.setCell]; omega) (by simp), Below.heap_setCell _ _ _ _ (by show w.heap.size + 1 ≠ w.heap.size; omega)]
        exact RB.out
      have HB := hid hbb
      have G4 := hid g4
      clear hbb g4 rd3 a0 a1 u0 u1
      unfold refusal
      go_wp2
      refine leaves_cons (f := 119) (args := #[.pointer (some ⟨w.heap.size, 0, none⟩), .pointer (some ⟨w.heap.size + 1, 0, none⟩)]) (by simp) (by simp [go_sem]) ?_
      refine (catch_refusal w.heap.size (w.heap.size + 1) 118 bb (.iface t1 (.pointer (some ⟨b1, 0, none⟩))) .nilIface w4 (by simp [World.cell?, ra4]) (by simp [World.frozen?, ra4]) (by simp [World.cell?, rb4]) (by simp [World.frozen?, rb4]) (by omega) (lt_of_block ra4) (lt_of_block rb4)).mono ?_
      rintro e u' w'' ⟨rfl, rfl, hw''⟩
      obtain ⟨q0, q1, q2, q3⟩ := caught hw'' ra4 rb4 HB.out
      refine ⟨.tuple #[.nilIface, .iface 118 (.pointer (some ⟨bb, 0, none⟩))], ?_, ?_⟩
      · simp [results, Tryz.results85, go_sem, q0, q1]
      · have hi : isS T s1 kEnd = false := by
          have : ¬ (tk T s1.k).is = kEnd := fun e => HK.out (HEND.out.2 e)
          simp [isS, this]
        have e5 := need_no HN2.out hi
        obtain ⟨r1, r2, r3, r4, r5⟩ := q3
        have q3' : w2.heap.size ≤ w''.heap.size ∧ w''.os = w2.os ∧ w''.tape = w2.tape ∧ w''.output = w2.output ∧ ∀ k, k < w.heap.size → w''.heap[k]? = w2.heap[k]? := by
          have hs4 := G4.out.size
          refine ⟨by simp [World.setCell] at hs4; omega, r2.trans G4.out.os, r3.trans G4.out.tape, r4.trans G4.out.output, fun k hk => ?_⟩
          rw [r5 k hk, G4.out.block k (by simp [World.setCell]; omega) (by simp), Below.heap_setCell _ _ _ _ (by show k ≠ w.heap.size; omega)]
        refine ⟨whole_grown G1.out (by omega) K2.out q3', Or.inr ⟨by rw [e5]; simp, bb, rfl, ?_⟩⟩
        rw [e5]
        show w''.heap[bb]? = some (.cells #[.int .i64 ((tk T s1.k).pos : Int)] _ (0, 0))
        rw [HPOS.out]
        exact q2
end Go.Proofs.YtfangljlgfcdpaaGreatDoor

/-
  OUR OWN TEXT. The program's expr.Read.
-/
namespace Go.Proofs.YtfangljlgfcdpaaGreatDoor
open Go.RowKit

def errV (a : Addr) : Value := .iface 393 (.pointer (some a))

set_option maxRecDepth 100000 in
set_option maxHeartbeats 1000000 in
theorem whole_long (s : ByteArray) (hs : 300 < s.size) (f : Value) (w : World) (bl : Addr) (hg : w.cell? ⟨2, 0, none⟩ = some (errV bl)) (hgl : 2 < w.heap.size) :
    Calls Tryz.prog 85 #[.string s, f] w fun e w' => e = .returned (.tuple #[.nilIface, errV bl]) ∧ w.grownBy w' none := by
  have hz : (300 : Int) < ((s.size : Nat) : Int) := by omega
  have a1 := cell_past (cell_past hg (.cells #[.nilIface] 114)) (.cells #[.nilIface] 64)
  unfold errV at hg a1 ⊢
  have hn : ¬ 2 = w.heap.size := by omega
  go_enter_defers Tryz.func85, Tryz.ntmps85
  go_wp2_with fail
  go_region
  go_wp2
  refine ⟨.tuple #[.nilIface, .iface 393 (.pointer (some bl))], ?_, rfl, grown_drew ((World.grownBy_alloc _ _ _).trans (World.grownBy_alloc _ _ _))⟩
  have q0 : ((w.alloc (.cells #[.nilIface] 114)).alloc (.cells #[.iface 393 (.pointer (some bl))] 64)).cell? ⟨w.heap.size, 0, none⟩ = some .nilIface := cell_past (by simp [go_sem]) _
  simp [results, Tryz.results85, go_sem, q0]

/-- What Read leaves; bd: where ErrDeep lies. -/
def ROut (w w' : World) (s2 : St) (e : Ending) (ex : Ex) (bd : Addr) : Prop :=
  w.grownBy w' none ∧ ((0 ≤ s2.bad ∧ ∃ b, e = .returned (.tuple #[.nilIface, .iface 118 (.pointer (some ⟨b, 0, none⟩))]) ∧ w'.heap[b]? = some (.cells #[.int .i64 s2.bad] 129 (0, 0))) ∨
    (s2.bad < 0 ∧ ∃ v H' m, Fz H' w' ∧ PRep m H' v ex ∧ exDeep m ex ≤ 400 ∧ ((40 < exDeep m ex ∧ e = .returned (.tuple #[.nilIface, errV bd])) ∨ (exDeep m ex ≤ 40 ∧ e = .returned (.tuple #[v, .nilIface])))))

set_option maxRecDepth 100000 in
set_option maxHeartbeats 2000000 in
theorem read_p (s : ByteArray) (hs : s.size ≤ 300) (w : World) (n : Nat) (ex : Ex) (s1 : St) (hx : expS (toksOf exKw s) n ⟨0, -1⟩ = some (ex, s1)) (bd : Addr) (hg : w.cell? ⟨3, 0, none⟩ = some (errV bd)) (hgl : 3 < w.heap.size) :
    Calls Tryz.prog 58 #[.string s] w fun e w' => ROut w w' (needS (toksOf exKw s) s1 kEnd) e ex bd := by
  have HC := hid (whole_p s hs w n ex s1 hx)
  clear hx
  go_enter Tryz.func58, Tryz.ntmps58
  go_wp2_with fail
  refine HC.out.mono ?_
  rintro e w1 ⟨g1, (⟨hb, v, H', m, rfl, z1, r1, d1⟩ | ⟨hb, b, rfl, hbk⟩)⟩
  · obtain ⟨t1, b1, ht1, rfl, hb1, hc1⟩ := r1.dat z1
    have hg1 : w1.cell? ⟨3, 0, none⟩ = some (errV bd) := by
      rw [World.cell?_of_block (a := ⟨3, 0, none⟩) (g1.block _ hgl (by simp))]
      exact hg
    have hg2 := cell_past hg1 (.cells #[.int .i64 ((exDeep m ex : Nat) : Int)] 170)
    have hme := mDepth_any ht1 b1 (exDeep m ex) _ hc1
    have Q := hid (And.intro hb (And.intro z1 (And.intro r1 d1)))
    have G1 := hid g1
    clear hb z1 r1 g1 hg hg1 hb1 hc1 HC
    unfold errV at hg2
    by_cases hd : 40 < exDeep m ex
    · have hd2 : (40 : Int) < ((exDeep m ex : Nat) : Int) := by omega
      go_wp2_with (go_at_call 260; refine (depth_p _ _).mono ?_; rintro e w' ⟨rfl, rfl⟩)
      go_region
      go_wp2
      go_ret2
      obtain ⟨hb, z1, r1, d1⟩ := Q.out
      exact ⟨grown_drew (G1.out.trans (World.grownBy_alloc _ _ _)), Or.inr ⟨hb, _, H', m, (z1.alloc _).drew, r1, d1, Or.inl ⟨hd, rfl⟩⟩⟩
    · have hd2 : ¬ (40 : Int) < ((exDeep m ex : Nat) : Int) := by omega
      go_wp2_with (go_at_call 260; refine (depth_p _ _).mono ?_; rintro e w' ⟨rfl, rfl⟩)
      go_ret2
      obtain ⟨hb, z1, r1, d1⟩ := Q.out
      exact ⟨G1.out.trans (World.grownBy_alloc _ _ _), Or.inr ⟨hb, _, H', m, z1.alloc _, r1, d1, Or.inr ⟨by omega, rfl⟩⟩⟩
  · have Q := hid (And.intro g1 (And.intro hb hbk))
    clear g1 hb hbk HC
    go_wp2
    go_ret2
    exact ⟨Q.out.1, Or.inl ⟨Q.out.2.1, b, rfl, Q.out.2.2⟩⟩

set_option maxRecDepth 100000 in
theorem read_plong (s : ByteArray) (hs : 300 < s.size) (w : World) (bl : Addr) (hg : w.cell? ⟨2, 0, none⟩ = some (errV bl)) (hgl : 2 < w.heap.size) :
    Calls Tryz.prog 58 #[.string s] w fun e w' => e = .returned (.tuple #[.nilIface, errV bl]) ∧ w.grownBy w' none := by
  have HC := hid (whole_long s hs (.func (.func 86) #[] #[]) w bl hg hgl)
  clear hg
  unfold errV at HC ⊢
  go_enter Tryz.func58, Tryz.ntmps58
  go_wp2_with (go_at_call 85; refine HC.out.mono ?_; rintro e w' ⟨rfl, g1⟩; have G1 := hid g1; clear g1)
  go_ret2
  exact ⟨rfl, G1.out⟩
end Go.Proofs.YtfangljlgfcdpaaGreatDoor

/-
  OUR OWN TEXT. Assertions of expressions to their kinds.
-/
namespace Go.Proofs.YtfangljlgfcdpaaGreatDoor
open Go.RowKit
theorem as_Name_Name (b : Nat) (w : World) : (Instr.typeAssert (.iface 168 (.pointer (some ⟨b, 0, none⟩))) 114 168 true).run Tryz.prog w = .ok (.tuple #[.pointer (some ⟨b, 0, none⟩), .bool true]) w := by kernel_rfl
theorem as_Name_Number (b : Nat) (w : World) : (Instr.typeAssert (.iface 168 (.pointer (some ⟨b, 0, none⟩))) 114 173 true).run Tryz.prog w = .ok (.tuple #[.pointer none, .bool false]) w := by kernel_rfl
theorem as_Name_Fun (b : Nat) (w : World) : (Instr.typeAssert (.iface 168 (.pointer (some ⟨b, 0, none⟩))) 114 176 true).run Tryz.prog w = .ok (.tuple #[.pointer none, .bool false]) w := by kernel_rfl
theorem as_Name_If (b : Nat) (w : World) : (Instr.typeAssert (.iface 168 (.pointer (some ⟨b, 0, none⟩))) 114 179 true).run Tryz.prog w = .ok (.tuple #[.pointer none, .bool false]) w := by kernel_rfl
theorem as_Name_Let (b : Nat) (w : World) : (Instr.typeAssert (.iface 168 (.pointer (some ⟨b, 0, none⟩))) 114 182 true).run Tryz.prog w = .ok (.tuple #[.pointer none, .bool false]) w := by kernel_rfl
theorem as_Name_LetRec (b : Nat) (w : World) : (Instr.typeAssert (.iface 168 (.pointer (some ⟨b, 0, none⟩))) 114 188 true).run Tryz.prog w = .ok (.tuple #[.pointer none, .bool false]) w := by kernel_rfl
theorem as_Name_Apply (b : Nat) (w : World) : (Instr.typeAssert (.iface 168 (.pointer (some ⟨b, 0, none⟩))) 114 193 true).run Tryz.prog w = .ok (.tuple #[.pointer none, .bool false]) w := by kernel_rfl
theorem as_Name_Pair (b : Nat) (w : World) : (Instr.typeAssert (.iface 168 (.pointer (some ⟨b, 0, none⟩))) 114 196 true).run Tryz.prog w = .ok (.tuple #[.pointer none, .bool false]) w := by kernel_rfl
theorem as_Number_Name (b : Nat) (w : World) : (Instr.typeAssert (.iface 173 (.pointer (some ⟨b, 0, none⟩))) 114 168 true).run Tryz.prog w = .ok (.tuple #[.pointer none, .bool false]) w := by kernel_rfl
theorem as_Number_Number (b : Nat) (w : World) : (Instr.typeAssert (.iface 173 (.pointer (some ⟨b, 0, none⟩))) 114 173 true).run Tryz.prog w = .ok (.tuple #[.pointer (some ⟨b, 0, none⟩), .bool true]) w := by kernel_rfl
theorem as_Number_Fun (b : Nat) (w : World) : (Instr.typeAssert (.iface 173 (.pointer (some ⟨b, 0, none⟩))) 114 176 true).run Tryz.prog w = .ok (.tuple #[.pointer none, .bool false]) w := by kernel_rfl
theorem as_Number_If (b : Nat) (w : World) : (Instr.typeAssert (.iface 173 (.pointer (some ⟨b, 0, none⟩))) 114 179 true).run Tryz.prog w = .ok (.tuple #[.pointer none, .bool false]) w := by kernel_rfl
theorem as_Number_Let (b : Nat) (w : World) : (Instr.typeAssert (.iface 173 (.pointer (some ⟨b, 0, none⟩))) 114 182 true).run Tryz.prog w = .ok (.tuple #[.pointer none, .bool false]) w := by kernel_rfl
theorem as_Number_LetRec (b : Nat) (w : World) : (Instr.typeAssert (.iface 173 (.pointer (some ⟨b, 0, none⟩))) 114 188 true).run Tryz.prog w = .ok (.tuple #[.pointer none, .bool false]) w := by kernel_rfl
theorem as_Number_Apply (b : Nat) (w : World) : (Instr.typeAssert (.iface 173 (.pointer (some ⟨b, 0, none⟩))) 114 193 true).run Tryz.prog w = .ok (.tuple #[.pointer none, .bool false]) w := by kernel_rfl
theorem as_Number_Pair (b : Nat) (w : World) : (Instr.typeAssert (.iface 173 (.pointer (some ⟨b, 0, none⟩))) 114 196 true).run Tryz.prog w = .ok (.tuple #[.pointer none, .bool false]) w := by kernel_rfl
theorem as_Fun_Name (b : Nat) (w : World) : (Instr.typeAssert (.iface 176 (.pointer (some ⟨b, 0, none⟩))) 114 168 true).run Tryz.prog w = .ok (.tuple #[.pointer none, .bool false]) w := by kernel_rfl
theorem as_Fun_Number (b : Nat) (w : World) : (Instr.typeAssert (.iface 176 (.pointer (some ⟨b, 0, none⟩))) 114 173 true).run Tryz.prog w = .ok (.tuple #[.pointer none, .bool false]) w := by kernel_rfl
theorem as_Fun_Fun (b : Nat) (w : World) : (Instr.typeAssert (.iface 176 (.pointer (some ⟨b, 0, none⟩))) 114 176 true).run Tryz.prog w = .ok (.tuple #[.pointer (some ⟨b, 0, none⟩), .bool true]) w := by kernel_rfl
theorem as_Fun_If (b : Nat) (w : World) : (Instr.typeAssert (.iface 176 (.pointer (some ⟨b, 0, none⟩))) 114 179 true).run Tryz.prog w = .ok (.tuple #[.pointer none, .bool false]) w := by kernel_rfl
theorem as_Fun_Let (b : Nat) (w : World) : (Instr.typeAssert (.iface 176 (.pointer (some ⟨b, 0, none⟩))) 114 182 true).run Tryz.prog w = .ok (.tuple #[.pointer none, .bool false]) w := by kernel_rfl
theorem as_Fun_LetRec (b : Nat) (w : World) : (Instr.typeAssert (.iface 176 (.pointer (some ⟨b, 0, none⟩))) 114 188 true).run Tryz.prog w = .ok (.tuple #[.pointer none, .bool false]) w := by kernel_rfl
theorem as_Fun_Apply (b : Nat) (w : World) : (Instr.typeAssert (.iface 176 (.pointer (some ⟨b, 0, none⟩))) 114 193 true).run Tryz.prog w = .ok (.tuple #[.pointer none, .bool false]) w := by kernel_rfl
theorem as_Fun_Pair (b : Nat) (w : World) : (Instr.typeAssert (.iface 176 (.pointer (some ⟨b, 0, none⟩))) 114 196 true).run Tryz.prog w = .ok (.tuple #[.pointer none, .bool false]) w := by kernel_rfl
theorem as_If_Name (b : Nat) (w : World) : (Instr.typeAssert (.iface 179 (.pointer (some ⟨b, 0, none⟩))) 114 168 true).run Tryz.prog w = .ok (.tuple #[.pointer none, .bool false]) w := by kernel_rfl
theorem as_If_Number (b : Nat) (w : World) : (Instr.typeAssert (.iface 179 (.pointer (some ⟨b, 0, none⟩))) 114 173 true).run Tryz.prog w = .ok (.tuple #[.pointer none, .bool false]) w := by kernel_rfl
theorem as_If_Fun (b : Nat) (w : World) : (Instr.typeAssert (.iface 179 (.pointer (some ⟨b, 0, none⟩))) 114 176 true).run Tryz.prog w = .ok (.tuple #[.pointer none, .bool false]) w := by kernel_rfl
theorem as_If_If (b : Nat) (w : World) : (Instr.typeAssert (.iface 179 (.pointer (some ⟨b, 0, none⟩))) 114 179 true).run Tryz.prog w = .ok (.tuple #[.pointer (some ⟨b, 0, none⟩), .bool true]) w := by kernel_rfl
theorem as_If_Let (b : Nat) (w : World) : (Instr.typeAssert (.iface 179 (.pointer (some ⟨b, 0, none⟩))) 114 182 true).run Tryz.prog w = .ok (.tuple #[.pointer none, .bool false]) w := by kernel_rfl
theorem as_If_LetRec (b : Nat) (w : World) : (Instr.typeAssert (.iface 179 (.pointer (some ⟨b, 0, none⟩))) 114 188 true).run Tryz.prog w = .ok (.tuple #[.pointer none, .bool false]) w := by kernel_rfl
theorem as_If_Apply (b : Nat) (w : World) : (Instr.typeAssert (.iface 179 (.pointer (some ⟨b, 0, none⟩))) 114 193 true).run Tryz.prog w = .ok (.tuple #[.pointer none, .bool false]) w := by kernel_rfl
theorem as_If_Pair (b : Nat) (w : World) : (Instr.typeAssert (.iface 179 (.pointer (some ⟨b, 0, none⟩))) 114 196 true).run Tryz.prog w = .ok (.tuple #[.pointer none, .bool false]) w := by kernel_rfl
theorem as_Let_Name (b : Nat) (w : World) : (Instr.typeAssert (.iface 182 (.pointer (some ⟨b, 0, none⟩))) 114 168 true).run Tryz.prog w = .ok (.tuple #[.pointer none, .bool false]) w := by kernel_rfl
theorem as_Let_Number (b : Nat) (w : World) : (Instr.typeAssert (.iface 182 (.pointer (some ⟨b, 0, none⟩))) 114 173 true).run Tryz.prog w = .ok (.tuple #[.pointer none, .bool false]) w := by kernel_rfl
theorem as_Let_Fun (b : Nat) (w : World) : (Instr.typeAssert (.iface 182 (.pointer (some ⟨b, 0, none⟩))) 114 176 true).run Tryz.prog w = .ok (.tuple #[.pointer none, .bool false]) w := by kernel_rfl
theorem as_Let_If (b : Nat) (w : World) : (Instr.typeAssert (.iface 182 (.pointer (some ⟨b, 0, none⟩))) 114 179 true).run Tryz.prog w = .ok (.tuple #[.pointer none, .bool false]) w := by kernel_rfl
theorem as_Let_Let (b : Nat) (w : World) : (Instr.typeAssert (.iface 182 (.pointer (some ⟨b, 0, none⟩))) 114 182 true).run Tryz.prog w = .ok (.tuple #[.pointer (some ⟨b, 0, none⟩), .bool true]) w := by kernel_rfl
theorem as_Let_LetRec (b : Nat) (w : World) : (Instr.typeAssert (.iface 182 (.pointer (some ⟨b, 0, none⟩))) 114 188 true).run Tryz.prog w = .ok (.tuple #[.pointer none, .bool false]) w := by kernel_rfl
theorem as_Let_Apply (b : Nat) (w : World) : (Instr.typeAssert (.iface 182 (.pointer (some ⟨b, 0, none⟩))) 114 193 true).run Tryz.prog w = .ok (.tuple #[.pointer none, .bool false]) w := by kernel_rfl
theorem as_Let_Pair (b : Nat) (w : World) : (Instr.typeAssert (.iface 182 (.pointer (some ⟨b, 0, none⟩))) 114 196 true).run Tryz.prog w = .ok (.tuple #[.pointer none, .bool false]) w := by kernel_rfl
theorem as_LetRec_Name (b : Nat) (w : World) : (Instr.typeAssert (.iface 188 (.pointer (some ⟨b, 0, none⟩))) 114 168 true).run Tryz.prog w = .ok (.tuple #[.pointer none, .bool false]) w := by kernel_rfl
theorem as_LetRec_Number (b : Nat) (w : World) : (Instr.typeAssert (.iface 188 (.pointer (some ⟨b, 0, none⟩))) 114 173 true).run Tryz.prog w = .ok (.tuple #[.pointer none, .bool false]) w := by kernel_rfl
theorem as_LetRec_Fun (b : Nat) (w : World) : (Instr.typeAssert (.iface 188 (.pointer (some ⟨b, 0, none⟩))) 114 176 true).run Tryz.prog w = .ok (.tuple #[.pointer none, .bool false]) w := by kernel_rfl
theorem as_LetRec_If (b : Nat) (w : World) : (Instr.typeAssert (.iface 188 (.pointer (some ⟨b, 0, none⟩))) 114 179 true).run Tryz.prog w = .ok (.tuple #[.pointer none, .bool false]) w := by kernel_rfl
theorem as_LetRec_Let (b : Nat) (w : World) : (Instr.typeAssert (.iface 188 (.pointer (some ⟨b, 0, none⟩))) 114 182 true).run Tryz.prog w = .ok (.tuple #[.pointer none, .bool false]) w := by kernel_rfl
theorem as_LetRec_LetRec (b : Nat) (w : World) : (Instr.typeAssert (.iface 188 (.pointer (some ⟨b, 0, none⟩))) 114 188 true).run Tryz.prog w = .ok (.tuple #[.pointer (some ⟨b, 0, none⟩), .bool true]) w := by kernel_rfl
theorem as_LetRec_Apply (b : Nat) (w : World) : (Instr.typeAssert (.iface 188 (.pointer (some ⟨b, 0, none⟩))) 114 193 true).run Tryz.prog w = .ok (.tuple #[.pointer none, .bool false]) w := by kernel_rfl
theorem as_LetRec_Pair (b : Nat) (w : World) : (Instr.typeAssert (.iface 188 (.pointer (some ⟨b, 0, none⟩))) 114 196 true).run Tryz.prog w = .ok (.tuple #[.pointer none, .bool false]) w := by kernel_rfl
theorem as_Apply_Name (b : Nat) (w : World) : (Instr.typeAssert (.iface 193 (.pointer (some ⟨b, 0, none⟩))) 114 168 true).run Tryz.prog w = .ok (.tuple #[.pointer none, .bool false]) w := by kernel_rfl
theorem as_Apply_Number (b : Nat) (w : World) : (Instr.typeAssert (.iface 193 (.pointer (some ⟨b, 0, none⟩))) 114 173 true).run Tryz.prog w = .ok (.tuple #[.pointer none, .bool false]) w := by kernel_rfl
theorem as_Apply_Fun (b : Nat) (w : World) : (Instr.typeAssert (.iface 193 (.pointer (some ⟨b, 0, none⟩))) 114 176 true).run Tryz.prog w = .ok (.tuple #[.pointer none, .bool false]) w := by kernel_rfl
theorem as_Apply_If (b : Nat) (w : World) : (Instr.typeAssert (.iface 193 (.pointer (some ⟨b, 0, none⟩))) 114 179 true).run Tryz.prog w = .ok (.tuple #[.pointer none, .bool false]) w := by kernel_rfl
theorem as_Apply_Let (b : Nat) (w : World) : (Instr.typeAssert (.iface 193 (.pointer (some ⟨b, 0, none⟩))) 114 182 true).run Tryz.prog w = .ok (.tuple #[.pointer none, .bool false]) w := by kernel_rfl
theorem as_Apply_LetRec (b : Nat) (w : World) : (Instr.typeAssert (.iface 193 (.pointer (some ⟨b, 0, none⟩))) 114 188 true).run Tryz.prog w = .ok (.tuple #[.pointer none, .bool false]) w := by kernel_rfl
theorem as_Apply_Apply (b : Nat) (w : World) : (Instr.typeAssert (.iface 193 (.pointer (some ⟨b, 0, none⟩))) 114 193 true).run Tryz.prog w = .ok (.tuple #[.pointer (some ⟨b, 0, none⟩), .bool true]) w := by kernel_rfl
theorem as_Apply_Pair (b : Nat) (w : World) : (Instr.typeAssert (.iface 193 (.pointer (some ⟨b, 0, none⟩))) 114 196 true).run Tryz.prog w = .ok (.tuple #[.pointer none, .bool false]) w := by kernel_rfl
theorem as_Pair_Name (b : Nat) (w : World) : (Instr.typeAssert (.iface 196 (.pointer (some ⟨b, 0, none⟩))) 114 168 true).run Tryz.prog w = .ok (.tuple #[.pointer none, .bool false]) w := by kernel_rfl
theorem as_Pair_Number (b : Nat) (w : World) : (Instr.typeAssert (.iface 196 (.pointer (some ⟨b, 0, none⟩))) 114 173 true).run Tryz.prog w = .ok (.tuple #[.pointer none, .bool false]) w := by kernel_rfl
theorem as_Pair_Fun (b : Nat) (w : World) : (Instr.typeAssert (.iface 196 (.pointer (some ⟨b, 0, none⟩))) 114 176 true).run Tryz.prog w = .ok (.tuple #[.pointer none, .bool false]) w := by kernel_rfl
theorem as_Pair_If (b : Nat) (w : World) : (Instr.typeAssert (.iface 196 (.pointer (some ⟨b, 0, none⟩))) 114 179 true).run Tryz.prog w = .ok (.tuple #[.pointer none, .bool false]) w := by kernel_rfl
theorem as_Pair_Let (b : Nat) (w : World) : (Instr.typeAssert (.iface 196 (.pointer (some ⟨b, 0, none⟩))) 114 182 true).run Tryz.prog w = .ok (.tuple #[.pointer none, .bool false]) w := by kernel_rfl
theorem as_Pair_LetRec (b : Nat) (w : World) : (Instr.typeAssert (.iface 196 (.pointer (some ⟨b, 0, none⟩))) 114 188 true).run Tryz.prog w = .ok (.tuple #[.pointer none, .bool false]) w := by kernel_rfl
theorem as_Pair_Apply (b : Nat) (w : World) : (Instr.typeAssert (.iface 196 (.pointer (some ⟨b, 0, none⟩))) 114 193 true).run Tryz.prog w = .ok (.tuple #[.pointer none, .bool false]) w := by kernel_rfl
theorem as_Pair_Pair (b : Nat) (w : World) : (Instr.typeAssert (.iface 196 (.pointer (some ⟨b, 0, none⟩))) 114 196 true).run Tryz.prog w = .ok (.tuple #[.pointer (some ⟨b, 0, none⟩), .bool true]) w := by kernel_rfl
end Go.Proofs.YtfangljlgfcdpaaGreatDoor
