import Derived.Test.YtcdijppegfcoaaaGreatDoorZT20
import Derived.Test.YtcdijppegfcoaaaGreatDoorZT04
import Derived.Test.YtcdijppegfcoaaaGreatDoorChecked
import Derived.Test.YtcdijppegfcoaaaGreatDoorZT00
import Derived.WalkSpells
import Derived.Outline
import Derived.Deep.DeepCutAuto
import Derived.Deep.LoopGhost
import Derived.Deep.CutBlock
import Derived.Lib.SlBytesConst
/-
  OUR OWN TEXT. typerref's reader: exp, where an atom begins.
-/
namespace Go.Proofs.YtcdijppegfcoaaaGreatDoor
open Go.RowKit
/-- Behind the first atom: what has been read lies at block b. -/
def AIn (T : List Tok) (w0 w : World) (rb g cap : Nat) (H0 : Nat → Option Obj) (s : St) (b : Nat) (x : Ex) : Prop :=
  ∃ H m, RS w rb g cap T s ∧ s.k < T.length ∧ Kept rb w0 w ∧ Fz H w ∧ Ext w0.heap.size H0 H ∧ XRep m H b x
theorem AIn.at {T : List Tok} {w0 w : World} {rb g cap : Nat} {H0 : Nat → Option Obj} {s : St} {b : Nat} {x : Ex} (h : AIn T w0 w rb g cap H0 s b x) : ∃ p q r, w.heap[b]? = some (.cells #[p, q, r, .int .i64 (x.pos : Int)] 86 (0, 0)) := by
  obtain ⟨H, m, _, _, _, hz, _, hx⟩ := h
  cases m with
  | zero => exact absurd hx id
  | succ m =>
    obtain ⟨ns, ks, bs, h1, _⟩ := hx
    exact ⟨_, ns, ks, hz _ _ h1⟩

end Go.Proofs.YtcdijppegfcoaaaGreatDoor

/-
  OUR OWN TEXT. The plain reader ends with an expression at every list of tokens.
-/
namespace Go.Proofs.YtcdijppegfcoaaaGreatDoor
open Go.RowKit
/-- The tokens' names are short. -/
def Sh (T : List Tok) : Prop := ∀ k, ((tk T k).is = kName ∨ (tk T k).is = kNum) → (tk T k).s.length ≤ 8
def Res (T : List Tok) (s : St) (x : Ex) (s' : St) : Prop := s.k ≤ s'.k ∧ s'.k < T.length ∧ (s'.bad < 0 → s.bad < 0 ∧ s.k < s'.k ∧ ∃ m, Nice m x (s'.k - s.k))
def Fu (T : List Tok) (n : Nat) (s : St) : Prop := s.k < T.length ∧ (T.length - s.k + 1 ≤ n ∨ (0 ≤ s.bad ∧ 1 ≤ n))
def TOT (T : List Tok) (n : Nat) (E : St → Option (Ex × St)) : Prop := ∀ s, Fu T n s → ∃ x s', E s = some (x, s') ∧ Res T s x s'

theorem isS_yes {T : List Tok} {s : St} {x : List UInt8} (h : isS T s x = true) : s.bad < 0 ∧ (tk T s.k).is = x := by
  simp only [isS, Bool.and_eq_true, beq_iff_eq, decide_eq_true_eq] at h
  exact h
theorem need_cases {T : List Tok} (hT : Wf T) {s : St} (hk : s.k < T.length) (x : List UInt8) (h1 : x ≠ kNone) (h2 : x ≠ kEnd) :
    ((needS T s x).k = s.k + 1 ∧ s.k + 1 < T.length ∧ (needS T s x).bad = s.bad ∧ s.bad < 0 ∧ (tk T s.k).is = x) ∨ ((needS T s x).k = s.k ∧ 0 ≤ (needS T s x).bad) := by
  by_cases hi : isS T s x = true
  · left
    have e : needS T s x = ⟨s.k + 1, s.bad⟩ := by rw [needS, if_pos hi]
    rw [e]
    exact ⟨rfl, hT.up hk hi h1 h2, rfl, (isS_yes hi).1, (isS_yes hi).2⟩
  · right
    have e : needS T s x = ⟨s.k, if s.bad < 0 then ((tk T s.k).pos : Int) else s.bad⟩ := by rw [needS, if_neg hi]
    rw [e]
    refine ⟨rfl, ?_⟩
    show 0 ≤ (if s.bad < 0 then ((tk T s.k).pos : Int) else s.bad)
    split <;> omega

theorem atom_tot {T : List Tok} (hT : Wf T) (hS : Sh T) {n : Nat} {E : St → Option (Ex × St)} (hE : TOT T n E) (s : St) (hs : s.k < T.length) (hn : T.length - s.k ≤ n) :
    ∃ x s', atomS E T s = some (x, s') ∧ Res T s x s' ∧ ((isS T s kName = true ∨ isS T s kNum = true ∨ isS T s kOpen = true) → s.k < s'.k) := by
  unfold atomS
  by_cases hi : isS T s kName = true ∨ isS T s kNum = true
  · rw [if_pos hi]
    have hup : s.k + 1 < T.length := by
      rcases hi with hi | hi
      · exact hT.up hs hi (by decide) (by decide)
      · exact hT.up hs hi (by decide) (by decide)
    have hw : s.bad < 0 ∧ ((tk T s.k).is = kName ∨ (tk T s.k).is = kNum) := by
      rcases hi with hi | hi
      · exact ⟨(isS_yes hi).1, Or.inl (isS_yes hi).2⟩
      · exact ⟨(isS_yes hi).1, Or.inr (isS_yes hi).2⟩
    refine ⟨_, _, rfl, ⟨Nat.le_succ _, hup, fun _ => ⟨hw.1, Nat.lt_succ_self _, 1, ?_⟩⟩, fun _ => Nat.lt_succ_self _⟩
    have := nice_leaf (tk T s.k).is (tk T s.k).s (tk T s.k).pos hw.2 (hS s.k hw.2)
    rw [show s.up.k - s.k = 1 from by show s.k + 1 - s.k = 1; omega]
    exact this
  · rw [if_neg hi]
    obtain ⟨s0, hs0⟩ : ∃ s0, s0 = needS T s kOpen := ⟨_, rfl⟩
    have hn0 := need_cases hT hs kOpen (by decide) (by decide)
    rw [← hs0] at hn0 ⊢
    have hopen : isS T s kOpen = true → s0.k = s.k + 1 := fun ho => by rw [hs0, needS, if_pos ho]
    have f0 : Fu T n s0 := by
      rcases hn0 with ⟨a, b, _⟩ | ⟨a, b⟩
      · exact ⟨by omega, Or.inl (by omega)⟩
      · exact ⟨by omega, Or.inr ⟨b, by omega⟩⟩
    obtain ⟨x, s1, e1, r1⟩ := hE s0 f0
    have hlt : (isS T s kName = true ∨ isS T s kNum = true ∨ isS T s kOpen = true) → s.k < s1.k := fun ho => by
      have : isS T s kOpen = true := by
        rcases ho with ho | ho | ho
        · exact absurd (Or.inl ho) hi
        · exact absurd (Or.inr ho) hi
        · exact ho
      have := hopen this
      have := r1.1
      omega
    have hk0 : s.k ≤ s0.k := by rcases hn0 with ⟨a, _⟩ | ⟨a, _⟩ <;> omega
    have hb0 : s0.bad < 0 → s.bad < 0 ∧ s0.k = s.k + 1 := fun hb => by
      rcases hn0 with ⟨a, _, _, d, _⟩ | ⟨a, b⟩
      · exact ⟨d, a⟩
      · omega
    rw [e1]
    show ∃ x' s', (if isS T s1 kComma = true then _ else _) = some (x', s') ∧ _
    by_cases hc : isS T s1 kComma = true
    · rw [if_pos hc]
      have hup := hT.up r1.2.1 hc (by decide) (by decide)
      have hb1 := (isS_yes hc).1
      obtain ⟨hb1', hk1, m1, hm1⟩ := r1.2.2 hb1
      obtain ⟨y, s2, e2, r2⟩ := hE s1.up ⟨hup, Or.inl (by show T.length - (s1.k + 1) + 1 ≤ n; have := r1.1; omega)⟩
      rw [e2]
      have hk2 : s1.k + 1 ≤ s2.k := r2.1
      have hn3 := need_cases hT r2.2.1 kShut (by decide) (by decide)
      obtain ⟨s3, hs3⟩ : ∃ s3, s3 = needS T s2 kShut := ⟨_, rfl⟩
      rw [← hs3] at hn3
      refine ⟨_, s3, by rw [hs3], ⟨?_, ?_, fun hb3 => ?_⟩, fun ho => ?_⟩
      · have := r1.1
        rcases hn3 with ⟨a, _⟩ | ⟨a, _⟩ <;> omega
      · have := r2.2.1
        rcases hn3 with ⟨a, _⟩ | ⟨a, _⟩ <;> omega
      · rcases hn3 with ⟨a, _, _, d, _⟩ | ⟨a, b⟩
        · obtain ⟨_, _, m2, hm2⟩ := r2.2.2 d
          obtain ⟨q1, q2⟩ := hb0 hb1'
          refine ⟨q1, by omega, max m1 m2 + 1, ?_⟩
          refine (nice_pair _ (hm1.le (Nat.le_max_left m1 m2)) (hm2.le (Nat.le_max_right m1 m2))).more ?_
          have : s1.up.k = s1.k + 1 := rfl
          have := r1.1
          omega
        · omega
      · have := hlt ho
        rcases hn3 with ⟨a, _⟩ | ⟨a, _⟩ <;> omega
    · rw [if_neg hc]
      have hn3 := need_cases hT r1.2.1 kShut (by decide) (by decide)
      obtain ⟨s3, hs3⟩ : ∃ s3, s3 = needS T s1 kShut := ⟨_, rfl⟩
      rw [← hs3] at hn3
      refine ⟨x, s3, by rw [hs3], ⟨?_, ?_, fun hb3 => ?_⟩, fun ho => ?_⟩
      · have := r1.1
        rcases hn3 with ⟨a, _⟩ | ⟨a, _⟩ <;> omega
      · have := r1.2.1
        rcases hn3 with ⟨a, _⟩ | ⟨a, _⟩ <;> omega
      · rcases hn3 with ⟨a, _, _, d, _⟩ | ⟨a, b⟩
        · obtain ⟨hb1', hk1, m1, hm1⟩ := r1.2.2 d
          obtain ⟨q1, q2⟩ := hb0 hb1'
          exact ⟨q1, by omega, m1, hm1.more (by omega)⟩
        · omega
      · have := hlt ho
        rcases hn3 with ⟨a, _⟩ | ⟨a, _⟩ <;> omega

theorem app_tot {T : List Tok} (hT : Wf T) (hS : Sh T) {n : Nat} {E : St → Option (Ex × St)} (hE : TOT T n E) (s0 : St) : ∀ (f : Nat) (x : Ex) (s : St), T.length - s.k + 1 ≤ f → T.length - s.k ≤ n → Res T s0 x s →
    ∃ y s', appS (atomS E T) T f x s = some (y, s') ∧ Res T s0 y s'
  | 0, _, _, h, _, _ => by omega
  | f + 1, x, s, hf, hn, hr => by
    rw [appS]
    by_cases hi : isS T s kName = true ∨ isS T s kNum = true ∨ isS T s kOpen = true
    · rw [if_pos hi]
      obtain ⟨y, s1, e1, r1, l1⟩ := atom_tot hT hS hE s hr.2.1 hn
      rw [e1]
      have hl := l1 hi
      refine app_tot hT hS hE s0 f _ s1 (by have := hr.2.1; omega) (by omega) ⟨by have := hr.1; omega, r1.2.1, fun hb => ?_⟩
      obtain ⟨q1, q2, m2, h2⟩ := r1.2.2 hb
      obtain ⟨p1, p2, m1, h1⟩ := hr.2.2 q1
      refine ⟨p1, by omega, max m1 m2 + 1, ?_⟩
      exact (nice_app _ (h1.le (Nat.le_max_left m1 m2)) (h2.le (Nat.le_max_right m1 m2))).more (by omega)
    · rw [if_neg hi]
      exact ⟨x, s, rfl, hr⟩

/-- A let that is being read, so far. -/
def Pres (T : List Tok) (k0 : Nat) (x : Ex) (s' : St) : Prop := k0 ≤ s'.k ∧ s'.k < T.length ∧ (s'.bad < 0 → 0 < x.names.length ∧ ∃ m, Part m x (s'.k - k0))
theorem bound_tot {T : List Tok} (hT : Wf T) (hS : Sh T) {n : Nat} {E : St → Option (Ex × St)} (hE : TOT T n E) (k0 : Nat) (x : Ex) (s : St) (hs : s.k < T.length) (hk : k0 ≤ s.k) (hn : T.length - s.k + 1 ≤ n) (hx : s.bad < 0 → ∃ m, Part m x (s.k - k0)) :
    ∃ y s', boundS E T x s = some (y, s') ∧ y.op = x.op ∧ s.k ≤ s'.k ∧ Pres T k0 y s' := by
  unfold boundS
  have h1 := need_cases hT hs kName (by decide) (by decide)
  obtain ⟨s1, hs1⟩ : ∃ s1, s1 = needS T s kName := ⟨_, rfl⟩
  rw [← hs1] at h1 ⊢
  obtain ⟨s2, hs2⟩ : ∃ s2, s2 = twiceS x.names (tk T s.k).s (tk T s.k).pos s1 := ⟨_, rfl⟩
  have k2 : s2.k = s1.k := by rw [hs2, twiceS]; split <;> rfl
  have b2 : s2.bad < 0 → s1.bad < 0 := fun hb => by
    rw [hs2, twiceS] at hb
    split at hb
    · rename_i h; exact h.2
    · exact hb
  rw [← hs2]
  have l1 : s1.k < T.length := by rcases h1 with ⟨a, _⟩ | ⟨a, _⟩ <;> omega
  have l2 : s2.k < T.length := by omega
  have h3 := need_cases hT l2 kEq (by decide) (by decide)
  obtain ⟨s3, hs3⟩ : ∃ s3, s3 = needS T s2 kEq := ⟨_, rfl⟩
  rw [← hs3] at h3 ⊢
  have k3 : s.k ≤ s3.k := by
    rcases h1 with ⟨a, _⟩ | ⟨a, _⟩ <;> rcases h3 with ⟨b, _⟩ | ⟨b, _⟩ <;> omega
  have l3 : s3.k < T.length := by
    rcases h3 with ⟨b, _⟩ | ⟨b, _⟩ <;> omega
  obtain ⟨b, s4, e4, r4⟩ := hE s3 ⟨l3, Or.inl (by omega)⟩
  rw [e4]
  refine ⟨_, s4, rfl, rfl, by have := r4.1; omega, ⟨by have := r4.1; omega, r4.2.1, fun hb => ?_⟩⟩
  obtain ⟨q1, q2, m2, hm2⟩ := r4.2.2 hb
  have h3' : s3.k = s2.k + 1 ∧ s2.bad < 0 := by
    rcases h3 with ⟨a, _, _, d, _⟩ | ⟨a, b⟩
    · exact ⟨a, d⟩
    · omega
  have h1' : s1.k = s.k + 1 ∧ s.bad < 0 ∧ (tk T s.k).is = kName := by
    have := b2 h3'.2
    rcases h1 with ⟨a, _, _, d, e⟩ | ⟨a, b⟩
    · exact ⟨a, d, e⟩
    · omega
  obtain ⟨m1, hm1⟩ := hx h1'.2.1
  refine ⟨by show 0 < (x.names ++ [_]).length; simp, max m1 m2, ?_⟩
  have := (hm1.le (Nat.le_max_left m1 m2)).add (tk T s.k).s (hS s.k (Or.inl h1'.2.2)) (hm2.le (Nat.le_max_right m1 m2))
  rw [show s4.k - k0 = s.k - k0 + (s4.k - s3.k) + 2 from by omega]
  exact this

theorem Part.more {m : Nat} {x : Ex} {c c' : Nat} (h : Part m x c) (hc : c ≤ c') : Part m x c' :=
  ⟨h.op, h.len, by have := h.nlen; omega, fun y hy => by obtain ⟨a, b, d⟩ := h.kids y hy; exact ⟨a, by omega, d⟩, by have := h.text; omega⟩
theorem binds_tot {T : List Tok} (hT : Wf T) (hS : Sh T) {n : Nat} {E : St → Option (Ex × St)} (hE : TOT T n E) (k0 : Nat) : ∀ (f : Nat) (x : Ex) (s : St), T.length - s.k + 1 ≤ f → T.length - s.k ≤ n → Pres T k0 x s →
    ∃ y s', bindsS E T f x s = some (y, s') ∧ s.k ≤ s'.k ∧ Pres T k0 y s'
  | 0, _, _, h, _, _ => by omega
  | f + 1, x, s, hf, hn, hr => by
    rw [bindsS]
    by_cases hi : x.op = kRec ∧ isS T s kAnd = true
    · rw [if_pos hi]
      have hup := hT.up hr.2.1 hi.2 (by decide) (by decide)
      have hb := (isS_yes hi.2).1
      have ku : s.up.k = s.k + 1 := rfl
      obtain ⟨y, s1, e1, _, k1, r1⟩ := bound_tot hT hS hE k0 x s.up hup (by have := hr.1; omega) (by omega) (fun _ => by
        obtain ⟨_, m, hm⟩ := hr.2.2 hb
        exact ⟨m, hm.more (by omega)⟩)
      rw [e1]
      obtain ⟨z, s2, e2, k2, r2⟩ := binds_tot hT hS hE k0 f y s1 (by have := hr.2.1; omega) (by omega) r1
      exact ⟨z, s2, e2, by omega, r2⟩
    · rw [if_neg hi]
      exact ⟨x, s, rfl, Nat.le_refl _, hr⟩

theorem exp_tot {T : List Tok} (hT : Wf T) (hS : Sh T) (hl : T.length ≤ 900) : ∀ n, TOT T n (expS T n)
  | 0 => fun s h => by rcases h.2 with h | h <;> omega
  | n + 1 => fun s hf => by
    have hE := exp_tot hT hS hl n
    rw [expS]
    by_cases hb : 0 ≤ s.bad
    · rw [if_pos hb]
      exact ⟨_, s, rfl, Nat.le_refl _, hf.1, fun h => by omega⟩
    rw [if_neg hb]
    have hb' : s.bad < 0 := by omega
    have hk := hf.1
    have hn : T.length - s.k ≤ n := by rcases hf.2 with h | h <;> omega
    have ku : s.up.k = s.k + 1 := rfl
    have bu : s.up.bad = s.bad := rfl
    by_cases h1 : isS T s kFun = true
    · rw [if_pos h1]
      have hup := hT.up hk h1 (by decide) (by decide)
      have c1 := need_cases hT (s := s.up) hup kName (by decide) (by decide)
      obtain ⟨s1, hs1⟩ : ∃ s1, s1 = needS T s.up kName := ⟨_, rfl⟩
      rw [← hs1] at c1 ⊢
      have l1 : s1.k < T.length := by rcases c1 with ⟨a, _⟩ | ⟨a, _⟩ <;> omega
      have c2 := need_cases hT l1 kArrow (by decide) (by decide)
      obtain ⟨s2, hs2⟩ : ∃ s2, s2 = needS T s1 kArrow := ⟨_, rfl⟩
      rw [← hs2] at c2 ⊢
      have l2 : s2.k < T.length ∧ s.k + 1 ≤ s2.k := by
        rcases c1 with ⟨a, _⟩ | ⟨a, _⟩ <;> rcases c2 with ⟨b, _⟩ | ⟨b, _⟩ <;> omega
      obtain ⟨b, s4, e4, r4⟩ := hE s2 ⟨l2.1, Or.inl (by omega)⟩
      rw [e4]
      refine ⟨_, s4, rfl, by have := r4.1; omega, r4.2.1, fun hb4 => ?_⟩
      obtain ⟨q1, q2, m, hm⟩ := r4.2.2 hb4
      have d2 : s2.k = s1.k + 1 ∧ s1.bad < 0 := by
        rcases c2 with ⟨a, _, _, d, _⟩ | ⟨a, b⟩
        · exact ⟨a, d⟩
        · omega
      have d1 : s1.k = s.up.k + 1 ∧ (tk T s.up.k).is = kName := by
        rcases c1 with ⟨a, _, _, d, e⟩ | ⟨a, b⟩
        · exact ⟨a, e⟩
        · omega
      exact ⟨hb', by omega, m + 1, (nice_fun _ _ (hS _ (Or.inl d1.2)) hm).more (by omega)⟩
    rw [if_neg h1]
    by_cases h2 : isS T s kIf = true
    · rw [if_pos h2]
      have hup := hT.up hk h2 (by decide) (by decide)
      obtain ⟨c, s1, e1, r1⟩ := hE s.up ⟨hup, Or.inl (by omega)⟩
      rw [e1]
      have c2 := need_cases hT r1.2.1 kThen (by decide) (by decide)
      obtain ⟨s2, hs2⟩ : ∃ s2, s2 = needS T s1 kThen := ⟨_, rfl⟩
      show ∃ x s', (match expS T n (needS T s1 kThen) with | none => none | some (a, s2) => _) = some (x, s') ∧ _
      rw [← hs2] at c2 ⊢
      have l2 : s2.k < T.length ∧ s1.k ≤ s2.k := by
        have := r1.2.1
        rcases c2 with ⟨b, _⟩ | ⟨b, _⟩ <;> omega
      have g1 := r1.1
      obtain ⟨a, s3, e3, r3⟩ := hE s2 ⟨l2.1, Or.inl (by omega)⟩
      rw [e3]
      have c4 := need_cases hT r3.2.1 kElse (by decide) (by decide)
      obtain ⟨s4, hs4⟩ : ∃ s4, s4 = needS T s3 kElse := ⟨_, rfl⟩
      show ∃ x s', (match expS T n (needS T s3 kElse) with | none => none | some (b, s3) => _) = some (x, s') ∧ _
      rw [← hs4] at c4 ⊢
      have l4 : s4.k < T.length ∧ s3.k ≤ s4.k := by
        have := r3.2.1
        rcases c4 with ⟨b, _⟩ | ⟨b, _⟩ <;> omega
      have g3 := r3.1
      obtain ⟨b, s5, e5, r5⟩ := hE s4 ⟨l4.1, Or.inl (by omega)⟩
      rw [e5]
      have g5 := r5.1
      refine ⟨_, s5, rfl, by omega, r5.2.1, fun hb5 => ?_⟩
      obtain ⟨q5, p5, m5, n5⟩ := r5.2.2 hb5
      have d4 : s4.k = s3.k + 1 ∧ s3.bad < 0 := by
        rcases c4 with ⟨a, _, _, d, _⟩ | ⟨a, b⟩
        · exact ⟨a, d⟩
        · omega
      obtain ⟨q3, p3, m3, n3⟩ := r3.2.2 d4.2
      have d2 : s2.k = s1.k + 1 ∧ s1.bad < 0 := by
        rcases c2 with ⟨a, _, _, d, _⟩ | ⟨a, b⟩
        · exact ⟨a, d⟩
        · omega
      obtain ⟨q1, p1, m1, n1⟩ := r1.2.2 d2.2
      refine ⟨hb', by omega, max m1 (max m3 m5) + 1, (nice_if _ (n1.le ?_) (n3.le ?_) (n5.le ?_)).more (by omega)⟩ <;> omega
    rw [if_neg h2]
    by_cases h3 : isS T s kLet = true
    · rw [if_pos h3]
      have hup := hT.up hk h3 (by decide) (by decide)
      obtain ⟨s0, hs0⟩ : ∃ s0, s0 = takeS T s.up kRec := ⟨_, rfl⟩
      have g0 : s.k + 1 ≤ s0.k ∧ s0.k < T.length := by
        rw [hs0, takeS]
        split
        · rename_i hr
          have := hT.up (s := s.up) hup hr (by decide) (by decide)
          exact ⟨by show s.k + 1 ≤ s.up.k + 1; omega, this⟩
        · exact ⟨by omega, hup⟩
      obtain ⟨x0, hx0⟩ : ∃ x0 : Ex, x0 = ⟨if isS T s.up kRec = true then kRec else kLet, [], [], (tk T s.k).pos⟩ := ⟨_, rfl⟩
      have p0 : ∀ c, Part 0 x0 c := fun c => by
        rw [hx0]
        refine ⟨?_, rfl, Nat.zero_le _, fun y hy => absurd hy (List.not_mem_nil), Nat.zero_le _⟩
        show (if isS T s.up kRec = true then kRec else kLet) = kLet ∨ (if isS T s.up kRec = true then kRec else kLet) = kRec
        split
        · right; rfl
        · left; rfl
      rw [← hs0, ← hx0]
      obtain ⟨x, s1, e1, _, k1, r1⟩ := bound_tot hT hS hE (s.k + 1) x0 s0 g0.2 g0.1 (by omega) (fun _ => ⟨0, p0 _⟩)
      rw [e1]
      obtain ⟨y, s2, e2, k2, r2⟩ := binds_tot hT hS hE (s.k + 1) (T.length + 1) x s1 (by omega) (by omega) r1
      show ∃ x' s', (match bindsS (expS T n) T (T.length + 1) x s1 with | none => none | some (y, s2) => _) = some (x', s') ∧ _
      rw [e2]
      have c3 := need_cases hT r2.2.1 kIn (by decide) (by decide)
      obtain ⟨s3, hs3⟩ : ∃ s3, s3 = needS T s2 kIn := ⟨_, rfl⟩
      show ∃ x' s', (match expS T n (needS T s2 kIn) with | none => none | some (b, s3) => _) = some (x', s') ∧ _
      rw [← hs3] at c3 ⊢
      have l3 : s3.k < T.length ∧ s2.k ≤ s3.k := by
        have := r2.2.1
        rcases c3 with ⟨b, _⟩ | ⟨b, _⟩ <;> omega
      obtain ⟨b, s4, e4, r4⟩ := hE s3 ⟨l3.1, Or.inl (by omega)⟩
      rw [e4]
      have g4 := r4.1
      refine ⟨_, s4, rfl, by omega, r4.2.1, fun hb4 => ?_⟩
      obtain ⟨q4, p4, m4, n4⟩ := r4.2.2 hb4
      have d3 : s3.k = s2.k + 1 ∧ s2.bad < 0 := by
        rcases c3 with ⟨a, _, _, d, _⟩ | ⟨a, b⟩
        · exact ⟨a, d⟩
        · omega
      obtain ⟨z2, m2, n2⟩ := r2.2.2 d3.2
      have := r4.2.1
      refine ⟨hb', by omega, max m2 m4 + 1, ((n2.le (Nat.le_max_left m2 m4)).done z2 (n4.le (Nat.le_max_right m2 m4)) (by omega)).more (by omega)⟩
    rw [if_neg h3]
    obtain ⟨x, s1, e1, r1, _⟩ := atom_tot hT hS hE s hk hn
    rw [e1]
    exact app_tot hT hS hE s (T.length + 1) x s1 (by omega) (by have := r1.1; omega) r1
end Go.Proofs.YtcdijppegfcoaaaGreatDoor

namespace Go.Proofs.YtcdijppegfcoaaaGreatDoor
open Go.RowKit
/-- Keywords in a row of memory, from a place on. -/
def KwO (w : World) (kb ko : Nat) (kw : List (List UInt8)) : Prop := ∀ j, j < kw.length → w.cell? ⟨kb, ko + j, none⟩ = some (.string (B (kw.getD j [])))

end Go.Proofs.YtcdijppegfcoaaaGreatDoor
