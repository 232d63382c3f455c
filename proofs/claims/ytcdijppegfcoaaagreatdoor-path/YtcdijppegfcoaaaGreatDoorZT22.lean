import Derived.Test.YtcdijppegfcoaaaGreatDoorZT21
import Derived.Handy
import Derived.Test.YtcdijppegfcoaaaGreatDoorZT19
import Derived.Outline
import Derived.Test.YtcdijppegfcoaaaGreatDoorZT06
import Derived.Test.YtcdijppegfcoaaaGreatDoorZT00
import Derived.Test.YtcdijppegfcoaaaGreatDoorZT02
import Derived.Deep.RegionWith
import Derived.Test.YtcdijppegfcoaaaGreatDoorZT14
import Derived.Maps.OwnSet
/-
  OUR OWN TEXT. What the list of a text's tokens is like.
-/
namespace Go.Proofs.YtcdijppegfcoaaaGreatDoor
open Go.RowKit
theorem cut_len (l : List UInt8) (i k : Nat) : (cut l i k).length ≤ k - i := by
  rw [cut, List.length_drop, List.length_take]; omega
theorem tok_facts (kw : List (List UInt8)) (s : ByteArray) (J : Nat) (hJ : J ≤ s.size) {t : Tok} {r2 : Nat} (ht : tokAt kw s.data.toList J = (t, r2)) :
    t.pos = J ∧ J ≤ r2 ∧ r2 ≤ s.size ∧ ((t.is = kName ∨ t.is = kNum) → t.s.length ≤ 8) ∧ (t.is ≠ kNone → t.is ≠ kEnd → J < r2) := by
  obtain ⟨r1, r2', hr⟩ : ∃ r1 r2', (r1, r2') = raw s.data.toList J := ⟨_, _, rfl⟩
  have hle := raw_le s J hJ
  unfold tokAt at ht
  rw [← hr] at ht hle
  simp only [Prod.mk.injEq] at ht
  obtain ⟨ht, rfl⟩ := ht
  subst ht
  obtain ⟨b, hb⟩ : ∃ b, b = if (r1 = kName ∨ r1 = kNum) ∧ r2' - J > 8 then kNone else r1 := ⟨_, rfl⟩
  have hbig : (b = kName ∨ b = kNum) → r2' - J ≤ 8 := fun h => by
    by_cases hc : (r1 = kName ∨ r1 = kNum) ∧ r2' - J > 8
    · rw [if_pos hc] at hb
      rw [hb] at h
      exact absurd h (by decide)
    · rw [if_neg hc] at hb
      subst hb
      exact Nat.not_lt.1 (fun h2 => hc ⟨h, h2⟩)
  have hbr : b ≠ kNone → b = r1 := fun h => by
    by_cases hc : (r1 = kName ∨ r1 = kNum) ∧ r2' - J > 8
    · rw [if_pos hc] at hb; exact absurd hb h
    · rw [if_neg hc] at hb; exact hb
  have hlen := cut_len s.data.toList J r2'
  refine ⟨rfl, hle.1, hle.2, fun h => ?_, fun h1 h2 => ?_⟩
  · rw [← hb] at h
    show (cut s.data.toList J r2').length ≤ 8
    by_cases hk : b = kName ∧ cut s.data.toList J r2' ∈ kw
    · have := hbig (Or.inl hk.1)
      omega
    · rw [if_neg hk] at h
      have := hbig h
      omega
  · rw [← hb] at h1 h2
    by_cases hk : b = kName ∧ cut s.data.toList J r2' ∈ kw
    · have e : b = r1 := hbr (by rw [hk.1]; decide)
      exact raw_moves s J hr (by rw [← e, hk.1]; decide) (by rw [← e, hk.1]; decide)
    · rw [if_neg hk] at h1 h2
      have e := hbr h1
      exact raw_moves s J hr (by rw [← e]; exact h1) (by rw [← e]; exact h2)

theorem tk_cons (t : Tok) (T : List Tok) (k : Nat) : tk (t :: T) (k + 1) = tk T k := by simp [tk]
theorem tk_first (t : Tok) (T : List Tok) : tk (t :: T) 0 = t := by simp [tk]
theorem tk_nil (k : Nat) : tk [] k = ⟨[], [], 0⟩ := by simp [tk]
theorem toks_facts (kw : List (List UInt8)) (s : ByteArray) : ∀ (f i : Nat), i ≤ s.size → s.size - i < f →
    Wf (toks kw s.data.toList f i) ∧ Sh (toks kw s.data.toList f i) ∧ ∀ k, (tk (toks kw s.data.toList f i) k).pos ≤ s.size
  | 0, _, _, h => by omega
  | f + 1, i, hi, hf => by
    have hsl : s.data.toList.length = s.size := by rw [Array.length_toList]; rfl
    have hu := upto_le isB s.data.toList i (by omega)
    rw [hsl] at hu
    obtain ⟨J, hJ⟩ : ∃ J, J = upto isB s.data.toList i := ⟨_, rfl⟩
    rw [← hJ] at hu
    obtain ⟨t, r2, ht⟩ : ∃ t r2, tokAt kw s.data.toList J = (t, r2) := ⟨_, _, rfl⟩
    obtain ⟨f1, f2, f3, f4, f5⟩ := tok_facts kw s J hu.2 ht
    rw [toks_step kw s.data.toList f i J hJ ht]
    by_cases he : t.is = kNone ∨ t.is = kEnd
    · rw [if_pos he]
      refine ⟨⟨Nat.zero_lt_one, fun k hk => ?_⟩, fun k hk => ?_, fun k => ?_⟩
      · have : k = 0 := by simpa using hk
        subst this
        rw [tk_first]
        exact ⟨fun _ => rfl, fun _ => he⟩
      · cases k with
        | zero => rw [tk_first] at hk ⊢; exact f4 hk
        | succ k => rw [tk_cons, tk_nil]; exact Nat.zero_le _
      · cases k with
        | zero => rw [tk_first, f1]; exact hu.2
        | succ k => rw [tk_cons, tk_nil]; exact Nat.zero_le _
    · rw [if_neg he]
      have hm := f5 (fun e => he (Or.inl e)) (fun e => he (Or.inr e))
      obtain ⟨g1, g2, g3⟩ := toks_facts kw s f r2 f3 (by omega)
      refine ⟨⟨Nat.succ_pos _, fun k hk => ?_⟩, fun k hk => ?_, fun k => ?_⟩
      · cases k with
        | zero =>
          rw [tk_first, List.length_cons]
          have := g1.1
          exact ⟨fun h => absurd h he, fun h => by omega⟩
        | succ k =>
          rw [tk_cons, List.length_cons]
          rw [List.length_cons] at hk
          have := g1.2 k (by omega)
          exact ⟨fun h => by have := this.1 h; omega, fun h => this.2 (by omega)⟩
      · cases k with
        | zero => rw [tk_first] at hk ⊢; exact f4 hk
        | succ k => rw [tk_cons] at hk ⊢; exact g2 k hk
      · cases k with
        | zero => rw [tk_first, f1]; exact hu.2
        | succ k => rw [tk_cons]; exact g3 k
end Go.Proofs.YtcdijppegfcoaaaGreatDoor

/-
  OUR OWN TEXT. typerref.Read.
-/
namespace Go.Proofs.YtcdijppegfcoaaaGreatDoor
open Go.RowKit
/-- What read hands back: the reader's tokens, and where it stands when the end is needed. -/
def toksOf (kw : List (List UInt8)) (s : ByteArray) : List Tok := toks kw s.data.toList (s.size + 1) 0
theorem toksOf_len (kw : List (List UInt8)) (s : ByteArray) : (toksOf kw s).length ≤ s.size + 1 := toks_len _ _ _ _
theorem fz_none (w : World) : Fz (fun _ => none) w := fun k o e => by cases e
def fv (a b : Int) : Value := .agg #[.int .i64 a, .int .i64 b, .string (B []), .int .i64 0, .int .i64 0]
end Go.Proofs.YtcdijppegfcoaaaGreatDoor

/-
  OUR OWN TEXT. typerref.Parsed at a text that is too long; types' texts by more fuel.
-/
namespace Go.Proofs.YtcdijppegfcoaaaGreatDoor
open Go.RowKit
theorem TyOk.vars {N : Nat} : ∀ (m m' : Nat) (t : Ty) (l : List Nat), TyOk N m t → m ≤ m' → tyVars m' t l = tyVars m t l
  | 0, _, _, _, h, _ => absurd h id
  | m + 1, 0, _, _, _, hm => by omega
  | m + 1, m' + 1, t, l, h, hm => by
    rcases h with ⟨h1, h2, h3⟩ | ⟨h1, h2, h3⟩ | ⟨h1, h2, a, h3, h4⟩ | ⟨h1, h2, a, b, h3, h4, h5⟩
    · simp only [tyVars, if_pos h1]
    · have hk : t.kind ≠ [] := by rcases h1 with h1 | h1 <;> rw [h1] <;> decide
      simp only [tyVars, if_neg hk, h3, List.foldl_nil]
    · have hk : t.kind ≠ [] := by rw [h1]; decide
      simp only [tyVars, if_neg hk, h3, List.foldl_cons, List.foldl_nil, TyOk.vars m m' a _ h4 (by omega)]
    · have hk : t.kind ≠ [] := by rcases h1 with h1 | h1 <;> rw [h1] <;> decide
      simp only [tyVars, if_neg hk, h3, List.foldl_cons, List.foldl_nil, TyOk.vars m m' a _ h4 (by omega), TyOk.vars m m' b _ h5 (by omega)]
theorem TyOk.text {N : Nat} (ns : List (List UInt8)) : ∀ (m m' : Nat) (t : Ty), TyOk N m t → m ≤ m' → tyText m' ns t = tyText m ns t
  | 0, _, _, h, _ => absurd h id
  | m + 1, 0, _, _, hm => by omega
  | m + 1, m' + 1, t, h, hm => by
    rcases h with ⟨h1, h2, h3⟩ | ⟨h1, h2, h3⟩ | ⟨h1, h2, a, h3, h4⟩ | ⟨h1, h2, a, b, h3, h4, h5⟩
    · simp only [tyText, if_pos h1]
    · have hk : t.kind ≠ [] := by rcases h1 with h1 | h1 <;> rw [h1] <;> decide
      simp only [tyText, if_neg hk, h3]
    · have hk : t.kind ≠ [] := by rw [h1]; decide
      simp only [tyText, if_neg hk, h3, TyOk.text ns m m' a h4 (by omega)]
    · have hk : t.kind ≠ [] := by rcases h1 with h1 | h1 <;> rw [h1] <;> decide
      simp only [tyText, if_neg hk, h3, TyOk.text ns m m' a h4 (by omega), TyOk.text ns m m' b h5 (by omega)]
/-- What a type is does not hang on the fuel. -/
theorem ty_same {N N' m m' : Nat} {t : Ty} (h : TyOk N m t) (h' : TyOk N' m' t) : tySize m t = tySize m' t ∧ tyCanon m t = tyCanon m' t := by
  rcases Nat.le_total m m' with hl | hl
  · exact ⟨(TyOk.size m m' t h hl).symm, by unfold tyCanon; rw [TyOk.vars m m' t [] h hl, TyOk.text _ m m' t h hl]⟩
  · exact ⟨TyOk.size m' m t h' hl, by unfold tyCanon; rw [TyOk.vars m' m t [] h' hl, TyOk.text _ m' m t h' hl]⟩
theorem one_nodup {T : List Tok} {A : List (List UInt8) → St → Option (Ty × List (List UInt8) × St)} (hA : ∀ ns s t ns' s', A ns s = some (t, ns', s') → ns.Nodup → ns'.Nodup) (ns : List (List UInt8)) (s : St) (t : Ty) (ns' : List (List UInt8)) (s' : St)
    (h : oneS A T ns s = some (t, ns', s')) (hd : ns.Nodup) : ns'.Nodup := by
  unfold oneS at h
  split at h
  · cases h; exact hd
  · split at h
    · cases h; exact hd
    · split at h
      · cases e : A ns s.up with
        | none => rw [e] at h; cases h
        | some q =>
          obtain ⟨t1, n1, s1⟩ := q
          rw [e] at h
          cases h
          exact hA _ _ _ _ _ e hd
      · split at h
        · cases e : A ns s.up with
          | none => rw [e] at h; cases h
          | some q =>
            obtain ⟨t1, n1, s1⟩ := q
            rw [e] at h
            simp only at h
            split at h
            · cases e2 : A n1 s1.up with
              | none => rw [e2] at h; cases h
              | some q2 =>
                obtain ⟨t2, n2, s2⟩ := q2
                rw [e2] at h
                cases h
                exact hA _ _ _ _ _ e2 (hA _ _ _ _ _ e hd)
            · cases h
              exact hA _ _ _ _ _ e hd
        · cases h
          unfold numS
          split
          · exact hd
          · rename_i h1
            rw [List.nodup_append]
            exact ⟨hd, by simp, fun a ha b hb e => h1 (by rw [← List.mem_singleton.1 hb, ← e]; exact ha)⟩
theorem arr_nodup {T : List Tok} : ∀ (n : Nat) (ns : List (List UInt8)) (s : St) (t : Ty) (ns' : List (List UInt8)) (s' : St), arrS T n ns s = some (t, ns', s') → ns.Nodup → ns'.Nodup
  | 0, _, _, _, _, _, h, _ => by cases h
  | n + 1, ns, s, t, ns', s', h, hd => by
    rw [arrS] at h
    cases e : oneS (arrS T n) T ns s with
    | none => rw [e] at h; cases h
    | some q =>
      obtain ⟨t1, n1, s1⟩ := q
      rw [e] at h
      simp only at h
      have p1 := one_nodup (arr_nodup n) ns s t1 n1 s1 e hd
      split at h
      · cases e2 : arrS T n n1 s1.up with
        | none => rw [e2] at h; cases h
        | some q2 =>
          obtain ⟨t2, n2, s2⟩ := q2
          rw [e2] at h
          cases h
          exact arr_nodup n _ _ _ _ _ e2 p1
      · cases h
        exact p1
end Go.Proofs.YtcdijppegfcoaaaGreatDoor

/-
  OUR OWN TEXT. No two types have the same text.
-/
namespace Go.Proofs.YtcdijppegfcoaaaGreatDoor
open Go.RowKit
def isC (c : UInt8) : Bool := low c || fig c
/-- A name of a variable. -/
def NameOk (n : List UInt8) : Prop := (∃ c r, n = c :: r ∧ low c = true) ∧ (∀ c, c ∈ n → isC c = true) ∧ n ∉ tyKw
/-- Names are names, all different. -/
structure Nms (N : Nat) (ns : List (List UInt8)) : Prop where
  len : N ≤ ns.length
  ok : ∀ n, n ∈ ns → NameOk n
  nd : ns.Nodup
theorem getD_mem {ns : List (List UInt8)} {i : Nat} (h : i < ns.length) : ns.getD i [] ∈ ns := by
  have : ns.getD i [] = ns[i] := by simp [List.getD, h]
  rw [this]
  exact List.getElem_mem h
theorem getD_inj2 {ns : List (List UInt8)} (hd : ns.Nodup) {i j : Nat} (hi : i < ns.length) (hj : j < ns.length) (h : ns.getD i [] = ns.getD j []) : i = j := by
  have e1 : ns.getD i [] = ns[i] := by simp [List.getD, hi]
  have e2 : ns.getD j [] = ns[j] := by simp [List.getD, hj]
  rw [e1, e2] at h
  have a := hd.idxOf_getElem i hi
  have b := hd.idxOf_getElem j hj
  rw [h] at a
  omega
end Go.Proofs.YtcdijppegfcoaaaGreatDoor

/-
  OUR OWN TEXT. The names of a type's variables are names.
-/
namespace Go.Proofs.YtcdijppegfcoaaaGreatDoor
open Go.RowKit
theorem mem_cut {l : List UInt8} {J K : Nat} {c : UInt8} (h : c ∈ cut l J K) : ∃ i, J ≤ i ∧ i < K ∧ l[i]? = some c := by
  obtain ⟨i, hi, rfl⟩ := List.mem_iff_getElem.1 h
  unfold cut at hi ⊢
  rw [List.length_drop, List.length_take] at hi
  refine ⟨J + i, by omega, by omega, ?_⟩
  rw [List.getElem_drop, List.getElem_take]
  exact List.getElem?_eq_getElem (by omega)
theorem tok_name {l : List UInt8} {J : Nat} (hJ : J ≤ l.length) (h : (tokAt tyKw l J).1.is = kName) : NameOk (tokAt tyKw l J).1.s := by
  have hs : (tokAt tyKw l J).1.s = cut l J (raw l J).2 := rfl
  have hi : (tokAt tyKw l J).1.is = (if (if ((raw l J).1 = kName ∨ (raw l J).1 = kNum) ∧ (raw l J).2 - J > 8 then kNone else (raw l J).1) = kName ∧ cut l J (raw l J).2 ∈ tyKw then cut l J (raw l J).2 else (if ((raw l J).1 = kName ∨ (raw l J).1 = kNum) ∧ (raw l J).2 - J > 8 then kNone else (raw l J).1)) := rfl
  rw [hi] at h
  rw [hs]
  obtain ⟨b, hb⟩ : ∃ b, b = (if ((raw l J).1 = kName ∨ (raw l J).1 = kNum) ∧ (raw l J).2 - J > 8 then kNone else (raw l J).1) := ⟨_, rfl⟩
  rw [← hb] at h
  clear hi hs
  by_cases hk : cut l J (raw l J).2 ∈ tyKw
  · exfalso
    by_cases hbn : b = kName
    · rw [if_pos ⟨hbn, hk⟩] at h
      rw [h] at hk
      exact absurd hk (by decide)
    · rw [if_neg (fun e => hbn e.1)] at h
      exact hbn h
  · rw [if_neg (fun e => hk e.2)] at h
    have hr : (raw l J).1 = kName := by
      rw [hb] at h
      split at h
      · exact absurd h (by decide)
      · exact h
    rcases raw_cases l J hJ with ⟨e, _⟩ | ⟨c, r, K, e, h1, h2, h3, h4⟩ | ⟨c, r, K, e, h1, h2, h3, h4⟩ | ⟨e, h1, h2⟩ | ⟨c, hc, e, h1, h2⟩ | ⟨e, h1⟩
    · rw [e] at hr; exact absurd (show kEnd = kName from hr) (by decide)
    · rw [e] at hk ⊢
      refine ⟨⟨c, r, h3, h4⟩, fun d hd => ?_, hk⟩
      obtain ⟨i, i1, i2, i3⟩ := mem_cut hd
      have hK : K = upto lowfig l J := by
        unfold raw at e
        have hJl : J < l.length := by omega
        rw [List.getElem?_eq_getElem hJl] at e
        simp only at e
        split at e
        · exact (Prod.mk.inj e).2.symm
        · exfalso
          split at e
          · exact absurd (Prod.mk.inj e).1 (by decide)
          · split at e
            · exact absurd (Prod.mk.inj e).1 (by decide)
            · split at e
              · have := congrArg List.length (Prod.mk.inj e).1
                simp [kName] at this
              · exact absurd (Prod.mk.inj e).1 (by decide)
      rw [hK] at i2
      obtain ⟨c', hc', hp⟩ := upto_in lowfig l J i i1 i2
      rw [i3] at hc'
      cases hc'
      exact hp
    · rw [e] at hr; exact absurd (show kNum = kName from hr) (by decide)
    · rw [e] at hr; exact absurd (show kArrow = kName from hr) (by decide)
    · rw [e] at hr
      have := congrArg List.length hr
      simp [kName] at this
    · rw [e] at hr; exact absurd (show kNone = kName from hr) (by decide)
theorem toks_at (kw : List (List UInt8)) (l : List UInt8) : ∀ (f i : Nat), i ≤ l.length → ∀ t, t ∈ toks kw l f i → ∃ J, J ≤ l.length ∧ t = (tokAt kw l J).1
  | 0, _, _, t, h => by cases h
  | f + 1, i, hi, t, h => by
    have hu := upto_le isB l i hi
    rw [toks] at h
    (try simp only at h)
    split at h
    · rw [List.mem_singleton.1 h]
      exact ⟨_, hu.2, rfl⟩
    · rcases List.mem_cons.1 h with rfl | h
      · exact ⟨_, hu.2, rfl⟩
      · refine toks_at kw l f _ ?_ t h
        have : (tokAt kw l (upto isB l i)).2 = (raw l (upto isB l i)).2 := rfl
        rw [this]
        rcases raw_cases l _ hu.2 with ⟨e, _⟩ | ⟨c, r, K, e, h1, h2, h3, h4⟩ | ⟨c, r, K, e, h1, h2, h3, h4⟩ | ⟨e, h1, h2⟩ | ⟨c, hc, e, h1, h2⟩ | ⟨e, h1⟩ <;> rw [e] <;> simp only <;> omega
def NmT (T : List Tok) : Prop := ∀ k, (tk T k).is = kName → NameOk (tk T k).s
theorem nmT_of (l : List UInt8) (f i : Nat) (hi : i ≤ l.length) : NmT (toks tyKw l f i) := by
  intro k hk
  unfold Proofs.YtcdijppegfcoaaaGreatDoor.tk at hk ⊢
  rw [List.getD_eq_getElem?_getD] at hk ⊢
  cases e : (toks tyKw l f i)[k]? with
  | none => rw [e] at hk; exact absurd hk (by decide)
  | some t =>
    rw [e] at hk
    obtain ⟨J, hJ, rfl⟩ := toks_at tyKw l f i hi t (List.mem_of_getElem? e)
    exact tok_name hJ hk
theorem one_names {T : List Tok} (hT : NmT T) {A : List (List UInt8) → St → Option (Ty × List (List UInt8) × St)} (hA : ∀ ns s t ns' s', A ns s = some (t, ns', s') → s'.bad < 0 → (∀ n, n ∈ ns → NameOk n) → ∀ n, n ∈ ns' → NameOk n) (ns : List (List UInt8)) (s : St) (t : Ty) (ns' : List (List UInt8)) (s' : St)
    (h : oneS A T ns s = some (t, ns', s')) (hb : s'.bad < 0) (hn : ∀ n, n ∈ ns → NameOk n) : ∀ n, n ∈ ns' → NameOk n := by
  unfold oneS at h
  split at h
  · cases h; exact hn
  · split at h
    · cases h; exact hn
    · split at h
      · cases e : A ns s.up with
        | none => rw [e] at h; cases h
        | some q =>
          obtain ⟨t1, n1, s1⟩ := q
          rw [e] at h
          cases h
          exact hA _ _ _ _ _ e ((needS_go T s1 kQs).2.2 hb).1 hn
      · split at h
        · cases e : A ns s.up with
          | none => rw [e] at h; cases h
          | some q =>
            obtain ⟨t1, n1, s1⟩ := q
            rw [e] at h
            simp only at h
            split at h
            · rename_i hc
              cases e2 : A n1 s1.up with
              | none => rw [e2] at h; cases h
              | some q2 =>
                obtain ⟨t2, n2, s2⟩ := q2
                rw [e2] at h
                cases h
                exact hA _ _ _ _ _ e2 ((needS_go T s2 kShut).2.2 hb).1 (hA _ _ _ _ _ e (isS_ok hc) hn)
            · cases h
              exact hA _ _ _ _ _ e ((needS_go T s1 kShut).2.2 hb).1 hn
        · cases h
          have hnm : isS T s kName = true := by
            cases hi : isS T s kName with
            | true => rfl
            | false =>
              have h1 := ((needS_go T s kName).2.2 hb).2
              have h2 := ((needS_go T s kName).2.2 hb).1
              rw [needS, if_neg (by rw [hi]; decide), if_pos h2] at hb
              exact absurd hb (by show ¬ ((tk T s.k).pos : Int) < 0; omega)
          have hk : (tk T s.k).is = kName := by
            simp only [isS, Bool.and_eq_true, beq_iff_eq] at hnm
            exact hnm.2
          intro n hmem
          unfold numS at hmem
          split at hmem
          · exact hn n hmem
          · rcases List.mem_append.1 hmem with h | h
            · exact hn n h
            · rw [List.mem_singleton.1 h]
              exact hT s.k hk
theorem arr_names {T : List Tok} (hT : NmT T) : ∀ (n : Nat) (ns : List (List UInt8)) (s : St) (t : Ty) (ns' : List (List UInt8)) (s' : St), arrS T n ns s = some (t, ns', s') → s'.bad < 0 → (∀ n, n ∈ ns → NameOk n) → ∀ n, n ∈ ns' → NameOk n
  | 0, _, _, _, _, _, h, _, _ => by cases h
  | n + 1, ns, s, t, ns', s', h, hb, hn => by
    rw [arrS] at h
    cases e : oneS (arrS T n) T ns s with
    | none => rw [e] at h; cases h
    | some q =>
      obtain ⟨t1, n1, s1⟩ := q
      rw [e] at h
      simp only at h
      split at h
      · rename_i hc
        have p1 := one_names hT (arr_names hT n) ns s t1 n1 s1 e (isS_ok hc) hn
        cases e2 : arrS T n n1 s1.up with
        | none => rw [e2] at h; cases h
        | some q2 =>
          obtain ⟨t2, n2, s2⟩ := q2
          rw [e2] at h
          cases h
          exact arr_names hT n _ _ _ _ _ e2 hb p1
      · cases h
        exact one_names hT (arr_names hT n) ns s _ _ _ e hb hn
theorem names_of {s : ByteArray} {n : Nat} {x : Ty} {ns : List (List UInt8)} {s1 : St} (h : arrS (toksOf tyKw s) n [] ⟨0, -1⟩ = some (x, ns, s1)) (hb : s1.bad < 0) : Nms ns.length ns :=
  ⟨Nat.le_refl _, arr_names (nmT_of _ _ 0 (Nat.zero_le _)) n [] ⟨0, -1⟩ x ns s1 h hb (by simp), arr_nodup n [] ⟨0, -1⟩ x ns s1 h (by simp)⟩
end Go.Proofs.YtcdijppegfcoaaaGreatDoor

/-
  OUR OWN TEXT. typerref.equal.
-/
namespace Go.Proofs.YtcdijppegfcoaaaGreatDoor
open Go.RowKit
/-- What equal answers, in whatever world has drawn more. -/
def EQ (w : World) (c d : Nat) (r : Bool) : Prop := ∀ n, Calls Tryz.prog 50 #[.pointer (some ⟨c, 0, none⟩), .pointer (some ⟨d, 0, none⟩)] (w.drewN n) fun e w' => e = .returned (.bool r) ∧ ∃ q, w' = (w.drewN n).drewN q
end Go.Proofs.YtcdijppegfcoaaaGreatDoor

/-
  OUR OWN TEXT. By which types a type becomes another, on plain data: the types xs their texts; typerref.Matched: what it keeps.
-/
namespace Go.Proofs.YtcdijppegfcoaaaGreatDoor
open Go.RowKit
def ptrO : Option Nat → Value
  | none => .pointer none
  | some b => .pointer (some ⟨b, 0, none⟩)
/-- A row of types, some of them none yet, xs a slice of whatever make. -/
def GRow (w : World) (v : Value) (gs : List (Option Nat)) : Prop :=
  ∃ ao cp, v = .slice ao gs.length cp ∧ ∀ (j : Nat) (o : Option Nat), gs[j]? = some o → ∃ g, ao = some ⟨g, 0, none⟩ ∧ g < w.heap.size ∧ w.cell? ⟨g, j, none⟩ = some (ptrO o)
theorem GRow.grown {w w' : World} {v : Value} {gs : List (Option Nat)} (h : GRow w v gs) (hg : w.grownBy w' none) : GRow w' v gs := by
  obtain ⟨ao, cp, rfl, hc⟩ := h
  refine ⟨ao, cp, rfl, fun j o e => ?_⟩
  obtain ⟨g, h1, h2, h3⟩ := hc j o e
  exact ⟨g, h1, Nat.lt_of_lt_of_le h2 hg.size, by rw [World.cell?_of_block (a := ⟨g, j, none⟩) (hg.block g h2 (by simp))]; exact h3⟩
/-- The row is that of these texts. -/
def GT (N M : Nat) (ns : List (List UInt8)) (H : Nat → Option Obj) (gs : List (Option Nat)) (g : (List (Option (List UInt8)))) : Prop :=
  gs.length = g.length ∧ ∀ (j : Nat), (∀ o, gs[j]? = some o → o = none → g[j]? = some none) ∧ (∀ b, gs[j]? = some (some b) → ∃ t, TRep M H b t ∧ TyOk N M t ∧ g[j]? = some (some (tyText M ns t)))
theorem GT.set {N M : Nat} {ns : List (List UInt8)} {H : Nat → Option Obj} {gs : List (Option Nat)} {g : (List (Option (List UInt8)))} (h : GT N M ns H gs g) {v b : Nat} {t : Ty} (hr : TRep M H b t) (ok : TyOk N M t) : GT N M ns H (gs.set v (some b)) (g.set v (some (tyText M ns t))) := by
  obtain ⟨hl, hj⟩ := h
  refine ⟨by simp [hl], fun j => ⟨fun o h1 h2 => ?_, fun c h1 => ?_⟩⟩
  · rw [List.getElem?_set] at h1 ⊢
    by_cases e : v = j
    · rw [if_pos e] at h1
      split at h1
      · rw [← Option.some.inj h1] at h2; cases h2
      · cases h1
    · rw [if_neg e] at h1 ⊢
      exact (hj j).1 o h1 h2
  · rw [List.getElem?_set] at h1 ⊢
    by_cases e : v = j
    · rw [if_pos e] at h1 ⊢
      split at h1
      · rename_i hlt
        rw [if_pos (by rw [← hl]; exact hlt)]
        have e2 := Option.some.inj (Option.some.inj h1)
        subst e2
        exact ⟨t, hr, ok, rfl⟩
      · cases h1
    · rw [if_neg e] at h1 ⊢
      exact (hj j).2 c h1
end Go.Proofs.YtcdijppegfcoaaaGreatDoor

/-
  OUR OWN TEXT. What variables stand for, in a map of the program's.
-/
namespace Go.Proofs.YtcdijppegfcoaaaGreatDoor
open Go.RowKit Go.Maps Go.WideMaps
/-- How a Typed reads. -/
def tyR1 (v : Value) : Option (DataW Unit × List MemPlace) :=
  match v with
  | .string s => if s.size ≤ maxLen then some (.lit (.string s.data.toList), []) else none
  | _ => none
def tyR (v : Value) : Option (DataW Unit × List MemPlace) :=
  match v with
  | .agg a => if a.size = 1 then tyR1 (a.getD 0 undef) else none
  | _ => none
theorem tyR_mk {t : List UInt8} (h : t.length ≤ 1000000) : tyR (.agg #[.string (B t)]) = some (.lit (.string t), []) := by
  have hs : (B t).size ≤ maxLen := by rw [size_B]; unfold maxLen; omega
  show (if (B t).size ≤ maxLen then some (DataW.lit (.string (B t).data.toList), []) else none) = _
  rw [if_pos hs]
  rfl
theorem tyR_inv {v : Value} {z : DataW Unit × List MemPlace} (h : tyR v = some z) : ∃ s : ByteArray, v = .agg #[.string s] ∧ z = (.lit (.string s.data.toList), []) := by
  unfold tyR at h
  split at h
  · rename_i a
    split at h
    · rename_i hs
      unfold tyR1 at h
      split at h
      · rename_i s hs0
        split at h
        · cases h
          refine ⟨s, ?_, rfl⟩
          congr 1
          apply Array.ext
          · simp [hs]
          · intro i h1 h2
            have hi : i = 0 := by omega
            subst hi
            have : a.getD 0 undef = a[0] := by simp [Array.getD, h1]
            rw [this] at hs0
            simpa using hs0
        · cases h
      · cases h
    · cases h
  · cases h
theorem zeroTyped (w : World) : (zeroValue 101).run Tryz.prog w = .ok (.agg #[.string (B [])]) w := by kernel_rfl

/-- Block mb is a map from the names of the variables that stand for something to those texts. -/
def FM (w : World) (mb : Nat) (ns : List (List UInt8)) (g : List (Option (List UInt8))) : Prop :=
  ∃ D : DataW Unit, w.ownsMap Tryz.prog 9 tyR mb (g.filter Option.isSome).length D ∧ Maps.size D = (g.filter Option.isSome).length ∧
    (∀ v, v < ns.length → Maps.has D (.string (ns.getD v [])) = (g.getD v none).isSome) ∧
    (∀ v t, v < ns.length → g.getD v none = some t → D.atKey (.string (ns.getD v [])) (.lit (.string [])) = .lit (.string t)) ∧
    ∀ k, Maps.has D k = true → ∃ v, v < ns.length ∧ k = .string (ns.getD v [])
theorem filter_set : ∀ (g : List (Option (List UInt8))) (v : Nat) (t : List UInt8), v < g.length → g.getD v none = none → ((g.set v (some t)).filter Option.isSome).length = (g.filter Option.isSome).length + 1
  | [], v, t, h, _ => by simp at h
  | a :: g, 0, t, h, e => by
    simp at e
    subst e
    simp
  | a :: g, v + 1, t, h, e => by
    have ih := filter_set g v t (by simpa using h) (by simpa using e)
    simp only [List.set_cons_succ, List.filter_cons]
    split <;> simp [ih]
theorem FM.new (w : World) (ns : List (List UInt8)) (n : Nat) : FM (w.alloc (.map #[] 0)) w.heap.size ns (List.replicate n none) := by
  have hf : ((List.replicate n (none : Option (List UInt8))).filter Option.isSome) = [] := by
    rw [List.filter_eq_nil_iff]
    intro a ha
    rw [List.eq_of_mem_replicate ha]
    simp
  have hg : ∀ v, (List.replicate n (none : Option (List UInt8))).getD v none = none := fun v => by
    rw [List.getD_eq_getElem?_getD]
    cases e : (List.replicate n (none : Option (List UInt8)))[v]? with
    | none => rfl
    | some o => rw [List.eq_of_mem_replicate (List.mem_of_getElem? e)]; rfl
  refine ⟨.map [], ?_, by rw [hf]; rfl, fun v hv => by rw [hg v]; rfl, (fun v t hv e => absurd (e.symm.trans (hg v)) (by simp)), (fun k h => absurd h (by simp [Maps.has]))⟩
  rw [hf]
  exact World.ownsMap_made _ _ _ _
theorem FM.kept {w w' : World} {mb : Nat} {ns : List (List UInt8)} {g : List (Option (List UInt8))} {r : Option Nat} (h : FM w mb ns g) (hg : w.grownBy w' r) (hne : some mb ≠ r) : FM w' mb ns g := by
  obtain ⟨D, h1, h2⟩ := h
  exact ⟨D, h1.kept hg hne, h2⟩
theorem FM.lt {w : World} {mb : Nat} {ns : List (List UInt8)} {g : List (Option (List UInt8))} (h : FM w mb ns g) : mb < w.heap.size := by
  obtain ⟨D, h1, _⟩ := h
  exact h1.lt
theorem FM.look_in {w : World} {mb : Nat} {ns : List (List UInt8)} {g : List (Option (List UInt8))} (h : FM w mb ns g) {v : Nat} (hv : v < ns.length) (hl : (ns.getD v []).length ≤ 300) {t : List UInt8} (ht : g.getD v none = some t) :
    (Instr.lookup 93 (.map (some mb)) (.string (B (ns.getD v []))) true).run Tryz.prog w = .ok (.tuple #[.agg #[.string (B t)], .bool true]) w := by
  obtain ⟨D, h1, h2, h3, h4, h5⟩ := h
  obtain ⟨u, ps, hr, hu⟩ := h1.look_ok keyLaw Tryz.underlying93 (zeroTyped w) (tyR_mk (t := []) (by simp)) (keyB hl)
  obtain ⟨s, rfl, hs⟩ := tyR_inv hu
  rw [hr, h3 v hv, ht]
  rw [h4 v t hv ht] at hs
  have := congrArg Prod.fst hs
  simp at this
  have e : s = B t := by
    cases s
    simp at this
    simp [B, this]
  rw [e]
  rfl
theorem FM.look1 {w : World} {mb : Nat} {ns : List (List UInt8)} {g : List (Option (List UInt8))} (h : FM w mb ns g) {v : Nat} (hv : v < ns.length) (hl : (ns.getD v []).length ≤ 300) {t : List UInt8} (ht : g.getD v none = some t) :
    (Instr.lookup 93 (.map (some mb)) (.string (B (ns.getD v []))) false).run Tryz.prog w = .ok (.agg #[.string (B t)]) w := by
  obtain ⟨D, h1, h2, h3, h4, h5⟩ := h
  obtain ⟨u, ps, hr, hu⟩ := h1.lookup keyLaw Tryz.underlying93 (zeroTyped w) (tyR_mk (t := []) (by simp)) (keyB hl)
  obtain ⟨s, rfl, hs⟩ := tyR_inv hu
  rw [hr]
  rw [h4 v t hv ht] at hs
  have := congrArg Prod.fst hs
  simp at this
  have e : s = B t := by
    cases s
    simp at this
    simp [B, this]
  rw [e]
theorem FM.look_out {w : World} {mb : Nat} {ns : List (List UInt8)} {g : List (Option (List UInt8))} (h : FM w mb ns g) {v : Nat} (hv : v < ns.length) (hl : (ns.getD v []).length ≤ 300) (ht : g.getD v none = none) :
    (Instr.lookup 93 (.map (some mb)) (.string (B (ns.getD v []))) true).run Tryz.prog w = .ok (.tuple #[.agg #[.string (B [])], .bool false]) w := by
  obtain ⟨D, h1, h2, h3, h4, h5⟩ := h
  obtain ⟨u, ps, hr, hu⟩ := h1.look_ok keyLaw Tryz.underlying93 (zeroTyped w) (tyR_mk (t := []) (by simp)) (keyB hl)
  obtain ⟨s, rfl, hs⟩ := tyR_inv hu
  have hf : Maps.has D (.string (ns.getD v [])) = false := by rw [h3 v hv, ht]; rfl
  rw [hr, hf]
  rw [atKey_of_not_has hf] at hs
  have := congrArg Prod.fst hs
  simp at this
  have e : s = B [] := by
    cases s
    simp at this
    simp [B, this]
  rw [e]
theorem FM.store {w : World} {mb : Nat} {ns : List (List UInt8)} {g : List (Option (List UInt8))} (h : FM w mb ns g) (hlen : g.length = ns.length) (hL : ns.length ≤ 1000) (hd : ns.Nodup) {v : Nat} (hv : v < ns.length) (hl : (ns.getD v []).length ≤ 300) (ht : g.getD v none = none) {t : List UInt8} (htl : t.length ≤ 1000000) :
    ∃ w', (Instr.mapUpdate 93 (.map (some mb)) (.string (B (ns.getD v []))) (.agg #[.string (B t)])).run Tryz.prog w = .ok () w' ∧ FM w' mb ns (g.set v (some t)) ∧ w.grownBy w' (some mb) := by
  obtain ⟨D, h1, h2, h3, h4, h5⟩ := h
  have td := h1.tidy keyLaw
  have hfl : (g.filter Option.isSome).length ≤ 1000 := Nat.le_trans (List.length_filter_le _ _) (by omega)
  obtain ⟨w', r1, r2, r3⟩ := h1.update keyLaw Tryz.underlying93 (by unfold maxLen; omega) (keyB hl) (tyR_mk htl)
  have hf : Maps.has D (.string (ns.getD v [])) = false := by rw [h3 v hv, ht]; rfl
  have hfs := filter_set g v t (by omega) ht
  have ne : ∀ i, i < ns.length → i ≠ v → (Lit.string (ns.getD i [])) ≠ .string (ns.getD v []) := fun i hi hne e => hne (getD_inj2 hd hi hv (by simpa using e))
  have gs : ∀ i, (g.set v (some t)).getD i none = if i = v then some t else g.getD i none := fun i => by
    rw [List.getD_eq_getElem?_getD, List.getD_eq_getElem?_getD, List.getElem?_set]
    by_cases e : v = i
    · rw [if_pos e, if_pos e.symm, if_pos (by omega)]; rfl
    · rw [if_neg e, if_neg (fun h => e h.symm)]
  refine ⟨w', r1, ⟨_, by rw [hfs]; exact r2, ?_, fun i hi => ?_, fun i t' hi e => ?_, fun k hk => ?_⟩, r3⟩
  · rw [size_put td, hf, h2, hfs]
    simp
  · rw [gs i]
    by_cases e : i = v
    · subst e
      rw [if_pos rfl, has_put_same (k := .string (ns.getD i [])) td.isMap (by trivial)]
      rfl
    · rw [if_neg e, has_put_other (ne i hi e), h3 i hi]
  · rw [gs i] at e
    by_cases e2 : i = v
    · subst e2
      rw [if_pos rfl] at e
      cases e
      exact atKey_put_same (k := .string (ns.getD i [])) td.isMap (by trivial) _ _
    · rw [if_neg e2] at e
      rw [atKey_put_other (ne i hi e2)]
      exact h4 i t' hi e
  · by_cases e : k = .string (ns.getD v [])
    · exact ⟨v, hv, e⟩
    · rw [has_put_other e] at hk
      exact h5 k hk
end Go.Proofs.YtcdijppegfcoaaaGreatDoor
