import Derived.Test.YtcdijppegfcoaaaGreatDoorZT22
import Derived.Test.YtcdijppegfcoaaaGreatDoorZT06
import Derived.Test.YtcdijppegfcoaaaGreatDoorZT40
import Derived.Test.YtcdijppegfcoaaaGreatDoorZT14
import Derived.Outline
import Derived.Test.YtcdijppegfcoaaaGreatDoorZT02
import Derived.Laws.IdiomStrings
import Derived.Deep.RegionWith
import Derived.Laws.OwnMore
/-
  OUR OWN TEXT. The text of a type, read again: its tokens.
-/
namespace Go.Proofs.YtcdijppegfcoaaaGreatDoor
open Go.RowKit
/-- What a token is, wherever it stands. -/
def keyT (t : Tok) : List UInt8 × List UInt8 := (t.is, t.s)
/-- From i on up to j a text has these tokens. -/
def Piece (l : List UInt8) (i j : Nat) (ks : List (List UInt8 × List UInt8)) : Prop :=
  ∃ ts : List Tok, ts.map keyT = ks ∧ ∀ f, toks tyKw l (f + ks.length) i = ts ++ toks tyKw l f j
theorem Piece.one {l : List UInt8} {i J r2 : Nat} {t : Tok} (hJ : upto isB l i = J) (ht : tokAt tyKw l J = (t, r2)) (hn : t.is ≠ kNone) (he : t.is ≠ kEnd) : Piece l i r2 [keyT t] := by
  refine ⟨[t], rfl, fun f => ?_⟩
  show toks tyKw l (f + 1) i = _
  rw [toks, hJ, ht]
  simp only
  rw [if_neg (fun h => h.elim hn he)]
  rfl
end Go.Proofs.YtcdijppegfcoaaaGreatDoor

/-
  OUR OWN TEXT. The text of a type, read again: what the reader makes of its tokens.
-/
namespace Go.Proofs.YtcdijppegfcoaaaGreatDoor
open Go.RowKit
/-- A row of tokens has these from k on. -/
def KeyAt (T : List Tok) (k : Nat) (ks : List (List UInt8 × List UInt8)) : Prop := ∀ m p, ks[m]? = some p → keyT (tk T (k + m)) = p
theorem KeyAt.left {T : List Tok} {k : Nat} {a b : List (List UInt8 × List UInt8)} (h : KeyAt T k (a ++ b)) : KeyAt T k a := fun m p e => h m p (by
  rw [List.getElem?_append_left]
  · exact e
  · rcases Nat.lt_or_ge m a.length with h | h
    · exact h
    · rw [List.getElem?_eq_none h] at e; cases e)
theorem KeyAt.right {T : List Tok} {k : Nat} {a b : List (List UInt8 × List UInt8)} (h : KeyAt T k (a ++ b)) : KeyAt T (k + a.length) b := fun m p e => by
  have := h (a.length + m) p (by rw [List.getElem?_append_right (by omega)]; rw [show a.length + m - a.length = m from by omega]; exact e)
  rw [← Nat.add_assoc] at this
  exact this
theorem KeyAt.head {T : List Tok} {k : Nat} {p : List UInt8 × List UInt8} {ks : List (List UInt8 × List UInt8)} (h : KeyAt T k (p :: ks)) : (tk T k).is = p.1 ∧ (tk T k).s = p.2 := by
  have := h 0 p rfl
  rw [← this]
  exact ⟨rfl, rfl⟩
end Go.Proofs.YtcdijppegfcoaaaGreatDoor

/-
  OUR OWN TEXT. A type that was read has its variables in the order in which they stand; its one text, read again, is the type itself.
-/
namespace Go.Proofs.YtcdijppegfcoaaaGreatDoor
open Go.RowKit
theorem one_vars {T : List Tok} {A : List (List UInt8) → St → Option (Ty × List (List UInt8) × St)} (hA : ∀ ns s t ns' s', A ns s = some (t, ns', s') → ∀ N m, TyOk N m t → tyVars m t (List.range ns.length) = List.range ns'.length) (ns : List (List UInt8)) (s : St) (t : Ty) (ns' : List (List UInt8)) (s' : St)
    (h : oneS A T ns s = some (t, ns', s')) : ∀ N m, TyOk N m t → tyVars m t (List.range ns.length) = List.range ns'.length := by
  intro N m ok
  cases m with
  | zero => exact absurd ok id
  | succ m =>
  unfold oneS at h
  split at h
  · cases h
    rw [tyVars, if_neg (by decide)]
    rfl
  · split at h
    · cases h
      rw [tyVars, if_neg (by decide)]
      rfl
    · split at h
      · cases e : A ns s.up with
        | none => rw [e] at h; cases h
        | some q =>
          obtain ⟨t1, n1, s1⟩ := q
          rw [e] at h
          cases h
          rcases ok with ⟨g1, g2, g3⟩ | ⟨g1, g2, g3⟩ | ⟨g1, g2, p', g3, g4⟩ | ⟨g1, g2, p', q', g3, g4, g5⟩
          · exact absurd (show oList = [] from g1) (by decide)
          · cases g3
          · cases g3
            have := hA _ _ _ _ _ e N m g4
            rw [tyVars, if_neg (show ¬ oList = [] by decide)]
            exact this
          · cases g3
      · split at h
        · cases e : A ns s.up with
          | none => rw [e] at h; cases h
          | some q =>
            obtain ⟨t1, n1, s1⟩ := q
            rw [e] at h
            simp only at h
            split at h
            · cases e2 : A n1 s1.up with
              | none => rw [e2] at h; cases h
              | some q2 =>
                obtain ⟨t2, n2, s2⟩ := q2
                rw [e2] at h
                cases h
                rcases ok with ⟨g1, g2, g3⟩ | ⟨g1, g2, g3⟩ | ⟨g1, g2, p', g3, g4⟩ | ⟨g1, g2, p', q', g3, g4, g5⟩
                · exact absurd (show oPair = [] from g1) (by decide)
                · cases g3
                · cases g3
                · cases g3
                  have i1 := hA _ _ _ _ _ e N m g4
                  have i2 := hA _ _ _ _ _ e2 N m g5
                  rw [tyVars, if_neg (show ¬ oPair = [] by decide)]
                  show tyVars m t2 (tyVars m t1 _) = _
                  rw [i1, i2]
            · cases h
              exact hA _ _ _ _ _ e N (m + 1) ok
        · cases h
          rw [tyVars, if_pos rfl]
          simp only
          unfold numS
          split
          · rename_i hm
            rw [if_pos (List.mem_range.2 (List.idxOf_lt_length_of_mem hm))]
          · rename_i hm
            rw [if_neg (by simp)]
            simp [List.range_succ]
theorem arr_vars {T : List Tok} : ∀ (n : Nat) (ns : List (List UInt8)) (s : St) (t : Ty) (ns' : List (List UInt8)) (s' : St), arrS T n ns s = some (t, ns', s') → ∀ N m, TyOk N m t → tyVars m t (List.range ns.length) = List.range ns'.length
  | 0, _, _, _, _, _, h => by cases h
  | n + 1, ns, s, t, ns', s', h => by
    rw [arrS] at h
    cases e : oneS (arrS T n) T ns s with
    | none => rw [e] at h; cases h
    | some q =>
      obtain ⟨t1, n1, s1⟩ := q
      rw [e] at h
      simp only at h
      have p1 := one_vars (arr_vars n) ns s t1 n1 s1 e
      split at h
      · cases e2 : arrS T n n1 s1.up with
        | none => rw [e2] at h; cases h
        | some q2 =>
          obtain ⟨t2, n2, s2⟩ := q2
          rw [e2] at h
          cases h
          intro N m ok
          cases m with
          | zero => exact absurd ok id
          | succ m =>
            rcases ok with ⟨g1, g2, g3⟩ | ⟨g1, g2, g3⟩ | ⟨g1, g2, p', g3, g4⟩ | ⟨g1, g2, p', q', g3, g4, g5⟩
            · exact absurd (show kFun = [] from g1) (by decide)
            · cases g3
            · cases g3
            · cases g3
              have i2 := arr_vars n _ _ _ _ _ e2 N m g5
              rw [tyVars, if_neg (show ¬ kFun = [] by decide)]
              show tyVars m t2 (tyVars m t1 _) = _
              rw [p1 N m g4, i2]
      · cases h
        exact p1

end Go.Proofs.YtcdijppegfcoaaaGreatDoor

/-
  OUR OWN TEXT. The program's infer.Instance.
-/
namespace Go.Proofs.YtcdijppegfcoaaaGreatDoor
open Go.RowKit
theorem one_short {T : List Tok} (hT : Sh T) {A : List (List UInt8) → St → Option (Ty × List (List UInt8) × St)} (hA : ∀ ns s t ns' s', A ns s = some (t, ns', s') → s'.bad < 0 → (∀ n, n ∈ ns → n.length ≤ 8) → ∀ n, n ∈ ns' → n.length ≤ 8) (ns : List (List UInt8)) (s : St) (t : Ty) (ns' : List (List UInt8)) (s' : St)
    (h : oneS A T ns s = some (t, ns', s')) (hb : s'.bad < 0) (hn : ∀ n, n ∈ ns → n.length ≤ 8) : ∀ n, n ∈ ns' → n.length ≤ 8 := by
  unfold oneS at h
  split at h
  · cases h; exact hn
  · split at h
    · cases h; exact hn
    · split at h
      · cases e : A ns s.up with
        | none => rw [e] at h; cases h
        | some q =>
          obtain ⟨t1, n1, s1⟩ := q
          rw [e] at h
          cases h
          exact hA _ _ _ _ _ e ((needS_go T s1 kQs).2.2 hb).1 hn
      · split at h
        · cases e : A ns s.up with
          | none => rw [e] at h; cases h
          | some q =>
            obtain ⟨t1, n1, s1⟩ := q
            rw [e] at h
            simp only at h
            split at h
            · rename_i hc
              cases e2 : A n1 s1.up with
              | none => rw [e2] at h; cases h
              | some q2 =>
                obtain ⟨t2, n2, s2⟩ := q2
                rw [e2] at h
                cases h
                exact hA _ _ _ _ _ e2 ((needS_go T s2 kShut).2.2 hb).1 (hA _ _ _ _ _ e (isS_ok hc) hn)
            · cases h
              exact hA _ _ _ _ _ e ((needS_go T s1 kShut).2.2 hb).1 hn
        · cases h
          have hnm : isS T s kName = true := by
            cases hi : isS T s kName with
            | true => rfl
            | false =>
              have h1 := ((needS_go T s kName).2.2 hb).2
              have h2 := ((needS_go T s kName).2.2 hb).1
              rw [needS, if_neg (by rw [hi]; decide), if_pos h2] at hb
              exact absurd hb (by show ¬ ((tk T s.k).pos : Int) < 0; omega)
          have hk : (tk T s.k).is = kName := by
            simp only [isS, Bool.and_eq_true, beq_iff_eq] at hnm
            exact hnm.2
          intro n hmem
          unfold numS at hmem
          split at hmem
          · exact hn n hmem
          · rcases List.mem_append.1 hmem with h | h
            · exact hn n h
            · rw [List.mem_singleton.1 h]
              exact hT s.k (Or.inl hk)
theorem arr_short {T : List Tok} (hT : Sh T) : ∀ (n : Nat) (ns : List (List UInt8)) (s : St) (t : Ty) (ns' : List (List UInt8)) (s' : St), arrS T n ns s = some (t, ns', s') → s'.bad < 0 → (∀ n, n ∈ ns → n.length ≤ 8) → ∀ n, n ∈ ns' → n.length ≤ 8
  | 0, _, _, _, _, _, h, _, _ => by cases h
  | n + 1, ns, s, t, ns', s', h, hb, hn => by
    rw [arrS] at h
    cases e : oneS (arrS T n) T ns s with
    | none => rw [e] at h; cases h
    | some q =>
      obtain ⟨t1, n1, s1⟩ := q
      rw [e] at h
      simp only at h
      split at h
      · rename_i hc
        have p1 := one_short hT (arr_short hT n) ns s t1 n1 s1 e (isS_ok hc) hn
        cases e2 : arrS T n n1 s1.up with
        | none => rw [e2] at h; cases h
        | some q2 =>
          obtain ⟨t2, n2, s2⟩ := q2
          rw [e2] at h
          cases h
          exact arr_short hT n _ _ _ _ _ e2 hb p1
      · cases h
        exact one_short hT (arr_short hT n) ns s _ _ _ e hb hn
theorem RdT.short {s : ByteArray} {x : Ty} {ns : List (List UInt8)} (h : RdT s x ns) : ∀ i, i < ns.length → (ns.getD i []).length ≤ 300 := by
  obtain ⟨hs, s1, hx, hk, hb, _⟩ := h
  obtain ⟨f1, f2, f3⟩ := toks_facts tyKw s (s.size + 1) 0 (Nat.zero_le _) (by omega)
  intro i hi
  have := arr_short (T := toksOf tyKw s) f2 _ [] ⟨0, -1⟩ x ns s1 hx ((needS_go _ s1 kEnd).2.2 hb).1 (by simp) _ (getD_mem hi)
  omega
end Go.Proofs.YtcdijppegfcoaaaGreatDoor

/-
  OUR OWN TEXT. A type and its one text are instances of each other; types put for two variables are found again; where an arrow stands outside of all brackets.
-/
namespace Go.Proofs.YtcdijppegfcoaaaGreatDoor
open Go.RowKit
theorem RdT.order {s : ByteArray} {x : Ty} {ns : List (List UInt8)} (h : RdT s x ns) : ∃ m, TyOk ns.length m x ∧ tySize m x ≤ 120 ∧ tyVars m x [] = List.range ns.length ∧ ns.length ≤ 120 := by
  obtain ⟨hs, s1, hx, hk, hb, hsz⟩ := h
  obtain ⟨m, ok, _, _⟩ := arr_made (toksOf tyKw s) _ [] ⟨0, -1⟩ x ns s1 (by show (-1 : Int) < 0; omega) hx
  have hv := arr_vars _ [] ⟨0, -1⟩ x ns s1 hx _ m ok
  have h1 := hsz _ _ ok
  refine ⟨m, ok, h1, hv, ?_⟩
  have := tyVars_len m x [] ok
  rw [show ([] : List Nat) = List.range 0 from rfl] at this
  change (tyVars m x (List.range 0)).length ≤ _ at this
  rw [show List.range ([] : List (List UInt8)).length = List.range 0 from rfl] at hv
  rw [hv] at this
  simp at this
  omega
end Go.Proofs.YtcdijppegfcoaaaGreatDoor

/-
  OUR OWN TEXT. typerref.Canon.
-/
namespace Go.Proofs.YtcdijppegfcoaaaGreatDoor
open Go.RowKit
theorem strs_set (ns : List (List UInt8)) (v : Nat) (t : List UInt8) : (strs ns).toArray.setIfInBounds v (.string (B t)) = (strs (ns.set v t)).toArray := by
  simp [strs, List.map_set]
/-- Where the names lie. -/
structure NB (g : Nat) (w wi : World) (ns : List (List UInt8)) : Prop where
  blk : wi.heap[g]? = some (.cells (strs ns).toArray 9 (0, 0))
  old : ∀ k, k < g → wi.heap[k]? = w.heap[k]?
  bel : Below g w wi
theorem NB.cell {g : Nat} {w wi : World} {ns : List (List UInt8)} (h : NB g w wi ns) {j : Nat} {c : List UInt8} (hc : ns[j]? = some c) : wi.cell? ⟨g, j, none⟩ = some (.string (B c)) ∧ wi.frozen? ⟨g, j, none⟩ = false := by
  simp [World.cell?, World.frozen?, h.blk, strs, hc]
theorem NB.grown {g : Nat} {w wi w' : World} {ns : List (List UInt8)} (h : NB g w wi ns) (hg : wi.grownBy w' none) : NB g w w' ns := by
  have hl := lt_of_block h.blk
  refine ⟨by rw [hg.block g hl (by simp)]; exact h.blk, fun k hk => by rw [hg.block k (by omega) (by simp)]; exact h.old k hk, h.bel.trans ⟨hg.os, hg.tape, hg.output, hg.size, fun k hk => hg.block k (by omega) (by simp)⟩⟩
theorem NB.set {g : Nat} {w wi : World} {ns : List (List UInt8)} (h : NB g w wi ns) (v : Nat) (t : List UInt8) : NB g w (wi.setCell ⟨g, v, none⟩ (.string (B t))) (ns.set v t) := by
  have hl := lt_of_block h.blk
  refine ⟨?_, fun k hk => by rw [Below.heap_setCell _ _ _ _ (by show k ≠ g; omega)]; exact h.old k hk, h.bel.trans ⟨rfl, rfl, rfl, by simp [World.setCell], fun k hk => Below.heap_setCell _ _ _ _ (by show k ≠ g; omega)⟩⟩
  rw [← strs_set]
  simp [World.setCell, Array.getElem?_modify, h.blk]
end Go.Proofs.YtcdijppegfcoaaaGreatDoor
