/-
  OUR OWN TEXT. The plain reader has fuel enough, and what it reads has the parts that its kind has, a short text, and little depth.
-/
import Derived.Test.YtcdijppegfcoaabGreatDoorRefT5
namespace Go.Proofs.YtcdijppegfcoaabGreatDoor
open Go.RowKit

def kidT (m : Nat) (x : Ex) (j : Nat) : List UInt8 := match x.kids[j]? with | some y => exText m y | none => []
def kidO (x : Ex) (j : Nat) : List UInt8 := match x.kids[j]? with | some y => y.op | none => []
def exBody (x : Ex) (k : Nat → List UInt8) : List UInt8 :=
  if x.op = kName ∨ x.op = kNum then nth x.names 0
  else if x.op = kFun then tFun ++ nth x.names 0 ++ tArrow ++ k 0
  else if x.op = oPair then tOpen ++ k 0 ++ tComma ++ k 1 ++ tShut
  else if x.op = kIf then tIf ++ k 0 ++ tThen ++ k 1 ++ tElse ++ k 2
  else if x.op = oApp then inBr (brF (kidO x 0)) (k 0) ++ tSp ++ inBr (brA (kidO x 1)) (k 1)
  else letHead x.op ++ bindTo (nth x.names) k x.names.length ++ tIn ++ k x.names.length
theorem exText_succ (m : Nat) (x : Ex) : exText (m + 1) x = exBody x (kidT m x) := rfl

/-- What has its parts at one fuel has them, and the same text and depth, at more. -/
theorem more_fuel : ∀ (m : Nat) (x : Ex), Shape m x → Shape (m + 1) x ∧ exText (m + 1) x = exText m x ∧ exDeep (m + 1) x = exDeep m x
  | 0, _, h => absurd h id
  | m + 1, x, h => by
    have ih := fun y (hy : y ∈ x.kids) => more_fuel m y (h.2 y hy)
    refine ⟨⟨h.1, fun y hy => (ih y hy).1⟩, ?_, ?_⟩
    · rw [exText_succ, exText_succ]
      congr 1
      funext j
      unfold kidT
      cases e : x.kids[j]? with
      | none => rfl
      | some y => exact (ih y (List.mem_of_getElem? e)).2.1
    · show maxl (x.kids.map (exDeep (m + 1))) + 1 = maxl (x.kids.map (exDeep m)) + 1
      rw [List.map_congr_left (fun y hy => (ih y hy).2.2)]
theorem more_small : ∀ (m : Nat) (x : Ex), Shape m x → Small m x → Small (m + 1) x
  | 0, _, h, _ => absurd h id
  | m + 1, _, h, hs => ⟨hs.1, hs.2.1, fun y hy => more_small m y (h.2 y hy) (hs.2.2 y hy)⟩

/-- An expression of so many tokens. -/
structure Nice (m : Nat) (x : Ex) (c : Nat) : Prop where
  shape : Shape m x
  text : (exText m x).length + 8 ≤ 16 * c
  deep : exDeep m x ≤ c
  small : Small m x
theorem Nice.up {m : Nat} {x : Ex} {c : Nat} (h : Nice m x c) : Nice (m + 1) x c := by
  obtain ⟨h1, h2, h3⟩ := more_fuel m x h.shape
  exact ⟨h1, by rw [h2]; exact h.text, by rw [h3]; exact h.deep, more_small m x h.shape h.small⟩
theorem Nice.le {m m' : Nat} {x : Ex} {c : Nat} (h : Nice m x c) (hm : m ≤ m') : Nice m' x c := by
  induction m' with
  | zero => rw [Nat.le_zero.1 hm] at h; exact h
  | succ k ih =>
    rcases Nat.lt_or_ge m (k + 1) with hlt | hge
    · exact (ih (by omega)).up
    · rw [show k + 1 = m from by omega]; exact h
theorem Nice.more {m : Nat} {x : Ex} {c c' : Nat} (h : Nice m x c) (hc : c ≤ c') : Nice m x c' :=
  ⟨h.shape, by have := h.text; omega, Nat.le_trans h.deep hc, h.small⟩
theorem Nice.pos {m : Nat} {x : Ex} {c : Nat} (h : Nice m x c) : 0 < c := by have := h.text; omega

theorem nice_leaf (op nm : List UInt8) (p : Nat) (ho : op = kName ∨ op = kNum) (hl : nm.length ≤ 8) : Nice 1 ⟨op, [nm], [], p⟩ 1 := by
  refine ⟨⟨Or.inl ⟨ho, rfl⟩, fun y hy => by cases hy⟩, ?_, by simp [exDeep, maxl], ⟨by simp, by simp, fun y hy => by cases hy⟩⟩
  rw [exText_succ, exBody, if_pos ho]
  show nm.length + 8 ≤ 16
  omega
theorem nice_fun {m : Nat} {b : Ex} {c : Nat} (nm : List UInt8) (p : Nat) (hl : nm.length ≤ 8) (h : Nice m b c) : Nice (m + 1) ⟨kFun, [nm], [b], p⟩ (c + 3) := by
  refine ⟨⟨Or.inr (Or.inl ⟨rfl, rfl, rfl⟩), fun y hy => by rw [List.mem_singleton.1 hy]; exact h.shape⟩, ?_, ?_, ⟨by simp, by simp, fun y hy => by rw [List.mem_singleton.1 hy]; exact h.small⟩⟩
  · have e : exText (m + 1) ⟨kFun, [nm], [b], p⟩ = tFun ++ nm ++ tArrow ++ exText m b := rfl
    rw [e]
    have := h.text
    simp only [List.length_append, tFun, tArrow, List.length_cons, List.length_nil]
    omega
  · have := h.deep
    simp only [exDeep, List.map_cons, List.map_nil, maxl, List.foldl_cons, List.foldl_nil]
    omega
theorem nice_if {m : Nat} {a b c : Ex} {i j k : Nat} (p : Nat) (h : Nice m a i) (h' : Nice m b j) (h'' : Nice m c k) : Nice (m + 1) ⟨kIf, [], [a, b, c], p⟩ (i + j + k + 3) := by
  refine ⟨⟨Or.inr (Or.inr (Or.inr (Or.inl ⟨rfl, rfl⟩))), fun y hy => ?_⟩, ?_, ?_, ⟨by simp, by simp, fun y hy => ?_⟩⟩
  · simp only [List.mem_cons, List.not_mem_nil, or_false] at hy
    rcases hy with rfl | rfl | rfl
    · exact h.shape
    · exact h'.shape
    · exact h''.shape
  · have e : exText (m + 1) ⟨kIf, [], [a, b, c], p⟩ = tIf ++ exText m a ++ tThen ++ exText m b ++ tElse ++ exText m c := rfl
    rw [e]
    have := h.text
    have := h'.text
    have := h''.text
    simp only [List.length_append, tIf, tThen, tElse, List.length_cons, List.length_nil]
    omega
  · have := h.deep
    have := h'.deep
    have := h''.deep
    simp only [exDeep, List.map_cons, List.map_nil, maxl, List.foldl_cons, List.foldl_nil]
    omega
  · simp only [List.mem_cons, List.not_mem_nil, or_false] at hy
    rcases hy with rfl | rfl | rfl
    · exact h.small
    · exact h'.small
    · exact h''.small
theorem nice_pair {m : Nat} {a b : Ex} {i j : Nat} (p : Nat) (h : Nice m a i) (h' : Nice m b j) : Nice (m + 1) ⟨oPair, [], [a, b], p⟩ (i + j + 3) := by
  refine ⟨⟨Or.inr (Or.inr (Or.inl ⟨rfl, rfl⟩)), fun y hy => ?_⟩, ?_, ?_, ⟨by simp, by simp, fun y hy => ?_⟩⟩
  · simp only [List.mem_cons, List.not_mem_nil, or_false] at hy
    rcases hy with rfl | rfl
    · exact h.shape
    · exact h'.shape
  · have e : exText (m + 1) ⟨oPair, [], [a, b], p⟩ = tOpen ++ exText m a ++ tComma ++ exText m b ++ tShut := rfl
    rw [e]
    have := h.text
    have := h'.text
    simp only [List.length_append, tOpen, tComma, tShut, List.length_cons, List.length_nil]
    omega
  · have := h.deep
    have := h'.deep
    simp only [exDeep, List.map_cons, List.map_nil, maxl, List.foldl_cons, List.foldl_nil]
    omega
  · simp only [List.mem_cons, List.not_mem_nil, or_false] at hy
    rcases hy with rfl | rfl
    · exact h.small
    · exact h'.small
theorem nice_app {m : Nat} {a b : Ex} {i j : Nat} (p : Nat) (h : Nice m a i) (h' : Nice m b j) : Nice (m + 1) ⟨oApp, [], [a, b], p⟩ (i + j) := by
  refine ⟨⟨Or.inr (Or.inr (Or.inr (Or.inr (Or.inl ⟨rfl, rfl⟩)))), fun y hy => ?_⟩, ?_, ?_, ⟨by simp, by simp, fun y hy => ?_⟩⟩
  · simp only [List.mem_cons, List.not_mem_nil, or_false] at hy
    rcases hy with rfl | rfl
    · exact h.shape
    · exact h'.shape
  · have e : exText (m + 1) ⟨oApp, [], [a, b], p⟩ = inBr (brF a.op) (exText m a) ++ tSp ++ inBr (brA b.op) (exText m b) := rfl
    rw [e]
    have := h.text
    have := h'.text
    have := inBr_len (brF a.op) (exText m a)
    have := inBr_len (brA b.op) (exText m b)
    simp only [List.length_append, tSp, List.length_cons, List.length_nil]
    omega
  · have := h.deep
    have := h'.deep
    have := h.pos
    have := h'.pos
    simp only [exDeep, List.map_cons, List.map_nil, maxl, List.foldl_cons, List.foldl_nil]
    omega
  · simp only [List.mem_cons, List.not_mem_nil, or_false] at hy
    rcases hy with rfl | rfl
    · exact h.small
    · exact h'.small

theorem bindTo_congr {nm nm' ts ts' : Nat → List UInt8} (N : Nat) (h : ∀ j, j < N → nm j = nm' j ∧ ts j = ts' j) : bindTo nm ts N = bindTo nm' ts' N := by
  induction N with
  | zero => rfl
  | succ N ih => rw [bindTo, bindTo, ih (fun j hj => h j (by omega)), (h N (by omega)).1, (h N (by omega)).2]

/-- A let that is being read: so many tokens, without the one that says let. -/
structure Part (m : Nat) (x : Ex) (c : Nat) : Prop where
  op : x.op = kLet ∨ x.op = kRec
  len : x.kids.length = x.names.length
  nlen : x.names.length ≤ c
  kids : ∀ y, y ∈ x.kids → Shape m y ∧ exDeep m y ≤ c ∧ Small m y
  text : (bindTo (nth x.names) (kidT m x) x.names.length).length ≤ 16 * c
theorem Part.up {m : Nat} {x : Ex} {c : Nat} (h : Part m x c) : Part (m + 1) x c := by
  refine ⟨h.op, h.len, h.nlen, fun y hy => ?_, ?_⟩
  · obtain ⟨h1, h2, h3⟩ := h.kids y hy
    obtain ⟨e1, e2, e3⟩ := more_fuel m y h1
    exact ⟨e1, by rw [e3]; exact h2, more_small m y h1 h3⟩
  · rw [bindTo_congr (nm' := nth x.names) (ts' := kidT m x) _ (fun j _ => ⟨rfl, ?_⟩)]
    · exact h.text
    · unfold kidT
      cases e : x.kids[j]? with
      | none => rfl
      | some y => exact (more_fuel m y (h.kids y (List.mem_of_getElem? e)).1).2.1
theorem Part.le {m m' : Nat} {x : Ex} {c : Nat} (h : Part m x c) (hm : m ≤ m') : Part m' x c := by
  induction m' with
  | zero => rw [Nat.le_zero.1 hm] at h; exact h
  | succ k ih =>
    rcases Nat.lt_or_ge m (k + 1) with hlt | hge
    · exact (ih (by omega)).up
    · rw [show k + 1 = m from by omega]; exact h
theorem nth_old (l : List (List UInt8)) (a : List UInt8) {j : Nat} (h : j < l.length) : nth (l ++ [a]) j = nth l j := by
  rw [nth, nth, List.getElem?_append_left h]
theorem nth_new (l : List (List UInt8)) (a : List UInt8) : nth (l ++ [a]) l.length = a := by simp [nth]
theorem Part.add {m : Nat} {x b : Ex} {c d : Nat} (h : Part m x c) (nm : List UInt8) (hl : nm.length ≤ 8) (hb : Nice m b d) : Part m ⟨x.op, x.names ++ [nm], x.kids ++ [b], x.pos⟩ (c + d + 2) := by
  refine ⟨h.op, ?_, ?_, fun y hy => ?_, ?_⟩
  · show (x.kids ++ [b]).length = (x.names ++ [nm]).length
    simp [h.len]
  · show (x.names ++ [nm]).length ≤ _
    have := h.nlen
    simp only [List.length_append, List.length_cons, List.length_nil]
    omega
  · have hy' : y ∈ x.kids ++ [b] := hy
    rcases List.mem_append.1 hy' with hy' | hy'
    · obtain ⟨h1, h2, h3⟩ := h.kids y hy'
      exact ⟨h1, by omega, h3⟩
    · rw [List.mem_singleton.1 hy']
      exact ⟨hb.shape, by have := hb.deep; omega, hb.small⟩
  · show (bindTo (nth (x.names ++ [nm])) (kidT m ⟨x.op, x.names ++ [nm], x.kids ++ [b], x.pos⟩) (x.names ++ [nm]).length).length ≤ _
    rw [List.length_append, List.length_singleton, bindTo, nth_new]
    rw [bindTo_congr (nm' := nth x.names) (ts' := kidT m x) x.names.length (fun j hj => ⟨nth_old _ _ hj, ?_⟩)]
    · have e : kidT m ⟨x.op, x.names ++ [nm], x.kids ++ [b], x.pos⟩ x.names.length = exText m b := by
        simp [kidT, ← h.len]
      rw [e]
      have := h.text
      have := hb.text
      have ha : (if 0 < x.names.length then tAnd else []).length ≤ 5 := by split <;> simp [tAnd]
      simp only [List.length_append, tEq, List.length_cons, List.length_nil]
      omega
    · simp only [kidT]
      rw [List.getElem?_append_left (by rw [h.len]; exact hj)]
theorem Part.done {m : Nat} {x b : Ex} {c d : Nat} (h : Part m x c) (h0 : 0 < x.names.length) (hb : Nice m b d) (hc : c + d ≤ 1000) : Nice (m + 1) ⟨x.op, x.names, x.kids ++ [b], x.pos⟩ (c + d + 2) := by
  have hop : x.op ≠ kName ∧ x.op ≠ kNum ∧ x.op ≠ kFun ∧ x.op ≠ oPair ∧ x.op ≠ kIf ∧ x.op ≠ oApp := by
    rcases h.op with ho | ho <;> rw [ho] <;> decide
  have hall : ∀ y, y ∈ x.kids ++ [b] → Shape m y ∧ exDeep m y ≤ c + d ∧ Small m y := fun y hy => by
    rcases List.mem_append.1 hy with hy | hy
    · obtain ⟨h1, h2, h3⟩ := h.kids y hy
      exact ⟨h1, by omega, h3⟩
    · rw [List.mem_singleton.1 hy]
      exact ⟨hb.shape, by have := hb.deep; omega, hb.small⟩
  have hn := h.nlen
  refine ⟨⟨Or.inr (Or.inr (Or.inr (Or.inr (Or.inr ⟨h.op, h0, ?_⟩)))), fun y hy => (hall y hy).1⟩, ?_, ?_, ⟨?_, ?_, fun y hy => (hall y hy).2.2⟩⟩
  · show (x.kids ++ [b]).length = x.names.length + 1
    simp [h.len]
  · rw [exText_succ, exBody]
    rw [if_neg (fun e => e.elim hop.1 hop.2.1), if_neg hop.2.2.1, if_neg hop.2.2.2.1, if_neg hop.2.2.2.2.1, if_neg hop.2.2.2.2.2]
    show (letHead x.op ++ bindTo (nth x.names) (kidT m ⟨x.op, x.names, x.kids ++ [b], x.pos⟩) x.names.length ++ tIn ++ kidT m ⟨x.op, x.names, x.kids ++ [b], x.pos⟩ x.names.length).length + 8 ≤ _
    rw [bindTo_congr (nm' := nth x.names) (ts' := kidT m x) x.names.length (fun j hj => ⟨rfl, ?_⟩)]
    · have e : kidT m ⟨x.op, x.names, x.kids ++ [b], x.pos⟩ x.names.length = exText m b := by
        simp [kidT, ← h.len]
      rw [e]
      have := h.text
      have := hb.text
      have hhd : (letHead x.op).length ≤ 8 := by unfold letHead; split <;> simp [tLet, tRec]
      simp only [List.length_append, tIn, List.length_cons, List.length_nil]
      omega
    · simp only [kidT]
      rw [List.getElem?_append_left (by rw [h.len]; exact hj)]
  · have hm : maxl ((x.kids ++ [b]).map (exDeep m)) ≤ c + d := by
      have hle : ∀ (l : List Nat) (B : Nat), (∀ a, a ∈ l → a ≤ B) → maxl l ≤ B := fun l B hl => by
        induction l with
        | nil => simp [maxl]
        | cons a l ih =>
          unfold maxl
          rw [List.foldl_cons, foldl_max]
          have h1 := hl a (List.mem_cons_self ..)
          have h2 := ih (fun z hz => hl z (List.mem_cons_of_mem _ hz))
          unfold maxl at h2
          omega
      refine hle _ _ (fun a ha => ?_)
      obtain ⟨y, hy, rfl⟩ := List.mem_map.1 ha
      exact (hall y hy).2.1
    show maxl ((x.kids ++ [b]).map (exDeep m)) + 1 ≤ _
    omega
  · show (x.kids ++ [b]).length ≤ 1000000
    simp only [List.length_append, List.length_cons, List.length_nil, h.len]
    omega
  · show x.names.length ≤ 1000000
    omega
end Go.Proofs.YtcdijppegfcoaabGreatDoor
