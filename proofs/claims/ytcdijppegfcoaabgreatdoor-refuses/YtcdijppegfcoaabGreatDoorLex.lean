/-
  OUR OWN TEXT. Plain lists: runs of bytes, tokens. It imports nothing of the program.
-/
import Derived.WalkKit
namespace Go.Proofs.YtcdijppegfcoaabGreatDoor
open Go.RowKit

theorem hid {p : Prop} (h : p) : Hid p := h

def isB (c : UInt8) : Bool := c == 32 || c == 10
def low (c : UInt8) : Bool := decide (97 ≤ c.toNat ∧ c.toNat ≤ 122)
def fig (c : UInt8) : Bool := decide (48 ≤ c.toNat ∧ c.toNat ≤ 57)
def lowfig (c : UInt8) : Bool := low c || fig c

/-- How many bytes at the head of a list are of a sort. -/
def run (p : UInt8 → Bool) (l : List UInt8) : Nat := (l.takeWhile p).length
theorem run_le (p : UInt8 → Bool) : ∀ l : List UInt8, run p l ≤ l.length
  | [] => by simp [run]
  | c :: l => by
    have := run_le p l
    unfold run at this ⊢
    by_cases h : p c = true <;> simp [h] <;> omega
theorem run_in (p : UInt8 → Bool) : ∀ (l : List UInt8) (m : Nat), m < run p l → ∃ c, l[m]? = some c ∧ p c = true
  | [], m, h => by simp [run] at h
  | c :: l, m, h => by
    unfold run at h
    by_cases hc : p c = true
    · simp [hc] at h
      cases m with
      | zero => exact ⟨c, rfl, hc⟩
      | succ m => exact run_in p l m (by unfold run; omega)
    · simp [hc] at h
theorem run_out (p : UInt8 → Bool) : ∀ (l : List UInt8) (c : UInt8), l[run p l]? = some c → p c = false
  | [], c, h => by simp [run] at h
  | d :: l, c, h => by
    by_cases hd : p d = true
    · have e : run p (d :: l) = run p l + 1 := by simp [run, hd]
      rw [e, List.getElem?_cons_succ] at h
      exact run_out p l c h
    · have e : run p (d :: l) = 0 := by simp [run, hd]
      rw [e] at h
      simp at h
      subst h
      simpa using hd

/-- The place of the first byte from i on that is not of a sort. -/
def upto (p : UInt8 → Bool) (l : List UInt8) (i : Nat) : Nat := i + run p (l.drop i)
theorem upto_le (p : UInt8 → Bool) (l : List UInt8) (i : Nat) (h : i ≤ l.length) : i ≤ upto p l i ∧ upto p l i ≤ l.length := by
  have := run_le p (l.drop i)
  simp only [List.length_drop] at this
  unfold upto
  omega
theorem upto_in (p : UInt8 → Bool) (l : List UInt8) (i k : Nat) (h1 : i ≤ k) (h2 : k < upto p l i) : ∃ c, l[k]? = some c ∧ p c = true := by
  unfold upto at h2
  obtain ⟨c, hc, hp⟩ := run_in p (l.drop i) (k - i) (by omega)
  refine ⟨c, ?_, hp⟩
  rw [List.getElem?_drop] at hc
  rw [show i + (k - i) = k from by omega] at hc
  exact hc
theorem upto_out (p : UInt8 → Bool) (l : List UInt8) (i : Nat) (c : UInt8) (h : l[upto p l i]? = some c) : p c = false := by
  refine run_out p (l.drop i) c ?_
  rw [List.getElem?_drop]
  exact h

/-- A token: what it is ("name", "num", "end", "none", or itself); its text; where it stands. -/
structure Tok where
  is : List UInt8
  s : List UInt8
  pos : Nat

def kName : List UInt8 := [110, 97, 109, 101]
def kNum : List UInt8 := [110, 117, 109]
def kEnd : List UInt8 := [101, 110, 100]
def kNone : List UInt8 := [110, 111, 110, 101]
def kArrow : List UInt8 := [45, 62]
def signs : List UInt8 := [61, 40, 41, 44, 91, 93]

/-- The kind of what stands at i (behind the blanks), ahead of bounds and keywords; where it ends. -/
def raw (l : List UInt8) (i : Nat) : List UInt8 × Nat :=
  match l[i]? with
  | none => (kEnd, i)
  | some c =>
    if low c = true then (kName, upto lowfig l i)
    else if fig c = true then (kNum, upto fig l i)
    else if c = 45 ∧ l[i + 1]? = some 62 then (kArrow, i + 2)
    else if c ∈ signs then ([c], i + 1)
    else (kNone, i)

/-- A text between two places. -/
def cut (l : List UInt8) (i k : Nat) : List UInt8 := (l.take k).drop i

/-- The token at i, behind the blanks; and where it ends. -/
def tokAt (kw : List (List UInt8)) (l : List UInt8) (i : Nat) : Tok × Nat :=
  let r := raw l i
  let b := if (r.1 = kName ∨ r.1 = kNum) ∧ r.2 - i > 8 then kNone else r.1
  let t := if b = kName ∧ cut l i r.2 ∈ kw then cut l i r.2 else b
  (⟨t, cut l i r.2, i⟩, r.2)

/-- The tokens from i on, up to the first that is none, or the end. -/
def toks (kw : List (List UInt8)) (l : List UInt8) : Nat → Nat → List Tok
  | 0, _ => []
  | f + 1, i =>
    let t := tokAt kw l (upto isB l i)
    if t.1.is = kNone ∨ t.1.is = kEnd then [t.1] else t.1 :: toks kw l f t.2

/-- A Go string of bytes. -/
def B (l : List UInt8) : ByteArray := ⟨l.toArray⟩
def tokCells (t : Tok) : List Value := [.string (B t.is), .string (B t.s), .int .i64 t.pos]
def rowCells (ts : List Tok) : List Value := ts.flatMap tokCells
theorem rowCells_snoc (ts : List Tok) (t : Tok) : rowCells (ts ++ [t]) = rowCells ts ++ tokCells t := by simp [rowCells]
theorem rowCells_len (ts : List Tok) : (rowCells ts).length = ts.length * 3 := by
  induction ts with
  | nil => rfl
  | cons t ts ih => simp [rowCells, tokCells] at ih ⊢; omega
end Go.Proofs.YtcdijppegfcoaabGreatDoor
