/-
  OUR OWN TEXT. The reader of typerref, step by step on plain data: a place in the list of tokens, and the first place that is wrong (-1: none).
-/
import Derived.Test.YtcdijppegfcoaabGreatDoorLexB
namespace Go.Proofs.YtcdijppegfcoaabGreatDoor
open Go.RowKit

def kFun : List UInt8 := [102, 117, 110]
def kIf : List UInt8 := [105, 102]
def kThen : List UInt8 := [116, 104, 101, 110]
def kElse : List UInt8 := [101, 108, 115, 101]
def kLet : List UInt8 := [108, 101, 116]
def kRec : List UInt8 := [114, 101, 99]
def kAnd : List UInt8 := [97, 110, 100]
def kIn : List UInt8 := [105, 110]
def kEq : List UInt8 := [61]
def kOpen : List UInt8 := [40]
def kShut : List UInt8 := [41]
def kComma : List UInt8 := [44]
def oApp : List UInt8 := [97, 112, 112]
def oPair : List UInt8 := [112, 97, 105, 114]

/-- An expression as typerref has it. -/
structure Ex where
  op : List UInt8
  names : List (List UInt8)
  kids : List Ex
  pos : Nat

/-- Where the reader stands. -/
structure St where
  k : Nat
  bad : Int

def tk (T : List Tok) (k : Nat) : Tok := T.getD k ⟨[], [], 0⟩
def isS (T : List Tok) (s : St) (w : List UInt8) : Bool := decide (s.bad < 0) && ((tk T s.k).is == w)
def takeS (T : List Tok) (s : St) (w : List UInt8) : St := if isS T s w = true then ⟨s.k + 1, s.bad⟩ else s
def needS (T : List Tok) (s : St) (w : List UInt8) : St := if isS T s w = true then ⟨s.k + 1, s.bad⟩ else ⟨s.k, if s.bad < 0 then ((tk T s.k).pos : Int) else s.bad⟩

/-- The reader in memory: its three cells, the row of tokens behind it. -/
structure RS (w : World) (rb g cap : Nat) (T : List Tok) (s : St) : Prop where
  r : w.heap[rb]? = some (.cells #[.slice (some ⟨g, 0, none⟩) T.length cap, .int .i64 s.k, .int .i64 s.bad] 99003 (0, 0))
  t : ∃ cur : Array Value, w.heap[g]? = some (.cells cur 99002 (0, 0)) ∧ cur.toList.take (T.length * 3) = rowCells T
  len : T.length ≤ 400
  pos : ∀ k, (tk T k).pos ≤ 400
  kle : s.k ≤ 400
  blo : -1 ≤ s.bad
  bhi : s.bad ≤ 400

theorem RS.ne {w : World} {rb g cap : Nat} {T : List Tok} {s : St} (h : RS w rb g cap T s) : g ≠ rb := by
  intro e
  obtain ⟨cur, h1, _⟩ := h.t
  rw [e, h.r] at h1
  simp at h1
theorem row_get (T : List Tok) (k : Nat) (h : k < T.length) : (rowCells T)[k * 3]? = some (.string (B (tk T k).is)) ∧ (rowCells T)[k * 3 + 1]? = some (.string (B (tk T k).s)) ∧ (rowCells T)[k * 3 + 2]? = some (.int .i64 ((tk T k).pos : Int)) := by
  induction T generalizing k with
  | nil => simp at h
  | cons t T ih =>
    have e : rowCells (t :: T) = tokCells t ++ rowCells T := by simp [rowCells]
    rw [e]
    cases k with
    | zero => simp [tokCells, tk]
    | succ k =>
      have h' := ih k (by simpa using h)
      have ht : tk (t :: T) (k + 1) = tk T k := by simp [tk]
      rw [ht]
      have el : (tokCells t).length = 3 := rfl
      refine ⟨?_, ?_, ?_⟩
      · rw [List.getElem?_append_right (by rw [el]; omega), el, show (k + 1) * 3 - 3 = k * 3 from by omega]; exact h'.1
      · rw [List.getElem?_append_right (by rw [el]; omega), el, show (k + 1) * 3 + 1 - 3 = k * 3 + 1 from by omega]; exact h'.2.1
      · rw [List.getElem?_append_right (by rw [el]; omega), el, show (k + 1) * 3 + 2 - 3 = k * 3 + 2 from by omega]; exact h'.2.2
theorem RS.cells {w : World} {rb g cap : Nat} {T : List Tok} {s : St} (h : RS w rb g cap T s) (k : Nat) (hk : k < T.length) :
    w.cell? ⟨g, k * 3, none⟩ = some (.string (B (tk T k).is)) ∧ w.cell? ⟨g, k * 3 + 1, none⟩ = some (.string (B (tk T k).s)) ∧ w.cell? ⟨g, k * 3 + 2, none⟩ = some (.int .i64 ((tk T k).pos : Int)) := by
  obtain ⟨cur, h1, h2⟩ := h.t
  have hg := row_get T k hk
  rw [← h2] at hg
  simp only [List.getElem?_take] at hg
  rw [if_pos (by omega), if_pos (by omega), if_pos (by omega)] at hg
  simp only [World.cell?, h1]
  simpa using hg
/-- The reader's row and tokens stand in a world that keeps every block but the reader's. -/
theorem RS.keep {w w' : World} {rb g cap : Nat} {T : List Tok} {s s' : St} (h : RS w rb g cap T s) (hg : w'.heap[g]? = w.heap[g]?)
    (hr : w'.heap[rb]? = some (.cells #[.slice (some ⟨g, 0, none⟩) T.length cap, .int .i64 s'.k, .int .i64 s'.bad] 99003 (0, 0))) (h1 : s'.k ≤ 400) (h2 : -1 ≤ s'.bad) (h3 : s'.bad ≤ 400) : RS w' rb g cap T s' := by
  obtain ⟨cur, e1, e2⟩ := h.t
  exact ⟨hr, ⟨cur, by rw [hg]; exact e1, e2⟩, h.len, h.pos, h1, h2, h3⟩
end Go.Proofs.YtcdijppegfcoaabGreatDoor
