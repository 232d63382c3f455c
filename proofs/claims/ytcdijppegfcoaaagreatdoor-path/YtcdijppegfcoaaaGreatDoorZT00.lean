import Derived.WalkKit
import Derived.Test.YtcdijppegfcoaaaGreatDoorChecked
import Derived.WalkSpells
import Derived.Outline
import Derived.Deep.QuietTactic
import Derived.BigQuiet
import Derived.Deep.LoopGhost
import Derived.Deep.CutBlock
/-
  OUR OWN TEXT. Plain lists: runs of bytes, tokens. It imports nothing of the program.
-/
namespace Go.Proofs.YtcdijppegfcoaaaGreatDoor
open Go.RowKit
theorem hid {p : Prop} (h : p) : Hid p := h

def isB (c : UInt8) : Bool := c == 32 || c == 10
def low (c : UInt8) : Bool := decide (97 ≤ c.toNat ∧ c.toNat ≤ 122)
def fig (c : UInt8) : Bool := decide (48 ≤ c.toNat ∧ c.toNat ≤ 57)
def lowfig (c : UInt8) : Bool := low c || fig c

/-- How many bytes at the head of a list are of a sort. -/
def run (p : UInt8 → Bool) (l : List UInt8) : Nat := (l.takeWhile p).length
theorem run_le (p : UInt8 → Bool) : ∀ l : List UInt8, run p l ≤ l.length
  | [] => by simp [run]
  | c :: l => by
    have := run_le p l
    unfold run at this ⊢
    by_cases h : p c = true <;> simp [h] <;> omega
theorem run_in (p : UInt8 → Bool) : ∀ (l : List UInt8) (m : Nat), m < run p l → ∃ c, l[m]? = some c ∧ p c = true
  | [], m, h => by simp [run] at h
  | c :: l, m, h => by
    unfold run at h
    by_cases hc : p c = true
    · simp [hc] at h
      cases m with
      | zero => exact ⟨c, rfl, hc⟩
      | succ m => exact run_in p l m (by unfold run; omega)
    · simp [hc] at h
theorem run_out (p : UInt8 → Bool) : ∀ (l : List UInt8) (c : UInt8), l[run p l]? = some c → p c = false
  | [], c, h => by simp [run] at h
  | d :: l, c, h => by
    by_cases hd : p d = true
    · have e : run p (d :: l) = run p l + 1 := by simp [run, hd]
      rw [e, List.getElem?_cons_succ] at h
      exact run_out p l c h
    · have e : run p (d :: l) = 0 := by simp [run, hd]
      rw [e] at h
      simp at h
      subst h
      simpa using hd

/-- The place of the first byte from i on that is not of a sort. -/
def upto (p : UInt8 → Bool) (l : List UInt8) (i : Nat) : Nat := i + run p (l.drop i)
theorem upto_le (p : UInt8 → Bool) (l : List UInt8) (i : Nat) (h : i ≤ l.length) : i ≤ upto p l i ∧ upto p l i ≤ l.length := by
  have := run_le p (l.drop i)
  simp only [List.length_drop] at this
  unfold upto
  omega
theorem upto_in (p : UInt8 → Bool) (l : List UInt8) (i k : Nat) (h1 : i ≤ k) (h2 : k < upto p l i) : ∃ c, l[k]? = some c ∧ p c = true := by
  unfold upto at h2
  obtain ⟨c, hc, hp⟩ := run_in p (l.drop i) (k - i) (by omega)
  refine ⟨c, ?_, hp⟩
  rw [List.getElem?_drop] at hc
  rw [show i + (k - i) = k from by omega] at hc
  exact hc
theorem upto_out (p : UInt8 → Bool) (l : List UInt8) (i : Nat) (c : UInt8) (h : l[upto p l i]? = some c) : p c = false := by
  refine run_out p (l.drop i) c ?_
  rw [List.getElem?_drop]
  exact h

/-- A token: what it is ("name", "num", "end", "none", or itself); its text; where it stands. -/
structure Tok where
  is : List UInt8
  s : List UInt8
  pos : Nat

def kName : List UInt8 := [110, 97, 109, 101]
def kNum : List UInt8 := [110, 117, 109]
def kEnd : List UInt8 := [101, 110, 100]
def kNone : List UInt8 := [110, 111, 110, 101]
def kArrow : List UInt8 := [45, 62]
def signs : List UInt8 := [61, 40, 41, 44, 91, 93]

/-- The kind of what stands at i (behind the blanks), ahead of bounds and keywords; where it ends. -/
def raw (l : List UInt8) (i : Nat) : List UInt8 × Nat :=
  match l[i]? with
  | none => (kEnd, i)
  | some c =>
    if low c = true then (kName, upto lowfig l i)
    else if fig c = true then (kNum, upto fig l i)
    else if c = 45 ∧ l[i + 1]? = some 62 then (kArrow, i + 2)
    else if c ∈ signs then ([c], i + 1)
    else (kNone, i)

/-- A text between two places. -/
def cut (l : List UInt8) (i k : Nat) : List UInt8 := (l.take k).drop i

/-- The token at i, behind the blanks; and where it ends. -/
def tokAt (kw : List (List UInt8)) (l : List UInt8) (i : Nat) : Tok × Nat :=
  let r := raw l i
  let b := if (r.1 = kName ∨ r.1 = kNum) ∧ r.2 - i > 8 then kNone else r.1
  let t := if b = kName ∧ cut l i r.2 ∈ kw then cut l i r.2 else b
  (⟨t, cut l i r.2, i⟩, r.2)

/-- The tokens from i on, up to the first that is none, or the end. -/
def toks (kw : List (List UInt8)) (l : List UInt8) : Nat → Nat → List Tok
  | 0, _ => []
  | f + 1, i =>
    let t := tokAt kw l (upto isB l i)
    if t.1.is = kNone ∨ t.1.is = kEnd then [t.1] else t.1 :: toks kw l f t.2

/-- A Go string of bytes. -/
def B (l : List UInt8) : ByteArray := ⟨l.toArray⟩
def tokCells (t : Tok) : List Value := [.string (B t.is), .string (B t.s), .int .i64 t.pos]
def rowCells (ts : List Tok) : List Value := ts.flatMap tokCells
end Go.Proofs.YtcdijppegfcoaaaGreatDoor

/-
  OUR OWN TEXT. Texts in memory: bytes, cuts, the blocks that typerref.tokens makes.
-/
namespace Go.Proofs.YtcdijppegfcoaaaGreatDoor
open Go.RowKit
theorem byteAt (s : ByteArray) (k : Nat) (h : k < s.size) : s.data.toList[k]? = some (s[k]'h) := by
  rw [Array.getElem?_toList]
  exact Array.getElem?_eq_getElem h

theorem raw_end (s : ByteArray) (J : Nat) (h : ¬ J < s.size) : raw s.data.toList J = (kEnd, J) := by
  unfold raw
  rw [List.getElem?_eq_none (by rw [Array.length_toList]; exact Nat.le_of_not_lt h)]
theorem raw_name (s : ByteArray) (J : Nat) (h : J < s.size) (h1 : low s[J] = true) : raw s.data.toList J = (kName, upto lowfig s.data.toList J) := by
  unfold raw
  rw [byteAt s J h]
  simp only [h1, if_true]
theorem raw_num (s : ByteArray) (J : Nat) (h : J < s.size) (h1 : low s[J] = false) (h2 : fig s[J] = true) : raw s.data.toList J = (kNum, upto fig s.data.toList J) := by
  unfold raw
  rw [byteAt s J h]
  simp only [h1, h2, if_true, Bool.false_eq_true, if_false]
theorem raw_arrow (s : ByteArray) (J : Nat) (h : J < s.size) (h' : J + 1 < s.size) (h1 : low s[J] = false) (h2 : fig s[J] = false) (h3 : s[J] = 45) (h4 : s[J + 1] = 62) : raw s.data.toList J = (kArrow, J + 2) := by
  unfold raw
  rw [byteAt s J h]
  simp only [h1, h2, Bool.false_eq_true, if_false]
  rw [if_pos ⟨h3, by rw [byteAt s (J + 1) h', h4]⟩]
theorem raw_other (s : ByteArray) (J : Nat) (h : J < s.size) (h1 : low s[J] = false) (h2 : fig s[J] = false) (h3 : s[J] = 45 → ∀ h' : J + 1 < s.size, s[J + 1] ≠ 62) :
    raw s.data.toList J = if s[J] ∈ signs then ([s[J]], J + 1) else (kNone, J) := by
  unfold raw
  rw [byteAt s J h]
  simp only [h1, h2, Bool.false_eq_true, if_false]
  rw [if_neg]
  rintro ⟨e1, e2⟩
  have hl : J + 1 < s.size := by
    rcases Nat.lt_or_ge (J + 1) s.size with hlt | hge
    · exact hlt
    · rw [List.getElem?_eq_none (by rw [Array.length_toList]; exact hge)] at e2
      cases e2
  rw [byteAt s (J + 1) hl] at e2
  exact h3 e1 hl (Option.some.inj e2)
theorem raw_le (s : ByteArray) (J : Nat) (h : J ≤ s.size) : J ≤ (raw s.data.toList J).2 ∧ (raw s.data.toList J).2 ≤ s.size := by
  have hl : s.data.toList.length = s.size := by rw [Array.length_toList]; rfl
  have h1 := upto_le lowfig s.data.toList J (by omega)
  have h2 := upto_le fig s.data.toList J (by omega)
  unfold raw
  cases hc : s.data.toList[J]? with
  | none => exact ⟨Nat.le_refl _, h⟩
  | some c =>
    have hlt : J < s.size := by
      rcases Nat.lt_or_ge J s.size with h' | h'
      · exact h'
      · rw [List.getElem?_eq_none (by omega)] at hc
        cases hc
    dsimp only
    split
    · dsimp only; omega
    split
    · dsimp only; omega
    split
    · rename_i h3
      have : J + 1 < s.size := by
        rcases Nat.lt_or_ge (J + 1) s.size with h' | h'
        · exact h'
        · rw [List.getElem?_eq_none (by omega)] at h3
          cases h3.2
      dsimp only; omega
    split
    · dsimp only; omega
    · dsimp only; omega
theorem heap_alloc_at (w : World) (o : Obj) (n : Nat) (h : n = w.heap.size) : (w.alloc o).heap[n]? = some o := by
  subst h
  exact heap_alloc_new _ _
theorem ext_cut (s : ByteArray) (i k : Nat) : s.extract i k = B (cut s.data.toList i k) := by
  apply ByteArray.ext
  rw [ByteArray.data_extract]
  apply Array.ext'
  simp only [B, cut, Array.toList_extract, List.extract_eq_drop_take', List.toList_toArray]
  try rw [List.drop_take]
theorem toList_B (l : List UInt8) : (B l).toList = l := by
  rw [ByteArray.toList_eq]; rfl
theorem own_lt {w : World} {base e size n k : Nat} {v : Value} {xs : List Value} (h : w.ownsRow base e size v n xs) (hk : some k = v.ownBlock) : base ≤ k ∧ k < w.heap.size := by
  obtain ⟨_, h2⟩ := h
  rcases h2 with ⟨rfl, _⟩ | ⟨g, cap, cur, rfl, hg, hh, r⟩
  · cases hk
  · simp only [Value.ownBlock, Option.some.injEq] at hk
    subst hk
    exact ⟨hg, lt_of_block hh⟩
theorem toks_step (kw : List (List UInt8)) (l : List UInt8) (f k J : Nat) (hJ : J = upto isB l k) {t : Tok} {r2 : Nat} (ht : tokAt kw l J = (t, r2)) :
    toks kw l (f + 1) k = if t.is = kNone ∨ t.is = kEnd then [t] else t :: toks kw l f r2 := by
  rw [toks, ← hJ, ht]
theorem raw_moves (s : ByteArray) (J : Nat) {r1 : List UInt8} {r2 : Nat} (hr : (r1, r2) = raw s.data.toList J) (h1 : r1 ≠ kNone) (h2 : r1 ≠ kEnd) : J < r2 := by
  have hl := upto_le
  unfold raw at hr
  cases hc : s.data.toList[J]? with
  | none =>
    rw [hc] at hr
    simp only [Prod.mk.injEq] at hr
    exact absurd hr.1 h2
  | some c =>
    rw [hc] at hr
    have hJl : J < s.data.toList.length := by
      rcases Nat.lt_or_ge J s.data.toList.length with h | h
      · exact h
      · rw [List.getElem?_eq_none h] at hc; cases hc
    have step : ∀ p : UInt8 → Bool, p c = true → J < upto p s.data.toList J := fun p hp => by
      rcases Nat.lt_or_ge J (upto p s.data.toList J) with h | h
      · exact h
      · have := upto_le p s.data.toList J (Nat.le_of_lt hJl)
        have e : upto p s.data.toList J = J := by omega
        have := upto_out p s.data.toList J c (by rw [e]; exact hc)
        rw [hp] at this; cases this
    dsimp only at hr
    split at hr
    · rename_i h
      simp only [Prod.mk.injEq] at hr
      rw [hr.2]
      exact step lowfig (by simp [lowfig, h])
    split at hr
    · rename_i h
      simp only [Prod.mk.injEq] at hr
      rw [hr.2]
      exact step fig h
    split at hr
    · simp only [Prod.mk.injEq] at hr
      omega
    split at hr
    · simp only [Prod.mk.injEq] at hr
      omega
    · simp only [Prod.mk.injEq] at hr
      exact absurd hr.1 h1

theorem toks_len (kw : List (List UInt8)) (l : List UInt8) : ∀ f i, (toks kw l f i).length ≤ f
  | 0, i => by simp [toks]
  | f + 1, i => by
    rw [toks]
    split
    · simp
    · have := toks_len kw l f (tokAt kw l (upto isB l i)).2
      simp only [List.length_cons]
      omega
end Go.Proofs.YtcdijppegfcoaaaGreatDoor

/-
  OUR OWN TEXT. The reader of typerref, step by step on plain data: a place in the list of tokens, and the first place that is wrong (-1: none).
-/
namespace Go.Proofs.YtcdijppegfcoaaaGreatDoor
open Go.RowKit
def kFun : List UInt8 := [102, 117, 110]
def kIf : List UInt8 := [105, 102]
def kThen : List UInt8 := [116, 104, 101, 110]
def kElse : List UInt8 := [101, 108, 115, 101]
def kLet : List UInt8 := [108, 101, 116]
def kRec : List UInt8 := [114, 101, 99]
def kAnd : List UInt8 := [97, 110, 100]
def kIn : List UInt8 := [105, 110]
def kEq : List UInt8 := [61]
def kOpen : List UInt8 := [40]
def kShut : List UInt8 := [41]
def kComma : List UInt8 := [44]
def oApp : List UInt8 := [97, 112, 112]
def oPair : List UInt8 := [112, 97, 105, 114]

/-- An expression as typerref has it. -/
structure Ex where
  op : List UInt8
  names : List (List UInt8)
  kids : List Ex
  pos : Nat

/-- Where the reader stands. -/
structure St where
  k : Nat
  bad : Int

def tk (T : List Tok) (k : Nat) : Tok := T.getD k ⟨[], [], 0⟩
def isS (T : List Tok) (s : St) (w : List UInt8) : Bool := decide (s.bad < 0) && ((tk T s.k).is == w)
def takeS (T : List Tok) (s : St) (w : List UInt8) : St := if isS T s w = true then ⟨s.k + 1, s.bad⟩ else s
def needS (T : List Tok) (s : St) (w : List UInt8) : St := if isS T s w = true then ⟨s.k + 1, s.bad⟩ else ⟨s.k, if s.bad < 0 then ((tk T s.k).pos : Int) else s.bad⟩

/-- The reader in memory: its three cells, the row of tokens behind it. -/
structure RS (w : World) (rb g cap : Nat) (T : List Tok) (s : St) : Prop where
  r : w.heap[rb]? = some (.cells #[.slice (some ⟨g, 0, none⟩) T.length cap, .int .i64 s.k, .int .i64 s.bad] 80 (0, 0))
  t : ∃ cur : Array Value, w.heap[g]? = some (.cells cur 151 (0, 0)) ∧ cur.toList.take (T.length * 3) = rowCells T
  len : T.length ≤ 400
  pos : ∀ k, (tk T k).pos ≤ 400
  kle : s.k ≤ 400
  blo : -1 ≤ s.bad
  bhi : s.bad ≤ 400

theorem RS.ne {w : World} {rb g cap : Nat} {T : List Tok} {s : St} (h : RS w rb g cap T s) : g ≠ rb := by
  intro e
  obtain ⟨cur, h1, _⟩ := h.t
  rw [e, h.r] at h1
  simp at h1
theorem row_get (T : List Tok) (k : Nat) (h : k < T.length) : (rowCells T)[k * 3]? = some (.string (B (tk T k).is)) ∧ (rowCells T)[k * 3 + 1]? = some (.string (B (tk T k).s)) ∧ (rowCells T)[k * 3 + 2]? = some (.int .i64 ((tk T k).pos : Int)) := by
  induction T generalizing k with
  | nil => simp at h
  | cons t T ih =>
    have e : rowCells (t :: T) = tokCells t ++ rowCells T := by simp [rowCells]
    rw [e]
    cases k with
    | zero => simp [tokCells, tk]
    | succ k =>
      have h' := ih k (by simpa using h)
      have ht : tk (t :: T) (k + 1) = tk T k := by simp [tk]
      rw [ht]
      have el : (tokCells t).length = 3 := rfl
      refine ⟨?_, ?_, ?_⟩
      · rw [List.getElem?_append_right (by rw [el]; omega), el, show (k + 1) * 3 - 3 = k * 3 from by omega]; exact h'.1
      · rw [List.getElem?_append_right (by rw [el]; omega), el, show (k + 1) * 3 + 1 - 3 = k * 3 + 1 from by omega]; exact h'.2.1
      · rw [List.getElem?_append_right (by rw [el]; omega), el, show (k + 1) * 3 + 2 - 3 = k * 3 + 2 from by omega]; exact h'.2.2
theorem RS.cells {w : World} {rb g cap : Nat} {T : List Tok} {s : St} (h : RS w rb g cap T s) (k : Nat) (hk : k < T.length) :
    w.cell? ⟨g, k * 3, none⟩ = some (.string (B (tk T k).is)) ∧ w.cell? ⟨g, k * 3 + 1, none⟩ = some (.string (B (tk T k).s)) ∧ w.cell? ⟨g, k * 3 + 2, none⟩ = some (.int .i64 ((tk T k).pos : Int)) := by
  obtain ⟨cur, h1, h2⟩ := h.t
  have hg := row_get T k hk
  rw [← h2] at hg
  simp only [List.getElem?_take] at hg
  rw [if_pos (by omega), if_pos (by omega), if_pos (by omega)] at hg
  simp only [World.cell?, h1]
  simpa using hg
end Go.Proofs.YtcdijppegfcoaaaGreatDoor

/-
  OUR OWN TEXT. The program's tokens on plain lists, held against those of typerref. It speaks of no function of the program.
-/
namespace Go.Proofs.YtcdijppegfcoaaaGreatDoor
open Go.RowKit
/-- The kind that the program gives to what stands at J (behind the blanks): 0 the end, 1 none, 2 a word, 3 a number, 4 a sign. -/
def nxK (l : List UInt8) (J : Nat) : Nat :=
  if (raw l J).1 = kEnd then 0
  else if (raw l J).1 = kName then (if (raw l J).2 - J > 8 then 1 else 2)
  else if (raw l J).1 = kNum then (if (raw l J).2 - J > 8 then 1 else 3)
  else if (raw l J).1 = kNone then 1 else 4
def nxT (l : List UInt8) (J : Nat) : List UInt8 := if nxK l J < 2 then [] else cut l J (raw l J).2

theorem cut_size (l : List UInt8) (J K : Nat) (h1 : J ≤ K) (h2 : K ≤ l.length) : (cut l J K).length = K - J := by
  unfold cut; simp; omega
theorem cut_head (l : List UInt8) (J K : Nat) (h1 : J < K) (h2 : K ≤ l.length) (c : UInt8) (hc : l[J]? = some c) : ∃ r, cut l J K = c :: r := by
  unfold cut
  refine ⟨((l.take K).drop (J + 1)), ?_⟩
  rw [List.drop_eq_getElem_cons (by simp; omega)]
  congr 1
  have hJ : J < l.length := by omega
  rw [List.getElem?_eq_getElem hJ] at hc
  simpa using hc

theorem low_fig (c : UInt8) (h : low c = true) : fig c = false := by
  unfold low fig at *
  simp at h ⊢
  omega
theorem run_pos (p : UInt8 → Bool) (c : UInt8) (l : List UInt8) (h : p c = true) : 0 < run p (c :: l) := by
  simp [run, h]
theorem upto_pos (p : UInt8 → Bool) (l : List UInt8) (J : Nat) (c : UInt8) (hc : l[J]? = some c) (h : p c = true) : J < upto p l J := by
  unfold upto
  have hJ : J < l.length := by
    rcases Nat.lt_or_ge J l.length with h' | h'
    · exact h'
    · rw [List.getElem?_eq_none h'] at hc; cases hc
  have e : l.drop J = c :: l.drop (J + 1) := by
    rw [List.drop_eq_getElem_cons hJ]
    congr 1
    rw [List.getElem?_eq_getElem hJ] at hc
    simpa using hc
  rw [e]
  have := run_pos p c (l.drop (J + 1)) h
  omega

theorem raw_cases (l : List UInt8) (J : Nat) (h : J ≤ l.length) :
    (raw l J = (kEnd, J) ∧ J = l.length) ∨
    (∃ c r K, raw l J = (kName, K) ∧ J < K ∧ K ≤ l.length ∧ cut l J K = c :: r ∧ low c = true) ∨
    (∃ c r K, raw l J = (kNum, K) ∧ J < K ∧ K ≤ l.length ∧ cut l J K = c :: r ∧ fig c = true) ∨
    (raw l J = (kArrow, J + 2) ∧ J + 2 ≤ l.length ∧ cut l J (J + 2) = kArrow) ∨
    (∃ c, c ∈ signs ∧ raw l J = ([c], J + 1) ∧ J + 1 ≤ l.length ∧ cut l J (J + 1) = [c]) ∨
    (raw l J = (kNone, J) ∧ J < l.length) := by
  cases hc : l[J]? with
  | none =>
    have : l.length ≤ J := by simpa using hc
    exact Or.inl ⟨by simp [raw, hc], by omega⟩
  | some c =>
    have hJ : J < l.length := by
      rcases Nat.lt_or_ge J l.length with h' | h'
      · exact h'
      · rw [List.getElem?_eq_none h'] at hc; cases hc
    by_cases h1 : low c = true
    · have hp := upto_pos lowfig l J c hc (by simp [lowfig, h1])
      have hl := (upto_le lowfig l J h).2
      obtain ⟨r, hr⟩ := cut_head l J _ hp hl c hc
      exact Or.inr (Or.inl ⟨c, r, _, by simp [raw, hc, h1], hp, hl, hr, h1⟩)
    by_cases h2 : fig c = true
    · have hp := upto_pos fig l J c hc h2
      have hl := (upto_le fig l J h).2
      obtain ⟨r, hr⟩ := cut_head l J _ hp hl c hc
      exact Or.inr (Or.inr (Or.inl ⟨c, r, _, by simp [raw, hc, h1, h2], hp, hl, hr, h2⟩))
    by_cases h3 : c = 45 ∧ l[J + 1]? = some 62
    · have hJ2 : J + 1 < l.length := by
        rcases Nat.lt_or_ge (J + 1) l.length with h' | h'
        · exact h'
        · rw [List.getElem?_eq_none h'] at h3; cases h3.2
      refine Or.inr (Or.inr (Or.inr (Or.inl ⟨by unfold raw; rw [hc]; simp only; rw [if_neg h1, if_neg h2, if_pos h3], by omega, ?_⟩)))
      obtain ⟨h31, h32⟩ := h3
      subst h31
      unfold cut kArrow
      rw [List.getElem?_eq_getElem hJ] at hc
      rw [List.getElem?_eq_getElem hJ2] at h32
      rw [List.drop_eq_getElem_cons (by simp; omega), List.drop_eq_getElem_cons (by simp; omega)]
      simp at hc h32
      simp [hc, h32]
    by_cases h4 : c ∈ signs
    · obtain ⟨r, hr⟩ := cut_head l J (J + 1) (by omega) hJ c hc
      have hl := cut_size l J (J + 1) (by omega) hJ
      rw [hr] at hl
      have : r = [] := by
        cases r with
        | nil => rfl
        | cons a r => simp at hl
      exact Or.inr (Or.inr (Or.inr (Or.inr (Or.inl ⟨c, h4, by simp [raw, hc, h1, h2, h3, h4], hJ, by rw [hr, this]⟩))))
    · exact Or.inr (Or.inr (Or.inr (Or.inr (Or.inr ⟨by simp [raw, hc, h1, h2, h3, h4], hJ⟩))))

/-- Keywords that can be told from all else. -/
def KwOK (kw : List (List UInt8)) : Prop := ∀ x, x ∈ kw → ∃ c r, x = c :: r ∧ low c = true ∧ x.length ≤ 8 ∧ x ≠ kName ∧ x ≠ kNum ∧ x ≠ kEnd ∧ x ≠ kNone

def sgns : List (List UInt8) := [[45, 62], [61], [40], [41], [44], [91], [93]]
theorem sgn_head : ∀ x, x ∈ sgns → ∃ c r, x = c :: r ∧ low c = false ∧ fig c = false := by
  intro x hx
  simp only [sgns, List.mem_cons, List.not_mem_nil, or_false] at hx
  rcases hx with rfl | rfl | rfl | rfl | rfl | rfl | rfl <;> exact ⟨_, _, rfl, by decide, by decide⟩
theorem sgn_mem : ∀ c, c ∈ signs → [c] ∈ sgns ∧ low c = false ∧ fig c = false ∧ [c] ≠ kEnd ∧ [c] ≠ kName ∧ [c] ≠ kNum ∧ [c] ≠ kNone ∧ [c] ≠ kArrow := by decide
theorem sgn_ne : ∀ x, x ∈ sgns → x ≠ kEnd ∧ x ≠ kName ∧ x ≠ kNum ∧ x ≠ kNone := by decide

/-- All that the two readers ask of a token. -/
structure Asked (kw : List (List UInt8)) (l : List UInt8) (J : Nat) : Prop where
  pos : (tokAt kw l J).1.pos = J
  theEnd : nxK l J = 0 ↔ (tokAt kw l J).1.is = kEnd
  num : nxK l J = 3 ↔ (tokAt kw l J).1.is = kNum
  name : nxK l J = 2 ∧ nxT l J ∉ kw ↔ (tokAt kw l J).1.is = kName
  word : ∀ x, x ∈ kw → (nxT l J = x ↔ (tokAt kw l J).1.is = x)
  sign : ∀ x, x ∈ sgns → (nxT l J = x ↔ (tokAt kw l J).1.is = x)
  real : (tokAt kw l J).1.is ≠ kNone → (tokAt kw l J).1.is ≠ kEnd → nxT l J = (tokAt kw l J).1.s ∧ (tokAt kw l J).2 = J + (nxT l J).length ∧ J < (tokAt kw l J).2 ∧ (tokAt kw l J).2 ≤ l.length
  small : nxK l J ≤ 4
  short : (nxT l J).length ≤ 8
  isWord : nxK l J = 2 → ∃ c r, nxT l J = c :: r ∧ low c = true
  notWord : nxK l J ≠ 2 → ∀ x, nxT l J = x → (∀ c r, x = c :: r → low c = false)

theorem asked (kw : List (List UInt8)) (hkw : KwOK kw) (l : List UInt8) (J : Nat) (h : J ≤ l.length) : Asked kw l J := by
  rcases raw_cases l J h with ⟨e, _⟩ | ⟨c, r, K, e, h1, h2, h3, h4⟩ | ⟨c, r, K, e, h1, h2, h3, h4⟩ | ⟨e, h1, h2⟩ | ⟨c, hc, e, h1, h2⟩ | ⟨e, h1⟩
  · have k : nxK l J = 0 := by simp [nxK, e]
    have t : nxT l J = [] := by simp [nxT, k]
    have ta : tokAt kw l J = (⟨kEnd, cut l J J, J⟩, J) := by simp [tokAt, e, kEnd, kName, kNum]
    refine ⟨by rw [ta], by simp [k, ta], by rw [k, ta]; simp [kEnd, kNum], by rw [k, ta]; simp [kEnd, kName], ?_, ?_, by rw [ta]; simp, by omega, by rw [t]; simp, by rw [k]; simp, by rw [t]; rintro _ x rfl c r e; cases e⟩
    · intro x hx
      obtain ⟨c, r, e1, _, _, _, _, e3, _⟩ := hkw x hx
      rw [t, ta]
      constructor
      · intro e2; rw [e1] at e2; cases e2
      · intro e2; exact absurd e2.symm e3
    · intro x hx
      obtain ⟨c, r, e1, _⟩ := sgn_head x hx
      rw [t, ta]
      constructor
      · intro e2; rw [e1] at e2; cases e2
      · intro e2; exact absurd e2.symm (sgn_ne x hx).1
  · have cl := cut_size l J K (by omega) h2
    rw [h3] at cl
    by_cases hb : K - J > 8
    · have k : nxK l J = 1 := by simp [nxK, e, kEnd, kName] ; omega
      have t : nxT l J = [] := by simp [nxT, k]
      have ta : tokAt kw l J = (⟨kNone, cut l J K, J⟩, K) := by
        have hb' : 8 < K - J := hb
        simp [tokAt, e, hb', kNone, kName]
      refine ⟨by rw [ta], by rw [k, ta]; simp [kEnd, kNone], by rw [k, ta]; simp [kNone, kNum], by rw [k, ta]; simp [kNone, kName], ?_, ?_, by rw [ta]; simp, by omega, by rw [t]; simp, by rw [k]; simp, by rw [t]; rintro _ x rfl c r e; cases e⟩
      · intro x hx
        obtain ⟨c, r, e1, _, _, _, _, _, e3⟩ := hkw x hx
        rw [t, ta]
        constructor
        · intro e2; rw [e1] at e2; cases e2
        · intro e2; exact absurd e2.symm e3
      · intro x hx
        obtain ⟨c, r, e1, _⟩ := sgn_head x hx
        rw [t, ta]
        constructor
        · intro e2; rw [e1] at e2; cases e2
        · intro e2; exact absurd e2.symm (sgn_ne x hx).2.2.2
    · have k : nxK l J = 2 := by simp [nxK, e, kEnd, kName] ; omega
      have t : nxT l J = c :: r := by simp [nxT, k, e, h3]
      have hb' : ¬ 8 < K - J := hb
      by_cases hm : c :: r ∈ kw
      · have ta : tokAt kw l J = (⟨c :: r, c :: r, J⟩, K) := by
          simp [tokAt, e, hb', h3, hm]
        obtain ⟨_, _, _, _, _, n1, n2, n3, n4⟩ := hkw _ hm
        refine ⟨by rw [ta], by rw [k, ta]; simp; exact n3, by rw [k, ta]; simp; exact n2, by rw [t, ta]; simp [hm]; exact n1, ?_, ?_, ?_, by omega, by rw [t]; omega, fun _ => ⟨c, r, t, h4⟩, fun hn => absurd k hn⟩
        · intro x _; rw [t, ta]
        · intro x _; rw [t, ta]
        · intro _ _
          rw [t, ta]
          exact ⟨rfl, by dsimp only; omega, h1, h2⟩
      · have ta : tokAt kw l J = (⟨kName, c :: r, J⟩, K) := by
          simp [tokAt, e, hb', h3, hm]
        refine ⟨by rw [ta], by rw [k, ta]; simp [kEnd, kName], by rw [k, ta]; simp [kName, kNum], by rw [t, ta, k]; simp [hm], ?_, ?_, ?_, by omega, by rw [t]; omega, fun _ => ⟨c, r, t, h4⟩, fun hn => absurd k hn⟩
        · intro x hx
          obtain ⟨_, _, _, _, _, n1, _⟩ := hkw _ hx
          rw [t, ta]
          exact ⟨fun e2 => absurd (e2 ▸ hx) hm, fun e2 => absurd e2.symm n1⟩
        · intro x hx
          obtain ⟨d, q, e1, e2, _⟩ := sgn_head x hx
          rw [t, ta]
          constructor
          · intro e3
            rw [e1] at e3
            cases e3
            rw [h4] at e2
            cases e2
          · intro e3; exact absurd e3.symm (sgn_ne x hx).2.1
        · intro _ _
          rw [t, ta]
          exact ⟨rfl, by dsimp only; omega, h1, h2⟩
  · have cl := cut_size l J K (by omega) h2
    rw [h3] at cl
    by_cases hb : K - J > 8
    · have k : nxK l J = 1 := by simp [nxK, e, kEnd, kName, kNum] ; omega
      have t : nxT l J = [] := by simp [nxT, k]
      have ta : tokAt kw l J = (⟨kNone, cut l J K, J⟩, K) := by
        have hb' : 8 < K - J := hb
        simp [tokAt, e, hb', kNone, kName]
      refine ⟨by rw [ta], by rw [k, ta]; simp [kEnd, kNone], by rw [k, ta]; simp [kNone, kNum], by rw [k, ta]; simp [kNone, kName], ?_, ?_, by rw [ta]; simp, by omega, by rw [t]; simp, by rw [k]; simp, by rw [t]; rintro _ x rfl c r e; cases e⟩
      · intro x hx
        obtain ⟨c, r, e1, _, _, _, _, _, e3⟩ := hkw x hx
        rw [t, ta]
        constructor
        · intro e2; rw [e1] at e2; cases e2
        · intro e2; exact absurd e2.symm e3
      · intro x hx
        obtain ⟨c, r, e1, _⟩ := sgn_head x hx
        rw [t, ta]
        constructor
        · intro e2; rw [e1] at e2; cases e2
        · intro e2; exact absurd e2.symm (sgn_ne x hx).2.2.2
    · have k : nxK l J = 3 := by simp [nxK, e, kEnd, kName, kNum] ; omega
      have t : nxT l J = c :: r := by simp [nxT, k, e, h3]
      have hb' : ¬ 8 < K - J := hb
      have ta : tokAt kw l J = (⟨kNum, c :: r, J⟩, K) := by
        simp [tokAt, e, hb', h3, kNum, kName]
      have hlow : low c = false := by
        cases hh : low c with
        | false => rfl
        | true => rw [low_fig c hh] at h4; cases h4
      refine ⟨by rw [ta], by rw [k, ta]; simp [kEnd, kNum], by rw [k, ta]; simp, by rw [ta, k]; simp [kNum, kName], ?_, ?_, ?_, by omega, by rw [t]; omega, (fun hn => by rw [k] at hn; cases hn), ?_⟩
      · intro x hx
        obtain ⟨d, q, e1, e2, _, _, n2, _⟩ := hkw _ hx
        rw [t, ta]
        constructor
        · intro e3
          rw [e1] at e3
          cases e3
          rw [hlow] at e2
          cases e2
        · intro e3; exact absurd e3.symm n2
      · intro x hx
        obtain ⟨d, q, e1, _, e2⟩ := sgn_head x hx
        rw [t, ta]
        constructor
        · intro e3
          rw [e1] at e3
          cases e3
          rw [h4] at e2
          cases e2
        · intro e3; exact absurd e3.symm (sgn_ne x hx).2.2.1
      · intro _ _
        rw [t, ta]
        exact ⟨rfl, by dsimp only; omega, h1, h2⟩
      · rw [t]
        rintro _ x rfl c' r' e'
        cases e'
        exact hlow
  · have k : nxK l J = 4 := by simp [nxK, e, kEnd, kName, kNum, kNone, kArrow]
    have t : nxT l J = kArrow := by simp [nxT, k, e, h2]
    have ta : tokAt kw l J = (⟨kArrow, kArrow, J⟩, J + 2) := by
      simp [tokAt, e, h2, kArrow, kName, kNum]
    refine ⟨by rw [ta], by rw [k, ta]; simp [kEnd, kArrow], by rw [k, ta]; simp [kArrow, kNum], by rw [k, ta]; simp [kArrow, kName], ?_, ?_, ?_, by omega, by rw [t]; simp [kArrow], (fun hn => by rw [k] at hn; cases hn), ?_⟩
    · intro x hx; rw [t, ta]
    · intro x hx; rw [t, ta]
    · intro _ _
      rw [t, ta]
      exact ⟨rfl, rfl, by dsimp only; omega, h1⟩
    · rw [t]
      rintro _ x rfl c' r' e'
      cases e'
      decide
  · obtain ⟨m1, m2, m3, m4, m5, m6, m7, m8⟩ := sgn_mem c hc
    have k : nxK l J = 4 := by simp [nxK, e, m4, m5, m6, m7]
    have t : nxT l J = [c] := by simp [nxT, k, e, h2]
    have ta : tokAt kw l J = (⟨[c], [c], J⟩, J + 1) := by
      simp [tokAt, e, h2, m5, m6]
    refine ⟨by rw [ta], by rw [k, ta]; simp [m4], by rw [k, ta]; simp [m6], by rw [k, ta]; simp [m5], ?_, ?_, ?_, by omega, by rw [t]; simp, (fun hn => by rw [k] at hn; cases hn), ?_⟩
    · intro x hx; rw [t, ta]
    · intro x hx; rw [t, ta]
    · intro _ _
      rw [t, ta]
      exact ⟨rfl, rfl, by dsimp only; omega, h1⟩
    · rw [t]
      rintro _ x rfl c' r' e'
      cases e'
      exact m2
  · have k : nxK l J = 1 := by simp [nxK, e, kEnd, kName, kNum, kNone]
    have t : nxT l J = [] := by simp [nxT, k]
    have ta : tokAt kw l J = (⟨kNone, cut l J J, J⟩, J) := by simp [tokAt, e, kNone, kName, kNum]
    refine ⟨by rw [ta], by rw [k, ta]; simp [kEnd, kNone], by rw [k, ta]; simp [kNone, kNum], by rw [k, ta]; simp [kNone, kName], ?_, ?_, by rw [ta]; simp, by omega, by rw [t]; simp, by rw [k]; simp, by rw [t]; rintro _ x rfl c r e; cases e⟩
    · intro x hx
      obtain ⟨c, r, e1, _, _, _, _, _, e3⟩ := hkw x hx
      rw [t, ta]
      constructor
      · intro e2; rw [e1] at e2; cases e2
      · intro e2; exact absurd e2.symm e3
    · intro x hx
      obtain ⟨c, r, e1, _⟩ := sgn_head x hx
      rw [t, ta]
      constructor
      · intro e2; rw [e1] at e2; cases e2
      · intro e2; exact absurd e2.symm (sgn_ne x hx).2.2.2
end Go.Proofs.YtcdijppegfcoaaaGreatDoor

/-
  OUR OWN TEXT. The program's tokens: bytes, runs.
-/
namespace Go.Proofs.YtcdijppegfcoaaaGreatDoor
open Go.RowKit
theorem isBlank_any (n : Int) (w : World) : Calls Tryz.prog 173 #[.int .u8 n] w fun e w' => e = .returned (.bool (decide (n = 32 ∨ n = 10))) ∧ w' = w := by
  by_cases h1 : n = 32
  · subst h1
    go_enter Tryz.func173, Tryz.ntmps173
    go_wp2
    go_ret
    exact ⟨rfl, rfl⟩
  · have h2 : (n == 32) = false := by simp [h1]
    by_cases h3 : n = 10
    · subst h3
      go_enter Tryz.func173, Tryz.ntmps173
      go_wp2
      go_ret
      exact ⟨rfl, rfl⟩
    · have h4 : (n == 10) = false := by simp [h3]
      go_enter Tryz.func173, Tryz.ntmps173
      go_wp2
      go_ret
      exact ⟨by simp [h1, h3], rfl⟩
theorem isLetter_any (n : Int) (w : World) : Calls Tryz.prog 212 #[.int .u8 n] w fun e w' => e = .returned (.bool (decide (97 ≤ n ∧ n ≤ 122))) ∧ w' = w := by
  by_cases h1 : 97 ≤ n <;> by_cases h2 : n ≤ 122 <;>
  · go_enter Tryz.func212, Tryz.ntmps212
    go_wp2
    go_ret
    exact ⟨by simp [h1, h2], rfl⟩
theorem isDigit_any (n : Int) (w : World) : Calls Tryz.prog 215 #[.int .u8 n] w fun e w' => e = .returned (.bool (decide (48 ≤ n ∧ n ≤ 57))) ∧ w' = w := by
  by_cases h1 : 48 ≤ n <;> by_cases h2 : n ≤ 57 <;>
  · go_enter Tryz.func215, Tryz.ntmps215
    go_wp2
    go_ret
    exact ⟨by simp [h1, h2], rfl⟩
theorem blank_is (c : UInt8) (w : World) : Calls Tryz.prog 173 #[.int .u8 (c.toNat : Int)] w fun e w' => e = .returned (.bool (isB c)) ∧ w' = w := by
  refine (isBlank_any _ w).mono ?_
  rintro e w' ⟨rfl, rfl⟩
  refine ⟨?_, rfl⟩
  have h : decide ((c.toNat : Int) = 32 ∨ (c.toNat : Int) = 10) = isB c := by
    unfold isB
    rw [Bool.eq_iff_iff]
    simp only [decide_eq_true_eq, Bool.or_eq_true, beq_iff_eq, ← UInt8.toNat_inj]
    show _ ↔ c.toNat = 32 ∨ c.toNat = 10
    omega
  rw [h]
theorem letter_is (c : UInt8) (w : World) : Calls Tryz.prog 212 #[.int .u8 (c.toNat : Int)] w fun e w' => e = .returned (.bool (low c)) ∧ w' = w := by
  refine (isLetter_any _ w).mono ?_
  rintro e w' ⟨rfl, rfl⟩
  refine ⟨?_, rfl⟩
  have h : decide (97 ≤ (c.toNat : Int) ∧ (c.toNat : Int) ≤ 122) = low c := by
    unfold low
    rw [decide_eq_decide]
    omega
  rw [h]
theorem digit_is (c : UInt8) (w : World) : Calls Tryz.prog 215 #[.int .u8 (c.toNat : Int)] w fun e w' => e = .returned (.bool (fig c)) ∧ w' = w := by
  refine (isDigit_any _ w).mono ?_
  rintro e w' ⟨rfl, rfl⟩
  refine ⟨?_, rfl⟩
  have h : decide (48 ≤ (c.toNat : Int) ∧ (c.toNat : Int) ≤ 57) = fig c := by
    unfold fig
    rw [decide_eq_decide]
    omega
  rw [h]
theorem letdig_is (c : UInt8) (w : World) : Calls Tryz.prog 214 #[.int .u8 (c.toNat : Int)] w fun e w' => e = .returned (.bool (lowfig c)) ∧ w' = w := by
  cases h1 : low c <;> cases h2 : fig c <;>
  · go_enter Tryz.func214, Tryz.ntmps214
    go_wp2_with (first | (go_at_call 212; refine (letter_is _ _).mono ?_; rintro e w' ⟨rfl, rfl⟩; rw [h1]) | (go_at_call 215; refine (digit_is _ _).mono ?_; rintro e w' ⟨rfl, rfl⟩; rw [h2]))
    go_wp2
    go_ret
    exact ⟨by simp [lowfig, h1, h2], rfl⟩

end Go.Proofs.YtcdijppegfcoaaaGreatDoor

/-
  OUR OWN TEXT. The program's tokens: runs.
-/
namespace Go.Proofs.YtcdijppegfcoaaaGreatDoor
open Go.RowKit
set_option maxRecDepth 100000 in
theorem run_blank (s : ByteArray) (hs : s.size ≤ 300) (w : World) : Calls Tryz.prog 172 #[.string s, .func (.func 173) #[] #[]] w fun e w' => e = .returned (.int .i64 ((run isB s.data.toList : Nat) : Int)) ∧ w' = w := by
  have hsl : s.data.toList.length = s.size := by rw [Array.length_toList]; rfl
  obtain ⟨R, hR⟩ : ∃ R, R = run isB s.data.toList := ⟨_, rfl⟩
  have hRl := run_le isB s.data.toList
  rw [← hR, hsl] at hRl
  rw [← hR]
  have HR := hid hR
  clear hR
  go_enter Tryz.func172, Tryz.ntmps172
  go_wp2_with fail
  go_loopg [5] (R + 1) (fun g i wi => ∃ q : Nat, q ≤ R ∧ i = .int .i64 q ∧ g = R - q + 1 ∧ wi = w)
  case atStart => exact ⟨0, by omega, rfl, by omega, rfl⟩
  case round =>
    obtain ⟨q, hq, rfl, hg, rfl⟩ := hrel
    by_cases hlt : q < R
    · have hql : q < s.size := by omega
      have hql2 : (q : Int) < (s.size : Int) := by omega
      obtain ⟨c, hc1, hc2⟩ := run_in isB s.data.toList q (by rw [← HR.out]; exact hlt)
      rw [byteAt s q hql] at hc1
      have hc3 : isB s[q] = true := by
        simp only [Option.some.injEq] at hc1
        rw [hc1]
        exact hc2
      clear hc1 hc2
      go_wp2_with (go_at_call 173; refine (blank_is _ _).mono ?_; rintro e w' ⟨rfl, rfl⟩; rw [hc3])
      go_roundg (R - (q + 1) + 1)
      case measure => omega
      case rel => exact ⟨q + 1, by omega, by go_num, rfl, rfl⟩
    · have hqR : q = R := by omega
      subst hqR
      by_cases hql : q < s.size
      · have hb : isB s[q] = false := run_out isB s.data.toList s[q] (by rw [← HR.out]; exact byteAt s q hql)
        have hql2 : (q : Int) < (s.size : Int) := by omega
        go_wp2_with (go_at_call 173; refine (blank_is _ _).mono ?_; rintro e w' ⟨rfl, rfl⟩; rw [hb])
        go_wp2
        go_ret
        exact ⟨rfl, rfl⟩
      · have hql2 : ¬ (q : Int) < (s.size : Int) := by omega
        go_wp2
        go_ret
        exact ⟨rfl, rfl⟩

set_option maxRecDepth 100000 in
theorem run_digit (s : ByteArray) (hs : s.size ≤ 300) (w : World) : Calls Tryz.prog 172 #[.string s, .func (.func 215) #[] #[]] w fun e w' => e = .returned (.int .i64 ((run fig s.data.toList : Nat) : Int)) ∧ w' = w := by
  have hsl : s.data.toList.length = s.size := by rw [Array.length_toList]; rfl
  obtain ⟨R, hR⟩ : ∃ R, R = run fig s.data.toList := ⟨_, rfl⟩
  have hRl := run_le fig s.data.toList
  rw [← hR, hsl] at hRl
  rw [← hR]
  have HR := hid hR
  clear hR
  go_enter Tryz.func172, Tryz.ntmps172
  go_wp2_with fail
  go_loopg [5] (R + 1) (fun g i wi => ∃ q : Nat, q ≤ R ∧ i = .int .i64 q ∧ g = R - q + 1 ∧ wi = w)
  case atStart => exact ⟨0, by omega, rfl, by omega, rfl⟩
  case round =>
    obtain ⟨q, hq, rfl, hg, rfl⟩ := hrel
    by_cases hlt : q < R
    · have hql : q < s.size := by omega
      have hql2 : (q : Int) < (s.size : Int) := by omega
      obtain ⟨c, hc1, hc2⟩ := run_in fig s.data.toList q (by rw [← HR.out]; exact hlt)
      rw [byteAt s q hql] at hc1
      have hc3 : fig s[q] = true := by
        simp only [Option.some.injEq] at hc1
        rw [hc1]
        exact hc2
      clear hc1 hc2
      go_wp2_with (go_at_call 215; refine (digit_is _ _).mono ?_; rintro e w' ⟨rfl, rfl⟩; rw [hc3])
      go_roundg (R - (q + 1) + 1)
      case measure => omega
      case rel => exact ⟨q + 1, by omega, by go_num, rfl, rfl⟩
    · have hqR : q = R := by omega
      subst hqR
      by_cases hql : q < s.size
      · have hb : fig s[q] = false := run_out fig s.data.toList s[q] (by rw [← HR.out]; exact byteAt s q hql)
        have hql2 : (q : Int) < (s.size : Int) := by omega
        go_wp2_with (go_at_call 215; refine (digit_is _ _).mono ?_; rintro e w' ⟨rfl, rfl⟩; rw [hb])
        go_wp2
        go_ret
        exact ⟨rfl, rfl⟩
      · have hql2 : ¬ (q : Int) < (s.size : Int) := by omega
        go_wp2
        go_ret
        exact ⟨rfl, rfl⟩

set_option maxRecDepth 100000 in
theorem run_letdig (s : ByteArray) (hs : s.size ≤ 300) (w : World) : Calls Tryz.prog 172 #[.string s, .func (.func 214) #[] #[]] w fun e w' => e = .returned (.int .i64 ((run lowfig s.data.toList : Nat) : Int)) ∧ w' = w := by
  have hsl : s.data.toList.length = s.size := by rw [Array.length_toList]; rfl
  obtain ⟨R, hR⟩ : ∃ R, R = run lowfig s.data.toList := ⟨_, rfl⟩
  have hRl := run_le lowfig s.data.toList
  rw [← hR, hsl] at hRl
  rw [← hR]
  have HR := hid hR
  clear hR
  go_enter Tryz.func172, Tryz.ntmps172
  go_wp2_with fail
  go_loopg [5] (R + 1) (fun g i wi => ∃ q : Nat, q ≤ R ∧ i = .int .i64 q ∧ g = R - q + 1 ∧ wi = w)
  case atStart => exact ⟨0, by omega, rfl, by omega, rfl⟩
  case round =>
    obtain ⟨q, hq, rfl, hg, rfl⟩ := hrel
    by_cases hlt : q < R
    · have hql : q < s.size := by omega
      have hql2 : (q : Int) < (s.size : Int) := by omega
      obtain ⟨c, hc1, hc2⟩ := run_in lowfig s.data.toList q (by rw [← HR.out]; exact hlt)
      rw [byteAt s q hql] at hc1
      have hc3 : lowfig s[q] = true := by
        simp only [Option.some.injEq] at hc1
        rw [hc1]
        exact hc2
      clear hc1 hc2
      go_wp2_with (go_at_call 214; refine (letdig_is _ _).mono ?_; rintro e w' ⟨rfl, rfl⟩; rw [hc3])
      go_roundg (R - (q + 1) + 1)
      case measure => omega
      case rel => exact ⟨q + 1, by omega, by go_num, rfl, rfl⟩
    · have hqR : q = R := by omega
      subst hqR
      by_cases hql : q < s.size
      · have hb : lowfig s[q] = false := run_out lowfig s.data.toList s[q] (by rw [← HR.out]; exact byteAt s q hql)
        have hql2 : (q : Int) < (s.size : Int) := by omega
        go_wp2_with (go_at_call 214; refine (letdig_is _ _).mono ?_; rintro e w' ⟨rfl, rfl⟩; rw [hb])
        go_wp2
        go_ret
        exact ⟨rfl, rfl⟩
      · have hql2 : ¬ (q : Int) < (s.size : Int) := by omega
        go_wp2
        go_ret
        exact ⟨rfl, rfl⟩
end Go.Proofs.YtcdijppegfcoaaaGreatDoor
