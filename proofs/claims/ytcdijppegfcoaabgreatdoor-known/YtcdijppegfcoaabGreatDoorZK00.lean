import Derived.WalkKit
import Derived.Test.YtcdijppegfcoaabGreatDoorChecked
import Derived.WalkSpells
import Derived.Outline
import Derived.Deep.QuietTactic
import Derived.BigQuiet
import Derived.Deep.LoopGhost
import Derived.Deep.CutBlock
import Derived.Lib.Bytealg
import Derived.Deep.RegionWith
import Derived.Deep.RegionHeld3
import Derived.Deep.RegionLaw
import Derived.Deep.AppendLies
import Derived.Deep.DeepCutAuto
set_option maxRecDepth 100000
set_option maxHeartbeats 4000000
namespace Go.Proofs.YtcdijppegfcoaabGreatDoor
open Go.RowKit
theorem hid {p : Prop} (h : p) : Hid p := h
def isB (c : UInt8) : Bool := c == 32 || c == 10
def low (c : UInt8) : Bool := decide (97 ≤ c.toNat ∧ c.toNat ≤ 122)
def fig (c : UInt8) : Bool := decide (48 ≤ c.toNat ∧ c.toNat ≤ 57)
def lowfig (c : UInt8) : Bool := low c || fig c
def run (p : UInt8 → Bool) (l : List UInt8) : Nat := (l.takeWhile p).length
theorem run_le (p : UInt8 → Bool) : ∀ l : List UInt8,run p l ≤ l.length
  | [] => by simp [run]
  | c :: l => by
    have := run_le p l
    unfold run at this ⊢
    by_cases h : p c = true <;> simp [h] <;> omega
theorem run_in (p : UInt8 → Bool) : ∀ (l : List UInt8) (m : Nat),m < run p l → ∃ c,l[m]? = some c ∧ p c = true
  | [],m,h => by simp [run] at h
  | c :: l,m,h => by
    unfold run at h
    by_cases hc : p c = true
    · simp [hc] at h
      cases m with
      | zero => exact ⟨c,rfl,hc⟩
      | succ m => exact run_in p l m (by unfold run; omega)
    · simp [hc] at h
theorem run_out (p : UInt8 → Bool) : ∀ (l : List UInt8) (c : UInt8),l[run p l]? = some c → p c = false
  | [],c,h => by simp [run] at h
  | d :: l,c,h => by
    by_cases hd : p d = true
    · have e : run p (d :: l) = run p l + 1 := by simp [run,hd]
      rw [e,List.getElem?_cons_succ] at h
      exact run_out p l c h
    · have e : run p (d :: l) = 0 := by simp [run,hd]
      rw [e] at h
      simp at h
      subst h
      simpa using hd
def upto (p : UInt8 → Bool) (l : List UInt8) (i : Nat) : Nat := i + run p (l.drop i)
theorem upto_le (p : UInt8 → Bool) (l : List UInt8) (i : Nat) (h : i ≤ l.length) : i ≤ upto p l i ∧ upto p l i ≤ l.length := by
  have := run_le p (l.drop i)
  simp only [List.length_drop] at this
  unfold upto
  omega
theorem upto_out (p : UInt8 → Bool) (l : List UInt8) (i : Nat) (c : UInt8) (h : l[upto p l i]? = some c) : p c = false := by
  refine run_out p (l.drop i) c ?_
  rw [List.getElem?_drop]
  exact h
structure Tok where
  is : List UInt8
  s : List UInt8
  pos : Nat
def kName : List UInt8 := [110,97,109,101]
def kNum : List UInt8 := [110,117,109]
def kEnd : List UInt8 := [101,110,100]
def kNone : List UInt8 := [110,111,110,101]
def kArrow : List UInt8 := [45,62]
def signs : List UInt8 := [61,40,41,44,91,93]
def raw (l : List UInt8) (i : Nat) : List UInt8 × Nat :=
  match l[i]? with
  | none => (kEnd,i)
  | some c =>
    if low c = true then (kName,upto lowfig l i)
    else if fig c = true then (kNum,upto fig l i)
    else if c = 45 ∧ l[i + 1]? = some 62 then (kArrow,i + 2)
    else if c ∈ signs then ([c],i + 1)
    else (kNone,i)
def cut (l : List UInt8) (i k : Nat) : List UInt8 := (l.take k).drop i
def tokAt (kw : List (List UInt8)) (l : List UInt8) (i : Nat) : Tok × Nat :=
  let r := raw l i
  let b := if (r.1 = kName ∨ r.1 = kNum) ∧ r.2 - i > 8 then kNone else r.1
  let t := if b = kName ∧ cut l i r.2 ∈ kw then cut l i r.2 else b
  (⟨t,cut l i r.2,i⟩,r.2)
def toks (kw : List (List UInt8)) (l : List UInt8) : Nat → Nat → List Tok
  | 0,_ => []
  | f + 1,i =>
    let t := tokAt kw l (upto isB l i)
    if t.1.is = kNone ∨ t.1.is = kEnd then [t.1] else t.1 :: toks kw l f t.2
def B (l : List UInt8) : ByteArray := ⟨l.toArray⟩
def tokCells (t : Tok) : List Value := [.string (B t.is),.string (B t.s),.int .i64 t.pos]
def rowCells (ts : List Tok) : List Value := ts.flatMap tokCells
theorem byteAt (s : ByteArray) (k : Nat) (h : k < s.size) : s.data.toList[k]? = some (s[k]'h) := by
  rw [Array.getElem?_toList]
  exact Array.getElem?_eq_getElem h
theorem raw_end (s : ByteArray) (J : Nat) (h : ¬ J < s.size) : raw s.data.toList J = (kEnd,J) := by
  unfold raw
  rw [List.getElem?_eq_none (by rw [Array.length_toList]; exact Nat.le_of_not_lt h)]
theorem raw_name (s : ByteArray) (J : Nat) (h : J < s.size) (h1 : low s[J] = true) : raw s.data.toList J = (kName,upto lowfig s.data.toList J) := by
  unfold raw
  rw [byteAt s J h]
  simp only [h1,if_true]
theorem raw_num (s : ByteArray) (J : Nat) (h : J < s.size) (h1 : low s[J] = false) (h2 : fig s[J] = true) : raw s.data.toList J = (kNum,upto fig s.data.toList J) := by
  unfold raw
  rw [byteAt s J h]
  simp only [h1,h2,if_true,Bool.false_eq_true,if_false]
theorem raw_arrow (s : ByteArray) (J : Nat) (h : J < s.size) (h' : J + 1 < s.size) (h1 : low s[J] = false) (h2 : fig s[J] = false) (h3 : s[J] = 45) (h4 : s[J + 1] = 62) : raw s.data.toList J = (kArrow,J + 2) := by
  unfold raw
  rw [byteAt s J h]
  simp only [h1,h2,Bool.false_eq_true,if_false]
  rw [if_pos ⟨h3,by rw [byteAt s (J + 1) h',h4]⟩]
theorem raw_other (s : ByteArray) (J : Nat) (h : J < s.size) (h1 : low s[J] = false) (h2 : fig s[J] = false) (h3 : s[J] = 45 → ∀ h' : J + 1 < s.size,s[J + 1] ≠ 62) :
    raw s.data.toList J = if s[J] ∈ signs then ([s[J]],J + 1) else (kNone,J) := by
  unfold raw
  rw [byteAt s J h]
  simp only [h1,h2,Bool.false_eq_true,if_false]
  rw [if_neg]
  rintro ⟨e1,e2⟩
  have hl : J + 1 < s.size := by
    rcases Nat.lt_or_ge (J + 1) s.size with hlt | hge
    · exact hlt
    · rw [List.getElem?_eq_none (by rw [Array.length_toList]; exact hge)] at e2
      cases e2
  rw [byteAt s (J + 1) hl] at e2
  exact h3 e1 hl (Option.some.inj e2)
theorem raw_le (s : ByteArray) (J : Nat) (h : J ≤ s.size) : J ≤ (raw s.data.toList J).2 ∧ (raw s.data.toList J).2 ≤ s.size := by
  have hl : s.data.toList.length = s.size := by rw [Array.length_toList]; rfl
  have h1 := upto_le lowfig s.data.toList J (by omega)
  have h2 := upto_le fig s.data.toList J (by omega)
  unfold raw
  cases hc : s.data.toList[J]? with
  | none => exact ⟨Nat.le_refl _,h⟩
  | some c =>
    have hlt : J < s.size := by
      rcases Nat.lt_or_ge J s.size with h' | h'
      · exact h'
      · rw [List.getElem?_eq_none (by omega)] at hc
        cases hc
    dsimp only
    split
    · dsimp only; omega
    split
    · dsimp only; omega
    split
    · rename_i h3
      have : J + 1 < s.size := by
        rcases Nat.lt_or_ge (J + 1) s.size with h' | h'
        · exact h'
        · rw [List.getElem?_eq_none (by omega)] at h3
          cases h3.2
      dsimp only; omega
    split
    · dsimp only; omega
    · dsimp only; omega
theorem heap_alloc_at (w : World) (o : Obj) (n : Nat) (h : n = w.heap.size) : (w.alloc o).heap[n]? = some o := by
  subst h
  exact heap_alloc_new _ _
theorem ext_cut (s : ByteArray) (i k : Nat) : s.extract i k = B (cut s.data.toList i k) := by
  apply ByteArray.ext
  rw [ByteArray.data_extract]
  apply Array.ext'
  simp only [B,cut,Array.toList_extract,List.extract_eq_drop_take',List.toList_toArray]
  try rw [List.drop_take]
theorem cut_one (s : ByteArray) (J : Nat) (h : J < s.size) : cut s.data.toList J (J + 1) = [s[J]] := by
  have hb := byteAt s J h
  unfold cut
  rw [List.take_add_one,List.drop_append_of_le_length (by rw [List.length_take,Array.length_toList]; exact Nat.le_min.2 ⟨Nat.le_refl _,Nat.le_of_lt h⟩),List.drop_of_length_le (by rw [List.length_take]; exact Nat.min_le_left _ _),hb]
  rfl
theorem toList_B (l : List UInt8) : (B l).toList = l := by
  rw [ByteArray.toList_eq]; rfl
theorem own_lt {w : World} {base e size n k : Nat} {v : Value} {xs : List Value} (h : w.ownsRow base e size v n xs) (hk : some k = v.ownBlock) : base ≤ k ∧ k < w.heap.size := by
  obtain ⟨_,h2⟩ := h
  rcases h2 with ⟨rfl,_⟩ | ⟨g,cap,cur,rfl,hg,hh,r⟩
  · cases hk
  · simp only [Value.ownBlock,Option.some.injEq] at hk
    subst hk
    exact ⟨hg,lt_of_block hh⟩
theorem toks_step (kw : List (List UInt8)) (l : List UInt8) (f k J : Nat) (hJ : J = upto isB l k) {t : Tok} {r2 : Nat} (ht : tokAt kw l J = (t,r2)) :
    toks kw l (f + 1) k = if t.is = kNone ∨ t.is = kEnd then [t] else t :: toks kw l f r2 := by
  rw [toks,← hJ,ht]
theorem raw_moves (s : ByteArray) (J : Nat) {r1 : List UInt8} {r2 : Nat} (hr : (r1,r2) = raw s.data.toList J) (h1 : r1 ≠ kNone) (h2 : r1 ≠ kEnd) : J < r2 := by
  have hl := upto_le
  unfold raw at hr
  cases hc : s.data.toList[J]? with
  | none =>
    rw [hc] at hr
    simp only [Prod.mk.injEq] at hr
    exact absurd hr.1 h2
  | some c =>
    rw [hc] at hr
    have hJl : J < s.data.toList.length := by
      rcases Nat.lt_or_ge J s.data.toList.length with h | h
      · exact h
      · rw [List.getElem?_eq_none h] at hc; cases hc
    have step : ∀ p : UInt8 → Bool,p c = true → J < upto p s.data.toList J := fun p hp => by
      rcases Nat.lt_or_ge J (upto p s.data.toList J) with h | h
      · exact h
      · have := upto_le p s.data.toList J (Nat.le_of_lt hJl)
        have e : upto p s.data.toList J = J := by omega
        have := upto_out p s.data.toList J c (by rw [e]; exact hc)
        rw [hp] at this; cases this
    dsimp only at hr
    split at hr
    · rename_i h
      simp only [Prod.mk.injEq] at hr
      rw [hr.2]
      exact step lowfig (by simp [lowfig,h])
    split at hr
    · rename_i h
      simp only [Prod.mk.injEq] at hr
      rw [hr.2]
      exact step fig h
    split at hr
    · simp only [Prod.mk.injEq] at hr
      omega
    split at hr
    · simp only [Prod.mk.injEq] at hr
      omega
    · simp only [Prod.mk.injEq] at hr
      exact absurd hr.1 h1
theorem toks_len (kw : List (List UInt8)) (l : List UInt8) : ∀ f i,(toks kw l f i).length ≤ f
  | 0,i => by simp [toks]
  | f + 1,i => by
    rw [toks]
    split
    · simp
    · have := toks_len kw l f (tokAt kw l (upto isB l i)).2
      simp only [List.length_cons]
      omega
def kFun : List UInt8 := [102,117,110]
def kIf : List UInt8 := [105,102]
def kThen : List UInt8 := [116,104,101,110]
def kElse : List UInt8 := [101,108,115,101]
def kLet : List UInt8 := [108,101,116]
def kRec : List UInt8 := [114,101,99]
def kAnd : List UInt8 := [97,110,100]
def kIn : List UInt8 := [105,110]
def kEq : List UInt8 := [61]
def kOpen : List UInt8 := [40]
def kShut : List UInt8 := [41]
def kComma : List UInt8 := [44]
def oApp : List UInt8 := [97,112,112]
def oPair : List UInt8 := [112,97,105,114]
structure Ex where
  op : List UInt8
  names : List (List UInt8)
  kids : List Ex
  pos : Nat
structure St where
  k : Nat
  bad : Int
def tk (T : List Tok) (k : Nat) : Tok := T.getD k ⟨[],[],0⟩
def isS (T : List Tok) (s : St) (w : List UInt8) : Bool := decide (s.bad < 0) && ((tk T s.k).is == w)
def takeS (T : List Tok) (s : St) (w : List UInt8) : St := if isS T s w = true then ⟨s.k + 1,s.bad⟩ else s
def needS (T : List Tok) (s : St) (w : List UInt8) : St := if isS T s w = true then ⟨s.k + 1,s.bad⟩ else ⟨s.k,if s.bad < 0 then ((tk T s.k).pos : Int) else s.bad⟩
structure RS (w : World) (rb g cap : Nat) (T : List Tok) (s : St) : Prop where
  r : w.heap[rb]? = some (.cells #[.slice (some ⟨g,0,none⟩) T.length cap,.int .i64 s.k,.int .i64 s.bad] 99003 (0,0))
  t : ∃ cur : Array Value,w.heap[g]? = some (.cells cur 99002 (0,0)) ∧ cur.toList.take (T.length * 3) = rowCells T
  len : T.length ≤ 400
  pos : ∀ k,(tk T k).pos ≤ 400
  kle : s.k ≤ 400
  blo : -1 ≤ s.bad
  bhi : s.bad ≤ 400
def nxK (l : List UInt8) (J : Nat) : Nat :=
  if (raw l J).1 = kEnd then 0
  else if (raw l J).1 = kName then (if (raw l J).2 - J > 8 then 1 else 2)
  else if (raw l J).1 = kNum then (if (raw l J).2 - J > 8 then 1 else 3)
  else if (raw l J).1 = kNone then 1 else 4
def nxT (l : List UInt8) (J : Nat) : List UInt8 := if nxK l J < 2 then [] else cut l J (raw l J).2
theorem cut_size (l : List UInt8) (J K : Nat) (h1 : J ≤ K) (h2 : K ≤ l.length) : (cut l J K).length = K - J := by
  unfold cut; simp; omega
theorem cut_head (l : List UInt8) (J K : Nat) (h1 : J < K) (h2 : K ≤ l.length) (c : UInt8) (hc : l[J]? = some c) : ∃ r,cut l J K = c :: r := by
  unfold cut
  refine ⟨((l.take K).drop (J + 1)),?_⟩
  rw [List.drop_eq_getElem_cons (by simp; omega)]
  congr 1
  have hJ : J < l.length := by omega
  rw [List.getElem?_eq_getElem hJ] at hc
  simpa using hc
theorem low_fig (c : UInt8) (h : low c = true) : fig c = false := by
  unfold low fig at *
  simp at h ⊢
  omega
theorem run_pos (p : UInt8 → Bool) (c : UInt8) (l : List UInt8) (h : p c = true) : 0 < run p (c :: l) := by
  simp [run,h]
theorem upto_pos (p : UInt8 → Bool) (l : List UInt8) (J : Nat) (c : UInt8) (hc : l[J]? = some c) (h : p c = true) : J < upto p l J := by
  unfold upto
  have hJ : J < l.length := by
    rcases Nat.lt_or_ge J l.length with h' | h'
    · exact h'
    · rw [List.getElem?_eq_none h'] at hc; cases hc
  have e : l.drop J = c :: l.drop (J + 1) := by
    rw [List.drop_eq_getElem_cons hJ]
    congr 1
    rw [List.getElem?_eq_getElem hJ] at hc
    simpa using hc
  rw [e]
  have := run_pos p c (l.drop (J + 1)) h
  omega
theorem raw_cases (l : List UInt8) (J : Nat) (h : J ≤ l.length) :
    (raw l J = (kEnd,J) ∧ J = l.length) ∨
    (∃ c r K,raw l J = (kName,K) ∧ J < K ∧ K ≤ l.length ∧ cut l J K = c :: r ∧ low c = true) ∨
    (∃ c r K,raw l J = (kNum,K) ∧ J < K ∧ K ≤ l.length ∧ cut l J K = c :: r ∧ fig c = true) ∨
    (raw l J = (kArrow,J + 2) ∧ J + 2 ≤ l.length ∧ cut l J (J + 2) = kArrow) ∨
    (∃ c,c ∈ signs ∧ raw l J = ([c],J + 1) ∧ J + 1 ≤ l.length ∧ cut l J (J + 1) = [c]) ∨
    (raw l J = (kNone,J) ∧ J < l.length) := by
  cases hc : l[J]? with
  | none =>
    have : l.length ≤ J := by simpa using hc
    exact Or.inl ⟨by simp [raw,hc],by omega⟩
  | some c =>
    have hJ : J < l.length := by
      rcases Nat.lt_or_ge J l.length with h' | h'
      · exact h'
      · rw [List.getElem?_eq_none h'] at hc; cases hc
    by_cases h1 : low c = true
    · have hp := upto_pos lowfig l J c hc (by simp [lowfig,h1])
      have hl := (upto_le lowfig l J h).2
      obtain ⟨r,hr⟩ := cut_head l J _ hp hl c hc
      exact Or.inr (Or.inl ⟨c,r,_,by simp [raw,hc,h1],hp,hl,hr,h1⟩)
    by_cases h2 : fig c = true
    · have hp := upto_pos fig l J c hc h2
      have hl := (upto_le fig l J h).2
      obtain ⟨r,hr⟩ := cut_head l J _ hp hl c hc
      exact Or.inr (Or.inr (Or.inl ⟨c,r,_,by simp [raw,hc,h1,h2],hp,hl,hr,h2⟩))
    by_cases h3 : c = 45 ∧ l[J + 1]? = some 62
    · have hJ2 : J + 1 < l.length := by
        rcases Nat.lt_or_ge (J + 1) l.length with h' | h'
        · exact h'
        · rw [List.getElem?_eq_none h'] at h3; cases h3.2
      refine Or.inr (Or.inr (Or.inr (Or.inl ⟨by unfold raw; rw [hc]; simp only; rw [if_neg h1,if_neg h2,if_pos h3],by omega,?_⟩)))
      obtain ⟨h31,h32⟩ := h3
      subst h31
      unfold cut kArrow
      rw [List.getElem?_eq_getElem hJ] at hc
      rw [List.getElem?_eq_getElem hJ2] at h32
      rw [List.drop_eq_getElem_cons (by simp; omega),List.drop_eq_getElem_cons (by simp; omega)]
      simp at hc h32
      simp [hc,h32]
    by_cases h4 : c ∈ signs
    · obtain ⟨r,hr⟩ := cut_head l J (J + 1) (by omega) hJ c hc
      have hl := cut_size l J (J + 1) (by omega) hJ
      rw [hr] at hl
      have : r = [] := by
        cases r with
        | nil => rfl
        | cons a r => simp at hl
      exact Or.inr (Or.inr (Or.inr (Or.inr (Or.inl ⟨c,h4,by simp [raw,hc,h1,h2,h3,h4],hJ,by rw [hr,this]⟩))))
    · exact Or.inr (Or.inr (Or.inr (Or.inr (Or.inr ⟨by simp [raw,hc,h1,h2,h3,h4],hJ⟩))))
def KwOK (kw : List (List UInt8)) : Prop := ∀ x,x ∈ kw → ∃ c r,x = c :: r ∧ low c = true ∧ x.length ≤ 8 ∧ x ≠ kName ∧ x ≠ kNum ∧ x ≠ kEnd ∧ x ≠ kNone
def sgns : List (List UInt8) := [[45,62],[61],[40],[41],[44],[91],[93]]
theorem sgn_head : ∀ x,x ∈ sgns → ∃ c r,x = c :: r ∧ low c = false ∧ fig c = false := by
  intro x hx
  simp only [sgns,List.mem_cons,List.not_mem_nil,or_false] at hx
  rcases hx with rfl | rfl | rfl | rfl | rfl | rfl | rfl <;> exact ⟨_,_,rfl,by decide,by decide⟩
theorem sgn_mem : ∀ c,c ∈ signs → [c] ∈ sgns ∧ low c = false ∧ fig c = false ∧ [c] ≠ kEnd ∧ [c] ≠ kName ∧ [c] ≠ kNum ∧ [c] ≠ kNone ∧ [c] ≠ kArrow := by decide
theorem sgn_ne : ∀ x,x ∈ sgns → x ≠ kEnd ∧ x ≠ kName ∧ x ≠ kNum ∧ x ≠ kNone := by decide
structure Asked (kw : List (List UInt8)) (l : List UInt8) (J : Nat) : Prop where
  pos : (tokAt kw l J).1.pos = J
  theEnd : nxK l J = 0 ↔ (tokAt kw l J).1.is = kEnd
  num : nxK l J = 3 ↔ (tokAt kw l J).1.is = kNum
  name : nxK l J = 2 ∧ nxT l J ∉ kw ↔ (tokAt kw l J).1.is = kName
  word : ∀ x,x ∈ kw → (nxT l J = x ↔ (tokAt kw l J).1.is = x)
  sign : ∀ x,x ∈ sgns → (nxT l J = x ↔ (tokAt kw l J).1.is = x)
  real : (tokAt kw l J).1.is ≠ kNone → (tokAt kw l J).1.is ≠ kEnd → nxT l J = (tokAt kw l J).1.s ∧ (tokAt kw l J).2 = J + (nxT l J).length ∧ J < (tokAt kw l J).2 ∧ (tokAt kw l J).2 ≤ l.length
  small : nxK l J ≤ 4
  short : (nxT l J).length ≤ 8
  isWord : nxK l J = 2 → ∃ c r,nxT l J = c :: r ∧ low c = true
  notWord : nxK l J ≠ 2 → ∀ x,nxT l J = x → (∀ c r,x = c :: r → low c = false)
theorem asked (kw : List (List UInt8)) (hkw : KwOK kw) (l : List UInt8) (J : Nat) (h : J ≤ l.length) : Asked kw l J := by
  rcases raw_cases l J h with ⟨e,_⟩ | ⟨c,r,K,e,h1,h2,h3,h4⟩ | ⟨c,r,K,e,h1,h2,h3,h4⟩ | ⟨e,h1,h2⟩ | ⟨c,hc,e,h1,h2⟩ | ⟨e,h1⟩
  · have k : nxK l J = 0 := by simp [nxK,e]
    have t : nxT l J = [] := by simp [nxT,k]
    have ta : tokAt kw l J = (⟨kEnd,cut l J J,J⟩,J) := by simp [tokAt,e,kEnd,kName,kNum]
    refine ⟨by rw [ta],by simp [k,ta],by rw [k,ta]; simp [kEnd,kNum],by rw [k,ta]; simp [kEnd,kName],?_,?_,by rw [ta]; simp,by omega,by rw [t]; simp,by rw [k]; simp,by rw [t]; rintro _ x rfl c r e; cases e⟩
    · intro x hx
      obtain ⟨c,r,e1,_,_,_,_,e3,_⟩ := hkw x hx
      rw [t,ta]
      constructor
      · intro e2; rw [e1] at e2; cases e2
      · intro e2; exact absurd e2.symm e3
    · intro x hx
      obtain ⟨c,r,e1,_⟩ := sgn_head x hx
      rw [t,ta]
      constructor
      · intro e2; rw [e1] at e2; cases e2
      · intro e2; exact absurd e2.symm (sgn_ne x hx).1
  · have cl := cut_size l J K (by omega) h2
    rw [h3] at cl
    by_cases hb : K - J > 8
    · have k : nxK l J = 1 := by simp [nxK,e,kEnd,kName] ; omega
      have t : nxT l J = [] := by simp [nxT,k]
      have ta : tokAt kw l J = (⟨kNone,cut l J K,J⟩,K) := by
        have hb' : 8 < K - J := hb
        simp [tokAt,e,hb',kNone,kName]
      refine ⟨by rw [ta],by rw [k,ta]; simp [kEnd,kNone],by rw [k,ta]; simp [kNone,kNum],by rw [k,ta]; simp [kNone,kName],?_,?_,by rw [ta]; simp,by omega,by rw [t]; simp,by rw [k]; simp,by rw [t]; rintro _ x rfl c r e; cases e⟩
      · intro x hx
        obtain ⟨c,r,e1,_,_,_,_,_,e3⟩ := hkw x hx
        rw [t,ta]
        constructor
        · intro e2; rw [e1] at e2; cases e2
        · intro e2; exact absurd e2.symm e3
      · intro x hx
        obtain ⟨c,r,e1,_⟩ := sgn_head x hx
        rw [t,ta]
        constructor
        · intro e2; rw [e1] at e2; cases e2
        · intro e2; exact absurd e2.symm (sgn_ne x hx).2.2.2
    · have k : nxK l J = 2 := by simp [nxK,e,kEnd,kName] ; omega
      have t : nxT l J = c :: r := by simp [nxT,k,e,h3]
      have hb' : ¬ 8 < K - J := hb
      by_cases hm : c :: r ∈ kw
      · have ta : tokAt kw l J = (⟨c :: r,c :: r,J⟩,K) := by
          simp [tokAt,e,hb',h3,hm]
        obtain ⟨_,_,_,_,_,n1,n2,n3,n4⟩ := hkw _ hm
        refine ⟨by rw [ta],by rw [k,ta]; simp; exact n3,by rw [k,ta]; simp; exact n2,by rw [t,ta]; simp [hm]; exact n1,?_,?_,?_,by omega,by rw [t]; omega,fun _ => ⟨c,r,t,h4⟩,fun hn => absurd k hn⟩
        · intro x _; rw [t,ta]
        · intro x _; rw [t,ta]
        · intro _ _
          rw [t,ta]
          exact ⟨rfl,by dsimp only; omega,h1,h2⟩
      · have ta : tokAt kw l J = (⟨kName,c :: r,J⟩,K) := by
          simp [tokAt,e,hb',h3,hm]
        refine ⟨by rw [ta],by rw [k,ta]; simp [kEnd,kName],by rw [k,ta]; simp [kName,kNum],by rw [t,ta,k]; simp [hm],?_,?_,?_,by omega,by rw [t]; omega,fun _ => ⟨c,r,t,h4⟩,fun hn => absurd k hn⟩
        · intro x hx
          obtain ⟨_,_,_,_,_,n1,_⟩ := hkw _ hx
          rw [t,ta]
          exact ⟨fun e2 => absurd (e2 ▸ hx) hm,fun e2 => absurd e2.symm n1⟩
        · intro x hx
          obtain ⟨d,q,e1,e2,_⟩ := sgn_head x hx
          rw [t,ta]
          constructor
          · intro e3
            rw [e1] at e3
            cases e3
            rw [h4] at e2
            cases e2
          · intro e3; exact absurd e3.symm (sgn_ne x hx).2.1
        · intro _ _
          rw [t,ta]
          exact ⟨rfl,by dsimp only; omega,h1,h2⟩
  · have cl := cut_size l J K (by omega) h2
    rw [h3] at cl
    by_cases hb : K - J > 8
    · have k : nxK l J = 1 := by simp [nxK,e,kEnd,kName,kNum] ; omega
      have t : nxT l J = [] := by simp [nxT,k]
      have ta : tokAt kw l J = (⟨kNone,cut l J K,J⟩,K) := by
        have hb' : 8 < K - J := hb
        simp [tokAt,e,hb',kNone,kName]
      refine ⟨by rw [ta],by rw [k,ta]; simp [kEnd,kNone],by rw [k,ta]; simp [kNone,kNum],by rw [k,ta]; simp [kNone,kName],?_,?_,by rw [ta]; simp,by omega,by rw [t]; simp,by rw [k]; simp,by rw [t]; rintro _ x rfl c r e; cases e⟩
      · intro x hx
        obtain ⟨c,r,e1,_,_,_,_,_,e3⟩ := hkw x hx
        rw [t,ta]
        constructor
        · intro e2; rw [e1] at e2; cases e2
        · intro e2; exact absurd e2.symm e3
      · intro x hx
        obtain ⟨c,r,e1,_⟩ := sgn_head x hx
        rw [t,ta]
        constructor
        · intro e2; rw [e1] at e2; cases e2
        · intro e2; exact absurd e2.symm (sgn_ne x hx).2.2.2
    · have k : nxK l J = 3 := by simp [nxK,e,kEnd,kName,kNum] ; omega
      have t : nxT l J = c :: r := by simp [nxT,k,e,h3]
      have hb' : ¬ 8 < K - J := hb
      have ta : tokAt kw l J = (⟨kNum,c :: r,J⟩,K) := by
        simp [tokAt,e,hb',h3,kNum,kName]
      have hlow : low c = false := by
        cases hh : low c with
        | false => rfl
        | true => rw [low_fig c hh] at h4; cases h4
      refine ⟨by rw [ta],by rw [k,ta]; simp [kEnd,kNum],by rw [k,ta]; simp,by rw [ta,k]; simp [kNum,kName],?_,?_,?_,by omega,by rw [t]; omega,(fun hn => by rw [k] at hn; cases hn),?_⟩
      · intro x hx
        obtain ⟨d,q,e1,e2,_,_,n2,_⟩ := hkw _ hx
        rw [t,ta]
        constructor
        · intro e3
          rw [e1] at e3
          cases e3
          rw [hlow] at e2
          cases e2
        · intro e3; exact absurd e3.symm n2
      · intro x hx
        obtain ⟨d,q,e1,_,e2⟩ := sgn_head x hx
        rw [t,ta]
        constructor
        · intro e3
          rw [e1] at e3
          cases e3
          rw [h4] at e2
          cases e2
        · intro e3; exact absurd e3.symm (sgn_ne x hx).2.2.1
      · intro _ _
        rw [t,ta]
        exact ⟨rfl,by dsimp only; omega,h1,h2⟩
      · rw [t]
        rintro _ x rfl c' r' e'
        cases e'
        exact hlow
  · have k : nxK l J = 4 := by simp [nxK,e,kEnd,kName,kNum,kNone,kArrow]
    have t : nxT l J = kArrow := by simp [nxT,k,e,h2]
    have ta : tokAt kw l J = (⟨kArrow,kArrow,J⟩,J + 2) := by
      simp [tokAt,e,h2,kArrow,kName,kNum]
    refine ⟨by rw [ta],by rw [k,ta]; simp [kEnd,kArrow],by rw [k,ta]; simp [kArrow,kNum],by rw [k,ta]; simp [kArrow,kName],?_,?_,?_,by omega,by rw [t]; simp [kArrow],(fun hn => by rw [k] at hn; cases hn),?_⟩
    · intro x hx; rw [t,ta]
    · intro x hx; rw [t,ta]
    · intro _ _
      rw [t,ta]
      exact ⟨rfl,rfl,by dsimp only; omega,h1⟩
    · rw [t]
      rintro _ x rfl c' r' e'
      cases e'
      decide
  · obtain ⟨m1,m2,m3,m4,m5,m6,m7,m8⟩ := sgn_mem c hc
    have k : nxK l J = 4 := by simp [nxK,e,m4,m5,m6,m7]
    have t : nxT l J = [c] := by simp [nxT,k,e,h2]
    have ta : tokAt kw l J = (⟨[c],[c],J⟩,J + 1) := by
      simp [tokAt,e,h2,m5,m6]
    refine ⟨by rw [ta],by rw [k,ta]; simp [m4],by rw [k,ta]; simp [m6],by rw [k,ta]; simp [m5],?_,?_,?_,by omega,by rw [t]; simp,(fun hn => by rw [k] at hn; cases hn),?_⟩
    · intro x hx; rw [t,ta]
    · intro x hx; rw [t,ta]
    · intro _ _
      rw [t,ta]
      exact ⟨rfl,rfl,by dsimp only; omega,h1⟩
    · rw [t]
      rintro _ x rfl c' r' e'
      cases e'
      exact m2
  · have k : nxK l J = 1 := by simp [nxK,e,kEnd,kName,kNum,kNone]
    have t : nxT l J = [] := by simp [nxT,k]
    have ta : tokAt kw l J = (⟨kNone,cut l J J,J⟩,J) := by simp [tokAt,e,kNone,kName,kNum]
    refine ⟨by rw [ta],by rw [k,ta]; simp [kEnd,kNone],by rw [k,ta]; simp [kNone,kNum],by rw [k,ta]; simp [kNone,kName],?_,?_,by rw [ta]; simp,by omega,by rw [t]; simp,by rw [k]; simp,by rw [t]; rintro _ x rfl c r e; cases e⟩
    · intro x hx
      obtain ⟨c,r,e1,_,_,_,_,_,e3⟩ := hkw x hx
      rw [t,ta]
      constructor
      · intro e2; rw [e1] at e2; cases e2
      · intro e2; exact absurd e2.symm e3
    · intro x hx
      obtain ⟨c,r,e1,_⟩ := sgn_head x hx
      rw [t,ta]
      constructor
      · intro e2; rw [e1] at e2; cases e2
      · intro e2; exact absurd e2.symm (sgn_ne x hx).2.2.2
theorem isBlank_any (n : Int) (w : World) : Calls Tryz.prog 123 #[.int .u8 n] w fun e w' => e = .returned (.bool (decide (n = 32 ∨ n = 10))) ∧ w' = w := by
  by_cases h1 : n = 32
  · subst h1
    go_enter Tryz.func123,Tryz.ntmps123
    go_wp2
    go_ret
    exact ⟨rfl,rfl⟩
  · have h2 : (n == 32) = false := by simp [h1]
    by_cases h3 : n = 10
    · subst h3
      go_enter Tryz.func123,Tryz.ntmps123
      go_wp2
      go_ret
      exact ⟨rfl,rfl⟩
    · have h4 : (n == 10) = false := by simp [h3]
      go_enter Tryz.func123,Tryz.ntmps123
      go_wp2
      go_ret
      exact ⟨by simp [h1,h3],rfl⟩
theorem isLetter_any (n : Int) (w : World) : Calls Tryz.prog 161 #[.int .u8 n] w fun e w' => e = .returned (.bool (decide (97 ≤ n ∧ n ≤ 122))) ∧ w' = w := by
  by_cases h1 : 97 ≤ n <;> by_cases h2 : n ≤ 122 <;>
  · go_enter Tryz.func161,Tryz.ntmps161
    go_wp2
    go_ret
    exact ⟨by simp [h1,h2],rfl⟩
theorem isDigit_any (n : Int) (w : World) : Calls Tryz.prog 164 #[.int .u8 n] w fun e w' => e = .returned (.bool (decide (48 ≤ n ∧ n ≤ 57))) ∧ w' = w := by
  by_cases h1 : 48 ≤ n <;> by_cases h2 : n ≤ 57 <;>
  · go_enter Tryz.func164,Tryz.ntmps164
    go_wp2
    go_ret
    exact ⟨by simp [h1,h2],rfl⟩
theorem blank_is (c : UInt8) (w : World) : Calls Tryz.prog 123 #[.int .u8 (c.toNat : Int)] w fun e w' => e = .returned (.bool (isB c)) ∧ w' = w := by
  refine (isBlank_any _ w).mono ?_
  rintro e w' ⟨rfl,rfl⟩
  refine ⟨?_,rfl⟩
  have h : decide ((c.toNat : Int) = 32 ∨ (c.toNat : Int) = 10) = isB c := by
    unfold isB
    rw [Bool.eq_iff_iff]
    simp only [decide_eq_true_eq,Bool.or_eq_true,beq_iff_eq,← UInt8.toNat_inj]
    show _ ↔ c.toNat = 32 ∨ c.toNat = 10
    omega
  rw [h]
theorem letter_is (c : UInt8) (w : World) : Calls Tryz.prog 161 #[.int .u8 (c.toNat : Int)] w fun e w' => e = .returned (.bool (low c)) ∧ w' = w := by
  refine (isLetter_any _ w).mono ?_
  rintro e w' ⟨rfl,rfl⟩
  refine ⟨?_,rfl⟩
  have h : decide (97 ≤ (c.toNat : Int) ∧ (c.toNat : Int) ≤ 122) = low c := by
    unfold low
    rw [decide_eq_decide]
    omega
  rw [h]
theorem digit_is (c : UInt8) (w : World) : Calls Tryz.prog 164 #[.int .u8 (c.toNat : Int)] w fun e w' => e = .returned (.bool (fig c)) ∧ w' = w := by
  refine (isDigit_any _ w).mono ?_
  rintro e w' ⟨rfl,rfl⟩
  refine ⟨?_,rfl⟩
  have h : decide (48 ≤ (c.toNat : Int) ∧ (c.toNat : Int) ≤ 57) = fig c := by
    unfold fig
    rw [decide_eq_decide]
    omega
  rw [h]
theorem letdig_is (c : UInt8) (w : World) : Calls Tryz.prog 163 #[.int .u8 (c.toNat : Int)] w fun e w' => e = .returned (.bool (lowfig c)) ∧ w' = w := by
  cases h1 : low c <;> cases h2 : fig c <;>
  · go_enter Tryz.func163,Tryz.ntmps163
    go_wp2_with (first | (go_at_call 161; refine (letter_is _ _).mono ?_; rintro e w' ⟨rfl,rfl⟩; rw [h1]) | (go_at_call 164; refine (digit_is _ _).mono ?_; rintro e w' ⟨rfl,rfl⟩; rw [h2]))
    go_wp2
    go_ret
    exact ⟨by simp [lowfig,h1,h2],rfl⟩
theorem run_blank (s : ByteArray) (hs : s.size ≤ 300) (w : World) : Calls Tryz.prog 122 #[.string s,.func (.func 123) #[] #[]] w fun e w' => e = .returned (.int .i64 ((run isB s.data.toList : Nat) : Int)) ∧ w' = w := by
  have hsl : s.data.toList.length = s.size := by rw [Array.length_toList]; rfl
  obtain ⟨R,hR⟩ : ∃ R,R = run isB s.data.toList := ⟨_,rfl⟩
  have hRl := run_le isB s.data.toList
  rw [← hR,hsl] at hRl
  rw [← hR]
  have HR := hid hR
  clear hR
  go_enter Tryz.func122,Tryz.ntmps122
  go_wp2_with fail
  go_loopg [5] (R + 1) (fun g i wi => ∃ q : Nat,q ≤ R ∧ i = .int .i64 q ∧ g = R - q + 1 ∧ wi = w)
  case atStart => exact ⟨0,by omega,rfl,by omega,rfl⟩
  case round =>
    obtain ⟨q,hq,rfl,hg,rfl⟩ := hrel
    by_cases hlt : q < R
    · have hql : q < s.size := by omega
      have hql2 : (q : Int) < (s.size : Int) := by omega
      obtain ⟨c,hc1,hc2⟩ := run_in isB s.data.toList q (by rw [← HR.out]; exact hlt)
      rw [byteAt s q hql] at hc1
      have hc3 : isB s[q] = true := by
        simp only [Option.some.injEq] at hc1
        rw [hc1]
        exact hc2
      clear hc1 hc2
      go_wp2_with (go_at_call 123; refine (blank_is _ _).mono ?_; rintro e w' ⟨rfl,rfl⟩; rw [hc3])
      go_roundg (R - (q + 1) + 1)
      case measure => omega
      case rel => exact ⟨q + 1,by omega,by go_num,rfl,rfl⟩
    · have hqR : q = R := by omega
      subst hqR
      by_cases hql : q < s.size
      · have hb : isB s[q] = false := run_out isB s.data.toList s[q] (by rw [← HR.out]; exact byteAt s q hql)
        have hql2 : (q : Int) < (s.size : Int) := by omega
        go_wp2_with (go_at_call 123; refine (blank_is _ _).mono ?_; rintro e w' ⟨rfl,rfl⟩; rw [hb])
        go_wp2
        go_ret
        exact ⟨rfl,rfl⟩
      · have hql2 : ¬ (q : Int) < (s.size : Int) := by omega
        go_wp2
        go_ret
        exact ⟨rfl,rfl⟩
theorem run_digit (s : ByteArray) (hs : s.size ≤ 300) (w : World) : Calls Tryz.prog 122 #[.string s,.func (.func 164) #[] #[]] w fun e w' => e = .returned (.int .i64 ((run fig s.data.toList : Nat) : Int)) ∧ w' = w := by
  have hsl : s.data.toList.length = s.size := by rw [Array.length_toList]; rfl
  obtain ⟨R,hR⟩ : ∃ R,R = run fig s.data.toList := ⟨_,rfl⟩
  have hRl := run_le fig s.data.toList
  rw [← hR,hsl] at hRl
  rw [← hR]
  have HR := hid hR
  clear hR
  go_enter Tryz.func122,Tryz.ntmps122
  go_wp2_with fail
  go_loopg [5] (R + 1) (fun g i wi => ∃ q : Nat,q ≤ R ∧ i = .int .i64 q ∧ g = R - q + 1 ∧ wi = w)
  case atStart => exact ⟨0,by omega,rfl,by omega,rfl⟩
  case round =>
    obtain ⟨q,hq,rfl,hg,rfl⟩ := hrel
    by_cases hlt : q < R
    · have hql : q < s.size := by omega
      have hql2 : (q : Int) < (s.size : Int) := by omega
      obtain ⟨c,hc1,hc2⟩ := run_in fig s.data.toList q (by rw [← HR.out]; exact hlt)
      rw [byteAt s q hql] at hc1
      have hc3 : fig s[q] = true := by
        simp only [Option.some.injEq] at hc1
        rw [hc1]
        exact hc2
      clear hc1 hc2
      go_wp2_with (go_at_call 164; refine (digit_is _ _).mono ?_; rintro e w' ⟨rfl,rfl⟩; rw [hc3])
      go_roundg (R - (q + 1) + 1)
      case measure => omega
      case rel => exact ⟨q + 1,by omega,by go_num,rfl,rfl⟩
    · have hqR : q = R := by omega
      subst hqR
      by_cases hql : q < s.size
      · have hb : fig s[q] = false := run_out fig s.data.toList s[q] (by rw [← HR.out]; exact byteAt s q hql)
        have hql2 : (q : Int) < (s.size : Int) := by omega
        go_wp2_with (go_at_call 164; refine (digit_is _ _).mono ?_; rintro e w' ⟨rfl,rfl⟩; rw [hb])
        go_wp2
        go_ret
        exact ⟨rfl,rfl⟩
      · have hql2 : ¬ (q : Int) < (s.size : Int) := by omega
        go_wp2
        go_ret
        exact ⟨rfl,rfl⟩
theorem run_letdig (s : ByteArray) (hs : s.size ≤ 300) (w : World) : Calls Tryz.prog 122 #[.string s,.func (.func 163) #[] #[]] w fun e w' => e = .returned (.int .i64 ((run lowfig s.data.toList : Nat) : Int)) ∧ w' = w := by
  have hsl : s.data.toList.length = s.size := by rw [Array.length_toList]; rfl
  obtain ⟨R,hR⟩ : ∃ R,R = run lowfig s.data.toList := ⟨_,rfl⟩
  have hRl := run_le lowfig s.data.toList
  rw [← hR,hsl] at hRl
  rw [← hR]
  have HR := hid hR
  clear hR
  go_enter Tryz.func122,Tryz.ntmps122
  go_wp2_with fail
  go_loopg [5] (R + 1) (fun g i wi => ∃ q : Nat,q ≤ R ∧ i = .int .i64 q ∧ g = R - q + 1 ∧ wi = w)
  case atStart => exact ⟨0,by omega,rfl,by omega,rfl⟩
  case round =>
    obtain ⟨q,hq,rfl,hg,rfl⟩ := hrel
    by_cases hlt : q < R
    · have hql : q < s.size := by omega
      have hql2 : (q : Int) < (s.size : Int) := by omega
      obtain ⟨c,hc1,hc2⟩ := run_in lowfig s.data.toList q (by rw [← HR.out]; exact hlt)
      rw [byteAt s q hql] at hc1
      have hc3 : lowfig s[q] = true := by
        simp only [Option.some.injEq] at hc1
        rw [hc1]
        exact hc2
      clear hc1 hc2
      go_wp2_with (go_at_call 163; refine (letdig_is _ _).mono ?_; rintro e w' ⟨rfl,rfl⟩; rw [hc3])
      go_roundg (R - (q + 1) + 1)
      case measure => omega
      case rel => exact ⟨q + 1,by omega,by go_num,rfl,rfl⟩
    · have hqR : q = R := by omega
      subst hqR
      by_cases hql : q < s.size
      · have hb : lowfig s[q] = false := run_out lowfig s.data.toList s[q] (by rw [← HR.out]; exact byteAt s q hql)
        have hql2 : (q : Int) < (s.size : Int) := by omega
        go_wp2_with (go_at_call 163; refine (letdig_is _ _).mono ?_; rintro e w' ⟨rfl,rfl⟩; rw [hb])
        go_wp2
        go_ret
        exact ⟨rfl,rfl⟩
      · have hql2 : ¬ (q : Int) < (s.size : Int) := by omega
        go_wp2
        go_ret
        exact ⟨rfl,rfl⟩
theorem prefix_any (s : ByteArray) (hs : s.size ≤ 300) (w : World) : Calls Tryz.prog 189 #[.string s,.string (B kArrow)] w fun e w' => e = .returned (.bool (decide (2 ≤ s.size) && (s.data.toList.take 2 == kArrow))) ∧ w' = w := by
  by_cases h : 2 ≤ s.size
  · have h2 : (2 : Int) ≤ (s.size : Int) := by omega
    go_enter Tryz.func189,Tryz.ntmps189
    go_wp2
    go_ret
    refine ⟨?_,rfl⟩
    have e1 : (s.extract 0 (B kArrow).size).toList = s.data.toList.take 2 := by
      rw [ext_cut,toList_B]
      simp [cut,B,kArrow,ByteArray.size]
    show Ending.returned (.bool ((s.extract 0 (B kArrow).size).toList == (B kArrow).toList)) = _
    rw [e1,toList_B]
    simp [h]
  · have h2 : ¬ (2 : Int) ≤ (s.size : Int) := by omega
    go_enter Tryz.func189,Tryz.ntmps189
    go_wp2
    go_ret
    exact ⟨rfl,rfl⟩
theorem ixb_any (s : ByteArray) (c : Int) (w : World) : Calls Tryz.prog 190 #[.string s,.int .u8 c] w fun e w' => e = .returned (.int .i64 (Lib.indexByte s.data.toList c.toNat.toUInt8)) ∧ w' = w := by
  go_enter Tryz.func190,Tryz.ntmps190
  go_wp2
  rw [run_callFunc_extern Tryz.func198 (by kernel_rfl) (by kernel_rfl) (by kernel_rfl) (e := Extern.BytealgIndexByte.indexByte) (by kernel_rfl),Lib.run_indexByteString]
  simp only [Result.andThen]
  rw [Oper.upon_value]
  go_wp2
  go_ret
  exact ⟨rfl,rfl⟩
theorem ix_mem (c : UInt8) : ∀ l : List UInt8,(0 : Int) ≤ Lib.indexByte l c ↔ c ∈ l
  | [] => by simp [Lib.indexByte]
  | b :: l => by
    have ih := ix_mem c l
    have hg := Lib.indexByte_ge l c
    simp only [Lib.indexByte,List.mem_cons]
    by_cases h : b = c
    · simp [h]
    · have h' : (b == c) = false := by simp [h]
      have h2 : ¬ c = b := fun e => h e.symm
      rw [h']
      simp only [Bool.false_eq_true,if_false,h2,false_or]
      rw [← ih]
      by_cases h3 : Lib.indexByte l c = -1
      · simp [h3]
      · have h4 : (Lib.indexByte l c == -1) = false := by simp [h3]
        rw [h4]
        simp only [Bool.false_eq_true,if_false]
        omega
theorem take_arrow (s : ByteArray) (h0 : 0 < s.size) : (decide (2 ≤ s.size) && (s.data.toList.take 2 == kArrow)) = true ↔ ∃ h1 : 1 < s.size,s[0] = 45 ∧ s[1] = 62 := by
  have hc0 : s.data.toList[0]? = some s[0] := byteAt s 0 h0
  constructor
  · intro h
    simp only [Bool.and_eq_true,decide_eq_true_eq,beq_iff_eq] at h
    have h1 : 1 < s.size := by omega
    have hc1 : s.data.toList[1]? = some s[1] := byteAt s 1 h1
    refine ⟨h1,?_,?_⟩
    · have := congrArg (fun l => l[0]?) h.2
      simp only [List.getElem?_take] at this
      rw [if_pos (by omega),hc0] at this
      simpa [kArrow] using this
    · have := congrArg (fun l => l[1]?) h.2
      simp only [List.getElem?_take] at this
      rw [if_pos (by omega),hc1] at this
      simpa [kArrow] using this
  · rintro ⟨h1,e0,e1⟩
    have hc1 : s.data.toList[1]? = some s[1] := byteAt s 1 h1
    simp only [Bool.and_eq_true,decide_eq_true_eq,beq_iff_eq]
    refine ⟨by omega,?_⟩
    refine List.ext_getElem? fun i => ?_
    rw [List.getElem?_take]
    match i with
    | 0 => rw [if_pos (by omega),hc0,e0]; rfl
    | 1 => rw [if_pos (by omega),hc1,e1]; rfl
    | i + 2 => rw [if_neg (by omega)]; rfl
theorem toUInt8_back (c : UInt8) : ((c.toNat : Int).toNat).toUInt8 = c := by
  simp
theorem measure_any (s : ByteArray) (h0 : 0 < s.size) (hs : s.size ≤ 300) (w : World) : Calls Tryz.prog 124 #[.string s] w fun e w' => e = .returned (.tuple #[.int .i64 ((nxK s.data.toList 0 : Nat) : Int),.int .i64 (((nxT s.data.toList 0).length : Nat) : Int)]) ∧ w' = w := by
  have hsl : s.data.toList.length = s.size := by rw [Array.length_toList]; rfl
  cases hl : low s[0] with
  | true =>
    have hr := raw_name s 0 h0 hl
    have hu := upto_le lowfig s.data.toList 0 (by omega)
    have e1 : upto lowfig s.data.toList 0 = run lowfig s.data.toList := by simp [upto]
    rw [e1] at hr hu
    have cl := cut_size s.data.toList 0 (run lowfig s.data.toList) (by omega) (by omega)
    by_cases hb : 8 < run lowfig s.data.toList
    · have k : nxK s.data.toList 0 = 1 := by simp [nxK,hr,kEnd,kName]; omega
      have t : nxT s.data.toList 0 = [] := by simp [nxT,k]
      have hb2 : (8 : Int) < ((run lowfig s.data.toList : Nat) : Int) := by omega
      rw [k,t]
      go_enter Tryz.func124,Tryz.ntmps124
      go_wp2_with (first | (go_at_call 161; refine (letter_is _ _).mono ?_; rintro e w' ⟨rfl,rfl⟩; rw [hl]) | (go_at_call 122; refine (run_letdig _ hs _).mono ?_; rintro e w' ⟨rfl,rfl⟩) | go_in)
      go_ret2
      exact ⟨rfl,rfl⟩
    · have k : nxK s.data.toList 0 = 2 := by simp [nxK,hr,kEnd,kName]; omega
      have t : (nxT s.data.toList 0).length = run lowfig s.data.toList := by simp [nxT,k,hr,cl]
      have hb2 : ¬ (8 : Int) < ((run lowfig s.data.toList : Nat) : Int) := by omega
      rw [k,t]
      go_enter Tryz.func124,Tryz.ntmps124
      go_wp2_with (first | (go_at_call 161; refine (letter_is _ _).mono ?_; rintro e w' ⟨rfl,rfl⟩; rw [hl]) | (go_at_call 122; refine (run_letdig _ hs _).mono ?_; rintro e w' ⟨rfl,rfl⟩) | go_in)
      go_ret2
      exact ⟨rfl,rfl⟩
  | false =>
    cases hf : fig s[0] with
    | true =>
      have hr := raw_num s 0 h0 hl hf
      have hu := upto_le fig s.data.toList 0 (by omega)
      have e1 : upto fig s.data.toList 0 = run fig s.data.toList := by simp [upto]
      rw [e1] at hr hu
      have cl := cut_size s.data.toList 0 (run fig s.data.toList) (by omega) (by omega)
      by_cases hb : 8 < run fig s.data.toList
      · have k : nxK s.data.toList 0 = 1 := by simp [nxK,hr,kEnd,kName,kNum]; omega
        have t : nxT s.data.toList 0 = [] := by simp [nxT,k]
        have hb2 : (8 : Int) < ((run fig s.data.toList : Nat) : Int) := by omega
        rw [k,t]
        go_enter Tryz.func124,Tryz.ntmps124
        go_wp2_with (first | (go_at_call 161; refine (letter_is _ _).mono ?_; rintro e w' ⟨rfl,rfl⟩; rw [hl]) | (go_at_call 164; refine (digit_is _ _).mono ?_; rintro e w' ⟨rfl,rfl⟩; rw [hf]) | (go_at_call 122; refine (run_digit _ hs _).mono ?_; rintro e w' ⟨rfl,rfl⟩) | go_in)
        go_ret2
        exact ⟨rfl,rfl⟩
      · have k : nxK s.data.toList 0 = 3 := by simp [nxK,hr,kEnd,kName,kNum]; omega
        have t : (nxT s.data.toList 0).length = run fig s.data.toList := by simp [nxT,k,hr,cl]
        have hb2 : ¬ (8 : Int) < ((run fig s.data.toList : Nat) : Int) := by omega
        rw [k,t]
        go_enter Tryz.func124,Tryz.ntmps124
        go_wp2_with (first | (go_at_call 161; refine (letter_is _ _).mono ?_; rintro e w' ⟨rfl,rfl⟩; rw [hl]) | (go_at_call 164; refine (digit_is _ _).mono ?_; rintro e w' ⟨rfl,rfl⟩; rw [hf]) | (go_at_call 122; refine (run_digit _ hs _).mono ?_; rintro e w' ⟨rfl,rfl⟩) | go_in)
        go_ret2
        exact ⟨rfl,rfl⟩
    | false =>
      by_cases ha : (decide (2 ≤ s.size) && (s.data.toList.take 2 == kArrow)) = true
      · have hr : raw s.data.toList 0 = (kArrow,2) := by
          obtain ⟨h1,e0,e1⟩ := (take_arrow s h0).1 ha
          exact raw_arrow s 0 h0 h1 hl hf e0 e1
        have k : nxK s.data.toList 0 = 4 := by simp [nxK,hr,kEnd,kName,kNum,kNone,kArrow]
        have cl := cut_size s.data.toList 0 2 (by omega) (by obtain ⟨h1,_⟩ := (take_arrow s h0).1 ha; omega)
        have t : (nxT s.data.toList 0).length = 2 := by simp [nxT,k,hr,cl]
        rw [k,t]
        go_enter Tryz.func124,Tryz.ntmps124
        go_wp2_with (first | (go_at_call 161; refine (letter_is _ _).mono ?_; rintro e w' ⟨rfl,rfl⟩; rw [hl]) | (go_at_call 164; refine (digit_is _ _).mono ?_; rintro e w' ⟨rfl,rfl⟩; rw [hf]) | (go_at_call 189; refine (prefix_any _ hs _).mono ?_; rintro e w' ⟨rfl,rfl⟩; rw [ha]) | go_in)
        go_ret2
        exact ⟨rfl,rfl⟩
      · have ha' : (decide (2 ≤ s.size) && (s.data.toList.take 2 == kArrow)) = false := by simpa using ha
        have hro := raw_other s 0 h0 hl hf (fun e0 h1 e1 => ha ((take_arrow s h0).2 ⟨h1,e0,e1⟩))
        by_cases hg : s[0] ∈ signs
        · have hr : raw s.data.toList 0 = ([s[0]],1) := by
            rw [hro,if_pos hg]
          obtain ⟨m1,m2,m3,m4,m5,m6,m7,m8⟩ := sgn_mem s[0] hg
          have k : nxK s.data.toList 0 = 4 := by simp [nxK,hr,m4,m5,m6,m7]
          have cl := cut_size s.data.toList 0 1 (by omega) (by omega)
          have t : (nxT s.data.toList 0).length = 1 := by simp [nxT,k,hr,cl]
          have hx : (0 : Int) ≤ Lib.indexByte [61,40,41,44,91,93] s[0] := (ix_mem s[0] signs).2 hg
          rw [k,t]
          go_enter Tryz.func124,Tryz.ntmps124
          go_wp2_with (first | (go_at_call 161; refine (letter_is _ _).mono ?_; rintro e w' ⟨rfl,rfl⟩; rw [hl]) | (go_at_call 164; refine (digit_is _ _).mono ?_; rintro e w' ⟨rfl,rfl⟩; rw [hf]) | (go_at_call 189; refine (prefix_any _ hs _).mono ?_; rintro e w' ⟨rfl,rfl⟩; rw [ha']) | (go_at_call 190; refine (ixb_any _ _ _).mono ?_; rintro e w' ⟨rfl,rfl⟩; rw [toUInt8_back]) | go_in)
          go_ret2
          exact ⟨rfl,rfl⟩
        · have hr : raw s.data.toList 0 = (kNone,0) := by
            rw [hro,if_neg hg]
          have k : nxK s.data.toList 0 = 1 := by simp [nxK,hr,kEnd,kName,kNum,kNone]
          have t : nxT s.data.toList 0 = [] := by simp [nxT,k]
          have hx : ¬ (0 : Int) ≤ Lib.indexByte [61,40,41,44,91,93] s[0] := fun h => hg ((ix_mem s[0] signs).1 h)
          rw [k,t]
          go_enter Tryz.func124,Tryz.ntmps124
          go_wp2_with (first | (go_at_call 161; refine (letter_is _ _).mono ?_; rintro e w' ⟨rfl,rfl⟩; rw [hl]) | (go_at_call 164; refine (digit_is _ _).mono ?_; rintro e w' ⟨rfl,rfl⟩; rw [hf]) | (go_at_call 189; refine (prefix_any _ hs _).mono ?_; rintro e w' ⟨rfl,rfl⟩; rw [ha']) | (go_at_call 190; refine (ixb_any _ _ _).mono ?_; rintro e w' ⟨rfl,rfl⟩; rw [toUInt8_back]) | go_in)
          go_ret2
          exact ⟨rfl,rfl⟩
theorem drop_list (s : ByteArray) (i : Nat) (h : i ≤ s.size) : (s.extract i s.size).data.toList = s.data.toList.drop i ∧ (s.extract i s.size).size = s.size - i := by
  have e := ext_cut s i s.size
  have hl : s.data.toList.length = s.size := by rw [Array.length_toList]; rfl
  constructor
  · rw [e]
    show cut s.data.toList i s.size = _
    unfold cut
    rw [List.take_of_length_le (by omega)]
  · rw [ByteArray.size_extract]
    omega
theorem raw_drop (l : List UInt8) (J : Nat) : raw (l.drop J) 0 = ((raw l J).1,(raw l J).2 - J) := by
  have e0 : (l.drop J)[0]? = l[J]? := by rw [List.getElem?_drop]; simp
  have e1 : (l.drop J)[0 + 1]? = l[J + 1]? := by rw [List.getElem?_drop]
  unfold raw
  rw [e0,e1]
  cases l[J]? with
  | none => simp
  | some c =>
    dsimp only
    split
    · simp [upto]
    split
    · simp [upto]
    split
    · simp
    split
    · simp
    · simp
theorem nxK_drop (l : List UInt8) (J : Nat) : nxK (l.drop J) 0 = nxK l J := by
  unfold nxK
  rw [raw_drop]
  simp
theorem nxT_drop (l : List UInt8) (J : Nat) (h : J ≤ (raw l J).2) : nxT (l.drop J) 0 = nxT l J := by
  unfold nxT
  rw [nxK_drop,raw_drop]
  split
  · rfl
  · unfold cut
    dsimp only
    rw [List.drop_zero,List.take_drop]
    congr 2
    omega
def tokV (k : Nat) (t : List UInt8) (p : Nat) : Value := .agg #[.int .i64 (k : Int),.string (B t),.int .i64 (p : Int)]
theorem next_any (s : ByteArray) (i : Nat) (hi : i ≤ s.size) (hs : s.size ≤ 300) (w : World) : Calls Tryz.prog 82 #[.string s,.int .i64 (i : Int)] w fun e w' => e = .returned (tokV (nxK s.data.toList (upto isB s.data.toList i)) (nxT s.data.toList (upto isB s.data.toList i)) (upto isB s.data.toList i)) ∧ w.grownBy w' none := by
  have hsl : s.data.toList.length = s.size := by rw [Array.length_toList]; rfl
  obtain ⟨J,hJ⟩ : ∃ J,J = upto isB s.data.toList i := ⟨_,rfl⟩
  have hJb := upto_le isB s.data.toList i (by omega)
  have hrun : run isB (s.extract i s.size).data.toList = J - i := by
    rw [(drop_list s i hi).1,hJ]
    simp [upto]
  rw [← hJ] at hJb ⊢
  rw [hsl] at hJb
  obtain ⟨hJ1,hJ2⟩ := hJb
  have hsz := (drop_list s i hi).2
  have hadd : (i : Int) + ((J - i : Nat) : Int) = (J : Int) := by omega
  have hrl := raw_le s J hJ2
  clear hJ
  by_cases he : J = s.size
  · have k : nxK s.data.toList J = 0 := by
      rw [nxK,raw_end s J (by omega)]
      simp
    have t : nxT s.data.toList J = [] := by simp [nxT,k]
    rw [k,t]
    go_enter Tryz.func82,Tryz.ntmps82
    go_wp2_with (first | (go_at_call 122; refine (run_blank _ (by omega) _).mono ?_; rintro e w' ⟨rfl,rfl⟩; rw [hrun]))
    refine bodyPost_ret (v := tokV 0 [] J) (by simp [results,Tryz.results82,go_sem]; rw [show (i : Int) + ((s.size - i : Nat) : Int) = (J : Int) from by omega]; rfl) rfl ?_
    exact ⟨rfl,World.grownBy_alloc _ _ _⟩
  · have hJ3 : J < s.size := by omega
    have hne : ((J : Int) == (s.size : Int)) = false := by simp; omega
    have dl := drop_list s J hJ2
    have hk : nxK (s.extract J s.size).data.toList 0 = nxK s.data.toList J := by rw [dl.1]; exact nxK_drop _ _
    have ht : nxT (s.extract J s.size).data.toList 0 = nxT s.data.toList J := by rw [dl.1]; exact nxT_drop _ _ hrl.1
    have hml : (nxT s.data.toList J).length ≤ s.size - J := by
      unfold nxT
      split
      · simp
      · rw [cut_size _ _ _ hrl.1 (by omega)]; omega
    have hx : s.extract J (J + (nxT s.data.toList J).length) = B (nxT s.data.toList J) := by
      rw [ext_cut]
      congr 1
      unfold nxT
      split
      · simp [cut]
      · rw [cut_size _ _ _ hrl.1 (by omega)]
        congr 1
        omega
    generalize hkk : nxK s.data.toList J = kk at *
    generalize htt : nxT s.data.toList J = tt at *
    have hml2 : (J : Int) + (tt.length : Int) ≤ (s.size : Int) := by omega
    go_enter Tryz.func82,Tryz.ntmps82
    go_wp2_with (first | (go_at_call 122; refine (run_blank _ (by omega) _).mono ?_; rintro e w' ⟨rfl,rfl⟩; rw [hrun]) | (go_at_call 124; refine (measure_any _ (by omega) (by omega) _).mono ?_; rintro e w' ⟨rfl,rfl⟩; rw [hk,ht]))
    refine bodyPost_ret (v := tokV kk tt J) ?_ rfl ?_
    · simp [results,Tryz.results82,go_sem]; rfl
    exact ⟨rfl,World.grownBy_alloc _ _ _⟩
def Kept (rb : Nat) (w w' : World) : Prop := w.grownBy w' (some rb)
theorem Kept.refl (rb : Nat) (w : World) : Kept rb w w := ⟨rfl,rfl,rfl,Nat.le_refl _,fun _ _ _ => rfl⟩
theorem Kept.trans {rb : Nat} {a b c : World} (h : Kept rb a b) (k : Kept rb b c) : Kept rb a c :=
  ⟨k.os.trans h.os,k.tape.trans h.tape,k.output.trans h.output,Nat.le_trans h.size k.size,fun i hi hn => (k.block i (Nat.lt_of_lt_of_le hi h.size) hn).trans (h.block i hi hn)⟩
theorem Kept.alloc {rb : Nat} {a b : World} (h : Kept rb a b) (o : Obj) : Kept rb a (b.alloc o) := h.trans (World.grownBy_alloc b o _)
theorem Kept.setCell {rb : Nat} {a b : World} (h : Kept rb a b) (i : Nat) (v : Value) : Kept rb a (b.setCell ⟨rb,i,none⟩ v) :=
  h.trans ⟨rfl,rfl,rfl,by simp [World.setCell],fun k _ hn => Below.heap_setCell _ _ _ _ (fun e => hn (by rw [e]))⟩
theorem Kept.drew {rb : Nat} {a b : World} (h : Kept rb a b) : Kept rb a b.drew := ⟨h.os,h.tape,h.output,h.size,h.block⟩
theorem cell_past {w : World} {b o : Nat} {v : Value} (h : w.cell? ⟨b,o,none⟩ = some v) (x : Obj) : (w.alloc x).cell? ⟨b,o,none⟩ = some v := by
  have hl : b < w.heap.size := by
    rcases Nat.lt_or_ge b w.heap.size with h' | h'
    · exact h'
    · simp [World.cell?,Array.getElem?_eq_none h'] at h
  rw [World.cell?_alloc_past _ _ _ hl]
  exact h
def St.up (s : St) : St := ⟨s.k + 1,s.bad⟩
def atomS (E : St → Option (Ex × St)) (T : List Tok) (s : St) : Option (Ex × St) :=
  if isS T s kName = true ∨ isS T s kNum = true then some (⟨(tk T s.k).is,[(tk T s.k).s],[],(tk T s.k).pos⟩,s.up)
  else match E (needS T s kOpen) with
    | none => none
    | some (x,s1) =>
      if isS T s1 kComma = true then match E s1.up with
        | none => none
        | some (y,s2) => some (⟨oPair,[],[x,y],(tk T s.k).pos⟩,needS T s2 kShut)
      else some (x,needS T s1 kShut)
def appS (A : St → Option (Ex × St)) (T : List Tok) : Nat → Ex → St → Option (Ex × St)
  | 0,_,_ => none
  | f + 1,x,s =>
    if isS T s kName = true ∨ isS T s kNum = true ∨ isS T s kOpen = true then match A s with
      | none => none
      | some (y,s1) => appS A T f ⟨oApp,[],[x,y],x.pos⟩ s1
    else some (x,s)
def twiceS (names : List (List UInt8)) (n : List UInt8) (p : Nat) (s : St) : St := if n ∈ names ∧ s.bad < 0 then ⟨s.k,(p : Int)⟩ else s
def boundS (E : St → Option (Ex × St)) (T : List Tok) (x : Ex) (s : St) : Option (Ex × St) :=
  match E (needS T (twiceS x.names (tk T s.k).s (tk T s.k).pos (needS T s kName)) kEq) with
  | none => none
  | some (b,s4) => some (⟨x.op,x.names ++ [(tk T s.k).s],x.kids ++ [b],x.pos⟩,s4)
def bindsS (E : St → Option (Ex × St)) (T : List Tok) : Nat → Ex → St → Option (Ex × St)
  | 0,_,_ => none
  | f + 1,x,s =>
    if x.op = kRec ∧ isS T s kAnd = true then match boundS E T x s.up with
      | none => none
      | some (y,s1) => bindsS E T f y s1
    else some (x,s)
def expS (T : List Tok) : Nat → St → Option (Ex × St)
  | 0,_ => none
  | n + 1,s =>
    if 0 ≤ s.bad then some (⟨[],[],[],(tk T s.k).pos⟩,s)
    else if isS T s kFun = true then
      match expS T n (needS T (needS T s.up kName) kArrow) with
      | none => none
      | some (b,s4) => some (⟨kFun,[(tk T s.up.k).s],[b],(tk T s.k).pos⟩,s4)
    else if isS T s kIf = true then
      match expS T n s.up with
      | none => none
      | some (c,s1) => match expS T n (needS T s1 kThen) with
        | none => none
        | some (a,s2) => match expS T n (needS T s2 kElse) with
          | none => none
          | some (b,s3) => some (⟨kIf,[],[c,a,b],(tk T s.k).pos⟩,s3)
    else if isS T s kLet = true then
      match boundS (expS T n) T ⟨if isS T s.up kRec = true then kRec else kLet,[],[],(tk T s.k).pos⟩ (takeS T s.up kRec) with
      | none => none
      | some (x,s1) => match bindsS (expS T n) T (T.length + 1) x s1 with
        | none => none
        | some (y,s2) => match expS T n (needS T s2 kIn) with
          | none => none
          | some (b,s3) => some (⟨y.op,y.names,y.kids ++ [b],y.pos⟩,s3)
    else match atomS (expS T n) T s with
      | none => none
      | some (x,s1) => appS (atomS (expS T n) T) T (T.length + 1) x s1
def Fz (H : Nat → Option Obj) (w : World) : Prop := ∀ k o,H k = some o → w.heap[k]? = some o
theorem Fz.lt {H : Nat → Option Obj} {w : World} (h : Fz H w) {k : Nat} {o : Obj} (e : H k = some o) : k < w.heap.size := lt_of_block (h k o e)
theorem Fz.none {H : Nat → Option Obj} {w : World} (h : Fz H w) {k : Nat} (hk : w.heap.size ≤ k) : H k = none := by
  cases e : H k with
  | none => rfl
  | some o => have := h.lt e; omega
theorem Fz.alloc {H : Nat → Option Obj} {w : World} (h : Fz H w) (o : Obj) : Fz H (w.alloc o) := fun k x e => by
  rw [Below.heap_alloc _ _ _ (h.lt e)]; exact h k x e
theorem Fz.drew {H : Nat → Option Obj} {w : World} (h : Fz H w) : Fz H w.drew := h
theorem Fz.kept {H : Nat → Option Obj} {w w' : World} {rb : Nat} (h : Fz H w) (hk : Kept rb w w') (hr : H rb = Option.none) : Fz H w' := fun k x e => by
  rw [hk.block k (h.lt e) (fun e' => by rw [Option.some.inj e',hr] at e; cases e)]; exact h k x e
theorem Fz.set {H : Nat → Option Obj} {w : World} (h : Fz H w) {b : Nat} (hb : H b = Option.none) (i : Nat) (v : Value) : Fz H (w.setCell ⟨b,i,Option.none⟩ v) := fun k x e => by
  rw [Below.heap_setCell _ _ _ _ (fun e' => by have e2 : k = b := e'; rw [e2,hb] at e; cases e)]; exact h k x e
def Fz.more (H : Nat → Option Obj) (b : Nat) (o : Obj) : Nat → Option Obj := fun k => if k = b then some o else H k
theorem Fz.add {H : Nat → Option Obj} {w : World} (h : Fz H w) {b : Nat} {o : Obj} (hb : w.heap[b]? = some o) : Fz (Fz.more H b o) w := fun k x e => by
  unfold Fz.more at e
  split at e
  · rename_i hk; subst hk; rw [← Option.some.inj e]; exact hb
  · exact h k x e
def Ext (n : Nat) (H H' : Nat → Option Obj) : Prop := (∀ k o,H k = some o → H' k = some o) ∧ ∀ k,k < n → H' k = H k
theorem Ext.refl (n : Nat) (H : Nat → Option Obj) : Ext n H H := ⟨fun _ _ e => e,fun _ _ => rfl⟩
theorem Ext.trans {n m : Nat} {H H' H'' : Nat → Option Obj} (h : Ext n H H') (k : Ext m H' H'') (hm : n ≤ m) : Ext n H H'' :=
  ⟨fun i o e => k.1 i o (h.1 i o e),fun i hi => (k.2 i (by omega)).trans (h.2 i hi)⟩
theorem Ext.add {n : Nat} {H H' : Nat → Option Obj} (h : Ext n H H') {b : Nat} {o : Obj} (hb : n ≤ b) (hn : H' b = none) : Ext n H (Fz.more H' b o) := by
  refine ⟨fun i x e => ?_,fun i hi => ?_⟩
  · unfold Fz.more
    rw [if_neg (fun e' => by have := h.1 i x e; rw [e',hn] at this; cases this)]
    exact h.1 i x e
  · unfold Fz.more
    rw [if_neg (by omega)]
    exact h.2 i hi
def RowH (H : Nat → Option Obj) (t : TypeId) (v : Value) (xs : List Value) : Prop :=
  (v = .slice none 0 0 ∧ xs = []) ∨ ∃ g cap cur,v = .slice (some ⟨g,0,none⟩) xs.length cap ∧ H g = some (.cells cur t (0,0)) ∧ cur.toList.take xs.length = xs
def ptrs (bs : List Nat) : List Value := bs.map fun b => .pointer (some ⟨b,0,none⟩)
def strs (ns : List (List UInt8)) : List Value := ns.map fun x => .string (B x)
theorem Fz.more_same (H : Nat → Option Obj) (b : Nat) (o : Obj) : Fz.more H b o b = some o := by simp [Fz.more]
def Wf (T : List Tok) : Prop := 0 < T.length ∧ ∀ k,k < T.length → ((tk T k).is = kNone ∨ (tk T k).is = kEnd ↔ k + 1 = T.length)
theorem Wf.up {T : List Tok} (h : Wf T) {s : St} {x : List UInt8} (hk : s.k < T.length) (hi : isS T s x = true) (h1 : x ≠ kNone) (h2 : x ≠ kEnd) : s.k + 1 < T.length := by
  have e : (tk T s.k).is = x := by
    simp only [isS,Bool.and_eq_true,beq_iff_eq] at hi
    exact hi.2
  rcases Nat.lt_or_ge (s.k + 1) T.length with hlt | hge
  · exact hlt
  · have := (h.2 s.k hk).2 (by omega)
    rw [e] at this
    exact absurd this (by simp [h1,h2])
theorem Wf.need {T : List Tok} (h : Wf T) {s : St} {x : List UInt8} (hk : s.k < T.length) (h1 : x ≠ kNone) (h2 : x ≠ kEnd) : (needS T s x).k < T.length := by
  unfold needS
  split
  · rename_i hi; exact h.up hk hi h1 h2
  · exact hk
theorem kept_cell {rb : Nat} {w w' : World} (h : Kept rb w w') {b o : Nat} (hb : b < w.heap.size) (hn : b ≠ rb) : w'.cell? ⟨b,o,none⟩ = w.cell? ⟨b,o,none⟩ :=
  World.cell?_of_block (a := ⟨b,o,none⟩) (h.block b hb (by simp; exact hn))
def At (kw : List (List UInt8)) (l : List UInt8) (T : List Tok) (k J : Nat) : Prop :=
  J ≤ l.length ∧ ∃ f,l.length ≤ J + f ∧ T.drop k = if (tokAt kw l J).1.is = kNone ∨ (tokAt kw l J).1.is = kEnd then [(tokAt kw l J).1] else (tokAt kw l J).1 :: toks kw l f (tokAt kw l J).2
theorem At.start (kw : List (List UInt8)) (l : List UInt8) : At kw l (toks kw l (l.length + 1) 0) 0 (upto isB l 0) := by
  refine ⟨(upto_le isB l 0 (by omega)).2,l.length,by omega,?_⟩
  rw [List.drop_zero,toks]
theorem At.cons {kw : List (List UInt8)} {l : List UInt8} {T : List Tok} {k J : Nat} (h : At kw l T k J) : ∃ r,T.drop k = (tokAt kw l J).1 :: r := by
  obtain ⟨_,f,_,h2⟩ := h
  rw [h2]
  split
  · exact ⟨_,rfl⟩
  · exact ⟨_,rfl⟩
theorem At.lt {kw : List (List UInt8)} {l : List UInt8} {T : List Tok} {k J : Nat} (h : At kw l T k J) : k < T.length := by
  obtain ⟨r,hr⟩ := h.cons
  rcases Nat.lt_or_ge k T.length with h' | h'
  · exact h'
  · rw [List.drop_eq_nil_of_le h'] at hr
    cases hr
theorem At.tk {kw : List (List UInt8)} {l : List UInt8} {T : List Tok} {k J : Nat} (h : At kw l T k J) : tk T k = (tokAt kw l J).1 := by
  obtain ⟨r,hr⟩ := h.cons
  have : (T.drop k)[0]? = some (tokAt kw l J).1 := by rw [hr]; rfl
  rw [List.getElem?_drop] at this
  simp only [Nat.add_zero] at this
  unfold Proofs.YtcdijppegfcoaabGreatDoor.tk
  rw [List.getD_eq_getElem?_getD,this]
  rfl
theorem At.next {kw : List (List UInt8)} (hkw : KwOK kw) {l : List UInt8} {T : List Tok} {k J : Nat} (h : At kw l T k J) (h1 : (Proofs.YtcdijppegfcoaabGreatDoor.tk T k).is ≠ kNone) (h2 : (Proofs.YtcdijppegfcoaabGreatDoor.tk T k).is ≠ kEnd) :
    At kw l T (k + 1) (upto isB l (J + (nxT l J).length)) ∧ J + (nxT l J).length ≤ l.length := by
  have ht := h.tk
  have ha := asked kw hkw l J h.1
  rw [ht] at h1 h2
  obtain ⟨r1,r2,r3,r4⟩ := ha.real h1 h2
  obtain ⟨_,f,hf,he⟩ := h
  rw [if_neg (by simp [h1,h2])] at he
  rw [r2] at he r3 r4
  have hu := upto_le isB l (J + (nxT l J).length) r4
  refine ⟨⟨hu.2,f - 1,by omega,?_⟩,r4⟩
  have e2 : T.drop (k + 1) = (T.drop k).drop 1 := by rw [List.drop_drop]
  rw [e2,he]
  obtain ⟨f',rfl⟩ : ∃ f',f = f' + 1 := ⟨f - 1,by omega⟩
  rw [List.drop_succ_cons,List.drop_zero,toks]
  rfl
def Rdr (w : World) (rb : Nat) (s : ByteArray) (J : Nat) : Prop :=
  w.heap[rb]? = some (.cells #[.string s,.int .i64 ((nxK s.data.toList J : Nat) : Int),.string (B (nxT s.data.toList J)),.int .i64 (J : Int)] 208 (0,0))
theorem four_p {w : World} {b : Nat} {p q r s : Value} {t : TypeId} (h : w.heap[b]? = some (.cells #[p,q,r,s] t (0,0))) :
    w.cell? ⟨b,0,none⟩ = some p ∧ w.cell? ⟨b,1,none⟩ = some q ∧ w.cell? ⟨b,2,none⟩ = some r ∧ w.cell? ⟨b,3,none⟩ = some s ∧ w.frozen? ⟨b,1,none⟩ = false ∧ w.frozen? ⟨b,2,none⟩ = false ∧ w.frozen? ⟨b,3,none⟩ = false := by
  simp [World.cell?,World.frozen?,h]
theorem set_four {w : World} {b : Nat} {p q r s : Value} {t : TypeId} (h : w.heap[b]? = some (.cells #[p,q,r,s] t (0,0))) (x y z : Value) :
    (((w.setCell ⟨b,1,none⟩ x).setCell ⟨b,2,none⟩ y).setCell ⟨b,3,none⟩ z).heap[b]? = some (.cells #[p,x,y,z] t (0,0)) := by
  simp [World.setCell,Array.getElem?_modify,h]
theorem Kept.of0 {w w' : World} (rb : Nat) (h : w.grownBy w' none) : Kept rb w w' := ⟨h.os,h.tape,h.output,h.size,fun i hi _ => h.block i hi (by simp)⟩
theorem behind_p (k : Nat) (t : List UInt8) (p : Nat) (ht : t.length ≤ 300) (hp : p ≤ 300) (w : World) :
    Calls Tryz.prog 167 #[tokV k t p] w fun e w' => e = .returned (.int .i64 ((p + t.length : Nat) : Int)) ∧ w' = w.alloc (.cells #[.int .i64 (k : Int),.string (B t),.int .i64 (p : Int)] 205) := by
  have hb : (B t).size = t.length := by simp [B,ByteArray.size]
  unfold tokV
  go_enter Tryz.func167,Tryz.ntmps167
  go_wp2
  go_ret
  exact ⟨by rw [Int.natCast_add]; rfl,rfl⟩
theorem take_p (w : World) (rb : Nat) (s : ByteArray) (J : Nat) (hs : s.size ≤ 300) (h : Rdr w rb s J) (hJ : J + (nxT s.data.toList J).length ≤ s.size) :
    Calls Tryz.prog 125 #[.pointer (some ⟨rb,0,none⟩)] w fun e w' => e = .returned (.string (B (nxT s.data.toList J))) ∧ Rdr w' rb s (upto isB s.data.toList (J + (nxT s.data.toList J).length)) ∧ Kept rb w w' := by
  have hlt := lt_of_block h
  generalize hkk : nxK s.data.toList J = kk at *
  generalize htt : nxT s.data.toList J = tt at *
  have hb : w.heap[rb]? = some (.cells #[.string s,.int .i64 (kk : Int),.string (B tt),.int .i64 (J : Int)] 208 (0,0)) := by rw [← hkk,← htt]; exact h
  obtain ⟨c0,c1,c2,c3,f1,f2,f3⟩ := four_p hb
  have a0 := fun x => cell_past c0 x
  have HB := hid hb
  clear h hb
  go_enter Tryz.func125,Tryz.ntmps125
  go_wp2_with fail
  go_region_with (first | (go_at_call 82; refine (next_any s (J + tt.length) hJ hs _).mono ?_; rintro e w7 ⟨rfl,hg⟩; dsimp only [tokV]; have e7 := (hg.block rb (by simp; omega) (by simp)).trans ((Below.heap_alloc _ _ _ hlt).trans HB.out); have p7 := four_p e7; have E7 := hid e7; have G7 := hid hg; obtain ⟨_,_,_,_,g1,g2,g3⟩ := p7; clear e7 hg) | (go_at_call 167; refine (behind_p kk tt J (by omega) (by omega) _).mono ?_; rintro e w6 ⟨rfl,rfl⟩))
  all_goals
    go_wp2
    go_ret
    exact ⟨rfl,set_four E7.out _ _ _,(((((((Kept.refl rb w).alloc _).drew).trans (Kept.of0 rb G7.out)).setCell _ _).setCell _ _).setCell _ _)⟩
end Go.Proofs.YtcdijppegfcoaabGreatDoor
