/-
  OUR OWN TEXT. Texts in memory: bytes, cuts, the blocks that typerref.tokens makes.
-/
import Derived.Test.YtcdijppegfcoaabGreatDoorLex
namespace Go.Proofs.YtcdijppegfcoaabGreatDoor
open Go.RowKit

/-- The keywords, as they lie in memory. -/
def KwAt (w : World) (kb : Nat) (kw : List (List UInt8)) : Prop := ∀ j, j < kw.length → w.cell? ⟨kb, j, none⟩ = some (.string (B (kw.getD j [])))

theorem byteAt (s : ByteArray) (k : Nat) (h : k < s.size) : s.data.toList[k]? = some (s[k]'h) := by
  rw [Array.getElem?_toList]
  exact Array.getElem?_eq_getElem h

theorem raw_end (s : ByteArray) (J : Nat) (h : ¬ J < s.size) : raw s.data.toList J = (kEnd, J) := by
  unfold raw
  rw [List.getElem?_eq_none (by rw [Array.length_toList]; exact Nat.le_of_not_lt h)]
theorem raw_name (s : ByteArray) (J : Nat) (h : J < s.size) (h1 : low s[J] = true) : raw s.data.toList J = (kName, upto lowfig s.data.toList J) := by
  unfold raw
  rw [byteAt s J h]
  simp only [h1, if_true]
theorem raw_num (s : ByteArray) (J : Nat) (h : J < s.size) (h1 : low s[J] = false) (h2 : fig s[J] = true) : raw s.data.toList J = (kNum, upto fig s.data.toList J) := by
  unfold raw
  rw [byteAt s J h]
  simp only [h1, h2, if_true, Bool.false_eq_true, if_false]
theorem raw_arrow (s : ByteArray) (J : Nat) (h : J < s.size) (h' : J + 1 < s.size) (h1 : low s[J] = false) (h2 : fig s[J] = false) (h3 : s[J] = 45) (h4 : s[J + 1] = 62) : raw s.data.toList J = (kArrow, J + 2) := by
  unfold raw
  rw [byteAt s J h]
  simp only [h1, h2, Bool.false_eq_true, if_false]
  rw [if_pos ⟨h3, by rw [byteAt s (J + 1) h', h4]⟩]
theorem raw_other (s : ByteArray) (J : Nat) (h : J < s.size) (h1 : low s[J] = false) (h2 : fig s[J] = false) (h3 : s[J] = 45 → ∀ h' : J + 1 < s.size, s[J + 1] ≠ 62) :
    raw s.data.toList J = if s[J] ∈ signs then ([s[J]], J + 1) else (kNone, J) := by
  unfold raw
  rw [byteAt s J h]
  simp only [h1, h2, Bool.false_eq_true, if_false]
  rw [if_neg]
  rintro ⟨e1, e2⟩
  have hl : J + 1 < s.size := by
    rcases Nat.lt_or_ge (J + 1) s.size with hlt | hge
    · exact hlt
    · rw [List.getElem?_eq_none (by rw [Array.length_toList]; exact hge)] at e2
      cases e2
  rw [byteAt s (J + 1) hl] at e2
  exact h3 e1 hl (Option.some.inj e2)
theorem raw_le (s : ByteArray) (J : Nat) (h : J ≤ s.size) : J ≤ (raw s.data.toList J).2 ∧ (raw s.data.toList J).2 ≤ s.size := by
  have hl : s.data.toList.length = s.size := by rw [Array.length_toList]; rfl
  have h1 := upto_le lowfig s.data.toList J (by omega)
  have h2 := upto_le fig s.data.toList J (by omega)
  unfold raw
  cases hc : s.data.toList[J]? with
  | none => exact ⟨Nat.le_refl _, h⟩
  | some c =>
    have hlt : J < s.size := by
      rcases Nat.lt_or_ge J s.size with h' | h'
      · exact h'
      · rw [List.getElem?_eq_none (by omega)] at hc
        cases hc
    dsimp only
    split
    · dsimp only; omega
    split
    · dsimp only; omega
    split
    · rename_i h3
      have : J + 1 < s.size := by
        rcases Nat.lt_or_ge (J + 1) s.size with h' | h'
        · exact h'
        · rw [List.getElem?_eq_none (by omega)] at h3
          cases h3.2
      dsimp only; omega
    split
    · dsimp only; omega
    · dsimp only; omega
theorem int_byte (c : UInt8) (n : Nat) (hn : n < 256) : ((c.toNat : Int) == (n : Int)) = true ↔ c = UInt8.ofNat n := by
  rw [beq_iff_eq, ← UInt8.toNat_inj, UInt8.toNat_ofNat_of_lt' hn]
  omega

theorem heap_alloc_at (w : World) (o : Obj) (n : Nat) (h : n = w.heap.size) : (w.alloc o).heap[n]? = some o := by
  subst h
  exact heap_alloc_new _ _
theorem signs_start (w : World) (J : Nat) : ((w.alloc (.cells #[Value.string { data := #[110, 111, 110, 101] }, Value.string { data := #[] }, Value.int IntKind.i64 (J : Int)] 99002)).alloc (.cells #[Value.int IntKind.u8 61, Value.int IntKind.u8 40, Value.int IntKind.u8 41, Value.int IntKind.u8 44, Value.int IntKind.u8 91, Value.int IntKind.u8 93] 5 (6, 7))).heap[w.heap.size]? = some (.cells #[.string (B kNone), .string (B []), .int .i64 (J : Int)] 99002 (0, 0)) := by
  rw [Below.heap_alloc _ _ _ (by simp)]
  exact heap_alloc_new _ _
theorem signs_cell {w : World} {b : Nat} (h : w.heap[b]? = some (.cells #[Value.int IntKind.u8 61, Value.int IntKind.u8 40, Value.int IntKind.u8 41, Value.int IntKind.u8 44, Value.int IntKind.u8 91, Value.int IntKind.u8 93] 5 (6, 7))) (j : Nat) (hj : j < 6) : w.cell? ⟨b, j, none⟩ = some (.int .u8 ((signs.getD j 0).toNat : Int)) := by
  match j, hj with
  | 0, _ => simp [World.cell?, h, signs]
  | 1, _ => simp [World.cell?, h, signs]
  | 2, _ => simp [World.cell?, h, signs]
  | 3, _ => simp [World.cell?, h, signs]
  | 4, _ => simp [World.cell?, h, signs]
  | 5, _ => simp [World.cell?, h, signs]
  | j + 6, h => omega
theorem cell_first {w : World} {b : Nat} {x y z : Value} {t : TypeId} (h : w.heap[b]? = some (.cells #[x, y, z] t (0, 0))) : w.cell? ⟨b, 0, none⟩ = some x := by simp [World.cell?, h]
theorem cell_second {w : World} {b : Nat} {x y z : Value} {t : TypeId} (h : w.heap[b]? = some (.cells #[x, y, z] t (0, 0))) : w.cell? ⟨b, 1, none⟩ = some y := by simp [World.cell?, h]
theorem cell_third {w : World} {b : Nat} {x y z : Value} {t : TypeId} (h : w.heap[b]? = some (.cells #[x, y, z] t (0, 0))) : w.cell? ⟨b, 2, none⟩ = some z := by simp [World.cell?, h]
theorem free_first {w : World} {b : Nat} {c : Array Value} {t : TypeId} (h : w.heap[b]? = some (.cells c t (0, 0))) : w.frozen? ⟨b, 0, none⟩ = false := by simp [World.frozen?, h]
theorem free_second {w : World} {b : Nat} {c : Array Value} {t : TypeId} (h : w.heap[b]? = some (.cells c t (0, 0))) : w.frozen? ⟨b, 1, none⟩ = false := by simp [World.frozen?, h]
theorem set_first {w : World} {b : Nat} {x y z : Value} {t : TypeId} (h : w.heap[b]? = some (.cells #[x, y, z] t (0, 0))) (u : Value) : (w.setCell ⟨b, 0, none⟩ u).heap[b]? = some (.cells #[u, y, z] t (0, 0)) := by
  simp [World.setCell, Array.getElem?_modify, h]
theorem set_second {w : World} {b : Nat} {x y z : Value} {t : TypeId} (h : w.heap[b]? = some (.cells #[x, y, z] t (0, 0))) (u : Value) : (w.setCell ⟨b, 1, none⟩ u).heap[b]? = some (.cells #[x, u, z] t (0, 0)) := by
  simp [World.setCell, Array.getElem?_modify, h]
theorem ext_cut (s : ByteArray) (i k : Nat) : s.extract i k = B (cut s.data.toList i k) := by
  apply ByteArray.ext
  rw [ByteArray.data_extract]
  apply Array.ext'
  simp only [B, cut, Array.toList_extract, List.extract_eq_drop_take', List.toList_toArray]
  try rw [List.drop_take]
theorem cut_one (s : ByteArray) (J : Nat) (h : J < s.size) : cut s.data.toList J (J + 1) = [s[J]] := by
  have hb := byteAt s J h
  unfold cut
  rw [List.take_add_one, List.drop_append_of_le_length (by rw [List.length_take, Array.length_toList]; exact Nat.le_min.2 ⟨Nat.le_refl _, Nat.le_of_lt h⟩), List.drop_of_length_le (by rw [List.length_take]; exact Nat.min_le_left _ _), hb]
  rfl
theorem signs_hit (c : UInt8) (j : Nat) (hj : j < 6) (h : c.toNat = (signs.getD j 0).toNat) : c ∉ signs.take j ∧ c ∈ signs.take (j + 1) := by
  have e : c = signs.getD j 0 := UInt8.toNat_inj.1 h
  subst e
  match j, hj with
  | 0, _ => decide
  | 1, _ => decide
  | 2, _ => decide
  | 3, _ => decide
  | 4, _ => decide
  | 5, _ => decide
  | j + 6, h => omega
theorem signs_miss (c : UInt8) (j : Nat) (hj : j < 6) (h : c.toNat ≠ (signs.getD j 0).toNat) : c ∈ signs.take (j + 1) ↔ c ∈ signs.take j := by
  have hne : c ≠ signs.getD j 0 := fun e => h (by rw [e])
  have e : signs.take (j + 1) = signs.take j ++ [signs.getD j 0] := by
    match j, hj with
    | 0, _ => rfl
    | 1, _ => rfl
    | 2, _ => rfl
    | 3, _ => rfl
    | 4, _ => rfl
    | 5, _ => rfl
    | j + 6, h => omega
  rw [e, List.mem_append, List.mem_singleton]
  exact ⟨fun h => h.elim id (fun h => absurd h hne), Or.inl⟩

theorem toList_B (l : List UInt8) : (B l).toList = l := by
  rw [ByteArray.toList_eq]; rfl
/-- A name, or a number, that is too long. -/
def bigB (r1 : List UInt8) (J r2 : Nat) : Bool := decide ((r1 = kName ∨ r1 = kNum) ∧ r2 - J > 8)

theorem big_yes {r1 : List UInt8} {J r2 : Nat} (h : r1 = kName ∨ r1 = kNum) : decide ((8 : Int) < (r2 : Int) - (J : Int)) = bigB r1 J r2 := by
  unfold bigB
  rw [decide_eq_decide]
  constructor
  · intro h8; exact ⟨h, by omega⟩
  · rintro ⟨_, h8⟩; omega
theorem big_no {r1 : List UInt8} {J r2 : Nat} (h1 : ¬ r1 = kName) (h2 : ¬ r1 = kNum) : false = bigB r1 J r2 := by
  unfold bigB
  simp [h1, h2]
/-- What the token is, when its length has been looked at. -/
def bounded (r1 : List UInt8) (J r2 : Nat) : List UInt8 := if bigB r1 J r2 = true then kNone else r1

theorem notB (c : UInt8) (h : isB c = false) : ((c.toNat : Int) == 32) = false ∧ ((c.toNat : Int) == 10) = false := by
  simp only [isB, Bool.or_eq_false_iff, beq_eq_false_iff_ne, ne_eq, ← UInt8.toNat_inj] at h
  have h1 : c.toNat ≠ 32 := h.1
  have h2 : c.toNat ≠ 10 := h.2
  exact ⟨beq_eq_false_iff_ne.2 (by omega), beq_eq_false_iff_ne.2 (by omega)⟩


theorem sign_yes {s : ByteArray} {J kk j q : Nat} (hJ : J < s.size) {wc wi : World} (hj : j < 6) (hk : kk = J + (if s[J] ∈ signs.take j then 1 else 0))
    (ht : wi.heap[wc.heap.size]? = some (.cells #[.string (if s[J] ∈ signs.take j then B [s[J]] else B kNone), .string (B []), .int .i64 (J : Int)] 99002 (0, 0)))
    (hs : wi.heap[wc.heap.size + 1]? = some (.cells #[Value.int IntKind.u8 61, Value.int IntKind.u8 40, Value.int IntKind.u8 41, Value.int IntKind.u8 44, Value.int IntKind.u8 91, Value.int IntKind.u8 93] 5 (6, 7))) (hb : Below wc.heap.size wc wi) (hq : q = (signs.getD j 0).toNat) (hc : ((s[J].toNat : Int) == (q : Int)) = true) :
    (kk + 1 = J + (if s[J] ∈ signs.take (j + 1) then 1 else 0)) ∧
    (wi.setCell ⟨wc.heap.size, 0, none⟩ (.string (s.extract J (J + 1)))).heap[wc.heap.size]? = some (.cells #[.string (if s[J] ∈ signs.take (j + 1) then B [s[J]] else B kNone), .string (B []), .int .i64 (J : Int)] 99002 (0, 0)) ∧
    (wi.setCell ⟨wc.heap.size, 0, none⟩ (.string (s.extract J (J + 1)))).heap[wc.heap.size + 1]? = some (.cells #[Value.int IntKind.u8 61, Value.int IntKind.u8 40, Value.int IntKind.u8 41, Value.int IntKind.u8 44, Value.int IntKind.u8 91, Value.int IntKind.u8 93] 5 (6, 7)) ∧ Below wc.heap.size wc (wi.setCell ⟨wc.heap.size, 0, none⟩ (.string (s.extract J (J + 1)))) := by
  have e : s[J].toNat = (signs.getD j 0).toNat := by
    rw [beq_iff_eq] at hc
    omega
  obtain ⟨h1, h2⟩ := signs_hit s[J] j hj e
  rw [if_neg h1] at hk
  refine ⟨by rw [if_pos h2]; omega, ?_, ?_, hb.setCell (Nat.le_refl _) _⟩
  · rw [set_first ht, if_pos h2, ext_cut, cut_one s J hJ]
  · rw [Below.heap_setCell _ _ _ _ (by show _ ≠ wc.heap.size; omega)]
    exact hs
theorem sign_no {s : ByteArray} {J kk j q : Nat} (hJ : J < s.size) {wc wi : World} (hj : j < 6) (hk : kk = J + (if s[J] ∈ signs.take j then 1 else 0))
    (ht : wi.heap[wc.heap.size]? = some (.cells #[.string (if s[J] ∈ signs.take j then B [s[J]] else B kNone), .string (B []), .int .i64 (J : Int)] 99002 (0, 0)))
    (hq : q = (signs.getD j 0).toNat) (hc : ((s[J].toNat : Int) == (q : Int)) = false) :
    (kk = J + (if s[J] ∈ signs.take (j + 1) then 1 else 0)) ∧
    wi.heap[wc.heap.size]? = some (.cells #[.string (if s[J] ∈ signs.take (j + 1) then B [s[J]] else B kNone), .string (B []), .int .i64 (J : Int)] 99002 (0, 0)) := by
  have e : s[J].toNat ≠ (signs.getD j 0).toNat := by
    rw [beq_eq_false_iff_ne] at hc
    omega
  have h := signs_miss s[J] j hj e
  exact ⟨by simp only [h]; exact hk, by simp only [h]; exact ht⟩
theorem sign_end {s : ByteArray} {J kk : Nat} (hJ : J < s.size) {wc wi : World} (hk : kk = J + (if s[J] ∈ signs.take 6 then 1 else 0))
    (ht : wi.heap[wc.heap.size]? = some (.cells #[.string (if s[J] ∈ signs.take 6 then B [s[J]] else B kNone), .string (B []), .int .i64 (J : Int)] 99002 (0, 0))) :
    kk = (if s[J] ∈ signs then ([s[J]], J + 1) else (kNone, J)).2 ∧
    wi.heap[wc.heap.size]? = some (.cells #[.string (B (if s[J] ∈ signs then ([s[J]], J + 1) else (kNone, J)).1), .string (B []), .int .i64 (J : Int)] 99002 (0, 0)) := by
  rw [show signs.take 6 = signs from rfl] at hk ht
  by_cases h : s[J] ∈ signs
  · rw [if_pos h] at hk ht ⊢
    exact ⟨hk, ht⟩
  · rw [if_neg h] at hk ht ⊢
    exact ⟨hk, ht⟩

/-- What the token is, when the first j keywords have been looked at. -/
def kwAfter (kw : List (List UInt8)) (b : List UInt8) (txt : List UInt8) (j : Nat) : List UInt8 := if b = kName ∧ txt ∈ kw.take j then txt else b
theorem kw_take (kw : List (List UInt8)) (j : Nat) (hj : j < kw.length) : kw.take (j + 1) = kw.take j ++ [kw.getD j []] := by
  rw [List.take_succ_eq_append_getElem hj]
  simp [List.getD, hj]
theorem kw_yes {kw : List (List UInt8)} {b txt : List UInt8} {j : Nat} (hj : j < kw.length) (h1 : kwAfter kw b txt j = kName) (h2 : txt = kw.getD j []) : kw.getD j [] = kwAfter kw b txt (j + 1) := by
  unfold kwAfter at h1 ⊢
  rw [kw_take kw j hj]
  split at h1
  · rename_i h
    rw [if_pos ⟨h.1, List.mem_append_left _ h.2⟩, h2]
  · rw [if_pos ⟨h1, by rw [← h2]; exact List.mem_append_right _ (List.mem_singleton.2 rfl)⟩, h2]
theorem kw_no {kw : List (List UInt8)} {b txt : List UInt8} {j : Nat} (hj : j < kw.length) (h : ¬ (kwAfter kw b txt j = kName ∧ txt = kw.getD j [])) : kwAfter kw b txt j = kwAfter kw b txt (j + 1) := by
  unfold kwAfter at h ⊢
  rw [kw_take kw j hj]
  by_cases hb : b = kName
  · by_cases hm : txt ∈ kw.take j
    · rw [if_pos ⟨hb, hm⟩, if_pos ⟨hb, List.mem_append_left _ hm⟩]
    · rw [if_neg (fun e => hm e.2)] at h
      have hne : txt ≠ kw.getD j [] := fun e => h ⟨hb, e⟩
      rw [if_neg (fun e => hm e.2), if_neg]
      rintro ⟨_, hx⟩
      rcases List.mem_append.1 hx with hx | hx
      · exact hm hx
      · exact hne (List.mem_singleton.1 hx)
  · rw [if_neg (fun e => hb e.1), if_neg (fun e => hb e.1)]
theorem kw_end (kw : List (List UInt8)) (l : List UInt8) (J : Nat) {r1 : List UInt8} {r2 : Nat} (hr : (r1, r2) = raw l J) {txt : List UInt8} (ht : txt = cut l J r2) :
    tokAt kw l J = (⟨kwAfter kw (bounded r1 J r2) txt kw.length, txt, J⟩, r2) := by
  unfold tokAt kwAfter bounded bigB
  rw [← hr, ht, List.take_length]
  simp only [decide_eq_true_eq]
theorem own_below {w w' : World} {base e size n : Nat} {v : Value} {xs : List Value} (h : w.ownsRow base e size v n xs) (hb : Below w.heap.size w w') : w'.ownsRow base e size v n xs := by
  obtain ⟨h1, h2⟩ := h
  refine ⟨h1, ?_⟩
  rcases h2 with h2 | ⟨g, cap, cur, hv, hg, hh, r⟩
  · exact Or.inl h2
  · exact Or.inr ⟨g, cap, cur, hv, hg, by rw [hb.block g (lt_of_block hh)]; exact hh, r⟩
theorem own_lt {w : World} {base e size n k : Nat} {v : Value} {xs : List Value} (h : w.ownsRow base e size v n xs) (hk : some k = v.ownBlock) : base ≤ k ∧ k < w.heap.size := by
  obtain ⟨_, h2⟩ := h
  rcases h2 with ⟨rfl, _⟩ | ⟨g, cap, cur, rfl, hg, hh, r⟩
  · cases hk
  · simp only [Value.ownBlock, Option.some.injEq] at hk
    subst hk
    exact ⟨hg, lt_of_block hh⟩
theorem toks_step (kw : List (List UInt8)) (l : List UInt8) (f k J : Nat) (hJ : J = upto isB l k) {t : Tok} {r2 : Nat} (ht : tokAt kw l J = (t, r2)) :
    toks kw l (f + 1) k = if t.is = kNone ∨ t.is = kEnd then [t] else t :: toks kw l f r2 := by
  rw [toks, ← hJ, ht]
theorem raw_moves (s : ByteArray) (J : Nat) {r1 : List UInt8} {r2 : Nat} (hr : (r1, r2) = raw s.data.toList J) (h1 : r1 ≠ kNone) (h2 : r1 ≠ kEnd) : J < r2 := by
  have hl := upto_le
  unfold raw at hr
  cases hc : s.data.toList[J]? with
  | none =>
    rw [hc] at hr
    simp only [Prod.mk.injEq] at hr
    exact absurd hr.1 h2
  | some c =>
    rw [hc] at hr
    have hJl : J < s.data.toList.length := by
      rcases Nat.lt_or_ge J s.data.toList.length with h | h
      · exact h
      · rw [List.getElem?_eq_none h] at hc; cases hc
    have step : ∀ p : UInt8 → Bool, p c = true → J < upto p s.data.toList J := fun p hp => by
      rcases Nat.lt_or_ge J (upto p s.data.toList J) with h | h
      · exact h
      · have := upto_le p s.data.toList J (Nat.le_of_lt hJl)
        have e : upto p s.data.toList J = J := by omega
        have := upto_out p s.data.toList J c (by rw [e]; exact hc)
        rw [hp] at this; cases this
    dsimp only at hr
    split at hr
    · rename_i h
      simp only [Prod.mk.injEq] at hr
      rw [hr.2]
      exact step lowfig (by simp [lowfig, h])
    split at hr
    · rename_i h
      simp only [Prod.mk.injEq] at hr
      rw [hr.2]
      exact step fig h
    split at hr
    · simp only [Prod.mk.injEq] at hr
      omega
    split at hr
    · simp only [Prod.mk.injEq] at hr
      omega
    · simp only [Prod.mk.injEq] at hr
      exact absurd hr.1 h1

theorem toks_len (kw : List (List UInt8)) (l : List UInt8) : ∀ f i, (toks kw l f i).length ≤ f
  | 0, i => by simp [toks]
  | f + 1, i => by
    rw [toks]
    split
    · simp
    · have := toks_len kw l f (tokAt kw l (upto isB l i)).2
      simp only [List.length_cons]
      omega
theorem done_le {kw : List (List UInt8)} {l : List UInt8} {n g k : Nat} {ds : List Tok} (h : toks kw l (n + 1) 0 = ds ++ toks kw l g k) : ds.length ≤ n + 1 := by
  have h1 := toks_len kw l (n + 1) 0
  rw [h, List.length_append] at h1
  omega
theorem three_new (w : World) (a b c : Value) (t : TypeId) : ∀ (j : Nat) (u : Value), [a, b, c][j]? = some u → (w.alloc (.cells #[a, b, c] t)).cell? (Addr.add ⟨w.heap.size, 0, none⟩ j) = some u := by
  intro j u h
  match j, h with
  | 0, h => simp at h; subst h; simp [Addr.add]
  | 1, h => simp at h; subst h; simp [Addr.add]
  | 2, h => simp at h; subst h; simp [Addr.add]
theorem tok_one (t : Tok) : ∀ u, u ∈ tokCells t → u.oneCell' = true := by
  intro u hu
  simp only [tokCells, List.mem_cons, List.not_mem_nil, or_false] at hu
  rcases hu with rfl | rfl | rfl <;> rfl

/-- What one token does to the list of what is done and what is left. -/
theorem tok_done (kw : List (List UInt8)) (s : ByteArray) {n g k J r2 F : Nat} {r1 txt isj : List UInt8} {ds : List Tok} (h : toks kw s.data.toList (n + 1) 0 = ds ++ toks kw s.data.toList g k) (hJ : J = upto isB s.data.toList k)
    (hr : (r1, r2) = raw s.data.toList J) (ht : txt = cut s.data.toList J r2) (hi : isj = kwAfter kw (bounded r1 J r2) txt kw.length) (hF : g = F + 1) :
    ((isj = kNone ∨ isj = kEnd) → toks kw s.data.toList (n + 1) 0 = ds ++ [⟨isj, txt, J⟩]) ∧
    (¬ (isj = kNone ∨ isj = kEnd) → (toks kw s.data.toList (n + 1) 0 = (ds ++ [⟨isj, txt, J⟩]) ++ toks kw s.data.toList F r2) ∧ J < r2) := by
  subst hF
  have e := kw_end kw s.data.toList J hr ht
  rw [← hi] at e
  rw [toks_step kw s.data.toList F k J hJ e] at h
  refine ⟨fun hc => by rw [h, if_pos hc], fun hc => ⟨by rw [h, if_neg hc]; simp, ?_⟩⟩
  by_cases h1 : r1 = kNone
  · exfalso
    apply hc
    left
    rw [hi]
    have hb : bounded r1 J r2 = kNone := by unfold bounded; split <;> first | rfl | exact h1
    unfold kwAfter
    rw [hb, if_neg (fun e => absurd e.1 (by decide))]
  · by_cases h2 : r1 = kEnd
    · exfalso
      apply hc
      right
      rw [hi]
      have hb : bounded r1 J r2 = kEnd := by
        unfold bounded bigB
        rw [if_neg, h2]
        rw [h2]
        simp [kEnd, kName, kNum]
      unfold kwAfter
      rw [hb, if_neg (fun e => absurd e.1 (by decide))]
    · exact raw_moves s J hr h1 h2
/-- The token's own block is as it was behind the append. -/
theorem tb_kept {w1 wr w5 : World} {base n : Nat} {v : Value} {xs : List Value} {o ob : Obj} {e sz : Nat} (hown : w1.ownsRow base e sz v n xs) (hlt : w1.heap.size < wr.heap.size) (hg : (wr.alloc o).grownBy w5 v.ownBlock)
    (ht : wr.heap[w1.heap.size]? = some ob) : w5.heap[w1.heap.size]? = some ob := by
  rw [hg.block _ (by simp; omega) (fun e => by have := (own_lt hown e).2; omega), Below.heap_alloc _ _ _ hlt]
  exact ht
end Go.Proofs.YtcdijppegfcoaabGreatDoor
