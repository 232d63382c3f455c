import Derived.Test.YtcdijppegfcoaabGreatDoorTree
import Derived.Test.YtcdijppegfcoaabGreatDoorXMut
import Derived.Deep.LoopGhost
import Derived.Test.YtcdijppegfcoaabGreatDoorRefB
import Derived.Outline
import Derived.Test.YtcdijppegfcoaabGreatDoorRefA
import Derived.Test.YtcdijppegfcoaabGreatDoorRefRd
import Derived.Test.YtcdijppegfcoaabGreatDoorPLex
import Derived.Test.YtcdijppegfcoaabGreatDoorRefT
import Derived.Deep.RegionWith
import Derived.Laws.IdiomStrings
import Derived.Laws.OwnMore
/-
  OUR OWN TEXT. typerref's reader of types on plain data; types in memory, over blocks that no longer change; their texts.
-/
namespace Go.Proofs.YtcdijppegfcoaabGreatDoor
open Go.RowKit

def kInt : List UInt8 := [105, 110, 116]
def kBool : List UInt8 := [98, 111, 111, 108]
def kSq : List UInt8 := [91]
def kQs : List UInt8 := [93]
def oList : List UInt8 := [108, 105, 115, 116]
def tyKw : List (List UInt8) := [kInt, kBool]

/-- A type as typerref has it: a variable (kind empty, its number), or a kind with parts. -/
structure Ty where
  kind : List UInt8
  var : Nat
  kids : List Ty

/-- The names of variables met so far, by number. -/
def numS (ns : List (List UInt8)) (n : List UInt8) : Nat × List (List UInt8) := if n ∈ ns then (ns.idxOf n, ns) else (ns.length, ns ++ [n])

def oneS (A : List (List UInt8) → St → Option (Ty × List (List UInt8) × St)) (T : List Tok) (ns : List (List UInt8)) (s : St) : Option (Ty × List (List UInt8) × St) :=
  if isS T s kInt = true then some (⟨kInt, 0, []⟩, ns, s.up)
  else if isS T s kBool = true then some (⟨kBool, 0, []⟩, ns, s.up)
  else if isS T s kSq = true then match A ns s.up with
    | none => none
    | some (t, n1, s1) => some (⟨oList, 0, [t]⟩, n1, needS T s1 kQs)
  else if isS T s kOpen = true then match A ns s.up with
    | none => none
    | some (t, n1, s1) =>
      if isS T s1 kComma = true then match A n1 s1.up with
        | none => none
        | some (u, n2, s2) => some (⟨oPair, 0, [t, u]⟩, n2, needS T s2 kShut)
      else some (t, n1, needS T s1 kShut)
  else some (⟨[], (numS ns (tk T s.k).s).1, []⟩, (numS ns (tk T s.k).s).2, needS T s kName)

def arrS (T : List Tok) : Nat → List (List UInt8) → St → Option (Ty × List (List UInt8) × St)
  | 0, _, _ => none
  | n + 1, ns, s => match oneS (arrS T n) T ns s with
    | none => none
    | some (t, n1, s1) =>
      if isS T s1 kArrow = true then match arrS T n n1 s1.up with
        | none => none
        | some (u, n2, s2) => some (⟨kFun, 0, [t, u]⟩, n2, s2)
      else some (t, n1, s1)

/-- How many parts. -/
def tySize : Nat → Ty → Nat
  | 0, _ => 0
  | n + 1, t => 1 + (t.kids.map (tySize n)).sum

/-- The variables of a type, each once, in the order in which they stand. -/
def tyVars : Nat → Ty → List Nat → List Nat
  | 0, _, l => l
  | n + 1, t, l => if t.kind = [] then (if t.var ∈ l then l else l ++ [t.var]) else t.kids.foldl (fun l x => tyVars n x l) l

/-- A type's text, its variables by their names. -/
def tyText : Nat → List (List UInt8) → Ty → List UInt8
  | 0, _, _ => []
  | n + 1, ns, t =>
    if t.kind = [] then ns.getD t.var []
    else match t.kids with
      | [a] => [91] ++ tyText n ns a ++ [93]
      | [a, b] => if t.kind = kFun then (if a.kind = kFun then [40] ++ tyText n ns a ++ [41] else tyText n ns a) ++ [32, 45, 62, 32] ++ tyText n ns b
          else [40] ++ tyText n ns a ++ [44, 32] ++ tyText n ns b ++ [41]
      | _ => t.kind

/-- A type at a block. -/
def TRep : Nat → (Nat → Option Obj) → Nat → Ty → Prop
  | 0, _, _, _ => False
  | n + 1, H, b, t => ∃ ks bs, H b = some (.cells #[.string (B t.kind), .int .i64 (t.var : Int), ks] 99006 (0, 0)) ∧ RowH H 99001 ks (ptrs bs) ∧
      bs.length = t.kids.length ∧ ∀ (i : Nat) (x : Ty) (c : Nat), bs[i]? = some c → t.kids[i]? = some x → TRep n H c x
theorem TRep.ext {m : Nat} {H H' : Nat → Option Obj} (e : Ext m H H') : ∀ (n : Nat) (b : Nat) (x : Ty), TRep n H b x → TRep n H' b x
  | 0, _, _, h => h
  | n + 1, b, x, h => by
    obtain ⟨ks, bs, h1, h3, h4, h5⟩ := h
    exact ⟨ks, bs, e.1 _ _ h1, h3.ext e, h4, fun i y c h6 h7 => TRep.ext e n c y (h5 i y c h6 h7)⟩
theorem TRep.up {H : Nat → Option Obj} : ∀ (n : Nat) (b : Nat) (x : Ty), TRep n H b x → TRep (n + 1) H b x
  | 0, _, _, h => absurd h id
  | n + 1, b, x, h => by
    obtain ⟨ks, bs, h1, h3, h4, h5⟩ := h
    exact ⟨ks, bs, h1, h3, h4, fun i y c h6 h7 => TRep.up n c y (h5 i y c h6 h7)⟩
theorem TRep.le {H : Nat → Option Obj} {n m : Nat} {b : Nat} {x : Ty} (h : TRep n H b x) (hm : n ≤ m) : TRep m H b x := by
  induction m with
  | zero => rw [Nat.le_zero.1 hm] at h; exact h
  | succ m ih =>
    rcases Nat.lt_or_ge n (m + 1) with hlt | hge
    · exact TRep.up m b x (ih (by omega))
    · rw [show m + 1 = n from by omega]; exact h
/-- A leaf: int, bool, a variable. -/
theorem ty_leaf {w : World} {H : Nat → Option Obj} (hz : Fz H w) (k : List UInt8) (v : Nat) :
    ∃ H', Fz H' (w.alloc (.cells #[.string (B k), .int .i64 (v : Int), .slice none 0 0] 99006)) ∧ Ext w.heap.size H H' ∧ TRep 1 H' w.heap.size ⟨k, v, []⟩ := by
  have n1 : H w.heap.size = none := hz.none (Nat.le_refl _)
  exact ⟨_, (hz.alloc _).add (heap_alloc_new _ _), (Ext.refl _ _).add (Nat.le_refl _) n1, _, [], Fz.more_same _ _ _, Or.inl ⟨rfl, rfl⟩, rfl, fun i x c h => by simp at h⟩
/-- A list. -/
theorem ty_one {w : World} {H : Nat → Option Obj} (hz : Fz H w) (k : List UInt8) {b m1 : Nat} {x : Ty} (hx : TRep m1 H b x) :
    ∃ H' m, Fz H' ((w.alloc (.cells #[.pointer (some ⟨b, 0, none⟩)] 99001)).alloc (.cells #[.string (B k), .int .i64 0, .slice (some ⟨w.heap.size, 0, none⟩) 1 1] 99006)) ∧
      Ext w.heap.size H H' ∧ TRep m H' (w.heap.size + 1) ⟨k, 0, [x]⟩ := by
  have n1 : H w.heap.size = none := hz.none (Nat.le_refl _)
  have n2 : H (w.heap.size + 1) = none := hz.none (by omega)
  have z1 : Fz (Fz.more H w.heap.size (.cells #[.pointer (some ⟨b, 0, none⟩)] 99001 (0, 0))) (w.alloc (.cells #[.pointer (some ⟨b, 0, none⟩)] 99001)) := (hz.alloc _).add (heap_alloc_new _ _)
  have n3 : Fz.more H w.heap.size (.cells #[.pointer (some ⟨b, 0, none⟩)] 99001 (0, 0)) (w.heap.size + 1) = none := by unfold Fz.more; rw [if_neg (by omega)]; exact n2
  have ext := ((Ext.refl w.heap.size H).add (o := .cells #[.pointer (some ⟨b, 0, none⟩)] 99001 (0, 0)) (Nat.le_refl _) n1).add (o := .cells #[.string (B k), .int .i64 0, .slice (some ⟨w.heap.size, 0, none⟩) 1 1] 99006 (0, 0)) (b := w.heap.size + 1) (by omega) n3
  refine ⟨_, m1 + 1, (z1.alloc _).add (heap_alloc_at _ _ _ (by simp)), ext, ?_⟩
  refine ⟨_, [b], Fz.more_same _ _ _, Or.inr ⟨w.heap.size, 1, #[.pointer (some ⟨b, 0, none⟩)], rfl, Fz.more_old (Fz.more_same _ _ _) n3, rfl⟩, rfl, ?_⟩
  intro i z d h1 h2
  match i, h1, h2 with
  | 0, h1, h2 =>
    simp at h1 h2
    subst h1 h2
    exact TRep.ext ext _ _ _ hx
  | i + 1, h1, h2 => simp at h1
/-- A pair, a function. -/
theorem ty_two {w : World} {H : Nat → Option Obj} (hz : Fz H w) (k : List UInt8) {b c m1 m2 : Nat} {x y : Ty} (hx : TRep m1 H b x) (hy : TRep m2 H c y) :
    ∃ H' m, Fz H' ((w.alloc (.cells #[.pointer (some ⟨b, 0, none⟩), .pointer (some ⟨c, 0, none⟩)] 99001)).alloc (.cells #[.string (B k), .int .i64 0, .slice (some ⟨w.heap.size, 0, none⟩) 2 2] 99006)) ∧
      Ext w.heap.size H H' ∧ TRep m H' (w.heap.size + 1) ⟨k, 0, [x, y]⟩ := by
  have n1 : H w.heap.size = none := hz.none (Nat.le_refl _)
  have n2 : H (w.heap.size + 1) = none := hz.none (by omega)
  have z1 : Fz (Fz.more H w.heap.size (.cells #[.pointer (some ⟨b, 0, none⟩), .pointer (some ⟨c, 0, none⟩)] 99001 (0, 0))) (w.alloc (.cells #[.pointer (some ⟨b, 0, none⟩), .pointer (some ⟨c, 0, none⟩)] 99001)) := (hz.alloc _).add (heap_alloc_new _ _)
  have n3 : Fz.more H w.heap.size (.cells #[.pointer (some ⟨b, 0, none⟩), .pointer (some ⟨c, 0, none⟩)] 99001 (0, 0)) (w.heap.size + 1) = none := by unfold Fz.more; rw [if_neg (by omega)]; exact n2
  have ext := ((Ext.refl w.heap.size H).add (o := .cells #[.pointer (some ⟨b, 0, none⟩), .pointer (some ⟨c, 0, none⟩)] 99001 (0, 0)) (Nat.le_refl _) n1).add (o := .cells #[.string (B k), .int .i64 0, .slice (some ⟨w.heap.size, 0, none⟩) 2 2] 99006 (0, 0)) (b := w.heap.size + 1) (by omega) n3
  refine ⟨_, max m1 m2 + 1, (z1.alloc _).add (heap_alloc_at _ _ _ (by simp)), ext, ?_⟩
  refine ⟨_, [b, c], Fz.more_same _ _ _, Or.inr ⟨w.heap.size, 2, #[.pointer (some ⟨b, 0, none⟩), .pointer (some ⟨c, 0, none⟩)], rfl, Fz.more_old (Fz.more_same _ _ _) n3, rfl⟩, rfl, ?_⟩
  intro i z d h1 h2
  match i, h1, h2 with
  | 0, h1, h2 =>
    simp at h1 h2
    subst h1 h2
    exact TRep.ext ext _ _ _ (hx.le (Nat.le_max_left _ _))
  | 1, h1, h2 =>
    simp at h1 h2
    subst h1 h2
    exact TRep.ext ext _ _ _ (hy.le (Nat.le_max_right _ _))
  | i + 2, h1, h2 => simp at h1
end Go.Proofs.YtcdijppegfcoaabGreatDoor

/-
  OUR OWN TEXT. The plain reader of types: how far it goes, how many names it meets.
-/
namespace Go.Proofs.YtcdijppegfcoaabGreatDoor
open Go.RowKit

theorem isS_ok {T : List Tok} {s : St} {k : List UInt8} (h : isS T s k = true) : s.bad < 0 := by
  unfold isS at h
  simp at h
  exact h.1
/-- need: it goes on by one, or something is wrong. -/
theorem needS_go (T : List Tok) (s : St) (k : List UInt8) : s.k ≤ (needS T s k).k ∧ (needS T s k).k ≤ s.k + 1 ∧ ((needS T s k).bad < 0 → s.bad < 0 ∧ (needS T s k).k = s.k + 1) := by
  unfold needS
  by_cases h : isS T s k = true
  · rw [if_pos h]
    exact ⟨by simp, by simp, fun _ => ⟨isS_ok h, rfl⟩⟩
  · rw [if_neg h]
    refine ⟨by simp, by simp, fun hb => ?_⟩
    exfalso
    by_cases h2 : s.bad < 0
    · simp only [if_pos h2] at hb
      omega
    · simp only [if_neg h2] at hb
      exact h2 hb
theorem numS_len (ns : List (List UInt8)) (n : List UInt8) : ns.length ≤ (numS ns n).2.length ∧ (numS ns n).2.length ≤ ns.length + 1 ∧ (numS ns n).1 < (numS ns n).2.length := by
  unfold numS
  by_cases h : n ∈ ns
  · rw [if_pos h]
    exact ⟨Nat.le_refl _, by simp, List.idxOf_lt_length_of_mem h⟩
  · rw [if_neg h]
    simp

/-- What is read: the reader goes on; a name is met once a step at most, and once where something is wrong. -/
def Went (ns : List (List UInt8)) (s : St) (ns' : List (List UInt8)) (s' : St) : Prop :=
  s.k ≤ s'.k ∧ ns.length ≤ ns'.length ∧ ns'.length + s.k ≤ ns.length + s'.k + 1 ∧ (s'.bad < 0 → ns'.length + s.k ≤ ns.length + s'.k ∧ s.k < s'.k)

theorem one_went {A : List (List UInt8) → St → Option (Ty × List (List UInt8) × St)} {T : List Tok} (hA : ∀ ns s t ns' s', s.bad < 0 → A ns s = some (t, ns', s') → Went ns s ns' s') {ns : List (List UInt8)} {s : St} {t : Ty} {ns' : List (List UInt8)} {s' : St} (hb : s.bad < 0)
    (h : oneS A T ns s = some (t, ns', s')) : Went ns s ns' s' := by
  unfold oneS at h
  by_cases h1 : isS T s kInt = true
  · rw [if_pos h1] at h
    cases h
    exact ⟨by simp [St.up], by simp, by simp [St.up]; omega, fun _ => ⟨by simp [St.up], by simp [St.up]⟩⟩
  rw [if_neg h1] at h
  by_cases h2 : isS T s kBool = true
  · rw [if_pos h2] at h
    cases h
    exact ⟨by simp [St.up], by simp, by simp [St.up]; omega, fun _ => ⟨by simp [St.up], by simp [St.up]⟩⟩
  rw [if_neg h2] at h
  have hu : s.up.k = s.k + 1 := rfl
  by_cases h3 : isS T s kSq = true
  · rw [if_pos h3] at h
    cases e : A ns s.up with
    | none => rw [e] at h; cases h
    | some r =>
      obtain ⟨x, n1, s1⟩ := r
      rw [e] at h
      cases h
      obtain ⟨w1, w2, w3, w4⟩ := hA _ _ _ _ _ (by exact hb) e
      obtain ⟨q1, q2, q3⟩ := needS_go T s1 kQs
      refine ⟨by omega, w2, by omega, fun hx => ?_⟩
      obtain ⟨hs1, hk⟩ := q3 hx
      have := w4 hs1
      omega
  rw [if_neg h3] at h
  by_cases h4 : isS T s kOpen = true
  · rw [if_pos h4] at h
    cases e : A ns s.up with
    | none => rw [e] at h; cases h
    | some r =>
      obtain ⟨x, n1, s1⟩ := r
      rw [e] at h
      obtain ⟨w1, w2, w3, w4⟩ := hA _ _ _ _ _ (by exact hb) e
      by_cases h5 : isS T s1 kComma = true
      · simp only [if_pos h5] at h
        have hu1 : s1.up.k = s1.k + 1 := rfl
        have hs1 := isS_ok h5
        have w5 := w4 hs1
        cases e2 : A n1 s1.up with
        | none => rw [e2] at h; cases h
        | some r2 =>
          obtain ⟨y, n2, s2⟩ := r2
          rw [e2] at h
          cases h
          obtain ⟨v1, v2, v3, v4⟩ := hA _ _ _ _ _ (by exact hs1) e2
          obtain ⟨q1, q2, q3⟩ := needS_go T s2 kShut
          refine ⟨by omega, by omega, by omega, fun hx => ?_⟩
          obtain ⟨hs2, hk⟩ := q3 hx
          have := v4 hs2
          omega
      · simp only [if_neg h5] at h
        cases h
        obtain ⟨q1, q2, q3⟩ := needS_go T s1 kShut
        refine ⟨by omega, w2, by omega, fun hx => ?_⟩
        obtain ⟨hs1, hk⟩ := q3 hx
        have := w4 hs1
        omega
  rw [if_neg h4] at h
  cases h
  obtain ⟨q1, q2, q3⟩ := needS_go T s kName
  obtain ⟨l1, l2, _⟩ := numS_len ns (tk T s.k).s
  refine ⟨q1, l1, by omega, fun hx => ?_⟩
  have := (q3 hx).2
  omega

theorem arr_went (T : List Tok) : ∀ (n : Nat) (ns : List (List UInt8)) (s : St) (t : Ty) (ns' : List (List UInt8)) (s' : St), s.bad < 0 → arrS T n ns s = some (t, ns', s') → Went ns s ns' s'
  | 0, _, _, _, _, _, _, h => by cases h
  | n + 1, ns, s, t, ns', s', hb, h => by
    unfold arrS at h
    cases e : oneS (arrS T n) T ns s with
    | none => rw [e] at h; cases h
    | some r =>
      obtain ⟨x, n1, s1⟩ := r
      rw [e] at h
      obtain ⟨w1, w2, w3, w4⟩ := one_went (arr_went T n) hb e
      by_cases h5 : isS T s1 kArrow = true
      · simp only [if_pos h5] at h
        have hu1 : s1.up.k = s1.k + 1 := rfl
        have hs1 := isS_ok h5
        have w5 := w4 hs1
        cases e2 : arrS T n n1 s1.up with
        | none => rw [e2] at h; cases h
        | some r2 =>
          obtain ⟨y, n2, s2⟩ := r2
          rw [e2] at h
          cases h
          obtain ⟨v1, v2, v3, v4⟩ := arr_went T n _ _ _ _ _ (by exact hs1) e2
          refine ⟨by omega, by omega, by omega, fun hx => ?_⟩
          have := v4 hx
          omega
      · simp only [if_neg h5] at h
        cases h
        exact ⟨w1, w2, w3, w4⟩
end Go.Proofs.YtcdijppegfcoaabGreatDoor

/-
  OUR OWN TEXT. The names that typerref's reader of types has met: a variable with a row of its own; the contract of arrow.
-/
namespace Go.Proofs.YtcdijppegfcoaabGreatDoor
open Go.RowKit

/-- The names met so far, at a variable. -/
structure NM (w : World) (nb : Nat) (H : Nat → Option Obj) (v : Value) (ns : List (List UInt8)) : Prop where
  blk : w.heap[nb]? = some (.cells #[v] 26 (0, 0))
  row : w.ownsRow nb 9 1 v ns.length (strs ns)
  hx : H nb = none
  hn : ∀ k, some k = v.ownBlock → H k = none
theorem NM.cell {w : World} {nb : Nat} {H : Nat → Option Obj} {v : Value} {ns : List (List UInt8)} (h : NM w nb H v ns) : w.cell? ⟨nb, 0, none⟩ = some v ∧ w.frozen? ⟨nb, 0, none⟩ = false := by
  simp [World.cell?, World.frozen?, h.blk]
theorem NM.kept {w w' : World} {nb rb : Nat} {H H' : Nat → Option Obj} {v : Value} {ns : List (List UInt8)} (h : NM w nb H v ns) (hk : Kept rb w w') (he : Ext w.heap.size H H') (hr : rb < nb) : NM w' nb H' v ns := by
  have hl := lt_of_block h.blk
  have same : ∀ k, nb ≤ k → k < w.heap.size → w'.heap[k]? = w.heap[k]? := fun k h1 h2 => hk.block k h2 (by simp; omega)
  refine ⟨by rw [same nb (Nat.le_refl _) hl]; exact h.blk, own_at h.row fun k e => ?_, by rw [he.2 nb hl]; exact h.hx, fun k e => ?_⟩
  · have := own_lt h.row e; exact same k this.1 this.2
  · rw [he.2 k (own_lt h.row e).2]; exact h.hn k e
theorem NM.drewN {w : World} {nb : Nat} {H : Nat → Option Obj} {v : Value} {ns : List (List UInt8)} (h : NM w nb H v ns) (q : Nat) : NM (w.drewN q) nb H v ns := ⟨h.blk, h.row, h.hx, h.hn⟩
theorem NM.alloc {w : World} {nb : Nat} {H : Nat → Option Obj} {v : Value} {ns : List (List UInt8)} (h : NM w nb H v ns) (o : Obj) : NM (w.alloc o) nb H v ns :=
  ⟨by rw [Below.heap_alloc _ _ _ (lt_of_block h.blk)]; exact h.blk, h.row.alloc o, h.hx, h.hn⟩
/-- More blocks that no longer change, all of them new. -/
theorem NM.ext {w : World} {nb : Nat} {H H' : Nat → Option Obj} {v : Value} {ns : List (List UInt8)} (h : NM w nb H v ns) {n : Nat} (he : Ext n H H') (hn : w.heap.size ≤ n) : NM w nb H' v ns :=
  ⟨h.blk, h.row, by rw [he.2 nb (Nat.lt_of_lt_of_le (lt_of_block h.blk) hn)]; exact h.hx, fun k e => by rw [he.2 k (Nat.lt_of_lt_of_le (own_lt h.row e).2 hn)]; exact h.hn k e⟩

/-- What reading a type leaves. -/
def TyPost (T : List Tok) (w w' : World) (e : Ending) (rb g cap nb : Nat) (H : Nat → Option Obj) (t : Ty) (ns' : List (List UInt8)) (s' : St) : Prop :=
  ∃ b H' v' m, e = .returned (.pointer (some ⟨b, 0, none⟩)) ∧ RS w' rb g cap T s' ∧ s'.k < T.length ∧ KeptTo nb rb w w' ∧ Fz H' w' ∧ Ext w.heap.size H H' ∧ NM w' nb H' v' ns' ∧ TRep m H' b t

end Go.Proofs.YtcdijppegfcoaabGreatDoor

/-
  OUR OWN TEXT. typerref's reader of types: arrow.
-/
namespace Go.Proofs.YtcdijppegfcoaabGreatDoor
open Go.RowKit


end Go.Proofs.YtcdijppegfcoaabGreatDoor

/-
  OUR OWN TEXT (written by mkone.py). typerref's reader of types: one, where no name stands.
-/
namespace Go.Proofs.YtcdijppegfcoaabGreatDoor
open Go.RowKit

/-- On the way: the reader, the names, what no longer changes. -/
structure BK (T : List Tok) (w w' : World) (rb g cap nb : Nat) (H H' : Nat → Option Obj) (v : Value) (ns : List (List UInt8)) (s : St) : Prop where
  r : RS w' rb g cap T s
  k : KeptTo nb rb w w'
  z : Fz H' w'
  x : Ext w.heap.size H H'
  n : NM w' nb H' v ns
  hr : rb < nb
  hn : H' rb = none
theorem BK.size {T : List Tok} {w w' : World} {rb g cap nb : Nat} {H H' : Nat → Option Obj} {v : Value} {ns : List (List UInt8)} {s : St} (h : BK T w w' rb g cap nb H H' v ns s) : w.heap.size ≤ w'.heap.size ∧ nb < w'.heap.size := ⟨h.k.size, lt_of_block h.n.blk⟩
theorem BK.step {T : List Tok} {w w1 w2 : World} {rb g cap nb : Nat} {H H' : Nat → Option Obj} {v : Value} {ns : List (List UInt8)} {s s2 : St} (h : BK T w w1 rb g cap nb H H' v ns s) (h2 : RS w2 rb g cap T s2) (hk : Kept rb w1 w2) : BK T w w2 rb g cap nb H H' v ns s2 :=
  ⟨h2, h.k.trans (KeptTo.of hk (by have := h.size; omega)), h.z.kept hk h.hn, h.x, h.n.kept hk (Ext.refl _ _) h.hr, h.hr, h.hn⟩
theorem BK.off {T : List Tok} {w w1 w2 : World} {rb g cap nb : Nat} {H H' : Nat → Option Obj} {v : Value} {ns : List (List UInt8)} {s : St} (h : BK T w w1 rb g cap nb H H' v ns s) {x : List UInt8} (hi : isS T s x = false) (h2 : RS w2 rb g cap T (takeS T s x)) (hk : Kept rb w1 w2) : BK T w w2 rb g cap nb H H' v ns s :=
  h.step (by unfold takeS at h2; rw [if_neg (by rw [hi]; decide)] at h2; exact h2) hk
theorem BK.on {T : List Tok} {w w1 w2 : World} {rb g cap nb : Nat} {H H' : Nat → Option Obj} {v : Value} {ns : List (List UInt8)} {s : St} (h : BK T w w1 rb g cap nb H H' v ns s) {x : List UInt8} (hi : isS T s x = true) (h2 : RS w2 rb g cap T (takeS T s x)) (hk : Kept rb w1 w2) : BK T w w2 rb g cap nb H H' v ns s.up :=
  h.step (by unfold takeS at h2; rw [if_pos hi] at h2; exact h2) hk
theorem BK.post {T : List Tok} {w w1 w2 : World} {rb g cap nb : Nat} {H H1 : Nat → Option Obj} {v : Value} {ns ns' : List (List UInt8)} {s s' : St} {e : Ending} {t : Ty} (h : BK T w w1 rb g cap nb H H1 v ns s) (p : TyPost T w1 w2 e rb g cap nb H1 t ns' s') :
    ∃ b H2 v2 m, e = .returned (.pointer (some ⟨b, 0, none⟩)) ∧ s'.k < T.length ∧ BK T w w2 rb g cap nb H H2 v2 ns' s' ∧ TRep m H2 b t := by
  obtain ⟨b, H2, v2, m, e1, h1, hk, kt, z, x, nm, r⟩ := p
  have hsz := h.size
  exact ⟨b, H2, v2, m, e1, hk, ⟨h1, h.k.trans kt, z, h.x.trans x (by omega), nm, h.hr, by rw [x.2 rb (by have := h.hr; omega)]; exact h.hn⟩, r⟩
theorem BK.post2 {T : List Tok} {w w1 w2 : World} {rb g cap nb : Nat} {H H1 : Nat → Option Obj} {v : Value} {ns ns' : List (List UInt8)} {s s' : St} {e : Ending} {t : Ty} (h : BK T w w1 rb g cap nb H H1 v ns s) (p : TyPost T w1 w2 e rb g cap nb H1 t ns' s') :
    ∃ b H2 v2 m, e = .returned (.pointer (some ⟨b, 0, none⟩)) ∧ s'.k < T.length ∧ BK T w w2 rb g cap nb H H2 v2 ns' s' ∧ Ext w1.heap.size H1 H2 ∧ TRep m H2 b t := by
  obtain ⟨b, H2, v2, m, e1, h1, hk, kt, z, x, nm, r⟩ := p
  have hsz := h.size
  exact ⟨b, H2, v2, m, e1, hk, ⟨h1, h.k.trans kt, z, h.x.trans x (by omega), nm, h.hr, by rw [x.2 rb (by have := h.hr; omega)]; exact h.hn⟩, x, r⟩
/-- A leaf at its end. -/
theorem BK.leaf {T : List Tok} {w w1 : World} {rb g cap nb : Nat} {H H' : Nat → Option Obj} {v : Value} {ns : List (List UInt8)} {s : St} (h : BK T w w1 rb g cap nb H H' v ns s) (hk : s.k < T.length) (k : List UInt8) (i : Nat) :
    TyPost T w (w1.alloc (.cells #[.string (B k), .int .i64 (i : Int), .slice none 0 0] 99006)) (.returned (.pointer (some ⟨w1.heap.size, 0, none⟩))) rb g cap nb H ⟨k, i, []⟩ ns s := by
  obtain ⟨H2, y1, y2, y3⟩ := ty_leaf h.z k i
  have hsz := h.size
  exact ⟨_, H2, v, 1, rfl, h.r.alloc _, hk, h.k.alloc (by omega) _, y1, h.x.trans y2 (by omega), (h.n.ext y2 (Nat.le_refl _)).alloc _, y3⟩
theorem BK.one {T : List Tok} {w w1 : World} {rb g cap nb : Nat} {H H' : Nat → Option Obj} {v : Value} {ns : List (List UInt8)} {s : St} (h : BK T w w1 rb g cap nb H H' v ns s) (hk : s.k < T.length) (k : List UInt8) {b m : Nat} {x : Ty} (hx : TRep m H' b x) :
    TyPost T w ((w1.alloc (.cells #[.pointer (some ⟨b, 0, none⟩)] 99001)).alloc (.cells #[.string (B k), .int .i64 0, .slice (some ⟨w1.heap.size, 0, none⟩) 1 1] 99006)) (.returned (.pointer (some ⟨w1.heap.size + 1, 0, none⟩))) rb g cap nb H ⟨k, 0, [x]⟩ ns s := by
  obtain ⟨H2, m2, y1, y2, y3⟩ := ty_one h.z k hx
  have hsz := h.size
  exact ⟨_, H2, v, m2, rfl, (h.r.alloc _).alloc _, hk, (h.k.alloc (by omega) _).alloc (by simp; omega) _, y1, h.x.trans y2 (by omega), ((h.n.ext y2 (Nat.le_refl _)).alloc _).alloc _, y3⟩
/-- A pair, on the way. -/
theorem BK.two {T : List Tok} {w w1 : World} {rb g cap nb : Nat} {H H' : Nat → Option Obj} {v : Value} {ns : List (List UInt8)} {s : St} (h : BK T w w1 rb g cap nb H H' v ns s) (k : List UInt8) {b c m m2 : Nat} {x y : Ty} (hx : TRep m H' b x) (hy : TRep m2 H' c y) :
    ∃ H2 m3, BK T w ((w1.alloc (.cells #[.pointer (some ⟨b, 0, none⟩), .pointer (some ⟨c, 0, none⟩)] 99001)).alloc (.cells #[.string (B k), .int .i64 0, .slice (some ⟨w1.heap.size, 0, none⟩) 2 2] 99006)) rb g cap nb H H2 v ns s ∧ TRep m3 H2 (w1.heap.size + 1) ⟨k, 0, [x, y]⟩ := by
  obtain ⟨H2, m2, y1, y2, y3⟩ := ty_two h.z k hx hy
  have hsz := h.size
  exact ⟨H2, m2, ⟨(h.r.alloc _).alloc _, (h.k.alloc (by omega) _).alloc (by simp; omega) _, y1, h.x.trans y2 (by omega), ((h.n.ext y2 (Nat.le_refl _)).alloc _).alloc _, h.hr, by rw [y2.2 rb (by have := h.hr; omega)]; exact h.hn⟩, y3⟩
theorem BK.end {T : List Tok} {w w1 : World} {rb g cap nb : Nat} {H H' : Nat → Option Obj} {v : Value} {ns : List (List UInt8)} {s : St} (h : BK T w w1 rb g cap nb H H' v ns s) (hk : s.k < T.length) {b m : Nat} {x : Ty} (hx : TRep m H' b x) :
    TyPost T w w1 (.returned (.pointer (some ⟨b, 0, none⟩))) rb g cap nb H x ns s := ⟨b, H', v, m, rfl, h.r, hk, h.k, h.z, h.x, h.n, hx⟩

end Go.Proofs.YtcdijppegfcoaabGreatDoor

/-
  OUR OWN TEXT. typerref's reader of types: one, where a name stands.
-/
namespace Go.Proofs.YtcdijppegfcoaabGreatDoor
open Go.RowKit

theorem NM.blkA {w w1 : World} {nb : Nat} {H : Nat → Option Obj} {v : Value} {ns : List (List UInt8)} (h : NM w nb H v ns) {o : Obj} (hg : (w.alloc o).grownBy w1 v.ownBlock) : w1.heap[nb]? = some (.cells #[v] 26 (0, 0)) := by
  have hl := lt_of_block h.blk
  rw [hg.block nb (by simp; omega) (fun e => row_not h.row h.blk (by decide) nb e rfl), Below.heap_alloc _ _ _ hl]
  exact h.blk
theorem set1_0 {w : World} {b : Nat} {p : Value} {t : TypeId} (h : w.heap[b]? = some (.cells #[p] t (0, 0))) (u : Value) : (w.setCell ⟨b, 0, none⟩ u).heap[b]? = some (.cells #[u] t (0, 0)) := by
  simp [World.setCell, Array.getElem?_modify, h]
/-- A name more. -/
theorem NM.add {w w1 : World} {nb : Nat} {H : Nat → Option Obj} {v : Value} {ns : List (List UInt8)} (h : NM w nb H v ns) (hz : Fz H w) {n : List UInt8} {o : Obj} {g cap : Nat}
    (hown : w1.ownsRow nb 9 1 (.slice (some ⟨g, 0, none⟩) (ns.length + 1) cap) (ns.length + 1) (strs ns ++ [.string (B n)])) (hg : (w.alloc o).grownBy w1 v.ownBlock) (hat : v.ownBlock = some g ∨ g = w.heap.size + 1) :
    NM (w1.setCell ⟨nb, 0, none⟩ (.slice (some ⟨g, 0, none⟩) (ns.length + 1) cap)) nb H (.slice (some ⟨g, 0, none⟩) (ns.length + 1) cap) (ns ++ [n]) ∧
    Fz H (w1.setCell ⟨nb, 0, none⟩ (.slice (some ⟨g, 0, none⟩) (ns.length + 1) cap)) ∧ (∀ rb, KeptTo nb rb w (w1.setCell ⟨nb, 0, none⟩ (.slice (some ⟨g, 0, none⟩) (ns.length + 1) cap))) ∧ ∀ k, k < nb → (w1.setCell ⟨nb, 0, none⟩ (.slice (some ⟨g, 0, none⟩) (ns.length + 1) cap)).heap[k]? = w.heap[k]? := by
  have hl := lt_of_block h.blk
  have same : ∀ k, k < w.heap.size → some k ≠ v.ownBlock → w1.heap[k]? = w.heap[k]? := fun k h1 h2 => by
    rw [hg.block k (by simp; omega) h2, Below.heap_alloc _ _ _ h1]
  have b1 := h.blkA hg
  have nH : H g = none := by
    rcases hat with e | e
    · exact h.hn g e.symm
    · rw [e]; exact hz.none (by omega)
  have fz1 : Fz H w1 := fun k o' e => by
    rw [same k (hz.lt e) (fun e' => by rw [h.hn k e'] at e; cases e)]
    exact hz k o' e
  refine ⟨⟨set1_0 b1 _, ?_, h.hx, fun k e => ?_⟩, fz1.set h.hx _ _, ?_, fun k hk => ?_⟩
  · have e1 : (ns ++ [n]).length = ns.length + 1 := by simp
    have e2 : strs (ns ++ [n]) = strs ns ++ [.string (B n)] := by simp [strs]
    rw [e1, e2]
    exact own_at hown fun k e => Below.heap_setCell _ _ _ _ (row_not hown b1 (by decide) k e)
  · simp only [Value.ownBlock, Option.some.injEq] at e
    rw [e]; exact nH
  · intro rb
    have kt : KeptTo nb rb w w1 := ⟨hg.os, hg.tape, hg.output, Nat.le_trans (by simp) hg.size, fun k hk _ => same k (by omega) (fun e => by have := (own_lt h.row e).1; omega)⟩
    exact kt.setCell (Nat.le_refl _) _ _
  · rw [Below.heap_setCell _ _ _ _ (by show k ≠ nb; omega)]
    exact same k (by omega) (fun e => by have := (own_lt h.row e).1; omega)
end Go.Proofs.YtcdijppegfcoaabGreatDoor

/-
  OUR OWN TEXT (written by mkone.py). typerref's reader of types: one, where a name stands: the walk; one whole; arrow whole.
-/
namespace Go.Proofs.YtcdijppegfcoaabGreatDoor
open Go.RowKit

theorem cell1 {w : World} {b : Nat} {p : Value} {t : TypeId} (h : w.heap[b]? = some (.cells #[p] t (0, 0))) : w.cell? ⟨b, 0, none⟩ = some p ∧ w.frozen? ⟨b, 0, none⟩ = false := by simp [World.cell?, World.frozen?, h]
theorem idx_at {n : List UInt8} : ∀ (ns : List (List UInt8)) (j : Nat), j < ns.length → ns.getD j [] = n → n ∉ ns.take j → ns.idxOf n = j
  | [], j, hj, _, _ => by simp at hj
  | a :: l, 0, _, hn, _ => by
    have e : a = n := by simpa using hn
    rw [e]
    simp
  | a :: l, j + 1, hj, hn, hno => by
    have hne : a ≠ n := fun e => hno (by simp [e])
    have h2 : n ∉ l.take j := fun e => hno (by simp [e])
    have ih := idx_at l j (by simpa using hj) (by simpa using hn) h2
    have hb : (a == n) = false := beq_eq_false_iff_ne.2 hne
    simp [List.idxOf_cons, hb, ih]
theorem num_found {ns : List (List UInt8)} {n : List UInt8} {j : Nat} (hj : j < ns.length) (hn : ns.getD j [] = n) (hno : n ∉ ns.take j) : numS ns n = (j, ns) := by
  have e : ns[j] = n := by simpa [List.getD, hj] using hn
  have hm : n ∈ ns := by rw [← e]; exact List.getElem_mem hj
  unfold numS
  rw [if_pos hm, idx_at ns j hj hn hno]

end Go.Proofs.YtcdijppegfcoaabGreatDoor

/-
  OUR OWN TEXT. typerref.Size.
-/
namespace Go.Proofs.YtcdijppegfcoaabGreatDoor
open Go.RowKit

/-- No row of it is long. -/
def TySm : Nat → Ty → Prop
  | 0, _ => True
  | m + 1, x => x.kids.length ≤ 2 ∧ ∀ y, y ∈ x.kids → TySm m y
/-- A row of pointers, as a slice of whatever make. -/
theorem row_viewT {H : Nat → Option Obj} {w : World} {t : TypeId} {v : Value} {bs : List Nat} (h : RowH H t v (ptrs bs)) (hz : Fz H w) :
    ∃ ao cp, v = .slice ao bs.length cp ∧ ∀ j c, bs[j]? = some c → ∃ gn, ao = some ⟨gn, 0, none⟩ ∧ w.cell? ⟨gn, j, none⟩ = some (.pointer (some ⟨c, 0, none⟩)) := by
  have lk : (ptrs bs).length = bs.length := by simp [ptrs]
  rcases h with ⟨rfl, h0⟩ | ⟨gn, cap, cur, h1, h2, h3⟩
  · have e : bs = [] := by
      cases bs with
      | nil => rfl
      | cons a l => simp [ptrs] at h0
    subst e
    exact ⟨none, 0, rfl, fun j c hc => by simp at hc⟩
  · refine ⟨some ⟨gn, 0, none⟩, cap, by rw [h1, lk], fun j c hc => ⟨gn, rfl, ?_⟩⟩
    have hb := hz _ _ h2
    have hj : j < bs.length := by
      rcases Nat.lt_or_ge j bs.length with h | h
      · exact h
      · rw [List.getElem?_eq_none h] at hc; cases hc
    have e : (ptrs bs)[j]? = some (.pointer (some ⟨c, 0, none⟩)) := by simp [ptrs, hc]
    rw [← h3, List.getElem?_take, if_pos (by rw [lk]; exact hj)] at e
    simp only [World.cell?, hb]
    simpa using e
theorem sum_take_le (l : List Nat) (j : Nat) : (l.take j).sum ≤ l.sum := by
  conv => rhs; rw [← List.take_append_drop j l, List.sum_append]
  omega

end Go.Proofs.YtcdijppegfcoaabGreatDoor

/-
  OUR OWN TEXT. The plain reader of types ends.
-/
namespace Go.Proofs.YtcdijppegfcoaabGreatDoor
open Go.RowKit

theorem one_tot {A : List (List UInt8) → St → Option (Ty × List (List UInt8) × St)} {T : List Tok} (hT : Wf T) {n : Nat} (hW : ∀ ns s t ns' s', s.bad < 0 → A ns s = some (t, ns', s') → Went ns s ns' s')
    (hA : ∀ ns s, s.bad < 0 → s.k < T.length → T.length - s.k < n → ∃ t ns' s', A ns s = some (t, ns', s') ∧ s'.k < T.length) (ns : List (List UInt8)) (s : St) (hb : s.bad < 0) (hk : s.k < T.length) (hn : T.length - s.k < n + 1) :
    ∃ t ns' s', oneS A T ns s = some (t, ns', s') ∧ s'.k < T.length := by
  have hu : s.up.k = s.k + 1 := rfl
  unfold oneS
  by_cases h1 : isS T s kInt = true
  · exact ⟨_, _, _, by rw [if_pos h1], hT.up hk h1 (by decide) (by decide)⟩
  rw [if_neg h1]
  by_cases h2 : isS T s kBool = true
  · exact ⟨_, _, _, by rw [if_pos h2], hT.up hk h2 (by decide) (by decide)⟩
  rw [if_neg h2]
  by_cases h3 : isS T s kSq = true
  · have hk1 := hT.up hk h3 (by decide) (by decide)
    obtain ⟨t, n1, s1, e, hs1⟩ := hA ns s.up hb hk1 (by omega)
    exact ⟨_, _, _, by rw [if_pos h3, e], hT.need hs1 (by decide) (by decide)⟩
  rw [if_neg h3]
  by_cases h4 : isS T s kOpen = true
  · have hk1 := hT.up hk h4 (by decide) (by decide)
    obtain ⟨t, n1, s1, e, hs1⟩ := hA ns s.up hb hk1 (by omega)
    have w1 := hW _ _ _ _ _ (show s.up.bad < 0 from hb) e
    rw [if_pos h4, e]
    by_cases h5 : isS T s1 kComma = true
    · have hk2 := hT.up hs1 h5 (by decide) (by decide)
      have hu1 : s1.up.k = s1.k + 1 := rfl
      have := w1.1
      obtain ⟨u, n2, s2, e2, hs2⟩ := hA n1 s1.up (show s1.bad < 0 from isS_ok h5) hk2 (by omega)
      exact ⟨⟨oPair, 0, [t, u]⟩, n2, needS T s2 kShut, by simp only [if_pos h5, e2], hT.need hs2 (by decide) (by decide)⟩
    · exact ⟨t, n1, needS T s1 kShut, by simp only [if_neg h5], hT.need hs1 (by decide) (by decide)⟩
  rw [if_neg h4]
  exact ⟨_, _, _, rfl, hT.need hk (by decide) (by decide)⟩

theorem arr_tot {T : List Tok} (hT : Wf T) : ∀ (n : Nat) (ns : List (List UInt8)) (s : St), s.bad < 0 → s.k < T.length → T.length - s.k < n → ∃ t ns' s', arrS T n ns s = some (t, ns', s') ∧ s'.k < T.length
  | 0, _, _, _, _, h => by omega
  | n + 1, ns, s, hb, hk, h => by
    obtain ⟨t, n1, s1, e, hs1⟩ := one_tot hT (arr_went T n) (arr_tot hT n) ns s hb hk h
    have w1 := one_went (arr_went T n) hb e
    unfold arrS
    rw [e]
    by_cases h5 : isS T s1 kArrow = true
    · have hk2 := hT.up hs1 h5 (by decide) (by decide)
      have hu1 : s1.up.k = s1.k + 1 := rfl
      have := w1.1
      obtain ⟨u, n2, s2, e2, hs2⟩ := arr_tot hT n n1 s1.up (show s1.bad < 0 from isS_ok h5) hk2 (by omega)
      exact ⟨⟨kFun, 0, [t, u]⟩, n2, s2, by simp only [if_pos h5, e2], hs2⟩
    · exact ⟨t, n1, s1, by simp only [if_neg h5], hs1⟩
end Go.Proofs.YtcdijppegfcoaabGreatDoor

/-
  OUR OWN TEXT. What the plain reader of types makes: well made, and no greater than what was read.
-/
namespace Go.Proofs.YtcdijppegfcoaabGreatDoor
open Go.RowKit

/-- A type that is well made, with variables below N. -/
def TyOk (N : Nat) : Nat → Ty → Prop
  | 0, _ => False
  | m + 1, t => (t.kind = [] ∧ t.var < N ∧ t.kids = []) ∨ ((t.kind = kInt ∨ t.kind = kBool) ∧ t.var = 0 ∧ t.kids = []) ∨
      (t.kind = oList ∧ t.var = 0 ∧ ∃ a, t.kids = [a] ∧ TyOk N m a) ∨ ((t.kind = oPair ∨ t.kind = kFun) ∧ t.var = 0 ∧ ∃ a b, t.kids = [a, b] ∧ TyOk N m a ∧ TyOk N m b)
theorem TyOk.up {N : Nat} : ∀ (m : Nat) (t : Ty), TyOk N m t → TyOk N (m + 1) t
  | 0, _, h => absurd h id
  | m + 1, t, h => by
    rcases h with h | h | ⟨h1, h2, a, h3, h4⟩ | ⟨h1, h2, a, b, h3, h4, h5⟩
    · exact Or.inl h
    · exact Or.inr (Or.inl h)
    · exact Or.inr (Or.inr (Or.inl ⟨h1, h2, a, h3, TyOk.up m a h4⟩))
    · exact Or.inr (Or.inr (Or.inr ⟨h1, h2, a, b, h3, TyOk.up m a h4, TyOk.up m b h5⟩))
theorem TyOk.le {N m m' : Nat} {t : Ty} (h : TyOk N m t) (hm : m ≤ m') : TyOk N m' t := by
  induction m' with
  | zero => rw [Nat.le_zero.1 hm] at h; exact h
  | succ m' ih =>
    rcases Nat.lt_or_ge m (m' + 1) with hlt | hge
    · exact TyOk.up m' t (ih (by omega))
    · rw [show m' + 1 = m from by omega]; exact h
theorem TyOk.wide {N N' : Nat} (hN : N ≤ N') : ∀ (m : Nat) (t : Ty), TyOk N m t → TyOk N' m t
  | 0, _, h => h
  | m + 1, t, h => by
    rcases h with ⟨h1, h2, h3⟩ | h | ⟨h1, h2, a, h3, h4⟩ | ⟨h1, h2, a, b, h3, h4, h5⟩
    · exact Or.inl ⟨h1, by omega, h3⟩
    · exact Or.inr (Or.inl h)
    · exact Or.inr (Or.inr (Or.inl ⟨h1, h2, a, h3, TyOk.wide hN m a h4⟩))
    · exact Or.inr (Or.inr (Or.inr ⟨h1, h2, a, b, h3, TyOk.wide hN m a h4, TyOk.wide hN m b h5⟩))
theorem TyOk.size {N : Nat} : ∀ (m m' : Nat) (t : Ty), TyOk N m t → m ≤ m' → tySize m' t = tySize m t
  | 0, _, _, h, _ => absurd h id
  | m + 1, 0, _, _, hm => by omega
  | m + 1, m' + 1, t, h, hm => by
    rcases h with ⟨h1, h2, h3⟩ | ⟨h1, h2, h3⟩ | ⟨h1, h2, a, h3, h4⟩ | ⟨h1, h2, a, b, h3, h4, h5⟩
    · simp [tySize, h3]
    · simp [tySize, h3]
    · simp [tySize, h3, TyOk.size m m' a h4 (by omega)]
    · simp [tySize, h3, TyOk.size m m' a h4 (by omega), TyOk.size m m' b h5 (by omega)]
theorem TyOk.sm {N : Nat} : ∀ (m : Nat) (t : Ty), TyOk N m t → TySm m t
  | 0, _, _ => trivial
  | m + 1, t, h => by
    rcases h with ⟨h1, h2, h3⟩ | ⟨h1, h2, h3⟩ | ⟨h1, h2, a, h3, h4⟩ | ⟨h1, h2, a, b, h3, h4, h5⟩
    · exact ⟨by simp [h3], by simp [h3]⟩
    · exact ⟨by simp [h3], by simp [h3]⟩
    · refine ⟨by simp [h3], fun y hy => ?_⟩
      rw [h3] at hy
      rw [List.mem_singleton.1 hy]
      exact TyOk.sm m a h4
    · refine ⟨by simp [h3], fun y hy => ?_⟩
      rw [h3] at hy
      rcases List.mem_cons.1 hy with rfl | hy
      · exact TyOk.sm m _ h4
      · rw [List.mem_singleton.1 hy]
        exact TyOk.sm m b h5

/-- What is read is well made, and of so many parts as tokens were taken. -/
def Made (t : Ty) (ns' : List (List UInt8)) (s s' : St) : Prop := ∃ m, TyOk ns'.length m t ∧ tySize m t + s.k ≤ s'.k + 1 ∧ (s'.bad < 0 → tySize m t + s.k ≤ s'.k)
theorem two_made {k : List UInt8} (hk : k = oPair ∨ k = kFun) {a b : Ty} {N m1 m2 : Nat} (h1 : TyOk N m1 a) (h2 : TyOk N m2 b) : ∃ m, TyOk N m ⟨k, 0, [a, b]⟩ ∧ tySize m ⟨k, 0, [a, b]⟩ = 1 + tySize m1 a + tySize m2 b := by
  refine ⟨max m1 m2 + 1, Or.inr (Or.inr (Or.inr ⟨hk, rfl, a, b, rfl, h1.le (Nat.le_max_left _ _), h2.le (Nat.le_max_right _ _)⟩)), ?_⟩
  simp [tySize, TyOk.size _ _ _ h1 (Nat.le_max_left m1 m2), TyOk.size _ _ _ h2 (Nat.le_max_right m1 m2)]
  omega

theorem one_made {A : List (List UInt8) → St → Option (Ty × List (List UInt8) × St)} {T : List Tok} (hW : ∀ ns s t ns' s', s.bad < 0 → A ns s = some (t, ns', s') → Went ns s ns' s') (hA : ∀ ns s t ns' s', s.bad < 0 → A ns s = some (t, ns', s') → Made t ns' s s') {ns : List (List UInt8)} {s : St} {t : Ty} {ns' : List (List UInt8)} {s' : St} (hb : s.bad < 0)
    (h : oneS A T ns s = some (t, ns', s')) : Made t ns' s s' := by
  have hu : s.up.k = s.k + 1 := rfl
  unfold oneS at h
  by_cases h1 : isS T s kInt = true
  · rw [if_pos h1] at h
    cases h
    exact ⟨1, Or.inr (Or.inl ⟨Or.inl rfl, rfl, rfl⟩), by simp [tySize]; omega, fun _ => by simp [tySize]; omega⟩
  rw [if_neg h1] at h
  by_cases h2 : isS T s kBool = true
  · rw [if_pos h2] at h
    cases h
    exact ⟨1, Or.inr (Or.inl ⟨Or.inr rfl, rfl, rfl⟩), by simp [tySize]; omega, fun _ => by simp [tySize]; omega⟩
  rw [if_neg h2] at h
  by_cases h3 : isS T s kSq = true
  · rw [if_pos h3] at h
    cases e : A ns s.up with
    | none => rw [e] at h; cases h
    | some r =>
      obtain ⟨x, n1, s1⟩ := r
      rw [e] at h
      cases h
      obtain ⟨m, w1, w2, w3⟩ := hA _ _ _ _ _ (show s.up.bad < 0 from hb) e
      obtain ⟨q1, q2, q3⟩ := needS_go T s1 kQs
      have ez : tySize (m + 1) ⟨oList, 0, [x]⟩ = 1 + tySize m x := by simp [tySize]
      refine ⟨m + 1, Or.inr (Or.inr (Or.inl ⟨rfl, rfl, x, rfl, w1⟩)), by omega, fun hx => ?_⟩
      have := w3 (q3 hx).1
      omega
  rw [if_neg h3] at h
  by_cases h4 : isS T s kOpen = true
  · rw [if_pos h4] at h
    cases e : A ns s.up with
    | none => rw [e] at h; cases h
    | some r =>
      obtain ⟨x, n1, s1⟩ := r
      rw [e] at h
      obtain ⟨m, w1, w2, w3⟩ := hA _ _ _ _ _ (show s.up.bad < 0 from hb) e
      by_cases h5 : isS T s1 kComma = true
      · simp only [if_pos h5] at h
        have hu1 : s1.up.k = s1.k + 1 := rfl
        have hs1 := isS_ok h5
        have w5 := w3 hs1
        cases e2 : A n1 s1.up with
        | none => rw [e2] at h; cases h
        | some r2 =>
          obtain ⟨y, n2, s2⟩ := r2
          rw [e2] at h
          cases h
          obtain ⟨m2, v1, v2, v3⟩ := hA _ _ _ _ _ (show s1.up.bad < 0 from hs1) e2
          have hw := hW _ _ _ _ _ (show s1.up.bad < 0 from hs1) e2
          obtain ⟨q1, q2, q3⟩ := needS_go T s2 kShut
          obtain ⟨m3, z1, z2⟩ := two_made (Or.inl rfl) (TyOk.wide hw.2.1 _ _ w1) v1
          refine ⟨m3, z1, by omega, fun hx => ?_⟩
          have := v3 (q3 hx).1
          omega
      · simp only [if_neg h5] at h
        cases h
        obtain ⟨q1, q2, q3⟩ := needS_go T s1 kShut
        refine ⟨m, w1, by omega, fun hx => ?_⟩
        have := w3 (q3 hx).1
        omega
  rw [if_neg h4] at h
  cases h
  obtain ⟨q1, q2, q3⟩ := needS_go T s kName
  obtain ⟨l1, l2, l3⟩ := numS_len ns (tk T s.k).s
  have ez : tySize 1 ⟨[], (numS ns (tk T s.k).s).1, []⟩ = 1 := by simp [tySize]
  refine ⟨1, Or.inl ⟨rfl, l3, rfl⟩, by omega, fun hx => ?_⟩
  have := (q3 hx).2
  omega

theorem arr_made (T : List Tok) : ∀ (n : Nat) (ns : List (List UInt8)) (s : St) (t : Ty) (ns' : List (List UInt8)) (s' : St), s.bad < 0 → arrS T n ns s = some (t, ns', s') → Made t ns' s s'
  | 0, _, _, _, _, _, _, h => by cases h
  | n + 1, ns, s, t, ns', s', hb, h => by
    unfold arrS at h
    cases e : oneS (arrS T n) T ns s with
    | none => rw [e] at h; cases h
    | some r =>
      obtain ⟨x, n1, s1⟩ := r
      rw [e] at h
      have w := one_made (arr_went T n) (arr_made T n) hb e
      by_cases h5 : isS T s1 kArrow = true
      · simp only [if_pos h5] at h
        obtain ⟨m, w1, w2, w3⟩ := w
        have hu1 : s1.up.k = s1.k + 1 := rfl
        have hs1 := isS_ok h5
        have w5 := w3 hs1
        cases e2 : arrS T n n1 s1.up with
        | none => rw [e2] at h; cases h
        | some r2 =>
          obtain ⟨y, n2, s2⟩ := r2
          rw [e2] at h
          cases h
          obtain ⟨m2, v1, v2, v3⟩ := arr_made T n _ _ _ _ _ (show s1.up.bad < 0 from hs1) e2
          have hw := arr_went T n _ _ _ _ _ (show s1.up.bad < 0 from hs1) e2
          obtain ⟨m3, z1, z2⟩ := two_made (Or.inr rfl) (TyOk.wide hw.2.1 _ _ w1) v1
          refine ⟨m3, z1, by omega, fun hx => ?_⟩
          have := v3 hx
          omega
      · simp only [if_neg h5] at h
        cases h
        exact w
end Go.Proofs.YtcdijppegfcoaabGreatDoor

/-
  OUR OWN TEXT. typerref.Parsed.
-/
namespace Go.Proofs.YtcdijppegfcoaabGreatDoor
open Go.RowKit

/-- What Parsed answers: s2: where its reader stands at last. -/
def ParsedPost (w w' : World) (e : Ending) (t : Ty) (ns : List (List UInt8)) (s2 : St) : Prop :=
  Below w.heap.size w w' ∧ ((0 ≤ s2.bad ∧ e = .returned (.tuple #[.pointer none, .slice none 0 0, fv 2 s2.bad])) ∨
    (s2.bad < 0 ∧ ∃ m, TyOk ns.length m t ∧ ((120 < tySize m t ∧ e = .returned (.tuple #[.pointer none, .slice none 0 0, fv 8 0])) ∨
      (tySize m t ≤ 120 ∧ ∃ b H' v, e = .returned (.tuple #[.pointer (some ⟨b, 0, none⟩), v, fv 0 0]) ∧ Fz H' w' ∧ TRep m H' b t ∧ w'.ownsRow w.heap.size 9 1 v ns.length (strs ns) ∧ ∀ k, some k = v.ownBlock → H' k = none))))

theorem own_base {w : World} {base base' e size n : Nat} {v : Value} {xs : List Value} (h : w.ownsRow base e size v n xs) (hb : base' ≤ base) : w.ownsRow base' e size v n xs := by
  obtain ⟨h1, h2⟩ := h
  refine ⟨h1, ?_⟩
  rcases h2 with h2 | ⟨g, cap, cur, rfl, hg, r⟩
  · exact Or.inl h2
  · exact Or.inr ⟨g, cap, cur, rfl, Nat.le_trans hb hg, r⟩
theorem drew_heap (w : World) : w.drew.heap = w.heap := rfl
theorem fv_other {w3 : World} {fb k : Nat} (v0 v1 v2 v3 v4 : Value) (hk : k ≠ fb) : ((((((w3.setCell ⟨fb, 0, none⟩ v0).setCell ⟨fb, 1, none⟩ v1).setCell ⟨fb, 2, none⟩ v2).setCell ⟨fb, 3, none⟩ v3).setCell ⟨fb, 4, none⟩ v4).drew).heap[k]? = w3.heap[k]? := by
  rw [drew_heap, Below.heap_setCell _ _ _ _ hk, Below.heap_setCell _ _ _ _ hk, Below.heap_setCell _ _ _ _ hk, Below.heap_setCell _ _ _ _ hk, Below.heap_setCell _ _ _ _ hk]

end Go.Proofs.YtcdijppegfcoaabGreatDoor

/-
  OUR OWN TEXT. The one text of a type on plain data: letters by the order in which variables stand; the same, gone along once with the variables met so far.
-/
namespace Go.Proofs.YtcdijppegfcoaabGreatDoor
open Go.RowKit

/-- The n-th name of a variable (n below 260). -/
def letterS (n : Nat) : List UInt8 := [UInt8.ofNat (97 + n % 26)] ++ (if 25 < n then [UInt8.ofNat (48 + n / 26)] else [])
theorem letterS_len (n : Nat) : (letterS n).length ≤ 2 := by
  unfold letterS
  split <;> simp

/-- One above the greatest. -/
def mostS : List Nat → Nat
  | [] => 0
  | v :: l => max (v + 1) (mostS l)
theorem mostS_mem {l : List Nat} {v : Nat} (h : v ∈ l) : v < mostS l := by
  induction l with
  | nil => cases h
  | cons a l ih =>
    rcases List.mem_cons.1 h with rfl | h
    · simp only [mostS]; omega
    · have := ih h; simp only [mostS]; omega
theorem mostS_le {l : List Nat} {N : Nat} (h : ∀ v, v ∈ l → v < N) : mostS l ≤ N := by
  induction l with
  | nil => exact Nat.zero_le _
  | cons a l ih =>
    have h1 := h a (by simp)
    have h2 := ih fun v hv => h v (List.mem_cons_of_mem _ hv)
    simp only [mostS]; omega
theorem mostS_snoc (l : List Nat) (v : Nat) : mostS (l ++ [v]) = max (mostS l) (v + 1) := by
  induction l with
  | nil => simp [mostS]
  | cons a l ih => simp only [List.cons_append, mostS, ih]; omega

/-- The names of variables, by number, once so many have been named. -/
def namesTo (l : List Nat) (j : Nat) : List (List UInt8) := (List.range (mostS l)).map fun v => if v ∈ l.take j then letterS (l.idxOf v) else []
def canNames (l : List Nat) : List (List UInt8) := namesTo l l.length
theorem namesTo_len (l : List Nat) (j : Nat) : (namesTo l j).length = mostS l := by simp [namesTo]
theorem canNames_at {l : List Nat} {v : Nat} (h : v ∈ l) : (canNames l).getD v [] = letterS (l.idxOf v) := by
  have h1 := mostS_mem h
  simp [canNames, namesTo, List.getD, List.getElem?_map, List.getElem?_range h1, h]
theorem namesTo_step {l : List Nat} (hd : l.Nodup) {j v : Nat} (hv : l[j]? = some v) : namesTo l (j + 1) = (namesTo l j).set v (letterS j) := by
  have hj : j < l.length := by
    rcases Nat.lt_or_ge j l.length with h | h
    · exact h
    · rw [List.getElem?_eq_none h] at hv; cases hv
  have ev : l[j] = v := by rw [List.getElem?_eq_getElem hj] at hv; exact Option.some.inj hv
  have hix : l.idxOf v = j := by rw [← ev]; exact hd.idxOf_getElem j hj
  apply List.ext_getElem?
  intro i
  rw [List.getElem?_set]
  simp only [namesTo, List.getElem?_map, List.length_map, List.length_range]
  by_cases hi : i < mostS l
  · rw [List.getElem?_range hi]
    simp only [Option.map_some]
    by_cases e : v = i
    · subst e
      rw [if_pos rfl, if_pos hi]
      have hm : v ∈ l.take (j + 1) := by
        rw [List.take_add_one, hv]
        simp
      rw [if_pos hm, hix]
    · rw [if_neg e]
      have : (i ∈ l.take (j + 1)) ↔ (i ∈ l.take j) := by
        rw [List.take_add_one, hv]
        simp only [Option.toList_some, List.mem_append, List.mem_singleton]
        exact ⟨fun h => h.resolve_right (fun h => e h.symm), Or.inl⟩
      simp only [this]
  · rw [List.getElem?_eq_none (by simp; omega)]
    have hne : v ≠ i := fun e => hi (by rw [← e]; exact mostS_mem (by rw [← ev]; exact List.getElem_mem hj))
    rw [if_neg hne]
    rfl

theorem tyVars_pre : ∀ (n : Nat) (t : Ty) (l : List Nat), l <+: tyVars n t l
  | 0, _, l => List.prefix_refl l
  | n + 1, t, l => by
    rw [tyVars]
    split
    · split
      · exact List.prefix_refl l
      · exact List.prefix_append _ _
    · generalize t.kids = ks
      induction ks generalizing l with
      | nil => exact List.prefix_refl l
      | cons a ks ih => exact (tyVars_pre n a l).trans (ih _)
theorem tyVars_nodup : ∀ (n : Nat) (t : Ty) (l : List Nat), l.Nodup → (tyVars n t l).Nodup
  | 0, _, l, h => h
  | n + 1, t, l, h => by
    rw [tyVars]
    split
    · split
      · exact h
      · rename_i h1
        rw [List.nodup_append]
        exact ⟨h, by simp, fun a ha b hb e => h1 (by rw [← List.mem_singleton.1 hb, ← e]; exact ha)⟩
    · generalize t.kids = ks
      induction ks generalizing l with
      | nil => exact h
      | cons a ks ih => exact ih _ (tyVars_nodup n a l h)
theorem tyVars_lt {N : Nat} : ∀ (n : Nat) (t : Ty) (l : List Nat), TyOk N n t → (∀ v, v ∈ l → v < N) → ∀ v, v ∈ tyVars n t l → v < N
  | 0, _, _, h, _ => absurd h id
  | n + 1, t, l, h, hl => by
    rw [tyVars]
    rcases h with ⟨h1, h2, h3⟩ | ⟨h1, h2, h3⟩ | ⟨h1, h2, a, h3, h4⟩ | ⟨h1, h2, a, b, h3, h4, h5⟩
    · rw [if_pos h1]
      split
      · exact hl
      · intro v hv
        rcases List.mem_append.1 hv with hv | hv
        · exact hl v hv
        · rw [List.mem_singleton.1 hv]; exact h2
    · rw [if_neg (by rcases h1 with h1 | h1 <;> rw [h1] <;> decide), h3]; exact hl
    · rw [if_neg (by rw [h1]; decide), h3]
      exact tyVars_lt n a l h4 hl
    · rw [if_neg (by rcases h1 with h1 | h1 <;> rw [h1] <;> decide), h3]
      exact tyVars_lt n b _ h5 (tyVars_lt n a l h4 hl)
theorem tyVars_len {N : Nat} : ∀ (n : Nat) (t : Ty) (l : List Nat), TyOk N n t → (tyVars n t l).length ≤ l.length + tySize n t
  | 0, _, _, h => absurd h id
  | n + 1, t, l, h => by
    rw [tyVars, tySize]
    rcases h with ⟨h1, h2, h3⟩ | ⟨h1, h2, h3⟩ | ⟨h1, h2, a, h3, h4⟩ | ⟨h1, h2, a, b, h3, h4, h5⟩
    · rw [if_pos h1]
      split
      · omega
      · simp
    · rw [if_neg (by rcases h1 with h1 | h1 <;> rw [h1] <;> decide), h3]; simp
    · rw [if_neg (by rw [h1]; decide), h3]
      have := tyVars_len n a l h4
      simp
      omega
    · rw [if_neg (by rcases h1 with h1 | h1 <;> rw [h1] <;> decide), h3]
      have h6 := tyVars_len n a l h4
      have h7 := tyVars_len n b (tyVars n a l) h5
      simp
      omega

/-- The one text of a type. -/
def tyCanon (n : Nat) (t : Ty) : List UInt8 := tyText n (canNames (tyVars n t [])) t

/-- A type's text, gone along once: letters by the variables met so far, and those behind it. -/
def goS : Nat → Ty → List Nat → List UInt8 × List Nat
  | 0, _, l => ([], l)
  | n + 1, t, l =>
    if t.kind = [] then (letterS ((if t.var ∈ l then l else l ++ [t.var]).idxOf t.var), if t.var ∈ l then l else l ++ [t.var])
    else match t.kids with
      | [a] => ([91] ++ (goS n a l).1 ++ [93], (goS n a l).2)
      | [a, b] => (if t.kind = kFun then (if a.kind = kFun then [40] ++ (goS n a l).1 ++ [41] else (goS n a l).1) ++ [32, 45, 62, 32] ++ (goS n b (goS n a l).2).1
          else [40] ++ (goS n a l).1 ++ [44, 32] ++ (goS n b (goS n a l).2).1 ++ [41], (goS n b (goS n a l).2).2)
      | _ => (t.kind, l)
theorem idx_app (v : Nat) : ∀ (l r : List Nat), v ∈ l → (l ++ r).idxOf v = l.idxOf v
  | [], _, h => by cases h
  | a :: l, r, h => by
    rw [List.cons_append, List.idxOf_cons, List.idxOf_cons]
    by_cases e : a = v
    · simp [e]
    · have hb : (a == v) = false := beq_eq_false_iff_ne.2 e
      rw [hb]
      rcases List.mem_cons.1 h with h | h
      · exact absurd h.symm e
      · simp [idx_app v l r h]
theorem go_text {N : Nat} {L : List Nat} : ∀ (n : Nat) (t : Ty) (l : List Nat), TyOk N n t → tyVars n t l <+: L → goS n t l = (tyText n (canNames L) t, tyVars n t l)
  | 0, _, _, h, _ => absurd h id
  | n + 1, t, l, h, hp => by
    rcases h with ⟨h1, h2, h3⟩ | ⟨h1, h2, h3⟩ | ⟨h1, h2, a, h3, h4⟩ | ⟨h1, h2, a, b, h3, h4, h5⟩
    · have e : tyVars (n + 1) t l = if t.var ∈ l then l else l ++ [t.var] := by rw [tyVars, if_pos h1]
      have hm : t.var ∈ (if t.var ∈ l then l else l ++ [t.var]) := by
        split
        · assumption
        · simp
      rw [e] at hp ⊢
      obtain ⟨r, hr⟩ := hp
      have hi : L.idxOf t.var = (if t.var ∈ l then l else l ++ [t.var]).idxOf t.var := by
        rw [← hr, idx_app _ _ _ hm]
      rw [goS, if_pos h1, tyText, if_pos h1, canNames_at (by rw [← hr]; exact List.mem_append_left _ hm), hi]
    · have hk : t.kind ≠ [] := by rcases h1 with h1 | h1 <;> rw [h1] <;> decide
      rw [goS, if_neg hk, tyText, if_neg hk, tyVars, if_neg hk, h3]
      rfl
    · have hk : t.kind ≠ [] := by rw [h1]; decide
      have e : tyVars (n + 1) t l = tyVars n a l := by rw [tyVars, if_neg hk, h3]; rfl
      rw [e] at hp ⊢
      rw [goS, if_neg hk, tyText, if_neg hk, h3]
      simp only [go_text n a l h4 hp]
    · have hk : t.kind ≠ [] := by rcases h1 with h1 | h1 <;> rw [h1] <;> decide
      have e : tyVars (n + 1) t l = tyVars n b (tyVars n a l) := by rw [tyVars, if_neg hk, h3]; rfl
      rw [e] at hp ⊢
      have g1 := go_text n a l h4 ((tyVars_pre n b _).trans hp)
      have g2 := go_text n b _ h5 hp
      rw [goS, if_neg hk, tyText, if_neg hk, h3]
      simp only [g1, g2]
theorem go_canon {N n : Nat} {t : Ty} (h : TyOk N n t) : goS n t [] = (tyCanon n t, tyVars n t []) := go_text n t [] h (List.prefix_refl _)
theorem goS_len {N : Nat} : ∀ (n : Nat) (t : Ty) (l : List Nat), TyOk N n t → (goS n t l).1.length ≤ 8 * tySize n t
  | 0, _, _, h => absurd h id
  | n + 1, t, l, h => by
    rcases h with ⟨h1, h2, h3⟩ | ⟨h1, h2, h3⟩ | ⟨h1, h2, a, h3, h4⟩ | ⟨h1, h2, a, b, h3, h4, h5⟩
    · rw [goS, if_pos h1, tySize, h3]
      have := letterS_len ((if t.var ∈ l then l else l ++ [t.var]).idxOf t.var)
      simp only [List.map_nil, List.sum_nil]
      omega
    · have hk : t.kind ≠ [] := by rcases h1 with h1 | h1 <;> rw [h1] <;> decide
      rw [goS, if_neg hk, tySize, h3]
      rcases h1 with h1 | h1 <;> simp [h1, kInt, kBool]
    · have hk : t.kind ≠ [] := by rw [h1]; decide
      have := goS_len n a l h4
      rw [goS, if_neg hk, tySize, h3]
      simp
      omega
    · have hk : t.kind ≠ [] := by rcases h1 with h1 | h1 <;> rw [h1] <;> decide
      have h6 := goS_len n a l h4
      have h7 := goS_len n b (goS n a l).2 h5
      rw [goS, if_neg hk, tySize, h3]
      simp only
      split
      · split <;> simp <;> omega
      · simp; omega
end Go.Proofs.YtcdijppegfcoaabGreatDoor

/-
  OUR OWN TEXT. typerref.Parsed at a text that is too long; types' texts by more fuel.
-/
namespace Go.Proofs.YtcdijppegfcoaabGreatDoor
open Go.RowKit

theorem TyOk.vars {N : Nat} : ∀ (m m' : Nat) (t : Ty) (l : List Nat), TyOk N m t → m ≤ m' → tyVars m' t l = tyVars m t l
  | 0, _, _, _, h, _ => absurd h id
  | m + 1, 0, _, _, _, hm => by omega
  | m + 1, m' + 1, t, l, h, hm => by
    rcases h with ⟨h1, h2, h3⟩ | ⟨h1, h2, h3⟩ | ⟨h1, h2, a, h3, h4⟩ | ⟨h1, h2, a, b, h3, h4, h5⟩
    · simp only [tyVars, if_pos h1]
    · have hk : t.kind ≠ [] := by rcases h1 with h1 | h1 <;> rw [h1] <;> decide
      simp only [tyVars, if_neg hk, h3, List.foldl_nil]
    · have hk : t.kind ≠ [] := by rw [h1]; decide
      simp only [tyVars, if_neg hk, h3, List.foldl_cons, List.foldl_nil, TyOk.vars m m' a _ h4 (by omega)]
    · have hk : t.kind ≠ [] := by rcases h1 with h1 | h1 <;> rw [h1] <;> decide
      simp only [tyVars, if_neg hk, h3, List.foldl_cons, List.foldl_nil, TyOk.vars m m' a _ h4 (by omega), TyOk.vars m m' b _ h5 (by omega)]
theorem TyOk.text {N : Nat} (ns : List (List UInt8)) : ∀ (m m' : Nat) (t : Ty), TyOk N m t → m ≤ m' → tyText m' ns t = tyText m ns t
  | 0, _, _, h, _ => absurd h id
  | m + 1, 0, _, _, hm => by omega
  | m + 1, m' + 1, t, h, hm => by
    rcases h with ⟨h1, h2, h3⟩ | ⟨h1, h2, h3⟩ | ⟨h1, h2, a, h3, h4⟩ | ⟨h1, h2, a, b, h3, h4, h5⟩
    · simp only [tyText, if_pos h1]
    · have hk : t.kind ≠ [] := by rcases h1 with h1 | h1 <;> rw [h1] <;> decide
      simp only [tyText, if_neg hk, h3]
    · have hk : t.kind ≠ [] := by rw [h1]; decide
      simp only [tyText, if_neg hk, h3, TyOk.text ns m m' a h4 (by omega)]
    · have hk : t.kind ≠ [] := by rcases h1 with h1 | h1 <;> rw [h1] <;> decide
      simp only [tyText, if_neg hk, h3, TyOk.text ns m m' a h4 (by omega), TyOk.text ns m m' b h5 (by omega)]
/-- What a type is does not hang on the fuel. -/
theorem ty_same {N N' m m' : Nat} {t : Ty} (h : TyOk N m t) (h' : TyOk N' m' t) : tySize m t = tySize m' t ∧ tyCanon m t = tyCanon m' t := by
  rcases Nat.le_total m m' with hl | hl
  · exact ⟨(TyOk.size m m' t h hl).symm, by unfold tyCanon; rw [TyOk.vars m m' t [] h hl, TyOk.text _ m m' t h hl]⟩
  · exact ⟨TyOk.size m' m t h' hl, by unfold tyCanon; rw [TyOk.vars m' m t [] h' hl, TyOk.text _ m' m t h' hl]⟩
theorem one_nodup {T : List Tok} {A : List (List UInt8) → St → Option (Ty × List (List UInt8) × St)} (hA : ∀ ns s t ns' s', A ns s = some (t, ns', s') → ns.Nodup → ns'.Nodup) (ns : List (List UInt8)) (s : St) (t : Ty) (ns' : List (List UInt8)) (s' : St)
    (h : oneS A T ns s = some (t, ns', s')) (hd : ns.Nodup) : ns'.Nodup := by
  unfold oneS at h
  split at h
  · cases h; exact hd
  · split at h
    · cases h; exact hd
    · split at h
      · cases e : A ns s.up with
        | none => rw [e] at h; cases h
        | some q =>
          obtain ⟨t1, n1, s1⟩ := q
          rw [e] at h
          cases h
          exact hA _ _ _ _ _ e hd
      · split at h
        · cases e : A ns s.up with
          | none => rw [e] at h; cases h
          | some q =>
            obtain ⟨t1, n1, s1⟩ := q
            rw [e] at h
            simp only at h
            split at h
            · cases e2 : A n1 s1.up with
              | none => rw [e2] at h; cases h
              | some q2 =>
                obtain ⟨t2, n2, s2⟩ := q2
                rw [e2] at h
                cases h
                exact hA _ _ _ _ _ e2 (hA _ _ _ _ _ e hd)
            · cases h
              exact hA _ _ _ _ _ e hd
        · cases h
          unfold numS
          split
          · exact hd
          · rename_i h1
            rw [List.nodup_append]
            exact ⟨hd, by simp, fun a ha b hb e => h1 (by rw [← List.mem_singleton.1 hb, ← e]; exact ha)⟩
theorem arr_nodup {T : List Tok} : ∀ (n : Nat) (ns : List (List UInt8)) (s : St) (t : Ty) (ns' : List (List UInt8)) (s' : St), arrS T n ns s = some (t, ns', s') → ns.Nodup → ns'.Nodup
  | 0, _, _, _, _, _, h, _ => by cases h
  | n + 1, ns, s, t, ns', s', h, hd => by
    rw [arrS] at h
    cases e : oneS (arrS T n) T ns s with
    | none => rw [e] at h; cases h
    | some q =>
      obtain ⟨t1, n1, s1⟩ := q
      rw [e] at h
      simp only at h
      have p1 := one_nodup (arr_nodup n) ns s t1 n1 s1 e hd
      split at h
      · cases e2 : arrS T n n1 s1.up with
        | none => rw [e2] at h; cases h
        | some q2 =>
          obtain ⟨t2, n2, s2⟩ := q2
          rw [e2] at h
          cases h
          exact arr_nodup n _ _ _ _ _ e2 p1
      · cases h
        exact p1
end Go.Proofs.YtcdijppegfcoaabGreatDoor

/-
  OUR OWN TEXT. No two types have the same text.
-/
namespace Go.Proofs.YtcdijppegfcoaabGreatDoor
open Go.RowKit

def isC (c : UInt8) : Bool := low c || fig c
/-- What follows goes on with no word. -/
def NoC (r : List UInt8) : Prop := ∀ c r', r = c :: r' → isC c = false
def NoB (r : List UInt8) : Prop := ∀ c r', r = c :: r' → c ≠ 32
theorem noC_cons {c : UInt8} {r : List UInt8} (h : isC c = false) : NoC (c :: r) := fun d r' e => by cases e; exact h
theorem noB_cons {c : UInt8} {r : List UInt8} (h : c ≠ 32) : NoB (c :: r) := fun d r' e => by cases e; exact h
/-- A name of a variable. -/
def NameOk (n : List UInt8) : Prop := (∃ c r, n = c :: r ∧ low c = true) ∧ (∀ c, c ∈ n → isC c = true) ∧ n ∉ tyKw
theorem word_inj : ∀ (u v r s : List UInt8), (∀ c, c ∈ u → isC c = true) → (∀ c, c ∈ v → isC c = true) → NoC r → NoC s → u ++ r = v ++ s → u = v ∧ r = s
  | [], [], r, s, _, _, _, _, h => ⟨rfl, h⟩
  | [], d :: v, r, s, _, hv, hr, _, h => by
    have h1 := hr d (v ++ s) h
    have h2 := hv d (by simp)
    rw [h1] at h2; cases h2
  | c :: u, [], r, s, hu, _, _, hs, h => by
    have h1 := hs c (u ++ r) h.symm
    have h2 := hu c (by simp)
    rw [h1] at h2; cases h2
  | c :: u, d :: v, r, s, hu, hv, hr, hs, h => by
    rw [List.cons_append, List.cons_append, List.cons.injEq] at h
    obtain ⟨rfl, h⟩ := h
    obtain ⟨rfl, e⟩ := word_inj u v r s (fun x hx => hu x (List.mem_cons_of_mem _ hx)) (fun x hx => hv x (List.mem_cons_of_mem _ hx)) hr hs h
    exact ⟨rfl, e⟩

/-- Names are names, all different. -/
structure Nms (N : Nat) (ns : List (List UInt8)) : Prop where
  len : N ≤ ns.length
  ok : ∀ n, n ∈ ns → NameOk n
  nd : ns.Nodup
def UV (N : Nat) (ns : List (List UInt8)) (n : Nat) : Prop := ∀ (x y : Ty) (r r' : List UInt8), TyOk N n x → TyOk N n y → NoC r → NoC r' → NoB r → NoB r' → tyText n ns x ++ r = tyText n ns y ++ r' → x = y ∧ r = r'
theorem getD_mem {ns : List (List UInt8)} {i : Nat} (h : i < ns.length) : ns.getD i [] ∈ ns := by
  have : ns.getD i [] = ns[i] := by simp [List.getD, h]
  rw [this]
  exact List.getElem_mem h
theorem getD_inj2 {ns : List (List UInt8)} (hd : ns.Nodup) {i j : Nat} (hi : i < ns.length) (hj : j < ns.length) (h : ns.getD i [] = ns.getD j []) : i = j := by
  have e1 : ns.getD i [] = ns[i] := by simp [List.getD, hi]
  have e2 : ns.getD j [] = ns[j] := by simp [List.getD, hj]
  rw [e1, e2] at h
  have a := hd.idxOf_getElem i hi
  have b := hd.idxOf_getElem j hj
  rw [h] at a
  omega
/-- The shape of a text that is no arrow's. -/
def Core (N : Nat) (ns : List (List UInt8)) (n : Nat) (x : Ty) : Prop :=
  (∃ u, tyText (n + 1) ns x = u ∧ (∀ c, c ∈ u → isC c = true) ∧ (∃ c r, u = c :: r ∧ low c = true) ∧ ((x.kind = [] ∧ x.var < N ∧ x.kids = [] ∧ u = ns.getD x.var []) ∨ ((x.kind = kInt ∨ x.kind = kBool) ∧ x.var = 0 ∧ x.kids = [] ∧ u = x.kind))) ∨
  (∃ a, x = ⟨oList, 0, [a]⟩ ∧ TyOk N n a ∧ tyText (n + 1) ns x = 91 :: (tyText n ns a ++ [93])) ∨
  (∃ a b, x = ⟨oPair, 0, [a, b]⟩ ∧ TyOk N n a ∧ TyOk N n b ∧ tyText (n + 1) ns x = 40 :: (tyText n ns a ++ (44 :: 32 :: (tyText n ns b ++ [41]))))
theorem core_of {N : Nat} {ns : List (List UInt8)} (hn : Nms N ns) {n : Nat} {x : Ty} (h : TyOk N (n + 1) x) (hk : x.kind ≠ kFun) : Core N ns n x := by
  rcases h with ⟨h1, h2, h3⟩ | ⟨h1, h2, h3⟩ | ⟨h1, h2, a, h3, h4⟩ | ⟨h1, h2, a, b, h3, h4, h5⟩
  · obtain ⟨o1, o2, o3⟩ := hn.ok _ (getD_mem (Nat.lt_of_lt_of_le h2 hn.len))
    exact Or.inl ⟨ns.getD x.var [], by rw [tyText, if_pos h1], o2, o1, Or.inl ⟨h1, h2, h3, rfl⟩⟩
  · have hk' : x.kind ≠ [] := by rcases h1 with h1 | h1 <;> rw [h1] <;> decide
    refine Or.inl ⟨x.kind, by rw [tyText, if_neg hk', h3], ?_, ?_, Or.inr ⟨h1, h2, h3, rfl⟩⟩
    · rcases h1 with h1 | h1 <;> rw [h1] <;> decide
    · rcases h1 with h1 | h1 <;> rw [h1] <;> exact ⟨_, _, rfl, by decide⟩
  · have hk' : x.kind ≠ [] := by rw [h1]; decide
    obtain ⟨k, v, ks⟩ := x
    simp only at h1 h2 h3
    subst h1 h2 h3
    refine Or.inr (Or.inl ⟨a, rfl, h4, ?_⟩)
    rw [tyText, if_neg hk']
    simp
  · rcases h1 with h1 | h1
    · have hk' : x.kind ≠ [] := by rw [h1]; decide
      obtain ⟨k, v, ks⟩ := x
      simp only at h1 h2 h3
      subst h1 h2 h3
      refine Or.inr (Or.inr ⟨a, b, rfl, h4, h5, ?_⟩)
      rw [tyText, if_neg hk']
      show (if oPair = kFun then _ else _) = _
      rw [if_neg (by decide)]
      simp
    · exact absurd h1 hk
theorem core_inj {N : Nat} {ns : List (List UInt8)} (hn : Nms N ns) {n : Nat} (hV : UV N ns n) {x y : Ty} (hx : Core N ns n x) (hy : Core N ns n y) {r r' : List UInt8} (hr : NoC r) (hr' : NoC r') (h : tyText (n + 1) ns x ++ r = tyText (n + 1) ns y ++ r') : x = y ∧ r = r' := by
  rcases hx with ⟨u, e1, u1, ⟨c, q, u2, u3⟩, u4⟩ | ⟨a, rfl, oa, e1⟩ | ⟨a, b, rfl, oa, ob, e1⟩
  · rcases hy with ⟨v, e2, v1, ⟨c', q', v2, v3⟩, v4⟩ | ⟨a', rfl, oa', e2⟩ | ⟨a', b', rfl, oa', ob', e2⟩
    · rw [e1, e2] at h
      obtain ⟨e, hr2⟩ := word_inj u v r r' u1 v1 hr hr' h
      refine ⟨?_, hr2⟩
      obtain ⟨k, vr, ks⟩ := x
      obtain ⟨k', vr', ks'⟩ := y
      simp only at u4 v4
      rcases u4 with ⟨a1, a2, a3, a4⟩ | ⟨a1, a2, a3, a4⟩ <;> rcases v4 with ⟨b1, b2, b3, b4⟩ | ⟨b1, b2, b3, b4⟩
      · have := getD_inj2 hn.nd (Nat.lt_of_lt_of_le a2 hn.len) (Nat.lt_of_lt_of_le b2 hn.len) (by rw [← a4, ← b4, e])
        rw [a1, a3, b1, b3, this]
      · exfalso
        refine (hn.ok _ (getD_mem (Nat.lt_of_lt_of_le a2 hn.len))).2.2 ?_
        rw [← a4, e, b4]
        rcases b1 with b1 | b1 <;> rw [b1] <;> decide
      · exfalso
        refine (hn.ok _ (getD_mem (Nat.lt_of_lt_of_le b2 hn.len))).2.2 ?_
        rw [← b4, ← e, a4]
        rcases a1 with a1 | a1 <;> rw [a1] <;> decide
      · have : k = k' := by rw [← a4, ← b4, e]
        rw [this, a2, a3, b2, b3]
    · exfalso
      rw [e1, e2, u2] at h
      simp only [List.cons_append, List.cons.injEq] at h
      rw [h.1] at u3
      exact absurd u3 (by decide)
    · exfalso
      rw [e1, e2, u2] at h
      simp only [List.cons_append, List.cons.injEq] at h
      rw [h.1] at u3
      exact absurd u3 (by decide)
  · rcases hy with ⟨v, e2, v1, ⟨c', q', v2, v3⟩, v4⟩ | ⟨a', rfl, oa', e2⟩ | ⟨a', b', rfl, oa', ob', e2⟩
    · exfalso
      rw [e1, e2, v2] at h
      simp only [List.cons_append, List.cons.injEq] at h
      rw [← h.1] at v3
      exact absurd v3 (by decide)
    · rw [e1, e2] at h
      simp only [List.cons_append, List.append_assoc, List.nil_append, List.cons.injEq, true_and] at h
      obtain ⟨rfl, e⟩ := hV a a' _ _ oa oa' (noC_cons (by decide)) (noC_cons (by decide)) (noB_cons (by decide)) (noB_cons (by decide)) h
      exact ⟨rfl, (List.cons.inj e).2⟩
    · exfalso
      rw [e1, e2] at h
      simp only [List.cons_append, List.cons.injEq] at h
      exact absurd h.1 (by decide)
  · rcases hy with ⟨v, e2, v1, ⟨c', q', v2, v3⟩, v4⟩ | ⟨a', rfl, oa', e2⟩ | ⟨a', b', rfl, oa', ob', e2⟩
    · exfalso
      rw [e1, e2, v2] at h
      simp only [List.cons_append, List.cons.injEq] at h
      rw [← h.1] at v3
      exact absurd v3 (by decide)
    · exfalso
      rw [e1, e2] at h
      simp only [List.cons_append, List.cons.injEq] at h
      exact absurd h.1 (by decide)
    · rw [e1, e2] at h
      simp only [List.cons_append, List.append_assoc, List.nil_append, List.cons.injEq, true_and] at h
      obtain ⟨rfl, e⟩ := hV a a' _ _ oa oa' (noC_cons (by decide)) (noC_cons (by decide)) (noB_cons (by decide)) (noB_cons (by decide)) h
      have e3 := (List.cons.inj (List.cons.inj e).2).2
      obtain ⟨rfl, e4⟩ := hV b b' _ _ ob ob' (noC_cons (by decide)) (noC_cons (by decide)) (noB_cons (by decide)) (noB_cons (by decide)) e3
      exact ⟨rfl, (List.cons.inj e4).2⟩
/-- An arrow's text. -/
theorem arrow_text {N : Nat} {ns : List (List UInt8)} {n : Nat} {x : Ty} (h : TyOk N (n + 1) x) (hk : x.kind = kFun) : ∃ a b, x = ⟨kFun, 0, [a, b]⟩ ∧ TyOk N n a ∧ TyOk N n b ∧
    tyText (n + 1) ns x = (if a.kind = kFun then 40 :: (tyText n ns a ++ [41]) else tyText n ns a) ++ (32 :: 45 :: 62 :: 32 :: tyText n ns b) := by
  rcases h with ⟨h1, h2, h3⟩ | ⟨h1, h2, h3⟩ | ⟨h1, h2, a, h3, h4⟩ | ⟨h1, h2, a, b, h3, h4, h5⟩
  · rw [hk] at h1; exact absurd h1 (by decide)
  · rw [hk] at h1; exact absurd h1 (by decide)
  · rw [hk] at h1; exact absurd h1 (by decide)
  · obtain ⟨k, v, ks⟩ := x
    simp only at hk h2 h3
    subst hk h2 h3
    refine ⟨a, b, rfl, h4, h5, ?_⟩
    rw [tyText, if_neg (show ¬ kFun = [] by decide)]
    show (if kFun = kFun then _ else _) = _
    rw [if_pos rfl]
    split <;> simp
/-- The left side of an arrow, and what follows. -/
theorem left_inj {N : Nat} {ns : List (List UInt8)} (hn : Nms N ns) {n : Nat} (hV : UV N ns n) {a y : Ty} (oa : TyOk N n a) (oy : TyOk N (n + 1) y) (hy : y.kind ≠ kFun) {r r' : List UInt8} (hr : NoC r) (hr' : NoC r')
    (h : (if a.kind = kFun then 40 :: (tyText n ns a ++ [41]) else tyText n ns a) ++ r = tyText (n + 1) ns y ++ r') : a = y ∧ r = r' := by
  by_cases hk : a.kind = kFun
  · exfalso
    rw [if_pos hk] at h
    rcases core_of hn oy hy with ⟨v, e2, v1, ⟨c', q', v2, v3⟩, v4⟩ | ⟨a', rfl, oa', e2⟩ | ⟨a', b', rfl, oa', ob', e2⟩
    · rw [e2, v2] at h
      simp only [List.cons_append, List.cons.injEq] at h
      rw [← h.1] at v3
      exact absurd v3 (by decide)
    · rw [e2] at h
      simp only [List.cons_append, List.cons.injEq] at h
      exact absurd h.1 (by decide)
    · rw [e2] at h
      simp only [List.cons_append, List.append_assoc, List.nil_append, List.cons.injEq, true_and] at h
      obtain ⟨_, e⟩ := hV a a' _ _ oa oa' (noC_cons (by decide)) (noC_cons (by decide)) (noB_cons (by decide)) (noB_cons (by decide)) h
      exact absurd (List.cons.inj e).1 (by decide)
  · rw [if_neg hk, ← TyOk.text ns n (n + 1) a oa (by omega)] at h
    exact core_inj hn hV (core_of hn (TyOk.up n a oa) hk) (core_of hn oy hy) hr hr' h
theorem text_inj {N : Nat} {ns : List (List UInt8)} (hn : Nms N ns) : ∀ n, UV N ns n
  | 0 => fun x y r r' h => absurd h id
  | n + 1 => by
    have hV := text_inj hn n
    intro x y r r' hx hy hr hr' hb hb' h
    by_cases kx : x.kind = kFun
    · obtain ⟨a, b, rfl, oa, ob, e1⟩ := arrow_text (ns := ns) hx kx
      by_cases ky : y.kind = kFun
      · obtain ⟨a', b', rfl, oa', ob', e2⟩ := arrow_text (ns := ns) hy ky
        rw [e1, e2] at h
        simp only [List.append_assoc, List.cons_append] at h
        have key : a = a' ∧ (32 :: 45 :: 62 :: 32 :: (tyText n ns b ++ r)) = (32 :: 45 :: 62 :: 32 :: (tyText n ns b' ++ r')) := by
          by_cases ka' : a'.kind = kFun
          · by_cases ka : a.kind = kFun
            · rw [if_pos ka, if_pos ka'] at h
              simp only [List.cons_append, List.append_assoc, List.nil_append, List.cons.injEq, true_and] at h
              obtain ⟨rfl, e⟩ := hV a a' _ _ oa oa' (noC_cons (by decide)) (noC_cons (by decide)) (noB_cons (by decide)) (noB_cons (by decide)) h
              exact ⟨rfl, by have := (List.cons.inj e).2; rw [this]⟩
            · rw [if_neg ka, ← TyOk.text ns n (n + 1) a oa (by omega)] at h
              obtain ⟨e3, e4⟩ := left_inj hn hV oa' (TyOk.up n a oa) ka (noC_cons (by decide)) (noC_cons (by decide)) h.symm
              exact ⟨e3.symm, e4.symm⟩
          · rw [if_neg ka', ← TyOk.text ns n (n + 1) a' oa' (by omega)] at h
            exact left_inj hn hV oa (TyOk.up n a' oa') ka' (noC_cons (by decide)) (noC_cons (by decide)) h
        obtain ⟨rfl, e⟩ := key
        simp only [List.cons.injEq, true_and] at e
        obtain ⟨rfl, e5⟩ := hV b b' _ _ ob ob' hr hr' hb hb' e
        exact ⟨rfl, e5⟩
      · exfalso
        rw [e1] at h
        simp only [List.append_assoc, List.cons_append] at h
        obtain ⟨_, e⟩ := left_inj hn hV oa hy ky (noC_cons (by decide)) hr' h
        exact hb' _ _ e.symm rfl
    · by_cases ky : y.kind = kFun
      · obtain ⟨a', b', rfl, oa', ob', e2⟩ := arrow_text (ns := ns) hy ky
        exfalso
        rw [e2] at h
        simp only [List.append_assoc, List.cons_append] at h
        obtain ⟨_, e⟩ := left_inj hn hV oa' hx kx (noC_cons (by decide)) hr h.symm
        exact hb _ _ e.symm rfl
      · exact core_inj hn hV (core_of hn hx kx) (core_of hn hy ky) hr hr' h
theorem same_text {N : Nat} {ns : List (List UInt8)} (hn : Nms N ns) {n : Nat} {x y : Ty} (hx : TyOk N n x) (hy : TyOk N n y) (h : tyText n ns x = tyText n ns y) : x = y :=
  (text_inj hn n x y [] [] hx hy (fun c r e => by cases e) (fun c r e => by cases e) (fun c r e => by cases e) (fun c r e => by cases e) (by rw [h])).1
end Go.Proofs.YtcdijppegfcoaabGreatDoor

/-
  OUR OWN TEXT. The names of a type's variables are names.
-/
namespace Go.Proofs.YtcdijppegfcoaabGreatDoor
open Go.RowKit

theorem mem_cut {l : List UInt8} {J K : Nat} {c : UInt8} (h : c ∈ cut l J K) : ∃ i, J ≤ i ∧ i < K ∧ l[i]? = some c := by
  obtain ⟨i, hi, rfl⟩ := List.mem_iff_getElem.1 h
  unfold cut at hi ⊢
  rw [List.length_drop, List.length_take] at hi
  refine ⟨J + i, by omega, by omega, ?_⟩
  rw [List.getElem_drop, List.getElem_take]
  exact List.getElem?_eq_getElem (by omega)
theorem tok_name {l : List UInt8} {J : Nat} (hJ : J ≤ l.length) (h : (tokAt tyKw l J).1.is = kName) : NameOk (tokAt tyKw l J).1.s := by
  have hs : (tokAt tyKw l J).1.s = cut l J (raw l J).2 := rfl
  have hi : (tokAt tyKw l J).1.is = (if (if ((raw l J).1 = kName ∨ (raw l J).1 = kNum) ∧ (raw l J).2 - J > 8 then kNone else (raw l J).1) = kName ∧ cut l J (raw l J).2 ∈ tyKw then cut l J (raw l J).2 else (if ((raw l J).1 = kName ∨ (raw l J).1 = kNum) ∧ (raw l J).2 - J > 8 then kNone else (raw l J).1)) := rfl
  rw [hi] at h
  rw [hs]
  obtain ⟨b, hb⟩ : ∃ b, b = (if ((raw l J).1 = kName ∨ (raw l J).1 = kNum) ∧ (raw l J).2 - J > 8 then kNone else (raw l J).1) := ⟨_, rfl⟩
  rw [← hb] at h
  clear hi hs
  by_cases hk : cut l J (raw l J).2 ∈ tyKw
  · exfalso
    by_cases hbn : b = kName
    · rw [if_pos ⟨hbn, hk⟩] at h
      rw [h] at hk
      exact absurd hk (by decide)
    · rw [if_neg (fun e => hbn e.1)] at h
      exact hbn h
  · rw [if_neg (fun e => hk e.2)] at h
    have hr : (raw l J).1 = kName := by
      rw [hb] at h
      split at h
      · exact absurd h (by decide)
      · exact h
    rcases raw_cases l J hJ with ⟨e, _⟩ | ⟨c, r, K, e, h1, h2, h3, h4⟩ | ⟨c, r, K, e, h1, h2, h3, h4⟩ | ⟨e, h1, h2⟩ | ⟨c, hc, e, h1, h2⟩ | ⟨e, h1⟩
    · rw [e] at hr; exact absurd (show kEnd = kName from hr) (by decide)
    · rw [e] at hk ⊢
      refine ⟨⟨c, r, h3, h4⟩, fun d hd => ?_, hk⟩
      obtain ⟨i, i1, i2, i3⟩ := mem_cut hd
      have hK : K = upto lowfig l J := by
        unfold raw at e
        have hJl : J < l.length := by omega
        rw [List.getElem?_eq_getElem hJl] at e
        simp only at e
        split at e
        · exact (Prod.mk.inj e).2.symm
        · exfalso
          split at e
          · exact absurd (Prod.mk.inj e).1 (by decide)
          · split at e
            · exact absurd (Prod.mk.inj e).1 (by decide)
            · split at e
              · have := congrArg List.length (Prod.mk.inj e).1
                simp [kName] at this
              · exact absurd (Prod.mk.inj e).1 (by decide)
      rw [hK] at i2
      obtain ⟨c', hc', hp⟩ := upto_in lowfig l J i i1 i2
      rw [i3] at hc'
      cases hc'
      exact hp
    · rw [e] at hr; exact absurd (show kNum = kName from hr) (by decide)
    · rw [e] at hr; exact absurd (show kArrow = kName from hr) (by decide)
    · rw [e] at hr
      have := congrArg List.length hr
      simp [kName] at this
    · rw [e] at hr; exact absurd (show kNone = kName from hr) (by decide)
theorem toks_at (kw : List (List UInt8)) (l : List UInt8) : ∀ (f i : Nat), i ≤ l.length → ∀ t, t ∈ toks kw l f i → ∃ J, J ≤ l.length ∧ t = (tokAt kw l J).1
  | 0, _, _, t, h => by cases h
  | f + 1, i, hi, t, h => by
    have hu := upto_le isB l i hi
    rw [toks] at h
    (try simp only at h)
    split at h
    · rw [List.mem_singleton.1 h]
      exact ⟨_, hu.2, rfl⟩
    · rcases List.mem_cons.1 h with rfl | h
      · exact ⟨_, hu.2, rfl⟩
      · refine toks_at kw l f _ ?_ t h
        have : (tokAt kw l (upto isB l i)).2 = (raw l (upto isB l i)).2 := rfl
        rw [this]
        rcases raw_cases l _ hu.2 with ⟨e, _⟩ | ⟨c, r, K, e, h1, h2, h3, h4⟩ | ⟨c, r, K, e, h1, h2, h3, h4⟩ | ⟨e, h1, h2⟩ | ⟨c, hc, e, h1, h2⟩ | ⟨e, h1⟩ <;> rw [e] <;> simp only <;> omega
def NmT (T : List Tok) : Prop := ∀ k, (tk T k).is = kName → NameOk (tk T k).s
theorem nmT_of (l : List UInt8) (f i : Nat) (hi : i ≤ l.length) : NmT (toks tyKw l f i) := by
  intro k hk
  unfold Proofs.YtcdijppegfcoaabGreatDoor.tk at hk ⊢
  rw [List.getD_eq_getElem?_getD] at hk ⊢
  cases e : (toks tyKw l f i)[k]? with
  | none => rw [e] at hk; exact absurd hk (by decide)
  | some t =>
    rw [e] at hk
    obtain ⟨J, hJ, rfl⟩ := toks_at tyKw l f i hi t (List.mem_of_getElem? e)
    exact tok_name hJ hk
theorem one_names {T : List Tok} (hT : NmT T) {A : List (List UInt8) → St → Option (Ty × List (List UInt8) × St)} (hA : ∀ ns s t ns' s', A ns s = some (t, ns', s') → s'.bad < 0 → (∀ n, n ∈ ns → NameOk n) → ∀ n, n ∈ ns' → NameOk n) (ns : List (List UInt8)) (s : St) (t : Ty) (ns' : List (List UInt8)) (s' : St)
    (h : oneS A T ns s = some (t, ns', s')) (hb : s'.bad < 0) (hn : ∀ n, n ∈ ns → NameOk n) : ∀ n, n ∈ ns' → NameOk n := by
  unfold oneS at h
  split at h
  · cases h; exact hn
  · split at h
    · cases h; exact hn
    · split at h
      · cases e : A ns s.up with
        | none => rw [e] at h; cases h
        | some q =>
          obtain ⟨t1, n1, s1⟩ := q
          rw [e] at h
          cases h
          exact hA _ _ _ _ _ e ((needS_go T s1 kQs).2.2 hb).1 hn
      · split at h
        · cases e : A ns s.up with
          | none => rw [e] at h; cases h
          | some q =>
            obtain ⟨t1, n1, s1⟩ := q
            rw [e] at h
            simp only at h
            split at h
            · rename_i hc
              cases e2 : A n1 s1.up with
              | none => rw [e2] at h; cases h
              | some q2 =>
                obtain ⟨t2, n2, s2⟩ := q2
                rw [e2] at h
                cases h
                exact hA _ _ _ _ _ e2 ((needS_go T s2 kShut).2.2 hb).1 (hA _ _ _ _ _ e (isS_ok hc) hn)
            · cases h
              exact hA _ _ _ _ _ e ((needS_go T s1 kShut).2.2 hb).1 hn
        · cases h
          have hnm : isS T s kName = true := by
            cases hi : isS T s kName with
            | true => rfl
            | false =>
              have h1 := ((needS_go T s kName).2.2 hb).2
              have h2 := ((needS_go T s kName).2.2 hb).1
              rw [needS, if_neg (by rw [hi]; decide), if_pos h2] at hb
              exact absurd hb (by show ¬ ((tk T s.k).pos : Int) < 0; omega)
          have hk : (tk T s.k).is = kName := by
            simp only [isS, Bool.and_eq_true, beq_iff_eq] at hnm
            exact hnm.2
          intro n hmem
          unfold numS at hmem
          split at hmem
          · exact hn n hmem
          · rcases List.mem_append.1 hmem with h | h
            · exact hn n h
            · rw [List.mem_singleton.1 h]
              exact hT s.k hk
theorem arr_names {T : List Tok} (hT : NmT T) : ∀ (n : Nat) (ns : List (List UInt8)) (s : St) (t : Ty) (ns' : List (List UInt8)) (s' : St), arrS T n ns s = some (t, ns', s') → s'.bad < 0 → (∀ n, n ∈ ns → NameOk n) → ∀ n, n ∈ ns' → NameOk n
  | 0, _, _, _, _, _, h, _, _ => by cases h
  | n + 1, ns, s, t, ns', s', h, hb, hn => by
    rw [arrS] at h
    cases e : oneS (arrS T n) T ns s with
    | none => rw [e] at h; cases h
    | some q =>
      obtain ⟨t1, n1, s1⟩ := q
      rw [e] at h
      simp only at h
      split at h
      · rename_i hc
        have p1 := one_names hT (arr_names hT n) ns s t1 n1 s1 e (isS_ok hc) hn
        cases e2 : arrS T n n1 s1.up with
        | none => rw [e2] at h; cases h
        | some q2 =>
          obtain ⟨t2, n2, s2⟩ := q2
          rw [e2] at h
          cases h
          exact arr_names hT n _ _ _ _ _ e2 hb p1
      · cases h
        exact one_names hT (arr_names hT n) ns s _ _ _ e hb hn
theorem names_of {s : ByteArray} {n : Nat} {x : Ty} {ns : List (List UInt8)} {s1 : St} (h : arrS (toksOf tyKw s) n [] ⟨0, -1⟩ = some (x, ns, s1)) (hb : s1.bad < 0) : Nms ns.length ns :=
  ⟨Nat.le_refl _, arr_names (nmT_of _ _ 0 (Nat.zero_le _)) n [] ⟨0, -1⟩ x ns s1 h hb (by simp), arr_nodup n [] ⟨0, -1⟩ x ns s1 h (by simp)⟩
end Go.Proofs.YtcdijppegfcoaabGreatDoor

/-
  OUR OWN TEXT. The text of a type, read again: its tokens.
-/
namespace Go.Proofs.YtcdijppegfcoaabGreatDoor
open Go.RowKit

/-- What a token is, wherever it stands. -/
def keyT (t : Tok) : List UInt8 × List UInt8 := (t.is, t.s)
/-- The tokens of a type's text. -/
def tkS (ns : List (List UInt8)) : Nat → Ty → List (List UInt8 × List UInt8)
  | 0, _ => []
  | n + 1, x =>
    if x.kind = [] then [(kName, ns.getD x.var [])]
    else match x.kids with
      | [a] => [(kSq, kSq)] ++ tkS ns n a ++ [(kQs, kQs)]
      | [a, b] => if x.kind = kFun then (if a.kind = kFun then [(kOpen, kOpen)] ++ tkS ns n a ++ [(kShut, kShut)] else tkS ns n a) ++ [(kArrow, kArrow)] ++ tkS ns n b
          else [(kOpen, kOpen)] ++ tkS ns n a ++ [(kComma, kComma)] ++ tkS ns n b ++ [(kShut, kShut)]
      | _ => [(x.kind, x.kind)]

/-- From i on up to j a text has these tokens. -/
def Piece (l : List UInt8) (i j : Nat) (ks : List (List UInt8 × List UInt8)) : Prop :=
  ∃ ts : List Tok, ts.map keyT = ks ∧ ∀ f, toks tyKw l (f + ks.length) i = ts ++ toks tyKw l f j
theorem Piece.app {l : List UInt8} {i j k : Nat} {a b : List (List UInt8 × List UInt8)} (h : Piece l i j a) (h' : Piece l j k b) : Piece l i k (a ++ b) := by
  obtain ⟨ts, h1, h2⟩ := h
  obtain ⟨us, h3, h4⟩ := h'
  refine ⟨ts ++ us, by rw [List.map_append, h1, h3], fun f => ?_⟩
  rw [List.length_append, show f + (a.length + b.length) = (f + b.length) + a.length from by omega, h2, h4, List.append_assoc]
theorem drop_get {l : List UInt8} {i : Nat} {c : UInt8} {r : List UInt8} (h : l.drop i = c :: r) : l[i]? = some c ∧ l.drop (i + 1) = r ∧ i < l.length := by
  have h1 : l[i]? = some c := by
    have := congrArg (fun x => x[0]?) h
    simpa using this
  refine ⟨h1, ?_, ?_⟩
  · have := congrArg (List.drop 1) h
    simpa [List.drop_drop] using this
  · rcases Nat.lt_or_ge i l.length with hi | hi
    · exact hi
    · rw [List.getElem?_eq_none hi] at h1; cases h1
theorem upto_stay {l : List UInt8} {i : Nat} {c : UInt8} {r : List UInt8} (p : UInt8 → Bool) (h : l.drop i = c :: r) (hp : p c = false) : upto p l i = i := by
  unfold upto run
  rw [h]
  simp [hp]
theorem upto_blank {l : List UInt8} {i : Nat} {r : List UInt8} (h : l.drop i = 32 :: r) : upto isB l i = upto isB l (i + 1) := by
  unfold upto run
  rw [h, (drop_get h).2.1]
  simp [isB]
  omega
theorem Piece.one {l : List UInt8} {i J r2 : Nat} {t : Tok} (hJ : upto isB l i = J) (ht : tokAt tyKw l J = (t, r2)) (hn : t.is ≠ kNone) (he : t.is ≠ kEnd) : Piece l i r2 [keyT t] := by
  refine ⟨[t], rfl, fun f => ?_⟩
  show toks tyKw l (f + 1) i = _
  rw [toks, hJ, ht]
  simp only
  rw [if_neg (fun h => h.elim hn he)]
  rfl
theorem Piece.blank {l : List UInt8} {i j : Nat} {r : List UInt8} {k : List UInt8 × List UInt8} {ks : List (List UInt8 × List UInt8)} (h : l.drop i = 32 :: r) (hp : Piece l (i + 1) j (k :: ks)) : Piece l i j (k :: ks) := by
  obtain ⟨ts, h1, h2⟩ := hp
  refine ⟨ts, h1, fun f => ?_⟩
  rw [← h2 f]
  show toks tyKw l (f + ks.length + 1) i = toks tyKw l (f + ks.length + 1) (i + 1)
  rw [toks, toks, upto_blank h]
theorem cut_at {l : List UInt8} {i : Nat} {u r : List UInt8} (h : l.drop i = u ++ r) : cut l i (i + u.length) = u := by
  unfold cut
  rw [List.drop_take, h]
  simp
theorem piece_sign {l : List UInt8} {i : Nat} {c : UInt8} {r : List UInt8} (h : l.drop i = c :: r) (hc : c = 40 ∨ c = 41 ∨ c = 44 ∨ c = 91 ∨ c = 93) : Piece l i (i + 1) [([c], [c])] := by
  have hb : isB c = false := by rcases hc with rfl | rfl | rfl | rfl | rfl <;> decide
  have hcut : cut l i (i + 1) = [c] := cut_at (u := [c]) (r := r) (by rw [h]; rfl)
  have hr : raw l i = ([c], i + 1) := by
    unfold raw
    rw [(drop_get h).1]
    simp only
    rw [if_neg (by rcases hc with rfl | rfl | rfl | rfl | rfl <;> decide), if_neg (by rcases hc with rfl | rfl | rfl | rfl | rfl <;> decide), if_neg (fun e => by rcases hc with rfl | rfl | rfl | rfl | rfl <;> exact absurd e.1 (by decide)), if_pos (by rcases hc with rfl | rfl | rfl | rfl | rfl <;> decide)]
  have h1 : ¬ (([c] : List UInt8) = kName ∨ ([c] : List UInt8) = kNum) := by
    intro e
    rcases e with e | e
    · exact absurd (congrArg List.length e) (by simp [kName])
    · exact absurd (congrArg List.length e) (by simp [kNum])
  have ht : tokAt tyKw l i = (⟨[c], [c], i⟩, i + 1) := by
    have e1 : (if ((([c] : List UInt8) = kName ∨ ([c] : List UInt8) = kNum) ∧ i + 1 - i > 8) then kNone else [c]) = [c] := if_neg (fun e => h1 e.1)
    unfold tokAt
    simp only [hr, hcut]
    rw [e1, if_neg (fun e => h1 (Or.inl e.1))]
  exact Piece.one (upto_stay isB h hb) ht (fun e => absurd (congrArg List.length e) (by simp [kNone])) (fun e => absurd (congrArg List.length e) (by simp [kEnd]))
theorem piece_arrow {l : List UInt8} {i : Nat} {r : List UInt8} (h : l.drop i = 45 :: 62 :: r) : Piece l i (i + 2) [(kArrow, kArrow)] := by
  have hcut : cut l i (i + 2) = kArrow := cut_at (u := kArrow) (r := r) (by rw [h]; rfl)
  have h2 := drop_get (drop_get h).2.1
  have hr : raw l i = (kArrow, i + 2) := by
    unfold raw
    rw [(drop_get h).1]
    simp only
    rw [if_neg (by decide), if_neg (by decide), if_pos (And.intro (by first | rfl | trivial) h2.1)]
  have ht : tokAt tyKw l i = (⟨kArrow, kArrow, i⟩, i + 2) := by
    have e1 : (if ((kArrow = kName ∨ kArrow = kNum) ∧ i + 2 - i > 8) then kNone else kArrow) = kArrow := if_neg (fun e => by rcases e.1 with e | e <;> exact absurd e (by decide))
    unfold tokAt
    simp only [hr, hcut]
    rw [e1, if_neg (fun e => absurd e.1 (by decide))]
  exact Piece.one (upto_stay isB h (by decide)) ht (show kArrow ≠ kNone by decide) (show kArrow ≠ kEnd by decide)
theorem run_word : ∀ (u r : List UInt8), (∀ c, c ∈ u → isC c = true) → NoC r → run lowfig (u ++ r) = u.length
  | [], r, _, hr => by
    cases r with
    | nil => rfl
    | cons c r =>
      have : lowfig c = false := hr c r rfl
      simp [run, this]
  | c :: u, r, hu, hr => by
    have h1 : lowfig c = true := hu c (by simp)
    have h2 := run_word u r (fun x hx => hu x (List.mem_cons_of_mem _ hx)) hr
    unfold run at h2 ⊢
    simp [h1, h2]
theorem piece_word {l : List UInt8} {i : Nat} {u r : List UInt8} (h : l.drop i = u ++ r) (h0 : ∃ c q, u = c :: q ∧ low c = true) (hu : ∀ c, c ∈ u → isC c = true) (hl : u.length ≤ 8) (hr : NoC r) :
    Piece l i (i + u.length) [(if u ∈ tyKw then u else kName, u)] := by
  obtain ⟨c, q, e, hc⟩ := h0
  have h' : l.drop i = c :: (q ++ r) := by rw [h, e]; rfl
  have hb : isB c = false := by
    unfold isB
    unfold low at hc
    simp only [decide_eq_true_eq] at hc
    simp only [Bool.or_eq_false_iff, beq_eq_false_iff_ne]
    constructor <;> (intro e'; subst e'; simp at hc)
  have hcut := cut_at h
  have hup : upto lowfig l i = i + u.length := by
    unfold upto
    rw [h, run_word u r hu hr]
  have hraw : raw l i = (kName, i + u.length) := by
    unfold raw
    rw [(drop_get h').1]
    simp only
    rw [if_pos hc, hup]
  have ht : tokAt tyKw l i = (⟨if u ∈ tyKw then u else kName, u, i⟩, i + u.length) := by
    have e1 : (if ((True ∨ kName = kNum) ∧ i + u.length - i > 8) then kNone else kName) = kName := if_neg (fun e => by omega)
    unfold tokAt
    simp only [hraw, hcut]
    rw [e1]
    by_cases hk : u ∈ tyKw
    · rw [if_pos ⟨rfl, hk⟩, if_pos hk]
    · rw [if_neg (fun e => hk e.2), if_neg hk]
  have hne : ∀ k, k = kNone ∨ k = kEnd → (if u ∈ tyKw then u else kName) ≠ k := by
    intro k hk e
    by_cases hm : u ∈ tyKw
    · rw [if_pos hm] at e
      rw [e] at hm
      rcases hk with rfl | rfl <;> exact absurd hm (by decide)
    · rw [if_neg hm] at e
      rcases hk with rfl | rfl <;> exact absurd e (by decide)
  exact Piece.one (upto_stay isB h' hb) ht (hne _ (Or.inl rfl)) (hne _ (Or.inr rfl))

theorem drop_app {l : List UInt8} {i : Nat} {u r : List UInt8} (h : l.drop i = u ++ r) : l.drop (i + u.length) = r := by
  rw [← List.drop_drop, h]
  simp
theorem tk_any {N : Nat} {ns : List (List UInt8)} (hn : Nms N ns) (h8 : ∀ n, n ∈ ns → n.length ≤ 8) (l : List UInt8) : ∀ (n : Nat) (x : Ty) (i : Nat) (r : List UInt8), TyOk N n x → l.drop i = tyText n ns x ++ r → NoC r → Piece l i (i + (tyText n ns x).length) (tkS ns n x)
  | 0, _, _, _, h, _, _ => absurd h id
  | n + 1, x, i, r, h, hd, hr => by
    rcases h with ⟨h1, h2, h3⟩ | ⟨h1, h2, h3⟩ | ⟨h1, h2, a, h3, h4⟩ | ⟨h1, h2, a, b, h3, h4, h5⟩
    · have hm := getD_mem (Nat.lt_of_lt_of_le h2 hn.len)
      obtain ⟨o1, o2, o3⟩ := hn.ok _ hm
      have e : tyText (n + 1) ns x = ns.getD x.var [] := by rw [tyText, if_pos h1]
      rw [e] at hd ⊢
      have := piece_word hd o1 o2 (h8 _ hm) hr
      rw [if_neg o3] at this
      rw [tkS, if_pos h1]
      exact this
    · have hk : x.kind ≠ [] := by rcases h1 with h1 | h1 <;> rw [h1] <;> decide
      have e : tyText (n + 1) ns x = x.kind := by rw [tyText, if_neg hk, h3]
      rw [e] at hd ⊢
      have := piece_word hd (by rcases h1 with h1 | h1 <;> rw [h1] <;> exact ⟨_, _, rfl, by decide⟩) (by rcases h1 with h1 | h1 <;> rw [h1] <;> decide) (by rcases h1 with h1 | h1 <;> rw [h1] <;> decide) hr
      rw [if_pos (by rcases h1 with h1 | h1 <;> rw [h1] <;> decide)] at this
      rw [tkS, if_neg hk, h3]
      exact this
    · have hk : x.kind ≠ [] := by rw [h1]; decide
      have e : tyText (n + 1) ns x = [91] ++ tyText n ns a ++ [93] := by rw [tyText, if_neg hk, h3]
      have et : tkS ns (n + 1) x = [(kSq, kSq)] ++ tkS ns n a ++ [(kQs, kQs)] := by rw [tkS, if_neg hk, h3]
      rw [e] at hd ⊢
      rw [et]
      have d0 : l.drop i = 91 :: (tyText n ns a ++ (93 :: r)) := by rw [hd]; simp
      have d1 := (drop_get d0).2.1
      have p1 := tk_any hn h8 l n a (i + 1) (93 :: r) h4 d1 (noC_cons (by decide))
      have d2 := drop_app d1
      have p := ((piece_sign d0 (by simp)).app p1).app (piece_sign d2 (by simp))
      have el : i + ([91] ++ tyText n ns a ++ [93]).length = i + 1 + (tyText n ns a).length + 1 := by simp; omega
      rw [el]
      exact p
    · have hk : x.kind ≠ [] := by rcases h1 with h1 | h1 <;> rw [h1] <;> decide
      by_cases hf : x.kind = kFun
      · have e : tyText (n + 1) ns x = (if a.kind = kFun then [40] ++ tyText n ns a ++ [41] else tyText n ns a) ++ [32, 45, 62, 32] ++ tyText n ns b := by
          rw [tyText, if_neg hk, h3]
          show (if x.kind = kFun then _ else _) = _
          rw [if_pos hf]
        have et : tkS ns (n + 1) x = (if a.kind = kFun then [(kOpen, kOpen)] ++ tkS ns n a ++ [(kShut, kShut)] else tkS ns n a) ++ [(kArrow, kArrow)] ++ tkS ns n b := by
          rw [tkS, if_neg hk, h3]
          show (if x.kind = kFun then _ else _) = _
          rw [if_pos hf]
        have left : ∀ r', l.drop i = (if a.kind = kFun then [40] ++ tyText n ns a ++ [41] else tyText n ns a) ++ (32 :: r') → Piece l i (i + (if a.kind = kFun then [40] ++ tyText n ns a ++ [41] else tyText n ns a).length) (if a.kind = kFun then [(kOpen, kOpen)] ++ tkS ns n a ++ [(kShut, kShut)] else tkS ns n a) := by
          intro r' hd'
          by_cases ha : a.kind = kFun
          · rw [if_pos ha] at hd' ⊢
            rw [if_pos ha]
            have d0 : l.drop i = 40 :: (tyText n ns a ++ (41 :: 32 :: r')) := by rw [hd']; simp
            have d1 := (drop_get d0).2.1
            have p1 := tk_any hn h8 l n a (i + 1) (41 :: 32 :: r') h4 d1 (noC_cons (by decide))
            have p := ((piece_sign d0 (by simp)).app p1).app (piece_sign (drop_app d1) (by simp))
            have el : i + ([40] ++ tyText n ns a ++ [41]).length = i + 1 + (tyText n ns a).length + 1 := by simp; omega
            rw [el]
            exact p
          · rw [if_neg ha] at hd' ⊢
            rw [if_neg ha]
            exact tk_any hn h8 l n a i (32 :: r') h4 hd' (noC_cons (by decide))
        rw [e] at hd ⊢
        rw [et]
        generalize (if a.kind = kFun then [40] ++ tyText n ns a ++ [41] else tyText n ns a) = u at *
        generalize (if a.kind = kFun then [(kOpen, kOpen)] ++ tkS ns n a ++ [(kShut, kShut)] else tkS ns n a) = ku at *
        have d0 : l.drop i = u ++ (32 :: 45 :: 62 :: 32 :: (tyText n ns b ++ r)) := by rw [hd]; simp
        have p0 := left _ d0
        have d1 := drop_app d0
        have d2 := (drop_get d1).2.1
        have p1 := (piece_arrow d2).blank d1
        have d3 := (drop_get (drop_get d2).2.1).2.1
        have d4 := (drop_get d3).2.1
        have p2 := tk_any hn h8 l n b _ r h5 d4 hr
        have hne : ∃ k ks, tkS ns n b = k :: ks := by
          cases n with
          | zero => exact absurd h5 id
          | succ n =>
            rcases h5 with ⟨g1, g2, g3⟩ | ⟨g1, g2, g3⟩ | ⟨g1, g2, a', g3, g4⟩ | ⟨g1, g2, a', b', g3, g4, g5⟩
            · exact ⟨_, _, by rw [tkS, if_pos g1]⟩
            · have hk' : b.kind ≠ [] := by rcases g1 with g1 | g1 <;> rw [g1] <;> decide
              exact ⟨_, _, by rw [tkS, if_neg hk', g3]⟩
            · have hk' : b.kind ≠ [] := by rw [g1]; decide
              exact ⟨_, _, by rw [tkS, if_neg hk', g3]; rfl⟩
            · have hk' : b.kind ≠ [] := by rcases g1 with g1 | g1 <;> rw [g1] <;> decide
              cases hq : tkS ns (n + 1) b with
              | cons k ks => exact ⟨k, ks, rfl⟩
              | nil =>
                exfalso
                rw [tkS, if_neg hk', g3] at hq
                simp only at hq
                split at hq <;> simp at hq
        obtain ⟨k, ks, ek⟩ := hne
        rw [ek] at p2 ⊢
        have p3 := p2.blank d3
        have el : i + (u ++ [32, 45, 62, 32] ++ tyText n ns b).length = i + u.length + 1 + 1 + 1 + 1 + (tyText n ns b).length := by simp; omega
        rw [el]
        exact (p0.app p1).app p3
      · have e : tyText (n + 1) ns x = [40] ++ tyText n ns a ++ [44, 32] ++ tyText n ns b ++ [41] := by
          rw [tyText, if_neg hk, h3]
          show (if x.kind = kFun then _ else _) = _
          rw [if_neg hf]
        have et : tkS ns (n + 1) x = [(kOpen, kOpen)] ++ tkS ns n a ++ [(kComma, kComma)] ++ tkS ns n b ++ [(kShut, kShut)] := by
          rw [tkS, if_neg hk, h3]
          show (if x.kind = kFun then _ else _) = _
          rw [if_neg hf]
        rw [e] at hd ⊢
        rw [et]
        have d0 : l.drop i = 40 :: (tyText n ns a ++ (44 :: 32 :: (tyText n ns b ++ (41 :: r)))) := by rw [hd]; simp
        have d1 := (drop_get d0).2.1
        have p1 := tk_any hn h8 l n a (i + 1) _ h4 d1 (noC_cons (by decide))
        have d2 := drop_app d1
        have p2 := piece_sign d2 (by simp)
        have d3 := (drop_get d2).2.1
        have d4 := (drop_get d3).2.1
        have p4 := tk_any hn h8 l n b _ (41 :: r) h5 d4 (noC_cons (by decide))
        have p5 := piece_sign (drop_app d4) (by simp)
        obtain ⟨k, ks, ek⟩ : ∃ k ks, tkS ns n b ++ [(kShut, kShut)] = k :: ks := by
          cases tkS ns n b with
          | nil => exact ⟨_, _, rfl⟩
          | cons k ks => exact ⟨_, _, rfl⟩
        have p6 := p4.app p5
        have e6 : ([(([41] : List UInt8), ([41] : List UInt8))] : List (List UInt8 × List UInt8)) = [(kShut, kShut)] := rfl
        rw [e6, ek] at p6
        have p7 := p6.blank d3
        have el : i + ([40] ++ tyText n ns a ++ [44, 32] ++ tyText n ns b ++ [41]).length = i + 1 + (tyText n ns a).length + 1 + 1 + (tyText n ns b).length + 1 := by simp; omega
        rw [el, List.append_assoc _ (tkS ns n b), ek]
        exact ((((piece_sign d0 (by simp)).app p1).app p2)).app p7
end Go.Proofs.YtcdijppegfcoaabGreatDoor

/-
  OUR OWN TEXT. The text of a type, read again: what the reader makes of its tokens.
-/
namespace Go.Proofs.YtcdijppegfcoaabGreatDoor
open Go.RowKit

/-- A type with its variables numbered anew, in the order in which they are met; the names that are met. -/
def rnS (ns : List (List UInt8)) : Nat → Ty → List (List UInt8) → Ty × List (List UInt8)
  | 0, x, n0 => (x, n0)
  | n + 1, x, n0 =>
    if x.kind = [] then (⟨[], (numS n0 (ns.getD x.var [])).1, []⟩, (numS n0 (ns.getD x.var [])).2)
    else match x.kids with
      | [a] => (⟨x.kind, 0, [(rnS ns n a n0).1]⟩, (rnS ns n a n0).2)
      | [a, b] => (⟨x.kind, 0, [(rnS ns n a n0).1, (rnS ns n b (rnS ns n a n0).2).1]⟩, (rnS ns n b (rnS ns n a n0).2).2)
      | _ => (⟨x.kind, 0, []⟩, n0)

/-- A row of tokens has these from k on. -/
def KeyAt (T : List Tok) (k : Nat) (ks : List (List UInt8 × List UInt8)) : Prop := ∀ m p, ks[m]? = some p → keyT (tk T (k + m)) = p
theorem KeyAt.left {T : List Tok} {k : Nat} {a b : List (List UInt8 × List UInt8)} (h : KeyAt T k (a ++ b)) : KeyAt T k a := fun m p e => h m p (by
  rw [List.getElem?_append_left]
  · exact e
  · rcases Nat.lt_or_ge m a.length with h | h
    · exact h
    · rw [List.getElem?_eq_none h] at e; cases e)
theorem KeyAt.right {T : List Tok} {k : Nat} {a b : List (List UInt8 × List UInt8)} (h : KeyAt T k (a ++ b)) : KeyAt T (k + a.length) b := fun m p e => by
  have := h (a.length + m) p (by rw [List.getElem?_append_right (by omega)]; rw [show a.length + m - a.length = m from by omega]; exact e)
  rw [← Nat.add_assoc] at this
  exact this
theorem KeyAt.head {T : List Tok} {k : Nat} {p : List UInt8 × List UInt8} {ks : List (List UInt8 × List UInt8)} (h : KeyAt T k (p :: ks)) : (tk T k).is = p.1 ∧ (tk T k).s = p.2 := by
  have := h 0 p rfl
  rw [← this]
  exact ⟨rfl, rfl⟩
theorem isS_key {T : List Tok} {k : Nat} {w v : List UInt8} (h : (tk T k).is = v) : isS T ⟨k, -1⟩ w = decide (v = w) := by
  unfold isS
  rw [h]
  by_cases e : v = w
  · subst e; simp
  · simp [e]
theorem needS_key {T : List Tok} {k : Nat} {w : List UInt8} (h : (tk T k).is = w) : needS T ⟨k, -1⟩ w = ⟨k + 1, -1⟩ := by
  unfold needS
  rw [if_pos (by rw [isS_key h]; simp)]

/-- What the reader makes of a type's tokens. -/
def RdO (ns : List (List UInt8)) (T : List Tok) (n : Nat) : Prop := ∀ (N : Nat) (x : Ty) (k : Nat) (n0 : List (List UInt8)) (F : Nat), TyOk N n x → x.kind ≠ kFun → n ≤ F + 1 → KeyAt T k (tkS ns n x) → oneS (arrS T F) T n0 ⟨k, -1⟩ = some ((rnS ns n x n0).1, (rnS ns n x n0).2, ⟨k + (tkS ns n x).length, -1⟩)
def RdA (ns : List (List UInt8)) (T : List Tok) (n : Nat) : Prop := ∀ (N : Nat) (x : Ty) (k : Nat) (n0 : List (List UInt8)) (F : Nat), TyOk N n x → n ≤ F → KeyAt T k (tkS ns n x) → (tk T (k + (tkS ns n x).length)).is ≠ kArrow → arrS T F n0 ⟨k, -1⟩ = some ((rnS ns n x n0).1, (rnS ns n x n0).2, ⟨k + (tkS ns n x).length, -1⟩)
theorem rd_one {ns : List (List UInt8)} {T : List Tok} {n : Nat} (hA : RdA ns T n) : RdO ns T (n + 1) := by
  intro N x k n0 F h hf hF hk
  rcases h with ⟨h1, h2, h3⟩ | ⟨h1, h2, h3⟩ | ⟨h1, h2, a, h3, h4⟩ | ⟨h1, h2, a, b, h3, h4, h5⟩
  · have et : tkS ns (n + 1) x = [(kName, ns.getD x.var [])] := by rw [tkS, if_pos h1]
    have er : rnS ns (n + 1) x n0 = (⟨[], (numS n0 (ns.getD x.var [])).1, []⟩, (numS n0 (ns.getD x.var [])).2) := by rw [rnS, if_pos h1]
    rw [et] at hk ⊢
    rw [er]
    obtain ⟨i1, i2⟩ := hk.head
    change (tk T k).is = kName at i1
    unfold oneS
    rw [isS_key i1, isS_key i1, isS_key i1, isS_key i1, if_neg (by decide), if_neg (by decide), if_neg (by decide), if_neg (by decide), needS_key i1, i2]
    rfl
  · have hk' : x.kind ≠ [] := by rcases h1 with h1 | h1 <;> rw [h1] <;> decide
    have et : tkS ns (n + 1) x = [(x.kind, x.kind)] := by rw [tkS, if_neg hk', h3]
    have er : rnS ns (n + 1) x n0 = (⟨x.kind, 0, []⟩, n0) := by rw [rnS, if_neg hk', h3]
    rw [et] at hk ⊢
    rw [er]
    obtain ⟨i1, i2⟩ := hk.head
    unfold oneS
    rw [isS_key i1, isS_key i1]
    rcases h1 with h1 | h1
    · rw [h1, if_pos (by decide)]
      rfl
    · rw [h1, if_neg (by decide), if_pos (by decide)]
      rfl
  · have hk' : x.kind ≠ [] := by rw [h1]; decide
    have et : tkS ns (n + 1) x = [(kSq, kSq)] ++ tkS ns n a ++ [(kQs, kQs)] := by rw [tkS, if_neg hk', h3]
    have er : rnS ns (n + 1) x n0 = (⟨x.kind, 0, [(rnS ns n a n0).1]⟩, (rnS ns n a n0).2) := by rw [rnS, if_neg hk', h3]
    rw [et] at hk ⊢
    rw [er]
    obtain ⟨i1, i2⟩ := hk.left.left.head
    have ka := hk.left.right
    have kz := hk.right.head
    have el : k + ([(kSq, kSq)] ++ tkS ns n a).length = k + 1 + (tkS ns n a).length := by simp; omega
    rw [el] at kz
    have ha := hA N a (k + 1) n0 F h4 (by omega) ka (by rw [kz.1]; decide)
    unfold oneS
    rw [isS_key i1, isS_key i1, isS_key i1, if_neg (by decide), if_neg (by decide), if_pos (by decide)]
    show (match arrS T F n0 ⟨k + 1, -1⟩ with | none => none | some (t, n1, s1) => _) = _
    rw [ha]
    simp only
    rw [needS_key kz.1, h1]
    simp
    omega
  · have hk' : x.kind ≠ [] := by rcases h1 with h1 | h1 <;> rw [h1] <;> decide
    have hp : x.kind = oPair := by
      rcases h1 with h1 | h1
      · exact h1
      · exact absurd h1 hf
    have et : tkS ns (n + 1) x = [(kOpen, kOpen)] ++ tkS ns n a ++ [(kComma, kComma)] ++ tkS ns n b ++ [(kShut, kShut)] := by
      rw [tkS, if_neg hk', h3]
      show (if x.kind = kFun then _ else _) = _
      rw [if_neg hf]
    have er : rnS ns (n + 1) x n0 = (⟨x.kind, 0, [(rnS ns n a n0).1, (rnS ns n b (rnS ns n a n0).2).1]⟩, (rnS ns n b (rnS ns n a n0).2).2) := by rw [rnS, if_neg hk', h3]
    rw [et] at hk ⊢
    rw [er]
    obtain ⟨i1, i2⟩ := hk.left.left.left.left.head
    have ka := hk.left.left.left.right
    have kc := hk.left.left.right.head
    have kb := hk.left.right
    have kz := hk.right.head
    have el : k + ([(kOpen, kOpen)] ++ tkS ns n a).length = k + 1 + (tkS ns n a).length := by simp; omega
    have el2 : k + ([(kOpen, kOpen)] ++ tkS ns n a ++ [(kComma, kComma)]).length = k + 1 + (tkS ns n a).length + 1 := by simp; omega
    have el3 : k + ([(kOpen, kOpen)] ++ tkS ns n a ++ [(kComma, kComma)] ++ tkS ns n b).length = k + 1 + (tkS ns n a).length + 1 + (tkS ns n b).length := by simp; omega
    rw [el] at kc
    rw [el2] at kb
    rw [el3] at kz
    have ha := hA N a (k + 1) n0 F h4 (by omega) ka (by rw [kc.1]; decide)
    have hb := hA N b (k + 1 + (tkS ns n a).length + 1) (rnS ns n a n0).2 F h5 (by omega) kb (by rw [kz.1]; decide)
    unfold oneS
    rw [isS_key i1, isS_key i1, isS_key i1, isS_key i1, if_neg (by decide), if_neg (by decide), if_neg (by decide), if_pos (by decide)]
    show (match arrS T F n0 ⟨k + 1, -1⟩ with | none => none | some (t, n1, s1) => _) = _
    rw [ha]
    simp only
    rw [isS_key kc.1, if_pos (by decide)]
    show (match arrS T F (rnS ns n a n0).2 ⟨k + 1 + (tkS ns n a).length + 1, -1⟩ with | none => none | some (u, n2, s2) => _) = _
    rw [hb]
    simp only
    rw [needS_key kz.1, hp]
    simp
    omega
theorem rd_up {ns : List (List UInt8)} {T : List Tok} {n N k F : Nat} {a : Ty} {n0 : List (List UInt8)} (hO : RdO ns T n) (h : TyOk N n a) (hf : a.kind ≠ kFun) (hF : n ≤ F + 1) (hk : KeyAt T k (tkS ns n a)) (he : (tk T (k + (tkS ns n a).length)).is ≠ kArrow) : arrS T (F + 1) n0 ⟨k, -1⟩ = some ((rnS ns n a n0).1, (rnS ns n a n0).2, ⟨k + (tkS ns n a).length, -1⟩) := by
  rw [arrS, hO N a k n0 F h hf hF hk]
  simp only
  rw [isS_key rfl, if_neg (by simpa using he)]
theorem rd_all (ns : List (List UInt8)) (T : List Tok) : ∀ n, RdA ns T n ∧ RdO ns T n
  | 0 => ⟨fun N x k n0 F h => absurd h id, fun N x k n0 F h => absurd h id⟩
  | n + 1 => by
    obtain ⟨hA, hO'⟩ := rd_all ns T n
    have hO := rd_one hA
    refine ⟨?_, hO⟩
    intro N x k n0 F h hF hk he
    obtain ⟨F, rfl⟩ : ∃ G, F = G + 1 := ⟨F - 1, by omega⟩
    by_cases hf : x.kind = kFun
    · rcases h with ⟨h1, h2, h3⟩ | ⟨h1, h2, h3⟩ | ⟨h1, h2, a, h3, h4⟩ | ⟨h1, h2, a, b, h3, h4, h5⟩
      · rw [hf] at h1; exact absurd h1 (by decide)
      · rw [hf] at h1; exact absurd h1 (by decide)
      · rw [hf] at h1; exact absurd h1 (by decide)
      · have hk' : x.kind ≠ [] := by rw [hf]; decide
        have et : tkS ns (n + 1) x = (if a.kind = kFun then [(kOpen, kOpen)] ++ tkS ns n a ++ [(kShut, kShut)] else tkS ns n a) ++ [(kArrow, kArrow)] ++ tkS ns n b := by
          rw [tkS, if_neg hk', h3]
          show (if x.kind = kFun then _ else _) = _
          rw [if_pos hf]
        have er : rnS ns (n + 1) x n0 = (⟨x.kind, 0, [(rnS ns n a n0).1, (rnS ns n b (rnS ns n a n0).2).1]⟩, (rnS ns n b (rnS ns n a n0).2).2) := by rw [rnS, if_neg hk', h3]
        rw [et] at hk he ⊢
        rw [er]
        have kr := hk.left.right.head
        have kb := hk.right
        have key : oneS (arrS T F) T n0 ⟨k, -1⟩ = some ((rnS ns n a n0).1, (rnS ns n a n0).2, ⟨k + (if a.kind = kFun then [(kOpen, kOpen)] ++ tkS ns n a ++ [(kShut, kShut)] else tkS ns n a).length, -1⟩) := by
          have kl := hk.left.left
          by_cases ha : a.kind = kFun
          · rw [if_pos ha] at kl ⊢
            obtain ⟨i1, i2⟩ := kl.left.left.head
            have ka := kl.left.right
            have kz := kl.right.head
            have el : k + ([(kOpen, kOpen)] ++ tkS ns n a).length = k + 1 + (tkS ns n a).length := by simp; omega
            rw [el] at kz
            have h' := hA N a (k + 1) n0 F h4 (by omega) ka (by rw [kz.1]; decide)
            unfold oneS
            rw [isS_key i1, isS_key i1, isS_key i1, isS_key i1, if_neg (by decide), if_neg (by decide), if_neg (by decide), if_pos (by decide)]
            show (match arrS T F n0 ⟨k + 1, -1⟩ with | none => none | some (t, n1, s1) => _) = _
            rw [h']
            simp only
            rw [isS_key kz.1, if_neg (by decide), needS_key kz.1]
            simp
            omega
          · rw [if_neg ha] at kl ⊢
            exact hO' N a k n0 F h4 ha (by omega) kl
        rw [arrS, key]
        simp only
        rw [isS_key kr.1, if_pos (by decide)]
        generalize (if a.kind = kFun then [(kOpen, kOpen)] ++ tkS ns n a ++ [(kShut, kShut)] else tkS ns n a) = u at *
        have el : k + (u ++ [(kArrow, kArrow)]).length = k + u.length + 1 := by simp; omega
        have el2 : k + (u ++ [(kArrow, kArrow)] ++ tkS ns n b).length = k + u.length + 1 + (tkS ns n b).length := by simp; omega
        rw [el] at kb
        rw [el2] at he ⊢
        show (match arrS T F (rnS ns n a n0).2 ⟨k + u.length + 1, -1⟩ with | none => none | some (u, n2, s2) => _) = _
        rw [hA N b _ _ F h5 (by omega) kb he, hf]
    · exact rd_up hO h hf (by omega) hk he
end Go.Proofs.YtcdijppegfcoaabGreatDoor

/-
  OUR OWN TEXT. The one text of a type, read again, is that type.
-/
namespace Go.Proofs.YtcdijppegfcoaabGreatDoor
open Go.RowKit

theorem tk_len {N : Nat} {ns : List (List UInt8)} (hn : Nms N ns) : ∀ (n : Nat) (x : Ty), TyOk N n x → (tkS ns n x).length ≤ (tyText n ns x).length
  | 0, _, h => absurd h id
  | n + 1, x, h => by
    rcases h with ⟨h1, h2, h3⟩ | ⟨h1, h2, h3⟩ | ⟨h1, h2, a, h3, h4⟩ | ⟨h1, h2, a, b, h3, h4, h5⟩
    · obtain ⟨⟨c, r, e, _⟩, _⟩ := hn.ok _ (getD_mem (Nat.lt_of_lt_of_le h2 hn.len))
      rw [tkS, if_pos h1, tyText, if_pos h1, e]
      simp
    · have hk : x.kind ≠ [] := by rcases h1 with h1 | h1 <;> rw [h1] <;> decide
      rw [tkS, if_neg hk, tyText, if_neg hk, h3]
      rcases h1 with h1 | h1 <;> simp [h1, kInt, kBool]
    · have hk : x.kind ≠ [] := by rw [h1]; decide
      have := tk_len hn n a h4
      rw [tkS, if_neg hk, tyText, if_neg hk, h3]
      simp
      omega
    · have hk : x.kind ≠ [] := by rcases h1 with h1 | h1 <;> rw [h1] <;> decide
      have i1 := tk_len hn n a h4
      have i2 := tk_len hn n b h5
      rw [tkS, if_neg hk, tyText, if_neg hk, h3]
      simp only
      split
      · split <;> simp <;> omega
      · simp; omega
theorem ok_size {N : Nat} : ∀ (n : Nat) (x : Ty), TyOk N n x → TyOk N (tySize n x) x
  | 0, _, h => absurd h id
  | n + 1, x, h => by
    rcases h with ⟨h1, h2, h3⟩ | ⟨h1, h2, h3⟩ | ⟨h1, h2, a, h3, h4⟩ | ⟨h1, h2, a, b, h3, h4, h5⟩
    · rw [tySize, h3]
      exact Or.inl ⟨h1, h2, h3⟩
    · rw [tySize, h3]
      exact Or.inr (Or.inl ⟨h1, h2, h3⟩)
    · have := ok_size n a h4
      rw [tySize, h3, List.map_cons, List.map_nil, List.sum_cons, List.sum_nil, Nat.add_comm]
      exact Or.inr (Or.inr (Or.inl ⟨h1, h2, a, h3, this.le (by omega)⟩))
    · have i1 := ok_size n a h4
      have i2 := ok_size n b h5
      rw [tySize, h3, List.map_cons, List.map_cons, List.map_nil, List.sum_cons, List.sum_cons, List.sum_nil, Nat.add_comm]
      exact Or.inr (Or.inr (Or.inr ⟨h1, h2, a, b, h3, i1.le (by omega), i2.le (by omega)⟩))
theorem size_text {N : Nat} {ns : List (List UInt8)} (hn : Nms N ns) : ∀ (n : Nat) (x : Ty), TyOk N n x → tySize n x ≤ (tyText n ns x).length
  | 0, _, h => absurd h id
  | n + 1, x, h => by
    rcases h with ⟨h1, h2, h3⟩ | ⟨h1, h2, h3⟩ | ⟨h1, h2, a, h3, h4⟩ | ⟨h1, h2, a, b, h3, h4, h5⟩
    · obtain ⟨⟨c, r, e, _⟩, _⟩ := hn.ok _ (getD_mem (Nat.lt_of_lt_of_le h2 hn.len))
      rw [tySize, h3, tyText, if_pos h1, e]
      simp
    · have hk : x.kind ≠ [] := by rcases h1 with h1 | h1 <;> rw [h1] <;> decide
      rw [tySize, tyText, if_neg hk, h3]
      rcases h1 with h1 | h1 <;> simp [h1, kInt, kBool]
    · have hk : x.kind ≠ [] := by rw [h1]; decide
      have := size_text hn n a h4
      rw [tySize, tyText, if_neg hk, h3]
      simp
      omega
    · have hk : x.kind ≠ [] := by rcases h1 with h1 | h1 <;> rw [h1] <;> decide
      have i1 := size_text hn n a h4
      have i2 := size_text hn n b h5
      rw [tySize, tyText, if_neg hk, h3]
      simp only
      split
      · split <;> simp <;> omega
      · simp; omega

theorem toks_end (l : List UInt8) (f : Nat) : toks tyKw l (f + 1) l.length = [⟨kEnd, [], l.length⟩] := by
  have hu : upto isB l l.length = l.length := by unfold upto run; simp
  have ht : tokAt tyKw l l.length = (⟨kEnd, [], l.length⟩, l.length) := by
    have hr : raw l l.length = (kEnd, l.length) := by unfold raw; simp
    have hc : cut l l.length l.length = [] := by unfold cut; simp
    unfold tokAt
    simp only [hr, hc]
    rw [if_neg (fun e => by rcases e.1 with e | e <;> exact absurd e (by decide)), if_neg (fun e => absurd e.1 (by decide))]
  unfold toks
  rw [hu, ht]
  simp
/-- A type's text, read. -/
theorem read_text {N : Nat} {ns : List (List UInt8)} (hn : Nms N ns) (h8 : ∀ n, n ∈ ns → n.length ≤ 8) {n : Nat} {x : Ty} (ok : TyOk N n x) :
    ∃ s1, arrS (toksOf tyKw (B (tyText n ns x))) ((B (tyText n ns x)).size + 2) [] ⟨0, -1⟩ = some ((rnS ns n x []).1, (rnS ns n x []).2, s1) ∧ s1.k < (toksOf tyKw (B (tyText n ns x))).length ∧ (needS (toksOf tyKw (B (tyText n ns x))) s1 kEnd).bad < 0 := by
  -- in as many steps as the type has parts
  have gen : ∀ m, m ≤ (tyText n ns x).length + 2 → TyOk N m x → tyText m ns x = tyText n ns x → ∃ s1, arrS (toksOf tyKw (B (tyText n ns x))) ((B (tyText n ns x)).size + 2) [] ⟨0, -1⟩ = some ((rnS ns m x []).1, (rnS ns m x []).2, s1) ∧ s1.k < (toksOf tyKw (B (tyText n ns x))).length ∧ (needS (toksOf tyKw (B (tyText n ns x))) s1 kEnd).bad < 0 := by
    intro m hm okm et
    obtain ⟨l, hl⟩ : ∃ l, l = tyText n ns x := ⟨_, rfl⟩
    rw [← hl] at et hm ⊢
    obtain ⟨ts, k1, k2⟩ := tk_any hn h8 l m x 0 [] okm (by rw [et]; simp) (fun c r e => by cases e)
    have hlen := tk_len hn m x okm
    rw [et] at k2 hlen
    have hsz : (B l).size = l.length := by rw [size_B]
    have hT : toksOf tyKw (B l) = ts ++ [⟨kEnd, [], l.length⟩] := by
      unfold toksOf
      rw [hsz, show (B l).data.toList = l from by simp [B]]
      have := k2 (l.length - (tkS ns m x).length + 1)
      rw [show l.length - (tkS ns m x).length + 1 + (tkS ns m x).length = l.length + 1 from by omega, Nat.zero_add, toks_end] at this
      exact this
    have hts : ts.length = (tkS ns m x).length := by rw [← k1, List.length_map]
    have hkey : KeyAt (toksOf tyKw (B l)) 0 (tkS ns m x) := by
      intro i p hp
      rw [hT, Nat.zero_add]
      rw [← k1, List.getElem?_map] at hp
      cases ht : ts[i]? with
      | none => rw [ht] at hp; cases hp
      | some t =>
        rw [ht] at hp
        have hi : i < ts.length := by
          rcases Nat.lt_or_ge i ts.length with h | h
          · exact h
          · rw [List.getElem?_eq_none h] at ht; cases ht
        have : tk (ts ++ [⟨kEnd, [], l.length⟩]) i = t := by
          unfold tk
          rw [List.getD, List.getElem?_append_left hi, ht]
          rfl
        rw [this]
        simpa using hp
    have hend : (tk (toksOf tyKw (B l)) (tkS ns m x).length).is = kEnd := by
      rw [hT, ← hts]
      unfold tk
      rw [List.getD, List.getElem?_append_right (Nat.le_refl _)]
      simp
    have hr := (rd_all ns (toksOf tyKw (B l)) m).1 N x 0 [] ((B l).size + 2) okm (by omega) hkey (by rw [Nat.zero_add, hend]; decide)
    rw [Nat.zero_add] at hr
    refine ⟨_, hr, ?_, ?_⟩
    · show (tkS ns m x).length < _
      rw [hT]
      simp
      omega
    · rw [needS_key hend]
      show (-1 : Int) < 0
      omega
  have rn_fuel : ∀ (a b : Nat) (y : Ty) (n0 : List (List UInt8)), TyOk N a y → TyOk N b y → rnS ns a y n0 = rnS ns b y n0 := by
    intro a
    induction a with
    | zero => intro b y n0 h; exact absurd h id
    | succ a ih =>
      intro b y n0 ha hb
      cases b with
      | zero => exact absurd hb id
      | succ b =>
        rcases ha with ⟨h1, h2, h3⟩ | ⟨h1, h2, h3⟩ | ⟨h1, h2, p, h3, h4⟩ | ⟨h1, h2, p, q, h3, h4, h5⟩
        · rw [rnS, if_pos h1, rnS, if_pos h1]
        · have hk : y.kind ≠ [] := by rcases h1 with h1 | h1 <;> rw [h1] <;> decide
          rw [rnS, if_neg hk, rnS, if_neg hk, h3]
        · have hk : y.kind ≠ [] := by rw [h1]; decide
          rcases hb with ⟨g1, g2, g3⟩ | ⟨g1, g2, g3⟩ | ⟨g1, g2, p', g3, g4⟩ | ⟨g1, g2, p', q', g3, g4, g5⟩
          · exact absurd g1 hk
          · rw [h3] at g3; cases g3
          · rw [h3] at g3
            cases g3
            rw [rnS, if_neg hk, rnS, if_neg hk, h3]
            simp only
            rw [ih b p n0 h4 g4]
          · rw [h3] at g3; cases g3
        · have hk : y.kind ≠ [] := by rcases h1 with h1 | h1 <;> rw [h1] <;> decide
          rcases hb with ⟨g1, g2, g3⟩ | ⟨g1, g2, g3⟩ | ⟨g1, g2, p', g3, g4⟩ | ⟨g1, g2, p', q', g3, g4, g5⟩
          · exact absurd g1 hk
          · rw [h3] at g3; cases g3
          · rw [h3] at g3; cases g3
          · rw [h3] at g3
            cases g3
            rw [rnS, if_neg hk, rnS, if_neg hk, h3]
            simp only
            rw [ih b p n0 h4 g4, ih b q _ h5 g5]
  have os := ok_size n x ok
  have hst := size_text hn n x ok
  have et : tyText (tySize n x) ns x = tyText n ns x := by
    rcases Nat.le_total (tySize n x) n with h | h
    · exact (TyOk.text ns (tySize n x) n x os h).symm
    · exact TyOk.text ns n (tySize n x) x ok h
  have := gen (tySize n x) (by omega) os et
  rw [rn_fuel (tySize n x) n x [] os ok] at this
  exact this
end Go.Proofs.YtcdijppegfcoaabGreatDoor

/-
  OUR OWN TEXT. A type that was read has its variables in the order in which they stand; its one text, read again, is the type itself.
-/
namespace Go.Proofs.YtcdijppegfcoaabGreatDoor
open Go.RowKit

theorem pre_range {l : List Nat} {k : Nat} (h : l <+: List.range k) : l = List.range l.length ∧ l.length ≤ k := by
  have hl := h.length_le
  rw [List.length_range] at hl
  refine ⟨?_, hl⟩
  have := List.prefix_iff_eq_take.1 h
  rw [List.take_range, Nat.min_eq_left hl] at this
  exact this
theorem one_vars {T : List Tok} {A : List (List UInt8) → St → Option (Ty × List (List UInt8) × St)} (hA : ∀ ns s t ns' s', A ns s = some (t, ns', s') → ∀ N m, TyOk N m t → tyVars m t (List.range ns.length) = List.range ns'.length) (ns : List (List UInt8)) (s : St) (t : Ty) (ns' : List (List UInt8)) (s' : St)
    (h : oneS A T ns s = some (t, ns', s')) : ∀ N m, TyOk N m t → tyVars m t (List.range ns.length) = List.range ns'.length := by
  intro N m ok
  cases m with
  | zero => exact absurd ok id
  | succ m =>
  unfold oneS at h
  split at h
  · cases h
    rw [tyVars, if_neg (by decide)]
    rfl
  · split at h
    · cases h
      rw [tyVars, if_neg (by decide)]
      rfl
    · split at h
      · cases e : A ns s.up with
        | none => rw [e] at h; cases h
        | some q =>
          obtain ⟨t1, n1, s1⟩ := q
          rw [e] at h
          cases h
          rcases ok with ⟨g1, g2, g3⟩ | ⟨g1, g2, g3⟩ | ⟨g1, g2, p', g3, g4⟩ | ⟨g1, g2, p', q', g3, g4, g5⟩
          · exact absurd (show oList = [] from g1) (by decide)
          · cases g3
          · cases g3
            have := hA _ _ _ _ _ e N m g4
            rw [tyVars, if_neg (show ¬ oList = [] by decide)]
            exact this
          · cases g3
      · split at h
        · cases e : A ns s.up with
          | none => rw [e] at h; cases h
          | some q =>
            obtain ⟨t1, n1, s1⟩ := q
            rw [e] at h
            simp only at h
            split at h
            · cases e2 : A n1 s1.up with
              | none => rw [e2] at h; cases h
              | some q2 =>
                obtain ⟨t2, n2, s2⟩ := q2
                rw [e2] at h
                cases h
                rcases ok with ⟨g1, g2, g3⟩ | ⟨g1, g2, g3⟩ | ⟨g1, g2, p', g3, g4⟩ | ⟨g1, g2, p', q', g3, g4, g5⟩
                · exact absurd (show oPair = [] from g1) (by decide)
                · cases g3
                · cases g3
                · cases g3
                  have i1 := hA _ _ _ _ _ e N m g4
                  have i2 := hA _ _ _ _ _ e2 N m g5
                  rw [tyVars, if_neg (show ¬ oPair = [] by decide)]
                  show tyVars m t2 (tyVars m t1 _) = _
                  rw [i1, i2]
            · cases h
              exact hA _ _ _ _ _ e N (m + 1) ok
        · cases h
          rw [tyVars, if_pos rfl]
          simp only
          unfold numS
          split
          · rename_i hm
            rw [if_pos (List.mem_range.2 (List.idxOf_lt_length_of_mem hm))]
          · rename_i hm
            rw [if_neg (by simp)]
            simp [List.range_succ]
theorem arr_vars {T : List Tok} : ∀ (n : Nat) (ns : List (List UInt8)) (s : St) (t : Ty) (ns' : List (List UInt8)) (s' : St), arrS T n ns s = some (t, ns', s') → ∀ N m, TyOk N m t → tyVars m t (List.range ns.length) = List.range ns'.length
  | 0, _, _, _, _, _, h => by cases h
  | n + 1, ns, s, t, ns', s', h => by
    rw [arrS] at h
    cases e : oneS (arrS T n) T ns s with
    | none => rw [e] at h; cases h
    | some q =>
      obtain ⟨t1, n1, s1⟩ := q
      rw [e] at h
      simp only at h
      have p1 := one_vars (arr_vars n) ns s t1 n1 s1 e
      split at h
      · cases e2 : arrS T n n1 s1.up with
        | none => rw [e2] at h; cases h
        | some q2 =>
          obtain ⟨t2, n2, s2⟩ := q2
          rw [e2] at h
          cases h
          intro N m ok
          cases m with
          | zero => exact absurd ok id
          | succ m =>
            rcases ok with ⟨g1, g2, g3⟩ | ⟨g1, g2, g3⟩ | ⟨g1, g2, p', g3, g4⟩ | ⟨g1, g2, p', q', g3, g4, g5⟩
            · exact absurd (show kFun = [] from g1) (by decide)
            · cases g3
            · cases g3
            · cases g3
              have i2 := arr_vars n _ _ _ _ _ e2 N m g5
              rw [tyVars, if_neg (show ¬ kFun = [] by decide)]
              show tyVars m t2 (tyVars m t1 _) = _
              rw [p1 N m g4, i2]
      · cases h
        exact p1

/-- The first names of variables. -/
def lettersS (N : Nat) : List (List UInt8) := (List.range N).map letterS
theorem letters_len (N : Nat) : (lettersS N).length = N := by simp [lettersS]
theorem letters_at {N v : Nat} (h : v < N) : (lettersS N).getD v [] = letterS v := by
  unfold lettersS
  simp [List.getD, h]
theorem canNames_range (N : Nat) : ∀ v, v < N → (canNames (List.range N)).getD v [] = letterS v := by
  intro v hv
  rw [canNames_at (List.mem_range.2 hv)]
  congr 1
  have := (List.nodup_range (n := N)).idxOf_getElem v (by simpa using hv)
  simpa using this
theorem text_congr {N : Nat} {n1 n2 : List (List UInt8)} (h : ∀ v, v < N → n1.getD v [] = n2.getD v []) : ∀ (n : Nat) (x : Ty), TyOk N n x → tyText n n1 x = tyText n n2 x
  | 0, _, h => absurd h id
  | n + 1, x, ok => by
    rcases ok with ⟨h1, h2, h3⟩ | ⟨h1, h2, h3⟩ | ⟨h1, h2, a, h3, h4⟩ | ⟨h1, h2, a, b, h3, h4, h5⟩
    · rw [tyText, if_pos h1, tyText, if_pos h1, h _ h2]
    · have hk : x.kind ≠ [] := by rcases h1 with h1 | h1 <;> rw [h1] <;> decide
      rw [tyText, if_neg hk, tyText, if_neg hk, h3]
    · have hk : x.kind ≠ [] := by rw [h1]; decide
      rw [tyText, if_neg hk, tyText, if_neg hk, h3]
      simp only
      rw [text_congr h n a h4]
    · have hk : x.kind ≠ [] := by rcases h1 with h1 | h1 <;> rw [h1] <;> decide
      rw [tyText, if_neg hk, tyText, if_neg hk, h3]
      simp only
      rw [text_congr h n a h4, text_congr h n b h5]
/-- A type whose variables stand in order: its one text. -/
theorem canon_letters {N n : Nat} {x : Ty} (ok : TyOk N n x) (hv : tyVars n x [] = List.range N) : tyCanon n x = tyText n (lettersS N) x := by
  unfold tyCanon
  rw [hv]
  exact text_congr (fun v h => by rw [canNames_range N v h, letters_at h]) n x ok
theorem letterS_inj {a b : Nat} (ha : a < 260) (hb : b < 260) (h : letterS a = letterS b) : a = b := by
  have key : ∀ i j, i < 26 → j < 26 → UInt8.ofNat (97 + i) = UInt8.ofNat (97 + j) → i = j := by
    intro i j hi hj e
    have := congrArg UInt8.toNat e
    simp only [UInt8.toNat_ofNat'] at this
    omega
  have kd : ∀ i j, i < 10 → j < 10 → UInt8.ofNat (48 + i) = UInt8.ofNat (48 + j) → i = j := by
    intro i j hi hj e
    have := congrArg UInt8.toNat e
    simp only [UInt8.toNat_ofNat'] at this
    omega
  unfold letterS at h
  by_cases h1 : 25 < a <;> by_cases h2 : 25 < b
  · rw [if_pos h1, if_pos h2] at h
    simp only [List.cons_append, List.nil_append, List.cons.injEq, and_true] at h
    have e1 := key _ _ (Nat.mod_lt a (by omega)) (Nat.mod_lt b (by omega)) h.1
    have e2 := kd (a / 26) (b / 26) (by omega) (by omega) h.2
    omega
  · rw [if_pos h1, if_neg h2] at h
    simp at h
  · rw [if_neg h1, if_pos h2] at h
    simp at h
  · rw [if_neg h1, if_neg h2] at h
    simp only [List.append_nil, List.cons.injEq, and_true] at h
    have e1 := key _ _ (Nat.mod_lt a (by omega)) (Nat.mod_lt b (by omega)) h
    omega
theorem letter_ok {a : Nat} (ha : a < 260) : NameOk (letterS a) := by
  have key : ∀ a : Fin 260, NameOk (letterS a.val) := by
    intro a
    have h1 : low (UInt8.ofNat (97 + a.val % 26)) = true := by
      have : ∀ i : Fin 26, low (UInt8.ofNat (97 + i.val)) = true := by decide
      exact this ⟨a.val % 26, Nat.mod_lt _ (by omega)⟩
    have h2 : fig (UInt8.ofNat (48 + a.val / 26)) = true := by
      have : ∀ i : Fin 10, fig (UInt8.ofNat (48 + i.val)) = true := by decide
      exact this ⟨a.val / 26, by omega⟩
    refine ⟨⟨_, _, rfl, h1⟩, ?_, ?_⟩
    · intro c hc
      unfold letterS at hc
      rcases List.mem_append.1 hc with hc | hc
      · rw [List.mem_singleton.1 hc]
        unfold isC
        rw [h1]
        rfl
      · split at hc
        · rw [List.mem_singleton.1 hc]
          unfold isC
          rw [h2]
          simp
        · cases hc
    · intro hm
      have hl := letterS_len a.val
      have : ∀ k, k ∈ tyKw → 2 < k.length := by decide
      have := this _ hm
      omega
  exact key ⟨a, ha⟩
theorem letters_nms {N : Nat} (h : N ≤ 260) : Nms N (lettersS N) := by
  refine ⟨by rw [letters_len]; exact Nat.le_refl _, ?_, ?_⟩
  · intro n hn
    obtain ⟨v, hv, rfl⟩ := List.mem_map.1 hn
    exact letter_ok (by have := List.mem_range.1 hv; omega)
  · unfold lettersS
    rw [List.nodup_iff_pairwise_ne, List.pairwise_map]
    refine List.Pairwise.imp_of_mem ?_ (List.nodup_iff_pairwise_ne.1 (List.nodup_range (n := N)))
    intro a b ha hb hab e
    exact hab (letterS_inj (by have := List.mem_range.1 ha; omega) (by have := List.mem_range.1 hb; omega) e)
theorem letters_short {N : Nat} : ∀ n, n ∈ lettersS N → n.length ≤ 8 := by
  intro n hn
  obtain ⟨v, hv, rfl⟩ := List.mem_map.1 hn
  have := letterS_len v
  omega
theorem letters_succ (k : Nat) : lettersS (k + 1) = lettersS k ++ [letterS k] := by simp [lettersS, List.range_succ]
theorem letters_mem {k v : Nat} (hk : k ≤ 260) (hv : v < 260) : letterS v ∈ lettersS k ↔ v < k := by
  constructor
  · intro h
    obtain ⟨u, hu, e⟩ := List.mem_map.1 h
    have := List.mem_range.1 hu
    rw [← letterS_inj (by omega) hv e]
    exact this
  · intro h
    exact List.mem_map.2 ⟨v, List.mem_range.2 h, rfl⟩
theorem letters_idx {k v : Nat} (hk : k ≤ 260) (hv : v < k) : (lettersS k).idxOf (letterS v) = v := by
  have := (letters_nms hk).nd.idxOf_getElem v (by rw [letters_len]; exact hv)
  have e : (lettersS k)[v]'(by rw [letters_len]; exact hv) = letterS v := by simp [lettersS]
  rw [e] at this
  exact this
/-- Variables that stand in order are numbered as they were. -/
theorem rn_self {N : Nat} (hN : N ≤ 260) : ∀ (n : Nat) (x : Ty) (k k' : Nat), TyOk N n x → tyVars n x (List.range k) = List.range k' → k' ≤ N → rnS (lettersS N) n x (lettersS k) = (x, lettersS k')
  | 0, _, _, _, h, _, _ => absurd h id
  | n + 1, x, k, k', ok, hv, hk' => by
    obtain ⟨kd, vr, ks⟩ := x
    rcases ok with ⟨h1, h2, h3⟩ | ⟨h1, h2, h3⟩ | ⟨h1, h2, a, h3, h4⟩ | ⟨h1, h2, a, b, h3, h4, h5⟩
    · simp only at h1 h2 h3
      subst h1 h3
      rw [rnS, if_pos rfl, letters_at h2]
      rw [tyVars, if_pos rfl] at hv
      simp only at hv ⊢
      by_cases hm : vr < k
      · rw [if_pos (List.mem_range.2 hm)] at hv
        have e := congrArg List.length hv
        simp at e
        subst e
        have hk2 : k ≤ 260 := by omega
        unfold numS
        rw [if_pos ((letters_mem hk2 (by omega)).2 hm), letters_idx hk2 hm]
      · rw [if_neg (fun e => hm (List.mem_range.1 e))] at hv
        have e := congrArg List.length hv
        simp at e
        subst e
        rw [List.range_succ] at hv
        have e2 : vr = k := by simpa using hv
        subst e2
        have hk2 : vr ≤ 260 := by omega
        unfold numS
        rw [if_neg (fun e => hm ((letters_mem hk2 (by omega)).1 e)), letters_len, letters_succ]
    · simp only at h1 h2 h3
      subst h2 h3
      have hk : kd ≠ [] := by rcases h1 with h1 | h1 <;> rw [h1] <;> decide
      rw [rnS, if_neg hk]
      rw [tyVars, if_neg hk] at hv
      have e := congrArg List.length hv
      simp at e
      subst e
      rfl
    · simp only at h1 h2 h3
      subst h2 h3
      have hk : kd ≠ [] := by rw [h1]; decide
      rw [rnS, if_neg hk]
      rw [tyVars, if_neg hk] at hv
      simp only
      rw [rn_self hN n a k k' h4 hv hk']
    · simp only at h1 h2 h3
      subst h2 h3
      have hk : kd ≠ [] := by rcases h1 with h1 | h1 <;> rw [h1] <;> decide
      rw [rnS, if_neg hk]
      rw [tyVars, if_neg hk] at hv
      change tyVars n b (tyVars n a (List.range k)) = List.range k' at hv
      have hp := tyVars_pre n b (tyVars n a (List.range k))
      rw [hv] at hp
      obtain ⟨e1, e2⟩ := pre_range hp
      obtain ⟨k1, hk1⟩ : ∃ k1, k1 = (tyVars n a (List.range k)).length := ⟨_, rfl⟩
      rw [← hk1] at e1 e2
      rw [e1] at hv
      simp only
      rw [rn_self hN n a k k1 h4 e1 (by omega), rn_self hN n b k1 k' h5 hv hk']
/-- .. also where more variables have been met. -/
theorem vars_more : ∀ (n : Nat) (x : Ty) (k k' j : Nat), tyVars n x (List.range k) = List.range k' → k ≤ j → (∃ N, TyOk N n x) → tyVars n x (List.range j) = List.range (max j k')
  | 0, _, _, _, _, _, _, ⟨_, h⟩ => absurd h id
  | n + 1, x, k, k', j, hv, hj, ⟨N, ok⟩ => by
    rcases ok with ⟨h1, h2, h3⟩ | ⟨h1, h2, h3⟩ | ⟨h1, h2, a, h3, h4⟩ | ⟨h1, h2, a, b, h3, h4, h5⟩
    · rw [tyVars, if_pos h1] at hv ⊢
      by_cases hm : x.var < k
      · rw [if_pos (List.mem_range.2 hm)] at hv
        have e := congrArg List.length hv
        simp at e
        subst e
        rw [if_pos (List.mem_range.2 (by omega)), Nat.max_eq_left hj]
      · rw [if_neg (fun e => hm (List.mem_range.1 e))] at hv
        have e := congrArg List.length hv
        simp at e
        subst e
        rw [List.range_succ] at hv
        have e2 : x.var = k := by simpa using hv
        rw [e2]
        rcases Nat.lt_or_ge k j with h | h
        · rw [if_pos (List.mem_range.2 h), Nat.max_eq_left (by omega)]
        · have : j = k := by omega
          subst this
          rw [if_neg (by simp), Nat.max_eq_right (by omega), List.range_succ]
    · have hk : x.kind ≠ [] := by rcases h1 with h1 | h1 <;> rw [h1] <;> decide
      rw [tyVars, if_neg hk, h3] at hv ⊢
      have e := congrArg List.length hv
      simp at e
      subst e
      rw [Nat.max_eq_left hj]
      rfl
    · have hk : x.kind ≠ [] := by rw [h1]; decide
      rw [tyVars, if_neg hk, h3] at hv ⊢
      exact vars_more n a k k' j hv hj ⟨N, h4⟩
    · have hk : x.kind ≠ [] := by rcases h1 with h1 | h1 <;> rw [h1] <;> decide
      rw [tyVars, if_neg hk, h3] at hv ⊢
      change tyVars n b (tyVars n a (List.range k)) = List.range k' at hv
      show tyVars n b (tyVars n a (List.range j)) = _
      have hp := tyVars_pre n b (tyVars n a (List.range k))
      rw [hv] at hp
      obtain ⟨e1, e2⟩ := pre_range hp
      obtain ⟨k1, hk1⟩ : ∃ k1, k1 = (tyVars n a (List.range k)).length := ⟨_, rfl⟩
      rw [← hk1] at e1 e2
      rw [e1] at hv
      rw [vars_more n a k k1 j e1 hj ⟨N, h4⟩, vars_more n b k1 k' (max j k1) hv (Nat.le_max_right _ _) ⟨N, h5⟩, Nat.max_assoc, Nat.max_eq_right e2]
end Go.Proofs.YtcdijppegfcoaabGreatDoor

/-
  OUR OWN TEXT. typerref.in, typerref.vars.
-/
namespace Go.Proofs.YtcdijppegfcoaabGreatDoor
open Go.RowKit

def ints (l : List Nat) : List Value := l.map fun (x : Nat) => .int .i64 (x : Int)
/-- A row of numbers of one's own, as a slice of whatever make. -/
theorem own_ints {w : World} {base : Nat} {v : Value} {l : List Nat} (h : w.ownsRow base 3 1 v l.length (ints l)) :
    ∃ ao cp, v = .slice ao l.length cp ∧ ∀ (j x : Nat), l[j]? = some x → ∃ gn, ao = some ⟨gn, 0, none⟩ ∧ base ≤ gn ∧ gn < w.heap.size ∧ w.cell? ⟨gn, j, none⟩ = some (.int .i64 (x : Int)) := by
  obtain ⟨_, h⟩ := h
  rcases h with ⟨rfl, h0⟩ | ⟨g, cap, cur, rfl, hg, hb, hcap, hcur, hz, hxs⟩
  · have e : l = [] := by cases l with
      | nil => rfl
      | cons a l => simp at h0
    subst e
    exact ⟨none, 0, rfl, fun j x hx => by simp at hx⟩
  · refine ⟨some ⟨g, 0, none⟩, cap, rfl, fun j x hx => ⟨g, rfl, hg, lt_of_block hb, ?_⟩⟩
    have hj : j < l.length := by
      rcases Nat.lt_or_ge j l.length with h | h
      · exact h
      · rw [List.getElem?_eq_none h] at hx; cases hx
    have e : (ints l)[j]? = some (.int .i64 (x : Int)) := by simp [ints, hx]
    rw [← hxs, List.getElem?_take, if_pos (by omega)] at e
    simp only [World.cell?, hb]
    simpa using e

/-- What vars leaves. -/
def VarsPost (base : Nat) (H : Nat → Option Obj) (w w' : World) (e : Ending) (l : List Nat) : Prop :=
  ∃ v, e = .returned v ∧ w'.ownsRow base 3 1 v l.length (ints l) ∧ Fz H w' ∧ Below base w w' ∧ ∀ k, some k = v.ownBlock → H k = none
theorem info_int : (Tryz.prog.info? 3).map (fun i => (i.zero, i.size, i.bytes)) = some (some (.int .i64 0), 1, 8) := by kernel_rfl
theorem vars_len_le (n : Nat) (t : Ty) (l : List Nat) : l.length ≤ (tyVars n t l).length := (tyVars_pre n t l).length_le
/-- A number more. -/
theorem own_more {w w1 : World} {base : Nat} {H : Nat → Option Obj} {v : Value} {l : List Nat} (hown : w.ownsRow base 3 1 v l.length (ints l)) (hz : Fz H w) (hb : base ≤ w.heap.size) (hn : ∀ k, some k = v.ownBlock → H k = none) {x : Nat} {o : Obj} {g cap : Nat}
    (hown1 : w1.ownsRow base 3 1 (.slice (some ⟨g, 0, none⟩) (l.length + 1) cap) (l.length + 1) (ints l ++ [.int .i64 (x : Int)])) (hg : (w.alloc o).grownBy w1 v.ownBlock) (hat : v.ownBlock = some g ∨ g = w.heap.size + 1) :
    VarsPost base H w w1 (.returned (.slice (some ⟨g, 0, none⟩) (l.length + 1) cap)) (l ++ [x]) := by
  have same : ∀ k, k < w.heap.size → some k ≠ v.ownBlock → w1.heap[k]? = w.heap[k]? := fun k h1 h2 => by
    rw [hg.block k (by simp; omega) h2, Below.heap_alloc _ _ _ h1]
  refine ⟨_, rfl, ?_, fun k o' e => ?_, ⟨hg.os, hg.tape, hg.output, Nat.le_trans (by simp) hg.size, fun k hk => ?_⟩, fun k e => ?_⟩
  · have e1 : (l ++ [x]).length = l.length + 1 := by simp
    have e2 : ints (l ++ [x]) = ints l ++ [.int .i64 (x : Int)] := by simp [ints]
    rw [e1, e2]
    exact hown1
  · rw [same k (hz.lt e) (fun e' => by rw [hn k e'] at e; cases e)]
    exact hz k o' e
  · exact same k (by omega) (fun e => by have := (own_lt hown e).1; omega)
  · simp only [Value.ownBlock, Option.some.injEq] at e
    rw [e]
    rcases hat with h | h
    · exact hn g h.symm
    · rw [h]; exact hz.none (by omega)

end Go.Proofs.YtcdijppegfcoaabGreatDoor

/-
  OUR OWN TEXT. typerref.equal.
-/
namespace Go.Proofs.YtcdijppegfcoaabGreatDoor
open Go.RowKit

theorem kids_len {N m : Nat} {x y : Ty} (hx : TyOk N (m + 1) x) (hy : TyOk N (m + 1) y) (hk : x.kind = y.kind) : x.kids.length = y.kids.length ∧ (x.kind ≠ [] → x.var = y.var) ∧ x.kids.length ≤ 2 := by
  rcases hx with ⟨h1, h2, h3⟩ | ⟨h1, h2, h3⟩ | ⟨h1, h2, a, h3, h4⟩ | ⟨h1, h2, a, b, h3, h4, h5⟩ <;> rcases hy with ⟨g1, g2, g3⟩ | ⟨g1, g2, g3⟩ | ⟨g1, g2, c, g3, g4⟩ | ⟨g1, g2, c, d, g3, g4, g5⟩
  · exact ⟨by rw [h3, g3], fun e => absurd h1 e, by rw [h3]; simp⟩
  · rw [h1] at hk; rcases g1 with g1 | g1 <;> rw [g1] at hk <;> exact absurd hk (by decide)
  · rw [h1, g1] at hk; exact absurd hk (by decide)
  · rw [h1] at hk; rcases g1 with g1 | g1 <;> rw [g1] at hk <;> exact absurd hk (by decide)
  · rw [g1] at hk; rcases h1 with h1 | h1 <;> rw [h1] at hk <;> exact absurd hk (by decide)
  · exact ⟨by rw [h3, g3], fun _ => by rw [h2, g2], by rw [h3]; simp⟩
  · rw [g1] at hk; rcases h1 with h1 | h1 <;> rw [h1] at hk <;> exact absurd hk (by decide)
  · exfalso; rcases h1 with h1 | h1 <;> rcases g1 with g1 | g1 <;> rw [h1, g1] at hk <;> exact absurd hk (by decide)
  · rw [h1, g1] at hk; exact absurd hk (by decide)
  · rw [h1] at hk; rcases g1 with g1 | g1 <;> rw [g1] at hk <;> exact absurd hk (by decide)
  · exact ⟨by rw [h3, g3]; rfl, fun _ => by rw [h2, g2], by rw [h3]; simp⟩
  · rw [h1] at hk; rcases g1 with g1 | g1 <;> rw [g1] at hk <;> exact absurd hk (by decide)
  · rw [g1] at hk; rcases h1 with h1 | h1 <;> rw [h1] at hk <;> exact absurd hk (by decide)
  · exfalso; rcases h1 with h1 | h1 <;> rcases g1 with g1 | g1 <;> rw [h1, g1] at hk <;> exact absurd hk (by decide)
  · rw [g1] at hk; rcases h1 with h1 | h1 <;> rw [h1] at hk <;> exact absurd hk (by decide)
  · exact ⟨by rw [h3, g3]; rfl, fun _ => by rw [h2, g2], by rw [h3]; simp⟩
theorem ok_kid {N m : Nat} {x y : Ty} (h : TyOk N (m + 1) x) (hy : y ∈ x.kids) : TyOk N m y := by
  rcases h with ⟨h1, h2, h3⟩ | ⟨h1, h2, h3⟩ | ⟨h1, h2, a, h3, h4⟩ | ⟨h1, h2, a, b, h3, h4, h5⟩
  · rw [h3] at hy; cases hy
  · rw [h3] at hy; cases hy
  · rw [h3] at hy; rw [List.mem_singleton.1 hy]; exact h4
  · rw [h3] at hy
    rcases List.mem_cons.1 hy with rfl | hy
    · exact h4
    · rw [List.mem_singleton.1 hy]; exact h5
theorem bool_of (p : Prop) : ∃ r : Bool, r = true ↔ p := by
  by_cases h : p
  · exact ⟨true, by simp [h]⟩
  · exact ⟨false, by simp [h]⟩

end Go.Proofs.YtcdijppegfcoaabGreatDoor

/-
  OUR OWN TEXT. By which types a type becomes another, on plain data: the types xs their texts; typerref.Matched: what it keeps.
-/
namespace Go.Proofs.YtcdijppegfcoaabGreatDoor
open Go.RowKit

def mKids (f : Ty → Ty → (List (Option (List UInt8))) → Option (List (Option (List UInt8)))) : List Ty → List Ty → (List (Option (List UInt8))) → Option (List (Option (List UInt8)))
  | a :: xs, b :: ys, g => match f a b g with
    | none => none
    | some g1 => mKids f xs ys g1
  | _, _, g => some g
/-- What the variables of x stand for if it is to be y (g: so far), xs texts by the names ns. -/
def matchS (M : Nat) (ns : List (List UInt8)) : Nat → Ty → Ty → (List (Option (List UInt8))) → Option (List (Option (List UInt8)))
  | 0, _, _, _ => none
  | n + 1, x, y, g =>
    if x.kind = [] then match g.getD x.var none with
      | some t => if t = tyText M ns y then some g else none
      | none => some (g.set x.var (some (tyText M ns y)))
    else if x.kind = y.kind then mKids (matchS M ns n) x.kids y.kids g else none
theorem mKids_len {f : Ty → Ty → (List (Option (List UInt8))) → Option (List (Option (List UInt8)))} (hf : ∀ a b g g', f a b g = some g' → g'.length = g.length) : ∀ (xs ys : List Ty) (g g' : (List (Option (List UInt8)))), mKids f xs ys g = some g' → g'.length = g.length
  | [], _, g, g', h => by cases h; rfl
  | _ :: _, [], g, g', h => by cases h; rfl
  | a :: xs, b :: ys, g, g', h => by
    rw [mKids] at h
    cases e : f a b g with
    | none => rw [e] at h; cases h
    | some g1 =>
      rw [e] at h
      rw [mKids_len hf xs ys g1 g' h, hf a b g g1 e]
theorem matchS_len {M : Nat} {ns : List (List UInt8)} : ∀ (n : Nat) (x y : Ty) (g g' : (List (Option (List UInt8)))), matchS M ns n x y g = some g' → g'.length = g.length
  | 0, _, _, _, _, h => by cases h
  | n + 1, x, y, g, g', h => by
    rw [matchS] at h
    split at h
    · split at h
      · split at h
        · cases h; rfl
        · cases h
      · cases h; simp
    · split at h
      · exact mKids_len (fun a b g g' => matchS_len n a b g g') _ _ g g' h
      · cases h
/-- One more pair of parts. -/
theorem mKids_drop {f : Ty → Ty → (List (Option (List UInt8))) → Option (List (Option (List UInt8)))} {xs ys : List Ty} {j : Nat} {a b : Ty} (ha : xs[j]? = some a) (hb : ys[j]? = some b) (g : (List (Option (List UInt8)))) : mKids f (xs.drop j) (ys.drop j) g = match f a b g with
    | none => none
    | some g1 => mKids f (xs.drop (j + 1)) (ys.drop (j + 1)) g1 := by
  have hja : j < xs.length := by
    rcases Nat.lt_or_ge j xs.length with h | h
    · exact h
    · rw [List.getElem?_eq_none h] at ha; cases ha
  have hjb : j < ys.length := by
    rcases Nat.lt_or_ge j ys.length with h | h
    · exact h
    · rw [List.getElem?_eq_none h] at hb; cases hb
  rw [List.drop_eq_getElem_cons hja, List.drop_eq_getElem_cons hjb, mKids]
  rw [List.getElem?_eq_getElem hja] at ha
  rw [List.getElem?_eq_getElem hjb] at hb
  cases ha
  cases hb
  rfl
theorem mKids_end {f : Ty → Ty → (List (Option (List UInt8))) → Option (List (Option (List UInt8)))} (xs ys : List Ty) (j : Nat) (h : xs.length ≤ j) (g : (List (Option (List UInt8)))) : mKids f (xs.drop j) (ys.drop j) g = some g := by
  rw [List.drop_eq_nil_of_le h, mKids]
  simp

def ptrO : Option Nat → Value
  | none => .pointer none
  | some b => .pointer (some ⟨b, 0, none⟩)
/-- A row of types, some of them none yet, xs a slice of whatever make. -/
def GRow (w : World) (v : Value) (gs : List (Option Nat)) : Prop :=
  ∃ ao cp, v = .slice ao gs.length cp ∧ ∀ (j : Nat) (o : Option Nat), gs[j]? = some o → ∃ g, ao = some ⟨g, 0, none⟩ ∧ g < w.heap.size ∧ w.cell? ⟨g, j, none⟩ = some (ptrO o)
theorem GRow.grown {w w' : World} {v : Value} {gs : List (Option Nat)} (h : GRow w v gs) (hg : w.grownBy w' none) : GRow w' v gs := by
  obtain ⟨ao, cp, rfl, hc⟩ := h
  refine ⟨ao, cp, rfl, fun j o e => ?_⟩
  obtain ⟨g, h1, h2, h3⟩ := hc j o e
  exact ⟨g, h1, Nat.lt_of_lt_of_le h2 hg.size, by rw [World.cell?_of_block (a := ⟨g, j, none⟩) (hg.block g h2 (by simp))]; exact h3⟩
/-- The row is that of these texts. -/
def GT (N M : Nat) (ns : List (List UInt8)) (H : Nat → Option Obj) (gs : List (Option Nat)) (g : (List (Option (List UInt8)))) : Prop :=
  gs.length = g.length ∧ ∀ (j : Nat), (∀ o, gs[j]? = some o → o = none → g[j]? = some none) ∧ (∀ b, gs[j]? = some (some b) → ∃ t, TRep M H b t ∧ TyOk N M t ∧ g[j]? = some (some (tyText M ns t)))
theorem GT.set {N M : Nat} {ns : List (List UInt8)} {H : Nat → Option Obj} {gs : List (Option Nat)} {g : (List (Option (List UInt8)))} (h : GT N M ns H gs g) {v b : Nat} {t : Ty} (hr : TRep M H b t) (ok : TyOk N M t) : GT N M ns H (gs.set v (some b)) (g.set v (some (tyText M ns t))) := by
  obtain ⟨hl, hj⟩ := h
  refine ⟨by simp [hl], fun j => ⟨fun o h1 h2 => ?_, fun c h1 => ?_⟩⟩
  · rw [List.getElem?_set] at h1 ⊢
    by_cases e : v = j
    · rw [if_pos e] at h1
      split at h1
      · rw [← Option.some.inj h1] at h2; cases h2
      · cases h1
    · rw [if_neg e] at h1 ⊢
      exact (hj j).1 o h1 h2
  · rw [List.getElem?_set] at h1 ⊢
    by_cases e : v = j
    · rw [if_pos e] at h1 ⊢
      split at h1
      · rename_i hlt
        rw [if_pos (by rw [← hl]; exact hlt)]
        have e2 := Option.some.inj (Option.some.inj h1)
        subst e2
        exact ⟨t, hr, ok, rfl⟩
      · cases h1
    · rw [if_neg e] at h1 ⊢
      exact (hj j).2 c h1
/-- What Matched leaves. -/
def MOut (N M : Nat) (ns : List (List UInt8)) (H : Nat → Option Obj) (w w' : World) (e : Ending) (r : Option (List (Option (List UInt8)))) : Prop :=
  w.grownBy w' none ∧ ∃ v, (r = none ∧ e = .returned (.tuple #[v, .bool false])) ∨ (∃ g' gs', r = some g' ∧ e = .returned (.tuple #[v, .bool true]) ∧ GRow w' v gs' ∧ GT N M ns H gs' g')
end Go.Proofs.YtcdijppegfcoaabGreatDoor

/-
  OUR OWN TEXT. Each variable of a type that was read stands in it; a match gives each variable that stands there something.
-/
namespace Go.Proofs.YtcdijppegfcoaabGreatDoor
open Go.RowKit

/-- A variable stands in a type. -/
def Occ : Nat → Ty → Nat → Prop
  | 0, _, _ => False
  | m + 1, x, v => (x.kind = [] ∧ x.var = v) ∨ ∃ y, y ∈ x.kids ∧ Occ m y v
theorem one_cover {T : List Tok} {A : List (List UInt8) → St → Option (Ty × List (List UInt8) × St)} (hA : ∀ ns s t ns' s', A ns s = some (t, ns', s') → ∀ v, ns.length ≤ v → v < ns'.length → ∃ m, Occ m t v) (ns : List (List UInt8)) (s : St) (t : Ty) (ns' : List (List UInt8)) (s' : St)
    (h : oneS A T ns s = some (t, ns', s')) : ∀ v, ns.length ≤ v → v < ns'.length → ∃ m, Occ m t v := by
  intro v h1 h2
  unfold oneS at h
  split at h
  · cases h; omega
  · split at h
    · cases h; omega
    · split at h
      · cases e : A ns s.up with
        | none => rw [e] at h; cases h
        | some q =>
          obtain ⟨t1, n1, s1⟩ := q
          rw [e] at h
          cases h
          obtain ⟨m, hm⟩ := hA _ _ _ _ _ e v h1 h2
          exact ⟨m + 1, Or.inr ⟨t1, by simp, hm⟩⟩
      · split at h
        · cases e : A ns s.up with
          | none => rw [e] at h; cases h
          | some q =>
            obtain ⟨t1, n1, s1⟩ := q
            rw [e] at h
            simp only at h
            split at h
            · cases e2 : A n1 s1.up with
              | none => rw [e2] at h; cases h
              | some q2 =>
                obtain ⟨t2, n2, s2⟩ := q2
                rw [e2] at h
                cases h
                rcases Nat.lt_or_ge v n1.length with hv | hv
                · obtain ⟨m, hm⟩ := hA _ _ _ _ _ e v h1 hv
                  exact ⟨m + 1, Or.inr ⟨t1, by simp, hm⟩⟩
                · obtain ⟨m, hm⟩ := hA _ _ _ _ _ e2 v hv h2
                  exact ⟨m + 1, Or.inr ⟨t2, by simp, hm⟩⟩
            · cases h
              exact hA _ _ _ _ _ e v h1 h2
        · cases h
          refine ⟨1, Or.inl ⟨rfl, ?_⟩⟩
          unfold numS at h2 ⊢
          split at h2
          · exact absurd h2 (by show ¬ v < ns.length; omega)
          · rename_i hn
            rw [if_neg hn]
            simp at h2
            show ns.length = v
            omega
theorem arr_cover {T : List Tok} : ∀ (n : Nat) (ns : List (List UInt8)) (s : St) (t : Ty) (ns' : List (List UInt8)) (s' : St), arrS T n ns s = some (t, ns', s') → ∀ v, ns.length ≤ v → v < ns'.length → ∃ m, Occ m t v
  | 0, _, _, _, _, _, h => by cases h
  | n + 1, ns, s, t, ns', s', h => by
    intro v h1 h2
    rw [arrS] at h
    cases e : oneS (arrS T n) T ns s with
    | none => rw [e] at h; cases h
    | some q =>
      obtain ⟨t1, n1, s1⟩ := q
      rw [e] at h
      simp only at h
      split at h
      · cases e2 : arrS T n n1 s1.up with
        | none => rw [e2] at h; cases h
        | some q2 =>
          obtain ⟨t2, n2, s2⟩ := q2
          rw [e2] at h
          cases h
          rcases Nat.lt_or_ge v n1.length with hv | hv
          · obtain ⟨m, hm⟩ := one_cover (arr_cover n) ns s t1 n1 s1 e v h1 hv
            exact ⟨m + 1, Or.inr ⟨t1, by simp, hm⟩⟩
          · obtain ⟨m, hm⟩ := arr_cover n _ _ _ _ _ e2 v hv h2
            exact ⟨m + 1, Or.inr ⟨t2, by simp, hm⟩⟩
      · cases h
        exact one_cover (arr_cover n) ns s _ _ _ e v h1 h2
theorem getD_set {g : List (Option (List UInt8))} {v i : Nat} {t : List UInt8} (h : (g.getD i none).isSome = true) : ((g.set v (some t)).getD i none).isSome = true := by
  rw [List.getD_eq_getElem?_getD, List.getElem?_set]
  rw [List.getD_eq_getElem?_getD] at h
  by_cases e : v = i
  · rw [if_pos e]
    split
    · rfl
    · rename_i hl
      rw [List.getElem?_eq_none (by omega)] at h
      exact h
  · rw [if_neg e]; exact h
theorem mKids_mono {f : Ty → Ty → List (Option (List UInt8)) → Option (List (Option (List UInt8)))} (hf : ∀ a b g g', f a b g = some g' → ∀ i, (g.getD i none).isSome = true → (g'.getD i none).isSome = true) : ∀ (xs ys : List Ty) (g g' : List (Option (List UInt8))), mKids f xs ys g = some g' → ∀ i, (g.getD i none).isSome = true → (g'.getD i none).isSome = true
  | [], _, g, g', h, i, hi => by simp [mKids] at h; rw [← h]; exact hi
  | _ :: _, [], g, g', h, i, hi => by simp [mKids] at h; rw [← h]; exact hi
  | a :: xs, b :: ys, g, g', h, i, hi => by
    rw [mKids] at h
    cases e : f a b g with
    | none => rw [e] at h; cases h
    | some g1 =>
      rw [e] at h
      exact mKids_mono hf xs ys g1 g' h i (hf a b g g1 e i hi)
theorem match_mono {M : Nat} {ns : List (List UInt8)} : ∀ (n : Nat) (x y : Ty) (g g' : List (Option (List UInt8))), matchS M ns n x y g = some g' → ∀ i, (g.getD i none).isSome = true → (g'.getD i none).isSome = true
  | 0, _, _, _, _, h, _, _ => by cases h
  | n + 1, x, y, g, g', h, i, hi => by
    rw [matchS] at h
    split at h
    · split at h
      · split at h
        · cases h; exact hi
        · cases h
      · cases h; exact getD_set hi
    · split at h
      · exact mKids_mono (fun a b g g' => match_mono n a b g g') _ _ g g' h i hi
      · cases h
theorem mKids_fill {f : Ty → Ty → List (Option (List UInt8)) → Option (List (Option (List UInt8)))} (hl : ∀ a b g g', f a b g = some g' → g'.length = g.length) (hm : ∀ a b g g', f a b g = some g' → ∀ i, (g.getD i none).isSome = true → (g'.getD i none).isSome = true) (v : Nat) : ∀ (xs ys : List Ty) (g g' : List (Option (List UInt8))), xs.length = ys.length → mKids f xs ys g = some g' → v < g.length →
    (∃ a, a ∈ xs ∧ ∀ b g g', b ∈ ys → f a b g = some g' → v < g.length → (g'.getD v none).isSome = true) → (g'.getD v none).isSome = true
  | [], _, _, _, _, _, _, ⟨a, ha, _⟩ => by cases ha
  | _ :: _, [], _, _, he, _, _, _ => by simp at he
  | a :: xs, b :: ys, g, g', he, h, hv, ⟨c, hc, hf⟩ => by
    rw [mKids] at h
    cases e : f a b g with
    | none => rw [e] at h; cases h
    | some g1 =>
      rw [e] at h
      have hl1 := hl a b g g1 e
      rcases List.mem_cons.1 hc with rfl | hc
      · exact mKids_mono hm xs ys g1 g' h v (hf b g g1 (by simp) e hv)
      · exact mKids_fill hl hm v xs ys g1 g' (by simpa using he) h (by omega) ⟨c, hc, fun b' g g' hb => hf b' g g' (List.mem_cons_of_mem _ hb)⟩
theorem match_fill {N M : Nat} {ns : List (List UInt8)} {v : Nat} : ∀ (m n : Nat) (x y : Ty) (g g' : List (Option (List UInt8))), Occ m x v → TyOk N n x → TyOk N M y → n ≤ M → matchS M ns n x y g = some g' → v < g.length → (g'.getD v none).isSome = true
  | 0, _, _, _, _, _, h, _, _, _, _, _ => absurd h id
  | _ + 1, 0, _, _, _, _, _, h, _, _, _, _ => absurd h id
  | m + 1, n + 1, x, y, g, g', ho, okx, oky, hnM, h, hv => by
    rw [matchS] at h
    split at h
    · rename_i hk
      have hxv : x.var = v := by
        rcases ho with ⟨_, h⟩ | ⟨z, hz, _⟩
        · exact h
        · exfalso
          rcases okx with ⟨_, _, h3⟩ | ⟨_, _, h3⟩ | ⟨h1, _⟩ | ⟨h1, _⟩
          · rw [h3] at hz; cases hz
          · rw [h3] at hz; cases hz
          · rw [hk] at h1; exact absurd h1 (by decide)
          · rw [hk] at h1; rcases h1 with h1 | h1 <;> exact absurd h1 (by decide)
      split at h
      · rename_i t e
        split at h
        · cases h
          rw [← hxv, e]; rfl
        · cases h
      · cases h
        rw [hxv, List.getD_eq_getElem?_getD, List.getElem?_set, if_pos rfl, if_pos hv]
        rfl
    · rename_i hk
      split at h
      · rename_i hkk
        obtain ⟨M', rfl⟩ : ∃ M', M = M' + 1 := ⟨M - 1, by omega⟩
        obtain ⟨kl, _, _⟩ := kids_len (okx.le hnM) oky hkk
        rcases ho with ⟨h1, _⟩ | ⟨z, hz, hoz⟩
        · exact absurd h1 hk
        · refine mKids_fill (fun a b g g' => matchS_len n a b g g') (fun a b g g' => match_mono n a b g g') v _ _ g g' kl h hv ⟨z, hz, fun b g1 g2 hb hm hv1 => ?_⟩
          exact match_fill m n z b g1 g2 hoz (ok_kid okx hz) (TyOk.up M' b (ok_kid oky hb)) (by omega) hm hv1
      · cases h
end Go.Proofs.YtcdijppegfcoaabGreatDoor

/-
  OUR OWN TEXT. typerref.Matched.
-/
namespace Go.Proofs.YtcdijppegfcoaabGreatDoor
open Go.RowKit

theorem ptrO_one (o : Option Nat) : (ptrO o).oneCell' = true := by cases o <;> rfl
theorem set_row {w1 : World} {g n cap base : Nat} {xs : List Value} (hown : w1.ownsRow base 99001 1 (.slice (some ⟨g, 0, none⟩) n cap) n xs) (v : Nat) (hv : v < n) (u : Value) :
    (∀ (j : Nat) (x : Value), xs[j]? = some x → w1.cell? ⟨g, j, none⟩ = some x) ∧ w1.frozen? ⟨g, v, none⟩ = false ∧ ∀ (j : Nat) (x : Value), (xs.set v u)[j]? = some x → (w1.setCell ⟨g, v, none⟩ u).cell? ⟨g, j, none⟩ = some x := by
  obtain ⟨hl, h⟩ := hown
  rcases h with ⟨h, _⟩ | ⟨g', cap', cur, e, hg, hb, hcap, hcur, hz, hxs⟩
  · cases h
  · cases e
    have hx : ∀ (j : Nat) (x : Value), xs[j]? = some x → cur[j]? = some x := fun j x e => by
      rw [← hxs, List.getElem?_take] at e
      split at e
      · simpa using e
      · cases e
    refine ⟨fun j x e => by simp [World.cell?, hb, hx j x e], by simp [World.frozen?, hb], fun j x e => ?_⟩
    rw [List.getElem?_set] at e
    have hcs : v < cur.size := by omega
    by_cases ej : v = j
    · subst ej
      rw [if_pos rfl] at e
      split at e
      · simp [World.cell?, World.setCell, Array.getElem?_modify, hb, hcs]
        exact Option.some.inj e
      · cases e
    · rw [if_neg ej] at e
      simp [World.cell?, World.setCell, Array.getElem?_modify, hb, ej]
      exact hx j x e

theorem matchS_known {M : Nat} {ns : List (List UInt8)} {n : Nat} {x y : Ty} {g : List (Option (List UInt8))} {t : List UInt8} (hk : x.kind = []) (e : g.getD x.var none = some t) : matchS M ns (n + 1) x y g = if t = tyText M ns y then some g else none := by
  rw [matchS, if_pos hk, e]
theorem matchS_new {M : Nat} {ns : List (List UInt8)} {n : Nat} {x y : Ty} {g : List (Option (List UInt8))} (hk : x.kind = []) (e : g.getD x.var none = none) : matchS M ns (n + 1) x y g = some (g.set x.var (some (tyText M ns y))) := by
  rw [matchS, if_pos hk, e]

theorem Fz.grown' {H : Nat → Option Obj} {w w' : World} (h : Fz H w) (hg : w.grownBy w' Option.none) : Fz H w' := fun k o e => by
  rw [hg.block k (h.lt e) (by simp)]
  exact h k o e

end Go.Proofs.YtcdijppegfcoaabGreatDoor

/-
  OUR OWN TEXT. typerref.figures (below ten), typerref.Letter.
-/
namespace Go.Proofs.YtcdijppegfcoaabGreatDoor
open Go.RowKit

theorem conv_one (w : World) (t : TypeId) (b : UInt8) : (convert 41 9 (.slice (some ⟨w.heap.size, 0, none⟩) 1 1)).run Tryz.prog (w.alloc (.cells #[.int .u8 (b.toNat : Int)] t)) = .ok (.string (B [b])) (w.alloc (.cells #[.int .u8 (b.toNat : Int)] t)) := by
  refine run_convert_bytes_back (w.alloc (.cells #[.int .u8 (b.toNat : Int)] t)) 41 9 5 ⟨w.heap.size, 0, none⟩ 1 [b] Tryz.underlying41 Tryz.underlying5 Tryz.underlying9 ?_
  intro j hj
  match j, hj with
  | 0, _ => simp [go_sem, Addr.add]

end Go.Proofs.YtcdijppegfcoaabGreatDoor

/-
  OUR OWN TEXT (written by mkshown.py). typerref.Shown.
-/
namespace Go.Proofs.YtcdijppegfcoaabGreatDoor
open Go.RowKit

def tyOpen : List UInt8 := [40]
def tyShut : List UInt8 := [41]
def tyComma : List UInt8 := [44, 32]
def tySq : List UInt8 := [91]
def tyQs : List UInt8 := [93]
def tyArr : List UInt8 := [32, 45, 62, 32]

theorem tyText_len (ns : List (List UInt8)) (h10 : ∀ (j : Nat) (c : List UInt8), ns[j]? = some c → c.length ≤ 10) {N : Nat} : ∀ (n : Nat) (t : Ty), TyOk N n t → (tyText n ns t).length ≤ 20 * tySize n t
  | 0, _, h => absurd h id
  | n + 1, t, h => by
    rcases h with ⟨h1, h2, h3⟩ | ⟨h1, h2, h3⟩ | ⟨h1, h2, a, h3, h4⟩ | ⟨h1, h2, a, b, h3, h4, h5⟩
    · rw [tyText, if_pos h1, tySize, h3]
      have : (ns.getD t.var []).length ≤ 10 := by
        rw [List.getD]
        cases e : ns[t.var]? with
        | none => simp
        | some c => simpa using h10 _ _ e
      simp only [List.map_nil, List.sum_nil]
      omega
    · have hk : t.kind ≠ [] := by rcases h1 with h1 | h1 <;> rw [h1] <;> decide
      rw [tyText, if_neg hk, tySize, h3]
      rcases h1 with h1 | h1 <;> simp [h1, kInt, kBool]
    · have hk : t.kind ≠ [] := by rw [h1]; decide
      have := tyText_len ns h10 n a h4
      rw [tyText, if_neg hk, tySize, h3]
      simp
      omega
    · have hk : t.kind ≠ [] := by rcases h1 with h1 | h1 <;> rw [h1] <;> decide
      have h6 := tyText_len ns h10 n a h4
      have h7 := tyText_len ns h10 n b h5
      rw [tyText, if_neg hk, tySize, h3]
      simp only
      split
      · split <;> simp <;> omega
      · simp; omega

end Go.Proofs.YtcdijppegfcoaabGreatDoor

/-
  OUR OWN TEXT. typerref.Canon.
-/
namespace Go.Proofs.YtcdijppegfcoaabGreatDoor
open Go.RowKit

theorem ok_most {N M : Nat} : ∀ (m : Nat) (t : Ty) (l : List Nat), TyOk N m t → (∀ v, v ∈ tyVars m t l → v < M) → TyOk M m t
  | 0, _, _, h, _ => h
  | m + 1, t, l, h, hM => by
    rw [tyVars] at hM
    rcases h with ⟨h1, h2, h3⟩ | h | ⟨h1, h2, a, h3, h4⟩ | ⟨h1, h2, a, b, h3, h4, h5⟩
    · rw [if_pos h1] at hM
      refine Or.inl ⟨h1, hM t.var ?_, h3⟩
      split
      · assumption
      · simp
    · exact Or.inr (Or.inl h)
    · rw [if_neg (by rw [h1]; decide), h3] at hM
      exact Or.inr (Or.inr (Or.inl ⟨h1, h2, a, h3, ok_most m a l h4 hM⟩))
    · rw [if_neg (by rcases h1 with h1 | h1 <;> rw [h1] <;> decide), h3] at hM
      have hM' : ∀ v, v ∈ tyVars m b (tyVars m a l) → v < M := hM
      exact Or.inr (Or.inr (Or.inr ⟨h1, h2, a, b, h3, ok_most m a l h4 (fun v hv => hM' v ((tyVars_pre m b _).subset hv)), ok_most m b _ h5 hM'⟩))

theorem made_strs (w : World) (n : Nat) (hn : n ≤ 100000) (ns : List (List UInt8)) (hns : ns = List.replicate n []) :
    (Instr.makeSlice 26 (.int .i64 (n : Int)) (.int .i64 (n : Int))).run Tryz.prog w = .ok (.slice (some ⟨w.heap.size, 0, none⟩) n n) (w.alloc (.cells (strs ns).toArray 9)) := by
  obtain ⟨i0, hi, hz0, hz1, hz2⟩ := info_parts info_str
  have hr := run_make (P := Tryz.prog) w 26 9 i0 (.string (B [])) Tryz.underlying26 hi hz0 .i64 .i64 (n : Int) (n : Int) (by omega) (Int.le_refl _) (by rw [hz2]; omega) (by omega)
  rw [hr]
  simp only [Int.toNat_natCast, hz1, Nat.mul_one]
  have e : madeCells (Value.string (B [])).cells n = (strs ns).toArray := by
    apply Array.ext
    · rw [size_madeCells, hns]; simp [strs]
    · intro i h1 h2
      have h3 : i % 1 = 0 := Nat.mod_one i
      simp [madeCells, strs, Value.cells, hns, h3]
  rw [e]

theorem canNames_short (l : List Nat) (j : Nat) (c : List UInt8) (h : (namesTo l l.length)[j]? = some c) : c.length ≤ 10 := by
  simp only [namesTo, List.getElem?_map] at h
  cases e : (List.range (mostS l))[j]? with
  | none => rw [e] at h; cases h
  | some v =>
    rw [e] at h
    simp only [Option.map_some, Option.some.injEq] at h
    rw [← h]
    split
    · exact Nat.le_trans (letterS_len _) (by omega)
    · simp
theorem strs_set (ns : List (List UInt8)) (v : Nat) (t : List UInt8) : (strs ns).toArray.setIfInBounds v (.string (B t)) = (strs (ns.set v t)).toArray := by
  simp [strs, List.map_set]
/-- Where the names lie. -/
structure NB (g : Nat) (w wi : World) (ns : List (List UInt8)) : Prop where
  blk : wi.heap[g]? = some (.cells (strs ns).toArray 9 (0, 0))
  old : ∀ k, k < g → wi.heap[k]? = w.heap[k]?
  bel : Below g w wi
theorem NB.cell {g : Nat} {w wi : World} {ns : List (List UInt8)} (h : NB g w wi ns) {j : Nat} {c : List UInt8} (hc : ns[j]? = some c) : wi.cell? ⟨g, j, none⟩ = some (.string (B c)) ∧ wi.frozen? ⟨g, j, none⟩ = false := by
  simp [World.cell?, World.frozen?, h.blk, strs, hc]
theorem NB.grown {g : Nat} {w wi w' : World} {ns : List (List UInt8)} (h : NB g w wi ns) (hg : wi.grownBy w' none) : NB g w w' ns := by
  have hl := lt_of_block h.blk
  refine ⟨by rw [hg.block g hl (by simp)]; exact h.blk, fun k hk => by rw [hg.block k (by omega) (by simp)]; exact h.old k hk, h.bel.trans ⟨hg.os, hg.tape, hg.output, hg.size, fun k hk => hg.block k (by omega) (by simp)⟩⟩
theorem NB.set {g : Nat} {w wi : World} {ns : List (List UInt8)} (h : NB g w wi ns) (v : Nat) (t : List UInt8) : NB g w (wi.setCell ⟨g, v, none⟩ (.string (B t))) (ns.set v t) := by
  have hl := lt_of_block h.blk
  refine ⟨?_, fun k hk => by rw [Below.heap_setCell _ _ _ _ (by show k ≠ g; omega)]; exact h.old k hk, h.bel.trans ⟨rfl, rfl, rfl, by simp [World.setCell], fun k hk => Below.heap_setCell _ _ _ _ (by show k ≠ g; omega)⟩⟩
  rw [← strs_set]
  simp [World.setCell, Array.getElem?_modify, h.blk]
theorem names0 (l : List Nat) : namesTo l 0 = List.replicate (mostS l) [] := by
  apply List.ext_getElem
  · simp [namesTo]
  · intro i h1 h2
    simp [namesTo]

end Go.Proofs.YtcdijppegfcoaabGreatDoor
