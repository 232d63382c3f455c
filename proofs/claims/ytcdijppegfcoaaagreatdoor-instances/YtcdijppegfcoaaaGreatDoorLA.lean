import Derived.Test.YtcdijppegfcoaaaGreatDoorTree
import Derived.Deep.LoopGhost
import Derived.Test.YtcdijppegfcoaaaGreatDoorRefA
import Derived.Test.YtcdijppegfcoaaaGreatDoorRefB
import Derived.Outline
import Derived.Test.YtcdijppegfcoaaaGreatDoorRefT
import Derived.Laws.IdiomStrings
import Derived.Deep.RegionWith
import Derived.Laws.OwnMore
import Derived.Test.YtcdijppegfcoaaaGreatDoorXMut
import Derived.Test.YtcdijppegfcoaaaGreatDoorRefRd
import Derived.Test.YtcdijppegfcoaaaGreatDoorPLex
/-
  OUR OWN TEXT. typerref's reader of types on plain data; types in memory, over blocks that no longer change; their texts.
-/
namespace Go.Proofs.YtcdijppegfcoaaaGreatDoor
open Go.RowKit

def kInt : List UInt8 := [105, 110, 116]
def kBool : List UInt8 := [98, 111, 111, 108]
def kSq : List UInt8 := [91]
def kQs : List UInt8 := [93]
def oList : List UInt8 := [108, 105, 115, 116]
def tyKw : List (List UInt8) := [kInt, kBool]

/-- A type as typerref has it: a variable (kind empty, its number), or a kind with parts. -/
structure Ty where
  kind : List UInt8
  var : Nat
  kids : List Ty

/-- The names of variables met so far, by number. -/
def numS (ns : List (List UInt8)) (n : List UInt8) : Nat × List (List UInt8) := if n ∈ ns then (ns.idxOf n, ns) else (ns.length, ns ++ [n])

def oneS (A : List (List UInt8) → St → Option (Ty × List (List UInt8) × St)) (T : List Tok) (ns : List (List UInt8)) (s : St) : Option (Ty × List (List UInt8) × St) :=
  if isS T s kInt = true then some (⟨kInt, 0, []⟩, ns, s.up)
  else if isS T s kBool = true then some (⟨kBool, 0, []⟩, ns, s.up)
  else if isS T s kSq = true then match A ns s.up with
    | none => none
    | some (t, n1, s1) => some (⟨oList, 0, [t]⟩, n1, needS T s1 kQs)
  else if isS T s kOpen = true then match A ns s.up with
    | none => none
    | some (t, n1, s1) =>
      if isS T s1 kComma = true then match A n1 s1.up with
        | none => none
        | some (u, n2, s2) => some (⟨oPair, 0, [t, u]⟩, n2, needS T s2 kShut)
      else some (t, n1, needS T s1 kShut)
  else some (⟨[], (numS ns (tk T s.k).s).1, []⟩, (numS ns (tk T s.k).s).2, needS T s kName)

def arrS (T : List Tok) : Nat → List (List UInt8) → St → Option (Ty × List (List UInt8) × St)
  | 0, _, _ => none
  | n + 1, ns, s => match oneS (arrS T n) T ns s with
    | none => none
    | some (t, n1, s1) =>
      if isS T s1 kArrow = true then match arrS T n n1 s1.up with
        | none => none
        | some (u, n2, s2) => some (⟨kFun, 0, [t, u]⟩, n2, s2)
      else some (t, n1, s1)

/-- How many parts. -/
def tySize : Nat → Ty → Nat
  | 0, _ => 0
  | n + 1, t => 1 + (t.kids.map (tySize n)).sum

/-- The variables of a type, each once, in the order in which they stand. -/
def tyVars : Nat → Ty → List Nat → List Nat
  | 0, _, l => l
  | n + 1, t, l => if t.kind = [] then (if t.var ∈ l then l else l ++ [t.var]) else t.kids.foldl (fun l x => tyVars n x l) l

/-- A type's text, its variables by their names. -/
def tyText : Nat → List (List UInt8) → Ty → List UInt8
  | 0, _, _ => []
  | n + 1, ns, t =>
    if t.kind = [] then ns.getD t.var []
    else match t.kids with
      | [a] => [91] ++ tyText n ns a ++ [93]
      | [a, b] => if t.kind = kFun then (if a.kind = kFun then [40] ++ tyText n ns a ++ [41] else tyText n ns a) ++ [32, 45, 62, 32] ++ tyText n ns b
          else [40] ++ tyText n ns a ++ [44, 32] ++ tyText n ns b ++ [41]
      | _ => t.kind

/-- A type at a block. -/
def TRep : Nat → (Nat → Option Obj) → Nat → Ty → Prop
  | 0, _, _, _ => False
  | n + 1, H, b, t => ∃ ks bs, H b = some (.cells #[.string (B t.kind), .int .i64 (t.var : Int), ks] 103 (0, 0)) ∧ RowH H 33 ks (ptrs bs) ∧
      bs.length = t.kids.length ∧ ∀ (i : Nat) (x : Ty) (c : Nat), bs[i]? = some c → t.kids[i]? = some x → TRep n H c x
theorem TRep.ext {m : Nat} {H H' : Nat → Option Obj} (e : Ext m H H') : ∀ (n : Nat) (b : Nat) (x : Ty), TRep n H b x → TRep n H' b x
  | 0, _, _, h => h
  | n + 1, b, x, h => by
    obtain ⟨ks, bs, h1, h3, h4, h5⟩ := h
    exact ⟨ks, bs, e.1 _ _ h1, h3.ext e, h4, fun i y c h6 h7 => TRep.ext e n c y (h5 i y c h6 h7)⟩
theorem TRep.up {H : Nat → Option Obj} : ∀ (n : Nat) (b : Nat) (x : Ty), TRep n H b x → TRep (n + 1) H b x
  | 0, _, _, h => absurd h id
  | n + 1, b, x, h => by
    obtain ⟨ks, bs, h1, h3, h4, h5⟩ := h
    exact ⟨ks, bs, h1, h3, h4, fun i y c h6 h7 => TRep.up n c y (h5 i y c h6 h7)⟩
theorem TRep.le {H : Nat → Option Obj} {n m : Nat} {b : Nat} {x : Ty} (h : TRep n H b x) (hm : n ≤ m) : TRep m H b x := by
  induction m with
  | zero => rw [Nat.le_zero.1 hm] at h; exact h
  | succ m ih =>
    rcases Nat.lt_or_ge n (m + 1) with hlt | hge
    · exact TRep.up m b x (ih (by omega))
    · rw [show m + 1 = n from by omega]; exact h
/-- A leaf: int, bool, a variable. -/
theorem ty_leaf {w : World} {H : Nat → Option Obj} (hz : Fz H w) (k : List UInt8) (v : Nat) :
    ∃ H', Fz H' (w.alloc (.cells #[.string (B k), .int .i64 (v : Int), .slice none 0 0] 103)) ∧ Ext w.heap.size H H' ∧ TRep 1 H' w.heap.size ⟨k, v, []⟩ := by
  have n1 : H w.heap.size = none := hz.none (Nat.le_refl _)
  exact ⟨_, (hz.alloc _).add (heap_alloc_new _ _), (Ext.refl _ _).add (Nat.le_refl _) n1, _, [], Fz.more_same _ _ _, Or.inl ⟨rfl, rfl⟩, rfl, fun i x c h => by simp at h⟩
/-- A list. -/
theorem ty_one {w : World} {H : Nat → Option Obj} (hz : Fz H w) (k : List UInt8) {b m1 : Nat} {x : Ty} (hx : TRep m1 H b x) :
    ∃ H' m, Fz H' ((w.alloc (.cells #[.pointer (some ⟨b, 0, none⟩)] 33)).alloc (.cells #[.string (B k), .int .i64 0, .slice (some ⟨w.heap.size, 0, none⟩) 1 1] 103)) ∧
      Ext w.heap.size H H' ∧ TRep m H' (w.heap.size + 1) ⟨k, 0, [x]⟩ := by
  have n1 : H w.heap.size = none := hz.none (Nat.le_refl _)
  have n2 : H (w.heap.size + 1) = none := hz.none (by omega)
  have z1 : Fz (Fz.more H w.heap.size (.cells #[.pointer (some ⟨b, 0, none⟩)] 33 (0, 0))) (w.alloc (.cells #[.pointer (some ⟨b, 0, none⟩)] 33)) := (hz.alloc _).add (heap_alloc_new _ _)
  have n3 : Fz.more H w.heap.size (.cells #[.pointer (some ⟨b, 0, none⟩)] 33 (0, 0)) (w.heap.size + 1) = none := by unfold Fz.more; rw [if_neg (by omega)]; exact n2
  have ext := ((Ext.refl w.heap.size H).add (o := .cells #[.pointer (some ⟨b, 0, none⟩)] 33 (0, 0)) (Nat.le_refl _) n1).add (o := .cells #[.string (B k), .int .i64 0, .slice (some ⟨w.heap.size, 0, none⟩) 1 1] 103 (0, 0)) (b := w.heap.size + 1) (by omega) n3
  refine ⟨_, m1 + 1, (z1.alloc _).add (heap_alloc_at _ _ _ (by simp)), ext, ?_⟩
  refine ⟨_, [b], Fz.more_same _ _ _, Or.inr ⟨w.heap.size, 1, #[.pointer (some ⟨b, 0, none⟩)], rfl, Fz.more_old (Fz.more_same _ _ _) n3, rfl⟩, rfl, ?_⟩
  intro i z d h1 h2
  match i, h1, h2 with
  | 0, h1, h2 =>
    simp at h1 h2
    subst h1 h2
    exact TRep.ext ext _ _ _ hx
  | i + 1, h1, h2 => simp at h1
/-- A pair, a function. -/
theorem ty_two {w : World} {H : Nat → Option Obj} (hz : Fz H w) (k : List UInt8) {b c m1 m2 : Nat} {x y : Ty} (hx : TRep m1 H b x) (hy : TRep m2 H c y) :
    ∃ H' m, Fz H' ((w.alloc (.cells #[.pointer (some ⟨b, 0, none⟩), .pointer (some ⟨c, 0, none⟩)] 33)).alloc (.cells #[.string (B k), .int .i64 0, .slice (some ⟨w.heap.size, 0, none⟩) 2 2] 103)) ∧
      Ext w.heap.size H H' ∧ TRep m H' (w.heap.size + 1) ⟨k, 0, [x, y]⟩ := by
  have n1 : H w.heap.size = none := hz.none (Nat.le_refl _)
  have n2 : H (w.heap.size + 1) = none := hz.none (by omega)
  have z1 : Fz (Fz.more H w.heap.size (.cells #[.pointer (some ⟨b, 0, none⟩), .pointer (some ⟨c, 0, none⟩)] 33 (0, 0))) (w.alloc (.cells #[.pointer (some ⟨b, 0, none⟩), .pointer (some ⟨c, 0, none⟩)] 33)) := (hz.alloc _).add (heap_alloc_new _ _)
  have n3 : Fz.more H w.heap.size (.cells #[.pointer (some ⟨b, 0, none⟩), .pointer (some ⟨c, 0, none⟩)] 33 (0, 0)) (w.heap.size + 1) = none := by unfold Fz.more; rw [if_neg (by omega)]; exact n2
  have ext := ((Ext.refl w.heap.size H).add (o := .cells #[.pointer (some ⟨b, 0, none⟩), .pointer (some ⟨c, 0, none⟩)] 33 (0, 0)) (Nat.le_refl _) n1).add (o := .cells #[.string (B k), .int .i64 0, .slice (some ⟨w.heap.size, 0, none⟩) 2 2] 103 (0, 0)) (b := w.heap.size + 1) (by omega) n3
  refine ⟨_, max m1 m2 + 1, (z1.alloc _).add (heap_alloc_at _ _ _ (by simp)), ext, ?_⟩
  refine ⟨_, [b, c], Fz.more_same _ _ _, Or.inr ⟨w.heap.size, 2, #[.pointer (some ⟨b, 0, none⟩), .pointer (some ⟨c, 0, none⟩)], rfl, Fz.more_old (Fz.more_same _ _ _) n3, rfl⟩, rfl, ?_⟩
  intro i z d h1 h2
  match i, h1, h2 with
  | 0, h1, h2 =>
    simp at h1 h2
    subst h1 h2
    exact TRep.ext ext _ _ _ (hx.le (Nat.le_max_left _ _))
  | 1, h1, h2 =>
    simp at h1 h2
    subst h1 h2
    exact TRep.ext ext _ _ _ (hy.le (Nat.le_max_right _ _))
  | i + 2, h1, h2 => simp at h1
end Go.Proofs.YtcdijppegfcoaaaGreatDoor

/-
  OUR OWN TEXT. typerref.Size.
-/
namespace Go.Proofs.YtcdijppegfcoaaaGreatDoor
open Go.RowKit

/-- No row of it is long. -/
def TySm : Nat → Ty → Prop
  | 0, _ => True
  | m + 1, x => x.kids.length ≤ 2 ∧ ∀ y, y ∈ x.kids → TySm m y
/-- A row of pointers, as a slice of whatever make. -/
theorem row_viewT {H : Nat → Option Obj} {w : World} {t : TypeId} {v : Value} {bs : List Nat} (h : RowH H t v (ptrs bs)) (hz : Fz H w) :
    ∃ ao cp, v = .slice ao bs.length cp ∧ ∀ j c, bs[j]? = some c → ∃ gn, ao = some ⟨gn, 0, none⟩ ∧ w.cell? ⟨gn, j, none⟩ = some (.pointer (some ⟨c, 0, none⟩)) := by
  have lk : (ptrs bs).length = bs.length := by simp [ptrs]
  rcases h with ⟨rfl, h0⟩ | ⟨gn, cap, cur, h1, h2, h3⟩
  · have e : bs = [] := by
      cases bs with
      | nil => rfl
      | cons a l => simp [ptrs] at h0
    subst e
    exact ⟨none, 0, rfl, fun j c hc => by simp at hc⟩
  · refine ⟨some ⟨gn, 0, none⟩, cap, by rw [h1, lk], fun j c hc => ⟨gn, rfl, ?_⟩⟩
    have hb := hz _ _ h2
    have hj : j < bs.length := by
      rcases Nat.lt_or_ge j bs.length with h | h
      · exact h
      · rw [List.getElem?_eq_none h] at hc; cases hc
    have e : (ptrs bs)[j]? = some (.pointer (some ⟨c, 0, none⟩)) := by simp [ptrs, hc]
    rw [← h3, List.getElem?_take, if_pos (by rw [lk]; exact hj)] at e
    simp only [World.cell?, hb]
    simpa using e
theorem sum_take_le (l : List Nat) (j : Nat) : (l.take j).sum ≤ l.sum := by
  conv => rhs; rw [← List.take_append_drop j l, List.sum_append]
  omega

set_option maxRecDepth 100000 in
set_option maxHeartbeats 1000000 in
theorem size_any : ∀ (m : Nat) (H : Nat → Option Obj) (b : Nat) (x : Ty) (w : World), TRep m H b x → Fz H w → tySize m x ≤ 1000000 → TySm m x →
    Calls Tryz.prog 44 #[.pointer (some ⟨b, 0, none⟩)] w fun e w' => e = .returned (.int .i64 (tySize m x : Int)) ∧ w' = w := by
  intro m
  induction m with
  | zero => intro H b x w h; exact absurd h id
  | succ m ih =>
    intro H b x w h hz hd hs
    obtain ⟨ks, bs, h1, h3, h4, h5⟩ := h
    have hb := hz _ _ h1
    have c2 : w.cell? ⟨b, 2, none⟩ = some ks := by simp [World.cell?, hb]
    obtain ⟨ao, cp, hks, hrow⟩ := row_viewT h3 hz
    rw [hks] at c2
    have hlen : bs.length ≤ 2 := by rw [h4]; exact hs.1
    have HD := hid (show 1 + (x.kids.map (tySize m)).sum ≤ 1000000 from hd)
    have HS := hid hs
    have HROW := hid hrow
    have H5 := hid h5
    have HZ := hid hz
    have IH := hid ih
    have H4 := hid h4
    clear hd hs hrow h5 hz ih h1 h3 h4 hb hks
    go_enter Tryz.func44, Tryz.ntmps44
    go_wp2_with fail
    go_loopg [3, 11] (bs.length + 1) (fun gh v i wi => ∃ j k : Nat, j ≤ bs.length ∧ i = .int .i64 j ∧ gh = bs.length - j + 1 ∧ v = .int .i64 k ∧ k ≤ 1000000 ∧ Hid (k = 1 + ((x.kids.take j).map (tySize m)).sum) ∧ wi = w)
    case atStart => exact ⟨0, 1, by omega, rfl, by omega, rfl, by omega, rfl, rfl⟩
    case round =>
      obtain ⟨j, k, hj, rfl, hgj, rfl, hk, HKJ, rfl⟩ := hrel
      by_cases hjl : j < bs.length
      · obtain ⟨c, hc⟩ : ∃ c, bs[j]? = some c := ⟨bs[j], List.getElem?_eq_getElem hjl⟩
        obtain ⟨y, hy⟩ : ∃ y, x.kids[j]? = some y := ⟨x.kids[j]'(by rw [← H4.out]; exact hjl), List.getElem?_eq_getElem _⟩
        obtain ⟨gn, rfl, hcell⟩ := HROW.out j c hc
        have hry := H5.out j y c hc hy
        have hym : y ∈ x.kids := List.mem_of_getElem? hy
        have hstep : 1 + ((x.kids.take (j + 1)).map (tySize m)).sum = k + tySize m y := by
          rw [List.take_add_one, hy, List.map_append, List.sum_append, HKJ.out]
          simp
          omega
        have hle : k + tySize m y ≤ 1000000 := by
          have h1 := sum_take_le (x.kids.map (tySize m)) (j + 1)
          rw [← List.map_take] at h1
          have := HD.out
          omega
        have CON := hid (IH.out H c y wr hry HZ.out (by omega) (HS.out.2 y hym))
        obtain ⟨dy, hdy2⟩ : ∃ dy : Nat, dy = tySize m y := ⟨_, rfl⟩
        rw [← hdy2] at hstep CON hle
        have HST := hid hstep
        clear hc hy hry hym hstep hdy2
        go_wp2_with fail
        refine CON.out.mono ?_
        rintro e w' ⟨rfl, rfl⟩
        go_wp2_with fail
        go_roundg (bs.length - (j + 1) + 1)
        case measure => omega
        case rel => exact ⟨j + 1, k + dy, by omega, by go_num, rfl, by go_num, by omega, hid HST.out.symm, rfl⟩
      · have hje : j = bs.length := by omega
        subst hje
        have e : 1 + (x.kids.map (tySize m)).sum = k := by
          have := HKJ.out
          rw [H4.out, List.take_length] at this
          exact this.symm
        have HE := hid e
        clear e
        go_wp2
        go_ret
        refine ⟨?_, rfl⟩
        rw [tySize, HE.out]
        rfl
end Go.Proofs.YtcdijppegfcoaaaGreatDoor

/-
  OUR OWN TEXT. The plain reader of types: how far it goes, how many names it meets.
-/
namespace Go.Proofs.YtcdijppegfcoaaaGreatDoor
open Go.RowKit

theorem isS_ok {T : List Tok} {s : St} {k : List UInt8} (h : isS T s k = true) : s.bad < 0 := by
  unfold isS at h
  simp at h
  exact h.1
/-- need: it goes on by one, or something is wrong. -/
theorem needS_go (T : List Tok) (s : St) (k : List UInt8) : s.k ≤ (needS T s k).k ∧ (needS T s k).k ≤ s.k + 1 ∧ ((needS T s k).bad < 0 → s.bad < 0 ∧ (needS T s k).k = s.k + 1) := by
  unfold needS
  by_cases h : isS T s k = true
  · rw [if_pos h]
    exact ⟨by simp, by simp, fun _ => ⟨isS_ok h, rfl⟩⟩
  · rw [if_neg h]
    refine ⟨by simp, by simp, fun hb => ?_⟩
    exfalso
    by_cases h2 : s.bad < 0
    · simp only [if_pos h2] at hb
      omega
    · simp only [if_neg h2] at hb
      exact h2 hb
theorem numS_len (ns : List (List UInt8)) (n : List UInt8) : ns.length ≤ (numS ns n).2.length ∧ (numS ns n).2.length ≤ ns.length + 1 ∧ (numS ns n).1 < (numS ns n).2.length := by
  unfold numS
  by_cases h : n ∈ ns
  · rw [if_pos h]
    exact ⟨Nat.le_refl _, by simp, List.idxOf_lt_length_of_mem h⟩
  · rw [if_neg h]
    simp

/-- What is read: the reader goes on; a name is met once a step at most, and once where something is wrong. -/
def Went (ns : List (List UInt8)) (s : St) (ns' : List (List UInt8)) (s' : St) : Prop :=
  s.k ≤ s'.k ∧ ns.length ≤ ns'.length ∧ ns'.length + s.k ≤ ns.length + s'.k + 1 ∧ (s'.bad < 0 → ns'.length + s.k ≤ ns.length + s'.k ∧ s.k < s'.k)

theorem one_went {A : List (List UInt8) → St → Option (Ty × List (List UInt8) × St)} {T : List Tok} (hA : ∀ ns s t ns' s', s.bad < 0 → A ns s = some (t, ns', s') → Went ns s ns' s') {ns : List (List UInt8)} {s : St} {t : Ty} {ns' : List (List UInt8)} {s' : St} (hb : s.bad < 0)
    (h : oneS A T ns s = some (t, ns', s')) : Went ns s ns' s' := by
  unfold oneS at h
  by_cases h1 : isS T s kInt = true
  · rw [if_pos h1] at h
    cases h
    exact ⟨by simp [St.up], by simp, by simp [St.up]; omega, fun _ => ⟨by simp [St.up], by simp [St.up]⟩⟩
  rw [if_neg h1] at h
  by_cases h2 : isS T s kBool = true
  · rw [if_pos h2] at h
    cases h
    exact ⟨by simp [St.up], by simp, by simp [St.up]; omega, fun _ => ⟨by simp [St.up], by simp [St.up]⟩⟩
  rw [if_neg h2] at h
  have hu : s.up.k = s.k + 1 := rfl
  by_cases h3 : isS T s kSq = true
  · rw [if_pos h3] at h
    cases e : A ns s.up with
    | none => rw [e] at h; cases h
    | some r =>
      obtain ⟨x, n1, s1⟩ := r
      rw [e] at h
      cases h
      obtain ⟨w1, w2, w3, w4⟩ := hA _ _ _ _ _ (by exact hb) e
      obtain ⟨q1, q2, q3⟩ := needS_go T s1 kQs
      refine ⟨by omega, w2, by omega, fun hx => ?_⟩
      obtain ⟨hs1, hk⟩ := q3 hx
      have := w4 hs1
      omega
  rw [if_neg h3] at h
  by_cases h4 : isS T s kOpen = true
  · rw [if_pos h4] at h
    cases e : A ns s.up with
    | none => rw [e] at h; cases h
    | some r =>
      obtain ⟨x, n1, s1⟩ := r
      rw [e] at h
      obtain ⟨w1, w2, w3, w4⟩ := hA _ _ _ _ _ (by exact hb) e
      by_cases h5 : isS T s1 kComma = true
      · simp only [if_pos h5] at h
        have hu1 : s1.up.k = s1.k + 1 := rfl
        have hs1 := isS_ok h5
        have w5 := w4 hs1
        cases e2 : A n1 s1.up with
        | none => rw [e2] at h; cases h
        | some r2 =>
          obtain ⟨y, n2, s2⟩ := r2
          rw [e2] at h
          cases h
          obtain ⟨v1, v2, v3, v4⟩ := hA _ _ _ _ _ (by exact hs1) e2
          obtain ⟨q1, q2, q3⟩ := needS_go T s2 kShut
          refine ⟨by omega, by omega, by omega, fun hx => ?_⟩
          obtain ⟨hs2, hk⟩ := q3 hx
          have := v4 hs2
          omega
      · simp only [if_neg h5] at h
        cases h
        obtain ⟨q1, q2, q3⟩ := needS_go T s1 kShut
        refine ⟨by omega, w2, by omega, fun hx => ?_⟩
        obtain ⟨hs1, hk⟩ := q3 hx
        have := w4 hs1
        omega
  rw [if_neg h4] at h
  cases h
  obtain ⟨q1, q2, q3⟩ := needS_go T s kName
  obtain ⟨l1, l2, _⟩ := numS_len ns (tk T s.k).s
  refine ⟨q1, l1, by omega, fun hx => ?_⟩
  have := (q3 hx).2
  omega

theorem arr_went (T : List Tok) : ∀ (n : Nat) (ns : List (List UInt8)) (s : St) (t : Ty) (ns' : List (List UInt8)) (s' : St), s.bad < 0 → arrS T n ns s = some (t, ns', s') → Went ns s ns' s'
  | 0, _, _, _, _, _, _, h => by cases h
  | n + 1, ns, s, t, ns', s', hb, h => by
    unfold arrS at h
    cases e : oneS (arrS T n) T ns s with
    | none => rw [e] at h; cases h
    | some r =>
      obtain ⟨x, n1, s1⟩ := r
      rw [e] at h
      obtain ⟨w1, w2, w3, w4⟩ := one_went (arr_went T n) hb e
      by_cases h5 : isS T s1 kArrow = true
      · simp only [if_pos h5] at h
        have hu1 : s1.up.k = s1.k + 1 := rfl
        have hs1 := isS_ok h5
        have w5 := w4 hs1
        cases e2 : arrS T n n1 s1.up with
        | none => rw [e2] at h; cases h
        | some r2 =>
          obtain ⟨y, n2, s2⟩ := r2
          rw [e2] at h
          cases h
          obtain ⟨v1, v2, v3, v4⟩ := arr_went T n _ _ _ _ _ (by exact hs1) e2
          refine ⟨by omega, by omega, by omega, fun hx => ?_⟩
          have := v4 hx
          omega
      · simp only [if_neg h5] at h
        cases h
        exact ⟨w1, w2, w3, w4⟩
end Go.Proofs.YtcdijppegfcoaaaGreatDoor

/-
  OUR OWN TEXT. The plain reader of types ends.
-/
namespace Go.Proofs.YtcdijppegfcoaaaGreatDoor
open Go.RowKit

theorem one_tot {A : List (List UInt8) → St → Option (Ty × List (List UInt8) × St)} {T : List Tok} (hT : Wf T) {n : Nat} (hW : ∀ ns s t ns' s', s.bad < 0 → A ns s = some (t, ns', s') → Went ns s ns' s')
    (hA : ∀ ns s, s.bad < 0 → s.k < T.length → T.length - s.k < n → ∃ t ns' s', A ns s = some (t, ns', s') ∧ s'.k < T.length) (ns : List (List UInt8)) (s : St) (hb : s.bad < 0) (hk : s.k < T.length) (hn : T.length - s.k < n + 1) :
    ∃ t ns' s', oneS A T ns s = some (t, ns', s') ∧ s'.k < T.length := by
  have hu : s.up.k = s.k + 1 := rfl
  unfold oneS
  by_cases h1 : isS T s kInt = true
  · exact ⟨_, _, _, by rw [if_pos h1], hT.up hk h1 (by decide) (by decide)⟩
  rw [if_neg h1]
  by_cases h2 : isS T s kBool = true
  · exact ⟨_, _, _, by rw [if_pos h2], hT.up hk h2 (by decide) (by decide)⟩
  rw [if_neg h2]
  by_cases h3 : isS T s kSq = true
  · have hk1 := hT.up hk h3 (by decide) (by decide)
    obtain ⟨t, n1, s1, e, hs1⟩ := hA ns s.up hb hk1 (by omega)
    exact ⟨_, _, _, by rw [if_pos h3, e], hT.need hs1 (by decide) (by decide)⟩
  rw [if_neg h3]
  by_cases h4 : isS T s kOpen = true
  · have hk1 := hT.up hk h4 (by decide) (by decide)
    obtain ⟨t, n1, s1, e, hs1⟩ := hA ns s.up hb hk1 (by omega)
    have w1 := hW _ _ _ _ _ (show s.up.bad < 0 from hb) e
    rw [if_pos h4, e]
    by_cases h5 : isS T s1 kComma = true
    · have hk2 := hT.up hs1 h5 (by decide) (by decide)
      have hu1 : s1.up.k = s1.k + 1 := rfl
      have := w1.1
      obtain ⟨u, n2, s2, e2, hs2⟩ := hA n1 s1.up (show s1.bad < 0 from isS_ok h5) hk2 (by omega)
      exact ⟨⟨oPair, 0, [t, u]⟩, n2, needS T s2 kShut, by simp only [if_pos h5, e2], hT.need hs2 (by decide) (by decide)⟩
    · exact ⟨t, n1, needS T s1 kShut, by simp only [if_neg h5], hT.need hs1 (by decide) (by decide)⟩
  rw [if_neg h4]
  exact ⟨_, _, _, rfl, hT.need hk (by decide) (by decide)⟩

theorem arr_tot {T : List Tok} (hT : Wf T) : ∀ (n : Nat) (ns : List (List UInt8)) (s : St), s.bad < 0 → s.k < T.length → T.length - s.k < n → ∃ t ns' s', arrS T n ns s = some (t, ns', s') ∧ s'.k < T.length
  | 0, _, _, _, _, h => by omega
  | n + 1, ns, s, hb, hk, h => by
    obtain ⟨t, n1, s1, e, hs1⟩ := one_tot hT (arr_went T n) (arr_tot hT n) ns s hb hk h
    have w1 := one_went (arr_went T n) hb e
    unfold arrS
    rw [e]
    by_cases h5 : isS T s1 kArrow = true
    · have hk2 := hT.up hs1 h5 (by decide) (by decide)
      have hu1 : s1.up.k = s1.k + 1 := rfl
      have := w1.1
      obtain ⟨u, n2, s2, e2, hs2⟩ := arr_tot hT n n1 s1.up (show s1.bad < 0 from isS_ok h5) hk2 (by omega)
      exact ⟨⟨kFun, 0, [t, u]⟩, n2, s2, by simp only [if_pos h5, e2], hs2⟩
    · exact ⟨t, n1, s1, by simp only [if_neg h5], hs1⟩
end Go.Proofs.YtcdijppegfcoaaaGreatDoor

/-
  OUR OWN TEXT. What the plain reader of types makes: well made, and no greater than what was read.
-/
namespace Go.Proofs.YtcdijppegfcoaaaGreatDoor
open Go.RowKit

/-- A type that is well made, with variables below N. -/
def TyOk (N : Nat) : Nat → Ty → Prop
  | 0, _ => False
  | m + 1, t => (t.kind = [] ∧ t.var < N ∧ t.kids = []) ∨ ((t.kind = kInt ∨ t.kind = kBool) ∧ t.var = 0 ∧ t.kids = []) ∨
      (t.kind = oList ∧ t.var = 0 ∧ ∃ a, t.kids = [a] ∧ TyOk N m a) ∨ ((t.kind = oPair ∨ t.kind = kFun) ∧ t.var = 0 ∧ ∃ a b, t.kids = [a, b] ∧ TyOk N m a ∧ TyOk N m b)
theorem TyOk.up {N : Nat} : ∀ (m : Nat) (t : Ty), TyOk N m t → TyOk N (m + 1) t
  | 0, _, h => absurd h id
  | m + 1, t, h => by
    rcases h with h | h | ⟨h1, h2, a, h3, h4⟩ | ⟨h1, h2, a, b, h3, h4, h5⟩
    · exact Or.inl h
    · exact Or.inr (Or.inl h)
    · exact Or.inr (Or.inr (Or.inl ⟨h1, h2, a, h3, TyOk.up m a h4⟩))
    · exact Or.inr (Or.inr (Or.inr ⟨h1, h2, a, b, h3, TyOk.up m a h4, TyOk.up m b h5⟩))
theorem TyOk.le {N m m' : Nat} {t : Ty} (h : TyOk N m t) (hm : m ≤ m') : TyOk N m' t := by
  induction m' with
  | zero => rw [Nat.le_zero.1 hm] at h; exact h
  | succ m' ih =>
    rcases Nat.lt_or_ge m (m' + 1) with hlt | hge
    · exact TyOk.up m' t (ih (by omega))
    · rw [show m' + 1 = m from by omega]; exact h
theorem TyOk.wide {N N' : Nat} (hN : N ≤ N') : ∀ (m : Nat) (t : Ty), TyOk N m t → TyOk N' m t
  | 0, _, h => h
  | m + 1, t, h => by
    rcases h with ⟨h1, h2, h3⟩ | h | ⟨h1, h2, a, h3, h4⟩ | ⟨h1, h2, a, b, h3, h4, h5⟩
    · exact Or.inl ⟨h1, by omega, h3⟩
    · exact Or.inr (Or.inl h)
    · exact Or.inr (Or.inr (Or.inl ⟨h1, h2, a, h3, TyOk.wide hN m a h4⟩))
    · exact Or.inr (Or.inr (Or.inr ⟨h1, h2, a, b, h3, TyOk.wide hN m a h4, TyOk.wide hN m b h5⟩))
theorem TyOk.size {N : Nat} : ∀ (m m' : Nat) (t : Ty), TyOk N m t → m ≤ m' → tySize m' t = tySize m t
  | 0, _, _, h, _ => absurd h id
  | m + 1, 0, _, _, hm => by omega
  | m + 1, m' + 1, t, h, hm => by
    rcases h with ⟨h1, h2, h3⟩ | ⟨h1, h2, h3⟩ | ⟨h1, h2, a, h3, h4⟩ | ⟨h1, h2, a, b, h3, h4, h5⟩
    · simp [tySize, h3]
    · simp [tySize, h3]
    · simp [tySize, h3, TyOk.size m m' a h4 (by omega)]
    · simp [tySize, h3, TyOk.size m m' a h4 (by omega), TyOk.size m m' b h5 (by omega)]
theorem TyOk.sm {N : Nat} : ∀ (m : Nat) (t : Ty), TyOk N m t → TySm m t
  | 0, _, _ => trivial
  | m + 1, t, h => by
    rcases h with ⟨h1, h2, h3⟩ | ⟨h1, h2, h3⟩ | ⟨h1, h2, a, h3, h4⟩ | ⟨h1, h2, a, b, h3, h4, h5⟩
    · exact ⟨by simp [h3], by simp [h3]⟩
    · exact ⟨by simp [h3], by simp [h3]⟩
    · refine ⟨by simp [h3], fun y hy => ?_⟩
      rw [h3] at hy
      rw [List.mem_singleton.1 hy]
      exact TyOk.sm m a h4
    · refine ⟨by simp [h3], fun y hy => ?_⟩
      rw [h3] at hy
      rcases List.mem_cons.1 hy with rfl | hy
      · exact TyOk.sm m _ h4
      · rw [List.mem_singleton.1 hy]
        exact TyOk.sm m b h5

/-- What is read is well made, and of so many parts as tokens were taken. -/
def Made (t : Ty) (ns' : List (List UInt8)) (s s' : St) : Prop := ∃ m, TyOk ns'.length m t ∧ tySize m t + s.k ≤ s'.k + 1 ∧ (s'.bad < 0 → tySize m t + s.k ≤ s'.k)
theorem two_made {k : List UInt8} (hk : k = oPair ∨ k = kFun) {a b : Ty} {N m1 m2 : Nat} (h1 : TyOk N m1 a) (h2 : TyOk N m2 b) : ∃ m, TyOk N m ⟨k, 0, [a, b]⟩ ∧ tySize m ⟨k, 0, [a, b]⟩ = 1 + tySize m1 a + tySize m2 b := by
  refine ⟨max m1 m2 + 1, Or.inr (Or.inr (Or.inr ⟨hk, rfl, a, b, rfl, h1.le (Nat.le_max_left _ _), h2.le (Nat.le_max_right _ _)⟩)), ?_⟩
  simp [tySize, TyOk.size _ _ _ h1 (Nat.le_max_left m1 m2), TyOk.size _ _ _ h2 (Nat.le_max_right m1 m2)]
  omega

theorem one_made {A : List (List UInt8) → St → Option (Ty × List (List UInt8) × St)} {T : List Tok} (hW : ∀ ns s t ns' s', s.bad < 0 → A ns s = some (t, ns', s') → Went ns s ns' s') (hA : ∀ ns s t ns' s', s.bad < 0 → A ns s = some (t, ns', s') → Made t ns' s s') {ns : List (List UInt8)} {s : St} {t : Ty} {ns' : List (List UInt8)} {s' : St} (hb : s.bad < 0)
    (h : oneS A T ns s = some (t, ns', s')) : Made t ns' s s' := by
  have hu : s.up.k = s.k + 1 := rfl
  unfold oneS at h
  by_cases h1 : isS T s kInt = true
  · rw [if_pos h1] at h
    cases h
    exact ⟨1, Or.inr (Or.inl ⟨Or.inl rfl, rfl, rfl⟩), by simp [tySize]; omega, fun _ => by simp [tySize]; omega⟩
  rw [if_neg h1] at h
  by_cases h2 : isS T s kBool = true
  · rw [if_pos h2] at h
    cases h
    exact ⟨1, Or.inr (Or.inl ⟨Or.inr rfl, rfl, rfl⟩), by simp [tySize]; omega, fun _ => by simp [tySize]; omega⟩
  rw [if_neg h2] at h
  by_cases h3 : isS T s kSq = true
  · rw [if_pos h3] at h
    cases e : A ns s.up with
    | none => rw [e] at h; cases h
    | some r =>
      obtain ⟨x, n1, s1⟩ := r
      rw [e] at h
      cases h
      obtain ⟨m, w1, w2, w3⟩ := hA _ _ _ _ _ (show s.up.bad < 0 from hb) e
      obtain ⟨q1, q2, q3⟩ := needS_go T s1 kQs
      have ez : tySize (m + 1) ⟨oList, 0, [x]⟩ = 1 + tySize m x := by simp [tySize]
      refine ⟨m + 1, Or.inr (Or.inr (Or.inl ⟨rfl, rfl, x, rfl, w1⟩)), by omega, fun hx => ?_⟩
      have := w3 (q3 hx).1
      omega
  rw [if_neg h3] at h
  by_cases h4 : isS T s kOpen = true
  · rw [if_pos h4] at h
    cases e : A ns s.up with
    | none => rw [e] at h; cases h
    | some r =>
      obtain ⟨x, n1, s1⟩ := r
      rw [e] at h
      obtain ⟨m, w1, w2, w3⟩ := hA _ _ _ _ _ (show s.up.bad < 0 from hb) e
      by_cases h5 : isS T s1 kComma = true
      · simp only [if_pos h5] at h
        have hu1 : s1.up.k = s1.k + 1 := rfl
        have hs1 := isS_ok h5
        have w5 := w3 hs1
        cases e2 : A n1 s1.up with
        | none => rw [e2] at h; cases h
        | some r2 =>
          obtain ⟨y, n2, s2⟩ := r2
          rw [e2] at h
          cases h
          obtain ⟨m2, v1, v2, v3⟩ := hA _ _ _ _ _ (show s1.up.bad < 0 from hs1) e2
          have hw := hW _ _ _ _ _ (show s1.up.bad < 0 from hs1) e2
          obtain ⟨q1, q2, q3⟩ := needS_go T s2 kShut
          obtain ⟨m3, z1, z2⟩ := two_made (Or.inl rfl) (TyOk.wide hw.2.1 _ _ w1) v1
          refine ⟨m3, z1, by omega, fun hx => ?_⟩
          have := v3 (q3 hx).1
          omega
      · simp only [if_neg h5] at h
        cases h
        obtain ⟨q1, q2, q3⟩ := needS_go T s1 kShut
        refine ⟨m, w1, by omega, fun hx => ?_⟩
        have := w3 (q3 hx).1
        omega
  rw [if_neg h4] at h
  cases h
  obtain ⟨q1, q2, q3⟩ := needS_go T s kName
  obtain ⟨l1, l2, l3⟩ := numS_len ns (tk T s.k).s
  have ez : tySize 1 ⟨[], (numS ns (tk T s.k).s).1, []⟩ = 1 := by simp [tySize]
  refine ⟨1, Or.inl ⟨rfl, l3, rfl⟩, by omega, fun hx => ?_⟩
  have := (q3 hx).2
  omega

theorem arr_made (T : List Tok) : ∀ (n : Nat) (ns : List (List UInt8)) (s : St) (t : Ty) (ns' : List (List UInt8)) (s' : St), s.bad < 0 → arrS T n ns s = some (t, ns', s') → Made t ns' s s'
  | 0, _, _, _, _, _, _, h => by cases h
  | n + 1, ns, s, t, ns', s', hb, h => by
    unfold arrS at h
    cases e : oneS (arrS T n) T ns s with
    | none => rw [e] at h; cases h
    | some r =>
      obtain ⟨x, n1, s1⟩ := r
      rw [e] at h
      have w := one_made (arr_went T n) (arr_made T n) hb e
      by_cases h5 : isS T s1 kArrow = true
      · simp only [if_pos h5] at h
        obtain ⟨m, w1, w2, w3⟩ := w
        have hu1 : s1.up.k = s1.k + 1 := rfl
        have hs1 := isS_ok h5
        have w5 := w3 hs1
        cases e2 : arrS T n n1 s1.up with
        | none => rw [e2] at h; cases h
        | some r2 =>
          obtain ⟨y, n2, s2⟩ := r2
          rw [e2] at h
          cases h
          obtain ⟨m2, v1, v2, v3⟩ := arr_made T n _ _ _ _ _ (show s1.up.bad < 0 from hs1) e2
          have hw := arr_went T n _ _ _ _ _ (show s1.up.bad < 0 from hs1) e2
          obtain ⟨m3, z1, z2⟩ := two_made (Or.inr rfl) (TyOk.wide hw.2.1 _ _ w1) v1
          refine ⟨m3, z1, by omega, fun hx => ?_⟩
          have := v3 hx
          omega
      · simp only [if_neg h5] at h
        cases h
        exact w
end Go.Proofs.YtcdijppegfcoaaaGreatDoor

/-
  OUR OWN TEXT. The one text of a type on plain data: letters by the order in which variables stand; the same, gone along once with the variables met so far.
-/
namespace Go.Proofs.YtcdijppegfcoaaaGreatDoor
open Go.RowKit

/-- The n-th name of a variable (n below 260). -/
def letterS (n : Nat) : List UInt8 := [UInt8.ofNat (97 + n % 26)] ++ (if 25 < n then [UInt8.ofNat (48 + n / 26)] else [])
theorem letterS_len (n : Nat) : (letterS n).length ≤ 2 := by
  unfold letterS
  split <;> simp

/-- One above the greatest. -/
def mostS : List Nat → Nat
  | [] => 0
  | v :: l => max (v + 1) (mostS l)
theorem mostS_mem {l : List Nat} {v : Nat} (h : v ∈ l) : v < mostS l := by
  induction l with
  | nil => cases h
  | cons a l ih =>
    rcases List.mem_cons.1 h with rfl | h
    · simp only [mostS]; omega
    · have := ih h; simp only [mostS]; omega
theorem mostS_le {l : List Nat} {N : Nat} (h : ∀ v, v ∈ l → v < N) : mostS l ≤ N := by
  induction l with
  | nil => exact Nat.zero_le _
  | cons a l ih =>
    have h1 := h a (by simp)
    have h2 := ih fun v hv => h v (List.mem_cons_of_mem _ hv)
    simp only [mostS]; omega
theorem mostS_snoc (l : List Nat) (v : Nat) : mostS (l ++ [v]) = max (mostS l) (v + 1) := by
  induction l with
  | nil => simp [mostS]
  | cons a l ih => simp only [List.cons_append, mostS, ih]; omega

/-- The names of variables, by number, once so many have been named. -/
def namesTo (l : List Nat) (j : Nat) : List (List UInt8) := (List.range (mostS l)).map fun v => if v ∈ l.take j then letterS (l.idxOf v) else []
def canNames (l : List Nat) : List (List UInt8) := namesTo l l.length
theorem namesTo_len (l : List Nat) (j : Nat) : (namesTo l j).length = mostS l := by simp [namesTo]
theorem canNames_at {l : List Nat} {v : Nat} (h : v ∈ l) : (canNames l).getD v [] = letterS (l.idxOf v) := by
  have h1 := mostS_mem h
  simp [canNames, namesTo, List.getD, List.getElem?_map, List.getElem?_range h1, h]
theorem namesTo_step {l : List Nat} (hd : l.Nodup) {j v : Nat} (hv : l[j]? = some v) : namesTo l (j + 1) = (namesTo l j).set v (letterS j) := by
  have hj : j < l.length := by
    rcases Nat.lt_or_ge j l.length with h | h
    · exact h
    · rw [List.getElem?_eq_none h] at hv; cases hv
  have ev : l[j] = v := by rw [List.getElem?_eq_getElem hj] at hv; exact Option.some.inj hv
  have hix : l.idxOf v = j := by rw [← ev]; exact hd.idxOf_getElem j hj
  apply List.ext_getElem?
  intro i
  rw [List.getElem?_set]
  simp only [namesTo, List.getElem?_map, List.length_map, List.length_range]
  by_cases hi : i < mostS l
  · rw [List.getElem?_range hi]
    simp only [Option.map_some]
    by_cases e : v = i
    · subst e
      rw [if_pos rfl, if_pos hi]
      have hm : v ∈ l.take (j + 1) := by
        rw [List.take_add_one, hv]
        simp
      rw [if_pos hm, hix]
    · rw [if_neg e]
      have : (i ∈ l.take (j + 1)) ↔ (i ∈ l.take j) := by
        rw [List.take_add_one, hv]
        simp only [Option.toList_some, List.mem_append, List.mem_singleton]
        exact ⟨fun h => h.resolve_right (fun h => e h.symm), Or.inl⟩
      simp only [this]
  · rw [List.getElem?_eq_none (by simp; omega)]
    have hne : v ≠ i := fun e => hi (by rw [← e]; exact mostS_mem (by rw [← ev]; exact List.getElem_mem hj))
    rw [if_neg hne]
    rfl

theorem tyVars_pre : ∀ (n : Nat) (t : Ty) (l : List Nat), l <+: tyVars n t l
  | 0, _, l => List.prefix_refl l
  | n + 1, t, l => by
    rw [tyVars]
    split
    · split
      · exact List.prefix_refl l
      · exact List.prefix_append _ _
    · generalize t.kids = ks
      induction ks generalizing l with
      | nil => exact List.prefix_refl l
      | cons a ks ih => exact (tyVars_pre n a l).trans (ih _)
theorem tyVars_nodup : ∀ (n : Nat) (t : Ty) (l : List Nat), l.Nodup → (tyVars n t l).Nodup
  | 0, _, l, h => h
  | n + 1, t, l, h => by
    rw [tyVars]
    split
    · split
      · exact h
      · rename_i h1
        rw [List.nodup_append]
        exact ⟨h, by simp, fun a ha b hb e => h1 (by rw [← List.mem_singleton.1 hb, ← e]; exact ha)⟩
    · generalize t.kids = ks
      induction ks generalizing l with
      | nil => exact h
      | cons a ks ih => exact ih _ (tyVars_nodup n a l h)
theorem tyVars_lt {N : Nat} : ∀ (n : Nat) (t : Ty) (l : List Nat), TyOk N n t → (∀ v, v ∈ l → v < N) → ∀ v, v ∈ tyVars n t l → v < N
  | 0, _, _, h, _ => absurd h id
  | n + 1, t, l, h, hl => by
    rw [tyVars]
    rcases h with ⟨h1, h2, h3⟩ | ⟨h1, h2, h3⟩ | ⟨h1, h2, a, h3, h4⟩ | ⟨h1, h2, a, b, h3, h4, h5⟩
    · rw [if_pos h1]
      split
      · exact hl
      · intro v hv
        rcases List.mem_append.1 hv with hv | hv
        · exact hl v hv
        · rw [List.mem_singleton.1 hv]; exact h2
    · rw [if_neg (by rcases h1 with h1 | h1 <;> rw [h1] <;> decide), h3]; exact hl
    · rw [if_neg (by rw [h1]; decide), h3]
      exact tyVars_lt n a l h4 hl
    · rw [if_neg (by rcases h1 with h1 | h1 <;> rw [h1] <;> decide), h3]
      exact tyVars_lt n b _ h5 (tyVars_lt n a l h4 hl)
theorem tyVars_len {N : Nat} : ∀ (n : Nat) (t : Ty) (l : List Nat), TyOk N n t → (tyVars n t l).length ≤ l.length + tySize n t
  | 0, _, _, h => absurd h id
  | n + 1, t, l, h => by
    rw [tyVars, tySize]
    rcases h with ⟨h1, h2, h3⟩ | ⟨h1, h2, h3⟩ | ⟨h1, h2, a, h3, h4⟩ | ⟨h1, h2, a, b, h3, h4, h5⟩
    · rw [if_pos h1]
      split
      · omega
      · simp
    · rw [if_neg (by rcases h1 with h1 | h1 <;> rw [h1] <;> decide), h3]; simp
    · rw [if_neg (by rw [h1]; decide), h3]
      have := tyVars_len n a l h4
      simp
      omega
    · rw [if_neg (by rcases h1 with h1 | h1 <;> rw [h1] <;> decide), h3]
      have h6 := tyVars_len n a l h4
      have h7 := tyVars_len n b (tyVars n a l) h5
      simp
      omega

/-- The one text of a type. -/
def tyCanon (n : Nat) (t : Ty) : List UInt8 := tyText n (canNames (tyVars n t [])) t

/-- A type's text, gone along once: letters by the variables met so far, and those behind it. -/
def goS : Nat → Ty → List Nat → List UInt8 × List Nat
  | 0, _, l => ([], l)
  | n + 1, t, l =>
    if t.kind = [] then (letterS ((if t.var ∈ l then l else l ++ [t.var]).idxOf t.var), if t.var ∈ l then l else l ++ [t.var])
    else match t.kids with
      | [a] => ([91] ++ (goS n a l).1 ++ [93], (goS n a l).2)
      | [a, b] => (if t.kind = kFun then (if a.kind = kFun then [40] ++ (goS n a l).1 ++ [41] else (goS n a l).1) ++ [32, 45, 62, 32] ++ (goS n b (goS n a l).2).1
          else [40] ++ (goS n a l).1 ++ [44, 32] ++ (goS n b (goS n a l).2).1 ++ [41], (goS n b (goS n a l).2).2)
      | _ => (t.kind, l)
theorem idx_app (v : Nat) : ∀ (l r : List Nat), v ∈ l → (l ++ r).idxOf v = l.idxOf v
  | [], _, h => by cases h
  | a :: l, r, h => by
    rw [List.cons_append, List.idxOf_cons, List.idxOf_cons]
    by_cases e : a = v
    · simp [e]
    · have hb : (a == v) = false := beq_eq_false_iff_ne.2 e
      rw [hb]
      rcases List.mem_cons.1 h with h | h
      · exact absurd h.symm e
      · simp [idx_app v l r h]
theorem go_text {N : Nat} {L : List Nat} : ∀ (n : Nat) (t : Ty) (l : List Nat), TyOk N n t → tyVars n t l <+: L → goS n t l = (tyText n (canNames L) t, tyVars n t l)
  | 0, _, _, h, _ => absurd h id
  | n + 1, t, l, h, hp => by
    rcases h with ⟨h1, h2, h3⟩ | ⟨h1, h2, h3⟩ | ⟨h1, h2, a, h3, h4⟩ | ⟨h1, h2, a, b, h3, h4, h5⟩
    · have e : tyVars (n + 1) t l = if t.var ∈ l then l else l ++ [t.var] := by rw [tyVars, if_pos h1]
      have hm : t.var ∈ (if t.var ∈ l then l else l ++ [t.var]) := by
        split
        · assumption
        · simp
      rw [e] at hp ⊢
      obtain ⟨r, hr⟩ := hp
      have hi : L.idxOf t.var = (if t.var ∈ l then l else l ++ [t.var]).idxOf t.var := by
        rw [← hr, idx_app _ _ _ hm]
      rw [goS, if_pos h1, tyText, if_pos h1, canNames_at (by rw [← hr]; exact List.mem_append_left _ hm), hi]
    · have hk : t.kind ≠ [] := by rcases h1 with h1 | h1 <;> rw [h1] <;> decide
      rw [goS, if_neg hk, tyText, if_neg hk, tyVars, if_neg hk, h3]
      rfl
    · have hk : t.kind ≠ [] := by rw [h1]; decide
      have e : tyVars (n + 1) t l = tyVars n a l := by rw [tyVars, if_neg hk, h3]; rfl
      rw [e] at hp ⊢
      rw [goS, if_neg hk, tyText, if_neg hk, h3]
      simp only [go_text n a l h4 hp]
    · have hk : t.kind ≠ [] := by rcases h1 with h1 | h1 <;> rw [h1] <;> decide
      have e : tyVars (n + 1) t l = tyVars n b (tyVars n a l) := by rw [tyVars, if_neg hk, h3]; rfl
      rw [e] at hp ⊢
      have g1 := go_text n a l h4 ((tyVars_pre n b _).trans hp)
      have g2 := go_text n b _ h5 hp
      rw [goS, if_neg hk, tyText, if_neg hk, h3]
      simp only [g1, g2]
theorem go_canon {N n : Nat} {t : Ty} (h : TyOk N n t) : goS n t [] = (tyCanon n t, tyVars n t []) := go_text n t [] h (List.prefix_refl _)
theorem goS_len {N : Nat} : ∀ (n : Nat) (t : Ty) (l : List Nat), TyOk N n t → (goS n t l).1.length ≤ 8 * tySize n t
  | 0, _, _, h => absurd h id
  | n + 1, t, l, h => by
    rcases h with ⟨h1, h2, h3⟩ | ⟨h1, h2, h3⟩ | ⟨h1, h2, a, h3, h4⟩ | ⟨h1, h2, a, b, h3, h4, h5⟩
    · rw [goS, if_pos h1, tySize, h3]
      have := letterS_len ((if t.var ∈ l then l else l ++ [t.var]).idxOf t.var)
      simp only [List.map_nil, List.sum_nil]
      omega
    · have hk : t.kind ≠ [] := by rcases h1 with h1 | h1 <;> rw [h1] <;> decide
      rw [goS, if_neg hk, tySize, h3]
      rcases h1 with h1 | h1 <;> simp [h1, kInt, kBool]
    · have hk : t.kind ≠ [] := by rw [h1]; decide
      have := goS_len n a l h4
      rw [goS, if_neg hk, tySize, h3]
      simp
      omega
    · have hk : t.kind ≠ [] := by rcases h1 with h1 | h1 <;> rw [h1] <;> decide
      have h6 := goS_len n a l h4
      have h7 := goS_len n b (goS n a l).2 h5
      rw [goS, if_neg hk, tySize, h3]
      simp only
      split
      · split <;> simp <;> omega
      · simp; omega
end Go.Proofs.YtcdijppegfcoaaaGreatDoor

/-
  OUR OWN TEXT. typerref.in, typerref.vars.
-/
namespace Go.Proofs.YtcdijppegfcoaaaGreatDoor
open Go.RowKit

def ints (l : List Nat) : List Value := l.map fun (x : Nat) => .int .i64 (x : Int)
/-- A row of numbers of one's own, as a slice of whatever make. -/
theorem own_ints {w : World} {base : Nat} {v : Value} {l : List Nat} (h : w.ownsRow base 3 1 v l.length (ints l)) :
    ∃ ao cp, v = .slice ao l.length cp ∧ ∀ (j x : Nat), l[j]? = some x → ∃ gn, ao = some ⟨gn, 0, none⟩ ∧ base ≤ gn ∧ gn < w.heap.size ∧ w.cell? ⟨gn, j, none⟩ = some (.int .i64 (x : Int)) := by
  obtain ⟨_, h⟩ := h
  rcases h with ⟨rfl, h0⟩ | ⟨g, cap, cur, rfl, hg, hb, hcap, hcur, hz, hxs⟩
  · have e : l = [] := by cases l with
      | nil => rfl
      | cons a l => simp at h0
    subst e
    exact ⟨none, 0, rfl, fun j x hx => by simp at hx⟩
  · refine ⟨some ⟨g, 0, none⟩, cap, rfl, fun j x hx => ⟨g, rfl, hg, lt_of_block hb, ?_⟩⟩
    have hj : j < l.length := by
      rcases Nat.lt_or_ge j l.length with h | h
      · exact h
      · rw [List.getElem?_eq_none h] at hx; cases hx
    have e : (ints l)[j]? = some (.int .i64 (x : Int)) := by simp [ints, hx]
    rw [← hxs, List.getElem?_take, if_pos (by omega)] at e
    simp only [World.cell?, hb]
    simpa using e

set_option maxRecDepth 100000 in
set_option maxHeartbeats 1000000 in
theorem in_any (w : World) (ao : Option Addr) (cp : Nat) (l : List Nat) (n : Nat) (hl : l.length ≤ 1000000) (hrow : ∀ (j x : Nat), l[j]? = some x → ∃ gn, ao = some ⟨gn, 0, none⟩ ∧ w.cell? ⟨gn, j, none⟩ = some (.int .i64 (x : Int))) :
    Calls Tryz.prog 82 #[.slice ao l.length cp, .int .i64 (n : Int)] w fun e w' => e = .returned (.bool (decide (n ∈ l))) ∧ w' = w := by
  have HROW := hid hrow
  clear hrow
  go_enter Tryz.func82, Tryz.ntmps82
  go_wp2_with fail
  go_loopg [9] (l.length + 1) (fun gh i wi => ∃ j : Nat, j ≤ l.length ∧ i = .int .i64 j ∧ gh = l.length - j + 1 ∧ wi = w ∧ Hid (n ∉ l.take j))
  case atStart => exact ⟨0, by omega, rfl, by omega, rfl, hid (by simp)⟩
  case round =>
    obtain ⟨j, hj, rfl, hgj, rfl, HN⟩ := hrel
    by_cases hjl : j < l.length
    · obtain ⟨x, hx⟩ : ∃ x, l[j]? = some x := ⟨l[j], List.getElem?_eq_getElem hjl⟩
      obtain ⟨gn, rfl, hcell⟩ := HROW.out j x hx
      have HX := hid hx
      clear hx
      by_cases hA : x = n
      · subst hA
        have h1 : (((x : Nat) : Int) == ((x : Nat) : Int)) = true := beq_self_eq_true _
        go_wp2
        go_ret
        exact ⟨by rw [decide_eq_true (List.mem_of_getElem? HX.out)]; rfl, rfl⟩
      · have h1 : (((x : Nat) : Int) == ((n : Nat) : Int)) = false := beq_eq_false_iff_ne.2 (by omega)
        have h2 : ¬ ((x : Nat) : Int) = ((n : Nat) : Int) := by omega
        have HN2 := hid (show n ∉ l.take (j + 1) from fun hm => by
          rw [List.take_add_one, HX.out] at hm
          rcases List.mem_append.1 hm with hm | hm
          · exact HN.out hm
          · simp at hm; exact hA hm.symm)
        clear hA
        go_wp2
        go_roundg (l.length - (j + 1) + 1)
        case measure => omega
        case rel => exact ⟨j + 1, by omega, by go_num, rfl, rfl, HN2⟩
    · have hje : j = l.length := by omega
      subst hje
      have HN2 := hid (show n ∉ l by have := HN.out; rwa [List.take_length] at this)
      clear HN
      go_wp2
      go_ret
      exact ⟨by rw [decide_eq_false HN2.out]; rfl, rfl⟩

/-- What vars leaves. -/
def VarsPost (base : Nat) (H : Nat → Option Obj) (w w' : World) (e : Ending) (l : List Nat) : Prop :=
  ∃ v, e = .returned v ∧ w'.ownsRow base 3 1 v l.length (ints l) ∧ Fz H w' ∧ Below base w w' ∧ ∀ k, some k = v.ownBlock → H k = none
theorem info_int : (Tryz.prog.info? 3).map (fun i => (i.zero, i.size, i.bytes)) = some (some (.int .i64 0), 1, 8) := by kernel_rfl
theorem vars_len_le (n : Nat) (t : Ty) (l : List Nat) : l.length ≤ (tyVars n t l).length := (tyVars_pre n t l).length_le
/-- A number more. -/
theorem own_more {w w1 : World} {base : Nat} {H : Nat → Option Obj} {v : Value} {l : List Nat} (hown : w.ownsRow base 3 1 v l.length (ints l)) (hz : Fz H w) (hb : base ≤ w.heap.size) (hn : ∀ k, some k = v.ownBlock → H k = none) {x : Nat} {o : Obj} {g cap : Nat}
    (hown1 : w1.ownsRow base 3 1 (.slice (some ⟨g, 0, none⟩) (l.length + 1) cap) (l.length + 1) (ints l ++ [.int .i64 (x : Int)])) (hg : (w.alloc o).grownBy w1 v.ownBlock) (hat : v.ownBlock = some g ∨ g = w.heap.size + 1) :
    VarsPost base H w w1 (.returned (.slice (some ⟨g, 0, none⟩) (l.length + 1) cap)) (l ++ [x]) := by
  have same : ∀ k, k < w.heap.size → some k ≠ v.ownBlock → w1.heap[k]? = w.heap[k]? := fun k h1 h2 => by
    rw [hg.block k (by simp; omega) h2, Below.heap_alloc _ _ _ h1]
  refine ⟨_, rfl, ?_, fun k o' e => ?_, ⟨hg.os, hg.tape, hg.output, Nat.le_trans (by simp) hg.size, fun k hk => ?_⟩, fun k e => ?_⟩
  · have e1 : (l ++ [x]).length = l.length + 1 := by simp
    have e2 : ints (l ++ [x]) = ints l ++ [.int .i64 (x : Int)] := by simp [ints]
    rw [e1, e2]
    exact hown1
  · rw [same k (hz.lt e) (fun e' => by rw [hn k e'] at e; cases e)]
    exact hz k o' e
  · exact same k (by omega) (fun e => by have := (own_lt hown e).1; omega)
  · simp only [Value.ownBlock, Option.some.injEq] at e
    rw [e]
    rcases hat with h | h
    · exact hn g h.symm
    · rw [h]; exact hz.none (by omega)

set_option maxRecDepth 100000 in
set_option maxHeartbeats 2000000 in
theorem vars_any : ∀ (m : Nat) (H : Nat → Option Obj) (b : Nat) (x : Ty) (w : World) (base : Nat) (v : Value) (l : List Nat), TRep m H b x → Fz H w → w.ownsRow base 3 1 v l.length (ints l) → (∀ k, some k = v.ownBlock → H k = none) → base ≤ w.heap.size →
    TySm m x → (tyVars m x l).length ≤ 100000 → Calls Tryz.prog 45 #[.pointer (some ⟨b, 0, none⟩), v] w fun e w' => VarsPost base H w w' e (tyVars m x l) := by
  intro m
  induction m with
  | zero => intro H b x w base v l h; exact absurd h id
  | succ m ih =>
    intro H b x w base v l h hz hown hn hb hs hlen
    have hl0 := vars_len_le (m + 1) x l
    obtain ⟨ks, bs, h1, h3, h4, h5⟩ := h
    have hblk := hz _ _ h1
    have c0 : w.cell? ⟨b, 0, none⟩ = some (.string (B x.kind)) := by simp [World.cell?, hblk]
    have c1 : w.cell? ⟨b, 1, none⟩ = some (.int .i64 (x.var : Int)) := by simp [World.cell?, hblk]
    have c2 : w.cell? ⟨b, 2, none⟩ = some ks := by simp [World.cell?, hblk]
    by_cases hk : x.kind = []
    · have o0 : ((B x.kind).toList == ([] : List UInt8)) = true := by rw [toList_B, hk]; rfl
      have e : tyVars (m + 1) x l = if x.var ∈ l then l else l ++ [x.var] := by rw [tyVars, if_pos hk]
      rw [e] at hlen hl0 ⊢
      obtain ⟨ao, cp, rfl, hrow⟩ := own_ints hown
      have CIN := hid (in_any w ao cp l x.var (by omega) (fun j y hy => by obtain ⟨gn, q1, _, _, q4⟩ := hrow j y hy; exact ⟨gn, q1, q4⟩))
      have Q := hid (And.intro hz (And.intro hown (And.intro hn hb)))
      generalize x.kind = kd at *
      clear hs h1 h3 h4 h5 hblk c2 hk e ih hrow hz hn hb
      by_cases hm : x.var ∈ l
      · rw [if_pos hm]
        have hd : decide (x.var ∈ l) = true := decide_eq_true hm
        rw [hd] at CIN
        clear hm hlen hl0 hd
        go_enter Tryz.func45, Tryz.ntmps45
        go_wp2_with fail
        refine CIN.out.mono ?_
        rintro e w1 ⟨rfl, rfl⟩
        clear CIN
        go_wp2
        go_ret
        obtain ⟨hz, hown, hn, hb⟩ := Q.out
        exact ⟨_, rfl, hown, hz, Below.refl _ _, hn⟩
      · rw [if_neg hm] at hlen ⊢
        have hd : decide (x.var ∈ l) = false := decide_eq_false hm
        rw [hd] at CIN
        have hlen' : l.length + 1 ≤ 100000 := by simpa using hlen
        clear hm hlen hl0 hd
        go_enter Tryz.func45, Tryz.ntmps45
        go_wp2_with fail
        refine CIN.out.mono ?_
        rintro e w1 ⟨rfl, rfl⟩
        clear CIN
        obtain ⟨i0, hi, hz0, hz1, hz2⟩ := info_parts info_int
        go_wp2_with (at_builtin; refine wpList_append_lies _ rfl (.tmp 19) (.tmp 24) 90 rfl base 3 i0 (.int .i64 0) 1 8 Tryz.underlying90 hi hz0 hz1 hz2 rfl (by decide) _ _ _ rfl (hown.alloc _) ⟨w1.heap.size, 0, none⟩ 1 1 [.int .i64 (x.var : Int)] rfl rfl ?d1 ?d2 (by decide) ?d3 ?d4 ?d5 (w1.heap.size + 1) ?d6 ?_)
        case d1 => exact one_new _ _ _
        case d2 => exact ints_oneCell .i64 [(x.var : Int)]
        case d3 => unfold maxLen; omega
        case d4 => omega
        case d5 => have := Q.out.2.2.2; simp; omega
        case d6 => simp
        intro g2 cap2 w6 hown6 hgrow6 hat6 _
        have A6 := hid (And.intro hown6 (And.intro hgrow6 hat6))
        clear hown6 hgrow6 hat6
        all_goals
          go_wp2
          go_ret
          obtain ⟨hz, hown, hn, hb⟩ := Q.out
          exact own_more hown hz hb hn A6.out.1 A6.out.2.1 A6.out.2.2
    · have o0 : ((B x.kind).toList == ([] : List UInt8)) = false := by rw [toList_B]; exact beq_eq_false_iff_ne.2 hk
      have e : tyVars (m + 1) x l = x.kids.foldl (fun l y => tyVars m y l) l := by rw [tyVars, if_neg hk]
      rw [e] at hlen hl0 ⊢
      obtain ⟨ao, cp, hks, hrow⟩ := row_viewT h3 hz
      rw [hks] at c2
      have hlen2 : bs.length ≤ 2 := by rw [h4]; exact hs.1
      have HS := hid hs
      have H3 := hid h3
      have H5 := hid h5
      have IH := hid ih
      have H4 := hid h4
      have HL := hid hlen
      have HKS := hid hks
      have Q0 := hid (show VarsPost base H w w (.returned v) l from ⟨v, rfl, hown, hz, Below.refl _ _, hn⟩)
      have hkb := hz.lt h1
      have H1 := hid h1
      generalize x.kind = kd at *
      clear hs hrow h1 h3 h4 h5 hblk ih hz hown hn hl0 hlen hk e hks
      go_enter Tryz.func45, Tryz.ntmps45
      go_wp2_with fail
      go_loopg [1, 31] (bs.length + 1) (fun gh v i wi => ∃ j : Nat, j ≤ bs.length ∧ i = .int .i64 j ∧ gh = bs.length - j + 1 ∧ base ≤ wi.heap.size ∧ Hid (VarsPost base H w wi (.returned v) ((x.kids.take j).foldl (fun l y => tyVars m y l) l)))
      case atStart => exact ⟨0, by omega, rfl, by omega, hb, Q0⟩
      case round =>
        obtain ⟨j, hj, rfl, hgj, hbw, HV⟩ := hrel
        obtain ⟨v', e', hown, hz, hbel, hn⟩ := HV.out
        cases e'
        by_cases hjl : j < bs.length
        · obtain ⟨c, hc⟩ : ∃ c, bs[j]? = some c := ⟨bs[j], List.getElem?_eq_getElem hjl⟩
          obtain ⟨y, hy⟩ : ∃ y, x.kids[j]? = some y := ⟨x.kids[j]'(by rw [← H4.out]; exact hjl), List.getElem?_eq_getElem _⟩
          obtain ⟨ao', cp', hks', hrow'⟩ := row_viewT H3.out hz
          rw [HKS.out] at hks'
          cases hks'
          obtain ⟨gn, rfl, hcell⟩ := hrow' j c hc
          have hry := H5.out j y c hc hy
          have hym : y ∈ x.kids := List.mem_of_getElem? hy
          have hst : (x.kids.take (j + 1)).foldl (fun l y => tyVars m y l) l = tyVars m y ((x.kids.take j).foldl (fun l y => tyVars m y l) l) := by
            rw [List.take_add_one, hy, List.foldl_append]; rfl
          have hle : (tyVars m y ((x.kids.take j).foldl (fun l y => tyVars m y l) l)).length ≤ 100000 := by
            have hh : ∀ (ks : List Ty) (l : List Nat), l.length ≤ (ks.foldl (fun l y => tyVars m y l) l).length := by
              intro ks
              induction ks with
              | nil => intro l; exact Nat.le_refl _
              | cons a ks ih => intro l; exact Nat.le_trans (vars_len_le m a l) (ih _)
            rw [← hst]
            have := hh (x.kids.drop (j + 1)) ((x.kids.take (j + 1)).foldl (fun l y => tyVars m y l) l)
            rw [← List.foldl_append, List.take_append_drop] at this
            have := HL.out
            omega
          have CON := hid (IH.out H c y wr base _ _ hry hz hown hn hbw (HS.out.2 y hym) hle)
          have HST := hid hst
          have HB := hid hbel
          clear hc hy hry hym hst hle hown hz hbel hn HV hrow'
          go_wp2_with fail
          refine CON.out.mono ?_
          rintro e w1 ⟨v1, rfl, hown, hz, hbel, hn⟩
          have hbw1 : base ≤ w1.heap.size := Nat.le_trans hbw hbel.size
          have V1 := hid (show VarsPost base H w w1 (.returned v1) ((x.kids.take (j + 1)).foldl (fun l y => tyVars m y l) l) from ⟨v1, rfl, by rw [HST.out]; exact hown, hz, HB.out.trans hbel, hn⟩)
          clear hown hz hbel hn CON HST HB
          go_wp2_with fail
          go_roundg (bs.length - (j + 1) + 1)
          case measure => omega
          case rel => exact ⟨j + 1, by omega, by go_num, rfl, hbw1, V1⟩
        · have hje : j = bs.length := by omega
          subst hje
          clear hown hz hbel hn
          have hfin := HV.out
          rw [H4.out, List.take_length] at hfin
          have HF := hid hfin
          clear HV hfin
          go_wp2
          go_ret
          exact HF.out
end Go.Proofs.YtcdijppegfcoaaaGreatDoor

/-
  OUR OWN TEXT. typerref.figures (below ten), typerref.Letter.
-/
namespace Go.Proofs.YtcdijppegfcoaaaGreatDoor
open Go.RowKit

theorem conv_one (w : World) (t : TypeId) (b : UInt8) : (convert 153 9 (.slice (some ⟨w.heap.size, 0, none⟩) 1 1)).run Tryz.prog (w.alloc (.cells #[.int .u8 (b.toNat : Int)] t)) = .ok (.string (B [b])) (w.alloc (.cells #[.int .u8 (b.toNat : Int)] t)) := by
  refine run_convert_bytes_back (w.alloc (.cells #[.int .u8 (b.toNat : Int)] t)) 153 9 5 ⟨w.heap.size, 0, none⟩ 1 [b] Tryz.underlying153 Tryz.underlying5 Tryz.underlying9 ?_
  intro j hj
  match j, hj with
  | 0, _ => simp [go_sem, Addr.add]

set_option maxRecDepth 100000 in
set_option maxHeartbeats 1000000 in
theorem figures_one (w : World) (n : Nat) (hn : n < 10) :
    Calls Tryz.prog 83 #[.int .i64 (n : Int)] w fun e w' => e = .returned (.string (B [UInt8.ofNat (48 + n)])) ∧ w.grownBy w' none := by
  have h1 : ((n : Nat) : Int) < 10 := by omega
  obtain ⟨b, hb⟩ : ∃ b, b = UInt8.ofNat (48 + n) := ⟨_, rfl⟩
  rw [← hb]
  have hbn : (b.toNat : Int) = 48 + (n : Int) := by
    rw [hb, UInt8.toNat_ofNat']
    omega
  have hc := conv_one w 5 b
  rw [hbn] at hc
  clear hb hbn
  go_enter Tryz.func83, Tryz.ntmps83
  go_wp2
  go_ret
  exact ⟨rfl, World.grownBy_alloc _ _ _⟩

set_option maxRecDepth 100000 in
set_option maxHeartbeats 1000000 in
theorem letter_any (w : World) (n : Nat) (hn : n < 260) :
    Calls Tryz.prog 46 #[.int .i64 (n : Int)] w fun e w' => e = .returned (.string (B (letterS n))) ∧ w.grownBy w' none := by
  obtain ⟨b, hb⟩ : ∃ b, b = UInt8.ofNat (97 + n % 26) := ⟨_, rfl⟩
  have hbn : (b.toNat : Int) = 97 + (n : Int) % 26 := by
    rw [hb, UInt8.toNat_ofNat']
    omega
  have hc := conv_one w 5 b
  rw [hbn] at hc
  have hm : (n : Int).tmod 26 = (n : Int) % 26 := Int.tmod_eq_emod_of_nonneg (by omega)
  have hq : (n : Int).tdiv 26 = ((n / 26 : Nat) : Int) := by rw [Int.tdiv_eq_ediv_of_nonneg (by omega)]; omega
  have hr0 : 0 ≤ (n : Int) % 26 := by omega
  have hr1 : (n : Int) % 26 < 26 := by omega
  by_cases h25 : 25 < n
  · have e : letterS n = [b] ++ [UInt8.ofNat (48 + n / 26)] := by unfold letterS; rw [if_pos h25, hb]
    rw [e]
    have h25' : (25 : Int) < (n : Int) := by omega
    have HF := hid (figures_one (w.alloc (.cells #[.int .u8 (97 + (n : Int) % 26)] 5)) (n / 26) (by omega))
    generalize UInt8.ofNat (48 + n / 26) = b2 at *
    clear hb hbn e
    have sz1 : (B [b]).size = 1 := rfl
    have sz2 : (B [b2]).size = 1 := rfl
    go_enter Tryz.func46, Tryz.ntmps46
    go_wp2_with (go_at_call 83; refine HF.out.mono ?_; rintro e w1 ⟨rfl, g1⟩; have G1 := hid g1; clear g1)
    go_ret
    refine ⟨?_, (World.grownBy_alloc _ _ _).trans G1.out⟩
    show Ending.returned (.string (B [b] ++ B [b2])) = _
    rw [append_B]
    rfl
  · have e : letterS n = [b] := by unfold letterS; rw [if_neg h25, hb]; rfl
    rw [e]
    have h25' : ¬ (25 : Int) < (n : Int) := by omega
    clear hb hbn e
    go_enter Tryz.func46, Tryz.ntmps46
    go_wp2
    go_ret
    exact ⟨rfl, World.grownBy_alloc _ _ _⟩
end Go.Proofs.YtcdijppegfcoaaaGreatDoor

/-
  OUR OWN TEXT (written by mkshown.py). typerref.Shown.
-/
namespace Go.Proofs.YtcdijppegfcoaaaGreatDoor
open Go.RowKit

/-- What Shown answers of a part, in whatever world has drawn more. -/
def SH (w : World) (ns : Value) (c : Nat) (t : List UInt8) : Prop := ∀ n, Calls Tryz.prog 23 #[.pointer (some ⟨c, 0, none⟩), ns] (w.drewN n) fun e w' => e = .returned (.string (B t)) ∧ ∃ q, w' = (w.drewN n).drewN q
def tyOpen : List UInt8 := [40]
def tyShut : List UInt8 := [41]
def tyComma : List UInt8 := [44, 32]
def tySq : List UInt8 := [91]
def tyQs : List UInt8 := [93]
def tyArr : List UInt8 := [32, 45, 62, 32]

theorem tyText_len (ns : List (List UInt8)) (h10 : ∀ (j : Nat) (c : List UInt8), ns[j]? = some c → c.length ≤ 10) {N : Nat} : ∀ (n : Nat) (t : Ty), TyOk N n t → (tyText n ns t).length ≤ 20 * tySize n t
  | 0, _, h => absurd h id
  | n + 1, t, h => by
    rcases h with ⟨h1, h2, h3⟩ | ⟨h1, h2, h3⟩ | ⟨h1, h2, a, h3, h4⟩ | ⟨h1, h2, a, b, h3, h4, h5⟩
    · rw [tyText, if_pos h1, tySize, h3]
      have : (ns.getD t.var []).length ≤ 10 := by
        rw [List.getD]
        cases e : ns[t.var]? with
        | none => simp
        | some c => simpa using h10 _ _ e
      simp only [List.map_nil, List.sum_nil]
      omega
    · have hk : t.kind ≠ [] := by rcases h1 with h1 | h1 <;> rw [h1] <;> decide
      rw [tyText, if_neg hk, tySize, h3]
      rcases h1 with h1 | h1 <;> simp [h1, kInt, kBool]
    · have hk : t.kind ≠ [] := by rw [h1]; decide
      have := tyText_len ns h10 n a h4
      rw [tyText, if_neg hk, tySize, h3]
      simp
      omega
    · have hk : t.kind ≠ [] := by rcases h1 with h1 | h1 <;> rw [h1] <;> decide
      have h6 := tyText_len ns h10 n a h4
      have h7 := tyText_len ns h10 n b h5
      rw [tyText, if_neg hk, tySize, h3]
      simp only
      split
      · split <;> simp <;> omega
      · simp; omega

set_option maxRecDepth 100000 in
set_option maxHeartbeats 2000000 in
theorem shown_list (w : World) (b gk ck c0 : Nat) (t0 : List UInt8) (vr : Int) (ns : Value) (hb : w.heap[b]? = some (.cells #[.string (B oList), .int .i64 vr, .slice (some ⟨gk, 0, none⟩) 1 ck] 103 (0, 0))) (hk0 : w.cell? ⟨gk, 0, none⟩ = some (.pointer (some ⟨c0, 0, none⟩))) (ih0 : SH w ns c0 t0) (hl0 : t0.length ≤ 1000000000) :
    Calls Tryz.prog 23 #[.pointer (some ⟨b, 0, none⟩), ns] w fun e w' => e = .returned (.string (B (tySq ++ t0 ++ tyQs))) ∧ ∃ q, w' = w.drewN q := by
  have c0' : w.cell? ⟨b, 0, none⟩ = some (.string (B oList)) := by simp [World.cell?, hb]
  have c1' : w.cell? ⟨b, 1, none⟩ = some (.int .i64 vr) := by simp [World.cell?, hb]
  have c2' : w.cell? ⟨b, 2, none⟩ = some (.slice (some ⟨gk, 0, none⟩) 1 ck) := by simp [World.cell?, hb]
  have o0 : ((B oList).toList == ([] : List UInt8)) = false := by rw [toList_B]; decide
  have o1 : ((B oList).toList == ([108, 105, 115, 116] : List UInt8)) = true := by rw [toList_B]; decide
  have sz0 : (B t0).size ≤ 1000000000 := by rw [size_B]; exact hl0
  have IH0 := hid ih0
  clear hb ih0
  go_enter Tryz.func23, Tryz.ntmps23
  go_wp2_with fail
  refine (IH0.out 0).mono ?_
  rintro e w1 ⟨rfl, q1, rfl⟩
  go_wp2
  go_ret
  refine ⟨?_, _, rfl⟩
  show Ending.returned (.string (B tySq ++ B t0 ++ B tyQs)) = _
  rw [append_B, append_B]

set_option maxRecDepth 100000 in
set_option maxHeartbeats 2000000 in
theorem shown_pair (w : World) (b gk ck c0 c1 : Nat) (t0 t1 : List UInt8) (vr : Int) (ns : Value) (hb : w.heap[b]? = some (.cells #[.string (B oPair), .int .i64 vr, .slice (some ⟨gk, 0, none⟩) 2 ck] 103 (0, 0))) (hk0 : w.cell? ⟨gk, 0, none⟩ = some (.pointer (some ⟨c0, 0, none⟩))) (hk1 : w.cell? ⟨gk, 1, none⟩ = some (.pointer (some ⟨c1, 0, none⟩))) (ih0 : SH w ns c0 t0) (hl0 : t0.length ≤ 1000000000) (ih1 : SH w ns c1 t1) (hl1 : t1.length ≤ 1000000000) :
    Calls Tryz.prog 23 #[.pointer (some ⟨b, 0, none⟩), ns] w fun e w' => e = .returned (.string (B (tyOpen ++ t0 ++ tyComma ++ t1 ++ tyShut))) ∧ ∃ q, w' = w.drewN q := by
  have c0' : w.cell? ⟨b, 0, none⟩ = some (.string (B oPair)) := by simp [World.cell?, hb]
  have c1' : w.cell? ⟨b, 1, none⟩ = some (.int .i64 vr) := by simp [World.cell?, hb]
  have c2' : w.cell? ⟨b, 2, none⟩ = some (.slice (some ⟨gk, 0, none⟩) 2 ck) := by simp [World.cell?, hb]
  have o0 : ((B oPair).toList == ([] : List UInt8)) = false := by rw [toList_B]; decide
  have o1 : ((B oPair).toList == ([108, 105, 115, 116] : List UInt8)) = false := by rw [toList_B]; decide
  have o2 : ((B oPair).toList == ([112, 97, 105, 114] : List UInt8)) = true := by rw [toList_B]; decide
  have sz0 : (B t0).size ≤ 1000000000 := by rw [size_B]; exact hl0
  have IH0 := hid ih0
  have sz1 : (B t1).size ≤ 1000000000 := by rw [size_B]; exact hl1
  have IH1 := hid ih1
  clear hb ih0 ih1
  go_enter Tryz.func23, Tryz.ntmps23
  go_wp2_with fail
  go_quiet ((first | (go_at_call_of 23 (Value.pointer (some ⟨c0, 0, none⟩)); exact Calls.quiet_of (IH0.out _)) | (go_at_call_of 23 (Value.pointer (some ⟨c1, 0, none⟩)); exact Calls.quiet_of (IH1.out _))))
  go_wp2
  go_ret
  refine ⟨?_, _, rfl⟩
  show Ending.returned (.string (B tyOpen ++ B t0 ++ B tyComma ++ B t1 ++ B tyShut)) = _
  rw [append_B, append_B, append_B, append_B]

set_option maxRecDepth 100000 in
set_option maxHeartbeats 2000000 in
theorem shown_fun (w : World) (b gk ck c0 c1 : Nat) (t0 t1 : List UInt8) (k0 : List UInt8) (vr : Int) (ns : Value) (hb : w.heap[b]? = some (.cells #[.string (B kFun), .int .i64 vr, .slice (some ⟨gk, 0, none⟩) 2 ck] 103 (0, 0))) (hk0 : w.cell? ⟨gk, 0, none⟩ = some (.pointer (some ⟨c0, 0, none⟩))) (hk1 : w.cell? ⟨gk, 1, none⟩ = some (.pointer (some ⟨c1, 0, none⟩))) (ih0 : SH w ns c0 t0) (hl0 : t0.length ≤ 1000000000) (ih1 : SH w ns c1 t1) (hl1 : t1.length ≤ 1000000000) (d0 : w.cell? ⟨c0, 0, none⟩ = some (.string (B k0))) (hk0' : k0 ≠ kFun) :
    Calls Tryz.prog 23 #[.pointer (some ⟨b, 0, none⟩), ns] w fun e w' => e = .returned (.string (B (t0 ++ tyArr ++ t1))) ∧ ∃ q, w' = w.drewN q := by
  have c0' : w.cell? ⟨b, 0, none⟩ = some (.string (B kFun)) := by simp [World.cell?, hb]
  have c1' : w.cell? ⟨b, 1, none⟩ = some (.int .i64 vr) := by simp [World.cell?, hb]
  have c2' : w.cell? ⟨b, 2, none⟩ = some (.slice (some ⟨gk, 0, none⟩) 2 ck) := by simp [World.cell?, hb]
  have o0 : ((B kFun).toList == ([] : List UInt8)) = false := by rw [toList_B]; decide
  have o1 : ((B kFun).toList == ([108, 105, 115, 116] : List UInt8)) = false := by rw [toList_B]; decide
  have o2 : ((B kFun).toList == ([112, 97, 105, 114] : List UInt8)) = false := by rw [toList_B]; decide
  have o3 : ((B kFun).toList == ([102, 117, 110] : List UInt8)) = true := by rw [toList_B]; decide
  have sz0 : (B t0).size ≤ 1000000000 := by rw [size_B]; exact hl0
  have IH0 := hid ih0
  have sz1 : (B t1).size ≤ 1000000000 := by rw [size_B]; exact hl1
  have IH1 := hid ih1
  have e0 : ((B k0).toList == ([102, 117, 110] : List UInt8)) = false := by rw [toList_B]; exact beq_eq_false_iff_ne.2 hk0'
  clear hk0' hb ih0 ih1
  go_enter Tryz.func23, Tryz.ntmps23
  go_wp2_with fail
  refine (IH0.out 0).mono ?_
  rintro e w1 ⟨rfl, q1, rfl⟩
  go_wp2_with fail
  refine (IH1.out _).mono ?_
  rintro e w1 ⟨rfl, q2, rfl⟩
  go_wp2
  go_ret
  refine ⟨?_, _, rfl⟩
  show Ending.returned (.string (B t0 ++ B tyArr ++ B t1)) = _
  rw [append_B, append_B]

set_option maxRecDepth 100000 in
set_option maxHeartbeats 2000000 in
theorem shown_funb (w : World) (b gk ck c0 c1 : Nat) (t0 t1 : List UInt8) (k0 : List UInt8) (vr : Int) (ns : Value) (hb : w.heap[b]? = some (.cells #[.string (B kFun), .int .i64 vr, .slice (some ⟨gk, 0, none⟩) 2 ck] 103 (0, 0))) (hk0 : w.cell? ⟨gk, 0, none⟩ = some (.pointer (some ⟨c0, 0, none⟩))) (hk1 : w.cell? ⟨gk, 1, none⟩ = some (.pointer (some ⟨c1, 0, none⟩))) (ih0 : SH w ns c0 t0) (hl0 : t0.length ≤ 1000000000) (ih1 : SH w ns c1 t1) (hl1 : t1.length ≤ 1000000000) (d0 : w.cell? ⟨c0, 0, none⟩ = some (.string (B k0))) (hk0' : k0 = kFun) :
    Calls Tryz.prog 23 #[.pointer (some ⟨b, 0, none⟩), ns] w fun e w' => e = .returned (.string (B (tyOpen ++ t0 ++ tyShut ++ tyArr ++ t1))) ∧ ∃ q, w' = w.drewN q := by
  have c0' : w.cell? ⟨b, 0, none⟩ = some (.string (B kFun)) := by simp [World.cell?, hb]
  have c1' : w.cell? ⟨b, 1, none⟩ = some (.int .i64 vr) := by simp [World.cell?, hb]
  have c2' : w.cell? ⟨b, 2, none⟩ = some (.slice (some ⟨gk, 0, none⟩) 2 ck) := by simp [World.cell?, hb]
  have o0 : ((B kFun).toList == ([] : List UInt8)) = false := by rw [toList_B]; decide
  have o1 : ((B kFun).toList == ([108, 105, 115, 116] : List UInt8)) = false := by rw [toList_B]; decide
  have o2 : ((B kFun).toList == ([112, 97, 105, 114] : List UInt8)) = false := by rw [toList_B]; decide
  have o3 : ((B kFun).toList == ([102, 117, 110] : List UInt8)) = true := by rw [toList_B]; decide
  have sz0 : (B t0).size ≤ 1000000000 := by rw [size_B]; exact hl0
  have IH0 := hid ih0
  have sz1 : (B t1).size ≤ 1000000000 := by rw [size_B]; exact hl1
  have IH1 := hid ih1
  have e0 : ((B k0).toList == ([102, 117, 110] : List UInt8)) = true := by rw [toList_B]; rw [hk0']; decide
  clear hk0' hb ih0 ih1
  go_enter Tryz.func23, Tryz.ntmps23
  go_wp2_with fail
  refine (IH0.out 0).mono ?_
  rintro e w1 ⟨rfl, q1, rfl⟩
  go_wp2_with fail
  refine (IH1.out _).mono ?_
  rintro e w1 ⟨rfl, q2, rfl⟩
  go_wp2
  go_ret
  refine ⟨?_, _, rfl⟩
  show Ending.returned (.string (B tyOpen ++ B t0 ++ B tyShut ++ B tyArr ++ B t1)) = _
  rw [append_B, append_B, append_B, append_B]

set_option maxRecDepth 100000 in
theorem shown_int (w : World) (b : Nat) (ks ns : Value) (vr : Int) (hb : w.heap[b]? = some (.cells #[.string (B kInt), .int .i64 vr, ks] 103 (0, 0))) :
    Calls Tryz.prog 23 #[.pointer (some ⟨b, 0, none⟩), ns] w fun e w' => e = .returned (.string (B kInt)) ∧ ∃ q, w' = w.drewN q := by
  have c0' : w.cell? ⟨b, 0, none⟩ = some (.string (B kInt)) := by simp [World.cell?, hb]
  have c1' : w.cell? ⟨b, 1, none⟩ = some (.int .i64 vr) := by simp [World.cell?, hb]
  have c2' : w.cell? ⟨b, 2, none⟩ = some (ks) := by simp [World.cell?, hb]
  have o0 : ((B kInt).toList == ([] : List UInt8)) = false := by rw [toList_B]; decide
  have o1 : ((B kInt).toList == ([108, 105, 115, 116] : List UInt8)) = false := by rw [toList_B]; decide
  have o2 : ((B kInt).toList == ([112, 97, 105, 114] : List UInt8)) = false := by rw [toList_B]; decide
  have o3 : ((B kInt).toList == ([102, 117, 110] : List UInt8)) = false := by rw [toList_B]; decide
  clear hb
  go_enter Tryz.func23, Tryz.ntmps23
  go_wp2
  go_ret
  exact ⟨rfl, 0, rfl⟩

set_option maxRecDepth 100000 in
theorem shown_bool (w : World) (b : Nat) (ks ns : Value) (vr : Int) (hb : w.heap[b]? = some (.cells #[.string (B kBool), .int .i64 vr, ks] 103 (0, 0))) :
    Calls Tryz.prog 23 #[.pointer (some ⟨b, 0, none⟩), ns] w fun e w' => e = .returned (.string (B kBool)) ∧ ∃ q, w' = w.drewN q := by
  have c0' : w.cell? ⟨b, 0, none⟩ = some (.string (B kBool)) := by simp [World.cell?, hb]
  have c1' : w.cell? ⟨b, 1, none⟩ = some (.int .i64 vr) := by simp [World.cell?, hb]
  have c2' : w.cell? ⟨b, 2, none⟩ = some (ks) := by simp [World.cell?, hb]
  have o0 : ((B kBool).toList == ([] : List UInt8)) = false := by rw [toList_B]; decide
  have o1 : ((B kBool).toList == ([108, 105, 115, 116] : List UInt8)) = false := by rw [toList_B]; decide
  have o2 : ((B kBool).toList == ([112, 97, 105, 114] : List UInt8)) = false := by rw [toList_B]; decide
  have o3 : ((B kBool).toList == ([102, 117, 110] : List UInt8)) = false := by rw [toList_B]; decide
  clear hb
  go_enter Tryz.func23, Tryz.ntmps23
  go_wp2
  go_ret
  exact ⟨rfl, 0, rfl⟩

set_option maxRecDepth 100000 in
theorem shown_var (w : World) (b vr gn ln cn : Nat) (ks : Value) (t0 : List UInt8) (hv : vr < ln) (hb : w.heap[b]? = some (.cells #[.string (B []), .int .i64 (vr : Int), ks] 103 (0, 0))) (hn : w.cell? ⟨gn, vr, none⟩ = some (.string (B t0))) :
    Calls Tryz.prog 23 #[.pointer (some ⟨b, 0, none⟩), .slice (some ⟨gn, 0, none⟩) ln cn] w fun e w' => e = .returned (.string (B t0)) ∧ ∃ q, w' = w.drewN q := by
  have c0' : w.cell? ⟨b, 0, none⟩ = some (.string (B [])) := by simp [World.cell?, hb]
  have c1' : w.cell? ⟨b, 1, none⟩ = some (.int .i64 (vr : Int)) := by simp [World.cell?, hb]
  have c2' : w.cell? ⟨b, 2, none⟩ = some (ks) := by simp [World.cell?, hb]
  have o0 : ((B []).toList == ([] : List UInt8)) = true := by rw [toList_B]; rfl
  clear hb
  go_enter Tryz.func23, Tryz.ntmps23
  go_wp2
  go_ret
  exact ⟨rfl, 0, rfl⟩

/-- Shown of any type. -/
theorem shown_any (H : Nat → Option Obj) (gn cn N : Nat) (ns : List (List UInt8)) : ∀ (m : Nat) (b : Nat) (x : Ty) (w : World), TRep m H b x → Fz H w → TyOk N m x → N ≤ ns.length →
    (∀ (j : Nat) (c : List UInt8), ns[j]? = some c → w.cell? ⟨gn, j, none⟩ = some (.string (B c))) → (∀ (j : Nat) (c : List UInt8), ns[j]? = some c → c.length ≤ 10) → tySize m x ≤ 1000000 →
    Calls Tryz.prog 23 #[.pointer (some ⟨b, 0, none⟩), .slice (some ⟨gn, 0, none⟩) ns.length cn] w fun e w' => e = .returned (.string (B (tyText m ns x))) ∧ ∃ q, w' = w.drewN q
  | 0, _, _, _, h, _, _, _, _, _, _ => absurd h id
  | m + 1, b, x, w, h, hz, hok, hN, hns, h10, hsz => by
    obtain ⟨ks, bs, h1, h3, h4, h5⟩ := h
    have hb := hz _ _ h1
    have htl := fun (y : Ty) (hy : TyOk N m y) (hs : tySize m y ≤ 1000000) => Nat.le_trans (tyText_len ns h10 m y hy) (show 20 * tySize m y ≤ 1000000000 by omega)
    have ih : ∀ (c : Nat) (y : Ty), TRep m H c y → TyOk N m y → tySize m y ≤ 1000000 → SH w (.slice (some ⟨gn, 0, none⟩) ns.length cn) c (tyText m ns y) := fun c y hr ho hs n =>
      shown_any H gn cn N ns m c y (w.drewN n) hr hz ho hN hns h10 hs
    obtain ⟨ao, cp, rfl, hrow⟩ := row_viewT h3 hz
    rcases hok with ⟨q1, q2, q3⟩ | ⟨q1, q2, q3⟩ | ⟨q1, q2, a, q3, q4⟩ | ⟨q1, q2, a, d, q3, q4, q5⟩
    · have hj : x.var < ns.length := by omega
      rw [tyText, if_pos q1]
      have e : ns.getD x.var [] = ns[x.var] := by simp [List.getD, hj]
      rw [e]
      rw [q1] at hb
      exact shown_var w b x.var gn ns.length cn _ _ hj hb (hns x.var _ (List.getElem?_eq_getElem hj))
    · have hk : x.kind ≠ [] := by rcases q1 with q1 | q1 <;> rw [q1] <;> decide
      rw [tyText, if_neg hk, q3]
      rcases q1 with q1 | q1
      · rw [q1] at hb
        have := shown_int w b _ (.slice (some ⟨gn, 0, none⟩) ns.length cn) _ hb
        rw [← q1] at this
        exact this
      · rw [q1] at hb
        have := shown_bool w b _ (.slice (some ⟨gn, 0, none⟩) ns.length cn) _ hb
        rw [← q1] at this
        exact this
    · have hk : x.kind ≠ [] := by rw [q1]; decide
      rw [q3] at h4
      have l1 : bs.length = 1 := h4
      obtain ⟨c, rfl⟩ : ∃ c, bs = [c] := by
        match bs, l1 with
        | [c], _ => exact ⟨c, rfl⟩
      obtain ⟨gk, rfl, hc⟩ := hrow 0 c rfl
      have hs1 : tySize m a ≤ 1000000 := by rw [tySize, q3] at hsz; simp at hsz; omega
      have hr := h5 0 a c rfl (by rw [q3]; rfl)
      rw [q1] at hb
      rw [tyText, if_neg hk, q3]
      exact shown_list w b gk cp c _ _ _ hb hc (ih c a hr q4 hs1) (htl a q4 hs1)
    · have hk : x.kind ≠ [] := by rcases q1 with q1 | q1 <;> rw [q1] <;> decide
      rw [q3] at h4
      have l1 : bs.length = 2 := h4
      obtain ⟨c, f, rfl⟩ : ∃ c f, bs = [c, f] := by
        match bs, l1 with
        | [c, f], _ => exact ⟨c, f, rfl⟩
      obtain ⟨gk, rfl, hc⟩ := hrow 0 c rfl
      obtain ⟨gk', e', hf⟩ := hrow 1 f rfl
      cases e'
      have hs1 : tySize m a ≤ 1000000 := by rw [tySize, q3] at hsz; simp at hsz; omega
      have hs2 : tySize m d ≤ 1000000 := by rw [tySize, q3] at hsz; simp at hsz; omega
      have hr := h5 0 a c rfl (by rw [q3]; rfl)
      have hr2 := h5 1 d f rfl (by rw [q3]; rfl)
      rw [tyText, if_neg hk, q3]
      rcases q1 with q1 | q1
      · rw [q1] at hb
        show Calls _ _ _ _ fun e w' => e = .returned (.string (B (if x.kind = kFun then _ else _))) ∧ _
        rw [if_neg (by rw [q1]; decide)]
        exact shown_pair w b gk cp c f _ _ _ _ hb hc hf (ih c a hr q4 hs1) (htl a q4 hs1) (ih f d hr2 q5 hs2) (htl d q5 hs2)
      · rw [q1] at hb
        show Calls _ _ _ _ fun e w' => e = .returned (.string (B (if x.kind = kFun then _ else _))) ∧ _
        rw [if_pos q1]
        have hd0 : w.cell? ⟨c, 0, none⟩ = some (.string (B a.kind)) := by
          cases m with
          | zero => exact absurd hr id
          | succ m =>
            obtain ⟨_, _, r1, _⟩ := hr
            have := hz _ _ r1
            simp [World.cell?, this]
        by_cases hka : a.kind = kFun
        · rw [if_pos hka]
          exact shown_funb w b gk cp c f _ _ a.kind _ _ hb hc hf (ih c a hr q4 hs1) (htl a q4 hs1) (ih f d hr2 q5 hs2) (htl d q5 hs2) hd0 hka
        · rw [if_neg hka]
          exact shown_fun w b gk cp c f _ _ a.kind _ _ hb hc hf (ih c a hr q4 hs1) (htl a q4 hs1) (ih f d hr2 q5 hs2) (htl d q5 hs2) hd0 hka
end Go.Proofs.YtcdijppegfcoaaaGreatDoor

/-
  OUR OWN TEXT. typerref.Canon.
-/
namespace Go.Proofs.YtcdijppegfcoaaaGreatDoor
open Go.RowKit

theorem ok_most {N M : Nat} : ∀ (m : Nat) (t : Ty) (l : List Nat), TyOk N m t → (∀ v, v ∈ tyVars m t l → v < M) → TyOk M m t
  | 0, _, _, h, _ => h
  | m + 1, t, l, h, hM => by
    rw [tyVars] at hM
    rcases h with ⟨h1, h2, h3⟩ | h | ⟨h1, h2, a, h3, h4⟩ | ⟨h1, h2, a, b, h3, h4, h5⟩
    · rw [if_pos h1] at hM
      refine Or.inl ⟨h1, hM t.var ?_, h3⟩
      split
      · assumption
      · simp
    · exact Or.inr (Or.inl h)
    · rw [if_neg (by rw [h1]; decide), h3] at hM
      exact Or.inr (Or.inr (Or.inl ⟨h1, h2, a, h3, ok_most m a l h4 hM⟩))
    · rw [if_neg (by rcases h1 with h1 | h1 <;> rw [h1] <;> decide), h3] at hM
      have hM' : ∀ v, v ∈ tyVars m b (tyVars m a l) → v < M := hM
      exact Or.inr (Or.inr (Or.inr ⟨h1, h2, a, b, h3, ok_most m a l h4 (fun v hv => hM' v ((tyVars_pre m b _).subset hv)), ok_most m b _ h5 hM'⟩))

theorem made_strs (w : World) (n : Nat) (hn : n ≤ 100000) (ns : List (List UInt8)) (hns : ns = List.replicate n []) :
    (Instr.makeSlice 34 (.int .i64 (n : Int)) (.int .i64 (n : Int))).run Tryz.prog w = .ok (.slice (some ⟨w.heap.size, 0, none⟩) n n) (w.alloc (.cells (strs ns).toArray 9)) := by
  obtain ⟨i0, hi, hz0, hz1, hz2⟩ := info_parts info_str
  have hr := run_make (P := Tryz.prog) w 34 9 i0 (.string (B [])) Tryz.underlying34 hi hz0 .i64 .i64 (n : Int) (n : Int) (by omega) (Int.le_refl _) (by rw [hz2]; omega) (by omega)
  rw [hr]
  simp only [Int.toNat_natCast, hz1, Nat.mul_one]
  have e : madeCells (Value.string (B [])).cells n = (strs ns).toArray := by
    apply Array.ext
    · rw [size_madeCells, hns]; simp [strs]
    · intro i h1 h2
      have h3 : i % 1 = 0 := Nat.mod_one i
      simp [madeCells, strs, Value.cells, hns, h3]
  rw [e]

theorem canNames_short (l : List Nat) (j : Nat) (c : List UInt8) (h : (namesTo l l.length)[j]? = some c) : c.length ≤ 10 := by
  simp only [namesTo, List.getElem?_map] at h
  cases e : (List.range (mostS l))[j]? with
  | none => rw [e] at h; cases h
  | some v =>
    rw [e] at h
    simp only [Option.map_some, Option.some.injEq] at h
    rw [← h]
    split
    · exact Nat.le_trans (letterS_len _) (by omega)
    · simp
theorem strs_set (ns : List (List UInt8)) (v : Nat) (t : List UInt8) : (strs ns).toArray.setIfInBounds v (.string (B t)) = (strs (ns.set v t)).toArray := by
  simp [strs, List.map_set]
/-- Where the names lie. -/
structure NB (g : Nat) (w wi : World) (ns : List (List UInt8)) : Prop where
  blk : wi.heap[g]? = some (.cells (strs ns).toArray 9 (0, 0))
  old : ∀ k, k < g → wi.heap[k]? = w.heap[k]?
  bel : Below g w wi
theorem NB.cell {g : Nat} {w wi : World} {ns : List (List UInt8)} (h : NB g w wi ns) {j : Nat} {c : List UInt8} (hc : ns[j]? = some c) : wi.cell? ⟨g, j, none⟩ = some (.string (B c)) ∧ wi.frozen? ⟨g, j, none⟩ = false := by
  simp [World.cell?, World.frozen?, h.blk, strs, hc]
theorem NB.grown {g : Nat} {w wi w' : World} {ns : List (List UInt8)} (h : NB g w wi ns) (hg : wi.grownBy w' none) : NB g w w' ns := by
  have hl := lt_of_block h.blk
  refine ⟨by rw [hg.block g hl (by simp)]; exact h.blk, fun k hk => by rw [hg.block k (by omega) (by simp)]; exact h.old k hk, h.bel.trans ⟨hg.os, hg.tape, hg.output, hg.size, fun k hk => hg.block k (by omega) (by simp)⟩⟩
theorem NB.set {g : Nat} {w wi : World} {ns : List (List UInt8)} (h : NB g w wi ns) (v : Nat) (t : List UInt8) : NB g w (wi.setCell ⟨g, v, none⟩ (.string (B t))) (ns.set v t) := by
  have hl := lt_of_block h.blk
  refine ⟨?_, fun k hk => by rw [Below.heap_setCell _ _ _ _ (by show k ≠ g; omega)]; exact h.old k hk, h.bel.trans ⟨rfl, rfl, rfl, by simp [World.setCell], fun k hk => Below.heap_setCell _ _ _ _ (by show k ≠ g; omega)⟩⟩
  rw [← strs_set]
  simp [World.setCell, Array.getElem?_modify, h.blk]
theorem names0 (l : List Nat) : namesTo l 0 = List.replicate (mostS l) [] := by
  apply List.ext_getElem
  · simp [namesTo]
  · intro i h1 h2
    simp [namesTo]

set_option maxRecDepth 100000 in
set_option maxHeartbeats 2000000 in
theorem canon_any (m : Nat) (H : Nat → Option Obj) (b : Nat) (x : Ty) (w : World) (N : Nat) (h : TRep m H b x) (hz : Fz H w) (hok : TyOk N m x) (hN : N ≤ 100000) (hsz : tySize m x ≤ 250) :
    Calls Tryz.prog 20 #[.pointer (some ⟨b, 0, none⟩)] w fun e w' => e = .returned (.string (B (tyCanon m x))) ∧ Below w.heap.size w w' := by
  have hvl := tyVars_len m x [] hok
  have hvN := tyVars_lt m x [] hok (by simp)
  have hnd := tyVars_nodup m x [] (by simp)
  have hokM := ok_most m x [] hok (fun v hv => mostS_mem hv)
  unfold tyCanon canNames
  have CV := hid (vars_any m H b x w w.heap.size (.slice none 0 0) [] h hz (World.ownsRow_nil _ _ _ _) (fun k e => by cases e) (Nat.le_refl _) hok.sm (by simp at hvl; omega))
  obtain ⟨l, hl⟩ : ∃ l, l = tyVars m x [] := ⟨_, rfl⟩
  rw [← hl] at hvl hvN hnd hokM CV ⊢
  have hmost : mostS l ≤ 100000 := Nat.le_trans (mostS_le hvN) hN
  have hl250 : l.length ≤ 250 := by simp at hvl; omega
  have HNL := hid (show ∀ (j v : Nat), l[j]? = some v → v < 100000 from fun j v e => Nat.lt_of_lt_of_le (hvN v (List.mem_of_getElem? e)) hN)
  have HND := hid hnd
  have HO := hid hokM
  have HT := hid (show tySize m x ≤ 1000000 by omega)
  have HR := hid h
  clear hl hvl hvN hnd hokM h hz hok hsz
  go_enter Tryz.func20, Tryz.ntmps20
  go_wp2_with fail
  refine CV.out.mono ?_
  rintro e w1 ⟨v, rfl, hown, hz1, hbel1, _⟩
  obtain ⟨ao, cp, rfl, hrow⟩ := own_ints hown
  have HROW := hid hrow
  have Z1 := hid hz1
  have B1 := hid hbel1
  clear hown hrow hz1 hbel1 CV
  go_wp2_with fail
  go_loopg [4, 14] (l.length + 1) (fun gh v i wi => ∃ j k : Nat, j ≤ l.length ∧ i = .int .i64 j ∧ gh = l.length - j + 1 ∧ v = .int .i64 k ∧ k ≤ 100000 ∧ Hid (k = mostS (l.take j)) ∧ w1 = wi)
  case atStart => exact ⟨0, 0, by omega, rfl, by omega, rfl, by omega, hid (by simp [mostS]), rfl⟩
  case round =>
    obtain ⟨j, k, hj, rfl, hgj, rfl, hk, HK, rfl⟩ := hrel
    by_cases hjl : j < l.length
    · obtain ⟨x1, hx1⟩ : ∃ x1, l[j]? = some x1 := ⟨l[j], List.getElem?_eq_getElem hjl⟩
      obtain ⟨gn, rfl, _, _, hcell⟩ := HROW.out j x1 hx1
      have hx1l := HNL.out j x1 hx1
      have hst : mostS (l.take (j + 1)) = max k (x1 + 1) := by
        rw [List.take_add_one, hx1]
        show mostS (l.take j ++ [x1]) = _
        rw [mostS_snoc, HK.out]
      have HST := hid hst
      clear hst hx1
      by_cases hge : k ≤ x1
      · have h1 : (k : Int) ≤ (x1 : Int) := by omega
        go_wp2
        go_roundg (l.length - (j + 1) + 1)
        case measure => omega
        case rel => exact ⟨j + 1, x1 + 1, by omega, by go_num, rfl, by go_num, by omega, hid (by rw [HST.out]; omega), rfl⟩
      · have h1 : ¬ (k : Int) ≤ (x1 : Int) := by omega
        go_wp2
        go_roundg (l.length - (j + 1) + 1)
        case measure => omega
        case rel => exact ⟨j + 1, k, by omega, by go_num, rfl, rfl, hk, hid (by rw [HST.out]; omega), rfl⟩
    · have hje : j = l.length := by omega
      subst hje
      have hkm : k = mostS l := by have := HK.out; rwa [List.take_length] at this
      subst hkm
      have hmk := made_strs w1 (mostS l) hmost (namesTo l 0) (names0 l)
      clear HK
      have NB0 := hid (show NB w1.heap.size w1 (w1.alloc (.cells (strs (namesTo l 0)).toArray 9)) (namesTo l 0) from
        ⟨heap_alloc_new _ _, fun k hk => Below.heap_alloc _ _ _ hk, (Below.refl _ _).alloc (Nat.le_refl _) _⟩)
      obtain ⟨ml, hml⟩ : ∃ ml, ml = mostS l := ⟨_, rfl⟩
      rw [← hml] at hmk hmost HO ⊢
      have HM := hid hml
      clear hml hk
      obtain ⟨wm, hwm⟩ : ∃ wm, wm = w1.alloc (.cells (strs (namesTo l 0)).toArray 9) := ⟨_, rfl⟩
      rw [← hwm] at hmk NB0
      clear hwm
      go_wp2_with fail
      go_loopg [28] (l.length + 1) (fun gh i wi => ∃ j : Nat, j ≤ l.length ∧ i = .int .i64 j ∧ gh = l.length - j + 1 ∧ w1.heap.size < wi.heap.size ∧ Hid (NB w1.heap.size w1 wi (namesTo l j)))
      case atStart => exact ⟨0, by omega, rfl, by omega, lt_of_block NB0.out.blk, NB0⟩
      case round =>
        obtain ⟨j, hj, rfl, hgj, hws, HNB⟩ := hrel
        by_cases hjl : j < l.length
        · obtain ⟨x1, hx1⟩ : ∃ x1, l[j]? = some x1 := ⟨l[j], List.getElem?_eq_getElem hjl⟩
          obtain ⟨gn, rfl, _, hgl, hcell0⟩ := HROW.out j x1 hx1
          have hcell : wr.cell? ⟨gn, j, none⟩ = some (.int .i64 (x1 : Int)) := by
            rw [World.cell?_of_block (a := ⟨gn, j, none⟩) (HNB.out.old gn hgl)]; exact hcell0
          have hxm : x1 < ml := by rw [HM.out]; exact mostS_mem (List.mem_of_getElem? hx1)
          obtain ⟨c0, hc0⟩ : ∃ c0, (namesTo l j)[x1]? = some c0 := ⟨_, List.getElem?_eq_getElem (by rw [namesTo_len, ← HM.out]; exact hxm)⟩
          have HST := hid (namesTo_step HND.out hx1)
          have CL := hid (letter_any wr j (by omega))
          have HC0 := hid hc0
          clear hcell0 hc0 hx1
          go_wp2_with fail
          refine CL.out.mono ?_
          rintro e w3 ⟨rfl, g3⟩
          have N3 := hid (HNB.out.grown g3)
          obtain ⟨q0, q1⟩ := N3.out.cell HC0.out
          have hs3 : wr.heap.size ≤ w3.heap.size := g3.size
          clear g3 CL HNB
          have N4 := hid (N3.out.set x1 (letterS j))
          have hs4 : w1.heap.size < (w3.setCell ⟨w1.heap.size, x1, none⟩ (.string (B (letterS j)))).heap.size := by simp [World.setCell]; omega
          go_wp2
          go_roundg (l.length - (j + 1) + 1)
          case measure => omega
          case rel => exact ⟨j + 1, by omega, by go_num, rfl, hs4, hid (by rw [HST.out]; exact N4.out)⟩
        · have hje : j = l.length := by omega
          subst hje
          have hzr : Fz H wr := fun k o e => by rw [HNB.out.old k (Z1.out.lt e)]; exact Z1.out k o e
          have hlen := namesTo_len l l.length
          have cs0 := shown_any H w1.heap.size ml ml (namesTo l l.length) m b x wr HR.out hzr HO.out (by rw [hlen, HM.out]; exact Nat.le_refl _) (fun j c hc => (HNB.out.cell hc).1) (canNames_short l) HT.out
          rw [hlen, ← HM.out] at cs0
          have CS := hid cs0
          have BF := hid (B1.out.trans (HNB.out.bel.mono B1.out.size))
          clear cs0 hzr hlen HNB
          go_wp2_with fail
          refine CS.out.mono ?_
          rintro e w5 ⟨rfl, q, rfl⟩
          go_wp2
          go_ret
          exact ⟨rfl, BF.out.trans ⟨rfl, rfl, rfl, Nat.le_refl _, fun _ _ => rfl⟩⟩
end Go.Proofs.YtcdijppegfcoaaaGreatDoor

/-
  OUR OWN TEXT. The names that typerref's reader of types has met: a variable with a row of its own; the contract of arrow.
-/
namespace Go.Proofs.YtcdijppegfcoaaaGreatDoor
open Go.RowKit

/-- The names met so far, at a variable. -/
structure NM (w : World) (nb : Nat) (H : Nat → Option Obj) (v : Value) (ns : List (List UInt8)) : Prop where
  blk : w.heap[nb]? = some (.cells #[v] 34 (0, 0))
  row : w.ownsRow nb 9 1 v ns.length (strs ns)
  hx : H nb = none
  hn : ∀ k, some k = v.ownBlock → H k = none
theorem NM.cell {w : World} {nb : Nat} {H : Nat → Option Obj} {v : Value} {ns : List (List UInt8)} (h : NM w nb H v ns) : w.cell? ⟨nb, 0, none⟩ = some v ∧ w.frozen? ⟨nb, 0, none⟩ = false := by
  simp [World.cell?, World.frozen?, h.blk]
theorem NM.kept {w w' : World} {nb rb : Nat} {H H' : Nat → Option Obj} {v : Value} {ns : List (List UInt8)} (h : NM w nb H v ns) (hk : Kept rb w w') (he : Ext w.heap.size H H') (hr : rb < nb) : NM w' nb H' v ns := by
  have hl := lt_of_block h.blk
  have same : ∀ k, nb ≤ k → k < w.heap.size → w'.heap[k]? = w.heap[k]? := fun k h1 h2 => hk.block k h2 (by simp; omega)
  refine ⟨by rw [same nb (Nat.le_refl _) hl]; exact h.blk, own_at h.row fun k e => ?_, by rw [he.2 nb hl]; exact h.hx, fun k e => ?_⟩
  · have := own_lt h.row e; exact same k this.1 this.2
  · rw [he.2 k (own_lt h.row e).2]; exact h.hn k e
theorem NM.drewN {w : World} {nb : Nat} {H : Nat → Option Obj} {v : Value} {ns : List (List UInt8)} (h : NM w nb H v ns) (q : Nat) : NM (w.drewN q) nb H v ns := ⟨h.blk, h.row, h.hx, h.hn⟩
theorem NM.alloc {w : World} {nb : Nat} {H : Nat → Option Obj} {v : Value} {ns : List (List UInt8)} (h : NM w nb H v ns) (o : Obj) : NM (w.alloc o) nb H v ns :=
  ⟨by rw [Below.heap_alloc _ _ _ (lt_of_block h.blk)]; exact h.blk, h.row.alloc o, h.hx, h.hn⟩
/-- More blocks that no longer change, all of them new. -/
theorem NM.ext {w : World} {nb : Nat} {H H' : Nat → Option Obj} {v : Value} {ns : List (List UInt8)} (h : NM w nb H v ns) {n : Nat} (he : Ext n H H') (hn : w.heap.size ≤ n) : NM w nb H' v ns :=
  ⟨h.blk, h.row, by rw [he.2 nb (Nat.lt_of_lt_of_le (lt_of_block h.blk) hn)]; exact h.hx, fun k e => by rw [he.2 k (Nat.lt_of_lt_of_le (own_lt h.row e).2 hn)]; exact h.hn k e⟩

/-- What reading a type leaves. -/
def TyPost (T : List Tok) (w w' : World) (e : Ending) (rb g cap nb : Nat) (H : Nat → Option Obj) (t : Ty) (ns' : List (List UInt8)) (s' : St) : Prop :=
  ∃ b H' v' m, e = .returned (.pointer (some ⟨b, 0, none⟩)) ∧ RS w' rb g cap T s' ∧ s'.k < T.length ∧ KeptTo nb rb w w' ∧ Fz H' w' ∧ Ext w.heap.size H H' ∧ NM w' nb H' v' ns' ∧ TRep m H' b t

/-- The contract of arrow, so deep. -/
def ARR (T : List Tok) (n : Nat) : Prop := ∀ (w : World) (rb g cap nb : Nat) (H : Nat → Option Obj) (v : Value) (ns : List (List UInt8)) (s : St) (t : Ty) (ns' : List (List UInt8)) (s' : St), arrS T n ns s = some (t, ns', s') →
  s.bad < 0 → RS w rb g cap T s → s.k < T.length → Fz H w → NM w nb H v ns → rb < nb → g < nb → H rb = none → ns.length ≤ s.k + 1 →
  Calls Tryz.prog 43 #[.pointer (some ⟨rb, 0, none⟩), .pointer (some ⟨nb, 0, none⟩)] w fun e w' => TyPost T w w' e rb g cap nb H t ns' s'
/-- The contract of one. -/
def ONE (T : List Tok) (n : Nat) : Prop := ∀ (w : World) (rb g cap nb : Nat) (H : Nat → Option Obj) (v : Value) (ns : List (List UInt8)) (s : St) (t : Ty) (ns' : List (List UInt8)) (s' : St), oneS (arrS T n) T ns s = some (t, ns', s') →
  s.bad < 0 → RS w rb g cap T s → s.k < T.length → Fz H w → NM w nb H v ns → rb < nb → g < nb → H rb = none → ns.length ≤ s.k + 1 →
  Calls Tryz.prog 81 #[.pointer (some ⟨rb, 0, none⟩), .pointer (some ⟨nb, 0, none⟩)] w fun e w' => TyPost T w w' e rb g cap nb H t ns' s'
end Go.Proofs.YtcdijppegfcoaaaGreatDoor

/-
  OUR OWN TEXT. typerref's reader of types: arrow.
-/
namespace Go.Proofs.YtcdijppegfcoaaaGreatDoor
open Go.RowKit

set_option maxRecDepth 100000 in
set_option maxHeartbeats 1000000 in
theorem arrow_step (T : List Tok) (n : Nat) (hT : Wf T) (hO : ONE T n) (hA : ARR T n) : ARR T (n + 1) := by
  intro w rb g cap nb H v ns s t ns' s' hs hb h hk hz hm hr hg hrn hl
  unfold arrS at hs
  cases e : oneS (arrS T n) T ns s with
  | none => rw [e] at hs; cases hs
  | some r =>
  obtain ⟨x, n1, s1⟩ := r
  rw [e] at hs
  dsimp only at hs
  have W1 := one_went (arr_went T n) hb e
  have HC := hid (hO w rb g cap nb H v ns s x n1 s1 e hb h hk hz hm hr hg hrn hl)
  have HS := hid hs
  have HW := hid W1
  have hnb := lt_of_block hm.blk
  clear hs e W1 h hz hm hO
  go_enter Tryz.func43, Tryz.ntmps43
  go_wp2_with fail
  refine HC.out.mono ?_
  rintro e w1 ⟨b, H1, v1, m1, rfl, h1, hk1, kt1, z1, x1, nm1, r1⟩
  have hsz1 := kt1.size
  have hr1 : H1 rb = none := by rw [x1.2 rb (by omega)]; exact hrn
  have H1' := hid h1
  have K1 := hid kt1
  have Z1 := hid z1
  have X1 := hid x1
  have N1 := hid nm1
  have R1 := hid r1
  clear h1 kt1 z1 x1 nm1 r1 HC
  go_wp2_with fail
  refine (take_any w1 rb g cap T s1 kArrow H1'.out hk1).mono ?_
  rintro e w2 ⟨rfl, h2, hkept⟩
  have hsz2 : w1.heap.size ≤ w2.heap.size := hkept.size
  have K2 := hid (K1.out.trans (KeptTo.of hkept (by omega)))
  have Z2 := hid (Z1.out.kept hkept hr1)
  have N2 := hid (N1.out.kept hkept (Ext.refl _ _) hr)
  have H2 := hid h2
  clear h2 hkept H1' K1 Z1 N1
  cases hi : isS T s1 kArrow with
  | false =>
    have h3 := H2.out
    unfold takeS at h3
    rw [if_neg (by rw [hi]; decide)] at h3
    have e := HS.out
    rw [if_neg (by rw [hi]; decide)] at e
    cases e
    have H3 := hid h3
    clear hi h3 H2 HS
    go_wp2
    go_ret
    exact ⟨b, H1, v1, m1, rfl, H3.out, hk1, K2.out, Z2.out, X1.out, N2.out, R1.out⟩
  | true =>
    have h3 := H2.out
    unfold takeS at h3
    rw [if_pos hi] at h3
    have e := HS.out
    rw [if_pos hi] at e
    have hk3 : s1.k + 1 < T.length := hT.up hk1 hi (by decide) (by decide)
    have hs1 := isS_ok hi
    have hn1 : n1.length ≤ s1.up.k + 1 := by
      have := (HW.out.2.2.2 hs1).1
      show n1.length ≤ s1.k + 1 + 1
      omega
    cases e2 : arrS T n n1 s1.up with
    | none => rw [e2] at e; cases e
    | some r2 =>
    obtain ⟨y, n2, s2⟩ := r2
    rw [e2] at e
    cases e
    have HC := hid (hA w2 rb g cap nb H1 v1 n1 s1.up y ns' s' e2 hs1 h3 hk3 Z2.out N2.out hr hg hr1 hn1)
    clear hi h3 H2 HS e2 HW hA
    go_wp2_with fail
    refine HC.out.mono ?_
    rintro e w3 ⟨c, H3, v3, m3, rfl, h3, hk4, kt3, z3, x3, nm3, r3⟩
    have hsz3 : w2.heap.size ≤ w3.heap.size := kt3.size
    obtain ⟨H4, m4, y1, y2, y3⟩ := ty_two z3 kFun (TRep.ext x3 _ _ _ R1.out) r3
    have HP := hid (show TyPost T w _ (.returned (.pointer (some ⟨w3.heap.size + 1, 0, none⟩))) rb g cap nb H _ ns' s' from
      ⟨w3.heap.size + 1, H4, v3, m4, rfl, (h3.alloc _).alloc _, hk4, ((K2.out.trans kt3).alloc (by omega) _).alloc (by simp; omega) _, y1,
        (X1.out.trans x3 (by omega)).trans y2 (by omega), ((nm3.ext y2 (Nat.le_refl _)).alloc _).alloc _, y3⟩)
    clear h3 hk4 kt3 z3 x3 nm3 r3 y1 y2 y3 HC
    go_wp2
    go_ret
    exact HP.out
end Go.Proofs.YtcdijppegfcoaaaGreatDoor

/-
  OUR OWN TEXT (written by mkone.py). typerref's reader of types: one, where no name stands.
-/
namespace Go.Proofs.YtcdijppegfcoaaaGreatDoor
open Go.RowKit

/-- On the way: the reader, the names, what no longer changes. -/
structure BK (T : List Tok) (w w' : World) (rb g cap nb : Nat) (H H' : Nat → Option Obj) (v : Value) (ns : List (List UInt8)) (s : St) : Prop where
  r : RS w' rb g cap T s
  k : KeptTo nb rb w w'
  z : Fz H' w'
  x : Ext w.heap.size H H'
  n : NM w' nb H' v ns
  hr : rb < nb
  hn : H' rb = none
theorem BK.size {T : List Tok} {w w' : World} {rb g cap nb : Nat} {H H' : Nat → Option Obj} {v : Value} {ns : List (List UInt8)} {s : St} (h : BK T w w' rb g cap nb H H' v ns s) : w.heap.size ≤ w'.heap.size ∧ nb < w'.heap.size := ⟨h.k.size, lt_of_block h.n.blk⟩
theorem BK.step {T : List Tok} {w w1 w2 : World} {rb g cap nb : Nat} {H H' : Nat → Option Obj} {v : Value} {ns : List (List UInt8)} {s s2 : St} (h : BK T w w1 rb g cap nb H H' v ns s) (h2 : RS w2 rb g cap T s2) (hk : Kept rb w1 w2) : BK T w w2 rb g cap nb H H' v ns s2 :=
  ⟨h2, h.k.trans (KeptTo.of hk (by have := h.size; omega)), h.z.kept hk h.hn, h.x, h.n.kept hk (Ext.refl _ _) h.hr, h.hr, h.hn⟩
theorem BK.off {T : List Tok} {w w1 w2 : World} {rb g cap nb : Nat} {H H' : Nat → Option Obj} {v : Value} {ns : List (List UInt8)} {s : St} (h : BK T w w1 rb g cap nb H H' v ns s) {x : List UInt8} (hi : isS T s x = false) (h2 : RS w2 rb g cap T (takeS T s x)) (hk : Kept rb w1 w2) : BK T w w2 rb g cap nb H H' v ns s :=
  h.step (by unfold takeS at h2; rw [if_neg (by rw [hi]; decide)] at h2; exact h2) hk
theorem BK.on {T : List Tok} {w w1 w2 : World} {rb g cap nb : Nat} {H H' : Nat → Option Obj} {v : Value} {ns : List (List UInt8)} {s : St} (h : BK T w w1 rb g cap nb H H' v ns s) {x : List UInt8} (hi : isS T s x = true) (h2 : RS w2 rb g cap T (takeS T s x)) (hk : Kept rb w1 w2) : BK T w w2 rb g cap nb H H' v ns s.up :=
  h.step (by unfold takeS at h2; rw [if_pos hi] at h2; exact h2) hk
theorem BK.post {T : List Tok} {w w1 w2 : World} {rb g cap nb : Nat} {H H1 : Nat → Option Obj} {v : Value} {ns ns' : List (List UInt8)} {s s' : St} {e : Ending} {t : Ty} (h : BK T w w1 rb g cap nb H H1 v ns s) (p : TyPost T w1 w2 e rb g cap nb H1 t ns' s') :
    ∃ b H2 v2 m, e = .returned (.pointer (some ⟨b, 0, none⟩)) ∧ s'.k < T.length ∧ BK T w w2 rb g cap nb H H2 v2 ns' s' ∧ TRep m H2 b t := by
  obtain ⟨b, H2, v2, m, e1, h1, hk, kt, z, x, nm, r⟩ := p
  have hsz := h.size
  exact ⟨b, H2, v2, m, e1, hk, ⟨h1, h.k.trans kt, z, h.x.trans x (by omega), nm, h.hr, by rw [x.2 rb (by have := h.hr; omega)]; exact h.hn⟩, r⟩
theorem BK.post2 {T : List Tok} {w w1 w2 : World} {rb g cap nb : Nat} {H H1 : Nat → Option Obj} {v : Value} {ns ns' : List (List UInt8)} {s s' : St} {e : Ending} {t : Ty} (h : BK T w w1 rb g cap nb H H1 v ns s) (p : TyPost T w1 w2 e rb g cap nb H1 t ns' s') :
    ∃ b H2 v2 m, e = .returned (.pointer (some ⟨b, 0, none⟩)) ∧ s'.k < T.length ∧ BK T w w2 rb g cap nb H H2 v2 ns' s' ∧ Ext w1.heap.size H1 H2 ∧ TRep m H2 b t := by
  obtain ⟨b, H2, v2, m, e1, h1, hk, kt, z, x, nm, r⟩ := p
  have hsz := h.size
  exact ⟨b, H2, v2, m, e1, hk, ⟨h1, h.k.trans kt, z, h.x.trans x (by omega), nm, h.hr, by rw [x.2 rb (by have := h.hr; omega)]; exact h.hn⟩, x, r⟩
/-- A leaf at its end. -/
theorem BK.leaf {T : List Tok} {w w1 : World} {rb g cap nb : Nat} {H H' : Nat → Option Obj} {v : Value} {ns : List (List UInt8)} {s : St} (h : BK T w w1 rb g cap nb H H' v ns s) (hk : s.k < T.length) (k : List UInt8) (i : Nat) :
    TyPost T w (w1.alloc (.cells #[.string (B k), .int .i64 (i : Int), .slice none 0 0] 103)) (.returned (.pointer (some ⟨w1.heap.size, 0, none⟩))) rb g cap nb H ⟨k, i, []⟩ ns s := by
  obtain ⟨H2, y1, y2, y3⟩ := ty_leaf h.z k i
  have hsz := h.size
  exact ⟨_, H2, v, 1, rfl, h.r.alloc _, hk, h.k.alloc (by omega) _, y1, h.x.trans y2 (by omega), (h.n.ext y2 (Nat.le_refl _)).alloc _, y3⟩
theorem BK.one {T : List Tok} {w w1 : World} {rb g cap nb : Nat} {H H' : Nat → Option Obj} {v : Value} {ns : List (List UInt8)} {s : St} (h : BK T w w1 rb g cap nb H H' v ns s) (hk : s.k < T.length) (k : List UInt8) {b m : Nat} {x : Ty} (hx : TRep m H' b x) :
    TyPost T w ((w1.alloc (.cells #[.pointer (some ⟨b, 0, none⟩)] 33)).alloc (.cells #[.string (B k), .int .i64 0, .slice (some ⟨w1.heap.size, 0, none⟩) 1 1] 103)) (.returned (.pointer (some ⟨w1.heap.size + 1, 0, none⟩))) rb g cap nb H ⟨k, 0, [x]⟩ ns s := by
  obtain ⟨H2, m2, y1, y2, y3⟩ := ty_one h.z k hx
  have hsz := h.size
  exact ⟨_, H2, v, m2, rfl, (h.r.alloc _).alloc _, hk, (h.k.alloc (by omega) _).alloc (by simp; omega) _, y1, h.x.trans y2 (by omega), ((h.n.ext y2 (Nat.le_refl _)).alloc _).alloc _, y3⟩
/-- A pair, on the way. -/
theorem BK.two {T : List Tok} {w w1 : World} {rb g cap nb : Nat} {H H' : Nat → Option Obj} {v : Value} {ns : List (List UInt8)} {s : St} (h : BK T w w1 rb g cap nb H H' v ns s) (k : List UInt8) {b c m m2 : Nat} {x y : Ty} (hx : TRep m H' b x) (hy : TRep m2 H' c y) :
    ∃ H2 m3, BK T w ((w1.alloc (.cells #[.pointer (some ⟨b, 0, none⟩), .pointer (some ⟨c, 0, none⟩)] 33)).alloc (.cells #[.string (B k), .int .i64 0, .slice (some ⟨w1.heap.size, 0, none⟩) 2 2] 103)) rb g cap nb H H2 v ns s ∧ TRep m3 H2 (w1.heap.size + 1) ⟨k, 0, [x, y]⟩ := by
  obtain ⟨H2, m2, y1, y2, y3⟩ := ty_two h.z k hx hy
  have hsz := h.size
  exact ⟨H2, m2, ⟨(h.r.alloc _).alloc _, (h.k.alloc (by omega) _).alloc (by simp; omega) _, y1, h.x.trans y2 (by omega), ((h.n.ext y2 (Nat.le_refl _)).alloc _).alloc _, h.hr, by rw [y2.2 rb (by have := h.hr; omega)]; exact h.hn⟩, y3⟩
theorem BK.end {T : List Tok} {w w1 : World} {rb g cap nb : Nat} {H H' : Nat → Option Obj} {v : Value} {ns : List (List UInt8)} {s : St} (h : BK T w w1 rb g cap nb H H' v ns s) (hk : s.k < T.length) {b m : Nat} {x : Ty} (hx : TRep m H' b x) :
    TyPost T w w1 (.returned (.pointer (some ⟨b, 0, none⟩))) rb g cap nb H x ns s := ⟨b, H', v, m, rfl, h.r, hk, h.k, h.z, h.x, h.n, hx⟩

set_option maxRecDepth 100000 in
set_option maxHeartbeats 1000000 in
theorem one_int (T : List Tok) (n : Nat) (hT : Wf T) (w : World) (rb g cap nb : Nat) (H : Nat → Option Obj) (v : Value) (ns : List (List UInt8)) (s : St) (t : Ty) (ns' : List (List UInt8)) (s' : St) (hs : oneS (arrS T n) T ns s = some (t, ns', s'))
    (h : RS w rb g cap T s) (hk : s.k < T.length) (hz : Fz H w) (hm : NM w nb H v ns) (hr : rb < nb) (hrn : H rb = none) (hi0 : isS T s kInt = true) :
    Calls Tryz.prog 81 #[.pointer (some ⟨rb, 0, none⟩), .pointer (some ⟨nb, 0, none⟩)] w fun e w' => TyPost T w w' e rb g cap nb H t ns' s' := by
  have B0 := hid (show BK T w w rb g cap nb H H v ns s from ⟨h, KeptTo.refl _ _ _, hz, Ext.refl _ _, hm, hr, hrn⟩)
  have HS := hid hs
  clear h hz hm hs
  go_enter Tryz.func81, Tryz.ntmps81
  have HI0 := hid hi0
  clear hi0
  have e := HS.out
  unfold oneS at e
  rw [if_pos HI0.out] at e
  cases e
  clear HS
  go_wp2_with fail
  refine (take_any _ rb g cap T s kInt B0.out.r hk).mono ?_
  rintro e w1 ⟨rfl, h2, hkept⟩
  have B1 := hid (B0.out.on HI0.out h2 hkept)
  have hi0 := HI0.out
  rw [hi0]
  have hk1 : s.k + 1 < T.length := hT.up hk hi0 (by decide) (by decide)
  clear h2 hkept B0 hi0
  have P := hid (B1.out.leaf hk1 kInt 0)
  clear B1
  go_wp2
  go_ret
  exact P.out

set_option maxRecDepth 100000 in
set_option maxHeartbeats 1000000 in
theorem one_bool (T : List Tok) (n : Nat) (hT : Wf T) (w : World) (rb g cap nb : Nat) (H : Nat → Option Obj) (v : Value) (ns : List (List UInt8)) (s : St) (t : Ty) (ns' : List (List UInt8)) (s' : St) (hs : oneS (arrS T n) T ns s = some (t, ns', s'))
    (h : RS w rb g cap T s) (hk : s.k < T.length) (hz : Fz H w) (hm : NM w nb H v ns) (hr : rb < nb) (hrn : H rb = none) (hi0 : isS T s kInt = false) (hi1 : isS T s kBool = true) :
    Calls Tryz.prog 81 #[.pointer (some ⟨rb, 0, none⟩), .pointer (some ⟨nb, 0, none⟩)] w fun e w' => TyPost T w w' e rb g cap nb H t ns' s' := by
  have B0 := hid (show BK T w w rb g cap nb H H v ns s from ⟨h, KeptTo.refl _ _ _, hz, Ext.refl _ _, hm, hr, hrn⟩)
  have HS := hid hs
  clear h hz hm hs
  go_enter Tryz.func81, Tryz.ntmps81
  have HI0 := hid hi0
  have HI1 := hid hi1
  clear hi0 hi1
  have e := HS.out
  unfold oneS at e
  rw [if_neg (by rw [HI0.out]; decide)] at e
  rw [if_pos HI1.out] at e
  cases e
  clear HS
  go_wp2_with fail
  refine (take_any _ rb g cap T s kInt B0.out.r hk).mono ?_
  rintro e w1 ⟨rfl, h2, hkept⟩
  have B1 := hid (B0.out.off HI0.out h2 hkept)
  have hi0 := HI0.out
  rw [hi0]
  clear h2 hkept B0 hi0
  go_wp2_with fail
  refine (take_any _ rb g cap T s kBool B1.out.r hk).mono ?_
  rintro e w2 ⟨rfl, h2, hkept⟩
  have B2 := hid (B1.out.on HI1.out h2 hkept)
  have hi1 := HI1.out
  rw [hi1]
  have hk1 : s.k + 1 < T.length := hT.up hk hi1 (by decide) (by decide)
  clear h2 hkept B1 hi1
  have P := hid (B2.out.leaf hk1 kBool 0)
  clear B2
  go_wp2
  go_ret
  exact P.out

set_option maxRecDepth 100000 in
set_option maxHeartbeats 1000000 in
theorem one_list (T : List Tok) (n : Nat) (hT : Wf T) (hA : ARR T n) (w : World) (rb g cap nb : Nat) (H : Nat → Option Obj) (v : Value) (ns : List (List UInt8)) (s : St) (t : Ty) (ns' : List (List UInt8)) (s' : St) (hs : oneS (arrS T n) T ns s = some (t, ns', s'))
    (hb : s.bad < 0) (h : RS w rb g cap T s) (hk : s.k < T.length) (hz : Fz H w) (hm : NM w nb H v ns) (hr : rb < nb) (hg : g < nb) (hrn : H rb = none) (hl : ns.length ≤ s.k + 1) (hi0 : isS T s kInt = false) (hi1 : isS T s kBool = false) (hi2 : isS T s kSq = true) :
    Calls Tryz.prog 81 #[.pointer (some ⟨rb, 0, none⟩), .pointer (some ⟨nb, 0, none⟩)] w fun e w' => TyPost T w w' e rb g cap nb H t ns' s' := by
  have B0 := hid (show BK T w w rb g cap nb H H v ns s from ⟨h, KeptTo.refl _ _ _, hz, Ext.refl _ _, hm, hr, hrn⟩)
  have HS := hid hs
  clear h hz hm hs
  go_enter Tryz.func81, Tryz.ntmps81
  have HI0 := hid hi0
  have HI1 := hid hi1
  have HI2 := hid hi2
  clear hi0 hi1 hi2
  have e := HS.out
  unfold oneS at e
  rw [if_neg (by rw [HI0.out]; decide)] at e
  rw [if_neg (by rw [HI1.out]; decide)] at e
  rw [if_pos HI2.out] at e
  have HE := hid e
  have HA := hid hA
  clear HS e hA
  go_wp2_with fail
  refine (take_any _ rb g cap T s kInt B0.out.r hk).mono ?_
  rintro e w1 ⟨rfl, h2, hkept⟩
  have B1 := hid (B0.out.off HI0.out h2 hkept)
  have hi0 := HI0.out
  rw [hi0]
  clear h2 hkept B0 hi0
  go_wp2_with fail
  refine (take_any _ rb g cap T s kBool B1.out.r hk).mono ?_
  rintro e w2 ⟨rfl, h2, hkept⟩
  have B2 := hid (B1.out.off HI1.out h2 hkept)
  have hi1 := HI1.out
  rw [hi1]
  clear h2 hkept B1 hi1
  go_wp2_with fail
  refine (take_any _ rb g cap T s kSq B2.out.r hk).mono ?_
  rintro e w3 ⟨rfl, h2, hkept⟩
  have B3 := hid (B2.out.on HI2.out h2 hkept)
  have hi2 := HI2.out
  rw [hi2]
  have hk1 : s.k + 1 < T.length := hT.up hk hi2 (by decide) (by decide)
  clear h2 hkept B2 hi2
  have e := HE.out
  cases e1 : arrS T n ns s.up with
  | none => rw [e1] at e; cases e
  | some r =>
  obtain ⟨x, n1, s1⟩ := r
  rw [e1] at e
  cases e
  have C1 := hid (HA.out w3 rb g cap nb H v ns s.up x ns' s1 e1 hb B3.out.r hk1 B3.out.z B3.out.n hr hg hrn (by show ns.length ≤ s.k + 1 + 1; omega))
  clear e1 HE HA
  go_wp2_with fail
  refine C1.out.mono ?_
  intro e w4 p
  obtain ⟨b, H4, v4, m4, rfl, hk4, b4, r4⟩ := B3.out.post p
  have B4 := hid b4
  have R4 := hid r4
  clear p b4 r4 C1 B3
  go_wp2_with fail
  refine (need_any _ rb g cap T s1 kQs B4.out.r hk4).mono ?_
  rintro e w5 ⟨rfl, h5, hkept⟩
  have P := hid ((B4.out.step h5 hkept).one (hT.need hk4 (by decide) (by decide)) oList R4.out)
  clear h5 hkept B4 R4
  go_wp2
  go_ret
  exact P.out

set_option maxRecDepth 100000 in
set_option maxHeartbeats 1000000 in
theorem one_open (T : List Tok) (n : Nat) (hT : Wf T) (hA : ARR T n) (w : World) (rb g cap nb : Nat) (H : Nat → Option Obj) (v : Value) (ns : List (List UInt8)) (s : St) (t : Ty) (ns' : List (List UInt8)) (s' : St) (hs : oneS (arrS T n) T ns s = some (t, ns', s'))
    (hb : s.bad < 0) (h : RS w rb g cap T s) (hk : s.k < T.length) (hz : Fz H w) (hm : NM w nb H v ns) (hr : rb < nb) (hg : g < nb) (hrn : H rb = none) (hl : ns.length ≤ s.k + 1) (hi0 : isS T s kInt = false) (hi1 : isS T s kBool = false) (hi2 : isS T s kSq = false) (hi3 : isS T s kOpen = true) :
    Calls Tryz.prog 81 #[.pointer (some ⟨rb, 0, none⟩), .pointer (some ⟨nb, 0, none⟩)] w fun e w' => TyPost T w w' e rb g cap nb H t ns' s' := by
  have B0 := hid (show BK T w w rb g cap nb H H v ns s from ⟨h, KeptTo.refl _ _ _, hz, Ext.refl _ _, hm, hr, hrn⟩)
  have HS := hid hs
  clear h hz hm hs
  go_enter Tryz.func81, Tryz.ntmps81
  have HI0 := hid hi0
  have HI1 := hid hi1
  have HI2 := hid hi2
  have HI3 := hid hi3
  clear hi0 hi1 hi2 hi3
  have e := HS.out
  unfold oneS at e
  rw [if_neg (by rw [HI0.out]; decide)] at e
  rw [if_neg (by rw [HI1.out]; decide)] at e
  rw [if_neg (by rw [HI2.out]; decide)] at e
  rw [if_pos HI3.out] at e
  have HE := hid e
  have HA := hid hA
  clear HS e hA
  go_wp2_with fail
  refine (take_any _ rb g cap T s kInt B0.out.r hk).mono ?_
  rintro e w1 ⟨rfl, h2, hkept⟩
  have B1 := hid (B0.out.off HI0.out h2 hkept)
  have hi0 := HI0.out
  rw [hi0]
  clear h2 hkept B0 hi0
  go_wp2_with fail
  refine (take_any _ rb g cap T s kBool B1.out.r hk).mono ?_
  rintro e w2 ⟨rfl, h2, hkept⟩
  have B2 := hid (B1.out.off HI1.out h2 hkept)
  have hi1 := HI1.out
  rw [hi1]
  clear h2 hkept B1 hi1
  go_wp2_with fail
  refine (take_any _ rb g cap T s kSq B2.out.r hk).mono ?_
  rintro e w3 ⟨rfl, h2, hkept⟩
  have B3 := hid (B2.out.off HI2.out h2 hkept)
  have hi2 := HI2.out
  rw [hi2]
  clear h2 hkept B2 hi2
  go_wp2_with fail
  refine (take_any _ rb g cap T s kOpen B3.out.r hk).mono ?_
  rintro e w4 ⟨rfl, h2, hkept⟩
  have B4 := hid (B3.out.on HI3.out h2 hkept)
  have hi3 := HI3.out
  rw [hi3]
  have hk1 : s.k + 1 < T.length := hT.up hk hi3 (by decide) (by decide)
  clear h2 hkept B3 hi3
  have e := HE.out
  cases e1 : arrS T n ns s.up with
  | none => rw [e1] at e; cases e
  | some r =>
  obtain ⟨x, n1, s1⟩ := r
  rw [e1] at e
  dsimp only at e
  have HE2 := hid e
  have W1 := hid (arr_went T n _ s.up _ _ _ hb e1)
  have C1 := hid (HA.out w4 rb g cap nb H v ns s.up x n1 s1 e1 hb B4.out.r hk1 B4.out.z B4.out.n hr hg hrn (by show ns.length ≤ s.k + 1 + 1; omega))
  clear e1 HE e
  go_wp2_with fail
  refine C1.out.mono ?_
  intro e w5 p
  obtain ⟨b, H5, v5, m5, rfl, hk5, b5, r5⟩ := B4.out.post p
  have B5 := hid b5
  have R5 := hid r5
  clear p b5 r5 C1 B4
  go_wp2_with fail
  refine (take_any _ rb g cap T s1 kComma B5.out.r hk5).mono ?_
  rintro e w6 ⟨rfl, h6, hkept⟩
  cases hi : isS T s1 kComma with
  | false =>
    have B6 := hid (B5.out.off hi h6 hkept)
    have e := HE2.out
    rw [if_neg (by rw [hi]; decide)] at e
    cases e
    clear h6 hkept B5 HE2 hi
    go_wp2_with fail
    refine (need_any _ rb g cap T s1 kShut B6.out.r hk5).mono ?_
    rintro e w7 ⟨rfl, h7, hkept⟩
    have P := hid ((B6.out.step h7 hkept).end (hT.need hk5 (by decide) (by decide)) R5.out)
    clear h7 hkept B6 R5
    go_wp2
    go_ret
    exact P.out
  | true =>
    have B6 := hid (B5.out.on hi h6 hkept)
    have e := HE2.out
    rw [if_pos hi] at e
    have hk6 : s1.k + 1 < T.length := hT.up hk5 hi (by decide) (by decide)
    have hs1 := isS_ok hi
    have hn1 : n1.length ≤ s1.up.k + 1 := by
      have := (W1.out.2.2.2 hs1).1
      have hu : s.up.k = s.k + 1 := rfl
      show n1.length ≤ s1.k + 1 + 1
      omega
    cases e2 : arrS T n n1 s1.up with
    | none => rw [e2] at e; cases e
    | some r2 =>
    obtain ⟨y, n2, s2⟩ := r2
    rw [e2] at e
    cases e
    have C2 := hid (HA.out w6 rb g cap nb H5 v5 n1 s1.up y ns' s2 e2 hs1 B6.out.r hk6 B6.out.z B6.out.n hr hg B6.out.hn hn1)
    clear e2 HA h6 hkept B5 HE2 hi
    go_wp2_with fail
    refine C2.out.mono ?_
    intro e w7 p
    obtain ⟨c, H7, v7, m7, rfl, hk7, b7, x7, r7⟩ := B6.out.post2 p
    obtain ⟨H8, m8, b8, r8⟩ := b7.two oPair (TRep.ext x7 _ _ _ R5.out) r7
    have B8 := hid b8
    have R8 := hid r8
    clear p b7 x7 r7 b8 r8 C2 B6 R5
    go_wp2_with fail
    refine (need_any _ rb g cap T s2 kShut B8.out.r hk7).mono ?_
    rintro e w9 ⟨rfl, h9, hkept⟩
    have P := hid ((B8.out.step h9 hkept).end (hT.need hk7 (by decide) (by decide)) R8.out)
    clear h9 hkept B8 R8
    go_wp2
    go_ret
    exact P.out
end Go.Proofs.YtcdijppegfcoaaaGreatDoor

/-
  OUR OWN TEXT. typerref's reader of types: one, where a name stands.
-/
namespace Go.Proofs.YtcdijppegfcoaaaGreatDoor
open Go.RowKit

theorem NM.blkA {w w1 : World} {nb : Nat} {H : Nat → Option Obj} {v : Value} {ns : List (List UInt8)} (h : NM w nb H v ns) {o : Obj} (hg : (w.alloc o).grownBy w1 v.ownBlock) : w1.heap[nb]? = some (.cells #[v] 34 (0, 0)) := by
  have hl := lt_of_block h.blk
  rw [hg.block nb (by simp; omega) (fun e => row_not h.row h.blk (by decide) nb e rfl), Below.heap_alloc _ _ _ hl]
  exact h.blk
theorem set1_0 {w : World} {b : Nat} {p : Value} {t : TypeId} (h : w.heap[b]? = some (.cells #[p] t (0, 0))) (u : Value) : (w.setCell ⟨b, 0, none⟩ u).heap[b]? = some (.cells #[u] t (0, 0)) := by
  simp [World.setCell, Array.getElem?_modify, h]
/-- A name more. -/
theorem NM.add {w w1 : World} {nb : Nat} {H : Nat → Option Obj} {v : Value} {ns : List (List UInt8)} (h : NM w nb H v ns) (hz : Fz H w) {n : List UInt8} {o : Obj} {g cap : Nat}
    (hown : w1.ownsRow nb 9 1 (.slice (some ⟨g, 0, none⟩) (ns.length + 1) cap) (ns.length + 1) (strs ns ++ [.string (B n)])) (hg : (w.alloc o).grownBy w1 v.ownBlock) (hat : v.ownBlock = some g ∨ g = w.heap.size + 1) :
    NM (w1.setCell ⟨nb, 0, none⟩ (.slice (some ⟨g, 0, none⟩) (ns.length + 1) cap)) nb H (.slice (some ⟨g, 0, none⟩) (ns.length + 1) cap) (ns ++ [n]) ∧
    Fz H (w1.setCell ⟨nb, 0, none⟩ (.slice (some ⟨g, 0, none⟩) (ns.length + 1) cap)) ∧ (∀ rb, KeptTo nb rb w (w1.setCell ⟨nb, 0, none⟩ (.slice (some ⟨g, 0, none⟩) (ns.length + 1) cap))) ∧ ∀ k, k < nb → (w1.setCell ⟨nb, 0, none⟩ (.slice (some ⟨g, 0, none⟩) (ns.length + 1) cap)).heap[k]? = w.heap[k]? := by
  have hl := lt_of_block h.blk
  have same : ∀ k, k < w.heap.size → some k ≠ v.ownBlock → w1.heap[k]? = w.heap[k]? := fun k h1 h2 => by
    rw [hg.block k (by simp; omega) h2, Below.heap_alloc _ _ _ h1]
  have b1 := h.blkA hg
  have nH : H g = none := by
    rcases hat with e | e
    · exact h.hn g e.symm
    · rw [e]; exact hz.none (by omega)
  have fz1 : Fz H w1 := fun k o' e => by
    rw [same k (hz.lt e) (fun e' => by rw [h.hn k e'] at e; cases e)]
    exact hz k o' e
  refine ⟨⟨set1_0 b1 _, ?_, h.hx, fun k e => ?_⟩, fz1.set h.hx _ _, ?_, fun k hk => ?_⟩
  · have e1 : (ns ++ [n]).length = ns.length + 1 := by simp
    have e2 : strs (ns ++ [n]) = strs ns ++ [.string (B n)] := by simp [strs]
    rw [e1, e2]
    exact own_at hown fun k e => Below.heap_setCell _ _ _ _ (row_not hown b1 (by decide) k e)
  · simp only [Value.ownBlock, Option.some.injEq] at e
    rw [e]; exact nH
  · intro rb
    have kt : KeptTo nb rb w w1 := ⟨hg.os, hg.tape, hg.output, Nat.le_trans (by simp) hg.size, fun k hk _ => same k (by omega) (fun e => by have := (own_lt h.row e).1; omega)⟩
    exact kt.setCell (Nat.le_refl _) _ _
  · rw [Below.heap_setCell _ _ _ _ (by show k ≠ nb; omega)]
    exact same k (by omega) (fun e => by have := (own_lt h.row e).1; omega)
end Go.Proofs.YtcdijppegfcoaaaGreatDoor

/-
  OUR OWN TEXT (written by mkone.py). typerref's reader of types: one, where a name stands: the walk; one whole; arrow whole.
-/
namespace Go.Proofs.YtcdijppegfcoaaaGreatDoor
open Go.RowKit

theorem cell1 {w : World} {b : Nat} {p : Value} {t : TypeId} (h : w.heap[b]? = some (.cells #[p] t (0, 0))) : w.cell? ⟨b, 0, none⟩ = some p ∧ w.frozen? ⟨b, 0, none⟩ = false := by simp [World.cell?, World.frozen?, h]
theorem idx_at {n : List UInt8} : ∀ (ns : List (List UInt8)) (j : Nat), j < ns.length → ns.getD j [] = n → n ∉ ns.take j → ns.idxOf n = j
  | [], j, hj, _, _ => by simp at hj
  | a :: l, 0, _, hn, _ => by
    have e : a = n := by simpa using hn
    rw [e]
    simp
  | a :: l, j + 1, hj, hn, hno => by
    have hne : a ≠ n := fun e => hno (by simp [e])
    have h2 : n ∉ l.take j := fun e => hno (by simp [e])
    have ih := idx_at l j (by simpa using hj) (by simpa using hn) h2
    have hb : (a == n) = false := beq_eq_false_iff_ne.2 hne
    simp [List.idxOf_cons, hb, ih]
theorem num_found {ns : List (List UInt8)} {n : List UInt8} {j : Nat} (hj : j < ns.length) (hn : ns.getD j [] = n) (hno : n ∉ ns.take j) : numS ns n = (j, ns) := by
  have e : ns[j] = n := by simpa [List.getD, hj] using hn
  have hm : n ∈ ns := by rw [← e]; exact List.getElem_mem hj
  unfold numS
  rw [if_pos hm, idx_at ns j hj hn hno]

set_option maxRecDepth 100000 in
set_option maxHeartbeats 1000000 in
theorem one_name (T : List Tok) (n : Nat) (hT : Wf T) (w : World) (rb g cap nb : Nat) (H : Nat → Option Obj) (v : Value) (ns : List (List UInt8)) (s : St) (t : Ty) (ns' : List (List UInt8)) (s' : St) (hs : oneS (arrS T n) T ns s = some (t, ns', s'))
    (h : RS w rb g cap T s) (hk : s.k < T.length) (hz : Fz H w) (hm : NM w nb H v ns) (hr : rb < nb) (hg : g < nb) (hrn : H rb = none) (hl : ns.length ≤ s.k + 1) (hi0 : isS T s kInt = false) (hi1 : isS T s kBool = false) (hi2 : isS T s kSq = false) (hi3 : isS T s kOpen = false)  :
    Calls Tryz.prog 81 #[.pointer (some ⟨rb, 0, none⟩), .pointer (some ⟨nb, 0, none⟩)] w fun e w' => TyPost T w w' e rb g cap nb H t ns' s' := by
  have B0 := hid (show BK T w w rb g cap nb H H v ns s from ⟨h, KeptTo.refl _ _ _, hz, Ext.refl _ _, hm, hr, hrn⟩)
  have HS := hid hs
  clear h hz hm hs
  have HI0 := hid hi0
  have HI1 := hid hi1
  have HI2 := hid hi2
  have HI3 := hid hi3
  clear hi0 hi1 hi2 hi3
  have e := HS.out
  unfold oneS at e
  rw [if_neg (by rw [HI0.out]; decide)] at e
  rw [if_neg (by rw [HI1.out]; decide)] at e
  rw [if_neg (by rw [HI2.out]; decide)] at e
  rw [if_neg (by rw [HI3.out]; decide)] at e
  cases e
  clear HS
  obtain ⟨nm, hnm⟩ : ∃ nm, nm = (tk T s.k).s := ⟨_, rfl⟩
  rw [← hnm]
  obtain ⟨s5, hs5e⟩ : ∃ s5, s5 = needS T s kName := ⟨_, rfl⟩
  rw [← hs5e]
  have HNM := hid hnm
  have HS5 := hid hs5e
  clear hnm hs5e
  go_enter Tryz.func81, Tryz.ntmps81
  go_wp2_with fail
  refine (take_any _ rb g cap T s kInt B0.out.r hk).mono ?_
  rintro e w1 ⟨rfl, h2, hkept⟩
  have B1 := hid (B0.out.off HI0.out h2 hkept)
  have hi0 := HI0.out
  rw [hi0]
  clear h2 hkept B0 hi0
  go_wp2_with fail
  refine (take_any _ rb g cap T s kBool B1.out.r hk).mono ?_
  rintro e w2 ⟨rfl, h2, hkept⟩
  have B2 := hid (B1.out.off HI1.out h2 hkept)
  have hi1 := HI1.out
  rw [hi1]
  clear h2 hkept B1 hi1
  go_wp2_with fail
  refine (take_any _ rb g cap T s kSq B2.out.r hk).mono ?_
  rintro e w3 ⟨rfl, h2, hkept⟩
  have B3 := hid (B2.out.off HI2.out h2 hkept)
  have hi2 := HI2.out
  rw [hi2]
  clear h2 hkept B2 hi2
  go_wp2_with fail
  refine (take_any _ rb g cap T s kOpen B3.out.r hk).mono ?_
  rintro e w4 ⟨rfl, h2, hkept⟩
  have B4 := hid (B3.out.off HI3.out h2 hkept)
  have hi3 := HI3.out
  rw [hi3]
  clear h2 hkept B3 hi3
  go_wp2_with fail
  refine (need_any _ rb g cap T s kName B4.out.r hk).mono ?_
  rintro e w5 ⟨rfl, h5, hkept⟩
  have B5 := hid (B4.out.step h5 hkept)
  have hk5 : (needS T s kName).k < T.length := hT.need hk (by decide) (by decide)
  have hs5 := B5.out.size
  have hlT := B5.out.r.len
  clear h5 hkept B4
  rw [← HNM.out]
  rw [← HS5.out] at B5 hk5
  clear HNM HS5
  obtain ⟨c0, f0⟩ := B5.out.n.cell
  have hrow := B5.out.n.row
  obtain ⟨ao, cp, hv, hcell⟩ := own_view hrow
  subst hv
  have HC := hid hcell
  clear hcell
  go_wp2_with fail
  go_loopg [56] (ns.length + 1) (fun gh i wi => ∃ j : Nat, j ≤ ns.length ∧ i = .int .i64 j ∧ gh = ns.length - j + 1 ∧ wi = w5 ∧ nm ∉ ns.take j)
  case atStart => exact ⟨0, by omega, rfl, by omega, rfl, by simp⟩
  case round =>
    obtain ⟨j, hj, rfl, hgj, rfl, hno⟩ := hrel
    by_cases hjl : j < ns.length
    · obtain ⟨gn, rfl, hgn, hgl, hcell⟩ := HC.out j hjl
      obtain ⟨nj, hnj⟩ : ∃ nj, nj = ns.getD j [] := ⟨_, rfl⟩
      rw [← hnj] at hcell
      by_cases hA : nj = nm
      · have h1 : ((B nj).toList == (B nm).toList) = true := by rw [hA]; exact beq_self_eq_true _
        have NF := hid (num_found hjl (hnj.symm.trans hA) hno)
        have P := hid (B5.out.leaf hk5 [] j)
        clear hA hnj hno
        go_wp2
        go_ret
        rw [NF.out]
        exact P.out
      · have h1 : ((B nj).toList == (B nm).toList) = false := by rw [toList_B, toList_B]; exact beq_eq_false_iff_ne.2 hA
        have HN := hid (show nm ∉ ns.take (j + 1) from fun hx => by
          rw [kw_take ns j hjl] at hx
          rcases List.mem_append.1 hx with hx | hx
          · exact hno hx
          · exact hA (hnj.trans (List.mem_singleton.1 hx).symm))
        clear hA hnj hno
        go_wp2
        go_roundg (ns.length - (j + 1) + 1)
        case measure => omega
        case rel => exact ⟨j + 1, by omega, by go_num, rfl, rfl, HN.out⟩
    · have hje : j = ns.length := by omega
      subst hje
      have hno' : nm ∉ ns := by simpa using hno
      have HN := hid (show numS ns nm = (ns.length, ns ++ [nm]) by unfold numS; rw [if_neg hno'])
      clear hno hno'
      obtain ⟨i0, hi, hz0, hz1, hz2⟩ := info_parts info_str
      go_wp2_with (at_builtin; refine wpList_append_lies _ rfl (.tmp 71) (.tmp 73) 34 rfl nb 9 i0 (.string (B [])) 1 16 Tryz.underlying34 hi hz0 hz1 hz2 rfl (by decide) _ _ _ rfl (hrow.alloc _) ⟨wr.heap.size, 0, none⟩ 1 1 [.string (B nm)] rfl rfl ?d1 ?d2 (by decide) ?d3 ?d4 ?d5 (wr.heap.size + 1) ?d6 ?_)
      case d1 => exact one_new _ _ _
      case d2 => exact one_str _
      case d3 => unfold maxLen; omega
      case d4 => omega
      case d5 => simp; omega
      case d6 => simp
      intro g2 cap2 w6 hown6 hgrow6 hat6 _
      have q0 := (cell1 (B5.out.n.blkA hgrow6)).1
      have q1 := (cell1 (B5.out.n.blkA hgrow6)).2
      have A6 := hid (And.intro hown6 (And.intro hgrow6 hat6))
      clear hown6 hgrow6 hat6
      all_goals
       obtain ⟨hown6, hgrow6, hat6⟩ := A6.out
       obtain ⟨a1, a2, a3, a4⟩ := B5.out.n.add B5.out.z hown6 hgrow6 hat6
       have B6 := hid (show BK T w (w6.setCell ⟨nb, 0, none⟩ (.slice (some ⟨g2, 0, none⟩) (ns.length + 1) cap2)) rb g cap nb H H (.slice (some ⟨g2, 0, none⟩) (ns.length + 1) cap2) (ns ++ [nm]) s5 from
         ⟨B5.out.r.to hg (fun k hk => a4 k hk) hr, B5.out.k.trans (a3 rb), a2, B5.out.x, a1, hr, B5.out.hn⟩)
       have p0 := B6.out.leaf hk5 [] ns.length
       rw [show (w6.setCell ⟨nb, 0, none⟩ (.slice (some ⟨g2, 0, none⟩) (ns.length + 1) cap2)).heap.size = w6.heap.size by simp [World.setCell]] at p0
       have P := hid p0
       clear p0
       obtain ⟨u0, u1⟩ := B6.out.n.cell
       clear a1 a2 a3 a4 hown6 hgrow6 hat6 B6 A6
       go_wp2
       go_ret
       rw [HN.out]
       exact P.out

theorem one_all (T : List Tok) (n : Nat) (hT : Wf T) (hA : ARR T n) : ONE T n := by
  intro w rb g cap nb H v ns s t ns' s' hs hb h hk hz hm hr hg hrn hl
  cases h0 : isS T s kInt with
  | true => exact one_int T n hT w rb g cap nb H v ns s t ns' s' hs h hk hz hm hr hrn h0
  | false =>
  cases h1 : isS T s kBool with
  | true => exact one_bool T n hT w rb g cap nb H v ns s t ns' s' hs h hk hz hm hr hrn h0 h1
  | false =>
  cases h2 : isS T s kSq with
  | true => exact one_list T n hT hA w rb g cap nb H v ns s t ns' s' hs hb h hk hz hm hr hg hrn hl h0 h1 h2
  | false =>
  cases h3 : isS T s kOpen with
  | true => exact one_open T n hT hA w rb g cap nb H v ns s t ns' s' hs hb h hk hz hm hr hg hrn hl h0 h1 h2 h3
  | false => exact one_name T n hT w rb g cap nb H v ns s t ns' s' hs h hk hz hm hr hg hrn hl h0 h1 h2 h3
theorem arr_all (T : List Tok) (hT : Wf T) : ∀ n, ARR T n
  | 0 => fun w rb g cap nb H v ns s t ns' s' hs => by cases hs
  | n + 1 => arrow_step T n hT (one_all T n hT (arr_all T hT n)) (arr_all T hT n)
end Go.Proofs.YtcdijppegfcoaaaGreatDoor

/-
  OUR OWN TEXT. typerref.Parsed.
-/
namespace Go.Proofs.YtcdijppegfcoaaaGreatDoor
open Go.RowKit

/-- What Parsed answers: s2: where its reader stands at last. -/
def ParsedPost (w w' : World) (e : Ending) (t : Ty) (ns : List (List UInt8)) (s2 : St) : Prop :=
  Below w.heap.size w w' ∧ ((0 ≤ s2.bad ∧ e = .returned (.tuple #[.pointer none, .slice none 0 0, fv 2 s2.bad])) ∨
    (s2.bad < 0 ∧ ∃ m, TyOk ns.length m t ∧ ((120 < tySize m t ∧ e = .returned (.tuple #[.pointer none, .slice none 0 0, fv 8 0])) ∨
      (tySize m t ≤ 120 ∧ ∃ b H' v, e = .returned (.tuple #[.pointer (some ⟨b, 0, none⟩), v, fv 0 0]) ∧ Fz H' w' ∧ TRep m H' b t ∧ w'.ownsRow w.heap.size 9 1 v ns.length (strs ns) ∧ ∀ k, some k = v.ownBlock → H' k = none))))

theorem own_base {w : World} {base base' e size n : Nat} {v : Value} {xs : List Value} (h : w.ownsRow base e size v n xs) (hb : base' ≤ base) : w.ownsRow base' e size v n xs := by
  obtain ⟨h1, h2⟩ := h
  refine ⟨h1, ?_⟩
  rcases h2 with h2 | ⟨g, cap, cur, rfl, hg, r⟩
  · exact Or.inl h2
  · exact Or.inr ⟨g, cap, cur, rfl, Nat.le_trans hb hg, r⟩
theorem drew_heap (w : World) : w.drew.heap = w.heap := rfl
theorem fv_other {w3 : World} {fb k : Nat} (v0 v1 v2 v3 v4 : Value) (hk : k ≠ fb) : ((((((w3.setCell ⟨fb, 0, none⟩ v0).setCell ⟨fb, 1, none⟩ v1).setCell ⟨fb, 2, none⟩ v2).setCell ⟨fb, 3, none⟩ v3).setCell ⟨fb, 4, none⟩ v4).drew).heap[k]? = w3.heap[k]? := by
  rw [drew_heap, Below.heap_setCell _ _ _ _ hk, Below.heap_setCell _ _ _ _ hk, Below.heap_setCell _ _ _ _ hk, Below.heap_setCell _ _ _ _ hk, Below.heap_setCell _ _ _ _ hk]

set_option maxRecDepth 100000 in
set_option maxHeartbeats 1000000 in
theorem parsed_any (s : ByteArray) (kb ko kc : Nat) (kw : List (List UInt8)) (w : World) (hg : w.cell? ⟨1, 0, none⟩ = some (.slice (some ⟨kb, ko, none⟩) kw.length kc)) (hg0 : 1 < w.heap.size) (hk : KwO w kb ko kw) (hkb : kb < w.heap.size) (hkl : kw.length ≤ 100) (hs : s.size ≤ 300)
    (x : Ty) (ns : List (List UInt8)) (s1 : St) (n : Nat) (hx : arrS (toksOf kw s) n [] ⟨0, -1⟩ = some (x, ns, s1)) :
    Calls Tryz.prog 19 #[.string s] w fun e w' => ParsedPost w w' e x ns (needS (toksOf kw s) s1 kEnd) := by
  have hg1 := fun ob => old_cell ob hg hg0
  have HK := hid hk
  have HX := hid hx
  clear hk hx
  have hs' : (s.size : Int) ≤ 300 := by omega
  obtain ⟨f1, f2, f3⟩ := toks_facts kw s (s.size + 1) 0 (Nat.zero_le _) (by omega)
  have hlen := toksOf_len kw s
  have F1 := hid f1
  have F3 := hid f3
  clear f1 f2 f3
  obtain ⟨T, hT⟩ : ∃ T, T = toksOf kw s := ⟨_, rfl⟩
  rw [show toks kw s.data.toList (s.size + 1) 0 = T from hT.symm] at F1 F3
  rw [← hT] at HX hlen ⊢
  have HT := hid hT
  clear hT
  go_enter Tryz.func19, Tryz.ntmps19
  go_wp2_with fail
  refine (tokens_any s kb ko kc kw _ hs ?_ ?_ hkl).mono ?_
  · exact fun j hj => old_cell _ (HK.out j hj) hkb
  · simp; omega
  rintro e1 w1 ⟨v, rfl, hown, hbel⟩
  rw [show toks kw s.data.toList (s.size + 1) 0 = T from HT.out.symm] at hown
  obtain ⟨_, hown⟩ := hown
  rcases hown with ⟨_, h0⟩ | ⟨g, cap, cur, rfl, hgb, hgh, _, _, _, hgt⟩
  · exact absurd F1.out.1 (by omega)
  have hgl := lt_of_block hgh
  have R0 := hid ((rs_new (cap := cap) hgh hgt (by omega) (fun k => by have := F3.out k; omega)).alloc (.cells #[.slice none 0 0] 34))
  have hfb1 : w1.heap[w.heap.size]? = some (.cells #[.int .i64 0, .int .i64 0, .string (B []), .int .i64 0, .int .i64 0] 27 (0, 0)) := by
    rw [hbel.block _ (by simp)]; exact heap_alloc_new _ _
  have hs1 : w.heap.size < w1.heap.size := lt_of_block hfb1
  have hb1 : Below w.heap.size w w1 := ((Below.refl _ _).alloc (Nat.le_refl _) _).trans (hbel.mono (by simp))
  have HF1 := hid hfb1
  have HB1 := hid hb1
  clear hbel hgh hgt hfb1 hb1
  obtain ⟨wr, hwr⟩ : ∃ wr, wr = (w1.alloc (.cells #[.slice (some ⟨g, 0, none⟩) T.length cap, .int .i64 0, .int .i64 (-1)] 80)).alloc (.cells #[.slice none 0 0] 34) := ⟨_, rfl⟩
  have hwz : wr.heap.size = w1.heap.size + 2 := by rw [hwr]; simp
  have hwn : wr.heap[w1.heap.size + 1]? = some (.cells #[.slice none 0 0] 34 (0, 0)) := by rw [hwr]; exact heap_alloc_at _ _ _ (by simp)
  have hwo : ∀ k, k < w1.heap.size → wr.heap[k]? = w1.heap[k]? := fun k hk => by rw [hwr, Below.heap_alloc _ _ _ (by simp; omega), Below.heap_alloc _ _ _ hk]
  have hwb : Below w.heap.size w wr := by rw [hwr]; exact (HB1.out.alloc (by omega) _).alloc (by simp; omega) _
  have N0 : NM wr (w1.heap.size + 1) (fun _ => none) (.slice none 0 0) [] := ⟨hwn, World.ownsRow_nil _ _ _ _, rfl, fun k e => by cases e⟩
  rw [← hwr] at R0
  have hk0 : (0 : Nat) < T.length := F1.out.1
  have C1 := hid (arr_all T F1.out n wr w1.heap.size g cap (w1.heap.size + 1) (fun _ => none) (.slice none 0 0) [] ⟨0, -1⟩ x ns s1 HX.out (by show (-1 : Int) < 0; omega) R0.out hk0 (fz_none _) N0 (by omega) (by omega) rfl (by simp))
  have HWR := hid hwr
  have HWO := hid hwo
  have HWB := hid hwb
  clear N0 hwn hwo hwb R0
  go_wp2_with fail
  rw [← HWR.out]
  clear hwr HWR
  refine C1.out.mono ?_
  rintro e2 w2 ⟨b, H2, v2, m, rfl, hr2, hk2, kt2, hz2, hext2, nm2, hrep2⟩
  have hH2 : H2 w1.heap.size = none := (hext2.2 _ (by omega)).trans rfl
  have hHf : H2 w.heap.size = none := (hext2.2 _ (by omega)).trans rfl
  have R2 := hid hr2
  have K2 := hid kt2
  have HZ2 := hid hz2
  have HR2 := hid hrep2
  have N2 := hid nm2
  have hw2 : wr.heap.size ≤ w2.heap.size := kt2.size
  clear hr2 kt2 hz2 hext2 hrep2 nm2 C1
  go_wp2_with fail
  refine (need_any w2 w1.heap.size g cap T s1 kEnd R2.out hk2).mono ?_
  rintro e3 w3 ⟨rfl, hr3, hkept3⟩
  have kt3 : KeptTo (w1.heap.size + 1) w1.heap.size wr w3 := K2.out.trans (KeptTo.of hkept3 (by omega))
  have hfb3 : w3.heap[w.heap.size]? = some (.cells #[.int .i64 0, .int .i64 0, .string (B []), .int .i64 0, .int .i64 0] 27 (0, 0)) := by
    rw [kt3.block _ (by omega) (by omega), HWO.out _ hs1]; exact HF1.out
  have hb3 : Below w.heap.size w w3 := HWB.out.trans ⟨kt3.os, kt3.tape, kt3.output, kt3.size, fun k hk => kt3.block k (by omega) (by omega)⟩
  have hz3 : Fz H2 w3 := HZ2.out.kept hkept3 hH2
  have N3 := hid (N2.out.kept hkept3 (Ext.refl _ _) (by omega))
  have c2 := hr3.cell2
  have HF3 := hid hfb3
  have HB3 := hid hb3
  have HZ3 := hid hz3
  clear hfb3 hb3 hz3 kt3 hkept3 K2 R2 HZ2 N2
  obtain ⟨s2, hs2⟩ : ∃ s2, s2 = needS T s1 kEnd := ⟨_, rfl⟩
  rw [← hs2] at hr3 c2
  have HS2 := hid hs2
  have R3 := hid hr3
  clear hs2 hr3
  have q0 : w3.cell? ⟨w.heap.size, 0, none⟩ = some (.int .i64 0) := by simp [World.cell?, HF3.out]
  have q1 : w3.cell? ⟨w.heap.size, 1, none⟩ = some (.int .i64 0) := by simp [World.cell?, HF3.out]
  have q2 : w3.cell? ⟨w.heap.size, 2, none⟩ = some (.string (B [])) := by simp [World.cell?, HF3.out]
  have q3 : w3.cell? ⟨w.heap.size, 3, none⟩ = some (.int .i64 0) := by simp [World.cell?, HF3.out]
  have q4 : w3.cell? ⟨w.heap.size, 4, none⟩ = some (.int .i64 0) := by simp [World.cell?, HF3.out]
  have z0 : w3.frozen? ⟨w.heap.size, 0, none⟩ = false := by simp [World.frozen?, HF3.out]
  have z1 : w3.frozen? ⟨w.heap.size, 1, none⟩ = false := by simp [World.frozen?, HF3.out]
  have z2 : w3.frozen? ⟨w.heap.size, 2, none⟩ = false := by simp [World.frozen?, HF3.out]
  have z3 : w3.frozen? ⟨w.heap.size, 3, none⟩ = false := by simp [World.frozen?, HF3.out]
  have z4 : w3.frozen? ⟨w.heap.size, 4, none⟩ = false := by simp [World.frozen?, HF3.out]
  by_cases hbad : 0 ≤ s2.bad
  · go_wp2_with fail
    go_region
    go_wp2
    (try simp only [Exit.inBlock, Exit.then])
    refine bodyPost_ret (v := .tuple #[.pointer none, .slice none 0 0, fv 2 s2.bad]) (by simp [results, Tryz.results19, go_sem, q0, q1, q2, q3, q4]; rfl) rfl ?_
    rw [← HS2.out]
    exact ⟨fv_below HB3.out _ _ _ _ _, Or.inl ⟨hbad, rfl⟩⟩
  · have hneg : s2.bad < 0 := by omega
    obtain ⟨m', ok, sz1, _⟩ := arr_made T n [] ⟨0, -1⟩ x ns s1 (by show (-1 : Int) < 0; omega) HX.out
    obtain ⟨M, hM⟩ : ∃ M, M = max m m' := ⟨_, rfl⟩
    have okM : TyOk ns.length M x := ok.le (by omega)
    have esz : tySize M x = tySize m' x := TyOk.size _ _ _ ok (by omega)
    have hrM : TRep M H2 b x := HR2.out.le (by omega)
    have hdl : tySize M x ≤ 400 := by
      have : tySize m' x + 0 ≤ s1.k + 1 := sz1
      omega
    have SZ := hid (size_any M H2 b x w3 hrM HZ3.out (by omega) okM.sm)
    obtain ⟨d, hd⟩ : ∃ d, d = tySize M x := ⟨_, rfl⟩
    rw [← hd] at SZ hdl
    have HD := hid hd
    have OKM := hid okM
    have HRM := hid hrM
    have qn := N3.out.cell.1
    clear hd okM hrM hM HR2 ok sz1 esz
    by_cases h40 : 120 < d
    · have h40' : (120 : Int) < (d : Int) := by omega
      go_wp2_with fail
      refine SZ.out.mono ?_
      rintro e4 w4 ⟨rfl, rfl⟩
      go_wp2_with fail
      (try go_region)
      (try go_wp2)
      (try simp only [Exit.inBlock, Exit.then])
      refine bodyPost_ret (v := .tuple #[.pointer none, .slice none 0 0, fv 8 0]) (by simp [results, Tryz.results19, go_sem, q0, q1, q2, q3, q4]; rfl) rfl ?_
      rw [← HS2.out]
      exact ⟨fv_below' HB3.out _ _ _ _ _, Or.inr ⟨hneg, M, OKM.out, Or.inl ⟨by rw [← HD.out]; exact h40, rfl⟩⟩⟩
    · have h40' : ¬ (120 : Int) < (d : Int) := by omega
      go_wp2_with fail
      refine SZ.out.mono ?_
      rintro e4 w4 ⟨rfl, rfl⟩
      go_wp2_with fail
      go_region
      go_wp2
      (try simp only [Exit.inBlock, Exit.then])
      refine bodyPost_ret (v := .tuple #[.pointer (some ⟨b, 0, none⟩), v2, fv 0 0]) (by simp [results, Tryz.results19, go_sem, q0, q1, q2, q3, q4]; rfl) rfl ?_
      rw [← HS2.out]
      refine ⟨fv_below HB3.out _ _ _ _ _, Or.inr ⟨hneg, M, OKM.out, Or.inr ⟨by rw [← HD.out]; omega, b, H2, v2, rfl, ?_, HRM.out, ?_, N3.out.hn⟩⟩⟩
      · exact ((((HZ3.out.set hHf _ _).set hHf _ _).set hHf _ _).set hHf _ _).set hHf _ _
      · refine own_base (own_at N3.out.row fun k e => fv_other _ _ _ _ _ ?_) (by omega)
        have := (own_lt N3.out.row e).1
        omega
end Go.Proofs.YtcdijppegfcoaaaGreatDoor

/-
  OUR OWN TEXT. typerref.Parsed at a text that is too long; types' texts by more fuel.
-/
namespace Go.Proofs.YtcdijppegfcoaaaGreatDoor
open Go.RowKit

set_option maxRecDepth 100000 in
set_option maxHeartbeats 1000000 in
theorem parsed_long (s : ByteArray) (w : World) (hs : 300 < s.size) :
    Calls Tryz.prog 19 #[.string s] w fun e w' => Below w.heap.size w w' ∧ e = .returned (.tuple #[.pointer none, .slice none 0 0, fv 1 0]) := by
  have hs' : (300 : Int) < (s.size : Int) := by omega
  go_enter Tryz.func19, Tryz.ntmps19
  go_wp2_with fail
  (try go_region)
  (try go_wp2)
  (try simp only [Exit.inBlock, Exit.then])
  refine bodyPost_ret (v := .tuple #[.pointer none, .slice none 0 0, fv 1 0]) (by simp [results, Tryz.results19, go_sem]; rfl) rfl ?_
  refine ⟨?_, rfl⟩
  exact (Below.refl _ _).alloc (Nat.le_refl _) _

theorem TyOk.vars {N : Nat} : ∀ (m m' : Nat) (t : Ty) (l : List Nat), TyOk N m t → m ≤ m' → tyVars m' t l = tyVars m t l
  | 0, _, _, _, h, _ => absurd h id
  | m + 1, 0, _, _, _, hm => by omega
  | m + 1, m' + 1, t, l, h, hm => by
    rcases h with ⟨h1, h2, h3⟩ | ⟨h1, h2, h3⟩ | ⟨h1, h2, a, h3, h4⟩ | ⟨h1, h2, a, b, h3, h4, h5⟩
    · simp only [tyVars, if_pos h1]
    · have hk : t.kind ≠ [] := by rcases h1 with h1 | h1 <;> rw [h1] <;> decide
      simp only [tyVars, if_neg hk, h3, List.foldl_nil]
    · have hk : t.kind ≠ [] := by rw [h1]; decide
      simp only [tyVars, if_neg hk, h3, List.foldl_cons, List.foldl_nil, TyOk.vars m m' a _ h4 (by omega)]
    · have hk : t.kind ≠ [] := by rcases h1 with h1 | h1 <;> rw [h1] <;> decide
      simp only [tyVars, if_neg hk, h3, List.foldl_cons, List.foldl_nil, TyOk.vars m m' a _ h4 (by omega), TyOk.vars m m' b _ h5 (by omega)]
theorem TyOk.text {N : Nat} (ns : List (List UInt8)) : ∀ (m m' : Nat) (t : Ty), TyOk N m t → m ≤ m' → tyText m' ns t = tyText m ns t
  | 0, _, _, h, _ => absurd h id
  | m + 1, 0, _, _, hm => by omega
  | m + 1, m' + 1, t, h, hm => by
    rcases h with ⟨h1, h2, h3⟩ | ⟨h1, h2, h3⟩ | ⟨h1, h2, a, h3, h4⟩ | ⟨h1, h2, a, b, h3, h4, h5⟩
    · simp only [tyText, if_pos h1]
    · have hk : t.kind ≠ [] := by rcases h1 with h1 | h1 <;> rw [h1] <;> decide
      simp only [tyText, if_neg hk, h3]
    · have hk : t.kind ≠ [] := by rw [h1]; decide
      simp only [tyText, if_neg hk, h3, TyOk.text ns m m' a h4 (by omega)]
    · have hk : t.kind ≠ [] := by rcases h1 with h1 | h1 <;> rw [h1] <;> decide
      simp only [tyText, if_neg hk, h3, TyOk.text ns m m' a h4 (by omega), TyOk.text ns m m' b h5 (by omega)]
/-- What a type is does not hang on the fuel. -/
theorem ty_same {N N' m m' : Nat} {t : Ty} (h : TyOk N m t) (h' : TyOk N' m' t) : tySize m t = tySize m' t ∧ tyCanon m t = tyCanon m' t := by
  rcases Nat.le_total m m' with hl | hl
  · exact ⟨(TyOk.size m m' t h hl).symm, by unfold tyCanon; rw [TyOk.vars m m' t [] h hl, TyOk.text _ m m' t h hl]⟩
  · exact ⟨TyOk.size m' m t h' hl, by unfold tyCanon; rw [TyOk.vars m' m t [] h' hl, TyOk.text _ m' m t h' hl]⟩
theorem one_nodup {T : List Tok} {A : List (List UInt8) → St → Option (Ty × List (List UInt8) × St)} (hA : ∀ ns s t ns' s', A ns s = some (t, ns', s') → ns.Nodup → ns'.Nodup) (ns : List (List UInt8)) (s : St) (t : Ty) (ns' : List (List UInt8)) (s' : St)
    (h : oneS A T ns s = some (t, ns', s')) (hd : ns.Nodup) : ns'.Nodup := by
  unfold oneS at h
  split at h
  · cases h; exact hd
  · split at h
    · cases h; exact hd
    · split at h
      · cases e : A ns s.up with
        | none => rw [e] at h; cases h
        | some q =>
          obtain ⟨t1, n1, s1⟩ := q
          rw [e] at h
          cases h
          exact hA _ _ _ _ _ e hd
      · split at h
        · cases e : A ns s.up with
          | none => rw [e] at h; cases h
          | some q =>
            obtain ⟨t1, n1, s1⟩ := q
            rw [e] at h
            simp only at h
            split at h
            · cases e2 : A n1 s1.up with
              | none => rw [e2] at h; cases h
              | some q2 =>
                obtain ⟨t2, n2, s2⟩ := q2
                rw [e2] at h
                cases h
                exact hA _ _ _ _ _ e2 (hA _ _ _ _ _ e hd)
            · cases h
              exact hA _ _ _ _ _ e hd
        · cases h
          unfold numS
          split
          · exact hd
          · rename_i h1
            rw [List.nodup_append]
            exact ⟨hd, by simp, fun a ha b hb e => h1 (by rw [← List.mem_singleton.1 hb, ← e]; exact ha)⟩
theorem arr_nodup {T : List Tok} : ∀ (n : Nat) (ns : List (List UInt8)) (s : St) (t : Ty) (ns' : List (List UInt8)) (s' : St), arrS T n ns s = some (t, ns', s') → ns.Nodup → ns'.Nodup
  | 0, _, _, _, _, _, h, _ => by cases h
  | n + 1, ns, s, t, ns', s', h, hd => by
    rw [arrS] at h
    cases e : oneS (arrS T n) T ns s with
    | none => rw [e] at h; cases h
    | some q =>
      obtain ⟨t1, n1, s1⟩ := q
      rw [e] at h
      simp only at h
      have p1 := one_nodup (arr_nodup n) ns s t1 n1 s1 e hd
      split at h
      · cases e2 : arrS T n n1 s1.up with
        | none => rw [e2] at h; cases h
        | some q2 =>
          obtain ⟨t2, n2, s2⟩ := q2
          rw [e2] at h
          cases h
          exact arr_nodup n _ _ _ _ _ e2 p1
      · cases h
        exact p1
end Go.Proofs.YtcdijppegfcoaaaGreatDoor

/-
  OUR OWN TEXT. No two types have the same text.
-/
namespace Go.Proofs.YtcdijppegfcoaaaGreatDoor
open Go.RowKit

def isC (c : UInt8) : Bool := low c || fig c
/-- What follows goes on with no word. -/
def NoC (r : List UInt8) : Prop := ∀ c r', r = c :: r' → isC c = false
def NoB (r : List UInt8) : Prop := ∀ c r', r = c :: r' → c ≠ 32
theorem noC_cons {c : UInt8} {r : List UInt8} (h : isC c = false) : NoC (c :: r) := fun d r' e => by cases e; exact h
theorem noB_cons {c : UInt8} {r : List UInt8} (h : c ≠ 32) : NoB (c :: r) := fun d r' e => by cases e; exact h
/-- A name of a variable. -/
def NameOk (n : List UInt8) : Prop := (∃ c r, n = c :: r ∧ low c = true) ∧ (∀ c, c ∈ n → isC c = true) ∧ n ∉ tyKw
theorem word_inj : ∀ (u v r s : List UInt8), (∀ c, c ∈ u → isC c = true) → (∀ c, c ∈ v → isC c = true) → NoC r → NoC s → u ++ r = v ++ s → u = v ∧ r = s
  | [], [], r, s, _, _, _, _, h => ⟨rfl, h⟩
  | [], d :: v, r, s, _, hv, hr, _, h => by
    have h1 := hr d (v ++ s) h
    have h2 := hv d (by simp)
    rw [h1] at h2; cases h2
  | c :: u, [], r, s, hu, _, _, hs, h => by
    have h1 := hs c (u ++ r) h.symm
    have h2 := hu c (by simp)
    rw [h1] at h2; cases h2
  | c :: u, d :: v, r, s, hu, hv, hr, hs, h => by
    rw [List.cons_append, List.cons_append, List.cons.injEq] at h
    obtain ⟨rfl, h⟩ := h
    obtain ⟨rfl, e⟩ := word_inj u v r s (fun x hx => hu x (List.mem_cons_of_mem _ hx)) (fun x hx => hv x (List.mem_cons_of_mem _ hx)) hr hs h
    exact ⟨rfl, e⟩

/-- Names are names, all different. -/
structure Nms (N : Nat) (ns : List (List UInt8)) : Prop where
  len : N ≤ ns.length
  ok : ∀ n, n ∈ ns → NameOk n
  nd : ns.Nodup
def UV (N : Nat) (ns : List (List UInt8)) (n : Nat) : Prop := ∀ (x y : Ty) (r r' : List UInt8), TyOk N n x → TyOk N n y → NoC r → NoC r' → NoB r → NoB r' → tyText n ns x ++ r = tyText n ns y ++ r' → x = y ∧ r = r'
theorem getD_mem {ns : List (List UInt8)} {i : Nat} (h : i < ns.length) : ns.getD i [] ∈ ns := by
  have : ns.getD i [] = ns[i] := by simp [List.getD, h]
  rw [this]
  exact List.getElem_mem h
theorem getD_inj2 {ns : List (List UInt8)} (hd : ns.Nodup) {i j : Nat} (hi : i < ns.length) (hj : j < ns.length) (h : ns.getD i [] = ns.getD j []) : i = j := by
  have e1 : ns.getD i [] = ns[i] := by simp [List.getD, hi]
  have e2 : ns.getD j [] = ns[j] := by simp [List.getD, hj]
  rw [e1, e2] at h
  have a := hd.idxOf_getElem i hi
  have b := hd.idxOf_getElem j hj
  rw [h] at a
  omega
/-- The shape of a text that is no arrow's. -/
def Core (N : Nat) (ns : List (List UInt8)) (n : Nat) (x : Ty) : Prop :=
  (∃ u, tyText (n + 1) ns x = u ∧ (∀ c, c ∈ u → isC c = true) ∧ (∃ c r, u = c :: r ∧ low c = true) ∧ ((x.kind = [] ∧ x.var < N ∧ x.kids = [] ∧ u = ns.getD x.var []) ∨ ((x.kind = kInt ∨ x.kind = kBool) ∧ x.var = 0 ∧ x.kids = [] ∧ u = x.kind))) ∨
  (∃ a, x = ⟨oList, 0, [a]⟩ ∧ TyOk N n a ∧ tyText (n + 1) ns x = 91 :: (tyText n ns a ++ [93])) ∨
  (∃ a b, x = ⟨oPair, 0, [a, b]⟩ ∧ TyOk N n a ∧ TyOk N n b ∧ tyText (n + 1) ns x = 40 :: (tyText n ns a ++ (44 :: 32 :: (tyText n ns b ++ [41]))))
theorem core_of {N : Nat} {ns : List (List UInt8)} (hn : Nms N ns) {n : Nat} {x : Ty} (h : TyOk N (n + 1) x) (hk : x.kind ≠ kFun) : Core N ns n x := by
  rcases h with ⟨h1, h2, h3⟩ | ⟨h1, h2, h3⟩ | ⟨h1, h2, a, h3, h4⟩ | ⟨h1, h2, a, b, h3, h4, h5⟩
  · obtain ⟨o1, o2, o3⟩ := hn.ok _ (getD_mem (Nat.lt_of_lt_of_le h2 hn.len))
    exact Or.inl ⟨ns.getD x.var [], by rw [tyText, if_pos h1], o2, o1, Or.inl ⟨h1, h2, h3, rfl⟩⟩
  · have hk' : x.kind ≠ [] := by rcases h1 with h1 | h1 <;> rw [h1] <;> decide
    refine Or.inl ⟨x.kind, by rw [tyText, if_neg hk', h3], ?_, ?_, Or.inr ⟨h1, h2, h3, rfl⟩⟩
    · rcases h1 with h1 | h1 <;> rw [h1] <;> decide
    · rcases h1 with h1 | h1 <;> rw [h1] <;> exact ⟨_, _, rfl, by decide⟩
  · have hk' : x.kind ≠ [] := by rw [h1]; decide
    obtain ⟨k, v, ks⟩ := x
    simp only at h1 h2 h3
    subst h1 h2 h3
    refine Or.inr (Or.inl ⟨a, rfl, h4, ?_⟩)
    rw [tyText, if_neg hk']
    simp
  · rcases h1 with h1 | h1
    · have hk' : x.kind ≠ [] := by rw [h1]; decide
      obtain ⟨k, v, ks⟩ := x
      simp only at h1 h2 h3
      subst h1 h2 h3
      refine Or.inr (Or.inr ⟨a, b, rfl, h4, h5, ?_⟩)
      rw [tyText, if_neg hk']
      show (if oPair = kFun then _ else _) = _
      rw [if_neg (by decide)]
      simp
    · exact absurd h1 hk
theorem core_inj {N : Nat} {ns : List (List UInt8)} (hn : Nms N ns) {n : Nat} (hV : UV N ns n) {x y : Ty} (hx : Core N ns n x) (hy : Core N ns n y) {r r' : List UInt8} (hr : NoC r) (hr' : NoC r') (h : tyText (n + 1) ns x ++ r = tyText (n + 1) ns y ++ r') : x = y ∧ r = r' := by
  rcases hx with ⟨u, e1, u1, ⟨c, q, u2, u3⟩, u4⟩ | ⟨a, rfl, oa, e1⟩ | ⟨a, b, rfl, oa, ob, e1⟩
  · rcases hy with ⟨v, e2, v1, ⟨c', q', v2, v3⟩, v4⟩ | ⟨a', rfl, oa', e2⟩ | ⟨a', b', rfl, oa', ob', e2⟩
    · rw [e1, e2] at h
      obtain ⟨e, hr2⟩ := word_inj u v r r' u1 v1 hr hr' h
      refine ⟨?_, hr2⟩
      obtain ⟨k, vr, ks⟩ := x
      obtain ⟨k', vr', ks'⟩ := y
      simp only at u4 v4
      rcases u4 with ⟨a1, a2, a3, a4⟩ | ⟨a1, a2, a3, a4⟩ <;> rcases v4 with ⟨b1, b2, b3, b4⟩ | ⟨b1, b2, b3, b4⟩
      · have := getD_inj2 hn.nd (Nat.lt_of_lt_of_le a2 hn.len) (Nat.lt_of_lt_of_le b2 hn.len) (by rw [← a4, ← b4, e])
        rw [a1, a3, b1, b3, this]
      · exfalso
        refine (hn.ok _ (getD_mem (Nat.lt_of_lt_of_le a2 hn.len))).2.2 ?_
        rw [← a4, e, b4]
        rcases b1 with b1 | b1 <;> rw [b1] <;> decide
      · exfalso
        refine (hn.ok _ (getD_mem (Nat.lt_of_lt_of_le b2 hn.len))).2.2 ?_
        rw [← b4, ← e, a4]
        rcases a1 with a1 | a1 <;> rw [a1] <;> decide
      · have : k = k' := by rw [← a4, ← b4, e]
        rw [this, a2, a3, b2, b3]
    · exfalso
      rw [e1, e2, u2] at h
      simp only [List.cons_append, List.cons.injEq] at h
      rw [h.1] at u3
      exact absurd u3 (by decide)
    · exfalso
      rw [e1, e2, u2] at h
      simp only [List.cons_append, List.cons.injEq] at h
      rw [h.1] at u3
      exact absurd u3 (by decide)
  · rcases hy with ⟨v, e2, v1, ⟨c', q', v2, v3⟩, v4⟩ | ⟨a', rfl, oa', e2⟩ | ⟨a', b', rfl, oa', ob', e2⟩
    · exfalso
      rw [e1, e2, v2] at h
      simp only [List.cons_append, List.cons.injEq] at h
      rw [← h.1] at v3
      exact absurd v3 (by decide)
    · rw [e1, e2] at h
      simp only [List.cons_append, List.append_assoc, List.nil_append, List.cons.injEq, true_and] at h
      obtain ⟨rfl, e⟩ := hV a a' _ _ oa oa' (noC_cons (by decide)) (noC_cons (by decide)) (noB_cons (by decide)) (noB_cons (by decide)) h
      exact ⟨rfl, (List.cons.inj e).2⟩
    · exfalso
      rw [e1, e2] at h
      simp only [List.cons_append, List.cons.injEq] at h
      exact absurd h.1 (by decide)
  · rcases hy with ⟨v, e2, v1, ⟨c', q', v2, v3⟩, v4⟩ | ⟨a', rfl, oa', e2⟩ | ⟨a', b', rfl, oa', ob', e2⟩
    · exfalso
      rw [e1, e2, v2] at h
      simp only [List.cons_append, List.cons.injEq] at h
      rw [← h.1] at v3
      exact absurd v3 (by decide)
    · exfalso
      rw [e1, e2] at h
      simp only [List.cons_append, List.cons.injEq] at h
      exact absurd h.1 (by decide)
    · rw [e1, e2] at h
      simp only [List.cons_append, List.append_assoc, List.nil_append, List.cons.injEq, true_and] at h
      obtain ⟨rfl, e⟩ := hV a a' _ _ oa oa' (noC_cons (by decide)) (noC_cons (by decide)) (noB_cons (by decide)) (noB_cons (by decide)) h
      have e3 := (List.cons.inj (List.cons.inj e).2).2
      obtain ⟨rfl, e4⟩ := hV b b' _ _ ob ob' (noC_cons (by decide)) (noC_cons (by decide)) (noB_cons (by decide)) (noB_cons (by decide)) e3
      exact ⟨rfl, (List.cons.inj e4).2⟩
/-- An arrow's text. -/
theorem arrow_text {N : Nat} {ns : List (List UInt8)} {n : Nat} {x : Ty} (h : TyOk N (n + 1) x) (hk : x.kind = kFun) : ∃ a b, x = ⟨kFun, 0, [a, b]⟩ ∧ TyOk N n a ∧ TyOk N n b ∧
    tyText (n + 1) ns x = (if a.kind = kFun then 40 :: (tyText n ns a ++ [41]) else tyText n ns a) ++ (32 :: 45 :: 62 :: 32 :: tyText n ns b) := by
  rcases h with ⟨h1, h2, h3⟩ | ⟨h1, h2, h3⟩ | ⟨h1, h2, a, h3, h4⟩ | ⟨h1, h2, a, b, h3, h4, h5⟩
  · rw [hk] at h1; exact absurd h1 (by decide)
  · rw [hk] at h1; exact absurd h1 (by decide)
  · rw [hk] at h1; exact absurd h1 (by decide)
  · obtain ⟨k, v, ks⟩ := x
    simp only at hk h2 h3
    subst hk h2 h3
    refine ⟨a, b, rfl, h4, h5, ?_⟩
    rw [tyText, if_neg (show ¬ kFun = [] by decide)]
    show (if kFun = kFun then _ else _) = _
    rw [if_pos rfl]
    split <;> simp
/-- The left side of an arrow, and what follows. -/
theorem left_inj {N : Nat} {ns : List (List UInt8)} (hn : Nms N ns) {n : Nat} (hV : UV N ns n) {a y : Ty} (oa : TyOk N n a) (oy : TyOk N (n + 1) y) (hy : y.kind ≠ kFun) {r r' : List UInt8} (hr : NoC r) (hr' : NoC r')
    (h : (if a.kind = kFun then 40 :: (tyText n ns a ++ [41]) else tyText n ns a) ++ r = tyText (n + 1) ns y ++ r') : a = y ∧ r = r' := by
  by_cases hk : a.kind = kFun
  · exfalso
    rw [if_pos hk] at h
    rcases core_of hn oy hy with ⟨v, e2, v1, ⟨c', q', v2, v3⟩, v4⟩ | ⟨a', rfl, oa', e2⟩ | ⟨a', b', rfl, oa', ob', e2⟩
    · rw [e2, v2] at h
      simp only [List.cons_append, List.cons.injEq] at h
      rw [← h.1] at v3
      exact absurd v3 (by decide)
    · rw [e2] at h
      simp only [List.cons_append, List.cons.injEq] at h
      exact absurd h.1 (by decide)
    · rw [e2] at h
      simp only [List.cons_append, List.append_assoc, List.nil_append, List.cons.injEq, true_and] at h
      obtain ⟨_, e⟩ := hV a a' _ _ oa oa' (noC_cons (by decide)) (noC_cons (by decide)) (noB_cons (by decide)) (noB_cons (by decide)) h
      exact absurd (List.cons.inj e).1 (by decide)
  · rw [if_neg hk, ← TyOk.text ns n (n + 1) a oa (by omega)] at h
    exact core_inj hn hV (core_of hn (TyOk.up n a oa) hk) (core_of hn oy hy) hr hr' h
theorem text_inj {N : Nat} {ns : List (List UInt8)} (hn : Nms N ns) : ∀ n, UV N ns n
  | 0 => fun x y r r' h => absurd h id
  | n + 1 => by
    have hV := text_inj hn n
    intro x y r r' hx hy hr hr' hb hb' h
    by_cases kx : x.kind = kFun
    · obtain ⟨a, b, rfl, oa, ob, e1⟩ := arrow_text (ns := ns) hx kx
      by_cases ky : y.kind = kFun
      · obtain ⟨a', b', rfl, oa', ob', e2⟩ := arrow_text (ns := ns) hy ky
        rw [e1, e2] at h
        simp only [List.append_assoc, List.cons_append] at h
        have key : a = a' ∧ (32 :: 45 :: 62 :: 32 :: (tyText n ns b ++ r)) = (32 :: 45 :: 62 :: 32 :: (tyText n ns b' ++ r')) := by
          by_cases ka' : a'.kind = kFun
          · by_cases ka : a.kind = kFun
            · rw [if_pos ka, if_pos ka'] at h
              simp only [List.cons_append, List.append_assoc, List.nil_append, List.cons.injEq, true_and] at h
              obtain ⟨rfl, e⟩ := hV a a' _ _ oa oa' (noC_cons (by decide)) (noC_cons (by decide)) (noB_cons (by decide)) (noB_cons (by decide)) h
              exact ⟨rfl, by have := (List.cons.inj e).2; rw [this]⟩
            · rw [if_neg ka, ← TyOk.text ns n (n + 1) a oa (by omega)] at h
              obtain ⟨e3, e4⟩ := left_inj hn hV oa' (TyOk.up n a oa) ka (noC_cons (by decide)) (noC_cons (by decide)) h.symm
              exact ⟨e3.symm, e4.symm⟩
          · rw [if_neg ka', ← TyOk.text ns n (n + 1) a' oa' (by omega)] at h
            exact left_inj hn hV oa (TyOk.up n a' oa') ka' (noC_cons (by decide)) (noC_cons (by decide)) h
        obtain ⟨rfl, e⟩ := key
        simp only [List.cons.injEq, true_and] at e
        obtain ⟨rfl, e5⟩ := hV b b' _ _ ob ob' hr hr' hb hb' e
        exact ⟨rfl, e5⟩
      · exfalso
        rw [e1] at h
        simp only [List.append_assoc, List.cons_append] at h
        obtain ⟨_, e⟩ := left_inj hn hV oa hy ky (noC_cons (by decide)) hr' h
        exact hb' _ _ e.symm rfl
    · by_cases ky : y.kind = kFun
      · obtain ⟨a', b', rfl, oa', ob', e2⟩ := arrow_text (ns := ns) hy ky
        exfalso
        rw [e2] at h
        simp only [List.append_assoc, List.cons_append] at h
        obtain ⟨_, e⟩ := left_inj hn hV oa' hx kx (noC_cons (by decide)) hr h.symm
        exact hb _ _ e.symm rfl
      · exact core_inj hn hV (core_of hn hx kx) (core_of hn hy ky) hr hr' h
theorem same_text {N : Nat} {ns : List (List UInt8)} (hn : Nms N ns) {n : Nat} {x y : Ty} (hx : TyOk N n x) (hy : TyOk N n y) (h : tyText n ns x = tyText n ns y) : x = y :=
  (text_inj hn n x y [] [] hx hy (fun c r e => by cases e) (fun c r e => by cases e) (fun c r e => by cases e) (fun c r e => by cases e) (by rw [h])).1
end Go.Proofs.YtcdijppegfcoaaaGreatDoor

/-
  OUR OWN TEXT. The names of a type's variables are names.
-/
namespace Go.Proofs.YtcdijppegfcoaaaGreatDoor
open Go.RowKit

theorem mem_cut {l : List UInt8} {J K : Nat} {c : UInt8} (h : c ∈ cut l J K) : ∃ i, J ≤ i ∧ i < K ∧ l[i]? = some c := by
  obtain ⟨i, hi, rfl⟩ := List.mem_iff_getElem.1 h
  unfold cut at hi ⊢
  rw [List.length_drop, List.length_take] at hi
  refine ⟨J + i, by omega, by omega, ?_⟩
  rw [List.getElem_drop, List.getElem_take]
  exact List.getElem?_eq_getElem (by omega)
theorem tok_name {l : List UInt8} {J : Nat} (hJ : J ≤ l.length) (h : (tokAt tyKw l J).1.is = kName) : NameOk (tokAt tyKw l J).1.s := by
  have hs : (tokAt tyKw l J).1.s = cut l J (raw l J).2 := rfl
  have hi : (tokAt tyKw l J).1.is = (if (if ((raw l J).1 = kName ∨ (raw l J).1 = kNum) ∧ (raw l J).2 - J > 8 then kNone else (raw l J).1) = kName ∧ cut l J (raw l J).2 ∈ tyKw then cut l J (raw l J).2 else (if ((raw l J).1 = kName ∨ (raw l J).1 = kNum) ∧ (raw l J).2 - J > 8 then kNone else (raw l J).1)) := rfl
  rw [hi] at h
  rw [hs]
  obtain ⟨b, hb⟩ : ∃ b, b = (if ((raw l J).1 = kName ∨ (raw l J).1 = kNum) ∧ (raw l J).2 - J > 8 then kNone else (raw l J).1) := ⟨_, rfl⟩
  rw [← hb] at h
  clear hi hs
  by_cases hk : cut l J (raw l J).2 ∈ tyKw
  · exfalso
    by_cases hbn : b = kName
    · rw [if_pos ⟨hbn, hk⟩] at h
      rw [h] at hk
      exact absurd hk (by decide)
    · rw [if_neg (fun e => hbn e.1)] at h
      exact hbn h
  · rw [if_neg (fun e => hk e.2)] at h
    have hr : (raw l J).1 = kName := by
      rw [hb] at h
      split at h
      · exact absurd h (by decide)
      · exact h
    rcases raw_cases l J hJ with ⟨e, _⟩ | ⟨c, r, K, e, h1, h2, h3, h4⟩ | ⟨c, r, K, e, h1, h2, h3, h4⟩ | ⟨e, h1, h2⟩ | ⟨c, hc, e, h1, h2⟩ | ⟨e, h1⟩
    · rw [e] at hr; exact absurd (show kEnd = kName from hr) (by decide)
    · rw [e] at hk ⊢
      refine ⟨⟨c, r, h3, h4⟩, fun d hd => ?_, hk⟩
      obtain ⟨i, i1, i2, i3⟩ := mem_cut hd
      have hK : K = upto lowfig l J := by
        unfold raw at e
        have hJl : J < l.length := by omega
        rw [List.getElem?_eq_getElem hJl] at e
        simp only at e
        split at e
        · exact (Prod.mk.inj e).2.symm
        · exfalso
          split at e
          · exact absurd (Prod.mk.inj e).1 (by decide)
          · split at e
            · exact absurd (Prod.mk.inj e).1 (by decide)
            · split at e
              · have := congrArg List.length (Prod.mk.inj e).1
                simp [kName] at this
              · exact absurd (Prod.mk.inj e).1 (by decide)
      rw [hK] at i2
      obtain ⟨c', hc', hp⟩ := upto_in lowfig l J i i1 i2
      rw [i3] at hc'
      cases hc'
      exact hp
    · rw [e] at hr; exact absurd (show kNum = kName from hr) (by decide)
    · rw [e] at hr; exact absurd (show kArrow = kName from hr) (by decide)
    · rw [e] at hr
      have := congrArg List.length hr
      simp [kName] at this
    · rw [e] at hr; exact absurd (show kNone = kName from hr) (by decide)
theorem toks_at (kw : List (List UInt8)) (l : List UInt8) : ∀ (f i : Nat), i ≤ l.length → ∀ t, t ∈ toks kw l f i → ∃ J, J ≤ l.length ∧ t = (tokAt kw l J).1
  | 0, _, _, t, h => by cases h
  | f + 1, i, hi, t, h => by
    have hu := upto_le isB l i hi
    rw [toks] at h
    (try simp only at h)
    split at h
    · rw [List.mem_singleton.1 h]
      exact ⟨_, hu.2, rfl⟩
    · rcases List.mem_cons.1 h with rfl | h
      · exact ⟨_, hu.2, rfl⟩
      · refine toks_at kw l f _ ?_ t h
        have : (tokAt kw l (upto isB l i)).2 = (raw l (upto isB l i)).2 := rfl
        rw [this]
        rcases raw_cases l _ hu.2 with ⟨e, _⟩ | ⟨c, r, K, e, h1, h2, h3, h4⟩ | ⟨c, r, K, e, h1, h2, h3, h4⟩ | ⟨e, h1, h2⟩ | ⟨c, hc, e, h1, h2⟩ | ⟨e, h1⟩ <;> rw [e] <;> simp only <;> omega
def NmT (T : List Tok) : Prop := ∀ k, (tk T k).is = kName → NameOk (tk T k).s
theorem nmT_of (l : List UInt8) (f i : Nat) (hi : i ≤ l.length) : NmT (toks tyKw l f i) := by
  intro k hk
  unfold Proofs.YtcdijppegfcoaaaGreatDoor.tk at hk ⊢
  rw [List.getD_eq_getElem?_getD] at hk ⊢
  cases e : (toks tyKw l f i)[k]? with
  | none => rw [e] at hk; exact absurd hk (by decide)
  | some t =>
    rw [e] at hk
    obtain ⟨J, hJ, rfl⟩ := toks_at tyKw l f i hi t (List.mem_of_getElem? e)
    exact tok_name hJ hk
theorem one_names {T : List Tok} (hT : NmT T) {A : List (List UInt8) → St → Option (Ty × List (List UInt8) × St)} (hA : ∀ ns s t ns' s', A ns s = some (t, ns', s') → s'.bad < 0 → (∀ n, n ∈ ns → NameOk n) → ∀ n, n ∈ ns' → NameOk n) (ns : List (List UInt8)) (s : St) (t : Ty) (ns' : List (List UInt8)) (s' : St)
    (h : oneS A T ns s = some (t, ns', s')) (hb : s'.bad < 0) (hn : ∀ n, n ∈ ns → NameOk n) : ∀ n, n ∈ ns' → NameOk n := by
  unfold oneS at h
  split at h
  · cases h; exact hn
  · split at h
    · cases h; exact hn
    · split at h
      · cases e : A ns s.up with
        | none => rw [e] at h; cases h
        | some q =>
          obtain ⟨t1, n1, s1⟩ := q
          rw [e] at h
          cases h
          exact hA _ _ _ _ _ e ((needS_go T s1 kQs).2.2 hb).1 hn
      · split at h
        · cases e : A ns s.up with
          | none => rw [e] at h; cases h
          | some q =>
            obtain ⟨t1, n1, s1⟩ := q
            rw [e] at h
            simp only at h
            split at h
            · rename_i hc
              cases e2 : A n1 s1.up with
              | none => rw [e2] at h; cases h
              | some q2 =>
                obtain ⟨t2, n2, s2⟩ := q2
                rw [e2] at h
                cases h
                exact hA _ _ _ _ _ e2 ((needS_go T s2 kShut).2.2 hb).1 (hA _ _ _ _ _ e (isS_ok hc) hn)
            · cases h
              exact hA _ _ _ _ _ e ((needS_go T s1 kShut).2.2 hb).1 hn
        · cases h
          have hnm : isS T s kName = true := by
            cases hi : isS T s kName with
            | true => rfl
            | false =>
              have h1 := ((needS_go T s kName).2.2 hb).2
              have h2 := ((needS_go T s kName).2.2 hb).1
              rw [needS, if_neg (by rw [hi]; decide), if_pos h2] at hb
              exact absurd hb (by show ¬ ((tk T s.k).pos : Int) < 0; omega)
          have hk : (tk T s.k).is = kName := by
            simp only [isS, Bool.and_eq_true, beq_iff_eq] at hnm
            exact hnm.2
          intro n hmem
          unfold numS at hmem
          split at hmem
          · exact hn n hmem
          · rcases List.mem_append.1 hmem with h | h
            · exact hn n h
            · rw [List.mem_singleton.1 h]
              exact hT s.k hk
theorem arr_names {T : List Tok} (hT : NmT T) : ∀ (n : Nat) (ns : List (List UInt8)) (s : St) (t : Ty) (ns' : List (List UInt8)) (s' : St), arrS T n ns s = some (t, ns', s') → s'.bad < 0 → (∀ n, n ∈ ns → NameOk n) → ∀ n, n ∈ ns' → NameOk n
  | 0, _, _, _, _, _, h, _, _ => by cases h
  | n + 1, ns, s, t, ns', s', h, hb, hn => by
    rw [arrS] at h
    cases e : oneS (arrS T n) T ns s with
    | none => rw [e] at h; cases h
    | some q =>
      obtain ⟨t1, n1, s1⟩ := q
      rw [e] at h
      simp only at h
      split at h
      · rename_i hc
        have p1 := one_names hT (arr_names hT n) ns s t1 n1 s1 e (isS_ok hc) hn
        cases e2 : arrS T n n1 s1.up with
        | none => rw [e2] at h; cases h
        | some q2 =>
          obtain ⟨t2, n2, s2⟩ := q2
          rw [e2] at h
          cases h
          exact arr_names hT n _ _ _ _ _ e2 hb p1
      · cases h
        exact one_names hT (arr_names hT n) ns s _ _ _ e hb hn
theorem names_of {s : ByteArray} {n : Nat} {x : Ty} {ns : List (List UInt8)} {s1 : St} (h : arrS (toksOf tyKw s) n [] ⟨0, -1⟩ = some (x, ns, s1)) (hb : s1.bad < 0) : Nms ns.length ns :=
  ⟨Nat.le_refl _, arr_names (nmT_of _ _ 0 (Nat.zero_le _)) n [] ⟨0, -1⟩ x ns s1 h hb (by simp), arr_nodup n [] ⟨0, -1⟩ x ns s1 h (by simp)⟩
end Go.Proofs.YtcdijppegfcoaaaGreatDoor

/-
  OUR OWN TEXT. typerref.equal.
-/
namespace Go.Proofs.YtcdijppegfcoaaaGreatDoor
open Go.RowKit

/-- What equal answers, in whatever world has drawn more. -/
def EQ (w : World) (c d : Nat) (r : Bool) : Prop := ∀ n, Calls Tryz.prog 50 #[.pointer (some ⟨c, 0, none⟩), .pointer (some ⟨d, 0, none⟩)] (w.drewN n) fun e w' => e = .returned (.bool r) ∧ ∃ q, w' = (w.drewN n).drewN q
theorem eq_more {w : World} {c d : Nat} {r : Bool} (h : EQ w c d r) (q a : Nat) : Calls Tryz.prog 50 #[.pointer (some ⟨c, 0, none⟩), .pointer (some ⟨d, 0, none⟩)] (w.drewN (q + a)) fun e w'' => e = .returned (.bool r) ∧ ∃ n, w'' = w.drewN (q + n) :=
  (h (q + a)).mono fun _ _ ⟨he, m, hm⟩ => ⟨he, a + m, by rw [hm, World.drewN_drewN, Nat.add_assoc]⟩
theorem kids_len {N m : Nat} {x y : Ty} (hx : TyOk N (m + 1) x) (hy : TyOk N (m + 1) y) (hk : x.kind = y.kind) : x.kids.length = y.kids.length ∧ (x.kind ≠ [] → x.var = y.var) ∧ x.kids.length ≤ 2 := by
  rcases hx with ⟨h1, h2, h3⟩ | ⟨h1, h2, h3⟩ | ⟨h1, h2, a, h3, h4⟩ | ⟨h1, h2, a, b, h3, h4, h5⟩ <;> rcases hy with ⟨g1, g2, g3⟩ | ⟨g1, g2, g3⟩ | ⟨g1, g2, c, g3, g4⟩ | ⟨g1, g2, c, d, g3, g4, g5⟩
  · exact ⟨by rw [h3, g3], fun e => absurd h1 e, by rw [h3]; simp⟩
  · rw [h1] at hk; rcases g1 with g1 | g1 <;> rw [g1] at hk <;> exact absurd hk (by decide)
  · rw [h1, g1] at hk; exact absurd hk (by decide)
  · rw [h1] at hk; rcases g1 with g1 | g1 <;> rw [g1] at hk <;> exact absurd hk (by decide)
  · rw [g1] at hk; rcases h1 with h1 | h1 <;> rw [h1] at hk <;> exact absurd hk (by decide)
  · exact ⟨by rw [h3, g3], fun _ => by rw [h2, g2], by rw [h3]; simp⟩
  · rw [g1] at hk; rcases h1 with h1 | h1 <;> rw [h1] at hk <;> exact absurd hk (by decide)
  · exfalso; rcases h1 with h1 | h1 <;> rcases g1 with g1 | g1 <;> rw [h1, g1] at hk <;> exact absurd hk (by decide)
  · rw [h1, g1] at hk; exact absurd hk (by decide)
  · rw [h1] at hk; rcases g1 with g1 | g1 <;> rw [g1] at hk <;> exact absurd hk (by decide)
  · exact ⟨by rw [h3, g3]; rfl, fun _ => by rw [h2, g2], by rw [h3]; simp⟩
  · rw [h1] at hk; rcases g1 with g1 | g1 <;> rw [g1] at hk <;> exact absurd hk (by decide)
  · rw [g1] at hk; rcases h1 with h1 | h1 <;> rw [h1] at hk <;> exact absurd hk (by decide)
  · exfalso; rcases h1 with h1 | h1 <;> rcases g1 with g1 | g1 <;> rw [h1, g1] at hk <;> exact absurd hk (by decide)
  · rw [g1] at hk; rcases h1 with h1 | h1 <;> rw [h1] at hk <;> exact absurd hk (by decide)
  · exact ⟨by rw [h3, g3]; rfl, fun _ => by rw [h2, g2], by rw [h3]; simp⟩
theorem ok_kid {N m : Nat} {x y : Ty} (h : TyOk N (m + 1) x) (hy : y ∈ x.kids) : TyOk N m y := by
  rcases h with ⟨h1, h2, h3⟩ | ⟨h1, h2, h3⟩ | ⟨h1, h2, a, h3, h4⟩ | ⟨h1, h2, a, b, h3, h4, h5⟩
  · rw [h3] at hy; cases hy
  · rw [h3] at hy; cases hy
  · rw [h3] at hy; rw [List.mem_singleton.1 hy]; exact h4
  · rw [h3] at hy
    rcases List.mem_cons.1 hy with rfl | hy
    · exact h4
    · rw [List.mem_singleton.1 hy]; exact h5
theorem bool_of (p : Prop) : ∃ r : Bool, r = true ↔ p := by
  by_cases h : p
  · exact ⟨true, by simp [h]⟩
  · exact ⟨false, by simp [h]⟩

set_option maxRecDepth 100000 in
set_option maxHeartbeats 4000000 in
theorem equal_any (N : Nat) (H : Nat → Option Obj) : ∀ (m c d : Nat) (x y : Ty) (r : Bool) (w : World), TRep m H c x → TRep m H d y → TyOk N m x → TyOk N m y → N ≤ 1000000 → (r = true ↔ x = y) → Fz H w → EQ w c d r := by
  intro m
  induction m with
  | zero => intro c d x y r w h; exact absurd h id
  | succ m ih =>
    intro c d x y r w hx hy okx oky hN hr hz n
    obtain ⟨w0, hw0⟩ : ∃ w0, w0 = w.drewN n := ⟨_, rfl⟩
    rw [← hw0]
    have hz0 : Fz H w0 := by rw [hw0]; exact hz
    clear hw0 hz
    obtain ⟨ks, bs, h1, h3, h4, h5⟩ := hx
    obtain ⟨ls, cs, g1, g3, g4, g5⟩ := hy
    have hb := hz0 _ _ h1
    have hd := hz0 _ _ g1
    obtain ⟨ao, cp, rfl, hrow⟩ := row_viewT h3 hz0
    obtain ⟨bo, dp, rfl, grow⟩ := row_viewT g3 hz0
    have c0 : w0.cell? ⟨c, 0, none⟩ = some (.string (B x.kind)) := by simp [World.cell?, hb]
    have c1 : w0.cell? ⟨c, 1, none⟩ = some (.int .i64 (x.var : Int)) := by simp [World.cell?, hb]
    have c2 : w0.cell? ⟨c, 2, none⟩ = some (.slice ao bs.length cp) := by simp [World.cell?, hb]
    have d0 : w0.cell? ⟨d, 0, none⟩ = some (.string (B y.kind)) := by simp [World.cell?, hd]
    have d1 : w0.cell? ⟨d, 1, none⟩ = some (.int .i64 (y.var : Int)) := by simp [World.cell?, hd]
    have d2 : w0.cell? ⟨d, 2, none⟩ = some (.slice bo cs.length dp) := by simp [World.cell?, hd]
    have HR := hid hr
    clear hb hd h1 g1 h3 g3 hr
    by_cases hk : x.kind = y.kind
    · obtain ⟨kl, kv, k2⟩ := kids_len okx oky hk
      have e0 : ((B x.kind).toList == (B y.kind).toList) = true := by rw [hk]; simp
      by_cases hv : x.var = y.var
      · have e1 : ((x.var : Int) != (y.var : Int)) = false := by rw [hv]; simp
        have hlc : cs.length = bs.length := by omega
        rw [hlc] at d2
        have hb2 : bs.length ≤ 2 := by omega
        have HROW := hid hrow
        have GROW := hid grow
        have H5 := hid h5
        have G5 := hid g5
        have IH := hid ih
        have OK := hid (And.intro okx oky)
        have HZ := hid hz0
        have H4 := hid (And.intro h4 (And.intro g4 hlc))
        have HEX := hid (show x.kids = y.kids → x = y from fun e => by
          cases x
          cases y
          simp only at hk hv e
          rw [hk, hv, e])
        clear hrow grow h5 g5 ih okx oky hz0 h4 g4 hlc hk hv kl kv k2
        generalize x.kind = kx at *
        generalize y.kind = ky at *
        generalize x.var = vx at *
        generalize y.var = vy at *
        go_enter Tryz.func50, Tryz.ntmps50
        go_wp2_with fail
        go_quiet (fail)
        go_wp2_with fail
        go_loopg [44] (bs.length + 1) (fun gh i wi => ∃ j q : Nat, j ≤ bs.length ∧ i = .int .i64 j ∧ gh = bs.length - j + 1 ∧ wi = w0.drewN q ∧ Hid (x.kids.take j = y.kids.take j))
        case atStart => exact ⟨0, _, by omega, rfl, by omega, rfl, hid (by simp)⟩
        case round =>
          obtain ⟨j, q, hj, rfl, hgj, rfl, HT⟩ := hrel
          by_cases hjl : j < bs.length
          · obtain ⟨hl1, hl2, hl3⟩ := H4.out
            obtain ⟨c', hc'⟩ : ∃ c', bs[j]? = some c' := ⟨bs[j], List.getElem?_eq_getElem hjl⟩
            obtain ⟨d', hd'⟩ : ∃ d', cs[j]? = some d' := ⟨cs[j]'(by omega), List.getElem?_eq_getElem _⟩
            obtain ⟨x', hx'⟩ : ∃ x', x.kids[j]? = some x' := ⟨x.kids[j]'(by omega), List.getElem?_eq_getElem _⟩
            obtain ⟨y', hy'⟩ : ∃ y', y.kids[j]? = some y' := ⟨y.kids[j]'(by omega), List.getElem?_eq_getElem _⟩
            obtain ⟨gn, rfl, hcell⟩ := HROW.out j c' hc'
            obtain ⟨gn', rfl, hcell'⟩ := GROW.out j d' hd'
            obtain ⟨r1, hr1⟩ := bool_of (x' = y')
            have CE := hid (IH.out c' d' x' y' r1 w0 (H5.out j x' c' hc' hx') (G5.out j y' d' hd' hy') (ok_kid OK.out.1 (List.mem_of_getElem? hx')) (ok_kid OK.out.2 (List.mem_of_getElem? hy')) hN hr1 HZ.out)
            have HXY := hid (And.intro hx' hy')
            have HR1 := hid hr1
            clear hc' hd' hx' hy' hr1 hl1 hl2 hl3
            cases r1 with
            | true =>
              go_wp2_with fail
              go_quiet ((go_at_call 50; exact eq_more CE.out _ _))
              go_wp2_with fail
              go_roundg (bs.length - (j + 1) + 1)
              case measure => omega
              case rel => exact ⟨j + 1, _, by omega, by go_num, rfl, rfl, hid (by rw [List.take_add_one, List.take_add_one, HT.out, HXY.out.1, HXY.out.2, HR1.out.1 (by simp)])⟩
            | false =>
              have hrf : r = false := by
                cases r with
                | false => rfl
                | true =>
                  exfalso
                  have e := HR.out.1 rfl
                  have h1 := HXY.out.1
                  rw [e, HXY.out.2] at h1
                  have := HR1.out.2 (Option.some.inj h1).symm
                  cases this
              subst hrf
              go_wp2_with fail
              go_quiet ((go_at_call 50; exact eq_more CE.out _ _))
              go_wp2
              go_ret
              exact ⟨rfl, _, by rw [World.drewN_drewN]⟩
          · have hje : j = bs.length := by omega
            subst hje
            have hrt : r = true := HR.out.2 (by
              obtain ⟨hl1, hl2, hl3⟩ := H4.out
              have ht := HT.out
              rw [List.take_of_length_le (by omega), List.take_of_length_le (by omega)] at ht
              exact HEX.out ht)
            subst hrt
            go_wp2
            go_ret
            exact ⟨rfl, _, rfl⟩
      · have e1 : ((x.var : Int) != (y.var : Int)) = true := by simp; omega
        have hrf : r = false := by
          cases r with
          | false => rfl
          | true => exact absurd (by rw [HR.out.1 rfl]) hv
        subst hrf
        clear hrow grow h5 g5 ih okx oky hz0 h4 g4 hk hv kl kv k2
        generalize x.kind = kx at *
        generalize y.kind = ky at *
        generalize x.var = vx at *
        generalize y.var = vy at *
        go_enter Tryz.func50, Tryz.ntmps50
        go_wp2_with fail
        go_quiet (fail)
        go_wp2
        go_ret
        exact ⟨rfl, _, rfl⟩
    · have e0 : ((B x.kind).toList == (B y.kind).toList) = false := by rw [toList_B, toList_B]; exact beq_eq_false_iff_ne.2 hk
      have hrf : r = false := by
        cases r with
        | false => rfl
        | true => exact absurd (by rw [HR.out.1 rfl]) hk
      subst hrf
      clear hrow grow h5 g5 ih okx oky hz0 h4 g4 hk
      generalize x.kind = kx at *
      generalize y.kind = ky at *
      generalize x.var = vx at *
      generalize y.var = vy at *
      go_enter Tryz.func50, Tryz.ntmps50
      go_wp2_with fail
      go_quiet (fail)
      go_wp2
      go_ret
      exact ⟨rfl, _, rfl⟩
end Go.Proofs.YtcdijppegfcoaaaGreatDoor

/-
  OUR OWN TEXT. By which types a type becomes another, on plain data: the types xs their texts; typerref.Matched: what it keeps.
-/
namespace Go.Proofs.YtcdijppegfcoaaaGreatDoor
open Go.RowKit

def mKids (f : Ty → Ty → (List (Option (List UInt8))) → Option (List (Option (List UInt8)))) : List Ty → List Ty → (List (Option (List UInt8))) → Option (List (Option (List UInt8)))
  | a :: xs, b :: ys, g => match f a b g with
    | none => none
    | some g1 => mKids f xs ys g1
  | _, _, g => some g
/-- What the variables of x stand for if it is to be y (g: so far), xs texts by the names ns. -/
def matchS (M : Nat) (ns : List (List UInt8)) : Nat → Ty → Ty → (List (Option (List UInt8))) → Option (List (Option (List UInt8)))
  | 0, _, _, _ => none
  | n + 1, x, y, g =>
    if x.kind = [] then match g.getD x.var none with
      | some t => if t = tyText M ns y then some g else none
      | none => some (g.set x.var (some (tyText M ns y)))
    else if x.kind = y.kind then mKids (matchS M ns n) x.kids y.kids g else none
theorem mKids_len {f : Ty → Ty → (List (Option (List UInt8))) → Option (List (Option (List UInt8)))} (hf : ∀ a b g g', f a b g = some g' → g'.length = g.length) : ∀ (xs ys : List Ty) (g g' : (List (Option (List UInt8)))), mKids f xs ys g = some g' → g'.length = g.length
  | [], _, g, g', h => by cases h; rfl
  | _ :: _, [], g, g', h => by cases h; rfl
  | a :: xs, b :: ys, g, g', h => by
    rw [mKids] at h
    cases e : f a b g with
    | none => rw [e] at h; cases h
    | some g1 =>
      rw [e] at h
      rw [mKids_len hf xs ys g1 g' h, hf a b g g1 e]
theorem matchS_len {M : Nat} {ns : List (List UInt8)} : ∀ (n : Nat) (x y : Ty) (g g' : (List (Option (List UInt8)))), matchS M ns n x y g = some g' → g'.length = g.length
  | 0, _, _, _, _, h => by cases h
  | n + 1, x, y, g, g', h => by
    rw [matchS] at h
    split at h
    · split at h
      · split at h
        · cases h; rfl
        · cases h
      · cases h; simp
    · split at h
      · exact mKids_len (fun a b g g' => matchS_len n a b g g') _ _ g g' h
      · cases h
/-- One more pair of parts. -/
theorem mKids_drop {f : Ty → Ty → (List (Option (List UInt8))) → Option (List (Option (List UInt8)))} {xs ys : List Ty} {j : Nat} {a b : Ty} (ha : xs[j]? = some a) (hb : ys[j]? = some b) (g : (List (Option (List UInt8)))) : mKids f (xs.drop j) (ys.drop j) g = match f a b g with
    | none => none
    | some g1 => mKids f (xs.drop (j + 1)) (ys.drop (j + 1)) g1 := by
  have hja : j < xs.length := by
    rcases Nat.lt_or_ge j xs.length with h | h
    · exact h
    · rw [List.getElem?_eq_none h] at ha; cases ha
  have hjb : j < ys.length := by
    rcases Nat.lt_or_ge j ys.length with h | h
    · exact h
    · rw [List.getElem?_eq_none h] at hb; cases hb
  rw [List.drop_eq_getElem_cons hja, List.drop_eq_getElem_cons hjb, mKids]
  rw [List.getElem?_eq_getElem hja] at ha
  rw [List.getElem?_eq_getElem hjb] at hb
  cases ha
  cases hb
  rfl
theorem mKids_end {f : Ty → Ty → (List (Option (List UInt8))) → Option (List (Option (List UInt8)))} (xs ys : List Ty) (j : Nat) (h : xs.length ≤ j) (g : (List (Option (List UInt8)))) : mKids f (xs.drop j) (ys.drop j) g = some g := by
  rw [List.drop_eq_nil_of_le h, mKids]
  simp

def ptrO : Option Nat → Value
  | none => .pointer none
  | some b => .pointer (some ⟨b, 0, none⟩)
/-- A row of types, some of them none yet, xs a slice of whatever make. -/
def GRow (w : World) (v : Value) (gs : List (Option Nat)) : Prop :=
  ∃ ao cp, v = .slice ao gs.length cp ∧ ∀ (j : Nat) (o : Option Nat), gs[j]? = some o → ∃ g, ao = some ⟨g, 0, none⟩ ∧ g < w.heap.size ∧ w.cell? ⟨g, j, none⟩ = some (ptrO o)
theorem GRow.grown {w w' : World} {v : Value} {gs : List (Option Nat)} (h : GRow w v gs) (hg : w.grownBy w' none) : GRow w' v gs := by
  obtain ⟨ao, cp, rfl, hc⟩ := h
  refine ⟨ao, cp, rfl, fun j o e => ?_⟩
  obtain ⟨g, h1, h2, h3⟩ := hc j o e
  exact ⟨g, h1, Nat.lt_of_lt_of_le h2 hg.size, by rw [World.cell?_of_block (a := ⟨g, j, none⟩) (hg.block g h2 (by simp))]; exact h3⟩
/-- The row is that of these texts. -/
def GT (N M : Nat) (ns : List (List UInt8)) (H : Nat → Option Obj) (gs : List (Option Nat)) (g : (List (Option (List UInt8)))) : Prop :=
  gs.length = g.length ∧ ∀ (j : Nat), (∀ o, gs[j]? = some o → o = none → g[j]? = some none) ∧ (∀ b, gs[j]? = some (some b) → ∃ t, TRep M H b t ∧ TyOk N M t ∧ g[j]? = some (some (tyText M ns t)))
theorem GT.set {N M : Nat} {ns : List (List UInt8)} {H : Nat → Option Obj} {gs : List (Option Nat)} {g : (List (Option (List UInt8)))} (h : GT N M ns H gs g) {v b : Nat} {t : Ty} (hr : TRep M H b t) (ok : TyOk N M t) : GT N M ns H (gs.set v (some b)) (g.set v (some (tyText M ns t))) := by
  obtain ⟨hl, hj⟩ := h
  refine ⟨by simp [hl], fun j => ⟨fun o h1 h2 => ?_, fun c h1 => ?_⟩⟩
  · rw [List.getElem?_set] at h1 ⊢
    by_cases e : v = j
    · rw [if_pos e] at h1
      split at h1
      · rw [← Option.some.inj h1] at h2; cases h2
      · cases h1
    · rw [if_neg e] at h1 ⊢
      exact (hj j).1 o h1 h2
  · rw [List.getElem?_set] at h1 ⊢
    by_cases e : v = j
    · rw [if_pos e] at h1 ⊢
      split at h1
      · rename_i hlt
        rw [if_pos (by rw [← hl]; exact hlt)]
        have e2 := Option.some.inj (Option.some.inj h1)
        subst e2
        exact ⟨t, hr, ok, rfl⟩
      · cases h1
    · rw [if_neg e] at h1 ⊢
      exact (hj j).2 c h1
/-- What Matched leaves. -/
def MOut (N M : Nat) (ns : List (List UInt8)) (H : Nat → Option Obj) (w w' : World) (e : Ending) (r : Option (List (Option (List UInt8)))) : Prop :=
  w.grownBy w' none ∧ ∃ v, (r = none ∧ e = .returned (.tuple #[v, .bool false])) ∨ (∃ g' gs', r = some g' ∧ e = .returned (.tuple #[v, .bool true]) ∧ GRow w' v gs' ∧ GT N M ns H gs' g')
end Go.Proofs.YtcdijppegfcoaaaGreatDoor

/-
  OUR OWN TEXT. Each variable of a type that was read stands in it; a match gives each variable that stands there something.
-/
namespace Go.Proofs.YtcdijppegfcoaaaGreatDoor
open Go.RowKit

/-- A variable stands in a type. -/
def Occ : Nat → Ty → Nat → Prop
  | 0, _, _ => False
  | m + 1, x, v => (x.kind = [] ∧ x.var = v) ∨ ∃ y, y ∈ x.kids ∧ Occ m y v
theorem one_cover {T : List Tok} {A : List (List UInt8) → St → Option (Ty × List (List UInt8) × St)} (hA : ∀ ns s t ns' s', A ns s = some (t, ns', s') → ∀ v, ns.length ≤ v → v < ns'.length → ∃ m, Occ m t v) (ns : List (List UInt8)) (s : St) (t : Ty) (ns' : List (List UInt8)) (s' : St)
    (h : oneS A T ns s = some (t, ns', s')) : ∀ v, ns.length ≤ v → v < ns'.length → ∃ m, Occ m t v := by
  intro v h1 h2
  unfold oneS at h
  split at h
  · cases h; omega
  · split at h
    · cases h; omega
    · split at h
      · cases e : A ns s.up with
        | none => rw [e] at h; cases h
        | some q =>
          obtain ⟨t1, n1, s1⟩ := q
          rw [e] at h
          cases h
          obtain ⟨m, hm⟩ := hA _ _ _ _ _ e v h1 h2
          exact ⟨m + 1, Or.inr ⟨t1, by simp, hm⟩⟩
      · split at h
        · cases e : A ns s.up with
          | none => rw [e] at h; cases h
          | some q =>
            obtain ⟨t1, n1, s1⟩ := q
            rw [e] at h
            simp only at h
            split at h
            · cases e2 : A n1 s1.up with
              | none => rw [e2] at h; cases h
              | some q2 =>
                obtain ⟨t2, n2, s2⟩ := q2
                rw [e2] at h
                cases h
                rcases Nat.lt_or_ge v n1.length with hv | hv
                · obtain ⟨m, hm⟩ := hA _ _ _ _ _ e v h1 hv
                  exact ⟨m + 1, Or.inr ⟨t1, by simp, hm⟩⟩
                · obtain ⟨m, hm⟩ := hA _ _ _ _ _ e2 v hv h2
                  exact ⟨m + 1, Or.inr ⟨t2, by simp, hm⟩⟩
            · cases h
              exact hA _ _ _ _ _ e v h1 h2
        · cases h
          refine ⟨1, Or.inl ⟨rfl, ?_⟩⟩
          unfold numS at h2 ⊢
          split at h2
          · exact absurd h2 (by show ¬ v < ns.length; omega)
          · rename_i hn
            rw [if_neg hn]
            simp at h2
            show ns.length = v
            omega
theorem arr_cover {T : List Tok} : ∀ (n : Nat) (ns : List (List UInt8)) (s : St) (t : Ty) (ns' : List (List UInt8)) (s' : St), arrS T n ns s = some (t, ns', s') → ∀ v, ns.length ≤ v → v < ns'.length → ∃ m, Occ m t v
  | 0, _, _, _, _, _, h => by cases h
  | n + 1, ns, s, t, ns', s', h => by
    intro v h1 h2
    rw [arrS] at h
    cases e : oneS (arrS T n) T ns s with
    | none => rw [e] at h; cases h
    | some q =>
      obtain ⟨t1, n1, s1⟩ := q
      rw [e] at h
      simp only at h
      split at h
      · cases e2 : arrS T n n1 s1.up with
        | none => rw [e2] at h; cases h
        | some q2 =>
          obtain ⟨t2, n2, s2⟩ := q2
          rw [e2] at h
          cases h
          rcases Nat.lt_or_ge v n1.length with hv | hv
          · obtain ⟨m, hm⟩ := one_cover (arr_cover n) ns s t1 n1 s1 e v h1 hv
            exact ⟨m + 1, Or.inr ⟨t1, by simp, hm⟩⟩
          · obtain ⟨m, hm⟩ := arr_cover n _ _ _ _ _ e2 v hv h2
            exact ⟨m + 1, Or.inr ⟨t2, by simp, hm⟩⟩
      · cases h
        exact one_cover (arr_cover n) ns s _ _ _ e v h1 h2
theorem getD_set {g : List (Option (List UInt8))} {v i : Nat} {t : List UInt8} (h : (g.getD i none).isSome = true) : ((g.set v (some t)).getD i none).isSome = true := by
  rw [List.getD_eq_getElem?_getD, List.getElem?_set]
  rw [List.getD_eq_getElem?_getD] at h
  by_cases e : v = i
  · rw [if_pos e]
    split
    · rfl
    · rename_i hl
      rw [List.getElem?_eq_none (by omega)] at h
      exact h
  · rw [if_neg e]; exact h
theorem mKids_mono {f : Ty → Ty → List (Option (List UInt8)) → Option (List (Option (List UInt8)))} (hf : ∀ a b g g', f a b g = some g' → ∀ i, (g.getD i none).isSome = true → (g'.getD i none).isSome = true) : ∀ (xs ys : List Ty) (g g' : List (Option (List UInt8))), mKids f xs ys g = some g' → ∀ i, (g.getD i none).isSome = true → (g'.getD i none).isSome = true
  | [], _, g, g', h, i, hi => by simp [mKids] at h; rw [← h]; exact hi
  | _ :: _, [], g, g', h, i, hi => by simp [mKids] at h; rw [← h]; exact hi
  | a :: xs, b :: ys, g, g', h, i, hi => by
    rw [mKids] at h
    cases e : f a b g with
    | none => rw [e] at h; cases h
    | some g1 =>
      rw [e] at h
      exact mKids_mono hf xs ys g1 g' h i (hf a b g g1 e i hi)
theorem match_mono {M : Nat} {ns : List (List UInt8)} : ∀ (n : Nat) (x y : Ty) (g g' : List (Option (List UInt8))), matchS M ns n x y g = some g' → ∀ i, (g.getD i none).isSome = true → (g'.getD i none).isSome = true
  | 0, _, _, _, _, h, _, _ => by cases h
  | n + 1, x, y, g, g', h, i, hi => by
    rw [matchS] at h
    split at h
    · split at h
      · split at h
        · cases h; exact hi
        · cases h
      · cases h; exact getD_set hi
    · split at h
      · exact mKids_mono (fun a b g g' => match_mono n a b g g') _ _ g g' h i hi
      · cases h
theorem mKids_fill {f : Ty → Ty → List (Option (List UInt8)) → Option (List (Option (List UInt8)))} (hl : ∀ a b g g', f a b g = some g' → g'.length = g.length) (hm : ∀ a b g g', f a b g = some g' → ∀ i, (g.getD i none).isSome = true → (g'.getD i none).isSome = true) (v : Nat) : ∀ (xs ys : List Ty) (g g' : List (Option (List UInt8))), xs.length = ys.length → mKids f xs ys g = some g' → v < g.length →
    (∃ a, a ∈ xs ∧ ∀ b g g', b ∈ ys → f a b g = some g' → v < g.length → (g'.getD v none).isSome = true) → (g'.getD v none).isSome = true
  | [], _, _, _, _, _, _, ⟨a, ha, _⟩ => by cases ha
  | _ :: _, [], _, _, he, _, _, _ => by simp at he
  | a :: xs, b :: ys, g, g', he, h, hv, ⟨c, hc, hf⟩ => by
    rw [mKids] at h
    cases e : f a b g with
    | none => rw [e] at h; cases h
    | some g1 =>
      rw [e] at h
      have hl1 := hl a b g g1 e
      rcases List.mem_cons.1 hc with rfl | hc
      · exact mKids_mono hm xs ys g1 g' h v (hf b g g1 (by simp) e hv)
      · exact mKids_fill hl hm v xs ys g1 g' (by simpa using he) h (by omega) ⟨c, hc, fun b' g g' hb => hf b' g g' (List.mem_cons_of_mem _ hb)⟩
theorem match_fill {N M : Nat} {ns : List (List UInt8)} {v : Nat} : ∀ (m n : Nat) (x y : Ty) (g g' : List (Option (List UInt8))), Occ m x v → TyOk N n x → TyOk N M y → n ≤ M → matchS M ns n x y g = some g' → v < g.length → (g'.getD v none).isSome = true
  | 0, _, _, _, _, _, h, _, _, _, _, _ => absurd h id
  | _ + 1, 0, _, _, _, _, _, h, _, _, _, _ => absurd h id
  | m + 1, n + 1, x, y, g, g', ho, okx, oky, hnM, h, hv => by
    rw [matchS] at h
    split at h
    · rename_i hk
      have hxv : x.var = v := by
        rcases ho with ⟨_, h⟩ | ⟨z, hz, _⟩
        · exact h
        · exfalso
          rcases okx with ⟨_, _, h3⟩ | ⟨_, _, h3⟩ | ⟨h1, _⟩ | ⟨h1, _⟩
          · rw [h3] at hz; cases hz
          · rw [h3] at hz; cases hz
          · rw [hk] at h1; exact absurd h1 (by decide)
          · rw [hk] at h1; rcases h1 with h1 | h1 <;> exact absurd h1 (by decide)
      split at h
      · rename_i t e
        split at h
        · cases h
          rw [← hxv, e]; rfl
        · cases h
      · cases h
        rw [hxv, List.getD_eq_getElem?_getD, List.getElem?_set, if_pos rfl, if_pos hv]
        rfl
    · rename_i hk
      split at h
      · rename_i hkk
        obtain ⟨M', rfl⟩ : ∃ M', M = M' + 1 := ⟨M - 1, by omega⟩
        obtain ⟨kl, _, _⟩ := kids_len (okx.le hnM) oky hkk
        rcases ho with ⟨h1, _⟩ | ⟨z, hz, hoz⟩
        · exact absurd h1 hk
        · refine mKids_fill (fun a b g g' => matchS_len n a b g g') (fun a b g g' => match_mono n a b g g') v _ _ g g' kl h hv ⟨z, hz, fun b g1 g2 hb hm hv1 => ?_⟩
          exact match_fill m n z b g1 g2 hoz (ok_kid okx hz) (TyOk.up M' b (ok_kid oky hb)) (by omega) hm hv1
      · cases h
end Go.Proofs.YtcdijppegfcoaaaGreatDoor

/-
  OUR OWN TEXT. typerref.Matched.
-/
namespace Go.Proofs.YtcdijppegfcoaaaGreatDoor
open Go.RowKit

theorem info_ty : (Tryz.prog.info? 33).map (fun i => (i.zero, i.size, i.bytes)) = some (some (.pointer none), 1, 8) := by kernel_rfl
theorem ptrO_one (o : Option Nat) : (ptrO o).oneCell' = true := by cases o <;> rfl
theorem set_row {w1 : World} {g n cap base : Nat} {xs : List Value} (hown : w1.ownsRow base 33 1 (.slice (some ⟨g, 0, none⟩) n cap) n xs) (v : Nat) (hv : v < n) (u : Value) :
    (∀ (j : Nat) (x : Value), xs[j]? = some x → w1.cell? ⟨g, j, none⟩ = some x) ∧ w1.frozen? ⟨g, v, none⟩ = false ∧ ∀ (j : Nat) (x : Value), (xs.set v u)[j]? = some x → (w1.setCell ⟨g, v, none⟩ u).cell? ⟨g, j, none⟩ = some x := by
  obtain ⟨hl, h⟩ := hown
  rcases h with ⟨h, _⟩ | ⟨g', cap', cur, e, hg, hb, hcap, hcur, hz, hxs⟩
  · cases h
  · cases e
    have hx : ∀ (j : Nat) (x : Value), xs[j]? = some x → cur[j]? = some x := fun j x e => by
      rw [← hxs, List.getElem?_take] at e
      split at e
      · simpa using e
      · cases e
    refine ⟨fun j x e => by simp [World.cell?, hb, hx j x e], by simp [World.frozen?, hb], fun j x e => ?_⟩
    rw [List.getElem?_set] at e
    have hcs : v < cur.size := by omega
    by_cases ej : v = j
    · subst ej
      rw [if_pos rfl] at e
      split at e
      · simp [World.cell?, World.setCell, Array.getElem?_modify, hb, hcs]
        exact Option.some.inj e
      · cases e
    · rw [if_neg ej] at e
      simp [World.cell?, World.setCell, Array.getElem?_modify, hb, ej]
      exact hx j x e

theorem matchS_known {M : Nat} {ns : List (List UInt8)} {n : Nat} {x y : Ty} {g : List (Option (List UInt8))} {t : List UInt8} (hk : x.kind = []) (e : g.getD x.var none = some t) : matchS M ns (n + 1) x y g = if t = tyText M ns y then some g else none := by
  rw [matchS, if_pos hk, e]
theorem matchS_new {M : Nat} {ns : List (List UInt8)} {n : Nat} {x y : Ty} {g : List (Option (List UInt8))} (hk : x.kind = []) (e : g.getD x.var none = none) : matchS M ns (n + 1) x y g = some (g.set x.var (some (tyText M ns y))) := by
  rw [matchS, if_pos hk, e]

theorem Fz.grown' {H : Nat → Option Obj} {w w' : World} (h : Fz H w) (hg : w.grownBy w' Option.none) : Fz H w' := fun k o e => by
  rw [hg.block k (h.lt e) (by simp)]
  exact h k o e

set_option maxRecDepth 100000 in
set_option maxHeartbeats 4000000 in
theorem matched_any (N M : Nat) (ns : List (List UInt8)) (hn : Nms N ns) (H : Nat → Option Obj) (hN : N ≤ 100000) (L : Nat) (hL : L ≤ 1000) : ∀ (n a c : Nat) (x y : Ty) (g : List (Option (List UInt8))) (gs : List (Option Nat)) (v : Value) (w : World), TRep n H a x → TRep M H c y → TyOk N M y → n ≤ M → Fz H w → GRow w v gs → GT N M ns H gs g → TyOk L n x → gs.length = L →
    Calls Tryz.prog 22 #[.pointer (some ⟨a, 0, none⟩), .pointer (some ⟨c, 0, none⟩), v] w fun e w' => MOut N M ns H w w' e (matchS M ns n x y g) := by
  intro n
  induction n with
  | zero => intro a c x y g gs v w h; exact absurd h id
  | succ n ih =>
    intro a c x y g gs v w hx hy oky hnM hz hrow hgt hvs hgl
    obtain ⟨ks, bs, h1, h3, h4, h5⟩ := hx
    have hb := hz _ _ h1
    obtain ⟨ao, cp, rfl, hbrow⟩ := row_viewT h3 hz
    have hal := hz.lt h1
    have c0 : w.cell? ⟨a, 0, none⟩ = some (.string (B x.kind)) := by simp [World.cell?, hb]
    have c1 : w.cell? ⟨a, 1, none⟩ = some (.int .i64 (x.var : Int)) := by simp [World.cell?, hb]
    have c2 : w.cell? ⟨a, 2, none⟩ = some (.slice ao bs.length cp) := by simp [World.cell?, hb]
    by_cases hk : x.kind = []
    · have o0 : ((B x.kind).toList == ([] : List UInt8)) = true := by rw [toList_B, hk]; rfl
      have hv : x.var < gs.length := by
        rw [hgl]
        rcases hvs with ⟨_, q2, _⟩ | ⟨q1, _⟩ | ⟨q1, _⟩ | ⟨q1, _⟩
        · exact q2
        · rw [hk] at q1; rcases q1 with q1 | q1 <;> exact absurd q1 (by decide)
        · rw [hk] at q1; exact absurd q1 (by decide)
        · rw [hk] at q1; rcases q1 with q1 | q1 <;> exact absurd q1 (by decide)
      have hgl' : gs.length ≤ 1000 := by omega
      clear hgl
      obtain ⟨o, ho⟩ : ∃ o, gs[x.var]? = some o := ⟨_, List.getElem?_eq_getElem hv⟩
      obtain ⟨go, gc, rfl, hcell⟩ := hrow
      obtain ⟨gb, rfl, hgb, hco⟩ := hcell x.var o ho
      have hGR : GRow w (.slice (some ⟨gb, 0, none⟩) gs.length gc) gs := ⟨_, gc, rfl, hcell⟩
      cases o with
      | some b2 =>
        obtain ⟨t, tr, tok, tg⟩ := (hgt.2 x.var).2 b2 ho
        have e1 : g.getD x.var none = some (tyText M ns t) := by rw [List.getD_eq_getElem?_getD, tg]; rfl
        rw [matchS_known hk e1]
        obtain ⟨r, hr⟩ := bool_of (t = y)
        have CE := hid (equal_any N H M b2 c t y r w tr hy tok oky (by omega) hr hz 0)
        have hMO : MOut N M ns H w w (.returned (.tuple #[.slice (some ⟨gb, 0, none⟩) gs.length gc, .bool r])) (if tyText M ns t = tyText M ns y then some g else none) := by
          refine ⟨World.grownBy.refl _ _, .slice (some ⟨gb, 0, none⟩) gs.length gc, ?_⟩
          cases r with
          | true => exact Or.inr ⟨g, gs, by rw [if_pos (by rw [hr.1 rfl])], rfl, hGR, hgt⟩
          | false => exact Or.inl ⟨by rw [if_neg fun e => by have := hr.2 (same_text hn tok oky e); cases this], rfl⟩
        have HM := hid hMO
        unfold ptrO at hco
        clear hMO hr hgt hGR hcell hb h1 h3 h4 h5 c2 ho e1 tg tr tok hy oky hz hbrow hvs ih hn hk
        generalize (if tyText M ns t = tyText M ns y then some g else none) = res at *
        generalize x.kind = kx at *
        go_enter Tryz.func22, Tryz.ntmps22
        go_wp2_with fail
        refine CE.out.mono ?_
        rintro e w1 ⟨rfl, q, rfl⟩
        go_wp2
        go_ret2
        obtain ⟨m1, v1, m2⟩ := HM.out
        refine ⟨⟨rfl, rfl, rfl, Nat.le_refl _, fun _ _ _ => rfl⟩, v1, ?_⟩
        rcases m2 with ⟨q1, q2⟩ | ⟨g', gs', q1, q2, q3, q4⟩
        · exact Or.inl ⟨q1, by rw [← q2]; rfl⟩
        · exact Or.inr ⟨g', gs', q1, by rw [← q2]; rfl, q3, q4⟩
      | none =>
        have tg := (hgt.2 x.var).1 none ho rfl
        have e1 : g.getD x.var none = none := by rw [List.getD_eq_getElem?_getD, tg]; rfl
        rw [matchS_new hk e1]
        have HGT := hid (hgt.set hy oky (v := x.var))
        have HC := hid hcell
        have HN0 := hid (show (gs.map ptrO).length = gs.length * 1 by simp)
        have HN1 := hid (show ∀ (j : Nat) (u : Value), (gs.map ptrO)[j]? = some u → w.cell? ((⟨gb, 0, none⟩ : Addr).add j) = some u from fun j u hu => by
          rw [List.getElem?_map] at hu
          cases ej : gs[j]? with
          | none => rw [ej] at hu; cases hu
          | some o =>
            rw [ej] at hu
            cases hu
            obtain ⟨g2, q1, _, q3⟩ := hcell j o ej
            cases q1
            have : (⟨gb, 0, none⟩ : Addr).add j = ⟨gb, j, none⟩ := by by_cases h : j = 0 <;> simp [Addr.add, h]
            rw [this]
            exact q3)
        have HN2 := hid (show ∀ u, u ∈ gs.map ptrO → u.oneCell' = true from fun u hu => by
          obtain ⟨o, _, rfl⟩ := List.mem_map.1 hu
          exact ptrO_one o)
        have HN3 := hid (show ([] ++ gs.map ptrO)[x.var]? = some (.pointer none) by rw [List.nil_append, List.getElem?_map, ho]; rfl)
        have hv0 : 0 < gs.length := by omega
        unfold ptrO at hco
        generalize g.set x.var (some (tyText M ns y)) = g' at *
        clear hgt hGR hcell hb h1 h3 h4 h5 c2 e1 tg hy oky hz hbrow hvs ih hn hk
        obtain ⟨i0, hi, hz0, hz1, hz2⟩ := info_parts info_ty
        generalize x.kind = kx at *
        go_enter Tryz.func22, Tryz.ntmps22
        go_wp2_with (at_builtin; refine wpList_append_lies _ rfl (.const (.slice none 0 0)) (.tmp 34) 40 rfl w.heap.size 33 i0 (.pointer none) 1 8 Tryz.underlying40 hi hz0 hz1 hz2 rfl (by decide) (.slice none 0 0) 0 [] rfl (World.ownsRow_nil _ _ _ _) ⟨gb, 0, none⟩ gs.length gc (gs.map ptrO) rfl HN0.out HN1.out HN2.out hv0 (by unfold maxLen; omega) (by omega) (Nat.le_refl _) w.heap.size rfl ?_; intro g2 cap2 w6 hown6 hgrow6' hat6 hlt6; have hgrow6 : w.grownBy w6 none := hgrow6'; clear hgrow6'; have c1' : w6.cell? ⟨a, 1, none⟩ = some (.int .i64 (x.var : Int)) := (World.cell?_of_block (a := ⟨a, 1, none⟩) (hgrow6.block a hal (by simp))).trans c1; have A6 := hid (And.intro hown6 (And.intro hgrow6 hat6)); have hA6 := hid (set_row hown6 x.var (by omega) (.pointer (some ⟨c, 0, none⟩))); clear hown6 hgrow6 hat6; have z0 := hA6.out.1 x.var (.pointer none) HN3.out; have z1 := hA6.out.2.1)
        go_ret2
        obtain ⟨_, hgrow6, hat6⟩ := A6.out
        obtain ⟨_, _, hcells⟩ := hA6.out
        have hg2 : g2 = w.heap.size := by
          rcases hat6 with h | h
          · cases h
          · exact h
        refine ⟨⟨hgrow6.os, hgrow6.tape, hgrow6.output, by have := hgrow6.size; simp [World.setCell]; exact this, fun k hk _ => ?_⟩, _, Or.inr ⟨g', gs.set x.var (some c), rfl, rfl, ⟨some ⟨g2, 0, none⟩, cap2, by simp, fun j o e => ⟨g2, rfl, by simp [World.setCell]; exact hlt6, ?_⟩⟩, HGT.out⟩⟩
        · rw [Below.heap_setCell _ _ _ _ (by show k ≠ g2; omega)]
          exact hgrow6.block k hk (by simp)
        · refine hcells j (ptrO o) ?_
          rw [List.nil_append, show (.pointer (some ⟨c, 0, none⟩) : Value) = ptrO (some c) from rfl, ← List.map_set, List.getElem?_map, e]
          rfl
    · have o0 : ((B x.kind).toList == ([] : List UInt8)) = false := by rw [toList_B]; exact beq_eq_false_iff_ne.2 hk
      obtain ⟨M', rfl⟩ : ∃ M', M = M' + 1 := ⟨M - 1, by omega⟩
      obtain ⟨ls, cs, g1, g3, g4, g5⟩ := hy
      have hd := hz _ _ g1
      obtain ⟨bo, dp, rfl, hcrow⟩ := row_viewT g3 hz
      have d0 : w.cell? ⟨c, 0, none⟩ = some (.string (B y.kind)) := by simp [World.cell?, hd]
      have hcl := hz.lt g1
      by_cases hkk : x.kind = y.kind
      · have e0 : ((B x.kind).toList == (B y.kind).toList) = true := by rw [hkk]; simp
        have hm : matchS (M' + 1) ns (n + 1) x y g = mKids (matchS (M' + 1) ns n) (x.kids.drop 0) (y.kids.drop 0) g := by rw [matchS, if_neg hk, if_pos hkk]; rfl
        rw [hm]
        obtain ⟨kl, _, k2⟩ := kids_len (N := max N L) (TyOk.le (TyOk.wide (by omega) _ _ hvs) hnM) (TyOk.wide (by omega) _ _ oky) hkk
        have hb2 : bs.length ≤ 2 := by omega
        have HA := hid (And.intro h1 (And.intro h3 (And.intro h4 h5)))
        have HC := hid (And.intro g1 (And.intro g3 (And.intro g4 g5)))
        have IH := hid ih
        have OK := hid (And.intro oky hvs)
        have HZ := hid hz
        have HKL := hid kl
        have HG0 := hid (show GRow w v gs ∧ GT N (M' + 1) ns H gs g ∧ gs.length = L from ⟨hrow, hgt, hgl⟩)
        obtain ⟨res, hres⟩ : ∃ res, res = mKids (matchS (M' + 1) ns n) (x.kids.drop 0) (y.kids.drop 0) g := ⟨_, rfl⟩
        rw [← hres]
        have HRES := hid hres.symm
        clear hres hrow hgt hgl hb hd h1 h3 h4 h5 g1 g3 g4 g5 ih oky hvs hz hbrow hcrow hk hkk hm kl k2 c1
        generalize x.kind = kx at *
        generalize y.kind = ky at *
        go_enter Tryz.func22, Tryz.ntmps22
        go_wp2_with fail
        go_quiet (fail)
        go_wp2_with fail
        go_loopg [2, 59] (bs.length + 1) (fun gh v i wi => ∃ (j : Nat) (gs : List (Option Nat)) (g : List (Option (List UInt8))), j ≤ bs.length ∧ i = .int .i64 j ∧ gh = bs.length - j + 1 ∧ Hid (w.grownBy wi none) ∧ Hid (GRow wi v gs ∧ GT N (M' + 1) ns H gs g ∧ gs.length = L) ∧ Hid (mKids (matchS (M' + 1) ns n) (x.kids.drop j) (y.kids.drop j) g = res))
        case atStart => exact ⟨0, gs, g, by omega, rfl, by omega, hid ⟨rfl, rfl, rfl, Nat.le_refl _, fun _ _ _ => rfl⟩, HG0, HRES⟩
        case round =>
          obtain ⟨j, gs, g, hj, rfl, hgj, HG, HROW, HR⟩ := hrel
          obtain ⟨h1, h3, h4, h5⟩ := HA.out
          obtain ⟨g1, g3, g4, g5⟩ := HC.out
          have hzr : Fz H wr := HZ.out.grown' HG.out
          have hb := hzr _ _ h1
          have hd := hzr _ _ g1
          obtain ⟨ao', cp', q1, hbrow⟩ := row_viewT h3 hzr
          cases q1
          obtain ⟨bo', dp', q2, hcrow⟩ := row_viewT g3 hzr
          cases q2
          have c2' : wr.cell? ⟨a, 2, none⟩ = some (.slice ao bs.length cp) := by simp [World.cell?, hb]
          have d2' : wr.cell? ⟨c, 2, none⟩ = some (.slice bo cs.length dp) := by simp [World.cell?, hd]
          by_cases hjl : j < bs.length
          · have hjc : j < cs.length := by have := HKL.out; omega
            obtain ⟨a1, ha1⟩ : ∃ a1, bs[j]? = some a1 := ⟨bs[j], List.getElem?_eq_getElem hjl⟩
            obtain ⟨c1, hc1⟩ : ∃ c1, cs[j]? = some c1 := ⟨cs[j], List.getElem?_eq_getElem hjc⟩
            obtain ⟨x1, hx1⟩ : ∃ x1, x.kids[j]? = some x1 := ⟨x.kids[j]'(by omega), List.getElem?_eq_getElem _⟩
            obtain ⟨y1, hy1⟩ : ∃ y1, y.kids[j]? = some y1 := ⟨y.kids[j]'(by omega), List.getElem?_eq_getElem _⟩
            obtain ⟨ga, rfl, hca⟩ := hbrow j a1 ha1
            obtain ⟨gc, rfl, hcc⟩ := hcrow j c1 hc1
            obtain ⟨hrow, hgt, hgl⟩ := HROW.out
            have CM := hid (IH.out a1 c1 x1 y1 g gs _ wr.drew (h5 j x1 a1 ha1 hx1) ((g5 j y1 c1 hc1 hy1).le (by omega)) ((ok_kid OK.out.1 (List.mem_of_getElem? hy1)).le (by omega)) (by omega) (show Fz H wr.drew from hzr) (show GRow wr.drew _ _ from hrow) hgt (ok_kid OK.out.2 (List.mem_of_getElem? hx1)) hgl)
            have HST := hid (mKids_drop (f := matchS (M' + 1) ns n) hx1 hy1 g)
            have hjc' : (j : Int) < (cs.length : Int) := by omega
            have hlg : g.length = L := by rw [← hgt.1]; exact hgl
            obtain ⟨r1, hr1⟩ : ∃ r1, r1 = matchS (M' + 1) ns n x1 y1 g := ⟨_, rfl⟩
            rw [← hr1] at CM HST
            have HR1 := hid hr1
            clear hr1 h1 h3 h4 h5 g1 g3 g4 g5 hzr hb hd hbrow hcrow ha1 hc1 hx1 hy1 hrow hgt hgl
            cases r1 with
            | none =>
              have CN := hid (CM.out.mono (R' := fun e w' => wr.grownBy w' none ∧ ∃ v, e = .returned (.tuple #[v, .bool false])) fun e w' h => by
                obtain ⟨h1, v1, (⟨_, h2⟩ | ⟨_, _, h2, _⟩)⟩ := h
                · exact ⟨⟨h1.os, h1.tape, h1.output, h1.size, h1.block⟩, v1, h2⟩
                · cases h2)
              have hres : res = none := by
                have := HR.out
                rw [HST.out] at this
                exact this.symm
              subst hres
              clear CM HST HR
              go_wp2_with fail
              go_region_with (go_at_call 22; refine CN.out.mono ?_; rintro e w1 ⟨g1, v1, rfl⟩; have G1 := hid g1; clear g1)
              all_goals
                go_wp2
                go_ret2
                exact ⟨HG.out.trans (G1.out), _, Or.inl ⟨rfl, rfl⟩⟩
            | some g9 =>
              have CN := hid (CM.out.mono (R' := fun e w' => wr.grownBy w' none ∧ ∃ v gs', e = .returned (.tuple #[v, .bool true]) ∧ GRow w' v gs' ∧ GT N (M' + 1) ns H gs' g9) fun e w' h => by
                obtain ⟨h1, v1, (⟨h2, _⟩ | ⟨g', gs', h2, h3, h4, h5⟩)⟩ := h
                · cases h2
                · cases h2
                  exact ⟨⟨h1.os, h1.tape, h1.output, h1.size, h1.block⟩, v1, gs', h3, h4, h5⟩)
              have hl9 : g9.length = L := by rw [matchS_len _ _ _ _ _ HR1.out.symm]; exact hlg
              have HR9 := hid (show mKids (matchS (M' + 1) ns n) (x.kids.drop (j + 1)) (y.kids.drop (j + 1)) g9 = res by
                have := HR.out
                rw [HST.out] at this
                exact this)
              clear CM HST HR
              go_wp2_with fail
              go_region_with (go_at_call 22; refine CN.out.mono ?_; rintro e w1 ⟨g1, v1, gs1, rfl, k1, k2⟩; have G1 := hid g1; have K1 := hid (And.intro k1 k2); clear g1 k1 k2)
              all_goals
                go_wp2_with fail
                go_roundg (bs.length - (j + 1) + 1)
                case measure => omega
                case rel => exact ⟨j + 1, gs1, g9, by omega, by go_num, rfl, hid (HG.out.trans G1.out), hid ⟨K1.out.1, K1.out.2, by rw [K1.out.2.1]; exact hl9⟩, HR9⟩
          · have hje : j = bs.length := by omega
            subst hje
            have hres : res = some g := by
              have := HR.out
              rw [mKids_end _ _ _ (by omega)] at this
              exact this.symm
            have Q := hid (show MOut N (M' + 1) ns H w wr (.returned (.tuple #[u2, .bool true])) res from ⟨HG.out, u2, Or.inr ⟨g, gs, hres, rfl, HROW.out.1, HROW.out.2.1⟩⟩)
            clear h1 h3 h4 h5 g1 g3 g4 g5 hzr hb hd hbrow hcrow hres
            go_wp2
            go_ret2
            exact Q.out
      · have e0 : ((B x.kind).toList == (B y.kind).toList) = false := by rw [toList_B, toList_B]; exact beq_eq_false_iff_ne.2 hkk
        have hm : matchS (M' + 1) ns (n + 1) x y g = none := by rw [matchS, if_neg hk, if_neg hkk]
        rw [hm]
        clear hrow hgt hgl hb hd h1 h3 h4 h5 g1 g3 g4 g5 ih oky hvs hz hbrow hcrow hk hkk hm c1 c2 hn
        generalize x.kind = kx at *
        generalize y.kind = ky at *
        go_enter Tryz.func22, Tryz.ntmps22
        go_wp2_with fail
        go_quiet (fail)
        go_wp2
        go_ret2
        exact ⟨⟨rfl, rfl, rfl, Nat.le_refl _, fun _ _ _ => rfl⟩, _, Or.inl ⟨rfl, rfl⟩⟩
end Go.Proofs.YtcdijppegfcoaaaGreatDoor
