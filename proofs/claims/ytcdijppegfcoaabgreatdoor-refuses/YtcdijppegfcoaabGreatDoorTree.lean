/-
  OUR OWN TEXT. typerref's reader on plain data, whole; expressions in memory, over blocks that no longer change.
-/
import Derived.Test.YtcdijppegfcoaabGreatDoorRefR
namespace Go.Proofs.YtcdijppegfcoaabGreatDoor
open Go.RowKit

def St.up (s : St) : St := ⟨s.k + 1, s.bad⟩

def atomS (E : St → Option (Ex × St)) (T : List Tok) (s : St) : Option (Ex × St) :=
  if isS T s kName = true ∨ isS T s kNum = true then some (⟨(tk T s.k).is, [(tk T s.k).s], [], (tk T s.k).pos⟩, s.up)
  else match E (needS T s kOpen) with
    | none => none
    | some (x, s1) =>
      if isS T s1 kComma = true then match E s1.up with
        | none => none
        | some (y, s2) => some (⟨oPair, [], [x, y], (tk T s.k).pos⟩, needS T s2 kShut)
      else some (x, needS T s1 kShut)

def appS (A : St → Option (Ex × St)) (T : List Tok) : Nat → Ex → St → Option (Ex × St)
  | 0, _, _ => none
  | f + 1, x, s =>
    if isS T s kName = true ∨ isS T s kNum = true ∨ isS T s kOpen = true then match A s with
      | none => none
      | some (y, s1) => appS A T f ⟨oApp, [], [x, y], x.pos⟩ s1
    else some (x, s)

def twiceS (names : List (List UInt8)) (n : List UInt8) (p : Nat) (s : St) : St := if n ∈ names ∧ s.bad < 0 then ⟨s.k, (p : Int)⟩ else s
def boundS (E : St → Option (Ex × St)) (T : List Tok) (x : Ex) (s : St) : Option (Ex × St) :=
  match E (needS T (twiceS x.names (tk T s.k).s (tk T s.k).pos (needS T s kName)) kEq) with
  | none => none
  | some (b, s4) => some (⟨x.op, x.names ++ [(tk T s.k).s], x.kids ++ [b], x.pos⟩, s4)

def bindsS (E : St → Option (Ex × St)) (T : List Tok) : Nat → Ex → St → Option (Ex × St)
  | 0, _, _ => none
  | f + 1, x, s =>
    if x.op = kRec ∧ isS T s kAnd = true then match boundS E T x s.up with
      | none => none
      | some (y, s1) => bindsS E T f y s1
    else some (x, s)

def expS (T : List Tok) : Nat → St → Option (Ex × St)
  | 0, _ => none
  | n + 1, s =>
    if 0 ≤ s.bad then some (⟨[], [], [], (tk T s.k).pos⟩, s)
    else if isS T s kFun = true then
      match expS T n (needS T (needS T s.up kName) kArrow) with
      | none => none
      | some (b, s4) => some (⟨kFun, [(tk T s.up.k).s], [b], (tk T s.k).pos⟩, s4)
    else if isS T s kIf = true then
      match expS T n s.up with
      | none => none
      | some (c, s1) => match expS T n (needS T s1 kThen) with
        | none => none
        | some (a, s2) => match expS T n (needS T s2 kElse) with
          | none => none
          | some (b, s3) => some (⟨kIf, [], [c, a, b], (tk T s.k).pos⟩, s3)
    else if isS T s kLet = true then
      match boundS (expS T n) T ⟨if isS T s.up kRec = true then kRec else kLet, [], [], (tk T s.k).pos⟩ (takeS T s.up kRec) with
      | none => none
      | some (x, s1) => match bindsS (expS T n) T (T.length + 1) x s1 with
        | none => none
        | some (y, s2) => match expS T n (needS T s2 kIn) with
          | none => none
          | some (b, s3) => some (⟨y.op, y.names, y.kids ++ [b], y.pos⟩, s3)
    else match atomS (expS T n) T s with
      | none => none
      | some (x, s1) => appS (atomS (expS T n) T) T (T.length + 1) x s1

/-- Blocks that no longer change. -/
def Fz (H : Nat → Option Obj) (w : World) : Prop := ∀ k o, H k = some o → w.heap[k]? = some o
theorem Fz.lt {H : Nat → Option Obj} {w : World} (h : Fz H w) {k : Nat} {o : Obj} (e : H k = some o) : k < w.heap.size := lt_of_block (h k o e)
theorem Fz.none {H : Nat → Option Obj} {w : World} (h : Fz H w) {k : Nat} (hk : w.heap.size ≤ k) : H k = none := by
  cases e : H k with
  | none => rfl
  | some o => have := h.lt e; omega
theorem Fz.alloc {H : Nat → Option Obj} {w : World} (h : Fz H w) (o : Obj) : Fz H (w.alloc o) := fun k x e => by
  rw [Below.heap_alloc _ _ _ (h.lt e)]; exact h k x e
theorem Fz.drew {H : Nat → Option Obj} {w : World} (h : Fz H w) : Fz H w.drew := h
theorem Fz.kept {H : Nat → Option Obj} {w w' : World} {rb : Nat} (h : Fz H w) (hk : Kept rb w w') (hr : H rb = Option.none) : Fz H w' := fun k x e => by
  rw [hk.block k (h.lt e) (fun e' => by rw [Option.some.inj e', hr] at e; cases e)]; exact h k x e
theorem Fz.set {H : Nat → Option Obj} {w : World} (h : Fz H w) {b : Nat} (hb : H b = Option.none) (i : Nat) (v : Value) : Fz H (w.setCell ⟨b, i, Option.none⟩ v) := fun k x e => by
  rw [Below.heap_setCell _ _ _ _ (fun e' => by have e2 : k = b := e'; rw [e2, hb] at e; cases e)]; exact h k x e
/-- One block more that no longer changes. -/
def Fz.more (H : Nat → Option Obj) (b : Nat) (o : Obj) : Nat → Option Obj := fun k => if k = b then some o else H k
theorem Fz.add {H : Nat → Option Obj} {w : World} (h : Fz H w) {b : Nat} {o : Obj} (hb : w.heap[b]? = some o) : Fz (Fz.more H b o) w := fun k x e => by
  unfold Fz.more at e
  split at e
  · rename_i hk; subst hk; rw [← Option.some.inj e]; exact hb
  · exact h k x e
/-- H' has all of H, and beside it only blocks from n on. -/
def Ext (n : Nat) (H H' : Nat → Option Obj) : Prop := (∀ k o, H k = some o → H' k = some o) ∧ ∀ k, k < n → H' k = H k
theorem Ext.refl (n : Nat) (H : Nat → Option Obj) : Ext n H H := ⟨fun _ _ e => e, fun _ _ => rfl⟩
theorem Ext.trans {n m : Nat} {H H' H'' : Nat → Option Obj} (h : Ext n H H') (k : Ext m H' H'') (hm : n ≤ m) : Ext n H H'' :=
  ⟨fun i o e => k.1 i o (h.1 i o e), fun i hi => (k.2 i (by omega)).trans (h.2 i hi)⟩
theorem Ext.add {n : Nat} {H H' : Nat → Option Obj} (h : Ext n H H') {b : Nat} {o : Obj} (hb : n ≤ b) (hn : H' b = none) : Ext n H (Fz.more H' b o) := by
  refine ⟨fun i x e => ?_, fun i hi => ?_⟩
  · unfold Fz.more
    rw [if_neg (fun e' => by have := h.1 i x e; rw [e', hn] at this; cases this)]
    exact h.1 i x e
  · unfold Fz.more
    rw [if_neg (by omega)]
    exact h.2 i hi

/-- A row of cells that no longer changes. -/
def RowH (H : Nat → Option Obj) (t : TypeId) (v : Value) (xs : List Value) : Prop :=
  (v = .slice none 0 0 ∧ xs = []) ∨ ∃ g cap cur, v = .slice (some ⟨g, 0, none⟩) xs.length cap ∧ H g = some (.cells cur t (0, 0)) ∧ cur.toList.take xs.length = xs
theorem RowH.ext {n : Nat} {H H' : Nat → Option Obj} {t : TypeId} {v : Value} {xs : List Value} (h : RowH H t v xs) (e : Ext n H H') : RowH H' t v xs := by
  rcases h with h | ⟨g, cap, cur, h1, h2, h3⟩
  · exact Or.inl h
  · exact Or.inr ⟨g, cap, cur, h1, e.1 _ _ h2, h3⟩
def ptrs (bs : List Nat) : List Value := bs.map fun b => .pointer (some ⟨b, 0, none⟩)
def strs (ns : List (List UInt8)) : List Value := ns.map fun x => .string (B x)

/-- An expression at a block. -/
def XRep : Nat → (Nat → Option Obj) → Nat → Ex → Prop
  | 0, _, _, _ => False
  | n + 1, H, b, e => ∃ ns ks bs, H b = some (.cells #[.string (B e.op), ns, ks, .int .i64 (e.pos : Int)] 99005 (0, 0)) ∧ RowH H 9 ns (strs e.names) ∧ RowH H 99004 ks (ptrs bs) ∧
      bs.length = e.kids.length ∧ ∀ (i : Nat) (x : Ex) (c : Nat), bs[i]? = some c → e.kids[i]? = some x → XRep n H c x
theorem XRep.ext {m : Nat} {H H' : Nat → Option Obj} (e : Ext m H H') : ∀ (n : Nat) (b : Nat) (x : Ex), XRep n H b x → XRep n H' b x
  | 0, _, _, h => h
  | n + 1, b, x, h => by
    obtain ⟨ns, ks, bs, h1, h2, h3, h4, h5⟩ := h
    exact ⟨ns, ks, bs, e.1 _ _ h1, h2.ext e, h3.ext e, h4, fun i y c h6 h7 => XRep.ext e n c y (h5 i y c h6 h7)⟩
theorem XRep.up {H : Nat → Option Obj} : ∀ (n : Nat) (b : Nat) (x : Ex), XRep n H b x → XRep (n + 1) H b x
  | 0, _, _, h => absurd h id
  | n + 1, b, x, h => by
    obtain ⟨ns, ks, bs, h1, h2, h3, h4, h5⟩ := h
    exact ⟨ns, ks, bs, h1, h2, h3, h4, fun i y c h6 h7 => XRep.up n c y (h5 i y c h6 h7)⟩
theorem XRep.le {H : Nat → Option Obj} {n m : Nat} {b : Nat} {x : Ex} (h : XRep n H b x) (hm : n ≤ m) : XRep m H b x := by
  induction m with
  | zero => rw [Nat.le_zero.1 hm] at h; exact h
  | succ m ih =>
    rcases Nat.lt_or_ge n (m + 1) with hlt | hge
    · exact XRep.up m b x (ih (by omega))
    · rw [show m + 1 = n from by omega]; exact h

theorem Fz.more_same (H : Nat → Option Obj) (b : Nat) (o : Obj) : Fz.more H b o b = some o := by simp [Fz.more]
theorem Fz.more_old {H : Nat → Option Obj} {b k : Nat} {o x : Obj} (h : H k = some x) (hn : H b = Option.none) : Fz.more H b o k = some x := by
  unfold Fz.more
  rw [if_neg (fun e => by rw [e, hn] at h; cases h)]
  exact h
/-- A name, or a number, laid into memory. -/
theorem leaf_rep {w : World} {H : Nat → Option Obj} (hz : Fz H w) (op txt : List UInt8) (pos : Nat) :
    ∃ H', Fz H' ((w.alloc (.cells #[.string (B txt)] 9)).alloc (.cells #[.string (B op), .slice (some ⟨w.heap.size, 0, none⟩) 1 1, .slice none 0 0, .int .i64 (pos : Int)] 99005)) ∧
      Ext w.heap.size H H' ∧ XRep 1 H' (w.heap.size + 1) ⟨op, [txt], [], pos⟩ := by
  have n1 : H w.heap.size = none := hz.none (Nat.le_refl _)
  have n2 : H (w.heap.size + 1) = none := hz.none (by omega)
  have z1 : Fz (Fz.more H w.heap.size (.cells #[.string (B txt)] 9 (0, 0))) (w.alloc (.cells #[.string (B txt)] 9)) := (hz.alloc _).add (heap_alloc_new _ _)
  have n3 : Fz.more H w.heap.size (.cells #[.string (B txt)] 9 (0, 0)) (w.heap.size + 1) = none := by unfold Fz.more; rw [if_neg (by omega)]; exact n2
  refine ⟨Fz.more (Fz.more H w.heap.size (.cells #[.string (B txt)] 9 (0, 0))) (w.heap.size + 1) (.cells #[.string (B op), .slice (some ⟨w.heap.size, 0, none⟩) 1 1, .slice none 0 0, .int .i64 (pos : Int)] 99005 (0, 0)), (z1.alloc _).add (heap_alloc_at _ _ _ (by simp)), ((Ext.refl _ _).add (Nat.le_refl _) n1).add (by omega) n3, ?_⟩
  exact ⟨_, _, [], Fz.more_same _ _ _, Or.inr ⟨w.heap.size, 1, #[.string (B txt)], rfl, Fz.more_old (Fz.more_same _ _ _) n3, rfl⟩, Or.inl ⟨rfl, rfl⟩, rfl, fun i x c h => by simp at h⟩
/-- Two expressions made one. -/
theorem two_rep {w : World} {H : Nat → Option Obj} (hz : Fz H w) (op : List UInt8) (pos : Nat) {b c m1 m2 : Nat} {x y : Ex} (hx : XRep m1 H b x) (hy : XRep m2 H c y) :
    ∃ H' m, Fz H' ((w.alloc (.cells #[.pointer (some ⟨b, 0, none⟩), .pointer (some ⟨c, 0, none⟩)] 99004)).alloc (.cells #[.string (B op), .slice none 0 0, .slice (some ⟨w.heap.size, 0, none⟩) 2 2, .int .i64 (pos : Int)] 99005)) ∧
      Ext w.heap.size H H' ∧ XRep m H' (w.heap.size + 1) ⟨op, [], [x, y], pos⟩ := by
  have n1 : H w.heap.size = none := hz.none (Nat.le_refl _)
  have n2 : H (w.heap.size + 1) = none := hz.none (by omega)
  have z1 : Fz (Fz.more H w.heap.size (.cells #[.pointer (some ⟨b, 0, none⟩), .pointer (some ⟨c, 0, none⟩)] 99004 (0, 0))) (w.alloc (.cells #[.pointer (some ⟨b, 0, none⟩), .pointer (some ⟨c, 0, none⟩)] 99004)) := (hz.alloc _).add (heap_alloc_new _ _)
  have n3 : Fz.more H w.heap.size (.cells #[.pointer (some ⟨b, 0, none⟩), .pointer (some ⟨c, 0, none⟩)] 99004 (0, 0)) (w.heap.size + 1) = none := by unfold Fz.more; rw [if_neg (by omega)]; exact n2
  have ext := ((Ext.refl w.heap.size H).add (o := .cells #[.pointer (some ⟨b, 0, none⟩), .pointer (some ⟨c, 0, none⟩)] 99004 (0, 0)) (Nat.le_refl _) n1).add (o := .cells #[.string (B op), .slice none 0 0, .slice (some ⟨w.heap.size, 0, none⟩) 2 2, .int .i64 (pos : Int)] 99005 (0, 0)) (b := w.heap.size + 1) (by omega) n3
  refine ⟨_, max m1 m2 + 1, (z1.alloc _).add (heap_alloc_at _ _ _ (by simp)), ext, ?_⟩
  refine ⟨_, _, [b, c], Fz.more_same _ _ _, Or.inl ⟨rfl, rfl⟩, Or.inr ⟨w.heap.size, 2, #[.pointer (some ⟨b, 0, none⟩), .pointer (some ⟨c, 0, none⟩)], rfl, Fz.more_old (Fz.more_same _ _ _) n3, rfl⟩, rfl, ?_⟩
  intro i z d h1 h2
  match i, h1, h2 with
  | 0, h1, h2 =>
    simp at h1 h2
    subst h1 h2
    exact XRep.ext ext _ _ _ (hx.le (Nat.le_max_left _ _))
  | 1, h1, h2 =>
    simp at h1 h2
    subst h1 h2
    exact XRep.ext ext _ _ _ (hy.le (Nat.le_max_right _ _))
  | i + 2, h1, h2 => simp at h1
end Go.Proofs.YtcdijppegfcoaabGreatDoor
