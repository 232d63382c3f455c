import Derived.Test.YtcdijppegfcoaaaGreatDoorZT05
import Derived.Test.YtcdijppegfcoaaaGreatDoorZT01
import Derived.Deep.LoopGhost
import Derived.Test.YtcdijppegfcoaaaGreatDoorZT02
import Derived.Deep.AppendLies
/-
  OUR OWN TEXT. The program's reader: brackets, atoms.
-/
namespace Go.Proofs.YtcdijppegfcoaaaGreatDoor
open Go.RowKit
theorem isS_bad {T : List Tok} {st : St} {x : List UInt8} (h : 0 ≤ st.bad) : isS T st x = false := by
  simp only [isS, Bool.and_eq_false_iff, decide_eq_false_iff_not]
  exact Or.inl (by omega)

set_option maxRecDepth 100000 in
set_option maxHeartbeats 2000000 in
theorem bracketed_p (T : List Tok) (n : Nat) (hl : T.length ≤ 400) (hE : EXPP T n) (w : World) (rb : Nat) (s : ByteArray) (H : Nat → Option Obj) (st : St) (x : Ex) (s1 : St) (ex : Ex) (st' : St) (p : Nat)
    (hx : expS T n st = some (x, s1)) (hy : (if isS T s1 kComma = true then match expS T n s1.up with
        | none => none
        | some (y, s2) => some (⟨oPair, [], [x, y], p⟩, needS T s2 kShut)
      else some (x, needS T s1 kShut)) = some (ex, st')) (h : PSt exKw w rb s T st) (hz : Fz H w) (hr : H rb = none) :
    Calls Tryz.prog 222 #[rdV rb] w fun e w' => EOut w w' rb s T H st.k st' e ex := by
  have hlt := h.lt
  have HP := hid (h.alloc (.cells #[.pointer (some ⟨rb, 0, none⟩)] 182))
  have HZ := hid (hz.alloc (.cells #[.pointer (some ⟨rb, 0, none⟩)] 182))
  have HE := hid hE
  have HX := hid hx
  have HY := hid hy
  have K0 := hid ((Kept.refl rb w).alloc (.cells #[.pointer (some ⟨rb, 0, none⟩)] 182))
  clear h hz hE hx hy
  unfold rdV
  go_enter Tryz.func222, Tryz.ntmps222
  go_wp2_with fail
  refine (HE.out _ rb s H st x s1 HX.out HP.out HZ.out hr).mono ?_
  rintro e w1 ⟨k1, (⟨v1, H1, m1, rfl, p1, z1, e1, r1, d1⟩ | ⟨hb, b, rfl, hrf⟩)⟩
  case inr =>
    have e4 := HY.out
    rw [if_neg (by rw [isS_bad hb]; decide), need_bad hb] at e4
    cases e4
    unfold refusal
    go_wp2
    exact ⟨rfl, K0.out.trans k1, Or.inr ⟨hb, b, rfl, hrf⟩⟩
  case inl =>
  obtain ⟨t1, b1, ht1, rfl, hb1, hc1⟩ := r1.dat z1
  have bx1 : w1.cell? ⟨w.heap.size, 0, none⟩ = some (.pointer (some ⟨rb, 0, none⟩)) := by
    rw [kept_cell k1 (by simp) (by omega)]
    simp [go_sem]
  have hw1 : w.heap.size < w1.heap.size := by have := k1.size; simp at this; omega
  have hr1 : H1 rb = none := by rw [e1.2 rb (by simp; omega)]; exact hr
  have P1 := hid p1
  have K1 := hid (K0.out.trans k1)
  have Z1 := hid z1
  have E1 := hid (e1.from (n := w.heap.size) (by simp))
  have R1 := hid r1
  have D1 := hid d1
  clear p1 k1 z1 e1 r1 d1 hb1 hc1
  go_wp2_with fail
  refine (skips_p exKw exKw_ok _ rb s T s1 kComma P1.out (Or.inr (by decide))).mono ?_
  rintro e w2 ⟨rfl, p2, k2⟩
  have bx2 : w2.cell? ⟨w.heap.size, 0, none⟩ = some (.pointer (some ⟨rb, 0, none⟩)) := by
    rw [kept_cell k2 hw1 (by omega)]
    exact bx1
  have hw2 : w1.heap.size ≤ w2.heap.size := k2.size
  have P2 := hid p2
  have K2 := hid (K1.out.trans k2)
  have Z2 := hid (Z1.out.kept k2 hr1)
  clear p2 k2 bx1
  cases hi : isS T s1 kComma with
  | false =>
    have p2 := P2.out
    rw [take_no hi] at p2
    have P2' := hid p2
    have e4 := HY.out
    rw [if_neg (by rw [hi]; decide)] at e4
    cases e4
    clear hi p2
    go_wp2_with fail
    refine (must_p exKw exKw_ok _ rb s T s1 kShut P2'.out (Or.inr (by decide))).mono ?_
    rintro e w3 ⟨k3, (⟨rfl, p3⟩ | ⟨hb, b, rfl, hrf⟩)⟩
    case inr =>
      unfold refusal
      go_wp2
      exact ⟨rfl, K2.out.trans k3, Or.inr ⟨hb, b, rfl, hrf⟩⟩
    case inl =>
      have Q := hid (And.intro p3 k3)
      have hn := need_good p3.neg
      clear p3 k3
      go_wp2
      go_ret
      refine ⟨K2.out.trans Q.out.2, Or.inl ⟨_, H1, m1, rfl, Q.out.1, Z2.out.kept Q.out.2 hr1, E1.out, R1.out, ?_⟩⟩
      have := D1.out
      omega
  | true =>
    have p2 := P2.out
    rw [take_yes hi] at p2
    have P2' := hid p2
    have e4 := HY.out
    rw [if_pos hi] at e4
    cases hey : expS T n s1.up with
    | none => rw [hey] at e4; cases e4
    | some q =>
    obtain ⟨y, s2⟩ := q
    rw [hey] at e4
    cases e4
    have HEY := hid hey
    clear hi p2 hey
    go_wp2_with fail
    refine (HE.out _ rb s H1 _ y s2 HEY.out P2'.out Z2.out hr1).mono ?_
    rintro e w3 ⟨k3, (⟨v2, H3, m2, rfl, p3, z3, e3, r3, d3⟩ | ⟨hb, b, rfl, hrf⟩)⟩
    case inr =>
      unfold refusal
      go_wp2
      exact ⟨rfl, K2.out.trans k3, Or.inr ⟨by rw [need_bad hb]; exact hb, b, rfl, by rw [need_bad hb]; exact hrf⟩⟩
    case inl =>
    obtain ⟨t2, b2, ht2, rfl, hb2, hc2⟩ := r3.dat z3
    have bx3 : w3.cell? ⟨w.heap.size, 0, none⟩ = some (.pointer (some ⟨rb, 0, none⟩)) := by
      rw [kept_cell k3 (by omega) (by omega)]
      exact bx2
    have hw3 : w2.heap.size ≤ w3.heap.size := k3.size
    have hr3 : H3 rb = none := by rw [e3.2 rb (by omega)]; exact hr1
    have P3 := hid p3
    have K3 := hid (K2.out.trans k3)
    have Z3 := hid z3
    have E3 := hid (e3.from (n := w.heap.size) (by omega))
    have R3 := hid r3
    have D3 := hid d3
    clear p3 k3 z3 e3 r3 d3 hb2 hc2 bx2
    go_wp2_with fail
    refine (must_p exKw exKw_ok _ rb s T s2 kShut P3.out (Or.inr (by decide))).mono ?_
    rintro e w4 ⟨k4, (⟨rfl, p4⟩ | ⟨hb, b, rfl, hrf⟩)⟩
    case inr =>
      unfold refusal
      go_wp2
      exact ⟨rfl, K3.out.trans k4, Or.inr ⟨hb, b, rfl, hrf⟩⟩
    case inl =>
    have hw4 : w3.heap.size ≤ w4.heap.size := k4.size
    have hn := need_good p4.neg
    have hkk := p4.klt
    obtain ⟨M, hM⟩ : ∃ M, M = max m1 m2 := ⟨_, rfl⟩
    have RA : Hid (PRep M H3 (.iface t1 (.pointer (some ⟨b1, 0, none⟩))) x) := (PRep.ext E3.out _ _ _ R1.out).le (by omega)
    have RB : Hid (PRep M H3 (.iface t2 (.pointer (some ⟨b2, 0, none⟩))) y) := R3.out.le (by omega)
    have q1 : exDeep M x = exDeep m1 x := deep_le (PRep.shape _ _ _ R1.out) (by omega)
    have q2 : exDeep M y = exDeep m2 y := deep_le (PRep.shape _ _ _ R3.out) (by omega)
    have D5 := hid (show max (exDeep M x) (exDeep M y) + 1 + st.k ≤ (needS T s2 kShut).k ∧ (needS T s2 kShut).k < T.length by
      have := D1.out
      have := D3.out
      have := deep_pos R1.out
      have := deep_pos R3.out
      have e5 : s1.up.k = s1.k + 1 := rfl
      omega)
    have ZA := hid ((Z3.out.kept k4 hr3).alloc (.cells #[(.iface t1 (.pointer (some ⟨b1, 0, none⟩))), (.iface t2 (.pointer (some ⟨b2, 0, none⟩)))] 130))
    have P5 := hid p4
    have K5 := hid (K3.out.trans k4)
    have E5 := hid (E1.out.trans E3.out (Nat.le_refl _))
    clear p4 k4 bx3 hM q1 q2
    have AB : Hid (Calls Tryz.prog 178 #[.slice (some ⟨w4.heap.size, 0, none⟩) 2 2] (w4.alloc (.cells #[(.iface t1 (.pointer (some ⟨b1, 0, none⟩))), (.iface t2 (.pointer (some ⟨b2, 0, none⟩)))] 130)) fun e w' => e = .returned (.agg #[.int .i64 ((maxl [exDeep M x, exDeep M y] + 1 : Nat) : Int)]) ∧ (w4.alloc (.cells #[(.iface t1 (.pointer (some ⟨b1, 0, none⟩))), (.iface t2 (.pointer (some ⟨b2, 0, none⟩)))] 130)).grownBy w' none) :=
      above_p _ (some ⟨w4.heap.size, 0, none⟩) 2 [(.iface t1 (.pointer (some ⟨b1, 0, none⟩))), (.iface t2 (.pointer (some ⟨b2, 0, none⟩)))] [exDeep M x, exDeep M y] rfl (by simp) (row2 (w := w4) (t := 130)) (all2 (p := fun u d => DAt _ u d) (RA.out.dat ZA.out) (RB.out.dat ZA.out)) (by have := D5.out; simp [maxl]; omega)
    go_wp2_with fail
    refine AB.out.mono ?_
    rintro e w6 ⟨rfl, g6⟩
    have G6 := hid g6
    clear g6
    go_wp2
    go_ret
    obtain ⟨H7, z7, x7, r7⟩ := node_rep (w := w6) (H := H3) (ZA.out.grown G6.out) ⟨oPair, [], [x, y], p⟩ [(.iface t1 (.pointer (some ⟨b1, 0, none⟩))), (.iface t2 (.pointer (some ⟨b2, 0, none⟩)))] M (.cells #[.int .i64 ((exDeep (M + 1) ⟨oPair, [], [x, y], p⟩ : Nat) : Int), (.iface t1 (.pointer (some ⟨b1, 0, none⟩))), (.iface t2 (.pointer (some ⟨b2, 0, none⟩)))] 216) rfl
      (kids2 (p := fun u q => PRep M H3 u q) RA.out RB.out)
      (fun H' _ h2 => Or.inr (Or.inr (Or.inr (Or.inr (Or.inr (Or.inr (Or.inr ⟨rfl, _, _, rfl, rfl, h2⟩)))))))
    have hw6 : w4.heap.size ≤ w6.heap.size := by have := G6.out.size; simp at this; omega
    refine ⟨((K5.out.alloc _).trans (Kept.of0 rb G6.out)).alloc _, Or.inl ⟨_, H7, M + 1, rfl, ((P5.out.alloc _).grown G6.out).alloc _, z7, E5.out.trans x7 (by omega), r7, ?_⟩⟩
    have hd : exDeep (M + 1) ⟨oPair, [], [x, y], p⟩ = max (exDeep M x) (exDeep M y) + 1 := by simp [exDeep, maxl]
    have := D5.out
    omega

theorem Rdr.grown {w w' : World} {rb : Nat} {s : ByteArray} {J : Nat} (h : Rdr w rb s J) (hg : w.grownBy w' none) : Rdr w' rb s J := by
  unfold Rdr
  rw [hg.block rb (lt_of_block h) (by simp)]
  exact h
/-- A name, or a number, of the program's. -/
theorem leaf_out {w w9 : World} {rb : Nat} {s : ByteArray} {T : List Tok} {H : Nat → Option Obj} {st : St} (k : Kept rb w w9) (q : PSt exKw w9 rb s T st.up) (z : Fz H w9) (op txt : List UInt8) (p : Nat) (obj : Obj)
    (hop : (op = kName ∧ obj = .cells #[.int .i64 1, .string (B txt), .int .i64 (p : Int)] 190) ∨ (op = kNum ∧ obj = .cells #[.int .i64 1, .string (B txt)] 193)) :
    EOut w (w9.alloc obj) rb s T H st.k st.up (.returned (.iface (pT op) (.pointer (some ⟨w9.heap.size, 0, none⟩)))) ⟨op, [txt], [], p⟩ := by
  obtain ⟨H7, z7, x7, r7⟩ := node_rep z ⟨op, [txt], [], p⟩ [] 0 obj rfl (fun i y u h1 => by simp at h1) (fun H' _ h2 => by
    rcases hop with ⟨rfl, rfl⟩ | ⟨rfl, rfl⟩
    · exact Or.inl ⟨rfl, txt, rfl, rfl, rfl, h2⟩
    · exact Or.inr (Or.inl ⟨rfl, txt, rfl, rfl, rfl, h2⟩))
  refine ⟨k.alloc _, Or.inl ⟨_, H7, 1, rfl, q.alloc _, z7, (x7.from k.size), r7, ?_⟩⟩
  show exDeep 1 _ + st.k ≤ st.k + 1
  simp [exDeep, maxl]
  omega
end Go.Proofs.YtcdijppegfcoaaaGreatDoor

/-
  OUR OWN TEXT. typerref's reader of types on plain data; types in memory, over blocks that no longer change; their texts.
-/
namespace Go.Proofs.YtcdijppegfcoaaaGreatDoor
open Go.RowKit
def kInt : List UInt8 := [105, 110, 116]
def kBool : List UInt8 := [98, 111, 111, 108]
def kSq : List UInt8 := [91]
def kQs : List UInt8 := [93]
def oList : List UInt8 := [108, 105, 115, 116]
def tyKw : List (List UInt8) := [kInt, kBool]

/-- A type as typerref has it: a variable (kind empty, its number), or a kind with parts. -/
structure Ty where
  kind : List UInt8
  var : Nat
  kids : List Ty

/-- The names of variables met so far, by number. -/
def numS (ns : List (List UInt8)) (n : List UInt8) : Nat × List (List UInt8) := if n ∈ ns then (ns.idxOf n, ns) else (ns.length, ns ++ [n])

def oneS (A : List (List UInt8) → St → Option (Ty × List (List UInt8) × St)) (T : List Tok) (ns : List (List UInt8)) (s : St) : Option (Ty × List (List UInt8) × St) :=
  if isS T s kInt = true then some (⟨kInt, 0, []⟩, ns, s.up)
  else if isS T s kBool = true then some (⟨kBool, 0, []⟩, ns, s.up)
  else if isS T s kSq = true then match A ns s.up with
    | none => none
    | some (t, n1, s1) => some (⟨oList, 0, [t]⟩, n1, needS T s1 kQs)
  else if isS T s kOpen = true then match A ns s.up with
    | none => none
    | some (t, n1, s1) =>
      if isS T s1 kComma = true then match A n1 s1.up with
        | none => none
        | some (u, n2, s2) => some (⟨oPair, 0, [t, u]⟩, n2, needS T s2 kShut)
      else some (t, n1, needS T s1 kShut)
  else some (⟨[], (numS ns (tk T s.k).s).1, []⟩, (numS ns (tk T s.k).s).2, needS T s kName)

def arrS (T : List Tok) : Nat → List (List UInt8) → St → Option (Ty × List (List UInt8) × St)
  | 0, _, _ => none
  | n + 1, ns, s => match oneS (arrS T n) T ns s with
    | none => none
    | some (t, n1, s1) =>
      if isS T s1 kArrow = true then match arrS T n n1 s1.up with
        | none => none
        | some (u, n2, s2) => some (⟨kFun, 0, [t, u]⟩, n2, s2)
      else some (t, n1, s1)

/-- How many parts. -/
def tySize : Nat → Ty → Nat
  | 0, _ => 0
  | n + 1, t => 1 + (t.kids.map (tySize n)).sum

/-- The variables of a type, each once, in the order in which they stand. -/
def tyVars : Nat → Ty → List Nat → List Nat
  | 0, _, l => l
  | n + 1, t, l => if t.kind = [] then (if t.var ∈ l then l else l ++ [t.var]) else t.kids.foldl (fun l x => tyVars n x l) l

/-- A type's text, its variables by their names. -/
def tyText : Nat → List (List UInt8) → Ty → List UInt8
  | 0, _, _ => []
  | n + 1, ns, t =>
    if t.kind = [] then ns.getD t.var []
    else match t.kids with
      | [a] => [91] ++ tyText n ns a ++ [93]
      | [a, b] => if t.kind = kFun then (if a.kind = kFun then [40] ++ tyText n ns a ++ [41] else tyText n ns a) ++ [32, 45, 62, 32] ++ tyText n ns b
          else [40] ++ tyText n ns a ++ [44, 32] ++ tyText n ns b ++ [41]
      | _ => t.kind

/-- A type at a block. -/
def TRep : Nat → (Nat → Option Obj) → Nat → Ty → Prop
  | 0, _, _, _ => False
  | n + 1, H, b, t => ∃ ks bs, H b = some (.cells #[.string (B t.kind), .int .i64 (t.var : Int), ks] 103 (0, 0)) ∧ RowH H 33 ks (ptrs bs) ∧
      bs.length = t.kids.length ∧ ∀ (i : Nat) (x : Ty) (c : Nat), bs[i]? = some c → t.kids[i]? = some x → TRep n H c x
theorem TRep.ext {m : Nat} {H H' : Nat → Option Obj} (e : Ext m H H') : ∀ (n : Nat) (b : Nat) (x : Ty), TRep n H b x → TRep n H' b x
  | 0, _, _, h => h
  | n + 1, b, x, h => by
    obtain ⟨ks, bs, h1, h3, h4, h5⟩ := h
    exact ⟨ks, bs, e.1 _ _ h1, h3.ext e, h4, fun i y c h6 h7 => TRep.ext e n c y (h5 i y c h6 h7)⟩
theorem TRep.up {H : Nat → Option Obj} : ∀ (n : Nat) (b : Nat) (x : Ty), TRep n H b x → TRep (n + 1) H b x
  | 0, _, _, h => absurd h id
  | n + 1, b, x, h => by
    obtain ⟨ks, bs, h1, h3, h4, h5⟩ := h
    exact ⟨ks, bs, h1, h3, h4, fun i y c h6 h7 => TRep.up n c y (h5 i y c h6 h7)⟩
theorem TRep.le {H : Nat → Option Obj} {n m : Nat} {b : Nat} {x : Ty} (h : TRep n H b x) (hm : n ≤ m) : TRep m H b x := by
  induction m with
  | zero => rw [Nat.le_zero.1 hm] at h; exact h
  | succ m ih =>
    rcases Nat.lt_or_ge n (m + 1) with hlt | hge
    · exact TRep.up m b x (ih (by omega))
    · rw [show m + 1 = n from by omega]; exact h
/-- A list. -/
theorem ty_one {w : World} {H : Nat → Option Obj} (hz : Fz H w) (k : List UInt8) {b m1 : Nat} {x : Ty} (hx : TRep m1 H b x) :
    ∃ H' m, Fz H' ((w.alloc (.cells #[.pointer (some ⟨b, 0, none⟩)] 33)).alloc (.cells #[.string (B k), .int .i64 0, .slice (some ⟨w.heap.size, 0, none⟩) 1 1] 103)) ∧
      Ext w.heap.size H H' ∧ TRep m H' (w.heap.size + 1) ⟨k, 0, [x]⟩ := by
  have n1 : H w.heap.size = none := hz.none (Nat.le_refl _)
  have n2 : H (w.heap.size + 1) = none := hz.none (by omega)
  have z1 : Fz (Fz.more H w.heap.size (.cells #[.pointer (some ⟨b, 0, none⟩)] 33 (0, 0))) (w.alloc (.cells #[.pointer (some ⟨b, 0, none⟩)] 33)) := (hz.alloc _).add (heap_alloc_new _ _)
  have n3 : Fz.more H w.heap.size (.cells #[.pointer (some ⟨b, 0, none⟩)] 33 (0, 0)) (w.heap.size + 1) = none := by unfold Fz.more; rw [if_neg (by omega)]; exact n2
  have ext := ((Ext.refl w.heap.size H).add (o := .cells #[.pointer (some ⟨b, 0, none⟩)] 33 (0, 0)) (Nat.le_refl _) n1).add (o := .cells #[.string (B k), .int .i64 0, .slice (some ⟨w.heap.size, 0, none⟩) 1 1] 103 (0, 0)) (b := w.heap.size + 1) (by omega) n3
  refine ⟨_, m1 + 1, (z1.alloc _).add (heap_alloc_at _ _ _ (by simp)), ext, ?_⟩
  refine ⟨_, [b], Fz.more_same _ _ _, Or.inr ⟨w.heap.size, 1, #[.pointer (some ⟨b, 0, none⟩)], rfl, Fz.more_old (Fz.more_same _ _ _) n3, rfl⟩, rfl, ?_⟩
  intro i z d h1 h2
  match i, h1, h2 with
  | 0, h1, h2 =>
    simp at h1 h2
    subst h1 h2
    exact TRep.ext ext _ _ _ hx
  | i + 1, h1, h2 => simp at h1
/-- A pair, a function. -/
theorem ty_two {w : World} {H : Nat → Option Obj} (hz : Fz H w) (k : List UInt8) {b c m1 m2 : Nat} {x y : Ty} (hx : TRep m1 H b x) (hy : TRep m2 H c y) :
    ∃ H' m, Fz H' ((w.alloc (.cells #[.pointer (some ⟨b, 0, none⟩), .pointer (some ⟨c, 0, none⟩)] 33)).alloc (.cells #[.string (B k), .int .i64 0, .slice (some ⟨w.heap.size, 0, none⟩) 2 2] 103)) ∧
      Ext w.heap.size H H' ∧ TRep m H' (w.heap.size + 1) ⟨k, 0, [x, y]⟩ := by
  have n1 : H w.heap.size = none := hz.none (Nat.le_refl _)
  have n2 : H (w.heap.size + 1) = none := hz.none (by omega)
  have z1 : Fz (Fz.more H w.heap.size (.cells #[.pointer (some ⟨b, 0, none⟩), .pointer (some ⟨c, 0, none⟩)] 33 (0, 0))) (w.alloc (.cells #[.pointer (some ⟨b, 0, none⟩), .pointer (some ⟨c, 0, none⟩)] 33)) := (hz.alloc _).add (heap_alloc_new _ _)
  have n3 : Fz.more H w.heap.size (.cells #[.pointer (some ⟨b, 0, none⟩), .pointer (some ⟨c, 0, none⟩)] 33 (0, 0)) (w.heap.size + 1) = none := by unfold Fz.more; rw [if_neg (by omega)]; exact n2
  have ext := ((Ext.refl w.heap.size H).add (o := .cells #[.pointer (some ⟨b, 0, none⟩), .pointer (some ⟨c, 0, none⟩)] 33 (0, 0)) (Nat.le_refl _) n1).add (o := .cells #[.string (B k), .int .i64 0, .slice (some ⟨w.heap.size, 0, none⟩) 2 2] 103 (0, 0)) (b := w.heap.size + 1) (by omega) n3
  refine ⟨_, max m1 m2 + 1, (z1.alloc _).add (heap_alloc_at _ _ _ (by simp)), ext, ?_⟩
  refine ⟨_, [b, c], Fz.more_same _ _ _, Or.inr ⟨w.heap.size, 2, #[.pointer (some ⟨b, 0, none⟩), .pointer (some ⟨c, 0, none⟩)], rfl, Fz.more_old (Fz.more_same _ _ _) n3, rfl⟩, rfl, ?_⟩
  intro i z d h1 h2
  match i, h1, h2 with
  | 0, h1, h2 =>
    simp at h1 h2
    subst h1 h2
    exact TRep.ext ext _ _ _ (hx.le (Nat.le_max_left _ _))
  | 1, h1, h2 =>
    simp at h1 h2
    subst h1 h2
    exact TRep.ext ext _ _ _ (hy.le (Nat.le_max_right _ _))
  | i + 2, h1, h2 => simp at h1
end Go.Proofs.YtcdijppegfcoaaaGreatDoor

/-
  OUR OWN TEXT. typerref.Size.
-/
namespace Go.Proofs.YtcdijppegfcoaaaGreatDoor
open Go.RowKit
theorem sum_take_le (l : List Nat) (j : Nat) : (l.take j).sum ≤ l.sum := by
  conv => rhs; rw [← List.take_append_drop j l, List.sum_append]
  omega

end Go.Proofs.YtcdijppegfcoaaaGreatDoor

/-
  OUR OWN TEXT. The plain reader of types: how far it goes, how many names it meets.
-/
namespace Go.Proofs.YtcdijppegfcoaaaGreatDoor
open Go.RowKit
theorem isS_ok {T : List Tok} {s : St} {k : List UInt8} (h : isS T s k = true) : s.bad < 0 := by
  unfold isS at h
  simp at h
  exact h.1
/-- need: it goes on by one, or something is wrong. -/
theorem needS_go (T : List Tok) (s : St) (k : List UInt8) : s.k ≤ (needS T s k).k ∧ (needS T s k).k ≤ s.k + 1 ∧ ((needS T s k).bad < 0 → s.bad < 0 ∧ (needS T s k).k = s.k + 1) := by
  unfold needS
  by_cases h : isS T s k = true
  · rw [if_pos h]
    exact ⟨by simp, by simp, fun _ => ⟨isS_ok h, rfl⟩⟩
  · rw [if_neg h]
    refine ⟨by simp, by simp, fun hb => ?_⟩
    exfalso
    by_cases h2 : s.bad < 0
    · simp only [if_pos h2] at hb
      omega
    · simp only [if_neg h2] at hb
      exact h2 hb
theorem numS_len (ns : List (List UInt8)) (n : List UInt8) : ns.length ≤ (numS ns n).2.length ∧ (numS ns n).2.length ≤ ns.length + 1 ∧ (numS ns n).1 < (numS ns n).2.length := by
  unfold numS
  by_cases h : n ∈ ns
  · rw [if_pos h]
    exact ⟨Nat.le_refl _, by simp, List.idxOf_lt_length_of_mem h⟩
  · rw [if_neg h]
    simp

/-- What is read: the reader goes on; a name is met once a step at most, and once where something is wrong. -/
def Went (ns : List (List UInt8)) (s : St) (ns' : List (List UInt8)) (s' : St) : Prop :=
  s.k ≤ s'.k ∧ ns.length ≤ ns'.length ∧ ns'.length + s.k ≤ ns.length + s'.k + 1 ∧ (s'.bad < 0 → ns'.length + s.k ≤ ns.length + s'.k ∧ s.k < s'.k)

theorem one_went {A : List (List UInt8) → St → Option (Ty × List (List UInt8) × St)} {T : List Tok} (hA : ∀ ns s t ns' s', s.bad < 0 → A ns s = some (t, ns', s') → Went ns s ns' s') {ns : List (List UInt8)} {s : St} {t : Ty} {ns' : List (List UInt8)} {s' : St} (hb : s.bad < 0)
    (h : oneS A T ns s = some (t, ns', s')) : Went ns s ns' s' := by
  unfold oneS at h
  by_cases h1 : isS T s kInt = true
  · rw [if_pos h1] at h
    cases h
    exact ⟨by simp [St.up], by simp, by simp [St.up]; omega, fun _ => ⟨by simp [St.up], by simp [St.up]⟩⟩
  rw [if_neg h1] at h
  by_cases h2 : isS T s kBool = true
  · rw [if_pos h2] at h
    cases h
    exact ⟨by simp [St.up], by simp, by simp [St.up]; omega, fun _ => ⟨by simp [St.up], by simp [St.up]⟩⟩
  rw [if_neg h2] at h
  have hu : s.up.k = s.k + 1 := rfl
  by_cases h3 : isS T s kSq = true
  · rw [if_pos h3] at h
    cases e : A ns s.up with
    | none => rw [e] at h; cases h
    | some r =>
      obtain ⟨x, n1, s1⟩ := r
      rw [e] at h
      cases h
      obtain ⟨w1, w2, w3, w4⟩ := hA _ _ _ _ _ (by exact hb) e
      obtain ⟨q1, q2, q3⟩ := needS_go T s1 kQs
      refine ⟨by omega, w2, by omega, fun hx => ?_⟩
      obtain ⟨hs1, hk⟩ := q3 hx
      have := w4 hs1
      omega
  rw [if_neg h3] at h
  by_cases h4 : isS T s kOpen = true
  · rw [if_pos h4] at h
    cases e : A ns s.up with
    | none => rw [e] at h; cases h
    | some r =>
      obtain ⟨x, n1, s1⟩ := r
      rw [e] at h
      obtain ⟨w1, w2, w3, w4⟩ := hA _ _ _ _ _ (by exact hb) e
      by_cases h5 : isS T s1 kComma = true
      · simp only [if_pos h5] at h
        have hu1 : s1.up.k = s1.k + 1 := rfl
        have hs1 := isS_ok h5
        have w5 := w4 hs1
        cases e2 : A n1 s1.up with
        | none => rw [e2] at h; cases h
        | some r2 =>
          obtain ⟨y, n2, s2⟩ := r2
          rw [e2] at h
          cases h
          obtain ⟨v1, v2, v3, v4⟩ := hA _ _ _ _ _ (by exact hs1) e2
          obtain ⟨q1, q2, q3⟩ := needS_go T s2 kShut
          refine ⟨by omega, by omega, by omega, fun hx => ?_⟩
          obtain ⟨hs2, hk⟩ := q3 hx
          have := v4 hs2
          omega
      · simp only [if_neg h5] at h
        cases h
        obtain ⟨q1, q2, q3⟩ := needS_go T s1 kShut
        refine ⟨by omega, w2, by omega, fun hx => ?_⟩
        obtain ⟨hs1, hk⟩ := q3 hx
        have := w4 hs1
        omega
  rw [if_neg h4] at h
  cases h
  obtain ⟨q1, q2, q3⟩ := needS_go T s kName
  obtain ⟨l1, l2, _⟩ := numS_len ns (tk T s.k).s
  refine ⟨q1, l1, by omega, fun hx => ?_⟩
  have := (q3 hx).2
  omega

theorem arr_went (T : List Tok) : ∀ (n : Nat) (ns : List (List UInt8)) (s : St) (t : Ty) (ns' : List (List UInt8)) (s' : St), s.bad < 0 → arrS T n ns s = some (t, ns', s') → Went ns s ns' s'
  | 0, _, _, _, _, _, _, h => by cases h
  | n + 1, ns, s, t, ns', s', hb, h => by
    unfold arrS at h
    cases e : oneS (arrS T n) T ns s with
    | none => rw [e] at h; cases h
    | some r =>
      obtain ⟨x, n1, s1⟩ := r
      rw [e] at h
      obtain ⟨w1, w2, w3, w4⟩ := one_went (arr_went T n) hb e
      by_cases h5 : isS T s1 kArrow = true
      · simp only [if_pos h5] at h
        have hu1 : s1.up.k = s1.k + 1 := rfl
        have hs1 := isS_ok h5
        have w5 := w4 hs1
        cases e2 : arrS T n n1 s1.up with
        | none => rw [e2] at h; cases h
        | some r2 =>
          obtain ⟨y, n2, s2⟩ := r2
          rw [e2] at h
          cases h
          obtain ⟨v1, v2, v3, v4⟩ := arr_went T n _ _ _ _ _ (by exact hs1) e2
          refine ⟨by omega, by omega, by omega, fun hx => ?_⟩
          have := v4 hx
          omega
      · simp only [if_neg h5] at h
        cases h
        exact ⟨w1, w2, w3, w4⟩
end Go.Proofs.YtcdijppegfcoaaaGreatDoor

/-
  OUR OWN TEXT. The plain reader of types ends.
-/
namespace Go.Proofs.YtcdijppegfcoaaaGreatDoor
open Go.RowKit
theorem one_tot {A : List (List UInt8) → St → Option (Ty × List (List UInt8) × St)} {T : List Tok} (hT : Wf T) {n : Nat} (hW : ∀ ns s t ns' s', s.bad < 0 → A ns s = some (t, ns', s') → Went ns s ns' s')
    (hA : ∀ ns s, s.bad < 0 → s.k < T.length → T.length - s.k < n → ∃ t ns' s', A ns s = some (t, ns', s') ∧ s'.k < T.length) (ns : List (List UInt8)) (s : St) (hb : s.bad < 0) (hk : s.k < T.length) (hn : T.length - s.k < n + 1) :
    ∃ t ns' s', oneS A T ns s = some (t, ns', s') ∧ s'.k < T.length := by
  have hu : s.up.k = s.k + 1 := rfl
  unfold oneS
  by_cases h1 : isS T s kInt = true
  · exact ⟨_, _, _, by rw [if_pos h1], hT.up hk h1 (by decide) (by decide)⟩
  rw [if_neg h1]
  by_cases h2 : isS T s kBool = true
  · exact ⟨_, _, _, by rw [if_pos h2], hT.up hk h2 (by decide) (by decide)⟩
  rw [if_neg h2]
  by_cases h3 : isS T s kSq = true
  · have hk1 := hT.up hk h3 (by decide) (by decide)
    obtain ⟨t, n1, s1, e, hs1⟩ := hA ns s.up hb hk1 (by omega)
    exact ⟨_, _, _, by rw [if_pos h3, e], hT.need hs1 (by decide) (by decide)⟩
  rw [if_neg h3]
  by_cases h4 : isS T s kOpen = true
  · have hk1 := hT.up hk h4 (by decide) (by decide)
    obtain ⟨t, n1, s1, e, hs1⟩ := hA ns s.up hb hk1 (by omega)
    have w1 := hW _ _ _ _ _ (show s.up.bad < 0 from hb) e
    rw [if_pos h4, e]
    by_cases h5 : isS T s1 kComma = true
    · have hk2 := hT.up hs1 h5 (by decide) (by decide)
      have hu1 : s1.up.k = s1.k + 1 := rfl
      have := w1.1
      obtain ⟨u, n2, s2, e2, hs2⟩ := hA n1 s1.up (show s1.bad < 0 from isS_ok h5) hk2 (by omega)
      exact ⟨⟨oPair, 0, [t, u]⟩, n2, needS T s2 kShut, by simp only [if_pos h5, e2], hT.need hs2 (by decide) (by decide)⟩
    · exact ⟨t, n1, needS T s1 kShut, by simp only [if_neg h5], hT.need hs1 (by decide) (by decide)⟩
  rw [if_neg h4]
  exact ⟨_, _, _, rfl, hT.need hk (by decide) (by decide)⟩

theorem arr_tot {T : List Tok} (hT : Wf T) : ∀ (n : Nat) (ns : List (List UInt8)) (s : St), s.bad < 0 → s.k < T.length → T.length - s.k < n → ∃ t ns' s', arrS T n ns s = some (t, ns', s') ∧ s'.k < T.length
  | 0, _, _, _, _, h => by omega
  | n + 1, ns, s, hb, hk, h => by
    obtain ⟨t, n1, s1, e, hs1⟩ := one_tot hT (arr_went T n) (arr_tot hT n) ns s hb hk h
    have w1 := one_went (arr_went T n) hb e
    unfold arrS
    rw [e]
    by_cases h5 : isS T s1 kArrow = true
    · have hk2 := hT.up hs1 h5 (by decide) (by decide)
      have hu1 : s1.up.k = s1.k + 1 := rfl
      have := w1.1
      obtain ⟨u, n2, s2, e2, hs2⟩ := arr_tot hT n n1 s1.up (show s1.bad < 0 from isS_ok h5) hk2 (by omega)
      exact ⟨⟨kFun, 0, [t, u]⟩, n2, s2, by simp only [if_pos h5, e2], hs2⟩
    · exact ⟨t, n1, s1, by simp only [if_neg h5], hs1⟩
end Go.Proofs.YtcdijppegfcoaaaGreatDoor

/-
  OUR OWN TEXT. What the plain reader of types makes: well made, and no greater than what was read.
-/
namespace Go.Proofs.YtcdijppegfcoaaaGreatDoor
open Go.RowKit
/-- A type that is well made, with variables below N. -/
def TyOk (N : Nat) : Nat → Ty → Prop
  | 0, _ => False
  | m + 1, t => (t.kind = [] ∧ t.var < N ∧ t.kids = []) ∨ ((t.kind = kInt ∨ t.kind = kBool) ∧ t.var = 0 ∧ t.kids = []) ∨
      (t.kind = oList ∧ t.var = 0 ∧ ∃ a, t.kids = [a] ∧ TyOk N m a) ∨ ((t.kind = oPair ∨ t.kind = kFun) ∧ t.var = 0 ∧ ∃ a b, t.kids = [a, b] ∧ TyOk N m a ∧ TyOk N m b)
theorem TyOk.up {N : Nat} : ∀ (m : Nat) (t : Ty), TyOk N m t → TyOk N (m + 1) t
  | 0, _, h => absurd h id
  | m + 1, t, h => by
    rcases h with h | h | ⟨h1, h2, a, h3, h4⟩ | ⟨h1, h2, a, b, h3, h4, h5⟩
    · exact Or.inl h
    · exact Or.inr (Or.inl h)
    · exact Or.inr (Or.inr (Or.inl ⟨h1, h2, a, h3, TyOk.up m a h4⟩))
    · exact Or.inr (Or.inr (Or.inr ⟨h1, h2, a, b, h3, TyOk.up m a h4, TyOk.up m b h5⟩))
theorem TyOk.le {N m m' : Nat} {t : Ty} (h : TyOk N m t) (hm : m ≤ m') : TyOk N m' t := by
  induction m' with
  | zero => rw [Nat.le_zero.1 hm] at h; exact h
  | succ m' ih =>
    rcases Nat.lt_or_ge m (m' + 1) with hlt | hge
    · exact TyOk.up m' t (ih (by omega))
    · rw [show m' + 1 = m from by omega]; exact h
theorem TyOk.wide {N N' : Nat} (hN : N ≤ N') : ∀ (m : Nat) (t : Ty), TyOk N m t → TyOk N' m t
  | 0, _, h => h
  | m + 1, t, h => by
    rcases h with ⟨h1, h2, h3⟩ | h | ⟨h1, h2, a, h3, h4⟩ | ⟨h1, h2, a, b, h3, h4, h5⟩
    · exact Or.inl ⟨h1, by omega, h3⟩
    · exact Or.inr (Or.inl h)
    · exact Or.inr (Or.inr (Or.inl ⟨h1, h2, a, h3, TyOk.wide hN m a h4⟩))
    · exact Or.inr (Or.inr (Or.inr ⟨h1, h2, a, b, h3, TyOk.wide hN m a h4, TyOk.wide hN m b h5⟩))
theorem TyOk.size {N : Nat} : ∀ (m m' : Nat) (t : Ty), TyOk N m t → m ≤ m' → tySize m' t = tySize m t
  | 0, _, _, h, _ => absurd h id
  | m + 1, 0, _, _, hm => by omega
  | m + 1, m' + 1, t, h, hm => by
    rcases h with ⟨h1, h2, h3⟩ | ⟨h1, h2, h3⟩ | ⟨h1, h2, a, h3, h4⟩ | ⟨h1, h2, a, b, h3, h4, h5⟩
    · simp [tySize, h3]
    · simp [tySize, h3]
    · simp [tySize, h3, TyOk.size m m' a h4 (by omega)]
    · simp [tySize, h3, TyOk.size m m' a h4 (by omega), TyOk.size m m' b h5 (by omega)]
/-- What is read is well made, and of so many parts as tokens were taken. -/
def Made (t : Ty) (ns' : List (List UInt8)) (s s' : St) : Prop := ∃ m, TyOk ns'.length m t ∧ tySize m t + s.k ≤ s'.k + 1 ∧ (s'.bad < 0 → tySize m t + s.k ≤ s'.k)
theorem two_made {k : List UInt8} (hk : k = oPair ∨ k = kFun) {a b : Ty} {N m1 m2 : Nat} (h1 : TyOk N m1 a) (h2 : TyOk N m2 b) : ∃ m, TyOk N m ⟨k, 0, [a, b]⟩ ∧ tySize m ⟨k, 0, [a, b]⟩ = 1 + tySize m1 a + tySize m2 b := by
  refine ⟨max m1 m2 + 1, Or.inr (Or.inr (Or.inr ⟨hk, rfl, a, b, rfl, h1.le (Nat.le_max_left _ _), h2.le (Nat.le_max_right _ _)⟩)), ?_⟩
  simp [tySize, TyOk.size _ _ _ h1 (Nat.le_max_left m1 m2), TyOk.size _ _ _ h2 (Nat.le_max_right m1 m2)]
  omega

theorem one_made {A : List (List UInt8) → St → Option (Ty × List (List UInt8) × St)} {T : List Tok} (hW : ∀ ns s t ns' s', s.bad < 0 → A ns s = some (t, ns', s') → Went ns s ns' s') (hA : ∀ ns s t ns' s', s.bad < 0 → A ns s = some (t, ns', s') → Made t ns' s s') {ns : List (List UInt8)} {s : St} {t : Ty} {ns' : List (List UInt8)} {s' : St} (hb : s.bad < 0)
    (h : oneS A T ns s = some (t, ns', s')) : Made t ns' s s' := by
  have hu : s.up.k = s.k + 1 := rfl
  unfold oneS at h
  by_cases h1 : isS T s kInt = true
  · rw [if_pos h1] at h
    cases h
    exact ⟨1, Or.inr (Or.inl ⟨Or.inl rfl, rfl, rfl⟩), by simp [tySize]; omega, fun _ => by simp [tySize]; omega⟩
  rw [if_neg h1] at h
  by_cases h2 : isS T s kBool = true
  · rw [if_pos h2] at h
    cases h
    exact ⟨1, Or.inr (Or.inl ⟨Or.inr rfl, rfl, rfl⟩), by simp [tySize]; omega, fun _ => by simp [tySize]; omega⟩
  rw [if_neg h2] at h
  by_cases h3 : isS T s kSq = true
  · rw [if_pos h3] at h
    cases e : A ns s.up with
    | none => rw [e] at h; cases h
    | some r =>
      obtain ⟨x, n1, s1⟩ := r
      rw [e] at h
      cases h
      obtain ⟨m, w1, w2, w3⟩ := hA _ _ _ _ _ (show s.up.bad < 0 from hb) e
      obtain ⟨q1, q2, q3⟩ := needS_go T s1 kQs
      have ez : tySize (m + 1) ⟨oList, 0, [x]⟩ = 1 + tySize m x := by simp [tySize]
      refine ⟨m + 1, Or.inr (Or.inr (Or.inl ⟨rfl, rfl, x, rfl, w1⟩)), by omega, fun hx => ?_⟩
      have := w3 (q3 hx).1
      omega
  rw [if_neg h3] at h
  by_cases h4 : isS T s kOpen = true
  · rw [if_pos h4] at h
    cases e : A ns s.up with
    | none => rw [e] at h; cases h
    | some r =>
      obtain ⟨x, n1, s1⟩ := r
      rw [e] at h
      obtain ⟨m, w1, w2, w3⟩ := hA _ _ _ _ _ (show s.up.bad < 0 from hb) e
      by_cases h5 : isS T s1 kComma = true
      · simp only [if_pos h5] at h
        have hu1 : s1.up.k = s1.k + 1 := rfl
        have hs1 := isS_ok h5
        have w5 := w3 hs1
        cases e2 : A n1 s1.up with
        | none => rw [e2] at h; cases h
        | some r2 =>
          obtain ⟨y, n2, s2⟩ := r2
          rw [e2] at h
          cases h
          obtain ⟨m2, v1, v2, v3⟩ := hA _ _ _ _ _ (show s1.up.bad < 0 from hs1) e2
          have hw := hW _ _ _ _ _ (show s1.up.bad < 0 from hs1) e2
          obtain ⟨q1, q2, q3⟩ := needS_go T s2 kShut
          obtain ⟨m3, z1, z2⟩ := two_made (Or.inl rfl) (TyOk.wide hw.2.1 _ _ w1) v1
          refine ⟨m3, z1, by omega, fun hx => ?_⟩
          have := v3 (q3 hx).1
          omega
      · simp only [if_neg h5] at h
        cases h
        obtain ⟨q1, q2, q3⟩ := needS_go T s1 kShut
        refine ⟨m, w1, by omega, fun hx => ?_⟩
        have := w3 (q3 hx).1
        omega
  rw [if_neg h4] at h
  cases h
  obtain ⟨q1, q2, q3⟩ := needS_go T s kName
  obtain ⟨l1, l2, l3⟩ := numS_len ns (tk T s.k).s
  have ez : tySize 1 ⟨[], (numS ns (tk T s.k).s).1, []⟩ = 1 := by simp [tySize]
  refine ⟨1, Or.inl ⟨rfl, l3, rfl⟩, by omega, fun hx => ?_⟩
  have := (q3 hx).2
  omega

theorem arr_made (T : List Tok) : ∀ (n : Nat) (ns : List (List UInt8)) (s : St) (t : Ty) (ns' : List (List UInt8)) (s' : St), s.bad < 0 → arrS T n ns s = some (t, ns', s') → Made t ns' s s'
  | 0, _, _, _, _, _, _, h => by cases h
  | n + 1, ns, s, t, ns', s', hb, h => by
    unfold arrS at h
    cases e : oneS (arrS T n) T ns s with
    | none => rw [e] at h; cases h
    | some r =>
      obtain ⟨x, n1, s1⟩ := r
      rw [e] at h
      have w := one_made (arr_went T n) (arr_made T n) hb e
      by_cases h5 : isS T s1 kArrow = true
      · simp only [if_pos h5] at h
        obtain ⟨m, w1, w2, w3⟩ := w
        have hu1 : s1.up.k = s1.k + 1 := rfl
        have hs1 := isS_ok h5
        have w5 := w3 hs1
        cases e2 : arrS T n n1 s1.up with
        | none => rw [e2] at h; cases h
        | some r2 =>
          obtain ⟨y, n2, s2⟩ := r2
          rw [e2] at h
          cases h
          obtain ⟨m2, v1, v2, v3⟩ := arr_made T n _ _ _ _ _ (show s1.up.bad < 0 from hs1) e2
          have hw := arr_went T n _ _ _ _ _ (show s1.up.bad < 0 from hs1) e2
          obtain ⟨m3, z1, z2⟩ := two_made (Or.inr rfl) (TyOk.wide hw.2.1 _ _ w1) v1
          refine ⟨m3, z1, by omega, fun hx => ?_⟩
          have := v3 hx
          omega
      · simp only [if_neg h5] at h
        cases h
        exact w
end Go.Proofs.YtcdijppegfcoaaaGreatDoor

/-
  OUR OWN TEXT. The program's types in memory, over blocks that no longer change.
-/
namespace Go.Proofs.YtcdijppegfcoaaaGreatDoor
open Go.RowKit
theorem tyKw_ok : KwOK tyKw := by
  intro x hx
  simp only [tyKw, List.mem_cons, List.not_mem_nil, or_false] at hx
  rcases hx with rfl | rfl <;> exact ⟨_, _, rfl, by decide, by decide, by decide, by decide, by decide, by decide⟩

def IsQ (t : TypeId) : Prop := t = 309 ∨ t = 346 ∨ t = 349 ∨ t = 361 ∨ t = 291

/-- A type of the program's; ns: the names of variables, by number. -/
def QRep (ns : List (List UInt8)) : Nat → (Nat → Option Obj) → Value → Ty → Prop
  | 0, _, _, _ => False
  | n + 1, H, v, t => ∃ b,
    (t.kind = [] ∧ t.kids = [] ∧ (t.var < ns.length ∧ (ns.getD t.var []).length ≤ 300) ∧ v = .iface 309 (.pointer (some ⟨b, 0, none⟩)) ∧ H b = some (.cells #[.string (B (ns.getD t.var []))] 313 (0, 0))) ∨
    ((t.kind = kInt ∨ t.kind = kBool) ∧ t.kids = [] ∧ v = .iface 346 (.pointer (some ⟨b, 0, none⟩)) ∧ H b = some (.cells #[.string (B t.kind)] 348 (0, 0))) ∨
    (t.kind = oList ∧ ∃ a u, t.kids = [a] ∧ v = .iface 349 (.pointer (some ⟨b, 0, none⟩)) ∧ H b = some (.cells #[u] 351 (0, 0)) ∧ QRep ns n H u a) ∨
    (t.kind = oPair ∧ ∃ a c u z, t.kids = [a, c] ∧ v = .iface 361 (.pointer (some ⟨b, 0, none⟩)) ∧ H b = some (.cells #[u, z] 384 (0, 0)) ∧ QRep ns n H u a ∧ QRep ns n H z c) ∨
    (t.kind = kFun ∧ ∃ a c u z, t.kids = [a, c] ∧ v = .iface 291 (.pointer (some ⟨b, 0, none⟩)) ∧ H b = some (.cells #[u, z] 293 (0, 0)) ∧ QRep ns n H u a ∧ QRep ns n H z c)

theorem QRep.ext {ns : List (List UInt8)} {m : Nat} {H H' : Nat → Option Obj} (e : Ext m H H') : ∀ (n : Nat) (v : Value) (x : Ty), QRep ns n H v x → QRep ns n H' v x
  | 0, _, _, h => h
  | n + 1, v, x, h => by
    obtain ⟨b, h⟩ := h
    refine ⟨b, ?_⟩
    rcases h with ⟨h1, h2, h3, h4, h5⟩ | ⟨h1, h2, h3, h4⟩ | ⟨h1, a, u, h2, h3, h4, h5⟩ | ⟨h1, a, c, u, z, h2, h3, h4, h5, h6⟩ | ⟨h1, a, c, u, z, h2, h3, h4, h5, h6⟩
    · exact Or.inl ⟨h1, h2, h3, h4, e.1 _ _ h5⟩
    · exact Or.inr (Or.inl ⟨h1, h2, h3, e.1 _ _ h4⟩)
    · exact Or.inr (Or.inr (Or.inl ⟨h1, a, u, h2, h3, e.1 _ _ h4, QRep.ext e n u a h5⟩))
    · exact Or.inr (Or.inr (Or.inr (Or.inl ⟨h1, a, c, u, z, h2, h3, e.1 _ _ h4, QRep.ext e n u a h5, QRep.ext e n z c h6⟩)))
    · exact Or.inr (Or.inr (Or.inr (Or.inr ⟨h1, a, c, u, z, h2, h3, e.1 _ _ h4, QRep.ext e n u a h5, QRep.ext e n z c h6⟩)))
theorem QRep.up {ns : List (List UInt8)} {H : Nat → Option Obj} : ∀ (n : Nat) (v : Value) (x : Ty), QRep ns n H v x → QRep ns (n + 1) H v x
  | 0, _, _, h => absurd h id
  | n + 1, v, x, h => by
    obtain ⟨b, h⟩ := h
    refine ⟨b, ?_⟩
    rcases h with h | h | ⟨h1, a, u, h2, h3, h4, h5⟩ | ⟨h1, a, c, u, z, h2, h3, h4, h5, h6⟩ | ⟨h1, a, c, u, z, h2, h3, h4, h5, h6⟩
    · exact Or.inl h
    · exact Or.inr (Or.inl h)
    · exact Or.inr (Or.inr (Or.inl ⟨h1, a, u, h2, h3, h4, QRep.up n u a h5⟩))
    · exact Or.inr (Or.inr (Or.inr (Or.inl ⟨h1, a, c, u, z, h2, h3, h4, QRep.up n u a h5, QRep.up n z c h6⟩)))
    · exact Or.inr (Or.inr (Or.inr (Or.inr ⟨h1, a, c, u, z, h2, h3, h4, QRep.up n u a h5, QRep.up n z c h6⟩)))
theorem QRep.le {ns : List (List UInt8)} {H : Nat → Option Obj} {n m : Nat} {v : Value} {x : Ty} (h : QRep ns n H v x) (hm : n ≤ m) : QRep ns m H v x := by
  induction m with
  | zero => rw [Nat.le_zero.1 hm] at h; exact h
  | succ m ih =>
    rcases Nat.lt_or_ge n (m + 1) with hlt | hge
    · exact QRep.up m v x (ih (by omega))
    · rw [show m + 1 = n from by omega]; exact h
theorem getD_pre {ns ns' : List (List UInt8)} (h : ns <+: ns') {i : Nat} (hi : i < ns.length) : ns'.getD i [] = ns.getD i [] := by
  obtain ⟨r, rfl⟩ := h
  simp [List.getD, List.getElem?_append_left hi]
theorem QRep.wide {ns ns' : List (List UInt8)} (hp : ns <+: ns') {H : Nat → Option Obj} : ∀ (n : Nat) (v : Value) (x : Ty), QRep ns n H v x → QRep ns' n H v x
  | 0, _, _, h => h
  | n + 1, v, x, h => by
    obtain ⟨b, h⟩ := h
    refine ⟨b, ?_⟩
    rcases h with ⟨h1, h2, h3, h4, h5⟩ | h | ⟨h1, a, u, h2, h3, h4, h5⟩ | ⟨h1, a, c, u, z, h2, h3, h4, h5, h6⟩ | ⟨h1, a, c, u, z, h2, h3, h4, h5, h6⟩
    · exact Or.inl ⟨h1, h2, ⟨Nat.lt_of_lt_of_le h3.1 hp.length_le, by rw [getD_pre hp h3.1]; exact h3.2⟩, h4, by rw [getD_pre hp h3.1]; exact h5⟩
    · exact Or.inr (Or.inl h)
    · exact Or.inr (Or.inr (Or.inl ⟨h1, a, u, h2, h3, h4, QRep.wide hp n u a h5⟩))
    · exact Or.inr (Or.inr (Or.inr (Or.inl ⟨h1, a, c, u, z, h2, h3, h4, QRep.wide hp n u a h5, QRep.wide hp n z c h6⟩)))
    · exact Or.inr (Or.inr (Or.inr (Or.inr ⟨h1, a, c, u, z, h2, h3, h4, QRep.wide hp n u a h5, QRep.wide hp n z c h6⟩)))
/-- What its value is. -/
theorem QRep.val {ns : List (List UInt8)} {H : Nat → Option Obj} {n : Nat} {v : Value} {x : Ty} {w : World} (h : QRep ns n H v x) (hz : Fz H w) : ∃ t b, IsQ t ∧ v = .iface t (.pointer (some ⟨b, 0, none⟩)) ∧ b < w.heap.size := by
  cases n with
  | zero => exact absurd h id
  | succ n =>
    obtain ⟨b, h⟩ := h
    rcases h with ⟨h1, h2, h3, h4, h5⟩ | ⟨h1, h2, h3, h4⟩ | ⟨h1, a, u, h2, h3, h4, h5⟩ | ⟨h1, a, c, u, z, h2, h3, h4, h5, h6⟩ | ⟨h1, a, c, u, z, h2, h3, h4, h5, h6⟩
    · exact ⟨_, b, Or.inl rfl, h4, hz.lt h5⟩
    · exact ⟨_, b, Or.inr (Or.inl rfl), h3, hz.lt h4⟩
    · exact ⟨_, b, Or.inr (Or.inr (Or.inl rfl)), h3, hz.lt h4⟩
    · exact ⟨_, b, Or.inr (Or.inr (Or.inr (Or.inl rfl))), h3, hz.lt h4⟩
    · exact ⟨_, b, Or.inr (Or.inr (Or.inr (Or.inr rfl))), h3, hz.lt h4⟩
/-- A new block that no longer changes. -/
theorem q_new {w : World} {H : Nat → Option Obj} (hz : Fz H w) (C : Array Value) (t : TypeId) : ∃ H', Fz H' (w.alloc (.cells C t)) ∧ Ext w.heap.size H H' ∧ H' w.heap.size = some (.cells C t (0, 0)) := by
  have n1 : H w.heap.size = none := hz.none (Nat.le_refl _)
  exact ⟨_, (hz.alloc _).add (heap_alloc_new _ _), (Ext.refl _ _).add (Nat.le_refl _) n1, Fz.more_same _ _ _⟩

theorem num_get (ns : List (List UInt8)) (n : List UInt8) : (numS ns n).1 < (numS ns n).2.length ∧ (numS ns n).2.getD (numS ns n).1 [] = n ∧ ns <+: (numS ns n).2 := by
  unfold numS
  split
  · rename_i h
    have hl := List.idxOf_lt_length_of_mem h
    refine ⟨hl, ?_, List.prefix_refl _⟩
    simp [List.getD, List.getElem?_eq_getElem hl]
  · exact ⟨by simp, by simp [List.getD], List.prefix_append _ _⟩
theorem one_pre {T : List Tok} {A : List (List UInt8) → St → Option (Ty × List (List UInt8) × St)} (hA : ∀ ns s t ns' s', A ns s = some (t, ns', s') → ns <+: ns') (ns : List (List UInt8)) (s : St) (t : Ty) (ns' : List (List UInt8)) (s' : St)
    (h : oneS A T ns s = some (t, ns', s')) : ns <+: ns' := by
  unfold oneS at h
  split at h
  · cases h; exact List.prefix_refl _
  · split at h
    · cases h; exact List.prefix_refl _
    · split at h
      · cases e : A ns s.up with
        | none => rw [e] at h; cases h
        | some q =>
          obtain ⟨t1, n1, s1⟩ := q
          rw [e] at h
          cases h
          exact hA _ _ _ _ _ e
      · split at h
        · cases e : A ns s.up with
          | none => rw [e] at h; cases h
          | some q =>
            obtain ⟨t1, n1, s1⟩ := q
            rw [e] at h
            simp only at h
            split at h
            · cases e2 : A n1 s1.up with
              | none => rw [e2] at h; cases h
              | some q2 =>
                obtain ⟨t2, n2, s2⟩ := q2
                rw [e2] at h
                cases h
                exact (hA _ _ _ _ _ e).trans (hA _ _ _ _ _ e2)
            · cases h
              exact hA _ _ _ _ _ e
        · cases h
          exact (num_get _ _).2.2
theorem arr_pre {T : List Tok} : ∀ (n : Nat) (ns : List (List UInt8)) (s : St) (t : Ty) (ns' : List (List UInt8)) (s' : St), arrS T n ns s = some (t, ns', s') → ns <+: ns'
  | 0, _, _, _, _, _, h => by cases h
  | n + 1, ns, s, t, ns', s', h => by
    rw [arrS] at h
    cases e : oneS (arrS T n) T ns s with
    | none => rw [e] at h; cases h
    | some q =>
      obtain ⟨t1, n1, s1⟩ := q
      rw [e] at h
      simp only at h
      have p1 := one_pre (arr_pre n) ns s t1 n1 s1 e
      split at h
      · cases e2 : arrS T n n1 s1.up with
        | none => rw [e2] at h; cases h
        | some q2 =>
          obtain ⟨t2, n2, s2⟩ := q2
          rw [e2] at h
          cases h
          exact p1.trans (arr_pre n _ _ _ _ _ e2)
      · cases h
        exact p1

/-- What the program's reader of types leaves. -/
def TOut (w w' : World) (rb : Nat) (s : ByteArray) (T : List Tok) (H : Nat → Option Obj) (ns' : List (List UInt8)) (st' : St) (e : Ending) (t : Ty) : Prop :=
  Kept rb w w' ∧ ((∃ v H' m, e = .returned v ∧ PSt tyKw w' rb s T st' ∧ Fz H' w' ∧ Ext w.heap.size H H' ∧ QRep ns' m H' v t) ∨ (0 ≤ st'.bad ∧ Refused w' e st'.bad))
def WHQ (T : List Tok) (n : Nat) : Prop := ∀ (w : World) (rb : Nat) (s : ByteArray) (H : Nat → Option Obj) (ns : List (List UInt8)) (st : St) (t : Ty) (ns' : List (List UInt8)) (st' : St), arrS T n ns st = some (t, ns', st') → PSt tyKw w rb s T st → Fz H w → H rb = none →
  Calls Tryz.prog 110 #[rdV rb] w fun e w' => TOut w w' rb s T H ns' st' e t
def ONQ (T : List Tok) (n : Nat) : Prop := ∀ (w : World) (rb : Nat) (s : ByteArray) (H : Nat → Option Obj) (ns : List (List UInt8)) (st : St) (t : Ty) (ns' : List (List UInt8)) (st' : St), oneS (arrS T n) T ns st = some (t, ns', st') → PSt tyKw w rb s T st → Fz H w → H rb = none →
  Calls Tryz.prog 142 #[rdV rb] w fun e w' => TOut w w' rb s T H ns' st' e t
end Go.Proofs.YtcdijppegfcoaaaGreatDoor

/-
  OUR OWN TEXT. The one text of a type on plain data: letters by the order in which variables stand; the same, gone along once with the variables met so far.
-/
namespace Go.Proofs.YtcdijppegfcoaaaGreatDoor
open Go.RowKit
/-- The n-th name of a variable (n below 260). -/
def letterS (n : Nat) : List UInt8 := [UInt8.ofNat (97 + n % 26)] ++ (if 25 < n then [UInt8.ofNat (48 + n / 26)] else [])
/-- One above the greatest. -/
def mostS : List Nat → Nat
  | [] => 0
  | v :: l => max (v + 1) (mostS l)
/-- The names of variables, by number, once so many have been named. -/
def namesTo (l : List Nat) (j : Nat) : List (List UInt8) := (List.range (mostS l)).map fun v => if v ∈ l.take j then letterS (l.idxOf v) else []
def canNames (l : List Nat) : List (List UInt8) := namesTo l l.length
theorem tyVars_len {N : Nat} : ∀ (n : Nat) (t : Ty) (l : List Nat), TyOk N n t → (tyVars n t l).length ≤ l.length + tySize n t
  | 0, _, _, h => absurd h id
  | n + 1, t, l, h => by
    rw [tyVars, tySize]
    rcases h with ⟨h1, h2, h3⟩ | ⟨h1, h2, h3⟩ | ⟨h1, h2, a, h3, h4⟩ | ⟨h1, h2, a, b, h3, h4, h5⟩
    · rw [if_pos h1]
      split
      · omega
      · simp
    · rw [if_neg (by rcases h1 with h1 | h1 <;> rw [h1] <;> decide), h3]; simp
    · rw [if_neg (by rw [h1]; decide), h3]
      have := tyVars_len n a l h4
      simp
      omega
    · rw [if_neg (by rcases h1 with h1 | h1 <;> rw [h1] <;> decide), h3]
      have h6 := tyVars_len n a l h4
      have h7 := tyVars_len n b (tyVars n a l) h5
      simp
      omega

/-- The one text of a type. -/
def tyCanon (n : Nat) (t : Ty) : List UInt8 := tyText n (canNames (tyVars n t [])) t

end Go.Proofs.YtcdijppegfcoaaaGreatDoor

/-
  OUR OWN TEXT. An error of the program's own; a world that has drawn.
-/
namespace Go.Proofs.YtcdijppegfcoaaaGreatDoor
open Go.RowKit
def errV (a : Addr) : Value := .iface 437 (.pointer (some a))
theorem grown_drew {w w' : World} {r : Option Nat} (h : w.grownBy w' r) : w.grownBy w'.drew r := ⟨h.os, h.tape, h.output, h.size, h.block⟩
end Go.Proofs.YtcdijppegfcoaaaGreatDoor

/-
  OUR OWN TEXT. Cells of the program's in memory, and types that speak of them.
-/
namespace Go.Proofs.YtcdijppegfcoaaaGreatDoor
open Go.RowKit
/-- What may have changed is in R, or new. -/
structure Gb (R : Nat → Prop) (w w' : World) : Prop where
  os : w'.os = w.os
  tape : w'.tape = w.tape
  output : w'.output = w.output
  size : w.heap.size ≤ w'.heap.size
  block : ∀ k, k < w.heap.size → ¬ R k → w'.heap[k]? = w.heap[k]?
theorem Gb.refl (R : Nat → Prop) (w : World) : Gb R w w := ⟨rfl, rfl, rfl, Nat.le_refl _, fun _ _ _ => rfl⟩
theorem Gb.trans {R R' : Nat → Prop} {w w1 w2 : World} (h : Gb R w w1) (k : Gb R' w1 w2) (hR : ∀ i, R' i → R i ∨ w.heap.size ≤ i) : Gb R w w2 :=
  ⟨k.os.trans h.os, k.tape.trans h.tape, k.output.trans h.output, Nat.le_trans h.size k.size, fun i hi hn => by
    rw [k.block i (Nat.lt_of_lt_of_le hi h.size) (fun e => by rcases hR i e with e | e; exact hn e; omega), h.block i hi hn]⟩
theorem Gb.tr {R : Nat → Prop} {w w1 w2 : World} (h : Gb R w w1) (k : Gb R w1 w2) : Gb R w w2 := h.trans k fun _ e => Or.inl e
theorem Gb.mono {R R' : Nat → Prop} {w w' : World} (h : Gb R w w') (hR : ∀ i, R i → R' i) : Gb R' w w' := ⟨h.os, h.tape, h.output, h.size, fun k hk hn => h.block k hk fun e => hn (hR k e)⟩
theorem Gb.drew {R : Nat → Prop} {w w' : World} (h : Gb R w w') : Gb R w w'.drew := ⟨h.os, h.tape, h.output, h.size, h.block⟩
theorem Gb.of {R : Nat → Prop} {w w' : World} {r : Option Nat} (h : w.grownBy w' r) (hR : ∀ b, r = some b → R b ∨ w.heap.size ≤ b) : Gb R w w' :=
  ⟨h.os, h.tape, h.output, h.size, fun k hk hn => h.block k hk (fun e => by rcases hR k e.symm with e | e; exact hn e; omega)⟩
theorem Gb.new {R : Nat → Prop} {w w' : World} (h : w.grownBy w' none) : Gb R w w' := Gb.of h (fun b e => by cases e)
theorem Gb.alloc {R : Nat → Prop} {w w' : World} (h : Gb R w w') (o : Obj) : Gb R w (w'.alloc o) := h.tr (Gb.new (World.grownBy_alloc _ _ _))
theorem Gb.set {R : Nat → Prop} {w w' : World} (h : Gb R w w') {b : Nat} (hb : R b ∨ w.heap.size ≤ b) (i : Nat) (v : Value) : Gb R w (w'.setCell ⟨b, i, none⟩ v) := by
  refine h.trans (R' := fun k => k = b) ⟨rfl, rfl, rfl, by simp [World.setCell], fun k hk hn => Below.heap_setCell _ _ _ _ hn⟩ (fun k e => by rw [e]; exact hb)
theorem Gb.cell {R : Nat → Prop} {w w' : World} (h : Gb R w w') {b i : Nat} {v : Value} (hc : w.cell? ⟨b, i, none⟩ = some v) (hl : b < w.heap.size) (hn : ¬ R b) : w'.cell? ⟨b, i, none⟩ = some v := by
  rw [World.cell?_of_block (a := ⟨b, i, none⟩) (h.block b hl hn)]; exact hc
theorem Gb.at {R : Nat → Prop} {w w' : World} (h : Gb R w w') {b : Nat} {o : Obj} (hc : w.heap[b]? = some o) (hn : ¬ R b) : w'.heap[b]? = some o := by
  rw [h.block b (lt_of_block hc) hn]; exact hc
theorem Fz.gb {H : Nat → Option Obj} {R : Nat → Prop} {w w' : World} (h : Fz H w) (g : Gb R w w') (hn : ∀ k o, H k = some o → ¬ R k) : Fz H w' := fun k o e => g.at (h k o e) (hn k o e)

/-- A type, with cells in it. -/
structure Et where
  kind : List UInt8
  name : List UInt8
  num : Nat
  kids : List Et
def oCell : List UInt8 := [99]
def cT (k : Nat) : Et := ⟨oCell, [], k, []⟩
/-- What is known of cells: whom each is the same ca; what those are. -/
structure Sto where
  rep : List Nat
  con : List (Option Et)
def Sto.root (σ : Sto) (c : Nat) : Nat := σ.rep.getD c c
def Sto.is (σ : Sto) (c : Nat) : Option Et := σ.con.getD (σ.root c) none
def kidsS (σ : Sto) (t : Et) : List Et := if t.kind = oCell then (match σ.is t.num with | none => [] | some nd => nd.kids) else t.kids
def nowS (σ : Sto) (t : Et) : Et := if t.kind = oCell then (match σ.is t.num with | none => cT (σ.root t.num) | some nd => nd) else t

/-- A type in memory. -/
def ERep (lo : Nat) (H : Nat → Option Obj) (ca : List Nat) : Nat → Value → Et → Prop
  | 0, _, _ => False
  | n + 1, v, t => ∃ b,
    (t.kind = oCell ∧ t.kids = [] ∧ ca[t.num]? = some b ∧ v = .iface 265 (.pointer (some ⟨b, 0, none⟩))) ∨
    (t.kind = [] ∧ t.kids = [] ∧ t.name.length ≤ 300 ∧ lo ≤ b ∧ v = .iface 309 (.pointer (some ⟨b, 0, none⟩)) ∧ H b = some (.cells #[.string (B t.name)] 313 (0, 0))) ∨
    ((t.kind = kInt ∨ t.kind = kBool) ∧ t.kids = [] ∧ v = .iface 346 (.pointer (some ⟨b, 0, none⟩)) ∧ H b = some (.cells #[.string (B t.kind)] 348 (0, 0))) ∨
    (t.kind = oList ∧ lo ≤ b ∧ ∃ a u, t.kids = [a] ∧ v = .iface 349 (.pointer (some ⟨b, 0, none⟩)) ∧ H b = some (.cells #[u] 351 (0, 0)) ∧ ERep lo H ca n u a) ∨
    (t.kind = oPair ∧ lo ≤ b ∧ ∃ a c u z, t.kids = [a, c] ∧ v = .iface 361 (.pointer (some ⟨b, 0, none⟩)) ∧ H b = some (.cells #[u, z] 384 (0, 0)) ∧ ERep lo H ca n u a ∧ ERep lo H ca n z c) ∨
    (t.kind = kFun ∧ lo ≤ b ∧ ∃ a c u z, t.kids = [a, c] ∧ v = .iface 291 (.pointer (some ⟨b, 0, none⟩)) ∧ H b = some (.cells #[u, z] 293 (0, 0)) ∧ ERep lo H ca n u a ∧ ERep lo H ca n z c)

theorem get_pre {ca ca' : List Nat} (h : ca <+: ca') {i b : Nat} (e : ca[i]? = some b) : ca'[i]? = some b := by
  obtain ⟨r, rfl⟩ := h
  rw [List.getElem?_append_left (List.getElem?_eq_some_iff.1 e).1]; exact e
theorem ERep.ext {lo lo' : Nat} {H H' : Nat → Option Obj} {ca ca' : List Nat} (hl : lo' ≤ lo) (e : ∀ k o, H k = some o → H' k = some o) (ha : ca <+: ca') : ∀ (n : Nat) (v : Value) (t : Et), ERep lo H ca n v t → ERep lo' H' ca' n v t
  | 0, _, _, h => h
  | n + 1, v, x, h => by
    obtain ⟨b, h⟩ := h
    refine ⟨b, ?_⟩
    rcases h with ⟨h1, h2, h3, h4⟩ | ⟨h1, h2, h3, h0, h4, h5⟩ | ⟨h1, h2, h3, h4⟩ | ⟨h1, h0, a, u, h2, h3, h4, h5⟩ | ⟨h1, h0, a, c, u, z, h2, h3, h4, h5, h6⟩ | ⟨h1, h0, a, c, u, z, h2, h3, h4, h5, h6⟩
    · exact Or.inl ⟨h1, h2, get_pre ha h3, h4⟩
    · exact Or.inr (Or.inl ⟨h1, h2, h3, by omega, h4, e _ _ h5⟩)
    · exact Or.inr (Or.inr (Or.inl ⟨h1, h2, h3, e _ _ h4⟩))
    · exact Or.inr (Or.inr (Or.inr (Or.inl ⟨h1, by omega, a, u, h2, h3, e _ _ h4, ERep.ext hl e ha n u a h5⟩)))
    · exact Or.inr (Or.inr (Or.inr (Or.inr (Or.inl ⟨h1, by omega, a, c, u, z, h2, h3, e _ _ h4, ERep.ext hl e ha n u a h5, ERep.ext hl e ha n z c h6⟩))))
    · exact Or.inr (Or.inr (Or.inr (Or.inr (Or.inr ⟨h1, by omega, a, c, u, z, h2, h3, e _ _ h4, ERep.ext hl e ha n u a h5, ERep.ext hl e ha n z c h6⟩))))
theorem ERep.up {lo : Nat} {H : Nat → Option Obj} {ca : List Nat} : ∀ (n : Nat) (v : Value) (x : Et), ERep lo H ca n v x → ERep lo H ca (n + 1) v x
  | 0, _, _, h => absurd h id
  | n + 1, v, x, h => by
    obtain ⟨b, h⟩ := h
    refine ⟨b, ?_⟩
    rcases h with h | h | h | ⟨h1, h0, a, u, h2, h3, h4, h5⟩ | ⟨h1, h0, a, c, u, z, h2, h3, h4, h5, h6⟩ | ⟨h1, h0, a, c, u, z, h2, h3, h4, h5, h6⟩
    · exact Or.inl h
    · exact Or.inr (Or.inl h)
    · exact Or.inr (Or.inr (Or.inl h))
    · exact Or.inr (Or.inr (Or.inr (Or.inl ⟨h1, h0, a, u, h2, h3, h4, ERep.up n u a h5⟩)))
    · exact Or.inr (Or.inr (Or.inr (Or.inr (Or.inl ⟨h1, h0, a, c, u, z, h2, h3, h4, ERep.up n u a h5, ERep.up n z c h6⟩))))
    · exact Or.inr (Or.inr (Or.inr (Or.inr (Or.inr ⟨h1, h0, a, c, u, z, h2, h3, h4, ERep.up n u a h5, ERep.up n z c h6⟩))))
theorem ERep.le {lo : Nat} {H : Nat → Option Obj} {ca : List Nat} {n m : Nat} {v : Value} {x : Et} (h : ERep lo H ca n v x) (hm : n ≤ m) : ERep lo H ca m v x := by
  induction m with
  | zero => rw [Nat.le_zero.1 hm] at h; exact h
  | succ m ih =>
    rcases Nat.lt_or_ge n (m + 1) with hlt | hge
    · exact ERep.up m v x (ih (by omega))
    · rw [show m + 1 = n from by omega]; exact h
def IsE (t : TypeId) : Prop := t = 265 ∨ t = 309 ∨ t = 346 ∨ t = 349 ∨ t = 361 ∨ t = 291
theorem ERep.val {lo : Nat} {H : Nat → Option Obj} {ca : List Nat} {n : Nat} {v : Value} {x : Et} (h : ERep lo H ca n v x) : ∃ t b, IsE t ∧ v = .iface t (.pointer (some ⟨b, 0, none⟩)) := by
  cases n with
  | zero => exact absurd h id
  | succ n =>
    obtain ⟨b, h⟩ := h
    rcases h with ⟨h1, h2, h3, h4⟩ | ⟨h1, h2, h3, h0, h4, h5⟩ | ⟨h1, h2, h3, h4⟩ | ⟨h1, h0, a, u, h2, h3, h4, h5⟩ | ⟨h1, h0, a, c, u, z, h2, h3, h4, h5, h6⟩ | ⟨h1, h0, a, c, u, z, h2, h3, h4, h5, h6⟩
    · exact ⟨_, b, Or.inl rfl, h4⟩
    · exact ⟨_, b, Or.inr (Or.inl rfl), h4⟩
    · exact ⟨_, b, Or.inr (Or.inr (Or.inl rfl)), h3⟩
    · exact ⟨_, b, Or.inr (Or.inr (Or.inr (Or.inl rfl))), h3⟩
    · exact ⟨_, b, Or.inr (Or.inr (Or.inr (Or.inr (Or.inl rfl)))), h3⟩
    · exact ⟨_, b, Or.inr (Or.inr (Or.inr (Or.inr (Or.inr rfl)))), h3⟩

/-- What a cell that is none but itself is. -/
def ORep (H : Nat → Option Obj) (ca : List Nat) (o : Option Et) (v : Value) : Prop :=
  (o = none ∧ v = .nilIface) ∨ ∃ nd, o = some nd ∧ nd.kind ≠ [] ∧ nd.kind ≠ oCell ∧ (∀ k, k ∈ nd.kids → k.kind = oCell) ∧ ERep 0 H ca 2 v nd
def CV (H : Nat → Option Obj) (ca : List Nat) (σ : Sto) (d : Nat → Nat) (i : Nat) (v : Value) : Prop :=
  (σ.rep[i]? = some i ∧ ORep H ca (σ.con.getD i none) v) ∨
  ∃ j c b, σ.rep[i]? = some c ∧ c ≠ i ∧ σ.rep[j]? = some c ∧ ca[j]? = some b ∧ v = .iface 265 (.pointer (some ⟨b, 0, none⟩)) ∧ (j = c ∨ d j < d i)
def cellB (i : Nat) (v : Value) : Obj := .cells #[.int .i64 ((i : Int) + 1), v] 354 (0, 0)
/-- The cells, in memory. -/
structure CSd (H : Nat → Option Obj) (ca : List Nat) (σ : Sto) (d : Nat → Nat) (w : World) : Prop where
  fz : Fz H w
  len : ca.length = σ.rep.length
  lenc : σ.con.length = σ.rep.length
  nd : ca.Nodup
  off : ∀ a, a ∈ ca → H a = none
  few : σ.rep.length ≤ 1099511627776
  rr : ∀ (i c : Nat), σ.rep[i]? = some c → σ.rep[c]? = some c
  blk : ∀ (i a : Nat), ca[i]? = some a → ∃ v, w.heap[a]? = some (cellB i v) ∧ CV H ca σ d i v
def CS (H : Nat → Option Obj) (ca : List Nat) (σ : Sto) (w : World) : Prop := ∃ d, CSd H ca σ d w
theorem CSd.root_get {H : Nat → Option Obj} {ca : List Nat} {σ : Sto} {d : Nat → Nat} {w : World} (h : CSd H ca σ d w) {i a : Nat} (e : ca[i]? = some a) : ∃ b, σ.rep[i]? = some (σ.root i) ∧ ca[σ.root i]? = some b := by
  have hi : i < σ.rep.length := by rw [← h.len]; exact (List.getElem?_eq_some_iff.1 e).1
  have e1 : σ.rep[i]? = some (σ.root i) := by unfold Sto.root; rw [List.getElem?_eq_getElem hi]; simp [List.getD, List.getElem?_eq_getElem hi]
  have e2 := h.rr i _ e1
  have h2 : σ.root i < ca.length := by rw [h.len]; exact (List.getElem?_eq_some_iff.1 e2).1
  exact ⟨ca[σ.root i], e1, List.getElem?_eq_getElem h2⟩
/-- The cells are ca they were, where their blocks and those that don't change are. -/
theorem CSd.gb {H : Nat → Option Obj} {ca : List Nat} {σ : Sto} {d : Nat → Nat} {R : Nat → Prop} {w w' : World} (h : CSd H ca σ d w) (g : Gb R w w') (ha : ∀ a, a ∈ ca → ¬ R a) (hn : ∀ k o, H k = some o → ¬ R k) : CSd H ca σ d w' :=
  ⟨h.fz.gb g hn, h.len, h.lenc, h.nd, h.off, h.few, h.rr, fun i a e => by
    obtain ⟨v, h1, h2⟩ := h.blk i a e
    exact ⟨v, g.at h1 (ha a (List.mem_of_getElem? e)), h2⟩⟩
/-- One cell's way is cut short. -/
theorem CSd.short {H : Nat → Option Obj} {ca : List Nat} {σ : Sto} {d : Nat → Nat} {w : World} (h : CSd H ca σ d w) {i c a b : Nat} (ei : ca[i]? = some a) (er : σ.rep[i]? = some c) (hc : c ≠ i) (eb : ca[c]? = some b) :
    CSd H ca σ d (w.setCell ⟨a, 1, none⟩ (.iface 265 (.pointer (some ⟨b, 0, none⟩)))) := by
  refine ⟨h.fz.set (h.off a (List.mem_of_getElem? ei)) 1 _, h.len, h.lenc, h.nd, h.off, h.few, h.rr, fun j x e => ?_⟩
  obtain ⟨v, h1, h2⟩ := h.blk j x e
  by_cases hj : j = i
  · subst hj
    rw [e] at ei
    cases ei
    refine ⟨_, ?_, Or.inr ⟨c, c, b, er, hc, h.rr _ _ er, eb, rfl, Or.inl rfl⟩⟩
    simp [World.setCell, Array.getElem?_modify, h1, cellB]
  · refine ⟨v, ?_, h2⟩
    rw [Below.heap_setCell _ _ _ _ (fun e' => hj ?_)]
    · exact h1
    · have e2 : x = a := e'
      subst e2
      exact (List.getElem?_inj (List.getElem?_eq_some_iff.1 e).1 h.nd).1 (e.trans ei.symm)
end Go.Proofs.YtcdijppegfcoaaaGreatDoor
