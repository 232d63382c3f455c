import Derived.Test.YtfangljlgfcdpaaGreatDoorPAtom
import Derived.Test.YtfangljlgfcdpaaGreatDoorKA
import Derived.Test.YtfangljlgfcdpaaGreatDoorRefRd
import Derived.Defers
import Derived.Recover
import Derived.Test.YtfangljlgfcdpaaGreatDoorRefT
import Derived.Laws.Runes
import Derived.Outline
import Derived.Maps.OwnSet
import Derived.Test.YtfangljlgfcdpaaGreatDoorCom
/-
  OUR OWN TEXT. The program's types in memory, over blocks that no longer change.
-/
namespace Go.Proofs.YtfangljlgfcdpaaGreatDoor
open Go.RowKit

theorem tyKw_ok : KwOK tyKw := by
  intro x hx
  simp only [tyKw, List.mem_cons, List.not_mem_nil, or_false] at hx
  rcases hx with rfl | rfl <;> exact ⟨_, _, rfl, by decide, by decide, by decide, by decide, by decide, by decide⟩

def IsQ (t : TypeId) : Prop := t = 277 ∨ t = 274 ∨ t = 278 ∨ t = 281 ∨ t = 270

/-- A type of the program's; ns: the names of variables, by number. -/
def QRep (ns : List (List UInt8)) : Nat → (Nat → Option Obj) → Value → Ty → Prop
  | 0, _, _, _ => False
  | n + 1, H, v, t => ∃ b,
    (t.kind = [] ∧ t.kids = [] ∧ (t.var < ns.length ∧ (ns.getD t.var []).length ≤ 300) ∧ v = .iface 277 (.pointer (some ⟨b, 0, none⟩)) ∧ H b = some (.cells #[.string (B (ns.getD t.var []))] 287 (0, 0))) ∨
    ((t.kind = kInt ∨ t.kind = kBool) ∧ t.kids = [] ∧ v = .iface 274 (.pointer (some ⟨b, 0, none⟩)) ∧ H b = some (.cells #[.string (B t.kind)] 276 (0, 0))) ∨
    (t.kind = oList ∧ ∃ a u, t.kids = [a] ∧ v = .iface 278 (.pointer (some ⟨b, 0, none⟩)) ∧ H b = some (.cells #[u] 280 (0, 0)) ∧ QRep ns n H u a) ∨
    (t.kind = oPair ∧ ∃ a c u z, t.kids = [a, c] ∧ v = .iface 281 (.pointer (some ⟨b, 0, none⟩)) ∧ H b = some (.cells #[u, z] 283 (0, 0)) ∧ QRep ns n H u a ∧ QRep ns n H z c) ∨
    (t.kind = kFun ∧ ∃ a c u z, t.kids = [a, c] ∧ v = .iface 270 (.pointer (some ⟨b, 0, none⟩)) ∧ H b = some (.cells #[u, z] 272 (0, 0)) ∧ QRep ns n H u a ∧ QRep ns n H z c)

theorem QRep.ext {ns : List (List UInt8)} {m : Nat} {H H' : Nat → Option Obj} (e : Ext m H H') : ∀ (n : Nat) (v : Value) (x : Ty), QRep ns n H v x → QRep ns n H' v x
  | 0, _, _, h => h
  | n + 1, v, x, h => by
    obtain ⟨b, h⟩ := h
    refine ⟨b, ?_⟩
    rcases h with ⟨h1, h2, h3, h4, h5⟩ | ⟨h1, h2, h3, h4⟩ | ⟨h1, a, u, h2, h3, h4, h5⟩ | ⟨h1, a, c, u, z, h2, h3, h4, h5, h6⟩ | ⟨h1, a, c, u, z, h2, h3, h4, h5, h6⟩
    · exact Or.inl ⟨h1, h2, h3, h4, e.1 _ _ h5⟩
    · exact Or.inr (Or.inl ⟨h1, h2, h3, e.1 _ _ h4⟩)
    · exact Or.inr (Or.inr (Or.inl ⟨h1, a, u, h2, h3, e.1 _ _ h4, QRep.ext e n u a h5⟩))
    · exact Or.inr (Or.inr (Or.inr (Or.inl ⟨h1, a, c, u, z, h2, h3, e.1 _ _ h4, QRep.ext e n u a h5, QRep.ext e n z c h6⟩)))
    · exact Or.inr (Or.inr (Or.inr (Or.inr ⟨h1, a, c, u, z, h2, h3, e.1 _ _ h4, QRep.ext e n u a h5, QRep.ext e n z c h6⟩)))
theorem QRep.up {ns : List (List UInt8)} {H : Nat → Option Obj} : ∀ (n : Nat) (v : Value) (x : Ty), QRep ns n H v x → QRep ns (n + 1) H v x
  | 0, _, _, h => absurd h id
  | n + 1, v, x, h => by
    obtain ⟨b, h⟩ := h
    refine ⟨b, ?_⟩
    rcases h with h | h | ⟨h1, a, u, h2, h3, h4, h5⟩ | ⟨h1, a, c, u, z, h2, h3, h4, h5, h6⟩ | ⟨h1, a, c, u, z, h2, h3, h4, h5, h6⟩
    · exact Or.inl h
    · exact Or.inr (Or.inl h)
    · exact Or.inr (Or.inr (Or.inl ⟨h1, a, u, h2, h3, h4, QRep.up n u a h5⟩))
    · exact Or.inr (Or.inr (Or.inr (Or.inl ⟨h1, a, c, u, z, h2, h3, h4, QRep.up n u a h5, QRep.up n z c h6⟩)))
    · exact Or.inr (Or.inr (Or.inr (Or.inr ⟨h1, a, c, u, z, h2, h3, h4, QRep.up n u a h5, QRep.up n z c h6⟩)))
theorem QRep.le {ns : List (List UInt8)} {H : Nat → Option Obj} {n m : Nat} {v : Value} {x : Ty} (h : QRep ns n H v x) (hm : n ≤ m) : QRep ns m H v x := by
  induction m with
  | zero => rw [Nat.le_zero.1 hm] at h; exact h
  | succ m ih =>
    rcases Nat.lt_or_ge n (m + 1) with hlt | hge
    · exact QRep.up m v x (ih (by omega))
    · rw [show m + 1 = n from by omega]; exact h
theorem getD_pre {ns ns' : List (List UInt8)} (h : ns <+: ns') {i : Nat} (hi : i < ns.length) : ns'.getD i [] = ns.getD i [] := by
  obtain ⟨r, rfl⟩ := h
  simp [List.getD, List.getElem?_append_left hi]
theorem QRep.wide {ns ns' : List (List UInt8)} (hp : ns <+: ns') {H : Nat → Option Obj} : ∀ (n : Nat) (v : Value) (x : Ty), QRep ns n H v x → QRep ns' n H v x
  | 0, _, _, h => h
  | n + 1, v, x, h => by
    obtain ⟨b, h⟩ := h
    refine ⟨b, ?_⟩
    rcases h with ⟨h1, h2, h3, h4, h5⟩ | h | ⟨h1, a, u, h2, h3, h4, h5⟩ | ⟨h1, a, c, u, z, h2, h3, h4, h5, h6⟩ | ⟨h1, a, c, u, z, h2, h3, h4, h5, h6⟩
    · exact Or.inl ⟨h1, h2, ⟨Nat.lt_of_lt_of_le h3.1 hp.length_le, by rw [getD_pre hp h3.1]; exact h3.2⟩, h4, by rw [getD_pre hp h3.1]; exact h5⟩
    · exact Or.inr (Or.inl h)
    · exact Or.inr (Or.inr (Or.inl ⟨h1, a, u, h2, h3, h4, QRep.wide hp n u a h5⟩))
    · exact Or.inr (Or.inr (Or.inr (Or.inl ⟨h1, a, c, u, z, h2, h3, h4, QRep.wide hp n u a h5, QRep.wide hp n z c h6⟩)))
    · exact Or.inr (Or.inr (Or.inr (Or.inr ⟨h1, a, c, u, z, h2, h3, h4, QRep.wide hp n u a h5, QRep.wide hp n z c h6⟩)))
/-- What its value is. -/
theorem QRep.val {ns : List (List UInt8)} {H : Nat → Option Obj} {n : Nat} {v : Value} {x : Ty} {w : World} (h : QRep ns n H v x) (hz : Fz H w) : ∃ t b, IsQ t ∧ v = .iface t (.pointer (some ⟨b, 0, none⟩)) ∧ b < w.heap.size := by
  cases n with
  | zero => exact absurd h id
  | succ n =>
    obtain ⟨b, h⟩ := h
    rcases h with ⟨h1, h2, h3, h4, h5⟩ | ⟨h1, h2, h3, h4⟩ | ⟨h1, a, u, h2, h3, h4, h5⟩ | ⟨h1, a, c, u, z, h2, h3, h4, h5, h6⟩ | ⟨h1, a, c, u, z, h2, h3, h4, h5, h6⟩
    · exact ⟨_, b, Or.inl rfl, h4, hz.lt h5⟩
    · exact ⟨_, b, Or.inr (Or.inl rfl), h3, hz.lt h4⟩
    · exact ⟨_, b, Or.inr (Or.inr (Or.inl rfl)), h3, hz.lt h4⟩
    · exact ⟨_, b, Or.inr (Or.inr (Or.inr (Or.inl rfl))), h3, hz.lt h4⟩
    · exact ⟨_, b, Or.inr (Or.inr (Or.inr (Or.inr rfl))), h3, hz.lt h4⟩
/-- A new block that no longer changes. -/
theorem q_new {w : World} {H : Nat → Option Obj} (hz : Fz H w) (C : Array Value) (t : TypeId) : ∃ H', Fz H' (w.alloc (.cells C t)) ∧ Ext w.heap.size H H' ∧ H' w.heap.size = some (.cells C t (0, 0)) := by
  have n1 : H w.heap.size = none := hz.none (Nat.le_refl _)
  exact ⟨_, (hz.alloc _).add (heap_alloc_new _ _), (Ext.refl _ _).add (Nat.le_refl _) n1, Fz.more_same _ _ _⟩

theorem num_get (ns : List (List UInt8)) (n : List UInt8) : (numS ns n).1 < (numS ns n).2.length ∧ (numS ns n).2.getD (numS ns n).1 [] = n ∧ ns <+: (numS ns n).2 := by
  unfold numS
  split
  · rename_i h
    have hl := List.idxOf_lt_length_of_mem h
    refine ⟨hl, ?_, List.prefix_refl _⟩
    simp [List.getD, List.getElem?_eq_getElem hl]
  · exact ⟨by simp, by simp [List.getD], List.prefix_append _ _⟩
theorem one_pre {T : List Tok} {A : List (List UInt8) → St → Option (Ty × List (List UInt8) × St)} (hA : ∀ ns s t ns' s', A ns s = some (t, ns', s') → ns <+: ns') (ns : List (List UInt8)) (s : St) (t : Ty) (ns' : List (List UInt8)) (s' : St)
    (h : oneS A T ns s = some (t, ns', s')) : ns <+: ns' := by
  unfold oneS at h
  split at h
  · cases h; exact List.prefix_refl _
  · split at h
    · cases h; exact List.prefix_refl _
    · split at h
      · cases e : A ns s.up with
        | none => rw [e] at h; cases h
        | some q =>
          obtain ⟨t1, n1, s1⟩ := q
          rw [e] at h
          cases h
          exact hA _ _ _ _ _ e
      · split at h
        · cases e : A ns s.up with
          | none => rw [e] at h; cases h
          | some q =>
            obtain ⟨t1, n1, s1⟩ := q
            rw [e] at h
            simp only at h
            split at h
            · cases e2 : A n1 s1.up with
              | none => rw [e2] at h; cases h
              | some q2 =>
                obtain ⟨t2, n2, s2⟩ := q2
                rw [e2] at h
                cases h
                exact (hA _ _ _ _ _ e).trans (hA _ _ _ _ _ e2)
            · cases h
              exact hA _ _ _ _ _ e
        · cases h
          exact (num_get _ _).2.2
theorem arr_pre {T : List Tok} : ∀ (n : Nat) (ns : List (List UInt8)) (s : St) (t : Ty) (ns' : List (List UInt8)) (s' : St), arrS T n ns s = some (t, ns', s') → ns <+: ns'
  | 0, _, _, _, _, _, h => by cases h
  | n + 1, ns, s, t, ns', s', h => by
    rw [arrS] at h
    cases e : oneS (arrS T n) T ns s with
    | none => rw [e] at h; cases h
    | some q =>
      obtain ⟨t1, n1, s1⟩ := q
      rw [e] at h
      simp only at h
      have p1 := one_pre (arr_pre n) ns s t1 n1 s1 e
      split at h
      · cases e2 : arrS T n n1 s1.up with
        | none => rw [e2] at h; cases h
        | some q2 =>
          obtain ⟨t2, n2, s2⟩ := q2
          rw [e2] at h
          cases h
          exact p1.trans (arr_pre n _ _ _ _ _ e2)
      · cases h
        exact p1

/-- What the program's reader of types leaves. -/
def TOut (w w' : World) (rb : Nat) (s : ByteArray) (T : List Tok) (H : Nat → Option Obj) (ns' : List (List UInt8)) (st' : St) (e : Ending) (t : Ty) : Prop :=
  Kept rb w w' ∧ ((∃ v H' m, e = .returned v ∧ PSt tyKw w' rb s T st' ∧ Fz H' w' ∧ Ext w.heap.size H H' ∧ QRep ns' m H' v t) ∨ (0 ≤ st'.bad ∧ Refused w' e st'.bad))
def WHQ (T : List Tok) (n : Nat) : Prop := ∀ (w : World) (rb : Nat) (s : ByteArray) (H : Nat → Option Obj) (ns : List (List UInt8)) (st : St) (t : Ty) (ns' : List (List UInt8)) (st' : St), arrS T n ns st = some (t, ns', st') → PSt tyKw w rb s T st → Fz H w → H rb = none →
  Calls Tryz.prog 101 #[rdV rb] w fun e w' => TOut w w' rb s T H ns' st' e t
def ONQ (T : List Tok) (n : Nat) : Prop := ∀ (w : World) (rb : Nat) (s : ByteArray) (H : Nat → Option Obj) (ns : List (List UInt8)) (st : St) (t : Ty) (ns' : List (List UInt8)) (st' : St), oneS (arrS T n) T ns st = some (t, ns', st') → PSt tyKw w rb s T st → Fz H w → H rb = none →
  Calls Tryz.prog 132 #[rdV rb] w fun e w' => TOut w w' rb s T H ns' st' e t
end Go.Proofs.YtfangljlgfcdpaaGreatDoor

/-
  OUR OWN TEXT. The program's reader of types: brackets; whole.
-/
namespace Go.Proofs.YtfangljlgfcdpaaGreatDoor
open Go.RowKit

set_option maxRecDepth 100000 in
set_option maxHeartbeats 2000000 in
theorem bracketed_q (T : List Tok) (n : Nat) (hE : WHQ T n) (w : World) (rb : Nat) (s : ByteArray) (H : Nat → Option Obj) (ns : List (List UInt8)) (st : St) (x : Ty) (n1 : List (List UInt8)) (s1 : St) (t : Ty) (ns' : List (List UInt8)) (st' : St)
    (hx : arrS T n ns st = some (x, n1, s1)) (hy : (if isS T s1 kComma = true then match arrS T n n1 s1.up with
        | none => none
        | some (y, n2, s2) => some (⟨oPair, 0, [x, y]⟩, n2, needS T s2 kShut)
      else some (x, n1, needS T s1 kShut)) = some (t, ns', st')) (h : PSt tyKw w rb s T st) (hz : Fz H w) (hr : H rb = none) :
    Calls Tryz.prog 172 #[rdV rb] w fun e w' => TOut w w' rb s T H ns' st' e t := by
  have hlt := h.lt
  have HP := hid (h.alloc (.cells #[.pointer (some ⟨rb, 0, none⟩)] 218))
  have HZ := hid (hz.alloc (.cells #[.pointer (some ⟨rb, 0, none⟩)] 218))
  have HE := hid hE
  have HX := hid hx
  have HY := hid hy
  have K0 := hid ((Kept.refl rb w).alloc (.cells #[.pointer (some ⟨rb, 0, none⟩)] 218))
  clear h hz hE hx hy
  unfold rdV
  go_enter Tryz.func172, Tryz.ntmps172
  go_wp2_with fail
  refine (HE.out _ rb s H ns st x n1 s1 HX.out HP.out HZ.out hr).mono ?_
  rintro e w1 ⟨k1, (⟨v1, H1, m1, rfl, p1, z1, e1, r1⟩ | ⟨hb, b, rfl, hrf⟩)⟩
  case inr =>
    have e4 := HY.out
    rw [if_neg (by rw [isS_bad hb]; decide), need_bad hb] at e4
    cases e4
    unfold refusal
    go_wp2
    exact ⟨rfl, K0.out.trans k1, Or.inr ⟨hb, b, rfl, hrf⟩⟩
  case inl =>
  obtain ⟨t1, b1, ht1, rfl, hb1⟩ := r1.val z1
  have bx1 : w1.cell? ⟨w.heap.size, 0, none⟩ = some (.pointer (some ⟨rb, 0, none⟩)) := by
    rw [kept_cell k1 (by simp) (by omega)]
    simp [go_sem]
  have hw1 : w.heap.size < w1.heap.size := by have := k1.size; simp at this; omega
  have hr1 : H1 rb = none := by rw [e1.2 rb (by simp; omega)]; exact hr
  have P1 := hid p1
  have K1 := hid (K0.out.trans k1)
  have Z1 := hid z1
  have E1 := hid (e1.from (n := w.heap.size) (by simp))
  have R1 := hid r1
  clear p1 k1 z1 e1 r1 hb1 ht1
  go_wp2_with fail
  refine (skips_p tyKw tyKw_ok _ rb s T s1 kComma P1.out (Or.inr (by decide))).mono ?_
  rintro e w2 ⟨rfl, p2, k2⟩
  have bx2 : w2.cell? ⟨w.heap.size, 0, none⟩ = some (.pointer (some ⟨rb, 0, none⟩)) := by
    rw [kept_cell k2 hw1 (by omega)]
    exact bx1
  have hw2 : w1.heap.size ≤ w2.heap.size := k2.size
  have P2 := hid p2
  have K2 := hid (K1.out.trans k2)
  have Z2 := hid (Z1.out.kept k2 hr1)
  clear p2 k2 bx1
  cases hi : isS T s1 kComma with
  | false =>
    have p2 := P2.out
    rw [take_no hi] at p2
    have P2' := hid p2
    have e4 := HY.out
    rw [if_neg (by rw [hi]; decide)] at e4
    cases e4
    clear hi p2
    go_wp2_with fail
    refine (must_p tyKw tyKw_ok _ rb s T s1 kShut P2'.out (Or.inr (by decide))).mono ?_
    rintro e w3 ⟨k3, (⟨rfl, p3⟩ | ⟨hb, b, rfl, hrf⟩)⟩
    case inr =>
      unfold refusal
      go_wp2
      exact ⟨rfl, K2.out.trans k3, Or.inr ⟨hb, b, rfl, hrf⟩⟩
    case inl =>
      have Q := hid (And.intro p3 k3)
      clear p3 k3
      go_wp2
      go_ret
      exact ⟨K2.out.trans Q.out.2, Or.inl ⟨_, H1, m1, rfl, Q.out.1, Z2.out.kept Q.out.2 hr1, E1.out, R1.out⟩⟩
  | true =>
    have p2 := P2.out
    rw [take_yes hi] at p2
    have P2' := hid p2
    have e4 := HY.out
    rw [if_pos hi] at e4
    cases hey : arrS T n n1 s1.up with
    | none => rw [hey] at e4; cases e4
    | some q =>
    obtain ⟨y, n2, s2⟩ := q
    rw [hey] at e4
    cases e4
    have HEY := hid hey
    clear hi p2 hey
    go_wp2_with fail
    refine (HE.out _ rb s H1 n1 _ y _ s2 HEY.out P2'.out Z2.out hr1).mono ?_
    rintro e w3 ⟨k3, (⟨v2, H3, m2, rfl, p3, z3, e3, r3⟩ | ⟨hb, b, rfl, hrf⟩)⟩
    case inr =>
      unfold refusal
      go_wp2
      exact ⟨rfl, K2.out.trans k3, Or.inr ⟨by rw [need_bad hb]; exact hb, b, rfl, by rw [need_bad hb]; exact hrf⟩⟩
    case inl =>
    obtain ⟨t2, b2, ht2, rfl, hb2⟩ := r3.val z3
    have bx3 : w3.cell? ⟨w.heap.size, 0, none⟩ = some (.pointer (some ⟨rb, 0, none⟩)) := by
      rw [kept_cell k3 (by omega) (by omega)]
      exact bx2
    have hw3 : w2.heap.size ≤ w3.heap.size := k3.size
    have hr3 : H3 rb = none := by rw [e3.2 rb (by omega)]; exact hr1
    have P3 := hid p3
    have K3 := hid (K2.out.trans k3)
    have Z3 := hid z3
    have E3 := hid (e3.from (n := w.heap.size) (by omega))
    have R3 := hid r3
    clear p3 k3 z3 e3 r3 hb2 ht2 bx2
    go_wp2_with fail
    refine (must_p tyKw tyKw_ok _ rb s T s2 kShut P3.out (Or.inr (by decide))).mono ?_
    rintro e w4 ⟨k4, (⟨rfl, p4⟩ | ⟨hb, b, rfl, hrf⟩)⟩
    case inr =>
      unfold refusal
      go_wp2
      exact ⟨rfl, K3.out.trans k4, Or.inr ⟨hb, b, rfl, hrf⟩⟩
    case inl =>
    have hw4 : w3.heap.size ≤ w4.heap.size := k4.size
    have Z4 := hid (Z3.out.kept k4 hr3)
    have P4 := hid p4
    have K4 := hid (K3.out.trans k4)
    clear p4 k4 bx3
    go_wp2
    go_ret
    obtain ⟨H7, z7, x7, h7⟩ := q_new Z4.out #[(.iface t1 (.pointer (some ⟨b1, 0, none⟩))), (.iface t2 (.pointer (some ⟨b2, 0, none⟩)))] 283
    have pre := arr_pre _ _ _ _ _ _ HEY.out
    refine ⟨K4.out.alloc _, Or.inl ⟨_, H7, max m1 m2 + 1, rfl, P4.out.alloc _, z7, (E1.out.trans E3.out (Nat.le_refl _)).trans x7 (by omega), w4.heap.size, Or.inr (Or.inr (Or.inr (Or.inl ⟨rfl, x, y, (.iface t1 (.pointer (some ⟨b1, 0, none⟩))), (.iface t2 (.pointer (some ⟨b2, 0, none⟩))), rfl, rfl, h7, ?_, ?_⟩)))⟩⟩
    · exact (QRep.ext x7 _ _ _ (QRep.ext E3.out _ _ _ (QRep.wide pre _ _ _ R1.out))).le (by omega)
    · exact (QRep.ext x7 _ _ _ R3.out).le (by omega)

set_option maxRecDepth 100000 in
set_option maxHeartbeats 2000000 in
theorem whole_q (T : List Tok) (n : Nat) (hO : ONQ T n) (hE : WHQ T n) : WHQ T (n + 1) := by
  intro w rb s H ns st t ns' st' hs h hz hr
  have hlt := h.lt
  have HP := hid (h.alloc (.cells #[.pointer (some ⟨rb, 0, none⟩)] 218))
  have HZ := hid (hz.alloc (.cells #[.pointer (some ⟨rb, 0, none⟩)] 218))
  have HE := hid hE
  have HO := hid hO
  rw [arrS] at hs
  cases hx : oneS (arrS T n) T ns st with
  | none => rw [hx] at hs; cases hs
  | some q =>
  obtain ⟨x, n1, s1⟩ := q
  rw [hx] at hs
  simp only at hs
  have HX := hid hx
  have HY := hid hs
  have K0 := hid ((Kept.refl rb w).alloc (.cells #[.pointer (some ⟨rb, 0, none⟩)] 218))
  clear h hz hE hx hs hO
  unfold rdV
  go_enter Tryz.func101, Tryz.ntmps101
  go_wp2_with fail
  refine (HO.out _ rb s H ns st x n1 s1 HX.out HP.out HZ.out hr).mono ?_
  rintro e w1 ⟨k1, (⟨v1, H1, m1, rfl, p1, z1, e1, r1⟩ | ⟨hb, b, rfl, hrf⟩)⟩
  case inr =>
    have e4 := HY.out
    rw [if_neg (by rw [isS_bad hb]; decide)] at e4
    cases e4
    unfold refusal
    go_wp2
    exact ⟨rfl, K0.out.trans k1, Or.inr ⟨hb, b, rfl, hrf⟩⟩
  case inl =>
  obtain ⟨t1, b1, ht1, rfl, hb1⟩ := r1.val z1
  have bx1 : w1.cell? ⟨w.heap.size, 0, none⟩ = some (.pointer (some ⟨rb, 0, none⟩)) := by
    rw [kept_cell k1 (by simp) (by omega)]
    simp [go_sem]
  have hw1 : w.heap.size < w1.heap.size := by have := k1.size; simp at this; omega
  have hr1 : H1 rb = none := by rw [e1.2 rb (by simp; omega)]; exact hr
  have P1 := hid p1
  have K1 := hid (K0.out.trans k1)
  have Z1 := hid z1
  have E1 := hid (e1.from (n := w.heap.size) (by simp))
  have R1 := hid r1
  clear p1 k1 z1 e1 r1 hb1 ht1
  go_wp2_with fail
  refine (skips_p tyKw tyKw_ok _ rb s T s1 kArrow P1.out (Or.inr (by decide))).mono ?_
  rintro e w2 ⟨rfl, p2, k2⟩
  have bx2 : w2.cell? ⟨w.heap.size, 0, none⟩ = some (.pointer (some ⟨rb, 0, none⟩)) := by
    rw [kept_cell k2 hw1 (by omega)]
    exact bx1
  have hw2 : w1.heap.size ≤ w2.heap.size := k2.size
  have P2 := hid p2
  have K2 := hid (K1.out.trans k2)
  have Z2 := hid (Z1.out.kept k2 hr1)
  clear p2 k2 bx1
  cases hi : isS T s1 kArrow with
  | false =>
    have p2 := P2.out
    rw [take_no hi] at p2
    have P2' := hid p2
    have e4 := HY.out
    rw [if_neg (by rw [hi]; decide)] at e4
    cases e4
    clear hi p2
    go_wp2
    go_ret
    exact ⟨K2.out, Or.inl ⟨_, H1, m1, rfl, P2'.out, Z2.out, E1.out, R1.out⟩⟩
  | true =>
    have p2 := P2.out
    rw [take_yes hi] at p2
    have P2' := hid p2
    have e4 := HY.out
    rw [if_pos hi] at e4
    cases hey : arrS T n n1 s1.up with
    | none => rw [hey] at e4; cases e4
    | some q =>
    obtain ⟨y, n2, s2⟩ := q
    rw [hey] at e4
    cases e4
    have HEY := hid hey
    clear hi p2 hey
    go_wp2_with fail
    refine (HE.out _ rb s H1 n1 _ y _ _ HEY.out P2'.out Z2.out hr1).mono ?_
    rintro e w3 ⟨k3, (⟨v2, H3, m2, rfl, p3, z3, e3, r3⟩ | ⟨hb, b, rfl, hrf⟩)⟩
    case inr =>
      unfold refusal
      go_wp2
      exact ⟨rfl, K2.out.trans k3, Or.inr ⟨hb, b, rfl, hrf⟩⟩
    case inl =>
    obtain ⟨t2, b2, ht2, rfl, hb2⟩ := r3.val z3
    have hw3 : w2.heap.size ≤ w3.heap.size := k3.size
    have P3 := hid p3
    have K3 := hid (K2.out.trans k3)
    have Z3 := hid z3
    have E3 := hid (e3.from (n := w.heap.size) (by omega))
    have R3 := hid r3
    clear p3 k3 z3 e3 r3 hb2 ht2 bx2
    go_wp2
    go_ret
    obtain ⟨H7, z7, x7, h7⟩ := q_new Z3.out #[(.iface t1 (.pointer (some ⟨b1, 0, none⟩))), (.iface t2 (.pointer (some ⟨b2, 0, none⟩)))] 272
    have pre := arr_pre _ _ _ _ _ _ HEY.out
    refine ⟨K3.out.alloc _, Or.inl ⟨_, H7, max m1 m2 + 1, rfl, P3.out.alloc _, z7, (E1.out.trans E3.out (Nat.le_refl _)).trans x7 (by omega), w3.heap.size, Or.inr (Or.inr (Or.inr (Or.inr ⟨rfl, x, y, (.iface t1 (.pointer (some ⟨b1, 0, none⟩))), (.iface t2 (.pointer (some ⟨b2, 0, none⟩))), rfl, rfl, h7, ?_, ?_⟩)))⟩⟩
    · exact (QRep.ext x7 _ _ _ (QRep.ext E3.out _ _ _ (QRep.wide pre _ _ _ R1.out))).le (by omega)
    · exact (QRep.ext x7 _ _ _ R3.out).le (by omega)
end Go.Proofs.YtfangljlgfcdpaaGreatDoor

/-
  OUR OWN TEXT. The program's reader of types: one.
-/
namespace Go.Proofs.YtfangljlgfcdpaaGreatDoor
open Go.RowKit

theorem need_same {T : List Tok} {st : St} {x y : List UInt8} (hx : isS T st x = false) (hy : isS T st y = false) : needS T st x = needS T st y := by
  have hx' : ¬ isS T st x = true := by rw [hx]; decide
  have hy' : ¬ isS T st y = true := by rw [hy]; decide
  simp only [needS, if_neg hx', if_neg hy']

set_option maxRecDepth 100000 in
set_option maxHeartbeats 4000000 in
theorem one_q (T : List Tok) (n : Nat) (hE : WHQ T n) : ONQ T n := by
  intro w rb s H ns st t ns' st' hs h hz hr
  have hlt := h.lt
  have hss := h.size
  have hneg := h.neg
  have hsl : s.data.toList.length = s.size := by rw [Array.length_toList]; rfl
  have HP := hid (h.alloc (.cells #[.pointer (some ⟨rb, 0, none⟩)] 218))
  have HZ := hid (hz.alloc (.cells #[.pointer (some ⟨rb, 0, none⟩)] 218))
  have HE := hid hE
  have HS := hid hs
  have K0 := hid ((Kept.refl rb w).alloc (.cells #[.pointer (some ⟨rb, 0, none⟩)] 218))
  clear h hz hE hs
  unfold rdV
  go_enter Tryz.func132, Tryz.ntmps132
  go_wp2_with fail
  refine (skips_p tyKw tyKw_ok _ rb s T st kInt HP.out (Or.inl (by decide))).mono ?_
  rintro e w1 ⟨rfl, p1, k1⟩
  have bx1 : w1.cell? ⟨w.heap.size, 0, none⟩ = some (.pointer (some ⟨rb, 0, none⟩)) := by
    rw [kept_cell k1 (by simp) (by omega)]
    simp [go_sem]
  have hw1 : w.heap.size < w1.heap.size := by have := k1.size; simp at this; omega
  have P1 := hid p1
  have K1 := hid (K0.out.trans k1)
  have Z1 := hid (HZ.out.kept k1 hr)
  clear p1 k1
  cases hi : isS T st kInt with
  | true =>
    have p := P1.out
    rw [take_yes hi] at p
    have P := hid p
    have e4 := HS.out
    unfold oneS at e4
    rw [if_pos hi] at e4
    cases e4
    clear hi p
    go_wp2
    go_ret
    obtain ⟨H7, z7, x7, h7⟩ := q_new Z1.out #[.string (B kInt)] 276
    exact ⟨K1.out.alloc _, Or.inl ⟨_, H7, 1, rfl, P.out.alloc _, z7, x7.from (by omega), w1.heap.size, Or.inr (Or.inl ⟨Or.inl rfl, rfl, rfl, h7⟩)⟩⟩
  | false =>
  have HI0 := hid hi
  have p := P1.out
  rw [take_no hi] at p
  have P1' := hid p
  clear hi p P1
  go_wp2_with fail
  refine (skips_p tyKw tyKw_ok _ rb s T st kBool P1'.out (Or.inl (by decide))).mono ?_
  rintro e w2 ⟨rfl, p2, k2⟩
  have bx2 : w2.cell? ⟨w.heap.size, 0, none⟩ = some (.pointer (some ⟨rb, 0, none⟩)) := by
    rw [kept_cell k2 (by omega) (by omega)]
    exact bx1
  have hw2 : w1.heap.size ≤ w2.heap.size := k2.size
  have P2 := hid p2
  have K2 := hid (K1.out.trans k2)
  have Z2 := hid (Z1.out.kept k2 hr)
  clear p2 k2 bx1
  cases hi : isS T st kBool with
  | true =>
    have p := P2.out
    rw [take_yes hi] at p
    have P := hid p
    have e4 := HS.out
    unfold oneS at e4
    rw [if_neg (by rw [HI0.out]; decide), if_pos hi] at e4
    cases e4
    clear hi p
    go_wp2
    go_ret
    obtain ⟨H7, z7, x7, h7⟩ := q_new Z2.out #[.string (B kBool)] 276
    exact ⟨K2.out.alloc _, Or.inl ⟨_, H7, 1, rfl, P.out.alloc _, z7, x7.from (by omega), w2.heap.size, Or.inr (Or.inl ⟨Or.inr rfl, rfl, rfl, h7⟩)⟩⟩
  | false =>
  have HI1 := hid hi
  have p := P2.out
  rw [take_no hi] at p
  clear hi P2
  obtain ⟨J, hat, hrd⟩ := p.place
  have ha := asked tyKw tyKw_ok s.data.toList J hat.1
  have P2' := hid p
  have hlt2 := p.lt
  clear p
  have hnm := ha.name
  rw [← hat.tk] at hnm
  have hwd : ∀ x, x ∈ tyKw → (nxT s.data.toList J = x ↔ (tk T st.k).is = x) := fun x hx => by rw [hat.tk]; exact ha.word x hx
  have hnokw : nxT s.data.toList J ∉ tyKw := fun hx => by
    have e := (hwd _ hx).1 rfl
    have hx' := hx
    simp only [tyKw, List.mem_cons, List.not_mem_nil, or_false] at hx'
    rcases hx' with e2 | e2
    · have := HI0.out
      rw [e2] at e
      simp [isS, hneg, e] at this
    · have := HI1.out
      rw [e2] at e
      simp [isS, hneg, e] at this
  obtain ⟨c0, c1, c2, c3, f1, f2, f3⟩ := four_p hrd
  clear c0 c2 c3 f1 f2 f3 hwd
  by_cases hk2 : nxK s.data.toList J = 2
  · have hk := hnm.1 ⟨hk2, hnokw⟩
    rw [hk2] at c1
    have hnx := hat.next tyKw_ok (by rw [hk]; decide) (by rw [hk]; decide)
    have hre := ha.real (by rw [← hat.tk, hk]; decide) (by rw [← hat.tk, hk]; decide)
    have HN := hid hnx.1
    have HJ := hid (show J + (nxT s.data.toList J).length ≤ s.size by rw [← hsl]; exact hnx.2)
    have HT := hid (show nxT s.data.toList J = (tk T st.k).s by rw [hat.tk]; exact hre.1)
    have RD := hid hrd
    have e4 := HS.out
    unfold oneS at e4
    have hi3 : isS T st kSq = false := by simp [isS, hk]; intro _; decide
    have hi4 : isS T st kOpen = false := by simp [isS, hk]; intro _; decide
    have hi5 : isS T st kName = true := by simp [isS, hneg, hk]
    rw [if_neg (by rw [HI0.out]; decide), if_neg (by rw [HI1.out]; decide), if_neg (by rw [hi3]; decide), if_neg (by rw [hi4]; decide), need_yes hi5, take_yes hi5] at e4
    cases e4
    clear hat hrd ha hk hnx hre hi3 hi4 hi5 hk2 hnm hnokw
    go_wp2_with (go_at_call 161; refine (take_p _ rb s J hss RD.out HJ.out).mono ?_; rintro e wT ⟨rfl, rT, kT⟩; have hwT : w2.heap.size ≤ wT.heap.size := kT.size; have RT := hid rT; have KT := hid kT; clear rT kT)
    go_ret
    obtain ⟨g1, g2, g3⟩ := num_get ns (tk T st.k).s
    obtain ⟨H7, z7, x7, h7⟩ := q_new (Z2.out.kept KT.out hr) #[.string (B (nxT s.data.toList J))] 287
    rw [HT.out] at h7 z7
    rw [HT.out]
    exact ⟨(K2.out.trans KT.out).alloc _, Or.inl ⟨_, H7, 1, rfl, PSt.alloc (st := st.up) ⟨hneg, ⟨_, HN.out, RT.out⟩, hss⟩ _, z7, x7.from (by omega), wT.heap.size, Or.inl ⟨rfl, rfl, ⟨g1, by rw [g2, ← HT.out]; have := HJ.out; omega⟩, rfl, by rw [g2]; exact h7⟩⟩⟩
  · have hq : (((nxK s.data.toList J : Nat) : Int) == 2) = false := by simp; omega
    have hi5 : isS T st kName = false := by
      have : ¬ (tk T st.k).is = kName := fun e => hk2 (hnm.2 e).1
      simp [isS, this]
    have HI5 := hid hi5
    clear hi5 hnm hnokw hk2 hrd ha hat
    generalize nxK s.data.toList J = kk at *
    go_wp2_with fail
    refine (skips_p tyKw tyKw_ok _ rb s T st kSq P2'.out (Or.inr (by decide))).mono ?_
    rintro e w3 ⟨rfl, p3, k3⟩
    have bx3 : w3.cell? ⟨w.heap.size, 0, none⟩ = some (.pointer (some ⟨rb, 0, none⟩)) := by
      rw [kept_cell k3 (by omega) (by omega)]
      exact bx2
    have hw3 : w2.heap.size ≤ w3.heap.size := k3.size
    have P3 := hid p3
    have K3 := hid (K2.out.trans k3)
    have Z3 := hid (Z2.out.kept k3 hr)
    clear p3 k3 bx2 c1 hq
    cases hi : isS T st kSq with
    | true =>
      have p := P3.out
      rw [take_yes hi] at p
      have P := hid p
      have e4 := HS.out
      unfold oneS at e4
      rw [if_neg (by rw [HI0.out]; decide), if_neg (by rw [HI1.out]; decide), if_pos hi] at e4
      cases hx : arrS T n ns st.up with
      | none => rw [hx] at e4; cases e4
      | some q =>
      obtain ⟨x, n1, s1⟩ := q
      rw [hx] at e4
      cases e4
      have HX := hid hx
      clear hi p hx
      go_wp2_with fail
      refine (HE.out _ rb s H ns _ x _ s1 HX.out P.out Z3.out hr).mono ?_
      rintro e w4 ⟨k4, (⟨v1, H1, m1, rfl, p4, z4, e4, r4⟩ | ⟨hb, b, rfl, hrf⟩)⟩
      case inr =>
        unfold refusal
        go_wp2
        exact ⟨rfl, K3.out.trans k4, Or.inr ⟨by rw [need_bad hb]; exact hb, b, rfl, by rw [need_bad hb]; exact hrf⟩⟩
      case inl =>
      obtain ⟨t1, b1, ht1, rfl, hb1⟩ := r4.val z4
      have bx4 : w4.cell? ⟨w.heap.size, 0, none⟩ = some (.pointer (some ⟨rb, 0, none⟩)) := by
        rw [kept_cell k4 (by omega) (by omega)]
        exact bx3
      have hw4 : w3.heap.size ≤ w4.heap.size := k4.size
      have hr4 : H1 rb = none := by rw [e4.2 rb (by omega)]; exact hr
      have P4 := hid p4
      have K4 := hid (K3.out.trans k4)
      have Z4 := hid z4
      have E4 := hid (e4.from (n := w.heap.size) (by omega))
      have R4 := hid r4
      clear p4 k4 z4 e4 r4 hb1 ht1 bx3
      go_wp2_with fail
      refine (must_p tyKw tyKw_ok _ rb s T s1 kQs P4.out (Or.inr (by decide))).mono ?_
      rintro e w5 ⟨k5, (⟨rfl, p5⟩ | ⟨hb, b, rfl, hrf⟩)⟩
      case inr =>
        unfold refusal
        go_wp2
        exact ⟨rfl, K4.out.trans k5, Or.inr ⟨hb, b, rfl, hrf⟩⟩
      case inl =>
      have hw5 : w4.heap.size ≤ w5.heap.size := k5.size
      have Z5 := hid (Z4.out.kept k5 hr4)
      have P5 := hid p5
      have K5 := hid (K4.out.trans k5)
      clear p5 k5 bx4
      go_wp2
      go_ret
      obtain ⟨H7, z7, x7, h7⟩ := q_new Z5.out #[(.iface t1 (.pointer (some ⟨b1, 0, none⟩)))] 280
      exact ⟨K5.out.alloc _, Or.inl ⟨_, H7, m1 + 1, rfl, P5.out.alloc _, z7, E4.out.trans x7 (by omega), w5.heap.size, Or.inr (Or.inr (Or.inl ⟨rfl, x, (.iface t1 (.pointer (some ⟨b1, 0, none⟩))), rfl, rfl, h7, QRep.ext x7 _ _ _ R4.out⟩))⟩⟩
    | false =>
      have HI3 := hid hi
      have p := P3.out
      rw [take_no hi] at p
      have P := hid p
      clear hi p
      go_wp2_with fail
      refine (must_p tyKw tyKw_ok _ rb s T st kOpen P.out (Or.inr (by decide))).mono ?_
      rintro e w4 ⟨k4, (⟨rfl, p4⟩ | ⟨hb, b, rfl, hrf⟩)⟩
      case inr =>
        have e4 := HS.out
        unfold oneS at e4
        have hi4 : isS T st kOpen = false := by
          cases h : isS T st kOpen with
          | false => rfl
          | true =>
            rw [need_yes h, take_yes h] at hb
            exact absurd hb (by show ¬ 0 ≤ st.bad; omega)
        rw [if_neg (by rw [HI0.out]; decide), if_neg (by rw [HI1.out]; decide), if_neg (by rw [HI3.out]; decide), if_neg (by rw [hi4]; decide), need_same HI5.out hi4] at e4
        cases e4
        unfold refusal
        go_wp2
        exact ⟨rfl, K3.out.trans k4, Or.inr ⟨hb, b, rfl, hrf⟩⟩
      case inl =>
      have hi4 : isS T st kOpen = true := by
        cases h : isS T st kOpen with
        | true => rfl
        | false =>
          have := p4.neg
          rw [need_no hneg h] at this
          exact absurd this (by show ¬ ((tk T st.k).pos : Int) < 0; omega)
      rw [need_yes hi4, take_yes hi4] at p4
      have bx4 : w4.cell? ⟨w.heap.size, 0, none⟩ = some (.pointer (some ⟨rb, 0, none⟩)) := by
        rw [kept_cell k4 (by omega) (by omega)]
        exact bx3
      have hw4 : w3.heap.size ≤ w4.heap.size := k4.size
      have e4 := HS.out
      unfold oneS at e4
      rw [if_neg (by rw [HI0.out]; decide), if_neg (by rw [HI1.out]; decide), if_neg (by rw [HI3.out]; decide), if_pos hi4] at e4
      cases hx : arrS T n ns st.up with
      | none => rw [hx] at e4; cases e4
      | some q =>
      obtain ⟨x, n1, s1⟩ := q
      rw [hx] at e4
      simp only at e4
      have CB := hid (bracketed_q T n HE.out w4 rb s H ns _ x n1 s1 t ns' st' hx e4 p4 (Z3.out.kept k4 hr) hr)
      unfold rdV at CB
      have K4 := hid (K3.out.trans k4)
      clear e4 hx p4 k4 hi4 bx3
      go_wp2_with fail
      refine CB.out.mono ?_
      rintro e w5 ho
      have HO := hid ho
      rcases ho with ⟨_, (⟨v, H', m, rfl, _⟩ | ⟨_, bb, rfl, _⟩)⟩
      · go_wp2
        go_ret
        obtain ⟨k5, ho⟩ := HO.out
        refine ⟨K4.out.trans k5, ?_⟩
        rcases ho with ⟨v, H', m, q1, q2, q3, q4, q5⟩ | ho
        · exact Or.inl ⟨v, H', m, q1, q2, q3, q4.from (by omega), q5⟩
        · exact Or.inr ho
      · unfold refusal at HO ⊢
        go_wp2
        obtain ⟨k5, ho⟩ := HO.out
        refine ⟨rfl, K4.out.trans k5, ?_⟩
        rcases ho with ⟨v, H', m, q1, q2, q3, q4, q5⟩ | ho
        · cases q1
        · exact Or.inr ho

theorem whole_all (T : List Tok) : ∀ n, WHQ T n
  | 0 => fun w rb s H ns st t ns' st' hs => by cases hs
  | n + 1 => whole_q T n (one_q T n (whole_all T n)) (whole_all T n)
end Go.Proofs.YtfangljlgfcdpaaGreatDoor

/-
  OUR OWN TEXT (written by mkqwh.py). The program's reader of types: tokens.Whole at types.
-/
namespace Go.Proofs.YtfangljlgfcdpaaGreatDoor
open Go.RowKit

theorem catch_idleQ (p q : Addr) (w : World) :
    CallsD Tryz.prog 131 #[.pointer (some p), .pointer (some q)] .returning w fun e u' w' => e = .returned (.tuple #[]) ∧ u' = .returning ∧ w' = w := by
  refine callsD_of_wpS Tryz.func131 rfl fun c₀ cs hu => ?_
  apply wpS_seq
  apply wpS_region
  simp [wpOpsS, go_sem, recoverD, hu, Tryz.ntmps131, Exit.thenS]
  refine wpS_of_wp ?_
  go_wp2
  cases c₀
  simp_all [bodyPostS, results, Tryz.results131]

theorem frozen_pastQ {w : World} {b o : Nat} {v : Value} (h : w.cell? ⟨b, o, none⟩ = some v) (hf : w.frozen? ⟨b, o, none⟩ = false) (x : Obj) : (w.alloc x).frozen? ⟨b, o, none⟩ = false := by
  have hl : b < w.heap.size := by
    rcases Nat.lt_or_ge b w.heap.size with h' | h'
    · exact h'
    · simp [World.cell?, Array.getElem?_eq_none h'] at h
  rw [World.frozen?_of_block (a := ⟨b, o, none⟩) (Below.heap_alloc _ _ _ hl)]
  exact hf
theorem assert_refusalQ (v : Value) (w : World) : (Instr.typeAssert (.iface 247 v) 20 247 true).run Tryz.prog w = .ok (.tuple #[v, .bool true]) w := by kernel_rfl

set_option maxRecDepth 100000 in
theorem catch_refusalQ (p q : Nat) (t b : TypeId) (v0 v1 : Value) (w : World) (h0 : w.cell? ⟨p, 0, none⟩ = some v0) (f0 : w.frozen? ⟨p, 0, none⟩ = false) (h1 : w.cell? ⟨q, 0, none⟩ = some v1) (f1 : w.frozen? ⟨q, 0, none⟩ = false) (hpq : p ≠ q) (hpl : p < w.heap.size) (hql : q < w.heap.size) :
    CallsD Tryz.prog 131 #[.pointer (some ⟨p, 0, none⟩), .pointer (some ⟨q, 0, none⟩)] (.panicking [{ v := .iface 247 (.agg #[(.iface t (.pointer (some ⟨b, 0, none⟩)))]), recovered := false }]) w fun e u' w' =>
      e = .returned (.tuple #[]) ∧ u' = .panicking [{ v := .iface 247 (.agg #[(.iface t (.pointer (some ⟨b, 0, none⟩)))]), recovered := true }] ∧ w' = (((w.setCell ⟨p, 0, none⟩ .nilIface).setCell ⟨q, 0, none⟩ (.iface t (.pointer (some ⟨b, 0, none⟩)))).alloc (.cells #[(.iface t (.pointer (some ⟨b, 0, none⟩)))] 247)).drew := by
  have a0 := fun x => cell_past h0 x
  have a1 := fun x => cell_past h1 x
  have g0 := fun x => frozen_pastQ h0 f0 x
  have g1 := fun x => frozen_pastQ h1 f1 x
  have hqp : q ≠ p := fun e => hpq e.symm
  have hp1 : p ≠ w.heap.size := by omega
  have hp2 : w.heap.size ≠ p := by omega
  have hq1 : q ≠ w.heap.size := by omega
  have hq2 : w.heap.size ≠ q := by omega
  refine callsD_of_wpS Tryz.func131 rfl fun c₀ cs hu => ?_
  have e0 : (#[Value.pointer (some ⟨p, 0, none⟩), .pointer (some ⟨q, 0, none⟩)] ++ Array.replicate (Tryz.f131.ntmps - (#[Value.pointer (some ⟨p, 0, none⟩), .pointer (some ⟨q, 0, none⟩)] : Array Value).size) undef) = #[Value.pointer (some ⟨p, 0, none⟩), .pointer (some ⟨q, 0, none⟩), undef, undef, undef, undef, undef, undef, undef, undef, undef, undef, undef, undef, undef] := rfl
  rw [e0]
  clear e0
  apply wpS_seq
  apply wpS_region
  simp [wpOpsS, go_sem, recoverD, hu, Exit.thenS]
  refine wpS_of_wp ?_
  have hta := assert_refusalQ
  go_wp2_with fail
  go_region
  refine ⟨rfl, _, rfl, .tuple #[], ?_, rfl, rfl, rfl⟩
  simp [results, Tryz.results131]

set_option maxRecDepth 100000 in
set_option maxHeartbeats 2000000 in
theorem read1_pQ (T : List Tok) (n : Nat) (w : World) (rb : Nat) (s : ByteArray) (H : Nat → Option Obj) (ns : List (List UInt8)) (st : St) (t : Ty) (ns' : List (List UInt8)) (st' : St) (hs : arrS T n ns st = some (t, ns', st')) (h : PSt tyKw w rb s T st) (hz : Fz H w) (hr : H rb = none) :
    Calls Tryz.prog 100 #[.pointer (some ⟨rb, 0, none⟩)] w fun e w' => TOut w w' rb s T H ns' st' e t := by
  have HC := hid (whole_all T n w rb s H ns st t ns' st' hs h hz hr)
  unfold rdV at HC
  clear hs h hz
  go_enter Tryz.func100, Tryz.ntmps100
  go_wp2_with fail
  refine HC.out.mono ?_
  rintro e w5 ho
  have HO := hid ho
  rcases ho with ⟨_, (⟨v, H', m, rfl, _⟩ | ⟨_, bb, rfl, _⟩)⟩
  · go_wp2
    go_ret
    exact HO.out
  · unfold refusal at HO ⊢
    go_wp2
    exact ⟨rfl, HO.out⟩


/-- What Whole leaves. -/
def WOutQ (w w' : World) (ns : List (List UInt8)) (s2 : St) (e : Ending) (ex : Ty) : Prop :=
  w.grownBy w' none ∧ ((s2.bad < 0 ∧ ∃ v H' m, e = .returned (.tuple #[v, .nilIface]) ∧ Fz H' w' ∧ QRep ns m H' v ex) ∨
    (0 ≤ s2.bad ∧ ∃ b, e = .returned (.tuple #[.nilIface, .iface 118 (.pointer (some ⟨b, 0, none⟩))]) ∧ w'.heap[b]? = some (.cells #[.int .i64 s2.bad] 129 (0, 0))))

/-- What the way out leaves in memory. -/
theorem caughtQ {w2 w'' : World} {N bb : Nat} {x : Int} {tx te ts : TypeId} (hw : w'' = (((w2.setCell ⟨N, 0, none⟩ .nilIface).setCell ⟨N + 1, 0, none⟩ (.iface ts (.pointer (some ⟨bb, 0, none⟩)))).alloc (.cells #[.iface ts (.pointer (some ⟨bb, 0, none⟩))] 247)).drew)
    {v0 v1 : Value} (h0 : w2.heap[N]? = some (.cells #[v0] tx (0, 0))) (h1 : w2.heap[N + 1]? = some (.cells #[v1] te (0, 0))) (hb : w2.heap[bb]? = some (.cells #[.int .i64 x] 129 (0, 0))) (hx : tx ≠ 129 := by decide) (he : te ≠ 129 := by decide) :
    w''.cell? ⟨N, 0, none⟩ = some .nilIface ∧ w''.cell? ⟨N + 1, 0, none⟩ = some (.iface ts (.pointer (some ⟨bb, 0, none⟩))) ∧ w''.heap[bb]? = some (.cells #[.int .i64 x] 129 (0, 0)) ∧
      (w2.heap.size ≤ w''.heap.size ∧ w''.os = w2.os ∧ w''.tape = w2.tape ∧ w''.output = w2.output ∧ ∀ k, k < N → w''.heap[k]? = w2.heap[k]?) := by
  have n0 : bb ≠ N := fun e => by rw [e, h0] at hb; simp at hb; exact hx hb.2
  have n1 : bb ≠ N + 1 := fun e => by rw [e, h1] at hb; simp at hb; exact he hb.2
  have l0 := lt_of_block h0
  have l1 := lt_of_block h1
  have lb := lt_of_block hb
  obtain ⟨w3, hw3⟩ : ∃ w3, w3 = (w2.setCell ⟨N, 0, none⟩ .nilIface).setCell ⟨N + 1, 0, none⟩ (.iface ts (.pointer (some ⟨bb, 0, none⟩))) := ⟨_, rfl⟩
  rw [← hw3] at hw
  have s3 : w3.heap.size = w2.heap.size := by rw [hw3]; simp [World.setCell]
  have old : ∀ k, k ≠ N → k ≠ N + 1 → w3.heap[k]? = w2.heap[k]? := fun k e1 e2 => by
    rw [hw3, Below.heap_setCell _ _ _ _ (by show k ≠ N + 1; exact e2), Below.heap_setCell _ _ _ _ (by show k ≠ N; exact e1)]
  have b0 : w3.heap[N]? = some (.cells #[.nilIface] tx (0, 0)) := by
    rw [hw3, Below.heap_setCell _ _ _ _ (by show N ≠ N + 1; omega)]
    simp [World.setCell, Array.getElem?_modify, h0]
  have b1 : w3.heap[N + 1]? = some (.cells #[.iface ts (.pointer (some ⟨bb, 0, none⟩))] te (0, 0)) := by
    have h1' : (w2.setCell ⟨N, 0, none⟩ .nilIface).heap[N + 1]? = some (.cells #[v1] te (0, 0)) := by
      rw [Below.heap_setCell _ _ _ _ (by show N + 1 ≠ N; omega)]
      exact h1
    rw [hw3]
    generalize w2.setCell ⟨N, 0, none⟩ .nilIface = w4 at h1'
    simp [World.setCell, Array.getElem?_modify, h1']
  have up : ∀ k, k < w3.heap.size → w''.heap[k]? = w3.heap[k]? := fun k hk => by rw [hw]; exact Below.heap_alloc _ _ _ hk
  refine ⟨?_, ?_, ?_, ?_, by rw [hw, hw3]; rfl, by rw [hw, hw3]; rfl, by rw [hw, hw3]; rfl, fun k hk => ?_⟩
  · simp [World.cell?, up N (by omega), b0]
  · simp [World.cell?, up (N + 1) (by omega), b1]
  · rw [up bb (by omega), old bb n0 n1]; exact hb
  · rw [hw]; simp; omega
  · rw [up k (by omega), old k (by omega) (by omega)]
theorem storedQ {w2 w'' : World} {N : Nat} {v u v0 v1 : Value} {tx te : TypeId} (hw : w'' = ((w2.setCell ⟨N, 0, none⟩ v).setCell ⟨N, 0, none⟩ v).setCell ⟨N + 1, 0, none⟩ u) (h0 : w2.heap[N]? = some (.cells #[v0] tx (0, 0))) (h1 : w2.heap[N + 1]? = some (.cells #[v1] te (0, 0))) :
    w''.cell? ⟨N, 0, none⟩ = some v ∧ w''.cell? ⟨N + 1, 0, none⟩ = some u ∧ (w2.heap.size ≤ w''.heap.size ∧ w''.os = w2.os ∧ w''.tape = w2.tape ∧ w''.output = w2.output ∧ ∀ k, k < N → w''.heap[k]? = w2.heap[k]?) := by
  have b0 : w''.heap[N]? = some (.cells #[v] tx (0, 0)) := by
    rw [hw, Below.heap_setCell _ _ _ _ (by show N ≠ N + 1; omega)]
    simp [World.setCell, Array.getElem?_modify, h0]
  have b1 : w''.heap[N + 1]? = some (.cells #[u] te (0, 0)) := by
    have h1' : ((w2.setCell ⟨N, 0, none⟩ v).setCell ⟨N, 0, none⟩ v).heap[N + 1]? = some (.cells #[v1] te (0, 0)) := by
      rw [Below.heap_setCell _ _ _ _ (by show N + 1 ≠ N; omega), Below.heap_setCell _ _ _ _ (by show N + 1 ≠ N; omega)]
      exact h1
    rw [hw]
    generalize (w2.setCell ⟨N, 0, none⟩ v).setCell ⟨N, 0, none⟩ v = w4 at h1'
    simp [World.setCell, Array.getElem?_modify, h1']
  refine ⟨by simp [World.cell?, b0], by simp [World.cell?, b1], by rw [hw]; simp [World.setCell], by rw [hw]; rfl, by rw [hw]; rfl, by rw [hw]; rfl, fun k hk => ?_⟩
  rw [hw, Below.heap_setCell _ _ _ _ (by show k ≠ N + 1; omega), Below.heap_setCell _ _ _ _ (by show k ≠ N; omega), Below.heap_setCell _ _ _ _ (by show k ≠ N; omega)]
theorem whole_grownQ {w w1 w2 w'' : World} {o : Obj} (h1 : w.grownBy w1 none) (hl : w.heap.size ≤ w1.heap.size) (h2 : Kept w1.heap.size (w1.alloc o) w2) (h3 : w2.heap.size ≤ w''.heap.size ∧ w''.os = w2.os ∧ w''.tape = w2.tape ∧ w''.output = w2.output ∧ ∀ k, k < w.heap.size → w''.heap[k]? = w2.heap[k]?) : w.grownBy w'' none := by
  obtain ⟨q1, q2, q3, q4, q5⟩ := h3
  refine ⟨q2.trans (h2.os.trans h1.os), q3.trans (h2.tape.trans h1.tape), q4.trans (h2.output.trans h1.output), ?_, fun k hk _ => ?_⟩
  · have := h2.size
    simp at this
    omega
  · rw [q5 k hk, h2.block k (by simp; omega) (by simp; omega), Below.heap_alloc _ _ _ (by omega), h1.block k hk (by simp)]

set_option maxRecDepth 100000 in
set_option maxHeartbeats 4000000 in
theorem whole_pQ (s : ByteArray) (hs : s.size ≤ 300) (w : World) (n : Nat) (ex : Ty) (ns : List (List UInt8)) (s1 : St) (hx : arrS (toksOf tyKw s) n [] ⟨0, -1⟩ = some (ex, ns, s1)) :
    Calls Tryz.prog 99 #[.string s, .func (.func 100) #[] #[]] w fun e w' => WOutQ w w' ns (needS (toksOf tyKw s) s1 kEnd) e ex := by
  have hmf : ∀ (fn : Fn) (first cap : Array Value) (w : World), (Instr.makeFunc fn first cap).run Tryz.prog w = .ok (.func fn first cap) w := fun _ _ _ _ => rfl
  have hsl : s.data.toList.length = s.size := by rw [Array.length_toList]; rfl
  obtain ⟨T, hT⟩ : ∃ T, T = toksOf tyKw s := ⟨_, rfl⟩
  have hat : At tyKw s.data.toList T 0 (upto isB s.data.toList 0) := by
    rw [hT]
    have := At.start tyKw s.data.toList
    rw [hsl] at this
    exact this
  rw [← hT] at hx ⊢
  have hz300 : ((s.size : Nat) : Int) ≤ 300 := by omega
  have HX := hid hx
  have HAT := hid hat
  clear hx hat hT
  go_enter_defers Tryz.func99, Tryz.ntmps99
  go_wp2_with fail
  refine (next_any s 0 (by omega) hs _).mono ?_
  rintro e w1 ⟨rfl, g1⟩
  dsimp only [tokV]
  have ra1 : w1.heap[w.heap.size]? = some (.cells #[.nilIface] 140 (0, 0)) := by
    rw [g1.block _ (by simp; omega) (by simp), Below.heap_alloc _ _ _ (by simp)]
    exact heap_alloc_new _ _
  have rb1 : w1.heap[w.heap.size + 1]? = some (.cells #[.nilIface] 64 (0, 0)) := by
    rw [g1.block _ (by simp) (by simp)]
    exact heap_alloc_at _ _ _ (by simp)
  have hw1 := lt_of_block rb1
  have G1 := hid (((World.grownBy_alloc w (.cells #[.nilIface] 140) none).trans (World.grownBy_alloc _ (.cells #[.nilIface] 64) none)).trans g1)
  obtain ⟨J, hJ⟩ : ∃ J, J = upto isB s.data.toList 0 := ⟨_, rfl⟩
  rw [← hJ] at HAT ⊢
  clear g1 hJ
  have PS : Hid (PSt tyKw (w1.alloc (.cells #[.string s, .int .i64 ((nxK s.data.toList J : Nat) : Int), .string (B (nxT s.data.toList J)), .int .i64 (J : Int)] 253)) w1.heap.size s T ⟨0, -1⟩) :=
    ⟨by decide, ⟨J, HAT.out, heap_alloc_new _ _⟩, hs⟩
  go_wp2_with fail
  refine (read1_pQ T n _ w1.heap.size s (fun _ => none) [] ⟨0, -1⟩ ex ns s1 HX.out PS.out (fz_none _) rfl).mono ?_
  rintro e w2 ⟨k2, (⟨v, H2, m, rfl, p2, z2, e2, r2⟩ | ⟨hb, bb, rfl, hrf⟩)⟩
  case inr =>
    have ra2 : w2.heap[w.heap.size]? = some (.cells #[.nilIface] 140 (0, 0)) := by
      rw [k2.block _ (by simp; omega) (by simp; omega), Below.heap_alloc _ _ _ (by omega)]
      exact ra1
    have rb2 : w2.heap[w.heap.size + 1]? = some (.cells #[.nilIface] 64 (0, 0)) := by
      rw [k2.block _ (by simp; omega) (by simp; omega), Below.heap_alloc _ _ _ (by omega)]
      exact rb1
    have K2 := hid k2
    have HB := hid hb
    have HRF := hid hrf
    clear k2 hb hrf ra1 rb1
    unfold refusal
    go_wp2
    refine leaves_cons (f := 131) (args := #[.pointer (some ⟨w.heap.size, 0, none⟩), .pointer (some ⟨w.heap.size + 1, 0, none⟩)]) (by simp) (by simp [go_sem]) ?_
    refine (catch_refusalQ w.heap.size (w.heap.size + 1) 118 bb .nilIface .nilIface w2 (by simp [World.cell?, ra2]) (by simp [World.frozen?, ra2]) (by simp [World.cell?, rb2]) (by simp [World.frozen?, rb2]) (by omega) (lt_of_block ra2) (lt_of_block rb2)).mono ?_
    rintro e u' w'' ⟨rfl, rfl, hw''⟩
    obtain ⟨q0, q1, q2, q3⟩ := caughtQ hw'' ra2 rb2 HRF.out
    refine ⟨.tuple #[.nilIface, .iface 118 (.pointer (some ⟨bb, 0, none⟩))], ?_, ?_⟩
    · simp [results, Tryz.results99, go_sem, q0, q1]
    · have e5 := need_bad (T := T) (x := kEnd) HB.out
      refine ⟨whole_grownQ G1.out (by omega) K2.out q3, Or.inr ⟨by rw [e5]; exact HB.out, bb, rfl, by rw [e5]; exact q2⟩⟩
  case inl =>
    obtain ⟨t1, b1, ht1, rfl, hb1⟩ := r2.val z2
    have ra2 : w2.heap[w.heap.size]? = some (.cells #[.nilIface] 140 (0, 0)) := by
      rw [k2.block _ (by simp; omega) (by simp; omega), Below.heap_alloc _ _ _ (by omega)]
      exact ra1
    have rb2 : w2.heap[w.heap.size + 1]? = some (.cells #[.nilIface] 64 (0, 0)) := by
      rw [k2.block _ (by simp; omega) (by simp; omega), Below.heap_alloc _ _ _ (by omega)]
      exact rb1
    have la2 := lt_of_block ra2
    have lb2 := lt_of_block rb2
    have a0 : w2.cell? ⟨w.heap.size, 0, none⟩ = some .nilIface := by simp [World.cell?, ra2]
    have a1 : w2.cell? ⟨w.heap.size + 1, 0, none⟩ = some .nilIface := by simp [World.cell?, rb2]
    have u0 : w2.frozen? ⟨w.heap.size, 0, none⟩ = false := by simp [World.frozen?, ra2]
    have u1 : w2.frozen? ⟨w.heap.size + 1, 0, none⟩ = false := by simp [World.frozen?, rb2]
    have hkk := p2.klt
    have hn2 := p2.neg
    obtain ⟨J2, hat2, hrd2⟩ := p2.place
    have hrl := lt_of_block hrd2
    have hend := (asked tyKw tyKw_ok s.data.toList J2 hat2.1).theEnd
    have hpos := (asked tyKw tyKw_ok s.data.toList J2 hat2.1).pos
    rw [← hat2.tk] at hend hpos
    obtain ⟨c0, c1, c2, c3, f1, f2, f3⟩ := four_p hrd2
    have hne : w1.heap.size ≠ w.heap.size := by omega
    have hne2 : w.heap.size ≠ w1.heap.size := by omega
    have K2 := hid k2
    have Z2 := hid z2
    have E2 := hid e2
    have R2 := hid r2
    have RD := hid hrd2
    have RA := hid ra2
    have RB := hid rb2
    have HEND := hid hend
    have HPOS := hid hpos
    have HN2 := hid hn2
    clear k2 p2 z2 e2 r2 ra1 rb1 ra2 rb2 hb1 hat2 hrd2 hend hpos c0 c2 c3 f1 f2 f3 hn2
    by_cases hk : nxK s.data.toList J2 = 0
    · rw [hk] at c1
      have HK := hid hk
      clear hk
      go_wp2
      refine leaves_cons (f := 131) (args := #[.pointer (some ⟨w.heap.size, 0, none⟩), .pointer (some ⟨w.heap.size + 1, 0, none⟩)]) (by simp) (by simp [go_sem]) ?_
      refine (catch_idleQ ⟨w.heap.size, 0, none⟩ ⟨w.heap.size + 1, 0, none⟩ _).mono ?_
      rintro e u' w'' ⟨rfl, rfl, hw''⟩
      obtain ⟨q0, q1, q3⟩ := storedQ hw'' RA.out RB.out
      refine ⟨.tuple #[(.iface t1 (.pointer (some ⟨b1, 0, none⟩))), .nilIface], ?_, ?_⟩
      · simp [results, Tryz.results99, go_sem, q0, q1]
      · have hh0 : H2 w.heap.size = none := E2.out.2 _ (by simp; omega)
        have hh1 : H2 (w.heap.size + 1) = none := E2.out.2 _ (by simp; omega)
        have e5 : (needS T s1 kEnd).bad < 0 := by
          have hi : isS T s1 kEnd = true := by simp [isS, HN2.out, HEND.out.1 HK.out]
          rw [need_yes hi, take_yes hi]
          exact HN2.out
        refine ⟨whole_grownQ G1.out (by omega) K2.out q3, Or.inl ⟨e5, _, H2, m, rfl, ?_, R2.out⟩⟩
        rw [hw'']
        exact ((Z2.out.set hh0 _ _).set hh0 _ _).set hh1 _ _
    · have hq : (((nxK s.data.toList J2 : Nat) : Int) == 0) = false := by simp; omega
      have HK := hid hk
      clear hk
      generalize nxK s.data.toList J2 = kk at *
      go_wp2_with fail
      have rd3 : Rdr (w2.setCell ⟨w.heap.size, 0, none⟩ (.iface t1 (.pointer (some ⟨b1, 0, none⟩)))) w1.heap.size s J2 := by
        unfold Rdr
        rw [Below.heap_setCell _ _ _ _ (by show w1.heap.size ≠ w.heap.size; omega)]
        exact RD.out
      refine (refuse_p _ w1.heap.size s J2 rd3).mono ?_
      rintro e w4 ⟨⟨bb, rfl, hbb⟩, g4⟩
      have ra4 : w4.heap[w.heap.size]? = some (.cells #[(.iface t1 (.pointer (some ⟨b1, 0, none⟩)))] 140 (0, 0)) := by
        rw [g4.block _ (by simp [World.setCell]; omega) (by simp)]
        simp [World.setCell, Array.getElem?_modify, RA.out]
      have rb4 : w4.heap[w.heap.size + 1]? = some (.cells #[.nilIface] 64 (0, 0)) := by
        rw [g4.block _ (by simp [World.setCell]; omega) (by simp), Below.heap_setCell _ _ _ _ (by show w.heap.size + 1 ≠ w.heap.size; omega)]
        exact RB.out
      have HB := hid hbb
      have G4 := hid g4
      clear hbb g4 rd3 a0 a1 u0 u1
      unfold refusal
      go_wp2
      refine leaves_cons (f := 131) (args := #[.pointer (some ⟨w.heap.size, 0, none⟩), .pointer (some ⟨w.heap.size + 1, 0, none⟩)]) (by simp) (by simp [go_sem]) ?_
      refine (catch_refusalQ w.heap.size (w.heap.size + 1) 118 bb (.iface t1 (.pointer (some ⟨b1, 0, none⟩))) .nilIface w4 (by simp [World.cell?, ra4]) (by simp [World.frozen?, ra4]) (by simp [World.cell?, rb4]) (by simp [World.frozen?, rb4]) (by omega) (lt_of_block ra4) (lt_of_block rb4)).mono ?_
      rintro e u' w'' ⟨rfl, rfl, hw''⟩
      obtain ⟨q0, q1, q2, q3⟩ := caughtQ hw'' ra4 rb4 HB.out
      refine ⟨.tuple #[.nilIface, .iface 118 (.pointer (some ⟨bb, 0, none⟩))], ?_, ?_⟩
      · simp [results, Tryz.results99, go_sem, q0, q1]
      · have hi : isS T s1 kEnd = false := by
          have : ¬ (tk T s1.k).is = kEnd := fun e => HK.out (HEND.out.2 e)
          simp [isS, this]
        have e5 := need_no HN2.out hi
        obtain ⟨r1, r2, r3, r4, r5⟩ := q3
        have q3' : w2.heap.size ≤ w''.heap.size ∧ w''.os = w2.os ∧ w''.tape = w2.tape ∧ w''.output = w2.output ∧ ∀ k, k < w.heap.size → w''.heap[k]? = w2.heap[k]? := by
          have hs4 := G4.out.size
          refine ⟨by simp [World.setCell] at hs4; omega, r2.trans G4.out.os, r3.trans G4.out.tape, r4.trans G4.out.output, fun k hk => ?_⟩
          rw [r5 k hk, G4.out.block k (by simp [World.setCell]; omega) (by simp), Below.heap_setCell _ _ _ _ (by show k ≠ w.heap.size; omega)]
        refine ⟨whole_grownQ G1.out (by omega) K2.out q3', Or.inr ⟨by rw [e5]; simp, bb, rfl, ?_⟩⟩
        rw [e5]
        show w''.heap[bb]? = some (.cells #[.int .i64 ((tk T s1.k).pos : Int)] _ (0, 0))
        rw [HPOS.out]
        exact q2
end Go.Proofs.YtfangljlgfcdpaaGreatDoor

/-
  OUR OWN TEXT. The program's names of variables: types.nthName.
-/
namespace Go.Proofs.YtfangljlgfcdpaaGreatDoor
open Go.RowKit

set_option maxRecDepth 100000 in
set_option maxHeartbeats 4000000 in
theorem itoa_q (w : World) : ∀ (d : Nat), d < 10 → Calls Tryz.prog 173 #[.int .i64 (d : Int)] w fun e w' => e = .returned (.string (B [UInt8.ofNat (48 + d)])) ∧ w' = w
  | 0, _ => by go_enter Tryz.func173, Tryz.ntmps173; go_wp2; go_ret; exact ⟨rfl, rfl⟩
  | 1, _ => by go_enter Tryz.func173, Tryz.ntmps173; go_wp2; go_ret; exact ⟨rfl, rfl⟩
  | 2, _ => by go_enter Tryz.func173, Tryz.ntmps173; go_wp2; go_ret; exact ⟨rfl, rfl⟩
  | 3, _ => by go_enter Tryz.func173, Tryz.ntmps173; go_wp2; go_ret; exact ⟨rfl, rfl⟩
  | 4, _ => by go_enter Tryz.func173, Tryz.ntmps173; go_wp2; go_ret; exact ⟨rfl, rfl⟩
  | 5, _ => by go_enter Tryz.func173, Tryz.ntmps173; go_wp2; go_ret; exact ⟨rfl, rfl⟩
  | 6, _ => by go_enter Tryz.func173, Tryz.ntmps173; go_wp2; go_ret; exact ⟨rfl, rfl⟩
  | 7, _ => by go_enter Tryz.func173, Tryz.ntmps173; go_wp2; go_ret; exact ⟨rfl, rfl⟩
  | 8, _ => by go_enter Tryz.func173, Tryz.ntmps173; go_wp2; go_ret; exact ⟨rfl, rfl⟩
  | 9, _ => by go_enter Tryz.func173, Tryz.ntmps173; go_wp2; go_ret; exact ⟨rfl, rfl⟩
  | n + 10, h => by omega

theorem encode_one (r : Nat) (hr : r < 128) : Utf8.encode (r : Int) = B [UInt8.ofNat r] := by
  have hv : Utf8.valid (r : Int) = true := by
    unfold Utf8.valid
    simp
    omega
  unfold Utf8.encode
  simp only [hv, if_true, Int.toNat_natCast]
  rw [if_pos hr]
  rfl

set_option maxRecDepth 100000 in
set_option maxHeartbeats 1000000 in
theorem nth_q (w : World) (n : Nat) (hn : n < 260) :
    Calls Tryz.prog 136 #[.int .i64 (n : Int)] w fun e w' => e = .returned (.string (B (letterS n))) ∧ w' = w := by
  have hr : n % 26 < 26 := Nat.mod_lt _ (by omega)
  have he := encode_one (97 + n % 26) (by omega)
  have hc : ((97 + n % 26 : Nat) : Int) = 97 + (n : Int) % 26 := by omega
  rw [hc] at he
  obtain ⟨b, hb⟩ : ∃ b, b = UInt8.ofNat (97 + n % 26) := ⟨_, rfl⟩
  rw [← hb] at he
  have hm : (n : Int).tmod 26 = (n : Int) % 26 := Int.tmod_eq_emod_of_nonneg (by omega)
  have hq : (n : Int).tdiv 26 = ((n / 26 : Nat) : Int) := by rw [Int.tdiv_eq_ediv_of_nonneg (by omega)]; omega
  have hr0 : 0 ≤ (n : Int) % 26 := by omega
  have hr1 : (n : Int) % 26 < 26 := by omega
  by_cases h25 : 25 < n
  · have e : letterS n = [b] ++ [UInt8.ofNat (48 + n / 26)] := by unfold letterS; rw [if_pos h25, hb]
    rw [e]
    have h25' : ¬ (n : Int) < 26 := by omega
    have HF := hid (itoa_q w (n / 26) (by omega))
    generalize UInt8.ofNat (48 + n / 26) = b2 at *
    clear hb hc e hr
    have sz1 : (B [b]).size = 1 := rfl
    have sz2 : (B [b2]).size = 1 := rfl
    go_enter Tryz.func136, Tryz.ntmps136
    go_wp2_with (go_at_call 173; refine HF.out.mono ?_; rintro e w1 ⟨rfl, rfl⟩)
    go_ret
    refine ⟨?_, rfl⟩
    show Ending.returned (.string (B [b] ++ B [b2])) = _
    rw [append_B]
    rfl
  · have e : letterS n = [b] := by unfold letterS; rw [if_neg h25, hb]; rfl
    rw [e]
    have h25' : (n : Int) < 26 := by omega
    clear hb hc e hr
    go_enter Tryz.func136, Tryz.ntmps136
    go_wp2
    go_ret
    exact ⟨rfl, rfl⟩
end Go.Proofs.YtfangljlgfcdpaaGreatDoor

/-
  OUR OWN TEXT. The numbers of variables' names, in a map of the program's.
-/
namespace Go.Proofs.YtfangljlgfcdpaaGreatDoor
open Go.RowKit Go.Maps Go.WideMaps

theorem keyLaw : Keyed Tryz.prog 9 := string_keyed Tryz.underlying9
theorem zeroInt (w : World) : (zeroValue 3).run Tryz.prog w = .ok (.int .i64 0) w := by kernel_rfl

/-- Block mb is a map from each name of the list to its place in it. -/
def MP (w : World) (mb : Nat) (L : List (List UInt8)) : Prop :=
  ∃ D : DataW Unit, w.ownsMap Tryz.prog 9 (plainElem Tryz.prog 3) mb L.length D ∧ Maps.size D = L.length ∧ (∀ k : List UInt8, Maps.has D (.string k) = decide (k ∈ L)) ∧ ∀ k, k ∈ L → D.atKey (.string k) (.lit (.int .i64 0)) = .lit (.int .i64 (L.idxOf k : Int))
theorem MP.new (w : World) : MP (w.alloc (.map #[] 0)) w.heap.size [] :=
  ⟨.map [], World.ownsMap_made _ _ _ _, rfl, fun k => rfl, fun k h => by cases h⟩
theorem MP.kept {w w' : World} {mb : Nat} {L : List (List UInt8)} {r : Option Nat} (h : MP w mb L) (hg : w.grownBy w' r) (hne : some mb ≠ r) : MP w' mb L := by
  obtain ⟨D, h1, h2⟩ := h
  exact ⟨D, h1.kept hg hne, h2⟩
theorem MP.lt {w : World} {mb : Nat} {L : List (List UInt8)} (h : MP w mb L) : mb < w.heap.size := by
  obtain ⟨D, h1, _⟩ := h
  exact h1.lt
theorem MP.isMap {w : World} {mb : Nat} {L : List (List UInt8)} (h : MP w mb L) : ∃ es clock, w.heap[mb]? = some (.map es clock) := by
  obtain ⟨D, ⟨es, clock, hb, _⟩, _⟩ := h
  exact ⟨es, clock, hb⟩
theorem keyB {k : List UInt8} (hk : k.length ≤ 300) : keyOf Tryz.prog 9 (.string (B k)) = some (.string k) := by
  have := keyOf_string_mk (P := Tryz.prog) (k := 9) Tryz.underlying9 (s := B k) (by rw [size_B]; unfold maxLen; omega)
  rw [this]
  rfl
theorem MP.look_in {w : World} {mb : Nat} {L : List (List UInt8)} (h : MP w mb L) {k : List UInt8} (hk : k.length ≤ 300) (hm : k ∈ L) :
    (Instr.lookup 284 (.map (some mb)) (.string (B k)) true).run Tryz.prog w = .ok (.tuple #[.int .i64 (L.idxOf k : Int), .bool true]) w := by
  obtain ⟨D, h1, h2, h3, h4⟩ := h
  obtain ⟨v, ps, hr, hv⟩ := h1.look_ok keyLaw Tryz.underlying284 (zeroInt w) (plainElem_int Tryz.underlying3 (by decide)) (keyB hk)
  obtain ⟨c, rfl, hc, _⟩ := plainElem_int_inv Tryz.underlying3 hv
  rw [hr, h3 k, decide_eq_true hm]
  rw [h4 k hm] at hc
  have := congrArg Prod.fst hc
  simp at this
  rw [this]
theorem MP.look_out {w : World} {mb : Nat} {L : List (List UInt8)} (h : MP w mb L) {k : List UInt8} (hk : k.length ≤ 300) (hm : k ∉ L) :
    (Instr.lookup 284 (.map (some mb)) (.string (B k)) true).run Tryz.prog w = .ok (.tuple #[.int .i64 0, .bool false]) w := by
  obtain ⟨D, h1, h2, h3, h4⟩ := h
  obtain ⟨v, ps, hr, hv⟩ := h1.look_ok keyLaw Tryz.underlying284 (zeroInt w) (plainElem_int Tryz.underlying3 (by decide)) (keyB hk)
  obtain ⟨c, rfl, hc, _⟩ := plainElem_int_inv Tryz.underlying3 hv
  have hf : Maps.has D (.string k) = false := by rw [h3 k, decide_eq_false hm]
  rw [hr, hf]
  rw [atKey_of_not_has hf] at hc
  have := congrArg Prod.fst hc
  simp at this
  rw [this]
theorem MP.len {w : World} {mb : Nat} {L : List (List UInt8)} (h : MP w mb L) (ty : TypeId) : (Builtin.len_ #[284] ty #[.map (some mb)]).run Tryz.prog w = .ok (.int .i64 (L.length : Int)) w := by
  obtain ⟨D, h1, h2, h3, h4⟩ := h
  rw [h1.len Tryz.underlying284 ty, h2]
theorem MP.store {w : World} {mb : Nat} {L : List (List UInt8)} (h : MP w mb L) {k : List UInt8} (hk : k.length ≤ 300) (hm : k ∉ L) (hL : L.length ≤ 1000) :
    ∃ w', (Instr.mapUpdate 284 (.map (some mb)) (.string (B k)) (.int .i64 (L.length : Int))).run Tryz.prog w = .ok () w' ∧ MP w' mb (L ++ [k]) ∧ w.grownBy w' (some mb) := by
  obtain ⟨D, h1, h2, h3, h4⟩ := h
  have td := h1.tidy keyLaw
  obtain ⟨w', r1, r2, r3⟩ := h1.update keyLaw Tryz.underlying284 (by unfold maxLen; omega) (keyB hk) (plainElem_int Tryz.underlying3 (a := (L.length : Int)) (WalkArith.wf_i64 (n := (L.length : Int)) (by omega)))
  have hf : Maps.has D (.string k) = false := by rw [h3 k, decide_eq_false hm]
  refine ⟨w', r1, ⟨_, by rw [List.length_append]; exact r2, ?_, fun k' => ?_, fun k' hk' => ?_⟩, r3⟩
  · rw [size_put td, hf, h2]
    simp
  · by_cases e : k' = k
    · subst e
      rw [has_put_same (k := .string k') td.isMap (by trivial)]
      simp
    · rw [has_put_other (by simpa using e), h3 k']
      simp [e]
  · by_cases e : k' = k
    · subst e
      rw [atKey_put_same (k := .string k') td.isMap (by trivial)]
      rw [List.idxOf_append, if_neg hm]
      simp
    · rw [atKey_put_other (by simpa using e)]
      have hin : k' ∈ L := by
        rcases List.mem_append.1 hk' with h | h
        · exact h
        · exact absurd (List.mem_singleton.1 h) e
      rw [h4 k' hin, List.idxOf_append, if_pos hin]
end Go.Proofs.YtfangljlgfcdpaaGreatDoor

/-
  OUR OWN TEXT. The program's texts of types: the names that inOrder gives.
-/
namespace Go.Proofs.YtfangljlgfcdpaaGreatDoor
open Go.RowKit

/-- What inOrder's function keeps: a variable that holds the map. -/
structure IO1 (w : World) (cb mb : Nat) (L : List (List UInt8)) : Prop where
  blk : w.heap[cb]? = some (.cells #[.map (some mb)] 284 (0, 0))
  mp : MP w mb L
theorem IO1.ne {w : World} {cb mb : Nat} {L : List (List UInt8)} (h : IO1 w cb mb L) : cb ≠ mb := fun e => by
  obtain ⟨es, cl, hb⟩ := h.mp.isMap
  have := h.blk
  rw [e, hb] at this
  cases this
theorem IO1.kept {w w' : World} {cb mb : Nat} {L : List (List UInt8)} (h : IO1 w cb mb L) (hg : w.grownBy w' none) : IO1 w' cb mb L :=
  ⟨by rw [hg.block cb (lt_of_block h.blk) (by simp)]; exact h.blk, h.mp.kept hg (by simp)⟩
def askS (L : List (List UInt8)) (nm : List UInt8) : List (List UInt8) := if nm ∈ L then L else L ++ [nm]

set_option maxRecDepth 100000 in
set_option maxHeartbeats 2000000 in
theorem ask_q (w : World) (vb cb mb : Nat) (nm : List UInt8) (L : List (List UInt8)) (hv : w.cell? ⟨vb, 0, none⟩ = some (.string (B nm))) (hnm : nm.length ≤ 300) (h : IO1 w cb mb L) (hL : L.length ≤ 200) :
    Calls Tryz.prog 135 #[.pointer (some ⟨vb, 0, none⟩), .pointer (some ⟨cb, 0, none⟩)] w fun e w' => e = .returned (.string (B (letterS ((askS L nm).idxOf nm)))) ∧ IO1 w' cb mb (askS L nm) ∧ w.grownBy w' (some mb) := by
  have c0 : w.cell? ⟨cb, 0, none⟩ = some (.map (some mb)) := by simp [World.cell?, h.blk]
  have H := hid h
  by_cases hm : nm ∈ L
  · have e : askS L nm = L := by unfold askS; rw [if_pos hm]
    rw [e]
    have hlk := h.mp.look_in hnm hm
    have hlk2 := MP.look_in (w := w.drew) h.mp hnm hm
    have hix : L.idxOf nm < L.length := List.idxOf_lt_length_of_mem hm
    obtain ⟨ix, hixe⟩ : ∃ ix, ix = L.idxOf nm := ⟨_, rfl⟩
    rw [← hixe] at hlk hlk2 hix ⊢
    have CN := hid (nth_q w.drew ix (by omega))
    clear h hm e hixe
    go_enter Tryz.func135, Tryz.ntmps135
    go_wp2_with fail
    go_region
    go_wp2_with (go_at_call 136; refine CN.out.mono ?_; rintro e w1 ⟨rfl, rfl⟩)
    go_ret
    exact ⟨rfl, ⟨H.out.blk, H.out.mp⟩, rfl, rfl, rfl, Nat.le_refl _, fun _ _ _ => rfl⟩
  · have e : askS L nm = L ++ [nm] := by unfold askS; rw [if_neg hm]
    rw [e]
    have hlk := h.mp.look_out hnm hm
    have hlk2 := MP.look_out (w := w.drew) h.mp hnm hm
    have hln := fun ty => MP.len (w := w.drew) h.mp ty
    obtain ⟨w5, hst, hmp, hg5⟩ := MP.store (w := w.drew.drew) h.mp hnm hm (by omega)
    have hix : (L ++ [nm]).idxOf nm = L.length := by rw [List.idxOf_append, if_neg hm]; simp
    rw [hix]
    have CN := hid (nth_q w5 L.length (by omega))
    have Q := hid (And.intro hmp hg5)
    clear h hm e hix hmp hg5
    go_enter Tryz.func135, Tryz.ntmps135
    go_wp2_with fail
    go_region
    go_wp2_with fail
    go_region
    go_wp2_with (go_at_call 136; refine CN.out.mono ?_; rintro e w1 ⟨rfl, rfl⟩)
    go_ret
    obtain ⟨hmp, hg5⟩ := Q.out
    have hne := H.out.ne
    have hcl := lt_of_block H.out.blk
    exact ⟨rfl, ⟨by rw [hg5.block cb hcl (by simp; exact hne)]; exact H.out.blk, hmp⟩, hg5.os, hg5.tape, hg5.output, hg5.size, hg5.block⟩

/-- A function that names variables as inOrder's does. -/
def askV (cb : Nat) : Value := .func (.func 135) #[] #[.pointer (some ⟨cb, 0, none⟩)]
/-- What inOrder leaves. -/
def INO (w w' : World) (e : Ending) : Prop := ∃ cb mb, e = .returned (askV cb) ∧ IO1 w' cb mb [] ∧ w.grownBy w' none ∧ w.heap.size ≤ mb

set_option maxRecDepth 100000 in
theorem inOrder_q (w : World) : Calls Tryz.prog 104 #[] w fun e w' => INO w w' e := by
  have hmm := @run_makeMap Tryz.prog
  have hmf : ∀ (fn : Fn) (first cap : Array Value) (w : World), (Instr.makeFunc fn first cap).run Tryz.prog w = .ok (.func fn first cap) w := fun _ _ _ _ => rfl
  go_enter Tryz.func104, Tryz.ntmps104
  go_wp2
  go_ret
  refine ⟨w.heap.size + 1, w.heap.size, rfl, ⟨heap_alloc_at _ _ _ (by simp), (MP.new w).kept (World.grownBy_alloc _ _ none) (by simp)⟩, (World.grownBy_alloc _ _ _).trans (World.grownBy_alloc _ _ _), Nat.le_refl _⟩
end Go.Proofs.YtfangljlgfcdpaaGreatDoor

/-
  OUR OWN TEXT (written by mkqtx.py). The program's texts of types: textBy, fromBy with the names that inOrder gives; OneText.
-/
namespace Go.Proofs.YtfangljlgfcdpaaGreatDoor
open Go.RowKit

theorem q_Basic_Basic (b : Nat) (w : World) : (Instr.typeAssert (.iface 274 (.pointer (some ⟨b, 0, none⟩))) 140 274 true).run Tryz.prog w = .ok (.tuple #[.pointer (some ⟨b, 0, none⟩), .bool true]) w := by kernel_rfl
theorem q_Basic_Var (b : Nat) (w : World) : (Instr.typeAssert (.iface 274 (.pointer (some ⟨b, 0, none⟩))) 140 277 true).run Tryz.prog w = .ok (.tuple #[.pointer none, .bool false]) w := by kernel_rfl
theorem q_Basic_List (b : Nat) (w : World) : (Instr.typeAssert (.iface 274 (.pointer (some ⟨b, 0, none⟩))) 140 278 true).run Tryz.prog w = .ok (.tuple #[.pointer none, .bool false]) w := by kernel_rfl
theorem q_Basic_Pair (b : Nat) (w : World) : (Instr.typeAssert (.iface 274 (.pointer (some ⟨b, 0, none⟩))) 140 281 true).run Tryz.prog w = .ok (.tuple #[.pointer none, .bool false]) w := by kernel_rfl
theorem q_Basic_Arrow (b : Nat) (w : World) : (Instr.typeAssert (.iface 274 (.pointer (some ⟨b, 0, none⟩))) 140 270 true).run Tryz.prog w = .ok (.tuple #[.pointer none, .bool false]) w := by kernel_rfl
theorem q_Var_Basic (b : Nat) (w : World) : (Instr.typeAssert (.iface 277 (.pointer (some ⟨b, 0, none⟩))) 140 274 true).run Tryz.prog w = .ok (.tuple #[.pointer none, .bool false]) w := by kernel_rfl
theorem q_Var_Var (b : Nat) (w : World) : (Instr.typeAssert (.iface 277 (.pointer (some ⟨b, 0, none⟩))) 140 277 true).run Tryz.prog w = .ok (.tuple #[.pointer (some ⟨b, 0, none⟩), .bool true]) w := by kernel_rfl
theorem q_Var_List (b : Nat) (w : World) : (Instr.typeAssert (.iface 277 (.pointer (some ⟨b, 0, none⟩))) 140 278 true).run Tryz.prog w = .ok (.tuple #[.pointer none, .bool false]) w := by kernel_rfl
theorem q_Var_Pair (b : Nat) (w : World) : (Instr.typeAssert (.iface 277 (.pointer (some ⟨b, 0, none⟩))) 140 281 true).run Tryz.prog w = .ok (.tuple #[.pointer none, .bool false]) w := by kernel_rfl
theorem q_Var_Arrow (b : Nat) (w : World) : (Instr.typeAssert (.iface 277 (.pointer (some ⟨b, 0, none⟩))) 140 270 true).run Tryz.prog w = .ok (.tuple #[.pointer none, .bool false]) w := by kernel_rfl
theorem q_List_Basic (b : Nat) (w : World) : (Instr.typeAssert (.iface 278 (.pointer (some ⟨b, 0, none⟩))) 140 274 true).run Tryz.prog w = .ok (.tuple #[.pointer none, .bool false]) w := by kernel_rfl
theorem q_List_Var (b : Nat) (w : World) : (Instr.typeAssert (.iface 278 (.pointer (some ⟨b, 0, none⟩))) 140 277 true).run Tryz.prog w = .ok (.tuple #[.pointer none, .bool false]) w := by kernel_rfl
theorem q_List_List (b : Nat) (w : World) : (Instr.typeAssert (.iface 278 (.pointer (some ⟨b, 0, none⟩))) 140 278 true).run Tryz.prog w = .ok (.tuple #[.pointer (some ⟨b, 0, none⟩), .bool true]) w := by kernel_rfl
theorem q_List_Pair (b : Nat) (w : World) : (Instr.typeAssert (.iface 278 (.pointer (some ⟨b, 0, none⟩))) 140 281 true).run Tryz.prog w = .ok (.tuple #[.pointer none, .bool false]) w := by kernel_rfl
theorem q_List_Arrow (b : Nat) (w : World) : (Instr.typeAssert (.iface 278 (.pointer (some ⟨b, 0, none⟩))) 140 270 true).run Tryz.prog w = .ok (.tuple #[.pointer none, .bool false]) w := by kernel_rfl
theorem q_Pair_Basic (b : Nat) (w : World) : (Instr.typeAssert (.iface 281 (.pointer (some ⟨b, 0, none⟩))) 140 274 true).run Tryz.prog w = .ok (.tuple #[.pointer none, .bool false]) w := by kernel_rfl
theorem q_Pair_Var (b : Nat) (w : World) : (Instr.typeAssert (.iface 281 (.pointer (some ⟨b, 0, none⟩))) 140 277 true).run Tryz.prog w = .ok (.tuple #[.pointer none, .bool false]) w := by kernel_rfl
theorem q_Pair_List (b : Nat) (w : World) : (Instr.typeAssert (.iface 281 (.pointer (some ⟨b, 0, none⟩))) 140 278 true).run Tryz.prog w = .ok (.tuple #[.pointer none, .bool false]) w := by kernel_rfl
theorem q_Pair_Pair (b : Nat) (w : World) : (Instr.typeAssert (.iface 281 (.pointer (some ⟨b, 0, none⟩))) 140 281 true).run Tryz.prog w = .ok (.tuple #[.pointer (some ⟨b, 0, none⟩), .bool true]) w := by kernel_rfl
theorem q_Pair_Arrow (b : Nat) (w : World) : (Instr.typeAssert (.iface 281 (.pointer (some ⟨b, 0, none⟩))) 140 270 true).run Tryz.prog w = .ok (.tuple #[.pointer none, .bool false]) w := by kernel_rfl
theorem q_Arrow_Basic (b : Nat) (w : World) : (Instr.typeAssert (.iface 270 (.pointer (some ⟨b, 0, none⟩))) 140 274 true).run Tryz.prog w = .ok (.tuple #[.pointer none, .bool false]) w := by kernel_rfl
theorem q_Arrow_Var (b : Nat) (w : World) : (Instr.typeAssert (.iface 270 (.pointer (some ⟨b, 0, none⟩))) 140 277 true).run Tryz.prog w = .ok (.tuple #[.pointer none, .bool false]) w := by kernel_rfl
theorem q_Arrow_List (b : Nat) (w : World) : (Instr.typeAssert (.iface 270 (.pointer (some ⟨b, 0, none⟩))) 140 278 true).run Tryz.prog w = .ok (.tuple #[.pointer none, .bool false]) w := by kernel_rfl
theorem q_Arrow_Pair (b : Nat) (w : World) : (Instr.typeAssert (.iface 270 (.pointer (some ⟨b, 0, none⟩))) 140 281 true).run Tryz.prog w = .ok (.tuple #[.pointer none, .bool false]) w := by kernel_rfl
theorem q_Arrow_Arrow (b : Nat) (w : World) : (Instr.typeAssert (.iface 270 (.pointer (some ⟨b, 0, none⟩))) 140 270 true).run Tryz.prog w = .ok (.tuple #[.pointer (some ⟨b, 0, none⟩), .bool true]) w := by kernel_rfl

theorem getD_inj {ns : List (List UInt8)} (hd : ns.Nodup) {i j : Nat} (hi : i < ns.length) (hj : j < ns.length) (h : ns.getD i [] = ns.getD j []) : i = j := by
  have e1 : ns.getD i [] = ns[i] := by simp [List.getD, hi]
  have e2 : ns.getD j [] = ns[j] := by simp [List.getD, hj]
  rw [e1, e2] at h
  have a := hd.idxOf_getElem i hi
  have b := hd.idxOf_getElem j hj
  rw [h] at a
  omega
theorem mem_nm {ns : List (List UInt8)} (hd : ns.Nodup) {v : Nat} (hv : v < ns.length) : ∀ (l : List Nat), (∀ x, x ∈ l → x < ns.length) → (ns.getD v [] ∈ l.map (fun i => ns.getD i []) ↔ v ∈ l) := by
  intro l hl
  constructor
  · intro h
    obtain ⟨x, hx, e⟩ := List.mem_map.1 h
    rw [← getD_inj hd (hl x hx) hv e]
    exact hx
  · intro h
    exact List.mem_map.2 ⟨v, h, rfl⟩
theorem idx_nm {ns : List (List UInt8)} (hd : ns.Nodup) {v : Nat} (hv : v < ns.length) : ∀ (l : List Nat), (∀ x, x ∈ l → x < ns.length) → (l.map (fun i => ns.getD i [])).idxOf (ns.getD v []) = l.idxOf v
  | [], _ => rfl
  | a :: l, hl => by
    rw [List.map_cons, List.idxOf_cons, List.idxOf_cons]
    have ih := idx_nm hd hv l (fun x hx => hl x (List.mem_cons_of_mem _ hx))
    by_cases e : a = v
    · simp [e]
    · have h1 : (a == v) = false := beq_eq_false_iff_ne.2 e
      have h2 : (ns.getD a [] == ns.getD v []) = false := beq_eq_false_iff_ne.2 fun h => e (getD_inj hd (hl a (by simp)) hv h)
      rw [h1, h2, ih]
theorem ask_num {ns : List (List UInt8)} (hd : ns.Nodup) {v : Nat} (hv : v < ns.length) (l : List Nat) (hl : ∀ x, x ∈ l → x < ns.length) :
    askS (l.map (fun i => ns.getD i [])) (ns.getD v []) = (if v ∈ l then l else l ++ [v]).map (fun i => ns.getD i []) := by
  unfold askS
  by_cases h : v ∈ l
  · rw [if_pos ((mem_nm hd hv l hl).2 h), if_pos h]
  · rw [if_neg (fun e => h ((mem_nm hd hv l hl).1 e)), if_neg h]
    simp

/-- What textBy leaves. -/
def TBO (w w' : World) (e : Ending) (cb mb : Nat) (ns : List (List UInt8)) (t : List UInt8) (l : List Nat) : Prop :=
  e = .returned (.string (B t)) ∧ IO1 w' cb mb (l.map fun i => ns.getD i []) ∧ w.grownBy w' (some mb)
/-- The contract of textBy at a part: H: the blocks of types. -/
def TB (f : FuncId) (H : Nat → Option Obj) (cb mb : Nat) (ns : List (List UInt8)) (v : Value) (l : List Nat) (t : List UInt8) (l' : List Nat) : Prop :=
  ∀ w, Fz H w → IO1 w cb mb (l.map fun i => ns.getD i []) → Calls Tryz.prog f #[v, askV cb] w fun e w' => TBO w w' e cb mb ns t l'
theorem Fz.turned {H : Nat → Option Obj} {w w' : World} {mb : Nat} (h : Fz H w) (hg : w.grownBy w' (some mb)) (hm : H mb = Option.none) : Fz H w' := fun k o e => by
  rw [hg.block k (h.lt e) (fun e' => by cases e'; rw [hm] at e; cases e)]
  exact h k o e

set_option maxRecDepth 100000 in
theorem tb_basic (H : Nat → Option Obj) (cb mb : Nat) (ns : List (List UInt8)) (b : Nat) (t : List UInt8) (l : List Nat) (hb : H b = some (.cells #[.string (B t)] 276 (0, 0))) :
    TB 103 H cb mb ns (.iface 274 (.pointer (some ⟨b, 0, none⟩))) l t l := by
  intro w hz h
  have c0 : w.cell? ⟨b, 0, none⟩ = some (.string (B t)) := by simp [World.cell?, hz _ _ hb]
  have qBasic := q_Basic_Basic b
  have HI := hid h
  clear h hz hb
  unfold askV
  go_enter Tryz.func103, Tryz.ntmps103
  go_wp2
  go_ret
  exact ⟨rfl, HI.out, World.grownBy.refl _ _⟩
set_option maxRecDepth 100000 in
theorem tb_var (H : Nat → Option Obj) (cb mb : Nat) (ns : List (List UInt8)) (b v : Nat) (l : List Nat) (hb : H b = some (.cells #[.string (B (ns.getD v []))] 287 (0, 0))) (hd : ns.Nodup) (hv : v < ns.length) (h300 : (ns.getD v []).length ≤ 300) (hl : ∀ x, x ∈ l → x < ns.length) (hl2 : l.length ≤ 200) :
    TB 103 H cb mb ns (.iface 277 (.pointer (some ⟨b, 0, none⟩))) l (letterS ((if v ∈ l then l else l ++ [v]).idxOf v)) (if v ∈ l then l else l ++ [v]) := by
  intro w hz h
  have c0 : w.cell? ⟨b, 0, none⟩ = some (.string (B (ns.getD v []))) := by simp [World.cell?, hz _ _ hb]
  have qBasic := q_Var_Basic b
  have qVar := q_Var_Var b
  have ca := ask_q w b cb mb (ns.getD v []) _ c0 h300 h (by simpa using hl2)
  have hl' : ∀ x, x ∈ (if v ∈ l then l else l ++ [v]) → x < ns.length := by
    split
    · exact hl
    · intro x hx
      rcases List.mem_append.1 hx with hx | hx
      · exact hl x hx
      · rw [List.mem_singleton.1 hx]; exact hv
  rw [ask_num hd hv l hl, idx_nm hd hv _ hl'] at ca
  have CA := hid ca
  clear ca h hz hb hl' hl hd
  generalize (if v ∈ l then l else l ++ [v]) = l' at *
  generalize letterS (l'.idxOf v) = tx at *
  generalize ns.getD v [] = nm at *
  unfold askV
  go_enter Tryz.func103, Tryz.ntmps103
  go_wp2_with (go_at_call 135; refine CA.out.mono ?_; rintro e w1 ⟨rfl, i1, g1⟩; have I1 := hid i1; have G1 := hid g1; clear i1 g1)
  go_ret
  exact ⟨rfl, I1.out, G1.out⟩
set_option maxRecDepth 100000 in
theorem tb_list (H : Nat → Option Obj) (cb mb : Nat) (ns : List (List UInt8)) (b : Nat) (t1 b1 : Nat) (l : List Nat) (x : List UInt8) (l1 : List Nat) (hb : H b = some (.cells #[(.iface t1 (.pointer (some ⟨b1, 0, none⟩)))] 280 (0, 0))) (h1 : TB 103 H cb mb ns (.iface t1 (.pointer (some ⟨b1, 0, none⟩))) l x l1) (hx : x.length ≤ 1000000) :
    TB 103 H cb mb ns (.iface 278 (.pointer (some ⟨b, 0, none⟩))) l ([91] ++ x ++ [93]) l1 := by
  intro w hz h
  have c0 : w.cell? ⟨b, 0, none⟩ = some (.iface t1 (.pointer (some ⟨b1, 0, none⟩))) := by simp [World.cell?, hz _ _ hb]
  have qBasic := q_List_Basic b
  have qVar := q_List_Var b
  have qList := q_List_List b
  have CA := hid (h1 w hz h)
  have sx : (B x).size ≤ 1000000 := by rw [size_B]; exact hx
  clear h hz hb h1
  unfold askV at CA ⊢
  go_enter Tryz.func103, Tryz.ntmps103
  go_wp2_with (go_at_call 103; refine CA.out.mono ?_; rintro e w1 ⟨rfl, i1, g1⟩; have I1 := hid i1; have G1 := hid g1; clear i1 g1)
  go_ret
  refine ⟨?_, I1.out, G1.out⟩
  show Ending.returned (.string (B [91] ++ B x ++ B [93])) = _
  rw [append_B, append_B]
  (try simp)
set_option maxRecDepth 100000 in
theorem tb_pair (H : Nat → Option Obj) (cb mb : Nat) (ns : List (List UInt8)) (b : Nat) (t1 b1 t2 b2 : Nat) (l : List Nat) (x : List UInt8) (l1 : List Nat) (y : List UInt8) (l2 : List Nat) (hb : H b = some (.cells #[(.iface t1 (.pointer (some ⟨b1, 0, none⟩))), (.iface t2 (.pointer (some ⟨b2, 0, none⟩)))] 283 (0, 0))) (hm : H mb = none) (h1 : TB 103 H cb mb ns (.iface t1 (.pointer (some ⟨b1, 0, none⟩))) l x l1) (h2 : TB 103 H cb mb ns (.iface t2 (.pointer (some ⟨b2, 0, none⟩))) l1 y l2) (hx : x.length ≤ 1000000) (hy : y.length ≤ 1000000) :
    TB 103 H cb mb ns (.iface 281 (.pointer (some ⟨b, 0, none⟩))) l ([40] ++ x ++ [44, 32] ++ y ++ [41]) l2 := by
  intro w hz h
  have c0 : w.cell? ⟨b, 0, none⟩ = some (.iface t1 (.pointer (some ⟨b1, 0, none⟩))) := by simp [World.cell?, hz _ _ hb]
  have qBasic := q_Pair_Basic b
  have qVar := q_Pair_Var b
  have qList := q_Pair_List b
  have qPair := q_Pair_Pair b
  have CA := hid (h1 w hz h)
  have H2 := hid h2
  have HZ := hid hz
  have HB := hid hb
  have sx : (B x).size ≤ 1000000 := by rw [size_B]; exact hx
  have sy : (B y).size ≤ 1000000 := by rw [size_B]; exact hy
  clear h hz h1 h2 hb
  unfold askV at CA ⊢
  go_enter Tryz.func103, Tryz.ntmps103
  go_wp2_with fail
  refine CA.out.mono ?_
  rintro e w1 ⟨rfl, i1, g1⟩
  have hz1 := HZ.out.turned g1 hm
  have c1 : w1.cell? ⟨b, 1, none⟩ = some (.iface t2 (.pointer (some ⟨b2, 0, none⟩))) := by simp [World.cell?, hz1 _ _ HB.out]
  have CB := hid (H2.out w1 hz1 i1)
  unfold askV at CB
  have G1 := hid g1
  clear i1 g1 hz1 CA
  go_wp2_with fail
  refine CB.out.mono ?_
  rintro e w2 ⟨rfl, i2, g2⟩
  have I2 := hid i2
  have G2 := hid g2
  clear i2 g2 CB
  go_wp2
  go_ret
  refine ⟨?_, I2.out, G1.out.trans G2.out⟩
  show Ending.returned (.string (B [40] ++ B x ++ B [44, 32] ++ B y ++ B [41])) = _
  rw [append_B, append_B, append_B, append_B]
  (try simp)
set_option maxRecDepth 100000 in
theorem tb_arrow (H : Nat → Option Obj) (cb mb : Nat) (ns : List (List UInt8)) (b : Nat) (t1 b1 t2 b2 : Nat) (l : List Nat) (x : List UInt8) (l1 : List Nat) (y : List UInt8) (l2 : List Nat) (hb : H b = some (.cells #[(.iface t1 (.pointer (some ⟨b1, 0, none⟩))), (.iface t2 (.pointer (some ⟨b2, 0, none⟩)))] 272 (0, 0))) (hm : H mb = none) (h1 : TB 134 H cb mb ns (.iface t1 (.pointer (some ⟨b1, 0, none⟩))) l x l1) (h2 : TB 103 H cb mb ns (.iface t2 (.pointer (some ⟨b2, 0, none⟩))) l1 y l2) (hx : x.length ≤ 1000000) (hy : y.length ≤ 1000000) :
    TB 103 H cb mb ns (.iface 270 (.pointer (some ⟨b, 0, none⟩))) l (x ++ [32, 45, 62, 32] ++ y) l2 := by
  intro w hz h
  have c0 : w.cell? ⟨b, 0, none⟩ = some (.iface t1 (.pointer (some ⟨b1, 0, none⟩))) := by simp [World.cell?, hz _ _ hb]
  have qBasic := q_Arrow_Basic b
  have qVar := q_Arrow_Var b
  have qList := q_Arrow_List b
  have qPair := q_Arrow_Pair b
  have qArrow := q_Arrow_Arrow b
  have CA := hid (h1 w hz h)
  have H2 := hid h2
  have HZ := hid hz
  have HB := hid hb
  have sx : (B x).size ≤ 1000000 := by rw [size_B]; exact hx
  have sy : (B y).size ≤ 1000000 := by rw [size_B]; exact hy
  clear h hz h1 h2 hb
  unfold askV at CA ⊢
  go_enter Tryz.func103, Tryz.ntmps103
  go_wp2_with fail
  refine CA.out.mono ?_
  rintro e w1 ⟨rfl, i1, g1⟩
  have hz1 := HZ.out.turned g1 hm
  have c1 : w1.cell? ⟨b, 1, none⟩ = some (.iface t2 (.pointer (some ⟨b2, 0, none⟩))) := by simp [World.cell?, hz1 _ _ HB.out]
  have CB := hid (H2.out w1 hz1 i1)
  unfold askV at CB
  have G1 := hid g1
  clear i1 g1 hz1 CA
  go_wp2_with fail
  refine CB.out.mono ?_
  rintro e w2 ⟨rfl, i2, g2⟩
  have I2 := hid i2
  have G2 := hid g2
  clear i2 g2 CB
  go_wp2
  go_ret
  refine ⟨?_, I2.out, G1.out.trans G2.out⟩
  show Ending.returned (.string (B x ++ B [32, 45, 62, 32] ++ B y)) = _
  rw [append_B, append_B]
  (try simp)
set_option maxRecDepth 100000 in
theorem fb_basic (H : Nat → Option Obj) (cb mb : Nat) (ns : List (List UInt8)) (b : Nat) (l : List Nat) (x : List UInt8) (l1 : List Nat) (h1 : TB 103 H cb mb ns (.iface 274 (.pointer (some ⟨b, 0, none⟩))) l x l1) (hx : x.length ≤ 1000000) :
    TB 134 H cb mb ns (.iface 274 (.pointer (some ⟨b, 0, none⟩))) l (x) l1 := by
  intro w hz h
  have qa := q_Basic_Arrow b
  have CA := hid (h1 w hz h)
  have sx : (B x).size ≤ 1000000 := by rw [size_B]; exact hx
  clear h hz h1
  unfold askV at CA ⊢
  go_enter Tryz.func134, Tryz.ntmps134
  go_wp2_with (go_at_call 103; refine CA.out.mono ?_; rintro e w1 ⟨rfl, i1, g1⟩; have I1 := hid i1; have G1 := hid g1; clear i1 g1)
  go_ret
  refine ⟨?_, I1.out, G1.out⟩
  rfl
set_option maxRecDepth 100000 in
theorem fb_var (H : Nat → Option Obj) (cb mb : Nat) (ns : List (List UInt8)) (b : Nat) (l : List Nat) (x : List UInt8) (l1 : List Nat) (h1 : TB 103 H cb mb ns (.iface 277 (.pointer (some ⟨b, 0, none⟩))) l x l1) (hx : x.length ≤ 1000000) :
    TB 134 H cb mb ns (.iface 277 (.pointer (some ⟨b, 0, none⟩))) l (x) l1 := by
  intro w hz h
  have qa := q_Var_Arrow b
  have CA := hid (h1 w hz h)
  have sx : (B x).size ≤ 1000000 := by rw [size_B]; exact hx
  clear h hz h1
  unfold askV at CA ⊢
  go_enter Tryz.func134, Tryz.ntmps134
  go_wp2_with (go_at_call 103; refine CA.out.mono ?_; rintro e w1 ⟨rfl, i1, g1⟩; have I1 := hid i1; have G1 := hid g1; clear i1 g1)
  go_ret
  refine ⟨?_, I1.out, G1.out⟩
  rfl
set_option maxRecDepth 100000 in
theorem fb_list (H : Nat → Option Obj) (cb mb : Nat) (ns : List (List UInt8)) (b : Nat) (l : List Nat) (x : List UInt8) (l1 : List Nat) (h1 : TB 103 H cb mb ns (.iface 278 (.pointer (some ⟨b, 0, none⟩))) l x l1) (hx : x.length ≤ 1000000) :
    TB 134 H cb mb ns (.iface 278 (.pointer (some ⟨b, 0, none⟩))) l (x) l1 := by
  intro w hz h
  have qa := q_List_Arrow b
  have CA := hid (h1 w hz h)
  have sx : (B x).size ≤ 1000000 := by rw [size_B]; exact hx
  clear h hz h1
  unfold askV at CA ⊢
  go_enter Tryz.func134, Tryz.ntmps134
  go_wp2_with (go_at_call 103; refine CA.out.mono ?_; rintro e w1 ⟨rfl, i1, g1⟩; have I1 := hid i1; have G1 := hid g1; clear i1 g1)
  go_ret
  refine ⟨?_, I1.out, G1.out⟩
  rfl
set_option maxRecDepth 100000 in
theorem fb_pair (H : Nat → Option Obj) (cb mb : Nat) (ns : List (List UInt8)) (b : Nat) (l : List Nat) (x : List UInt8) (l1 : List Nat) (h1 : TB 103 H cb mb ns (.iface 281 (.pointer (some ⟨b, 0, none⟩))) l x l1) (hx : x.length ≤ 1000000) :
    TB 134 H cb mb ns (.iface 281 (.pointer (some ⟨b, 0, none⟩))) l (x) l1 := by
  intro w hz h
  have qa := q_Pair_Arrow b
  have CA := hid (h1 w hz h)
  have sx : (B x).size ≤ 1000000 := by rw [size_B]; exact hx
  clear h hz h1
  unfold askV at CA ⊢
  go_enter Tryz.func134, Tryz.ntmps134
  go_wp2_with (go_at_call 103; refine CA.out.mono ?_; rintro e w1 ⟨rfl, i1, g1⟩; have I1 := hid i1; have G1 := hid g1; clear i1 g1)
  go_ret
  refine ⟨?_, I1.out, G1.out⟩
  rfl
set_option maxRecDepth 100000 in
theorem fb_arrow (H : Nat → Option Obj) (cb mb : Nat) (ns : List (List UInt8)) (b : Nat) (l : List Nat) (x : List UInt8) (l1 : List Nat) (h1 : TB 103 H cb mb ns (.iface 270 (.pointer (some ⟨b, 0, none⟩))) l x l1) (hx : x.length ≤ 1000000) :
    TB 134 H cb mb ns (.iface 270 (.pointer (some ⟨b, 0, none⟩))) l ([40] ++ x ++ [41]) l1 := by
  intro w hz h
  have qa := q_Arrow_Arrow b
  have CA := hid (h1 w hz h)
  have sx : (B x).size ≤ 1000000 := by rw [size_B]; exact hx
  clear h hz h1
  unfold askV at CA ⊢
  go_enter Tryz.func134, Tryz.ntmps134
  go_wp2_with (go_at_call 103; refine CA.out.mono ?_; rintro e w1 ⟨rfl, i1, g1⟩; have I1 := hid i1; have G1 := hid g1; clear i1 g1)
  go_ret
  refine ⟨?_, I1.out, G1.out⟩
  show Ending.returned (.string (B [40] ++ B x ++ B [41])) = _
  rw [append_B, append_B]
  (try simp)
end Go.Proofs.YtfangljlgfcdpaaGreatDoor

/-
  OUR OWN TEXT. The program's types: what lies right below one; room, Big.
-/
namespace Go.Proofs.YtfangljlgfcdpaaGreatDoor
open Go.RowKit

/-- What Below leaves. -/
def BLW (w w' : World) (e : Ending) (us : List Value) : Prop :=
  ∃ ao cap, e = .returned (.slice ao us.length cap) ∧ w.grownBy w' none ∧ ∀ (j : Nat) (u : Value), us[j]? = some u → ∃ gn, ao = some ⟨gn, 0, none⟩ ∧ gn < w'.heap.size ∧ w'.cell? ⟨gn, j, none⟩ = some u

theorem mBelowVar (b : Nat) (w : World) : (Go.method 523 277 (.pointer (some ⟨b, 0, none⟩)) "Below").run Tryz.prog w = .ok (277, .pointer (some ⟨b, 0, none⟩)) w := by kernel_rfl
theorem mBelowBasic (b : Nat) (w : World) : (Go.method 523 274 (.pointer (some ⟨b, 0, none⟩)) "Below").run Tryz.prog w = .ok (276, .pointer (some ⟨b, 0, none⟩)) w := by kernel_rfl
theorem mBelowList (b : Nat) (w : World) : (Go.method 523 278 (.pointer (some ⟨b, 0, none⟩)) "Below").run Tryz.prog w = .ok (278, .pointer (some ⟨b, 0, none⟩)) w := by kernel_rfl
theorem mBelowPair (b : Nat) (w : World) : (Go.method 523 281 (.pointer (some ⟨b, 0, none⟩)) "Below").run Tryz.prog w = .ok (279, .pointer (some ⟨b, 0, none⟩)) w := by kernel_rfl
theorem mBelowArrow (b : Nat) (w : World) : (Go.method 523 270 (.pointer (some ⟨b, 0, none⟩)) "Below").run Tryz.prog w = .ok (275, .pointer (some ⟨b, 0, none⟩)) w := by kernel_rfl

set_option maxRecDepth 100000 in
theorem below_var (b : Nat) (w : World) : Calls Tryz.prog 277 #[.pointer (some ⟨b, 0, none⟩)] w fun e w' => BLW w w' e [] := by
  go_enter Tryz.func277, Tryz.ntmps277
  go_wp2
  go_ret
  exact ⟨none, 0, rfl, World.grownBy.refl _ _, fun j u h => by simp at h⟩
set_option maxRecDepth 100000 in
theorem below_basic (b : Nat) (w : World) : Calls Tryz.prog 276 #[.pointer (some ⟨b, 0, none⟩)] w fun e w' => BLW w w' e [] := by
  go_enter Tryz.func276, Tryz.ntmps276
  go_wp2
  go_ret
  exact ⟨none, 0, rfl, World.grownBy.refl _ _, fun j u h => by simp at h⟩
theorem blw_one (w : World) (u : Value) (t : TypeId) : BLW w (w.alloc (.cells #[u] t)) (.returned (.slice (some ⟨w.heap.size, 0, none⟩) 1 1)) [u] := by
  refine ⟨_, 1, rfl, World.grownBy_alloc _ _ _, fun j x h => ⟨_, rfl, by simp, ?_⟩⟩
  match j, h with
  | 0, h => simp at h; subst h; simp [go_sem]
  | j + 1, h => simp at h
theorem blw_two (w : World) (u z : Value) (t : TypeId) : BLW w (w.alloc (.cells #[u, z] t)).drew (.returned (.slice (some ⟨w.heap.size, 0, none⟩) 2 2)) [u, z] := by
  have g := World.grownBy_alloc w (.cells #[u, z] t) none
  refine ⟨_, 2, rfl, ⟨g.os, g.tape, g.output, g.size, g.block⟩, fun j x h => ⟨_, rfl, by simp, ?_⟩⟩
  match j, h with
  | 0, h => simp at h; subst h; simp [go_sem]
  | 1, h => simp at h; subst h; simp [go_sem]
  | j + 2, h => simp at h
set_option maxRecDepth 100000 in
theorem below_list (b : Nat) (w : World) (t1 : TypeId) (b1 : Nat) (h : w.heap[b]? = some (.cells #[(.iface t1 (.pointer (some ⟨b1, 0, none⟩)))] 280 (0, 0))) :
    Calls Tryz.prog 278 #[.pointer (some ⟨b, 0, none⟩)] w fun e w' => BLW w w' e [(.iface t1 (.pointer (some ⟨b1, 0, none⟩)))] := by
  have c0 : w.cell? ⟨b, 0, none⟩ = some (.iface t1 (.pointer (some ⟨b1, 0, none⟩))) := by simp [World.cell?, h]
  clear h
  go_enter Tryz.func278, Tryz.ntmps278
  go_wp2
  go_ret
  exact blw_one w _ _
set_option maxRecDepth 100000 in
theorem below_pair (b : Nat) (w : World) (t1 t2 : TypeId) (b1 b2 : Nat) (h : w.heap[b]? = some (.cells #[(.iface t1 (.pointer (some ⟨b1, 0, none⟩))), (.iface t2 (.pointer (some ⟨b2, 0, none⟩)))] 283 (0, 0))) :
    Calls Tryz.prog 279 #[.pointer (some ⟨b, 0, none⟩)] w fun e w' => BLW w w' e [(.iface t1 (.pointer (some ⟨b1, 0, none⟩))), (.iface t2 (.pointer (some ⟨b2, 0, none⟩)))] := by
  have c0 : w.cell? ⟨b, 0, none⟩ = some (.iface t1 (.pointer (some ⟨b1, 0, none⟩))) := by simp [World.cell?, h]
  have c1 : w.cell? ⟨b, 1, none⟩ = some (.iface t2 (.pointer (some ⟨b2, 0, none⟩))) := by simp [World.cell?, h]
  clear h
  go_enter Tryz.func279, Tryz.ntmps279
  go_wp2_with fail
  (try go_region)
  go_wp2
  go_ret
  exact blw_two w _ _ _
set_option maxRecDepth 100000 in
theorem below_arrow (b : Nat) (w : World) (t1 t2 : TypeId) (b1 b2 : Nat) (h : w.heap[b]? = some (.cells #[(.iface t1 (.pointer (some ⟨b1, 0, none⟩))), (.iface t2 (.pointer (some ⟨b2, 0, none⟩)))] 272 (0, 0))) :
    Calls Tryz.prog 275 #[.pointer (some ⟨b, 0, none⟩)] w fun e w' => BLW w w' e [(.iface t1 (.pointer (some ⟨b1, 0, none⟩))), (.iface t2 (.pointer (some ⟨b2, 0, none⟩)))] := by
  have c0 : w.cell? ⟨b, 0, none⟩ = some (.iface t1 (.pointer (some ⟨b1, 0, none⟩))) := by simp [World.cell?, h]
  have c1 : w.cell? ⟨b, 1, none⟩ = some (.iface t2 (.pointer (some ⟨b2, 0, none⟩))) := by simp [World.cell?, h]
  clear h
  go_enter Tryz.func275, Tryz.ntmps275
  go_wp2_with fail
  (try go_region)
  go_wp2
  go_ret
  exact blw_two w _ _ _
/-- What lies below a type. -/
theorem below_any {ns : List (List UInt8)} {m : Nat} {H : Nat → Option Obj} {v : Value} {x : Ty} (h : QRep ns (m + 1) H v x) :
    ∃ t b us F, v = .iface t (.pointer (some ⟨b, 0, none⟩)) ∧ us.length = x.kids.length ∧ us.length ≤ 2 ∧ (∀ (i : Nat) (u : Value) (y : Ty), us[i]? = some u → x.kids[i]? = some y → QRep ns m H u y) ∧ (∀ w, (Go.method 523 t (.pointer (some ⟨b, 0, none⟩)) "Below").run Tryz.prog w = .ok (F, .pointer (some ⟨b, 0, none⟩)) w) ∧
      (∀ w, Fz H w → Calls Tryz.prog F #[.pointer (some ⟨b, 0, none⟩)] w fun e w' => BLW w w' e us) ∧ (F = 277 ∨ F = 276 ∨ F = 278 ∨ F = 279 ∨ F = 275) := by
  obtain ⟨b, h⟩ := h
  rcases h with ⟨h1, h2, h3, h4, h5⟩ | ⟨h1, h2, h3, h4⟩ | ⟨h1, a, u, h2, h3, h4, h5⟩ | ⟨h1, a, c, u, z, h2, h3, h4, h5, h6⟩ | ⟨h1, a, c, u, z, h2, h3, h4, h5, h6⟩
  · exact ⟨_, b, [], _, h4, by rw [h2]; rfl, by simp, fun i u y e => by simp at e, fun w => mBelowVar b w, fun w _ => below_var b w, Or.inl rfl⟩
  · exact ⟨_, b, [], _, h3, by rw [h2]; rfl, by simp, fun i u y e => by simp at e, fun w => mBelowBasic b w, fun w _ => below_basic b w, Or.inr (Or.inl rfl)⟩
  · refine ⟨_, b, [u], _, h3, by rw [h2]; rfl, by simp, fun i u' y e1 e2 => ?_, fun w => mBelowList b w, fun w hz => ?_, Or.inr (Or.inr (Or.inl rfl))⟩
    · rw [h2] at e2
      match i, e1, e2 with
      | 0, e1, e2 => simp at e1 e2; subst e1 e2; exact h5
      | i + 1, e1, e2 => simp at e1
    · obtain ⟨t1, b1, _, rfl, _⟩ := h5.val hz
      exact below_list b w t1 b1 (hz _ _ h4)
  · refine ⟨_, b, [u, z], _, h3, by rw [h2]; rfl, by simp, fun i u' y e1 e2 => ?_, fun w => mBelowPair b w, fun w hz => ?_, Or.inr (Or.inr (Or.inr (Or.inl rfl)))⟩
    · rw [h2] at e2
      match i, e1, e2 with
      | 0, e1, e2 => simp at e1 e2; subst e1 e2; exact h5
      | 1, e1, e2 => simp at e1 e2; subst e1 e2; exact h6
      | i + 2, e1, e2 => simp at e1
    · obtain ⟨t1, b1, _, rfl, _⟩ := h5.val hz
      obtain ⟨t2, b2, _, rfl, _⟩ := h6.val hz
      exact below_pair b w t1 t2 b1 b2 (hz _ _ h4)
  · refine ⟨_, b, [u, z], _, h3, by rw [h2]; rfl, by simp, fun i u' y e1 e2 => ?_, fun w => mBelowArrow b w, fun w hz => ?_, Or.inr (Or.inr (Or.inr (Or.inr (rfl))))⟩
    · rw [h2] at e2
      match i, e1, e2 with
      | 0, e1, e2 => simp at e1 e2; subst e1 e2; exact h5
      | 1, e1, e2 => simp at e1 e2; subst e1 e2; exact h6
      | i + 2, e1, e2 => simp at e1
    · obtain ⟨t1, b1, _, rfl, _⟩ := h5.val hz
      obtain ⟨t2, b2, _, rfl, _⟩ := h6.val hz
      exact below_arrow b w t1 t2 b1 b2 (hz _ _ h4)

theorem sum_le_of (l : List Nat) (j : Nat) : (l.take j).sum ≤ l.sum := sum_take_le l j

set_option maxRecDepth 100000 in
set_option maxHeartbeats 2000000 in
theorem room_any (ns : List (List UInt8)) : ∀ (m : Nat) (H : Nat → Option Obj) (v : Value) (x : Ty) (w : World) (L : Nat), QRep ns m H v x → Fz H w → tySize m x ≤ 100000 → L ≤ 100000 →
    Calls Tryz.prog 133 #[v, .int .i64 (L : Int)] w fun e w' => e = .returned (.int .i64 (max ((L : Int) - (tySize m x : Int)) (-1))) ∧ w.grownBy w' none := by
  intro m
  induction m with
  | zero => intro H v x w L h; exact absurd h id
  | succ m ih =>
    intro H v x w L h hz hs hL
    obtain ⟨t, b, us, F, rfl, hl, hl2, hk, hm, hb, hF⟩ := below_any h
    have hsz : tySize (m + 1) x = 1 + (x.kids.map (tySize m)).sum := rfl
    rw [hsz] at hs ⊢
    have hm1 := hm w
    have HB := hid (hb w hz)
    have HK := hid hk
    have IH := hid ih
    have HL := hid hl
    have HZ := hid hz
    have HS := hid hs
    have hLi : (L : Int) ≤ 100000 := by omega
    obtain ⟨S, hS⟩ : ∃ S, S = (x.kids.map (tySize m)).sum := ⟨_, rfl⟩
    rw [← hS]
    have HSS := hid hS
    clear h hz hs hm hb hk ih hl hsz hS
    rcases hF with rfl | rfl | rfl | rfl | rfl
    all_goals
      go_enter Tryz.func133, Tryz.ntmps133
      go_wp2_with fail
      refine HB.out.mono ?_
      rintro e w1 ⟨ao, cap, rfl, g1, hrow⟩
      have HROW := hid hrow
      have G1 := hid g1
      clear hrow g1 HB hm1
      go_wp2_with fail
      go_loopg [1, 12] (us.length + 1) (fun gh v i wi => ∃ j k : Nat, j ≤ us.length ∧ i = .int .i64 j ∧ gh = us.length - j + 1 ∧ k ≤ 100000 ∧ Hid (k = 1 + ((x.kids.take j).map (tySize m)).sum) ∧ v = .int .i64 (max ((L : Int) - (k : Int)) (-1)) ∧ Hid (w1.grownBy wi none))
      case atStart => exact ⟨0, 1, by omega, rfl, by omega, by omega, hid rfl, by congr 1; omega, World.grownBy.refl _ _⟩
      case round =>
        obtain ⟨j, k, hj, rfl, hgj, hk, HKJ, rfl, HG⟩ := hrel
        by_cases hjl : j < us.length
        · obtain ⟨u, hu⟩ : ∃ u, us[j]? = some u := ⟨us[j], List.getElem?_eq_getElem hjl⟩
          obtain ⟨y, hy⟩ : ∃ y, x.kids[j]? = some y := ⟨x.kids[j]'(by rw [← HL.out]; exact hjl), List.getElem?_eq_getElem _⟩
          obtain ⟨gn, rfl, hgl, hcell0⟩ := HROW.out j u hu
          have hcell : wr.cell? ⟨gn, j, none⟩ = some u := by rw [World.cell?_of_block (a := ⟨gn, j, none⟩) (HG.out.block gn hgl (by simp))]; exact hcell0
          have hry := HK.out j u y hu hy
          have hzr : Fz H wr := (HZ.out.grown G1.out).grown HG.out
          obtain ⟨t1, b1, _, rfl, _⟩ := hry.val hzr
          have hstep : 1 + ((x.kids.take (j + 1)).map (tySize m)).sum = k + tySize m y := by
            rw [List.take_add_one, hy, List.map_append, List.sum_append, HKJ.out]
            simp
            omega
          have hle : k + tySize m y ≤ 1 + S := by
            have h1 := sum_take_le (x.kids.map (tySize m)) (j + 1)
            rw [← List.map_take] at h1
            rw [HSS.out]
            omega
          have hS1 : 1 + S ≤ 100000 := by rw [HSS.out]; exact HS.out
          by_cases hneg : (L : Int) - (k : Int) < 0
          · have h1 : max ((L : Int) - (k : Int)) (-1) < 0 := by omega
            have e9 : max ((L : Int) - (k : Int)) (-1) = -1 := by omega
            rw [e9]
            have e8 : max ((L : Int) - ((1 + S : Nat) : Int)) (-1) = -1 := by omega
            clear hu hy hry hzr hcell0 hstep h1 e9
            go_wp2
            go_ret
            exact ⟨by rw [e8]; rfl, G1.out.trans HG.out⟩
          · have e9 : max ((L : Int) - (k : Int)) (-1) = ((L - k : Nat) : Int) := by omega
            rw [e9]
            have CON := hid (IH.out H _ y wr (L - k) hry hzr (by omega) (by omega))
            obtain ⟨dy, hdy2⟩ : ∃ dy : Nat, dy = tySize m y := ⟨_, rfl⟩
            rw [← hdy2] at hstep CON hle
            have HST := hid hstep
            have h1 : ¬ (((L - k : Nat) : Int) < 0) := by omega
            have e7 : max (((L - k : Nat) : Int) - (dy : Int)) (-1) = max ((L : Int) - ((k + dy : Nat) : Int)) (-1) := by omega
            rw [e7] at CON
            clear hu hy hry hzr hcell0 hstep hdy2 e9 e7 hneg
            go_wp2_with fail
            refine CON.out.mono ?_
            rintro e w' ⟨rfl, g'⟩
            have G' := hid g'
            clear g'
            go_wp2_with fail
            go_roundg (us.length - (j + 1) + 1)
            case measure => omega
            case rel => exact ⟨j + 1, k + dy, by omega, by go_num, rfl, by omega, hid HST.out.symm, rfl, hid (HG.out.trans G'.out)⟩
        · have hje : j = us.length := by omega
          subst hje
          have e : k = 1 + S := by
            have := HKJ.out
            rw [HL.out, List.take_length] at this
            rw [HSS.out]
            exact this
          subst e
          go_wp2
          go_ret
          exact ⟨rfl, G1.out.trans HG.out⟩

set_option maxRecDepth 100000 in
set_option maxHeartbeats 2000000 in
theorem big_any (ns : List (List UInt8)) (m : Nat) (H : Nat → Option Obj) (v : Value) (x : Ty) (w : World) (h : QRep ns m H v x) (hz : Fz H w) (hs : tySize m x ≤ 100000) :
    Calls Tryz.prog 102 #[v] w fun e w' => e = .returned (.bool (decide (120 < tySize m x))) ∧ w.grownBy w' none := by
  have CON := hid (room_any ns m H v x w 120 h hz hs (by omega))
  obtain ⟨t, b, _, rfl, _⟩ := h.val hz
  clear h hz
  by_cases hd : 120 < tySize m x
  · have e9 : max (((120 : Nat) : Int) - (tySize m x : Int)) (-1) = -1 := by omega
    rw [e9] at CON
    rw [decide_eq_true hd]
    clear hd e9
    go_enter Tryz.func102, Tryz.ntmps102
    go_wp2_with fail
    refine CON.out.mono ?_
    rintro e w1 ⟨rfl, g1⟩
    have G1 := hid g1
    clear g1
    go_wp2
    go_ret
    exact ⟨rfl, G1.out⟩
  · have e9 : max (((120 : Nat) : Int) - (tySize m x : Int)) (-1) = ((120 - tySize m x : Nat) : Int) := by omega
    rw [e9] at CON
    rw [decide_eq_false hd]
    have h1 : ¬ (((120 - tySize m x : Nat) : Int) < 0) := by omega
    clear hd e9
    generalize 120 - tySize m x = q at *
    go_enter Tryz.func102, Tryz.ntmps102
    go_wp2_with fail
    refine CON.out.mono ?_
    rintro e w1 ⟨rfl, g1⟩
    have G1 := hid g1
    clear g1
    go_wp2
    go_ret
    exact ⟨rfl, G1.out⟩
end Go.Proofs.YtfangljlgfcdpaaGreatDoor

/-
  OUR OWN TEXT. The program's types.Read.
-/
namespace Go.Proofs.YtfangljlgfcdpaaGreatDoor
open Go.RowKit


set_option maxRecDepth 100000 in
set_option maxHeartbeats 1000000 in
theorem whole_longQ (s : ByteArray) (hs : 300 < s.size) (f : Value) (w : World) (bl : Addr) (hg : w.cell? ⟨2, 0, none⟩ = some (errV bl)) (hgl : 2 < w.heap.size) :
    Calls Tryz.prog 99 #[.string s, f] w fun e w' => e = .returned (.tuple #[.nilIface, errV bl]) ∧ w.grownBy w' none := by
  have hz : (300 : Int) < ((s.size : Nat) : Int) := by omega
  have a1 := cell_past (cell_past hg (.cells #[.nilIface] 140)) (.cells #[.nilIface] 64)
  unfold errV at hg a1 ⊢
  have hn : ¬ 2 = w.heap.size := by omega
  go_enter_defers Tryz.func99, Tryz.ntmps99
  go_wp2_with fail
  go_region
  go_wp2
  refine ⟨.tuple #[.nilIface, .iface 393 (.pointer (some bl))], ?_, rfl, grown_drew ((World.grownBy_alloc _ _ _).trans (World.grownBy_alloc _ _ _))⟩
  have q0 : ((w.alloc (.cells #[.nilIface] 140)).alloc (.cells #[.iface 393 (.pointer (some bl))] 64)).cell? ⟨w.heap.size, 0, none⟩ = some .nilIface := cell_past (by simp [go_sem]) _
  simp [results, Tryz.results99, go_sem, q0]

/-- What Read leaves; bd: where ErrBig lies. -/
def ROutQ (w w' : World) (ns : List (List UInt8)) (s2 : St) (e : Ending) (x : Ty) (bd : Addr) : Prop :=
  w.grownBy w' none ∧ ((0 ≤ s2.bad ∧ ∃ b, e = .returned (.tuple #[.nilIface, .iface 118 (.pointer (some ⟨b, 0, none⟩))]) ∧ w'.heap[b]? = some (.cells #[.int .i64 s2.bad] 129 (0, 0))) ∨
    (s2.bad < 0 ∧ ∃ v H' m, Fz H' w' ∧ QRep ns m H' v x ∧ TyOk ns.length m x ∧ ((120 < tySize m x ∧ e = .returned (.tuple #[.nilIface, errV bd])) ∨ (tySize m x ≤ 120 ∧ e = .returned (.tuple #[v, .nilIface])))))

set_option maxRecDepth 100000 in
set_option maxHeartbeats 2000000 in
theorem read_q (s : ByteArray) (hs : s.size ≤ 300) (w : World) (n : Nat) (x : Ty) (ns : List (List UInt8)) (s1 : St) (hx : arrS (toksOf tyKw s) n [] ⟨0, -1⟩ = some (x, ns, s1)) (hk1 : s1.k < (toksOf tyKw s).length) (bd : Addr) (hg : w.cell? ⟨6, 0, none⟩ = some (errV bd)) (hgl : 6 < w.heap.size) :
    Calls Tryz.prog 70 #[.string s] w fun e w' => ROutQ w w' ns (needS (toksOf tyKw s) s1 kEnd) e x bd := by
  have HC := hid (whole_pQ s hs w n x ns s1 hx)
  obtain ⟨m', ok, sz1, _⟩ := arr_made (toksOf tyKw s) n [] ⟨0, -1⟩ x ns s1 (by show (-1 : Int) < 0; omega) hx
  have hsz : tySize m' x ≤ 400 := by
    have h1 : tySize m' x + 0 ≤ s1.k + 1 := sz1
    have h2 := toksOf_len tyKw s
    omega
  have OK := hid ok
  clear hx sz1 hk1 ok
  generalize needS (toksOf tyKw s) s1 kEnd = s2 at *
  go_enter Tryz.func70, Tryz.ntmps70
  go_wp2_with fail
  refine HC.out.mono ?_
  rintro e w1 ⟨g1, (⟨hb, v, H', m, rfl, z1, r1⟩ | ⟨hb, b, rfl, hbk⟩)⟩
  · obtain ⟨t1, b1, ht1, rfl, hb1⟩ := r1.val z1
    have hg1 : w1.cell? ⟨6, 0, none⟩ = some (errV bd) := by
      rw [World.cell?_of_block (a := ⟨6, 0, none⟩) (g1.block _ hgl (by simp))]
      exact hg
    obtain ⟨M, hM⟩ : ∃ M, M = max m m' := ⟨_, rfl⟩
    have okM : TyOk ns.length M x := OK.out.le (by omega)
    have esz : tySize M x = tySize m' x := TyOk.size _ _ _ OK.out (by omega)
    have rM : QRep ns M H' (.iface t1 (.pointer (some ⟨b1, 0, none⟩))) x := r1.le (by omega)
    have CB := hid (big_any ns M H' _ x w1 rM z1 (by omega))
    have Q := hid (And.intro hb (And.intro z1 (And.intro rM okM)))
    have G1 := hid g1
    have hl1 : 6 < w1.heap.size := Nat.lt_of_lt_of_le hgl g1.size
    clear hb z1 r1 rM g1 hg hb1 HC hM okM esz hsz ht1
    obtain ⟨d, hd⟩ : ∃ d, d = tySize M x := ⟨_, rfl⟩
    rw [← hd] at CB
    have HD := hid hd
    clear hd
    by_cases hdd : 120 < d
    · rw [decide_eq_true hdd] at CB
      go_wp2_with fail
      refine CB.out.mono ?_
      rintro e w2 ⟨rfl, g2⟩
      have hg2 : w2.cell? ⟨6, 0, none⟩ = some (errV bd) := by
        rw [World.cell?_of_block (a := ⟨6, 0, none⟩) (g2.block _ hl1 (by simp))]
        exact hg1
      unfold errV at hg2
      have G2 := hid g2
      clear g2 hg1
      go_wp2_with fail
      go_region
      go_wp2
      go_ret2
      obtain ⟨hb, z1, r1, ok⟩ := Q.out
      exact ⟨grown_drew (G1.out.trans G2.out), Or.inr ⟨hb, _, H', M, (z1.grown G2.out).drew, r1, ok, Or.inl ⟨by rw [← HD.out]; exact hdd, rfl⟩⟩⟩
    · rw [decide_eq_false hdd] at CB
      clear hg1
      go_wp2_with fail
      refine CB.out.mono ?_
      rintro e w2 ⟨rfl, g2⟩
      have G2 := hid g2
      clear g2
      go_wp2
      go_ret2
      obtain ⟨hb, z1, r1, ok⟩ := Q.out
      exact ⟨G1.out.trans G2.out, Or.inr ⟨hb, _, H', M, z1.grown G2.out, r1, ok, Or.inr ⟨by rw [← HD.out]; omega, rfl⟩⟩⟩
  · have Q := hid (And.intro g1 (And.intro hb hbk))
    clear g1 hb hbk HC
    go_wp2
    go_ret2
    exact ⟨Q.out.1, Or.inl ⟨Q.out.2.1, b, rfl, Q.out.2.2⟩⟩

set_option maxRecDepth 100000 in
theorem read_qlong (s : ByteArray) (hs : 300 < s.size) (w : World) (bl : Addr) (hg : w.cell? ⟨2, 0, none⟩ = some (errV bl)) (hgl : 2 < w.heap.size) :
    Calls Tryz.prog 70 #[.string s] w fun e w' => e = .returned (.tuple #[.nilIface, errV bl]) ∧ w.grownBy w' none := by
  have HC := hid (whole_longQ s hs (.func (.func 100) #[] #[]) w bl hg hgl)
  clear hg
  unfold errV at HC ⊢
  go_enter Tryz.func70, Tryz.ntmps70
  go_wp2_with (go_at_call 99; refine HC.out.mono ?_; rintro e w' ⟨rfl, g1⟩; have G1 := hid g1; clear g1)
  go_ret2
  exact ⟨rfl, G1.out⟩
end Go.Proofs.YtfangljlgfcdpaaGreatDoor

/-
  OUR OWN TEXT. The program's texts of types: textBy whole, OneText; infer.Canon.
-/
namespace Go.Proofs.YtfangljlgfcdpaaGreatDoor
open Go.RowKit

theorem TyOk.kids {N m : Nat} {x : Ty} (h : TyOk N (m + 1) x) : ∀ y, y ∈ x.kids → TyOk N m y ∧ tySize m y ≤ tySize (m + 1) x := by
  intro y hy
  rcases h with ⟨h1, h2, h3⟩ | ⟨h1, h2, h3⟩ | ⟨h1, h2, a, h3, h4⟩ | ⟨h1, h2, a, b, h3, h4, h5⟩
  · rw [h3] at hy; cases hy
  · rw [h3] at hy; cases hy
  · rw [h3] at hy
    rw [List.mem_singleton.1 hy]
    exact ⟨h4, by rw [tySize, h3]; simp⟩
  · rw [h3] at hy
    rcases List.mem_cons.1 hy with rfl | hy
    · exact ⟨h4, by rw [tySize, h3]; simp; omega⟩
    · rw [List.mem_singleton.1 hy]
      exact ⟨h5, by rw [tySize, h3]; simp; omega⟩
theorem goS_vars {N m : Nat} {x : Ty} (l : List Nat) (h : TyOk N m x) : (goS m x l).2 = tyVars m x l := by
  rw [go_text (L := tyVars m x l) m x l h (List.prefix_refl _)]

/-- fromBy's text. -/
def frS (m : Nat) (x : Ty) (l : List Nat) : List UInt8 := if x.kind = kFun then [40] ++ (goS m x l).1 ++ [41] else (goS m x l).1
theorem fb_any {ns : List (List UInt8)} {m : Nat} {H : Nat → Option Obj} {v : Value} {x : Ty} {cb mb : Nat} {l l1 : List Nat} (h : QRep ns m H v x) (hx : (goS m x l).1.length ≤ 1000000) (h1 : TB 103 H cb mb ns v l (goS m x l).1 l1) : TB 134 H cb mb ns v l (frS m x l) l1 := by
  cases m with
  | zero => exact absurd h id
  | succ m =>
  obtain ⟨b, h⟩ := h
  rcases h with ⟨q1, q2, q3, rfl, q5⟩ | ⟨q1, q2, rfl, q4⟩ | ⟨q1, a, u, q2, rfl, q4, q5⟩ | ⟨q1, a, c, u, z, q2, rfl, q4, q5, q6⟩ | ⟨q1, a, c, u, z, q2, rfl, q4, q5, q6⟩
  · unfold frS; rw [if_neg (by rw [q1]; decide)]
    exact fb_var H cb mb ns b l _ l1 h1 hx
  · unfold frS; rw [if_neg (by rcases q1 with q1 | q1 <;> rw [q1] <;> decide)]
    exact fb_basic H cb mb ns b l _ l1 h1 hx
  · unfold frS; rw [if_neg (by rw [q1]; decide)]
    exact fb_list H cb mb ns b l _ l1 h1 hx
  · unfold frS; rw [if_neg (by rw [q1]; decide)]
    exact fb_pair H cb mb ns b l _ l1 h1 hx
  · unfold frS; rw [if_pos q1]
    exact fb_arrow H cb mb ns b l _ l1 h1 hx

theorem tb_any (ns : List (List UInt8)) (hd : ns.Nodup) (cb mb : Nat) : ∀ (m : Nat) (H : Nat → Option Obj) (v : Value) (x : Ty) (l : List Nat), QRep ns m H v x → TyOk ns.length m x → tySize m x ≤ 1000 → H mb = none → (∀ y, y ∈ l → y < ns.length) → (tyVars m x l).length ≤ 200 → ∀ w0, Fz H w0 →
    TB 103 H cb mb ns v l (goS m x l).1 (goS m x l).2
  | 0, _, _, _, _, h, _, _, _, _, _, _, _ => absurd h id
  | m + 1, H, v, x, l, h, ok, hs, hm, hl, hvl, w0, hz0 => by
    obtain ⟨b, h⟩ := h
    have hlv := vars_len_le (m + 1) x l
    rcases h with ⟨q1, q2, q3, rfl, q5⟩ | ⟨q1, q2, rfl, q4⟩ | ⟨q1, a, u, q2, rfl, q4, q5⟩ | ⟨q1, a, c, u, z, q2, rfl, q4, q5, q6⟩ | ⟨q1, a, c, u, z, q2, rfl, q4, q5, q6⟩
    · have e : goS (m + 1) x l = (letterS ((if x.var ∈ l then l else l ++ [x.var]).idxOf x.var), if x.var ∈ l then l else l ++ [x.var]) := by rw [goS, if_pos q1]
      rw [e]
      exact tb_var H cb mb ns b x.var l q5 hd q3.1 q3.2 hl (by omega)
    · have hk : x.kind ≠ [] := by rcases q1 with q1 | q1 <;> rw [q1] <;> decide
      have e : goS (m + 1) x l = (x.kind, l) := by rw [goS, if_neg hk, q2]
      rw [e]
      exact tb_basic H cb mb ns b x.kind l q4
    · have hk : x.kind ≠ [] := by rw [q1]; decide
      obtain ⟨oka, sa⟩ := ok.kids a (by rw [q2]; simp)
      have e : goS (m + 1) x l = ([91] ++ (goS m a l).1 ++ [93], (goS m a l).2) := by rw [goS, if_neg hk, q2]
      have ev : tyVars (m + 1) x l = tyVars m a l := by rw [tyVars, if_neg hk, q2]; rfl
      rw [ev] at hvl
      rw [e]
      have ih := tb_any ns hd cb mb m H u a l q5 oka (by omega) hm hl hvl w0 hz0
      obtain ⟨t1, b1, _, rfl, _⟩ := q5.val hz0
      exact tb_list H cb mb ns b t1 b1 l _ _ q4 ih (by have := goS_len m a l oka; omega)
    · have hk : x.kind ≠ [] := by rw [q1]; decide
      obtain ⟨oka, sa⟩ := ok.kids a (by rw [q2]; simp)
      obtain ⟨okc, sc⟩ := ok.kids c (by rw [q2]; simp)
      have ev : tyVars (m + 1) x l = tyVars m c (tyVars m a l) := by rw [tyVars, if_neg hk, q2]; rfl
      have e : goS (m + 1) x l = ([40] ++ (goS m a l).1 ++ [44, 32] ++ (goS m c (goS m a l).2).1 ++ [41], (goS m c (goS m a l).2).2) := by
        rw [goS, if_neg hk, q2]
        show (if x.kind = kFun then _ else _, _) = _
        rw [if_neg (by rw [q1]; decide)]
      rw [ev] at hvl
      have hva : (tyVars m a l).length ≤ 200 := Nat.le_trans (vars_len_le m c _) hvl
      rw [e, goS_vars l oka]
      have ih1 := tb_any ns hd cb mb m H u a l q5 oka (by omega) hm hl hva w0 hz0
      rw [goS_vars l oka] at ih1
      have ih2 := tb_any ns hd cb mb m H z c (tyVars m a l) q6 okc (by omega) hm (tyVars_lt m a l oka hl) hvl w0 hz0
      obtain ⟨t1, b1, _, rfl, _⟩ := q5.val hz0
      obtain ⟨t2, b2, _, rfl, _⟩ := q6.val hz0
      exact tb_pair H cb mb ns b t1 b1 t2 b2 l _ _ _ _ q4 hm ih1 ih2 (by have := goS_len m a l oka; omega) (by have := goS_len m c (tyVars m a l) okc; omega)
    · have hk : x.kind ≠ [] := by rw [q1]; decide
      obtain ⟨oka, sa⟩ := ok.kids a (by rw [q2]; simp)
      obtain ⟨okc, sc⟩ := ok.kids c (by rw [q2]; simp)
      have ev : tyVars (m + 1) x l = tyVars m c (tyVars m a l) := by rw [tyVars, if_neg hk, q2]; rfl
      have e : goS (m + 1) x l = (frS m a l ++ [32, 45, 62, 32] ++ (goS m c (goS m a l).2).1, (goS m c (goS m a l).2).2) := by
        rw [goS, if_neg hk, q2]
        show (if x.kind = kFun then _ else _, _) = _
        rw [if_pos q1]
        rfl
      rw [ev] at hvl
      have hva : (tyVars m a l).length ≤ 200 := Nat.le_trans (vars_len_le m c _) hvl
      rw [e, goS_vars l oka]
      have ih1 := tb_any ns hd cb mb m H u a l q5 oka (by omega) hm hl hva w0 hz0
      rw [goS_vars l oka] at ih1
      have hla := goS_len m a l oka
      have fb := fb_any q5 (by omega) ih1
      have ih2 := tb_any ns hd cb mb m H z c (tyVars m a l) q6 okc (by omega) hm (tyVars_lt m a l oka hl) hvl w0 hz0
      obtain ⟨t1, b1, _, rfl, _⟩ := q5.val hz0
      obtain ⟨t2, b2, _, rfl, _⟩ := q6.val hz0
      have hfr : (frS m a l).length ≤ 1000000 := by
        unfold frS
        split
        · simp; omega
        · omega
      exact tb_arrow H cb mb ns b t1 b1 t2 b2 l _ _ _ _ q4 hm fb ih2 hfr (by have := goS_len m c (tyVars m a l) okc; omega)

set_option maxRecDepth 100000 in
set_option maxHeartbeats 1000000 in
theorem oneText_q (ns : List (List UInt8)) (hd : ns.Nodup) (m : Nat) (H : Nat → Option Obj) (v : Value) (x : Ty) (w : World) (h : QRep ns m H v x) (hz : Fz H w) (ok : TyOk ns.length m x) (hs : tySize m x ≤ 150) :
    Calls Tryz.prog 71 #[v] w fun e w' => e = .returned (.string (B (tyCanon m x))) ∧ w.grownBy w' none := by
  have hvl := tyVars_len m x [] ok
  have hta := fun cb mb hm => tb_any ns hd cb mb m H v x [] h ok (by omega) hm (by simp) (by simp at hvl; omega) w hz
  rw [go_canon ok] at hta
  obtain ⟨t, b, _, rfl, _⟩ := h.val hz
  have HT := hid hta
  have HZ := hid hz
  clear hta h hz ok hvl
  go_enter Tryz.func71, Tryz.ntmps71
  go_wp2_with fail
  refine (inOrder_q w).mono ?_
  rintro e w1 ⟨cb, mb, rfl, i1, g1, hmb⟩
  have hm : H mb = none := HZ.out.none hmb
  have CT := hid (HT.out cb mb hm w1 (HZ.out.grown g1) i1)
  have G1 := hid g1
  clear i1 g1 HT
  unfold askV at CT ⊢
  go_wp2_with fail
  refine CT.out.mono ?_
  rintro e w2 ⟨rfl, _, g2⟩
  have G2 := hid g2
  clear g2 CT
  go_wp2
  go_ret
  refine ⟨rfl, ?_⟩
  have a := G1.out
  have b := G2.out
  exact ⟨b.os.trans a.os, b.tape.trans a.tape, b.output.trans a.output, Nat.le_trans a.size b.size, fun k hk _ => by rw [b.block k (Nat.lt_of_lt_of_le hk a.size) (by simp; omega), a.block k hk (by simp)]⟩
end Go.Proofs.YtfangljlgfcdpaaGreatDoor

/-
  OUR OWN TEXT. The program's infer.Canon.
-/
namespace Go.Proofs.YtfangljlgfcdpaaGreatDoor
open Go.RowKit

/-- What Canon leaves; bd: where ErrBig lies. -/
def COut (w w' : World) (ns : List (List UInt8)) (s2 : St) (e : Ending) (x : Ty) (bd : Addr) : Prop :=
  w.grownBy w' none ∧ ((0 ≤ s2.bad ∧ ∃ b, e = .returned (.tuple #[.string (B []), .iface 118 (.pointer (some ⟨b, 0, none⟩))]) ∧ w'.heap[b]? = some (.cells #[.int .i64 s2.bad] 129 (0, 0))) ∨
    (s2.bad < 0 ∧ ∃ m, TyOk ns.length m x ∧ ((120 < tySize m x ∧ e = .returned (.tuple #[.string (B []), errV bd])) ∨ (tySize m x ≤ 120 ∧ e = .returned (.tuple #[.string (B (tyCanon m x)), .nilIface])))))

set_option maxRecDepth 100000 in
set_option maxHeartbeats 2000000 in
theorem canon_q (s : ByteArray) (hs : s.size ≤ 300) (w : World) (n : Nat) (x : Ty) (ns : List (List UInt8)) (s1 : St) (hx : arrS (toksOf tyKw s) n [] ⟨0, -1⟩ = some (x, ns, s1)) (hk1 : s1.k < (toksOf tyKw s).length) (bd : Addr) (hg : w.cell? ⟨6, 0, none⟩ = some (errV bd)) (hgl : 6 < w.heap.size) :
    Calls Tryz.prog 37 #[.string s] w fun e w' => COut w w' ns (needS (toksOf tyKw s) s1 kEnd) e x bd := by
  have HC := hid (read_q s hs w n x ns s1 hx hk1 bd hg hgl)
  have hnd := arr_nodup n [] ⟨0, -1⟩ x ns s1 hx (by simp)
  have HND := hid hnd
  clear hx hg hk1 hnd
  generalize needS (toksOf tyKw s) s1 kEnd = s2 at *
  go_enter Tryz.func37, Tryz.ntmps37
  go_wp2_with fail
  refine HC.out.mono ?_
  rintro e w1 ⟨g1, (⟨hb, b, rfl, hbk⟩ | ⟨hb, v, H', m, z1, r1, ok, (⟨hd, rfl⟩ | ⟨hd, rfl⟩)⟩)⟩
  · have Q := hid (And.intro g1 (And.intro hb hbk))
    clear g1 hb hbk HC
    go_wp2
    go_ret2
    exact ⟨Q.out.1, Or.inl ⟨Q.out.2.1, b, rfl, Q.out.2.2⟩⟩
  · have Q := hid (And.intro g1 (And.intro hb (And.intro ok hd)))
    clear g1 hb z1 r1 ok hd HC
    unfold errV
    go_wp2
    go_ret2
    obtain ⟨g1, hb, ok, hd⟩ := Q.out
    exact ⟨g1, Or.inr ⟨hb, m, ok, Or.inl ⟨hd, rfl⟩⟩⟩
  · have PT := hid (oneText_q ns HND.out m H' v x w1 r1 z1 ok (by omega))
    obtain ⟨t1, b1, _, rfl, _⟩ := r1.val z1
    have Q := hid (And.intro g1 (And.intro hb (And.intro ok hd)))
    clear g1 hb z1 r1 ok hd HC
    go_wp2_with fail
    refine PT.out.mono ?_
    rintro e w2 ⟨rfl, g2⟩
    have G2 := hid g2
    clear g2 PT
    go_wp2
    go_ret2
    obtain ⟨g1, hb, ok, hd⟩ := Q.out
    exact ⟨g1.trans G2.out, Or.inr ⟨hb, m, ok, Or.inr ⟨hd, rfl⟩⟩⟩

set_option maxRecDepth 100000 in
theorem canon_qlong (s : ByteArray) (hs : 300 < s.size) (w : World) (bl : Addr) (hg : w.cell? ⟨2, 0, none⟩ = some (errV bl)) (hgl : 2 < w.heap.size) :
    Calls Tryz.prog 37 #[.string s] w fun e w' => e = .returned (.tuple #[.string (B []), errV bl]) ∧ w.grownBy w' none := by
  have HC := hid (read_qlong s hs w bl hg hgl)
  clear hg
  unfold errV at HC ⊢
  go_enter Tryz.func37, Tryz.ntmps37
  go_wp2_with (go_at_call 70; refine HC.out.mono ?_; rintro e w' ⟨rfl, g1⟩; have G1 := hid g1; clear g1)
  go_ret2
  exact ⟨rfl, G1.out⟩
end Go.Proofs.YtfangljlgfcdpaaGreatDoor
