/-
  OUR OWN TEXT. The program's reader: what it leaves; a function, a choice.
-/
import Derived.Test.YtcdijppegfcoaabGreatDoorPAb
namespace Go.Proofs.YtcdijppegfcoaabGreatDoor
open Go.RowKit

/-- What a reader of the program leaves: an expression, or a refusal where typerref's reader is wrong. -/
def EOut (w w' : World) (rb : Nat) (s : ByteArray) (T : List Tok) (H : Nat → Option Obj) (k0 : Nat) (st' : St) (e : Ending) (ex : Ex) : Prop :=
  Kept rb w w' ∧ ((∃ v H' m, e = .returned v ∧ PSt exKw w' rb s T st' ∧ Fz H' w' ∧ Ext w.heap.size H H' ∧ PRep m H' v ex ∧ exDeep m ex + k0 ≤ st'.k) ∨ (0 ≤ st'.bad ∧ Refused w' e st'.bad))
def EXPP (T : List Tok) (n : Nat) : Prop := ∀ (w : World) (rb : Nat) (s : ByteArray) (H : Nat → Option Obj) (st : St) (ex : Ex) (st' : St), expS T n st = some (ex, st') → PSt exKw w rb s T st → Fz H w → H rb = none →
  Calls Tryz.prog 69 #[rdV rb] w fun e w' => EOut w w' rb s T H st.k st' e ex

theorem need_bad {T : List Tok} {st : St} {x : List UInt8} (h : 0 ≤ st.bad) : needS T st x = st := by
  unfold needS
  rw [if_neg (by simp [isS]; intro h'; omega), if_neg (by omega)]
theorem exp_bad_st {T : List Tok} {n : Nat} {st : St} {x : Ex} {st' : St} (h : 0 ≤ st.bad) (hs : expS T n st = some (x, st')) : st' = st := by
  cases n with
  | zero => simp [expS] at hs
  | succ n =>
    rw [expS, if_pos h] at hs
    cases hs
    rfl
theorem need_k {T : List Tok} {st : St} {x : List UInt8} : st.k ≤ (needS T st x).k := by
  unfold needS
  split
  · show st.k ≤ st.k + 1; omega
  · exact Nat.le_refl _
theorem need_good {T : List Tok} {st : St} {x : List UInt8} (h : (needS T st x).bad < 0) : (needS T st x).k = st.k + 1 := by
  unfold needS at h ⊢
  split
  · rfl
  · rename_i hn
    rw [if_neg hn] at h
    simp only at h
    split at h
    · omega
    · omega

/-- A new expression over its parts. -/
theorem node_rep {w : World} {H : Nat → Option Obj} (hz : Fz H w) (e : Ex) (vs : List Value) (n : Nat) (o : Obj) (hk : vs.length = e.kids.length) (hkids : ∀ (i : Nat) (y : Ex) (u : Value), vs[i]? = some u → e.kids[i]? = some y → PRep n H u y)
    (hn : ∀ H', Ext w.heap.size H H' → H' w.heap.size = some o → PNode H' e vs (exDeep (n + 1) e) w.heap.size) :
    ∃ H', Fz H' (w.alloc o) ∧ Ext w.heap.size H H' ∧ PRep (n + 1) H' (.iface (pT e.op) (.pointer (some ⟨w.heap.size, 0, none⟩))) e := by
  have n1 : H w.heap.size = none := hz.none (Nat.le_refl _)
  have ext : Ext w.heap.size H (Fz.more H w.heap.size o) := (Ext.refl _ _).add (Nat.le_refl _) n1
  refine ⟨Fz.more H w.heap.size o, (hz.alloc _).add (heap_alloc_new _ _), ext, w.heap.size, vs, rfl, hn _ ext (Fz.more_same _ _ _), hk, fun i y u h1 h2 => PRep.ext ext _ _ _ (hkids i y u h1 h2)⟩
theorem Fz.grown {H : Nat → Option Obj} {w w' : World} (h : Fz H w) (hg : w.grownBy w' Option.none) : Fz H w' := fun k o e => by
  rw [hg.block k (h.lt e) (by simp)]
  exact h k o e
theorem Ext.from {n m : Nat} {H H' : Nat → Option Obj} (h : Ext m H H') (hn : n ≤ m) : Ext n H H' := ⟨h.1, fun k hk => h.2 k (by omega)⟩
theorem deep_pos {m : Nat} {H : Nat → Option Obj} {v : Value} {x : Ex} (h : PRep m H v x) : 0 < exDeep m x := by
  cases m with
  | zero => exact absurd h id
  | succ m => show 0 < maxl _ + 1; omega

set_option maxRecDepth 100000 in
set_option maxHeartbeats 1000000 in
theorem fun_p (T : List Tok) (n : Nat) (hl : T.length ≤ 400) (hE : EXPP T n) (w : World) (rb : Nat) (s : ByteArray) (H : Nat → Option Obj) (st : St) (y : Ex) (st4 : St) (p : Nat)
    (hs : expS T n (needS T (needS T st kName) kArrow) = some (y, st4)) (h : PSt exKw w rb s T st) (hz : Fz H w) (hr : H rb = none) :
    Calls Tryz.prog 110 #[rdV rb] w fun e w' => EOut w w' rb s T H st.k st4 e ⟨kFun, [(tk T st.k).s], [y], p⟩ := by
  have hlt := h.lt
  have HP := hid (h.alloc (.cells #[.pointer (some ⟨rb, 0, none⟩)] 153))
  have HZ := hid hz
  have HE := hid hE
  have HS := hid hs
  have HK0 := hid ((Kept.refl rb w).alloc (.cells #[.pointer (some ⟨rb, 0, none⟩)] 153))
  clear h hz hE hs
  unfold rdV
  go_enter Tryz.func110, Tryz.ntmps110
  go_wp2_with fail
  refine (name_p _ rb s T st HP.out).mono ?_
  rintro e w1 ⟨k1, (⟨rfl, p1⟩ | ⟨hb, b, rfl, hrf⟩)⟩
  · have b1 : w1.cell? ⟨w.heap.size, 0, none⟩ = some (.pointer (some ⟨rb, 0, none⟩)) := by
      rw [kept_cell k1 (by simp) (by omega)]
      simp [go_sem]
    have hw1 : w.heap.size < w1.heap.size := by have := k1.size; simp at this; omega
    have P1 := hid p1
    have K1 := hid (HK0.out.trans k1)
    clear p1 k1
    go_wp2_with fail
    refine (must_p exKw exKw_ok _ rb s T (needS T st kName) kArrow P1.out (Or.inr (by decide))).mono ?_
    rintro e w2 ⟨k2, (⟨rfl, p2⟩ | ⟨hb, b, rfl, hrf⟩)⟩
    · have b2 : w2.cell? ⟨w.heap.size, 0, none⟩ = some (.pointer (some ⟨rb, 0, none⟩)) := by
        rw [kept_cell k2 hw1 (by omega)]
        exact b1
      have hw2 : w1.heap.size ≤ w2.heap.size := k2.size
      have P2 := hid p2
      have K2 := hid (K1.out.trans k2)
      clear p2 k2 b1
      go_wp2_with fail
      refine (HE.out _ rb s H _ y st4 HS.out P2.out (HZ.out.kept K2.out hr) hr).mono ?_
      rintro e w3 ⟨k3, (⟨v, H3, m, rfl, p3, z3, e3, r3, d3⟩ | ⟨hb, b, rfl, hrf⟩)⟩
      · obtain ⟨tv, bv, htv, rfl, hbv, hcv⟩ := r3.dat z3
        have P3 := hid p3
        have K3 := hid (K2.out.trans k3)
        have Z3 := hid z3
        have E3 := hid e3
        have R3 := hid r3
        have D3 := hid d3
        have hkk := p3.klt
        have dat := r3.dat (w := w3.alloc (.cells #[.iface tv (.pointer (some ⟨bv, 0, none⟩))] 101)) (z3.alloc _)
        have DA := hid dat
        have hw4 : w2.heap.size ≤ w3.heap.size := k3.size
        have hn1 := need_good P1.out.neg
        have hn2 := need_good P2.out.neg
        clear p3 k3 z3 e3 r3 dat b2
        go_wp2_with fail
        refine (above_p _ (some ⟨w3.heap.size, 0, none⟩) 1 [.iface tv (.pointer (some ⟨bv, 0, none⟩))] [exDeep m y] rfl (by simp) ?_ ?_ ?_).mono ?_
        · intro i u hu
          cases i with
          | zero => simp at hu; subst hu; exact ⟨_, rfl, by simp, by simp [go_sem]⟩
          | succ i => simp at hu
        · intro i u d hu hd
          cases i with
          | zero => simp at hu hd; subst hu hd; exact DA.out
          | succ i => simp at hu
        · simp [maxl]; omega
        rintro e w4 ⟨rfl, g4⟩
        have G4 := hid g4
        clear g4
        go_wp2
        go_ret
        obtain ⟨H5, z5, x5, r5⟩ := node_rep (w := w4) (H := H3) ((Z3.out.alloc _).grown G4.out) ⟨kFun, [(tk T st.k).s], [y], p⟩ [.iface tv (.pointer (some ⟨bv, 0, none⟩))] m (.cells #[.int .i64 ((exDeep (m + 1) ⟨kFun, [(tk T st.k).s], [y], p⟩ : Nat) : Int), .string (B (tk T st.k).s), .iface tv (.pointer (some ⟨bv, 0, none⟩))] 180) rfl
          (fun i z u h1 h2 => by
            cases i with
            | zero => simp at h1 h2; subst h1 h2; exact R3.out
            | succ i => simp at h1)
          (fun H' _ h2 => Or.inr (Or.inr (Or.inl ⟨rfl, _, _, rfl, rfl, rfl, h2⟩)))
        have hw3 : w3.heap.size ≤ w4.heap.size := by have := G4.out.size; simp at this; omega
        refine ⟨((K3.out.alloc _).trans (Kept.of0 rb G4.out)).alloc _, Or.inl ⟨_, H5, m + 1, rfl, ((P3.out.alloc _).grown G4.out).alloc _, z5, (E3.out.from (by omega)).trans x5 (by omega), r5, ?_⟩⟩
        have hd : exDeep (m + 1) ⟨kFun, [(tk T st.k).s], [y], p⟩ = exDeep m y + 1 := by simp [exDeep, maxl]
        have := D3.out
        omega
      · unfold refusal
        go_wp2
        exact ⟨rfl, K2.out.trans k3, Or.inr ⟨hb, b, rfl, hrf⟩⟩
    · have e4 := exp_bad_st hb HS.out
      unfold refusal
      go_wp2
      exact ⟨rfl, K1.out.trans k2, Or.inr ⟨by rw [e4]; exact hb, b, rfl, by rw [e4]; exact hrf⟩⟩
  · have e3 : needS T (needS T st kName) kArrow = needS T st kName := need_bad hb
    have e4 := exp_bad_st (by rw [e3]; exact hb) HS.out
    rw [e3] at e4
    unfold refusal
    go_wp2
    exact ⟨rfl, HK0.out.trans k1, Or.inr ⟨by rw [e4]; exact hb, b, rfl, by rw [e4]; exact hrf⟩⟩
end Go.Proofs.YtcdijppegfcoaabGreatDoor
