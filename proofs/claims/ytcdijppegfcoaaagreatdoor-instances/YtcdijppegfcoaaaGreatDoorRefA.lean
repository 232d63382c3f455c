/-
  OUR OWN TEXT. typerref's reader: atom.
-/
import Derived.Test.YtcdijppegfcoaaaGreatDoorTree
import Derived.Deep.RegionWith
import Derived.Deep.RegionHeld3
import Derived.Deep.RegionLaw
import Derived.Deep.AppendLies
import Derived.Deep.DeepCutAuto
import Derived.Deep.CutBlock
namespace Go.Proofs.YtcdijppegfcoaaaGreatDoor
open Go.RowKit

/-- The list of tokens ends with one that is none, or the end, and no other is. -/
def Wf (T : List Tok) : Prop := 0 < T.length ∧ ∀ k, k < T.length → ((tk T k).is = kNone ∨ (tk T k).is = kEnd ↔ k + 1 = T.length)
theorem Wf.up {T : List Tok} (h : Wf T) {s : St} {x : List UInt8} (hk : s.k < T.length) (hi : isS T s x = true) (h1 : x ≠ kNone) (h2 : x ≠ kEnd) : s.k + 1 < T.length := by
  have e : (tk T s.k).is = x := by
    simp only [isS, Bool.and_eq_true, beq_iff_eq] at hi
    exact hi.2
  rcases Nat.lt_or_ge (s.k + 1) T.length with hlt | hge
  · exact hlt
  · have := (h.2 s.k hk).2 (by omega)
    rw [e] at this
    exact absurd this (by simp [h1, h2])
theorem Wf.need {T : List Tok} (h : Wf T) {s : St} {x : List UInt8} (hk : s.k < T.length) (h1 : x ≠ kNone) (h2 : x ≠ kEnd) : (needS T s x).k < T.length := by
  unfold needS
  split
  · rename_i hi; exact h.up hk hi h1 h2
  · exact hk

/-- What the reader's exp does, at one depth of the plain reader. -/
def EXP (T : List Tok) (n : Nat) : Prop := ∀ (w : World) (rb g cap : Nat) (H : Nat → Option Obj) (s : St) (ex : Ex) (s' : St), expS T n s = some (ex, s') → RS w rb g cap T s → s.k < T.length → Fz H w → H rb = none →
  Calls Tryz.prog 39 #[.pointer (some ⟨rb, 0, none⟩)] w fun e w' => ∃ b H' m, e = .returned (.pointer (some ⟨b, 0, none⟩)) ∧ RS w' rb g cap T s' ∧ s'.k < T.length ∧ Kept rb w w' ∧ Fz H' w' ∧ Ext w.heap.size H H' ∧ XRep m H' b ex

theorem kept_cell {rb : Nat} {w w' : World} (h : Kept rb w w') {b o : Nat} (hb : b < w.heap.size) (hn : b ≠ rb) : w'.cell? ⟨b, o, none⟩ = w.cell? ⟨b, o, none⟩ :=
  World.cell?_of_block (a := ⟨b, o, none⟩) (h.block b hb (by simp; exact hn))
theorem lit_name : ({ data := #[110, 97, 109, 101] } : ByteArray) = B kName := rfl

set_option maxRecDepth 100000 in
set_option maxHeartbeats 1000000 in
theorem atom_any (T : List Tok) (n : Nat) (hT : Wf T) (hE : EXP T n) (w : World) (rb g cap : Nat) (H : Nat → Option Obj) (s : St) (ex : Ex) (s' : St) (hs : atomS (expS T n) T s = some (ex, s')) (h : RS w rb g cap T s) (hk : s.k < T.length) (hz : Fz H w) (hr : H rb = none) :
    Calls Tryz.prog 77 #[.pointer (some ⟨rb, 0, none⟩)] w fun e w' => ∃ b H' m, e = .returned (.pointer (some ⟨b, 0, none⟩)) ∧ RS w' rb g cap T s' ∧ s'.k < T.length ∧ Kept rb w w' ∧ Fz H' w' ∧ Ext w.heap.size H H' ∧ XRep m H' b ex := by
  have hl := h.len
  have c0 := h.cell0
  have c1 := h.cell1
  obtain ⟨d0, d1, d2⟩ := h.cells s.k hk
  have hk1 : (s.k : Int) < (T.length : Int) := by omega
  have a0 := fun x => cell_past c0 x
  have a1 := fun x => cell_past c1 x
  have b0 := fun x => cell_past d0 x
  have b1 := fun x => cell_past d1 x
  have b2 := fun x => cell_past d2 x
  have hlt := lt_of_block h.r
  have HH := hid h
  have HZ := hid hz
  have HE := hid hE
  have HS := hid hs
  clear h hz hE hs
  go_enter Tryz.func77, Tryz.ntmps77
  go_wp2_with fail
  go_region
  go_wp2_with fail
  refine (take_any _ rb g cap T s kName (RS.drew (HH.out.alloc _)) hk).mono ?_
  rintro e w2 ⟨rfl, h2, hkept⟩
  have ht : w2.heap[w.heap.size]? = some (.cells #[.string (B (tk T s.k).is), .string (B (tk T s.k).s), .int .i64 ((tk T s.k).pos : Int)] 151 (0, 0)) := by
    rw [hkept.block _ (by simp) (by simp; omega)]
    exact heap_alloc_new _ _
  have k0 := cell_first ht
  have k1 := cell_second ht
  have k2 := cell_third ht
  have hkk : Kept rb w w2 := (((Kept.refl rb w).alloc _).drew).trans hkept
  have hz2 : Fz H w2 := (HZ.out.alloc _).drew.kept hkept hr
  have HZ2 := hid hz2
  have HKP := hid hkk
  have hw2 : w.heap.size < w2.heap.size := lt_of_block ht
  have HT := hid ht
  clear a0 a1 b0 b1 b2 c0 c1 d0 d1 d2 ht hkept hkk hz2 HZ
  cases hi : isS T s kName with
  | true =>
    have h3 : RS w2 rb g cap T s.up := by
      unfold takeS at h2
      rw [if_pos hi] at h2
      exact h2
    have H3 := hid h3
    have HI := hid hi
    clear h2 h3 hi
    go_wp2
    go_ret
    obtain ⟨H', z1, z2, z3⟩ := leaf_rep HZ2.out (tk T s.k).is (tk T s.k).s (tk T s.k).pos
    have e := HS.out
    unfold atomS at e
    rw [if_pos (Or.inl HI.out)] at e
    cases e
    exact ⟨w2.heap.size + 1, H', 1, rfl, (H3.out.alloc _).alloc _, hT.up hk HI.out (by decide) (by decide), (HKP.out.alloc _).alloc _, z1, ⟨z2.1, fun k hk => z2.2 k (by omega)⟩, z3⟩
  | false =>
    have h3 : RS w2 rb g cap T s := by
      unfold takeS at h2
      rw [if_neg (by rw [hi]; decide)] at h2
      exact h2
    have H3 := hid h3
    have HI := hid hi
    clear h2 h3 hi
    go_wp2_with fail
    refine (take_any _ rb g cap T s kNum H3.out hk).mono ?_
    rintro e w3 ⟨rfl, h4, hkept⟩
    have ht : w3.heap[w.heap.size]? = some (.cells #[.string (B (tk T s.k).is), .string (B (tk T s.k).s), .int .i64 ((tk T s.k).pos : Int)] 151 (0, 0)) := by
      rw [hkept.block _ hw2 (by simp; omega)]
      exact HT.out
    have j0 := cell_first ht
    have j1 := cell_second ht
    have j2 := cell_third ht
    have HK3 := hid (HKP.out.trans hkept)
    have HZ3 := hid (HZ2.out.kept hkept hr)
    have hw3 : w2.heap.size ≤ w3.heap.size := hkept.size
    have hw4 : w.heap.size < w3.heap.size := by omega
    have HT3 := hid ht
    clear ht hkept HKP HZ2 HT k0 k1 k2
    cases hi : isS T s kNum with
    | true =>
      have h5 : RS w3 rb g cap T s.up := by
        unfold takeS at h4
        rw [if_pos hi] at h4
        exact h4
      have H5 := hid h5
      have HI2 := hid hi
      clear h4 h5 hi
      go_wp2
      go_ret
      obtain ⟨H', z1, z2, z3⟩ := leaf_rep HZ3.out (tk T s.k).is (tk T s.k).s (tk T s.k).pos
      have e := HS.out
      unfold atomS at e
      rw [if_pos (Or.inr HI2.out)] at e
      cases e
      exact ⟨w3.heap.size + 1, H', 1, rfl, (H5.out.alloc _).alloc _, hT.up hk HI2.out (by decide) (by decide), (HK3.out.alloc _).alloc _, z1, ⟨z2.1, fun k hk => z2.2 k (by omega)⟩, z3⟩
    | false =>
      have h5 : RS w3 rb g cap T s := by
        unfold takeS at h4
        rw [if_neg (by rw [hi]; decide)] at h4
        exact h4
      have H5 := hid h5
      have HI2 := hid hi
      clear h4 h5 hi
      go_wp2_with fail
      refine (need_any _ rb g cap T s kOpen H5.out hk).mono ?_
      rintro e w4 ⟨rfl, h6, hkept⟩
      have hk6 : (needS T s kOpen).k < T.length := hT.need hk (by decide) (by decide)
      have hw5 : w3.heap.size ≤ w4.heap.size := hkept.size
      have ht : w4.heap[w.heap.size]? = some (.cells #[.string (B (tk T s.k).is), .string (B (tk T s.k).s), .int .i64 ((tk T s.k).pos : Int)] 151 (0, 0)) := by
        rw [hkept.block _ hw4 (by simp; omega)]
        exact HT3.out
      have HK4 := hid (HK3.out.trans hkept)
      have HZ4 := hid (HZ3.out.kept hkept hr)
      have HT4 := hid ht
      have H6 := hid h6
      obtain ⟨s1, hs1⟩ : ∃ s1, s1 = needS T s kOpen := ⟨_, rfl⟩
      rw [← hs1] at H6 hk6
      have HS1 := hid hs1
      have e := HS.out
      unfold atomS at e
      rw [if_neg (by rw [HI.out, HI2.out]; decide), ← hs1] at e
      have HEE := hid e
      clear h6 ht hkept HK3 HZ3 HT3 j0 j1 j2 hs1 e HS H5
      go_wp2_with fail
      cases hx : expS T n s1 with
      | none =>
        have e := HEE.out
        rw [hx] at e
        cases e
      | some p =>
        obtain ⟨x, s2⟩ := p
        have e := HEE.out
        rw [hx] at e
        dsimp only at e
        have HE2 := hid e
        refine (HE.out w4 rb g cap H s1 x s2 hx H6.out hk6 HZ4.out hr).mono ?_
        rintro e5 w5 ⟨b, H1, m, rfl, h7, hk7, hkept5, hz5, ext5, rep5⟩
        have hw6 : w4.heap.size ≤ w5.heap.size := hkept5.size
        have hr5 : H1 rb = none := by rw [ext5.2 rb (by omega)]; exact hr
        have ht : w5.heap[w.heap.size]? = some (.cells #[.string (B (tk T s.k).is), .string (B (tk T s.k).s), .int .i64 ((tk T s.k).pos : Int)] 151 (0, 0)) := by
          rw [hkept5.block _ (by omega) (by simp; omega)]
          exact HT4.out
        have HK5 := hid (HK4.out.trans hkept5)
        have HZ5 := hid hz5
        have HT5 := hid ht
        have H7 := hid h7
        have HX5 := hid ext5
        have HR5 := hid rep5
        clear ht h7 hkept5 hz5 ext5 rep5 e hx HEE H6 HZ4 HK4 HT4
        go_wp2_with fail
        refine (take_any _ rb g cap T s2 kComma H7.out hk7).mono ?_
        rintro e6 w6 ⟨rfl, h8, hkept⟩
        have hw7 : w5.heap.size ≤ w6.heap.size := hkept.size
        have ht : w6.heap[w.heap.size]? = some (.cells #[.string (B (tk T s.k).is), .string (B (tk T s.k).s), .int .i64 ((tk T s.k).pos : Int)] 151 (0, 0)) := by
          rw [hkept.block _ (by omega) (by simp; omega)]
          exact HT5.out
        have HK6 := hid (HK5.out.trans hkept)
        have HZ6 := hid (HZ5.out.kept hkept hr5)
        have HT6 := hid ht
        have q2 := cell_third ht
        have H8 := hid h8
        clear ht h8 hkept HK5 HZ5 HT5 H7
        cases hi : isS T s2 kComma with
        | true =>
          have HI3 := hid hi
          have hk8 : s2.k + 1 < T.length := hT.up hk7 hi (by decide) (by decide)
          have h9 : RS w6 rb g cap T s2.up := by
            have := H8.out
            unfold takeS at this
            rw [if_pos hi] at this
            exact this
          have e := HE2.out
          rw [if_pos hi] at e
          have H9 := hid h9
          clear hi h9 H8
          cases hx : expS T n s2.up with
          | none => rw [hx] at e; cases e
          | some p =>
            obtain ⟨y, s3⟩ := p
            rw [hx] at e
            dsimp only at e
            have HE3 := hid e
            have HX := hid hx
            clear e hx HE2
            go_wp2_with fail
            have hq := fun (wx : World) (h : Kept rb w6.drew wx) => (kept_cell h (b := w.heap.size) (o := 2) (by show w.heap.size < w6.heap.size; omega) (by omega)).trans q2
            have HQ := hid hq
            clear hq
            go_region_held3 (fun wx => wx.cell? ⟨w.heap.size, 2, none⟩ = some (.int .i64 ((tk T s.k).pos : Int))) (first | assumption | go_keep) (first | (go_at_call 39; refine (HE.out _ rb g cap H1 s2.up y s3 HX.out ?_ hk8 ?_ hr5).mono ?_; exact (RS.drew H9.out); exact HZ6.out.drew; rintro e7 w7 ⟨c, H2, m2, rfl, h10, hk10, hkept7, hz7, ext7, rep7⟩; have q3 := HQ.out _ hkept7; have H10 := hid h10; have HK7 := hid hkept7; have HZ7 := hid hz7; have HX7 := hid ext7; have HR7 := hid rep7; clear h10 hkept7 hz7 ext7 rep7))
            go_wp2_with fail
            obtain ⟨H3, m3, z1, z2, z3⟩ := two_rep HZ7.out oPair (tk T s.k).pos (XRep.ext HX7.out _ _ _ HR5.out) HR7.out
            have hw8 : w6.heap.size ≤ w7.heap.size := HK7.out.size
            have hr7 : H2 rb = none := by rw [HX7.out.2 rb (by show rb < w6.heap.size; omega)]; exact hr5
            have hr8 : H3 rb = none := by rw [z2.2 rb (by omega)]; exact hr7
            have HZ8 := hid z1
            have HX8 := hid z2
            have HR8 := hid z3
            clear z1 z2 z3
            refine (need_any _ rb g cap T s3 kShut ((H10.out.alloc _).alloc _) hk10).mono ?_
            rintro e8 w8 ⟨rfl, h11, hkept8⟩
            have H11 := hid h11
            have HZ9 := hid (HZ8.out.kept hkept8 hr8)
            have HK9 := hid (((((HK6.out.drew).trans HK7.out).alloc _).alloc _).trans hkept8)
            clear h11 hkept8
            go_wp2
            go_ret
            have e := HE3.out
            cases e
            have ee : Ext w.heap.size H H3 := (Ext.trans ⟨HX5.out.1, fun k hk => HX5.out.2 k (by omega)⟩ HX7.out (by show w.heap.size ≤ w6.heap.size; omega)).trans HX8.out (by omega)
            exact ⟨w7.heap.size + 1, H3, m3, rfl, H11.out, hT.need hk10 (by decide) (by decide), HK9.out, HZ9.out, ee, HR8.out⟩
        | false =>
          have h9 : RS w6 rb g cap T s2 := by
            have := H8.out
            unfold takeS at this
            rw [if_neg (by rw [hi]; decide)] at this
            exact this
          have e := HE2.out
          rw [if_neg (by rw [hi]; decide)] at e
          cases e
          have H9 := hid h9
          clear hi h9 H8 HE2
          go_wp2_with fail
          refine (need_any _ rb g cap T s2 kShut H9.out hk7).mono ?_
          rintro e w7 ⟨rfl, h10, hkept⟩
          have H10 := hid h10
          have HK7 := hid (HK6.out.trans hkept)
          have HZ7 := hid (HZ6.out.kept hkept hr5)
          clear h10 hkept
          go_wp2
          go_ret
          exact ⟨b, H1, m, rfl, H10.out, hT.need hk7 (by decide) (by decide), HK7.out, HZ7.out, ⟨HX5.out.1, fun k hk => HX5.out.2 k (by omega)⟩, HR5.out⟩
end Go.Proofs.YtcdijppegfcoaaaGreatDoor
