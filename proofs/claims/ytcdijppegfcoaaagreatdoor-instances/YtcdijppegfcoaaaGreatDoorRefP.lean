/-
  OUR OWN TEXT. typerref's reader: exp, where an atom begins.
-/
import Derived.Test.YtcdijppegfcoaaaGreatDoorRefE
namespace Go.Proofs.YtcdijppegfcoaaaGreatDoor
open Go.RowKit

/-- Behind the first atom: what has been read lies at block b. -/
def AIn (T : List Tok) (w0 w : World) (rb g cap : Nat) (H0 : Nat → Option Obj) (s : St) (b : Nat) (x : Ex) : Prop :=
  ∃ H m, RS w rb g cap T s ∧ s.k < T.length ∧ Kept rb w0 w ∧ Fz H w ∧ Ext w0.heap.size H0 H ∧ XRep m H b x
theorem AIn.at {T : List Tok} {w0 w : World} {rb g cap : Nat} {H0 : Nat → Option Obj} {s : St} {b : Nat} {x : Ex} (h : AIn T w0 w rb g cap H0 s b x) : ∃ p q r, w.heap[b]? = some (.cells #[p, q, r, .int .i64 (x.pos : Int)] 86 (0, 0)) := by
  obtain ⟨H, m, _, _, _, hz, _, hx⟩ := h
  cases m with
  | zero => exact absurd hx id
  | succ m =>
    obtain ⟨ns, ks, bs, h1, _⟩ := hx
    exact ⟨_, ns, ks, hz _ _ h1⟩

def moreS (T : List Tok) (t : St) : Bool := isS T t kName || (isS T t kNum || isS T t kOpen)
theorem more_iff {T : List Tok} {t : St} : moreS T t = true ↔ (isS T t kName = true ∨ isS T t kNum = true ∨ isS T t kOpen = true) := by simp [moreS]
theorem rep_some {m : Nat} {H : Nat → Option Obj} {b : Nat} {x : Ex} (h : XRep m H b x) : H b ≠ none := by
  cases m with
  | zero => exact absurd h id
  | succ m =>
    obtain ⟨ns, ks, bs, h1, _⟩ := h
    rw [h1]
    exact fun e => by cases e

set_option maxRecDepth 100000 in
set_option maxHeartbeats 4000000 in
theorem exp_app (T : List Tok) (n : Nat) (hT : Wf T) (hE : EXP T n) (w : World) (rb g cap : Nat) (H : Nat → Option Obj) (s : St) (h : RS w rb g cap T s) (hk : s.k < T.length) (hz : Fz H w) (hr : H rb = none) (hb : s.bad < 0) (hn : isS T s kFun = false) (hn2 : isS T s kIf = false) (hn3 : isS T s kLet = false)
    (x : Ex) (s1 : St) (ex : Ex) (s' : St) (hs : atomS (expS T n) T s = some (x, s1)) (ha : appS (atomS (expS T n) T) T (T.length + 1) x s1 = some (ex, s')) :
    Calls Tryz.prog 39 #[.pointer (some ⟨rb, 0, none⟩)] w fun e w' => ∃ b, e = .returned (.pointer (some ⟨b, 0, none⟩)) ∧ EPost T w w' rb g cap b H s' ex := by
  have hl := h.len
  have c0 := h.cell0
  have c1 := h.cell1
  have c2 := h.cell2
  obtain ⟨d0, d1, d2⟩ := h.cells s.k hk
  have hk1 : (s.k : Int) < (T.length : Int) := by omega
  have a0 := fun x => cell_past c0 x
  have a1 := fun x => cell_past c1 x
  have a2 := fun x => cell_past c2 x
  have b2 := fun x => cell_past d2 x
  have hlt := lt_of_block h.r
  have hd : decide (0 ≤ s.bad) = false := by simp; omega
  have H1 := hid ((h.alloc (.cells #[.string (B []), .slice none 0 0, .slice none 0 0, .int .i64 ((tk T s.k).pos : Int)] 86)).drew)
  have K1 := hid (((Kept.refl rb w).alloc (.cells #[.string (B []), .slice none 0 0, .slice none 0 0, .int .i64 ((tk T s.k).pos : Int)] 86)).drew)
  have Z1 := hid ((hz.alloc (.cells #[.string (B []), .slice none 0 0, .slice none 0 0, .int .i64 ((tk T s.k).pos : Int)] 86)).drew)
  have HE := hid hE
  have HN := hid hn
  have HN2 := hid hn2
  have HN3 := hid hn3
  have HS := hid hs
  have HA := hid ha
  clear h hz d0 d1 hE hn hn2 hn3 hs ha
  go_enter Tryz.func39, Tryz.ntmps39
  go_wp2_with fail
  go_region
  go_wp2_with fail
  refine (take_any _ rb g cap T s kFun H1.out hk).mono ?_
  rintro e2 w2 ⟨he2, h2, kp2⟩
  rw [HN.out] at he2
  subst he2
  have R2 := hid (show RS w2 rb g cap T s by unfold takeS at h2; rw [if_neg (by rw [HN.out]; decide)] at h2; exact h2)
  have K2 := hid (K1.out.trans kp2)
  have Z2 := hid (Z1.out.kept kp2 hr)
  clear a0 a1 a2 b2 c0 c1 c2 d2 H1 K1 Z1 h2 kp2
  go_wp2_with fail
  refine (take_any _ rb g cap T s kIf R2.out hk).mono ?_
  rintro e3 w3 ⟨he3, h3, kp3⟩
  rw [HN2.out] at he3
  subst he3
  have R3 := hid (show RS w3 rb g cap T s by unfold takeS at h3; rw [if_neg (by rw [HN2.out]; decide)] at h3; exact h3)
  have K3 := hid (K2.out.trans kp3)
  have Z3 := hid (Z2.out.kept kp3 hr)
  clear R2 K2 Z2 h3 kp3
  go_wp2_with fail
  refine (take_any _ rb g cap T s kLet R3.out hk).mono ?_
  rintro e4 w4 ⟨he4, h4, kp4⟩
  rw [HN3.out] at he4
  subst he4
  have R4 := hid (show RS w4 rb g cap T s by unfold takeS at h4; rw [if_neg (by rw [HN3.out]; decide)] at h4; exact h4)
  have K4 := hid (K3.out.trans kp4)
  have Z4 := hid (Z3.out.kept kp4 hr)
  clear R3 K3 Z3 h4 kp4
  go_wp2_with fail
  refine (atom_any T n hT HE.out _ rb g cap H s x s1 HS.out R4.out hk Z4.out hr).mono ?_
  rintro e5 w5 ⟨b, H5, m5, rfl, h5, hk5, kp5, hz5, ext5, rep5⟩
  have hw4 : w.heap.size ≤ w4.heap.size := K4.out.size
  have A5 := hid (show AIn T w w5 rb g cap H s1 b x from ⟨H5, m5, h5, hk5, K4.out.trans kp5, hz5, ⟨ext5.1, fun k hk => ext5.2 k (by omega)⟩, rep5⟩)
  clear h5 hk5 kp5 hz5 ext5 rep5 R4 K4 Z4
  go_wp2_with fail
  go_loopg [3] (T.length + 1) (fun gh v wi => ∃ b y t, v = .pointer (some ⟨b, 0, none⟩) ∧ AIn T w wi rb g cap H t b y ∧ Hid (appS (atomS (expS T n) T) T gh y t = some (ex, s')))
  case atStart => exact ⟨b, x, s1, rfl, A5.out, HA⟩
  case round =>
    obtain ⟨b1, y, t, rfl, ain, HAP⟩ := hrel
    clear A5 HA
    obtain ⟨p, q, r, hblk⟩ := ain.at
    have hcell := (four_cells hblk).2.2.2.1
    have hbl := lt_of_block hblk
    obtain ⟨H6, m6, r6, k6, kp6, z6, ext6, rep6⟩ := ain
    have hHr : H6 rb = none := by rw [ext6.2 rb hlt]; exact hr
    have R6 := hid r6
    have A6 := hid (And.intro kp6 (And.intro z6 (And.intro ext6 rep6)))
    have hw6 : w.heap.size ≤ wr.heap.size := kp6.size
    clear hblk r6 kp6 z6 ext6 rep6
    cases gk with
    | zero => exact absurd HAP.out (by simp [appS])
    | succ F =>
      go_upto_region 3 with fail
      go_cut [28] from 19 to 38 (fun v wx => v = .bool (moreS T t) ∧ ∃ q, wx = wr.drewN q)
      case first =>
        cases i1 : isS T t kName with
        | true =>
          have HM := hid (show moreS T t = true by simp [moreS, i1])
          go_wp2_with fail
          refine (is_any _ rb g cap T t kName R6.out k6).mono ?_
          rintro e7 w7 ⟨he7, n7, rfl⟩
          rw [i1] at he7
          subst he7
          clear i1
          go_wp2_with fail
          go_meet
          case rel => exact ⟨by rw [HM.out], n7, rfl⟩
        | false =>
          cases i2 : isS T t kNum with
          | true =>
            have HM := hid (show moreS T t = true by simp [moreS, i2])
            go_wp2_with fail
            refine (is_any _ rb g cap T t kName R6.out k6).mono ?_
            rintro e7 w7 ⟨he7, n7, rfl⟩
            rw [i1] at he7
            subst he7
            go_wp2_with fail
            refine (is_any _ rb g cap T t kNum (R6.out.drewN _) k6).mono ?_
            rintro e8 w8 ⟨he8, n8, rfl⟩
            rw [i2] at he8
            subst he8
            clear i1 i2
            go_wp2_with fail
            go_meet
            case rel => exact ⟨by rw [HM.out], _, rfl⟩
          | false =>
            have HM := hid (show moreS T t = isS T t kOpen by simp [moreS, i1, i2])
            go_wp2_with fail
            refine (is_any _ rb g cap T t kName R6.out k6).mono ?_
            rintro e7 w7 ⟨he7, n7, rfl⟩
            rw [i1] at he7
            subst he7
            go_wp2_with fail
            refine (is_any _ rb g cap T t kNum (R6.out.drewN _) k6).mono ?_
            rintro e8 w8 ⟨he8, n8, rfl⟩
            rw [i2] at he8
            subst he8
            go_wp2_with fail
            refine (is_any _ rb g cap T t kOpen (R6.out.drewN _) k6).mono ?_
            rintro e9 w9 ⟨rfl, n9, rfl⟩
            clear i1 i2
            go_wp2_with fail
            go_meet
            case rel => exact ⟨by rw [HM.out], _, rfl⟩
      case rest =>
        obtain ⟨rfl, q9, hwc⟩ := hcut
        rename World => w9
        have hc9 : w9.cell? ⟨b1, 3, none⟩ = some (.int .i64 (y.pos : Int)) := by rw [hwc]; exact hcell
        have R9 := hid (show RS w9 rb g cap T t by rw [hwc]; exact R6.out.drewN _)
        have A9 := hid (show Kept rb w w9 ∧ Fz H6 w9 ∧ Ext w.heap.size H H6 ∧ XRep m6 H6 b1 y by rw [hwc]; exact ⟨A6.out.1.drewN _, A6.out.2.1, A6.out.2.2.1, A6.out.2.2.2⟩)
        have hbl9 : b1 < w9.heap.size := by rw [hwc]; exact hbl
        clear hwc R6 A6 hcell hbl
        cases hm : moreS T t with
        | true =>
          have e := HAP.out
          rw [appS, if_pos (more_iff.1 hm)] at e
          cases hx : atomS (expS T n) T t with
          | none => rw [hx] at e; cases e
          | some pr =>
            obtain ⟨z, t2⟩ := pr
            rw [hx] at e
            dsimp only at e
            have HE2 := hid e
            have HX := hid hx
            have HAT := hid (fun (wx : World) (hrs : RS wx rb g cap T t) (hfz : Fz H6 wx) => atom_any T n hT HE.out wx rb g cap H6 t z t2 HX.out hrs k6 hfz hHr)
            have HQ := hid (fun (wx : World) (h : Kept rb w9.drew wx) => (kept_cell h (b := b1) (o := 3) hbl9 (by have := A9.out.2.2.1.2 rb hlt; intro e'; rw [← e'] at hHr; exact absurd hHr (rep_some A9.out.2.2.2))).trans hc9)
            clear e hx HAP hm
            go_wp2_with fail
            go_region_held3 (fun wx => wx.cell? ⟨b1, 3, none⟩ = some (.int .i64 (y.pos : Int))) (first | assumption | go_keep) (first | (go_at_call 77; refine (HAT.out _ ?_ ?_).mono ?_; exact (RS.drew R9.out); exact A9.out.2.1.drew; rintro e7 w7 ⟨c, H7, m7, rfl, h10, hk10, hkept7, hz7, ext7, rep7⟩; have q3 := HQ.out _ hkept7; have H10 := hid h10; have HK7 := hid hkept7; have HZ7 := hid hz7; have HX7 := hid ext7; have HR7 := hid rep7; have hbl7 : b1 < w7.heap.size := Nat.lt_of_lt_of_le hbl9 hkept7.size; clear h10 hkept7 hz7 ext7 rep7))
            go_wp2_with fail
            go_roundg F
            case measure => omega
            case rel =>
              obtain ⟨H8, m8, z1, z2, z3⟩ := two_rep HZ7.out oApp y.pos (XRep.ext HX7.out _ _ _ A9.out.2.2.2) HR7.out
              have hw9 : w.heap.size ≤ w9.heap.size := A9.out.1.size
              have hw7 : w9.heap.size ≤ w7.heap.size := HK7.out.size
              exact ⟨w7.heap.size + 1, ⟨oApp, [], [y, z], y.pos⟩, t2, rfl, ⟨H8, m8, (H10.out.alloc _).alloc _, hk10, (((A9.out.1.drew).trans HK7.out).alloc _).alloc _, z1, (A9.out.2.2.1.trans HX7.out (by show w.heap.size ≤ w9.heap.size; omega)).trans z2 (by omega), z3⟩, HE2⟩
        | false =>
          have e := HAP.out
          rw [appS, if_neg (fun h => by rw [more_iff.2 h] at hm; cases hm)] at e
          cases e
          clear HAP hm
          go_wp2
          go_ret
          exact ⟨b1, rfl, H6, m6, R9.out, k6, A9.out.1, A9.out.2.1, A9.out.2.2.1, A9.out.2.2.2⟩
end Go.Proofs.YtcdijppegfcoaaaGreatDoor
