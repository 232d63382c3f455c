/-
  OUR OWN TEXT. The program's reader: let rec.
-/
import Derived.Test.YtfangljlgfcdpaaGreatDoorPRecB
namespace Go.Proofs.YtfangljlgfcdpaaGreatDoor
open Go.RowKit

theorem twice_same {names : List (List UInt8)} {nm : List UInt8} {p : Nat} {st : St} (h : ¬ (nm ∈ names ∧ st.bad < 0)) : twiceS names nm p st = st := by
  unfold twiceS
  rw [if_neg h]

theorem own_exp1 (w : World) (u : Value) : (w.alloc (.cells #[u] 114)).ownsRow w.heap.size 114 1 (.slice (some ⟨w.heap.size, 0, none⟩) 1 1) 1 [u] :=
  ⟨rfl, Or.inr ⟨w.heap.size, 1, #[u], rfl, Nat.le_refl _, heap_alloc_new _ _, by omega, by unfold maxLen; omega, rfl, rfl⟩⟩
theorem grown_own {a b c : World} {row : Option Nat} (h : a.grownBy b none) (hg : b.grownBy c row) (hr : ∀ k, some k = row → a.heap.size ≤ k) : a.grownBy c none :=
  ⟨hg.os.trans h.os, hg.tape.trans h.tape, hg.output.trans h.output, Nat.le_trans h.size hg.size, fun k hk hn => by
    rw [hg.block k (Nat.lt_of_lt_of_le hk h.size) (fun e => by have := hr k e; omega)]
    exact h.block k hk hn⟩
theorem own_row {w : World} {base n : Nat} {v : Value} {xs : List Value} (h : w.ownsRow base 114 1 v n xs) (h0 : 0 < n) : ∃ g cap, v = .slice (some ⟨g, 0, none⟩) n cap ∧ g < w.heap.size ∧ ∀ (i : Nat) (u : Value), xs[i]? = some u → w.cell? ⟨g, i, none⟩ = some u := by
  obtain ⟨h1, h2⟩ := h
  rcases h2 with ⟨_, h3⟩ | ⟨g, cap, cur, e1, e2, e3, e4, e5, e6, e7⟩
  · omega
  · refine ⟨g, cap, e1, lt_of_block e3, fun i u hu => ?_⟩
    rw [← e7, List.getElem?_take] at hu
    split at hu
    · simp only [World.cell?, e3]
      simpa using hu
    · cases hu
theorem maxl_cons (a : Nat) (l : List Nat) : maxl (a :: l) = maxl (l ++ [a]) := by
  rw [maxl_snoc]
  unfold maxl
  rw [List.foldl_cons, foldl_max]
  omega
theorem maxl_le {l : List Nat} {b : Nat} (h : ∀ a, a ∈ l → a ≤ b) : maxl l ≤ b := by
  induction l with
  | nil => simp [maxl]
  | cons a l ih =>
    rw [maxl_cons, maxl_snoc]
    have := ih (fun x hx => h x (List.mem_cons_of_mem _ hx))
    have := h a (List.mem_cons_self ..)
    omega

set_option maxRecDepth 100000 in
set_option maxHeartbeats 8000000 in
theorem letRec_p (T : List Tok) (n : Nat) (hl : T.length ≤ 400) (hE : EXPP T n) (w : World) (rb : Nat) (s : ByteArray) (H : Nat → Option Obj) (st : St) (x y b : Ex) (s1 s2 s3 : St) (p : Nat)
    (hx : boundS (expS T n) T ⟨kRec, [], [], p⟩ st = some (x, s1)) (hy : bindsS (expS T n) T (T.length + 1) x s1 = some (y, s2)) (hw : expS T n (needS T s2 kIn) = some (b, s3)) (h : PSt exKw w rb s T st) (hz : Fz H w) (hr : H rb = none) :
    Calls Tryz.prog 125 #[rdV rb] w fun e w' => EOut w w' rb s T H st.k s3 e ⟨y.op, y.names, y.kids ++ [b], y.pos⟩ := by
  have hlt := h.lt
  have HP := hid (h.alloc (.cells #[.pointer (some ⟨rb, 0, none⟩)] 164))
  have HZ := hid (hz.alloc (.cells #[.pointer (some ⟨rb, 0, none⟩)] 164))
  have HE := hid hE
  have K0 := hid ((Kept.refl rb w).alloc (.cells #[.pointer (some ⟨rb, 0, none⟩)] 164))
  have F2 := hid (show 0 ≤ s2.bad → s3 = s2 from fun hb => by
    have e := exp_bad_st (by rw [need_bad hb]; exact hb) hw
    rw [e, need_bad hb])
  have F3 := hid (show 0 ≤ (needS T s2 kIn).bad → s3 = needS T s2 kIn from fun hb => exp_bad_st hb hw)
  unfold boundS at hx
  rw [twice_same (by simp)] at hx
  dsimp only at hx
  cases hex : expS T n (needS T (needS T st kName) kEq) with
  | none => rw [hex] at hx; cases hx
  | some q =>
  obtain ⟨a, s1'⟩ := q
  rw [hex] at hx
  cases hx
  have HX := hid hex
  have HY := hid hy
  have HW := hid hw
  obtain ⟨J0, hat0, _⟩ := h.place
  have HNM := hid (show (tk T st.k).is = kName → NmOK (tk T st.k).s from fun e => name_ok hat0 e)
  have hnegs := h.neg
  clear h hz hE hex hy hw hat0
  unfold rdV
  go_enter Tryz.func125, Tryz.ntmps125
  go_wp2_with fail
  refine (bind_p T n HE.out _ rb s H st a s1 HX.out HP.out HZ.out hr).mono ?_
  rintro e w1 ⟨k1, (⟨t1, b1, H1, m1, ht1, rfl, p1, z1, e1, r1, d1⟩ | ⟨hb, bb, rfl, hrf⟩)⟩
  case inr =>
    have e4 := binds_bad hb HY.out
    have e5 := F2.out (by rw [e4]; exact hb)
    rw [e4] at e5
    unfold refusal
    go_wp2
    exact ⟨rfl, K0.out.trans k1, Or.inr ⟨by rw [e5]; exact hb, bb, rfl, by rw [e5]; exact hrf⟩⟩
  case inl =>
  have hnm0 : (needS T st kName).bad < 0 := by
    rcases Int.lt_or_le (needS T st kName).bad 0 with h | h
    · exact h
    · have e3 : needS T (needS T st kName) kEq = needS T st kName := need_bad h
      have e4 := exp_bad_st (by rw [e3]; exact h) HX.out
      have := p1.neg
      rw [e4, e3] at this
      omega
  have hnmk : (tk T st.k).is = kName := by
    cases hi : isS T st kName with
    | true => exact isS_is hi
    | false =>
      rw [need_no hnegs hi] at hnm0
      simp at hnm0
      omega
  have RI0 := hid (RI.start (T := T) (st := st) p hlt (HNM.out hnmk) k1 p1 z1 e1 r1 d1)
  have hw1 : w.heap.size < w1.heap.size := by have := k1.size; simp at this; omega
  have bx1 : w1.cell? ⟨w.heap.size, 0, none⟩ = some (.pointer (some ⟨rb, 0, none⟩)) := by
    rw [kept_cell k1 (by simp) (by omega)]
    simp [go_sem]
  clear k1 p1 z1 e1 r1 d1 hnm0 hnmk HNM HP HZ K0
  go_wp2_with fail
  go_loopg [3] (T.length + 1) (fun g v wi => ∃ yy sy us Hi m, Hid (bindsS (expS T n) T g yy sy = some (y, s2)) ∧ Hid (RI T w wi rb s H st.k v yy sy us Hi m))
  case atStart => exact ⟨_, _, _, _, _, HY, RI0⟩
  case round =>
    obtain ⟨yy, sy, us, Hi, m, BB, RR⟩ := hrel
    rename World => w2
    obtain ⟨F, rfl⟩ : ∃ F, gk = F + 1 := by
      cases gk with
      | zero => have := BB.out; simp [bindsS] at this
      | succ F => exact ⟨F, rfl⟩
    have bx2 := RR.out.box
    go_wp2_with fail
    refine (skips_p exKw exKw_ok _ rb s T sy kAnd RR.out.st (Or.inl (by decide))).mono ?_
    rintro e w3 ⟨rfl, p3, k3⟩
    have e4 := BB.out
    rw [bindsS] at e4
    cases hi : isS T sy kAnd with
    | false =>
      rw [if_neg (by rw [hi]; simp)] at e4
      cases e4
      rw [take_no hi] at p3
      have R3 := hid (RR.out.step k3 p3 (Nat.le_refl _) hlt hr)
      have bx3 := R3.out.box
      clear hi p3 k3 BB RR RI0 HY bx2
      go_wp2_with fail
      refine (must_p exKw exKw_ok _ rb s T s2 kIn R3.out.st (Or.inl (by decide))).mono ?_
      rintro e w4 ⟨k4, (⟨rfl, p4⟩ | ⟨hb, bb, rfl, hrf⟩)⟩
      case inr =>
        have e5 := F3.out hb
        unfold refusal
        go_wp2
        exact ⟨rfl, R3.out.kept.trans k4, Or.inr ⟨by rw [e5]; exact hb, bb, rfl, by rw [e5]; exact hrf⟩⟩
      case inl =>
      have R4 := hid (R3.out.step k4 p4 need_k hlt hr)
      have bx4 := R4.out.box
      clear R3 bx3 k4 p4
      go_wp2_with fail
      refine (HE.out _ rb s Hi _ b s3 HW.out R4.out.st R4.out.fz (R4.out.rb hlt hr)).mono ?_
      rintro e w5 ⟨k5, (⟨v5, H5, m5, rfl, p5, z5, e5, r5, d5⟩ | ⟨hb, bb, rfl, hrf⟩)⟩
      case inr =>
        unfold refusal
        go_wp2
        exact ⟨rfl, R4.out.kept.trans k5, Or.inr ⟨hb, bb, rfl, hrf⟩⟩
      case inl =>
      obtain ⟨t5, b5, ht5, rfl, hb5, hc5⟩ := r5.dat z5
      have own5 := own_kept R4.out.own k5 (by omega)
      obtain ⟨g, cap, rfl, hg1, hg2, hga⟩ := own_gat own5 R4.out.ulen R4.out.some' R4.out.allx
      have hnl : y.names.length ≤ 400 := by have := R4.out.count; have := R4.out.st.klt; omega
      have hul := R4.out.ulen
      have hs5 : w.heap.size < w5.heap.size := Nat.lt_of_lt_of_le R4.out.more k5.size
      have Q5 := hid (And.intro k5 (And.intro p5 (And.intro z5 (And.intro e5 (And.intro r5 d5)))))
      have GA := hid hga
      have O5 := hid own5
      obtain ⟨i1, hi, hz0, hz1, hz2⟩ := info_parts info_exp
      clear k5 p5 z5 e5 r5 d5 hb5 hc5 own5 hga bx4
      go_wp2_with fail
      go_loopg [5, 34] (y.names.length + 1) (fun q bv i wi => ∃ j : Nat, j ≤ y.names.length ∧ i = .int .i64 j ∧ q = y.names.length - j + 1 ∧ Hid (wi.ownsRow w5.heap.size 114 1 bv (j + 1) ((.iface t5 (.pointer (some ⟨b5, 0, none⟩))) :: us.take j)) ∧ Hid (w5.grownBy wi none))
      case atStart => exact ⟨0, by omega, rfl, by omega, own_exp1 _ _, World.grownBy_alloc _ _ _⟩
      case round =>
        obtain ⟨j, hj, rfl, hq, OW, GR⟩ := hrel
        rename World => w6
        by_cases hlt6 : j < y.names.length
        · obtain ⟨nm, hnm⟩ : ∃ nm, y.names[j]? = some nm := ⟨y.names[j], List.getElem?_eq_getElem _⟩
          obtain ⟨u, hu⟩ : ∃ u, us[j]? = some u := ⟨us[j]'(by omega), List.getElem?_eq_getElem _⟩
          obtain ⟨c0, c1, _⟩ := (GA.out.grown GR.out).2.2 j nm u hnm hu
          obtain ⟨t6, b6, rfl⟩ := R4.out.allx u (List.mem_of_getElem? hu)
          have hj2 : (j : Int) < (y.names.length : Int) := by omega
          have own6 := OW.out
          have HU := hid hu
          have hs6 : w5.heap.size ≤ w6.heap.size := GR.out.size
          clear hu
          go_wp2_with (at_builtin; refine wpList_append_lies _ rfl (.tmp 38) (.tmp 41) 323 rfl w5.heap.size 114 i1 .nilIface 1 16 Tryz.underlying323 hi hz0 hz1 hz2 rfl (by decide) _ _ _ rfl ((own6.alloc _).alloc _) ⟨w6.heap.size + 1, 0, none⟩ 1 1 [(.iface t6 (.pointer (some ⟨b6, 0, none⟩)))] rfl rfl ?d1 ?d2 (by decide) ?d3 ?d4 ?d5 (w6.heap.size + 2) ?d6 ?_)
          case d1 =>
            intro q uu hq'
            have := one_new (w6.alloc (.cells #[.string (B nm), (.iface t6 (.pointer (some ⟨b6, 0, none⟩)))] 185)) (.iface t6 (.pointer (some ⟨b6, 0, none⟩))) 114 q uu hq'
            simpa using this
          case d2 => exact exp_one _ _
          case d3 => unfold maxLen; omega
          case d4 => omega
          case d5 => simp; omega
          case d6 => simp
          intro g7 cap7 w7 hown7 hgrow7 _ _
          have ON := hid hown7
          have GN := hid (grown_own ((GR.out.trans (World.grownBy_alloc _ _ _)).trans (World.grownBy_alloc _ _ _)) hgrow7 (fun k e => (own_lt own6 e).1))
          clear hown7 hgrow7 own6 c0 c1
          go_wp2_with fail
          go_roundg (y.names.length - (j + 1) + 1)
          case measure => omega
          case rel =>
            refine ⟨j + 1, by omega, by go_num, rfl, ?_, GN⟩
            have e : us.take (j + 1) = us.take j ++ [(.iface t6 (.pointer (some ⟨b6, 0, none⟩)))] := by rw [List.take_add_one, HU.out]; rfl
            rw [e]
            exact ON
        · have hj3 : j = y.names.length := by omega
          subst hj3
          have own6 := OW.out
          rw [List.take_of_length_le (by omega)] at own6
          obtain ⟨g6, cap6, rfl, hg6, hrow6⟩ := own_row own6 (by omega)
          have ulen := R4.out.ulen
          have klen := R4.out.klen
          have hs6 : w5.heap.size ≤ w6.heap.size := GR.out.size
          obtain ⟨M, hM⟩ : ∃ M, M = max m m5 := ⟨_, rfl⟩
          obtain ⟨k5, p5, z5, e5, r5, d5⟩ := Q5.out
          have hs3 := p5.klt
          have RB : Hid (PRep M H5 (.iface t5 (.pointer (some ⟨b5, 0, none⟩))) b) := r5.le (by omega)
          have RK : Hid (∀ (i : Nat) (k : Ex) (u : Value), us[i]? = some u → y.kids[i]? = some k → PRep M H5 u k) := fun i k u h1 h2 => (PRep.ext e5 _ _ _ (R4.out.reps i k u h1 h2)).le (by omega)
          have Z6 := hid (z5.grown GR.out)
          have hnk : (needS T s2 kIn).k = s2.k + 1 := need_good R4.out.st.neg
          have DK : Hid (∀ k, k ∈ y.kids → exDeep M k + st.k + 1 ≤ s3.k) := fun k hk => by
            obtain ⟨i, hi, rfl⟩ := List.mem_iff_getElem.1 hk
            have hui : i < us.length := by omega
            have hr' := R4.out.reps i (y.kids[i]) (us[i]) (List.getElem?_eq_getElem hui) (List.getElem?_eq_getElem hi)
            rw [deep_le (PRep.shape _ _ _ hr') (show m ≤ M by omega)]
            have := R4.out.deep _ hk
            have := deep_pos r5
            omega
          have DB : Hid (exDeep M b + st.k + 1 ≤ s3.k) := by
            show exDeep M b + st.k + 1 ≤ s3.k
            rw [deep_le (PRep.shape _ _ _ r5) (show m5 ≤ M by omega)]
            have := R4.out.count
            have := R4.out.some'
            omega
          have hml : maxl (exDeep M b :: y.kids.map (exDeep M)) + 1 + st.k ≤ s3.k := by
            have : maxl (exDeep M b :: y.kids.map (exDeep M)) ≤ s3.k - st.k - 1 := maxl_le fun a ha => by
              rcases List.mem_cons.1 ha with rfl | ha
              · have := DB.out; omega
              · obtain ⟨k, hk, rfl⟩ := List.mem_map.1 ha
                have := DK.out k hk
                omega
            have := DB.out
            omega
          have AB := above_p w6 (some ⟨g6, 0, none⟩) cap6 ((.iface t5 (.pointer (some ⟨b5, 0, none⟩))) :: us) (exDeep M b :: y.kids.map (exDeep M)) (by simp; omega) (by simp; omega) (fun i u hu => ⟨g6, rfl, hg6, hrow6 i u hu⟩)
            (fun i u d h1 h2 => by
              cases i with
              | zero => simp at h1 h2; subst h1 h2; exact RB.out.dat Z6.out
              | succ i =>
                simp only [List.getElem?_cons_succ, List.getElem?_map, Option.map_eq_some_iff] at h1 h2
                obtain ⟨k, hk, rfl⟩ := h2
                exact (RK.out i k u h1 hk).dat Z6.out) (by omega)
          have hln : ((.iface t5 (.pointer (some ⟨b5, 0, none⟩))) :: us).length = y.names.length + 1 := by simp [ulen]
          rw [hln] at AB
          obtain ⟨_, hO⟩ := O5.out
          rcases hO with ⟨hO, _⟩ | ⟨gg, cc, cur, hO1, hO2, hO3, hO4, hO5, hO6, hO7⟩
          · cases hO
          cases hO1
          have hfree : H5 g = none := by
            rw [e5.2 g (own_lt R4.out.own (k := g) rfl).2]
            exact R4.out.free g rfl
          have CUR := hid (And.intro hO3 (And.intro hO7 hfree))
          have ABH := hid AB
          have HML := hid hml
          have K5 := hid (R4.out.kept.trans k5)
          have P5 := hid p5
          have E5 := hid (R4.out.ext.trans (e5.from (n := w.heap.size) (Nat.le_of_lt R4.out.more)) (Nat.le_refl _))
          have hop := hid R4.out.op
          have hsm := hid R4.out.some'
          clear AB hO3 hO7 hfree hml own6 hrow6 k5 p5 z5 e5 r5 d5 hM hO2 hO4 hO5 hO6
          go_wp2_with fail
          refine ABH.out.mono ?_
          rintro e w8 ⟨rfl, g8⟩
          have G8 := hid g8
          have hs8 : w6.heap.size ≤ w8.heap.size := g8.size
          clear g8
          go_wp2
          go_ret
          obtain ⟨hO3, hO7, hfree⟩ := CUR.out
          have hgl : g < w5.heap.size := lt_of_block hO3
          have blk : w8.heap[g]? = some (.cells cur 185 (0, 0)) := by
            rw [G8.out.block g (by omega) (by simp), GR.out.block g hgl (by simp)]
            exact hO3
          have ext6 : Ext w.heap.size H5 (Fz.more H5 g (.cells cur 185 (0, 0))) := (Ext.refl _ _).add (by omega) hfree
          have z8 : Fz (Fz.more H5 g (.cells cur 185 (0, 0))) w8 := (Z6.out.grown G8.out).add blk
          have hdep : exDeep (M + 1) ⟨kRec, y.names, y.kids ++ [b], y.pos⟩ = maxl (exDeep M b :: y.kids.map (exDeep M)) + 1 := by
            show maxl ((y.kids ++ [b]).map (exDeep M)) + 1 = _
            rw [List.map_append, maxl_cons]
            rfl
          rw [hop.out]
          obtain ⟨H9, z9, x9, r9⟩ := node_rep (w := w8) z8 ⟨kRec, y.names, y.kids ++ [b], y.pos⟩ (us ++ [(.iface t5 (.pointer (some ⟨b5, 0, none⟩)))]) M (.cells #[.int .i64 ((maxl (exDeep M b :: y.kids.map (exDeep M)) + 1 : Nat) : Int), .slice (some ⟨g, 0, none⟩) y.names.length cap, (.iface t5 (.pointer (some ⟨b5, 0, none⟩)))] 192) (by simp; omega)
            (fun i k u h1 h2 => by
              rcases Nat.lt_or_ge i us.length with hi | hi
              · rw [List.getElem?_append_left hi] at h1
                rw [List.getElem?_append_left (by omega)] at h2
                exact PRep.ext ext6 _ _ _ (RK.out i k u h1 h2)
              · rw [List.getElem?_append_right hi] at h1
                rw [List.getElem?_append_right (by omega), klen, ← ulen] at h2
                cases e : i - us.length with
                | zero =>
                  rw [e] at h1 h2
                  simp at h1 h2
                  subst h1 h2
                  exact PRep.ext ext6 _ _ _ RB.out
                | succ q => rw [e] at h1; simp at h1)
            (fun H' hx h2 => by
              rw [hdep]
              exact Or.inr (Or.inr (Or.inr (Or.inr (Or.inr (Or.inl ⟨rfl, us, (.iface t5 (.pointer (some ⟨b5, 0, none⟩))), _, hsm.out, ulen, by simp [klen], rfl, ⟨g, cap, cur, rfl, hx.1 _ _ (Fz.more_same _ _ _), hO7⟩, h2⟩))))))
          refine ⟨((K5.out.trans (Kept.of0 rb GR.out)).trans (Kept.of0 rb G8.out)).alloc _, Or.inl ⟨_, H9, M + 1, rfl, ((P5.out.grown GR.out).grown G8.out).alloc _, z9, (E5.out.trans ext6 (Nat.le_refl _)).trans x9 (by omega), r9, ?_⟩⟩
          rw [hdep]
          exact HML.out
    | true =>
      rw [if_pos ⟨RR.out.op, hi⟩] at e4
      rw [take_yes hi] at p3
      have hupk : sy.up.k = sy.k + 1 := rfl
      have R3 := hid (RR.out.step k3 p3 (by rw [hupk]; omega) hlt hr)
      clear hi p3 k3 BB RR RI0 HY bx2
      obtain ⟨g, cap, rfl, hg1, hg2, hga⟩ := own_gat R3.out.own R3.out.ulen R3.out.some' R3.out.allx
      obtain ⟨J, hat, hrd⟩ := R3.out.st.place
      have bx3 := R3.out.box
      have hcnt := R3.out.count
      have hklt := R3.out.st.klt
      have hpos := (asked exKw exKw_ok s.data.toList J hat.1).pos
      rw [← hat.tk] at hpos
      have NO := hid (nameOf_p w3 rb s J g cap yy.names us (by omega) hrd hga)
      unfold boundS at e4
      go_wp2_with fail
      refine NO.out.mono ?_
      rintro e w4 ⟨rfl, g4⟩
      by_cases hm : nxT s.data.toList J ∈ yy.names
      · have hd : decide (nxT s.data.toList J ∈ yy.names) = true := by simp [hm]
        have hk := ok_name hat (R3.out.nms _ hm)
        have hre := (asked exKw exKw_ok s.data.toList J hat.1).real (by rw [← hat.tk, hk]; decide) (by rw [← hat.tk, hk]; decide)
        rw [← hat.tk] at hre
        have hys : isS T sy.up kName = true := by simp [isS, R3.out.st.neg, hk]
        have htw : twiceS yy.names (tk T sy.up.k).s (tk T sy.up.k).pos (needS T sy.up kName) = ⟨sy.up.k + 1, ((tk T sy.up.k).pos : Int)⟩ := by
          unfold twiceS
          rw [need_yes hys, take_yes hys, if_pos ⟨by rw [← hre.1]; exact hm, R3.out.st.neg⟩]
          rfl
        rw [htw] at e4
        have hbad : (0 : Int) ≤ (⟨sy.up.k + 1, ((tk T sy.up.k).pos : Int)⟩ : St).bad := by simp
        rw [need_bad hbad] at e4
        have S3 : Hid (s3.bad = (J : Int)) := by
          cases hq : expS T n ⟨sy.up.k + 1, ((tk T sy.up.k).pos : Int)⟩ with
          | none => rw [hq] at e4; cases e4
          | some q =>
            obtain ⟨c, s4⟩ := q
            rw [hq] at e4
            have e5 := exp_bad_st hbad hq
            rw [e5] at e4
            dsimp only at e4
            have e6 := binds_bad hbad e4
            have e7 := F2.out (by rw [e6]; exact hbad)
            show s3.bad = (J : Int)
            rw [e7, e6]
            show ((tk T sy.up.k).pos : Int) = (J : Int)
            rw [hpos]
        have K4 := hid (R3.out.kept.trans (Kept.of0 rb g4))
        have bx4 : w4.cell? ⟨w.heap.size, 0, none⟩ = some (.pointer (some ⟨rb, 0, none⟩)) := by
          rw [World.cell?_of_block (a := ⟨w.heap.size, 0, none⟩) (g4.block w.heap.size R3.out.more (by simp))]
          exact bx3
        have RF := hid (refuse_p w4 rb s J (hrd.grown g4))
        rw [hd]
        clear g4 hm hd hk hre hys htw hbad e4 hpos hga hat hrd NO bx3
        go_wp2_with fail
        refine RF.out.mono ?_
        rintro e w5 ⟨⟨bb, rfl, hbb⟩, g5⟩
        have HB := hid hbb
        have G5 := hid g5
        clear hbb g5
        unfold refusal
        go_wp2
        exact ⟨rfl, K4.out.trans (Kept.of0 rb G5.out), Or.inr ⟨by rw [S3.out]; simp, bb, rfl, by rw [S3.out]; exact HB.out⟩⟩
      · have hd : decide (nxT s.data.toList J ∈ yy.names) = false := by simp [hm]
        have hgood : (needS T sy.up kName).bad < 0 → (tk T sy.up.k).is = kName := by
          intro hh
          cases hi : isS T sy.up kName with
          | true => exact isS_is hi
          | false =>
            rw [need_no R3.out.st.neg hi] at hh
            simp at hh
            omega
        have hno : ¬ ((tk T sy.up.k).s ∈ yy.names ∧ (needS T sy.up kName).bad < 0) := by
          rintro ⟨h1, h2⟩
          have hk := hgood h2
          have hre := (asked exKw exKw_ok s.data.toList J hat.1).real (by rw [← hat.tk, hk]; decide) (by rw [← hat.tk, hk]; decide)
          rw [← hat.tk] at hre
          rw [← hre.1] at h1
          exact hm h1
        rw [twice_same hno] at e4
        have R4 := hid (R3.out.grown g4 hlt hr)
        have bx4 := R4.out.box
        have HNM := hid (show (needS T sy.up kName).bad < 0 → NmOK (tk T sy.up.k).s from fun h => name_ok hat (hgood h))
        cases hq : expS T n (needS T (needS T sy.up kName) kEq) with
        | none => rw [hq] at e4; cases e4
        | some q =>
        obtain ⟨c, s4⟩ := q
        rw [hq] at e4
        dsimp only at e4
        have HQ := hid hq
        have AA := hid e4
        rw [hd]
        clear g4 hm hd hgood hno e4 hpos hga hat hrd NO bx3 R3 hq
        go_wp2_with fail
        refine (bind_p T n HE.out _ rb s Hi sy.up c s4 HQ.out R4.out.st R4.out.fz (R4.out.rb hlt hr)).mono ?_
        rintro e w5 ⟨k5, (⟨t5, b5, H5, m5, ht5, rfl, p5, z5, e5, r5, d5⟩ | ⟨hb, bb, rfl, hrf⟩)⟩
        case inr =>
          have e5 := binds_bad hb AA.out
          have e6 := F2.out (by rw [e5]; exact hb)
          rw [e5] at e6
          unfold refusal
          go_wp2
          exact ⟨rfl, R4.out.kept.trans k5, Or.inr ⟨by rw [e6]; exact hb, bb, rfl, by rw [e6]; exact hrf⟩⟩
        case inl =>
        have hnb : (needS T sy.up kName).bad < 0 := by
          rcases Int.lt_or_le (needS T sy.up kName).bad 0 with h | h
          · exact h
          · have e3 : needS T (needS T sy.up kName) kEq = needS T sy.up kName := need_bad h
            have e4 := exp_bad_st (by rw [e3]; exact h) HQ.out
            have := p5.neg
            rw [e4, e3] at this
            omega
        have hown5 := own_kept R4.out.own k5 (by omega)
        have hs5 : w.heap.size + 1 ≤ w5.heap.size := by have := R4.out.more; have := k5.size; omega
        have Q5 := hid (And.intro k5 (And.intro p5 (And.intro z5 (And.intro e5 (And.intro r5 d5)))))
        have HNB := hid hnb
        obtain ⟨i0, hi, hz0, hz1, hz2⟩ := info_parts info_bind
        clear k5 p5 z5 e5 r5 d5 hnb bx4
        go_wp2_with (at_builtin; refine wpList_append_lies _ rfl (.tmp 20) (.tmp 23) 190 rfl (w.heap.size + 1) 185 i0 (.agg #[.string (B []), .nilIface]) 2 32 Tryz.underlying190 hi hz0 hz1 hz2 rfl (by decide) _ _ _ rfl (hown5.alloc _) ⟨w5.heap.size, 0, none⟩ 1 1 [.string (B (tk T sy.up.k).s), (.iface t5 (.pointer (some ⟨b5, 0, none⟩)))] rfl rfl ?d1 ?d2 (by decide) ?d3 ?d4 ?d5 (w5.heap.size + 1) ?d6 ?_)
        case d1 => exact two_new _ _ _ _
        case d2 => exact bind_one _ _ _
        case d3 => unfold maxLen; omega
        case d4 => omega
        case d5 => simp; omega
        case d6 => simp
        intro g7 cap7 w7 hown7 hgrow7 hat7 _
        obtain ⟨k5, p5, z5, e5, r5, d5⟩ := Q5.out
        have R7 := hid (R4.out.add hlt (HNM.out HNB.out) k5 p5 z5 e5 r5 d5 hown7 hgrow7 hat7)
        clear hown7 hgrow7 hat7 k5 p5 z5 e5 r5 d5 hown5
        go_wp2_with fail
        go_roundg F
        case measure => omega
        case rel => exact ⟨_, s4, _, _, _, AA, R7⟩
end Go.Proofs.YtfangljlgfcdpaaGreatDoor
