import Derived.Test.YtcdijppegfcoaaaGreatDoorToksK
namespace Go.Proofs.YtcdijppegfcoaaaGreatDoor
open Go.RowKit

set_option maxRecDepth 100000 in
set_option maxHeartbeats 4000000 in
theorem tokens_any (s : ByteArray) (kb ko kc : Nat) (kw : List (List UInt8)) (w : World) (hs : s.size ≤ 300) (hk : KwO w kb ko kw) (hkb : kb < w.heap.size) (hkl : kw.length ≤ 100) :
    Calls Tryz.prog 38 #[.string s, .slice (some ⟨kb, ko, none⟩) kw.length kc] w fun e w' => ∃ v, e = .returned v ∧ w'.ownsRow w.heap.size 151 3 v (toks kw s.data.toList (s.size + 1) 0).length (rowCells (toks kw s.data.toList (s.size + 1) 0)) ∧ Below w.heap.size w w' := by
  have HK := (show Hid (KwO w kb ko kw) from hk)
  clear hk
  go_enter Tryz.func38, Tryz.ntmps38
  go_wp2_with fail
  go_loopg [5, 6] (s.size + 1) (fun g v i wr => ∃ k : Nat, k ≤ s.size ∧ i = .int .i64 k ∧ s.size - k < g ∧ Below w.heap.size w wr ∧
      ∃ ds, wr.ownsRow w.heap.size 151 3 v ds.length (rowCells ds) ∧ Hid (toks kw s.data.toList (s.size + 1) 0 = ds ++ toks kw s.data.toList g k))
  case atStart => exact ⟨0, by omega, rfl, by omega, Below.refl _ _, [], World.ownsRow_nil _ _ _ _, rfl⟩
  case round =>
    obtain ⟨k, hk, rfl, hg, hbel, ds, hown, HT⟩ := hrel
    obtain ⟨F, rfl⟩ : ∃ F, gk = F + 1 := ⟨gk - 1, by omega⟩
    have hsl : s.data.toList.length = s.size := by rw [Array.length_toList]; rfl
    obtain ⟨J, hJ⟩ : ∃ J, J = upto isB s.data.toList k := ⟨_, rfl⟩
    have hJb := upto_le isB s.data.toList k (by omega)
    rw [← hJ, hsl] at hJb
    obtain ⟨hJ1, hJ2⟩ := hJb
    have HJ := (show Hid (J = upto isB s.data.toList k) from hJ)
    clear hJ
    go_upto_block 2 with fail
    go_cut [6] (fun i wc => i = .int .i64 J ∧ wc = wr)
    case first =>
      go_wp2_with fail
      go_loopg [6] (J - k + 1) (fun g i wi => ∃ m : Nat, k ≤ m ∧ m ≤ J ∧ i = .int .i64 m ∧ g = J - m + 1 ∧ wi = wr)
      case atStart => exact ⟨k, by omega, by omega, rfl, by omega, rfl⟩
      case round =>
        obtain ⟨m, hm1, hm2, rfl, hgm, rfl⟩ := hrel
        by_cases hlt : m < J
        · have hml : m < s.size := by omega
          obtain ⟨c, hc1, hc2⟩ := upto_in isB s.data.toList k m hm1 (by rw [← HJ.out]; exact hlt)
          rw [byteAt s m hml] at hc1
          have hc3 : (s[m] = 32) ∨ (s[m] = 10) := by
            simp only [Option.some.injEq] at hc1
            subst hc1
            simpa [isB] using hc2
          clear hc1 hc2
          rcases hc3 with hc3 | hc3
          all_goals
            go_wp2
            go_roundg (J - (m + 1) + 1)
            case measure => omega
            case rel => exact ⟨m + 1, by omega, by omega, by go_num, rfl, rfl⟩
        · have hmJ : m = J := by omega
          subst hmJ
          by_cases hml : m < s.size
          · have hb : isB s[m] = false := upto_out isB s.data.toList k s[m] (by rw [← HJ.out]; exact byteAt s m hml)
            have hb2 : ((s[m].toNat : Int) == 32) = false ∧ ((s[m].toNat : Int) == 10) = false := notB s[m] hb
            obtain ⟨hb3, hb4⟩ := hb2
            clear hb
            go_wp2
            go_meet
            case rel => exact ⟨rfl, rfl⟩
          · go_wp2
            go_meet
            case rel => exact ⟨rfl, rfl⟩
    case rest =>
      obtain ⟨rfl, rfl⟩ := hcut
      rename World => w1
      go_upto_block 4 with fail
      go_cut [8] (fun kk wd => kk = .int .i64 ((raw s.data.toList J).2 : Nat) ∧ wd.heap[w1.heap.size]? = some (.cells #[.string (B (raw s.data.toList J).1), .string (B []), .int .i64 (J : Int)] 151 (0, 0)) ∧ Below w1.heap.size w1 wd)
      case first =>
        refine kinds_wp _ (by kernel_rfl) s J w1 hs hJ2 _ _ _ _ _ _ _ _ _ _ _ _ _ _ _ _ _ _ _ _ _ _ _ _ _ _ _ _ _ _ _ _ _ _ _ _ _ _ _ _ _ _ _ _ _ _ _ _ _ _ _ _ _ _ _ _ _ _ _ _ _ _ _ _ _ _ _ _ _ _ _ _ _ _ _ _ _ _ _ _ _ _ _ _ _ _ _ _ _ _ _ _ _ _ _ _ _ _ _ _ _ _ _ _ _ _ _ _ _ _ _ _ _ _ _ _ _ _ _ _ _ _ _ _ _ _ _ _ _ _ _ _ _ _ _ _ _ _ _ _ _ _ _ _ _ _ _ _ _ _ _ _ _ _ _ _ _ _ _ _ _ _ _ _ _ _ _ _ _ _ _ ?_
        intro _ _ _ _ _ _ _ _ _ _ _ _ _ _ _ _ _ _ _ _ _ _ _ _ _ _ _ _ _ _ _ _ _ _ _ _ _ _ _ _ _ _ _ _ _ _ _ _ _ _ _ _ _ _ _ _ _ _ _ _ _ _ _ _ _ _ _ _ _ _ _ _ _ _ _ _ _ _ _ _ _ _ _ _ _ _ _ _ _ _ _ _ _ wd hrel
        have HREL := hid hrel
        clear hrel
        dsimp only
        go_wp2_with fail
        go_meet
        case rel => exact HREL.out
      case rest =>
        obtain ⟨rfl, ht, hbw⟩ := hcut
        rename World => w2
        obtain ⟨r1, r2, hr⟩ : ∃ r1 r2, (r1, r2) = raw s.data.toList J := ⟨_, _, rfl⟩
        have hrr := raw_le s J hJ2
        rw [← hr] at ht hrr ⊢
        dsimp only at ht hrr ⊢
        obtain ⟨hr2, hr3⟩ := hrr
        have HR := (show Hid ((r1, r2) = raw s.data.toList J) from hr)
        clear hr
        have c1 := cell_first ht
        have c2 := cell_second ht
        have f1 := free_first ht
        have f2 := free_second ht
        have HT1 := (show Hid (w2.heap[w1.heap.size]? = some (.cells #[.string (B r1), .string (B []), .int .i64 (J : Int)] 151 (0, 0))) from ht)
        clear ht
        go_upto_region 28 with fail
        rw [ext_cut]
        obtain ⟨w3, hw3⟩ : ∃ w3, w3 = w2.setCell ⟨w1.heap.size, 1, none⟩ (.string (B (cut s.data.toList J r2))) := ⟨_, rfl⟩
        obtain ⟨txt, htx⟩ : ∃ txt, txt = cut s.data.toList J r2 := ⟨_, rfl⟩
        rw [← htx] at hw3 ⊢
        rw [← hw3]
        have ht3 : w3.heap[w1.heap.size]? = some (.cells #[.string (B r1), .string (B txt), .int .i64 (J : Int)] 151 (0, 0)) := by rw [hw3]; exact set_second HT1.out _
        have hb3 : Below w1.heap.size w1 w3 := by rw [hw3]; exact hbw.setCell (Nat.le_refl _) _
        have HTX := (show Hid (txt = cut s.data.toList J r2) from htx)
        clear hw3 htx HT1 hbw c1 c2 f1 f2
        have c1 := cell_first ht3
        have f1 := free_first ht3
        have HT3 := (show Hid (w3.heap[w1.heap.size]? = some (.cells #[.string (B r1), .string (B txt), .int .i64 (J : Int)] 151 (0, 0))) from ht3)
        clear ht3
        go_cut [143] (fun b wx => b = .bool (bigB r1 J r2) ∧ wx = w3)
        case first =>
          by_cases hn : r1 = kName
          · have h1 : (B r1).toList = [110, 97, 109, 101] := by rw [toList_B, hn]; rfl
            have HN := (show Hid (r1 = kName) from hn)
            clear hn
            go_wp2
            go_meet
            case rel => exact ⟨congrArg Value.bool (big_yes (Or.inl HN.out)), rfl⟩
          · have h1 : ¬ (B r1).toList = [110, 97, 109, 101] := by rw [toList_B]; exact hn
            have HN := (show Hid (¬ r1 = kName) from hn)
            clear hn
            by_cases hm : r1 = kNum
            · have h2 : (B r1).toList = [110, 117, 109] := by rw [toList_B, hm]; rfl
              have HM := (show Hid (r1 = kNum) from hm)
              clear hm
              go_wp2
              go_meet
              case rel => exact ⟨congrArg Value.bool (big_yes (Or.inr HM.out)), rfl⟩
            · have h2 : ¬ (B r1).toList = [110, 117, 109] := by rw [toList_B]; exact hm
              have HM := (show Hid (¬ r1 = kNum) from hm)
              clear hm
              go_wp2
              go_meet
              case rel => exact ⟨congrArg Value.bool (big_no HN.out HM.out), rfl⟩
        case rest =>
          obtain ⟨rfl, rfl⟩ := hcut
          rename World => w3
          go_upto_if 143 with fail
          go_cut [8] (fun k8 wx => k8 = .int .i64 (r2 : Int) ∧ Hid (wx.heap[w1.heap.size]? = some (.cells #[.string (B (bounded r1 J r2)), .string (B txt), .int .i64 (J : Int)] 151 (0, 0))) ∧ Below w1.heap.size w1 wx)
          case first =>
            cases hbig : bigB r1 J r2 with
            | true =>
              have HG := (show Hid (bigB r1 J r2 = true) from hbig)
              go_wp2
              go_meet
              case rel =>
                refine ⟨rfl, ?_, hb3.setCell (Nat.le_refl _) _⟩
                show (w3.setCell _ _).heap[_]? = _
                rw [set_first HT3.out]
                unfold bounded
                rw [if_pos HG.out]
                rfl
            | false =>
              have HG := (show Hid (bigB r1 J r2 = false) from hbig)
              go_wp2
              go_meet
              case rel =>
                refine ⟨rfl, ?_, hb3⟩
                show w3.heap[_]? = _
                unfold bounded
                rw [if_neg (by rw [HG.out]; decide)]
                exact HT3.out
          case rest =>
            obtain ⟨rfl, HT4, hb4⟩ := hcut
            rename World => w4
            have hw1 : w.heap.size ≤ w1.heap.size := hbel.size
            obtain ⟨b, hbd⟩ : ∃ b, b = bounded r1 J r2 := ⟨_, rfl⟩
            rw [← hbd] at HT4
            have HBD := (show Hid (b = bounded r1 J r2) from hbd)
            clear hbd c1 f1 HT3 hb3
            go_wp2_with fail
            go_loopg [147] (kw.length + 1) (fun g i wi => ∃ j : Nat, j ≤ kw.length ∧ i = .int .i64 j ∧ g = kw.length - j + 1 ∧ Hid (wi.heap[w1.heap.size]? = some (.cells #[.string (B (kwAfter kw b txt j)), .string (B txt), .int .i64 (J : Int)] 151 (0, 0))) ∧ Below w1.heap.size w1 wi)
            case atStart => exact ⟨0, by omega, rfl, by omega, by simpa [kwAfter] using HT4, hb4⟩
            case round =>
              obtain ⟨j, hj, rfl, hgj, HTj, hbj⟩ := hrel
              clear HT4 hb4
              have c1 := cell_first HTj.out
              have c2 := cell_second HTj.out
              have f1 := free_first HTj.out
              obtain ⟨isj, hisj⟩ : ∃ isj, isj = kwAfter kw b txt j := ⟨_, rfl⟩
              rw [← hisj] at c1
              have HI := (show Hid (isj = kwAfter kw b txt j) from hisj)
              clear hisj
              by_cases hjl : j < kw.length
              · have c3 : wr.cell? ⟨kb, ko + j, none⟩ = some (.string (B (kw.getD j []))) := by
                  rw [hbj.cell (by show kb < _; omega), hbel.cell (by show kb < _; exact hkb)]
                  exact HK.out j hjl
                obtain ⟨kj, hkj⟩ : ∃ kj, kj = kw.getD j [] := ⟨_, rfl⟩
                rw [← hkj] at c3
                have HKJ := (show Hid (kj = kw.getD j []) from hkj)
                clear hkj
                by_cases hA : isj = kName
                · have h1 : (B isj).toList = [110, 97, 109, 101] := by rw [toList_B, hA]; rfl
                  have HA := (show Hid (isj = kName) from hA)
                  clear hA
                  by_cases hB : txt = kj
                  · have h2 : ((B txt).toList == (B kj).toList) = true := by rw [hB]; exact beq_self_eq_true _
                    have HB := (show Hid (txt = kj) from hB)
                    clear hB
                    go_wp2
                    go_roundg (kw.length - (j + 1) + 1)
                    case measure => omega
                    case rel =>
                      refine ⟨j + 1, by omega, by go_num, rfl, ?_, hbj.setCell (Nat.le_refl _) _⟩
                      show (wr.setCell _ _).heap[_]? = _
                      rw [set_first HTj.out, ← kw_yes hjl (by rw [← HI.out]; exact HA.out) (by rw [← HKJ.out]; exact HB.out), HKJ.out]
                  · have h2 : ((B txt).toList == (B kj).toList) = false := by rw [toList_B, toList_B]; exact beq_eq_false_iff_ne.2 hB
                    have HB := (show Hid (¬ txt = kj) from hB)
                    clear hB
                    go_wp2
                    go_roundg (kw.length - (j + 1) + 1)
                    case measure => omega
                    case rel =>
                      refine ⟨j + 1, by omega, by go_num, rfl, ?_, hbj⟩
                      show wr.heap[_]? = _
                      rw [← kw_no hjl (fun e => HB.out (by rw [HKJ.out]; exact e.2))]
                      exact HTj.out
                · have h1 : ¬ (B isj).toList = [110, 97, 109, 101] := by rw [toList_B]; exact hA
                  have HA := (show Hid (¬ isj = kName) from hA)
                  clear hA
                  go_wp2
                  go_roundg (kw.length - (j + 1) + 1)
                  case measure => omega
                  case rel =>
                    refine ⟨j + 1, by omega, by go_num, rfl, ?_, hbj⟩
                    show wr.heap[_]? = _
                    rw [← kw_no hjl (fun e => HA.out (by rw [HI.out]; exact e.1))]
                    exact HTj.out
              · have hje : j = kw.length := by omega
                subst hje
                have c4 := cell_third HTj.out
                have hown2 := own_below hown hbj
                have hsz := hbj.size
                obtain ⟨i0, hi, hz0, hz1, hz2⟩ := info_parts info_tok
                have hdl : ds.length ≤ s.size + 1 := done_le HT.out
                go_wp2_with (at_builtin; refine wpList_append_own _ rfl (.tmp 163) (.tmp 165) 77 rfl w.heap.size 151 i0 (.agg #[.string (B []), .string (B []), .int .i64 0]) 3 40 Tryz.underlying77 hi hz0 hz1 hz2 rfl (by decide) _ _ _ rfl (hown2.alloc _) ⟨wr.heap.size, 0, none⟩ 1 1 (tokCells ⟨isj, txt, J⟩) rfl rfl ?d1 ?d2 ?d3 ?d4 ?d5 ?_)
                case d1 => exact three_new _ _ _ _ _
                case d2 => exact tok_one _
                case d3 => unfold maxLen; omega
                case d4 => omega
                case d5 => simp; omega
                intro v' w5 hown' hgrow _
                have R := tok_done (isj := isj) kw s HT.out HJ.out HR.out HTX.out (by rw [HI.out, HBD.out]) rfl
                have hw5 := hgrow.size
                have ht5 := tb_kept hown (show w1.heap.size < _ from lt_of_block HTj.out) hgrow HTj.out
                rw [← HI.out] at ht5
                have hb5 : Below w.heap.size w w5 := ((hbel.trans (hbj.mono hw1)).alloc (by omega) _).grown hgrow (by simp; omega) (fun q hq => (own_lt hown hq.symm).1)
                have c5 := cell_first ht5
                have HRR := hid R
                have HO := hid hown'
                clear R hown' hgrow c1 c2 c4 f1 ht5
                by_cases hE : isj = kNone ∨ isj = kEnd
                · have HE := (show Hid (isj = kNone ∨ isj = kEnd) from hE)
                  by_cases hN : isj = kNone
                  · have h1 : (B isj).toList = [110, 111, 110, 101] := by rw [toList_B]; exact hN
                    clear hE hN
                    go_wp2
                    go_ret
                    have e := HRR.out.1 HE.out
                    exact ⟨v', rfl, by rw [e, List.length_append, rowCells_snoc]; exact HO.out, hb5⟩
                  · have h1 : ¬ (B isj).toList = [110, 111, 110, 101] := by rw [toList_B]; exact hN
                    have h2 : (B isj).toList = [101, 110, 100] := by rw [toList_B]; exact hE.resolve_left hN
                    clear hE hN
                    go_wp2
                    go_ret
                    have e := HRR.out.1 HE.out
                    exact ⟨v', rfl, by rw [e, List.length_append, rowCells_snoc]; exact HO.out, hb5⟩
                · have HE := (show Hid (¬ (isj = kNone ∨ isj = kEnd)) from hE)
                  have h1 : ((B isj).toList == [110, 111, 110, 101]) = false := by rw [toList_B]; exact beq_eq_false_iff_ne.2 (fun e => hE (Or.inl e))
                  have h2 : ((B isj).toList == [101, 110, 100]) = false := by rw [toList_B]; exact beq_eq_false_iff_ne.2 (fun e => hE (Or.inr e))
                  clear hE
                  go_wp2
                  go_roundg F
                  case measure => omega
                  case rel =>
                    have e := HRR.out.2 HE.out
                    have ho : w5.ownsRow w.heap.size 151 3 v' (ds ++ [(⟨isj, txt, J⟩ : Tok)]).length (rowCells (ds ++ [(⟨isj, txt, J⟩ : Tok)])) := by rw [List.length_append, rowCells_snoc]; exact HO.out
                    exact ⟨r2, by omega, rfl, by omega, hb5, ds ++ [⟨isj, txt, J⟩], ho, hid e.1⟩
end Go.Proofs.YtcdijppegfcoaaaGreatDoor
