/-
  OUR OWN TEXT. typerref.Text at a let, with rec or without.
-/
import Derived.Test.YtcdijppegfcoaaaGreatDoorRefT3
import Derived.Deep.LoopGhost
namespace Go.Proofs.YtcdijppegfcoaaaGreatDoor
open Go.RowKit

def tLet : List UInt8 := [108, 101, 116, 32]
def tRec : List UInt8 := [114, 101, 99, 32]
def tAnd : List UInt8 := [32, 97, 110, 100, 32]
def tEq : List UInt8 := [32, 61, 32]
def tIn : List UInt8 := [32, 105, 110, 32]
/-- The text of the first j names and what they are. -/
def bindTo (nm ts : Nat → List UInt8) : Nat → List UInt8
  | 0 => []
  | j + 1 => bindTo nm ts j ++ ((if 0 < j then tAnd else []) ++ (nm j ++ tEq ++ ts j))
def letHead (op : List UInt8) : List UInt8 := tLet ++ (if op = kRec then tRec else [])
theorem bindTo_le (nm ts : Nat → List UInt8) (j k : Nat) (h : j ≤ k) : (bindTo nm ts j).length ≤ (bindTo nm ts k).length := by
  induction k with
  | zero => rw [Nat.le_zero.1 h]; exact Nat.le_refl _
  | succ k ih =>
    rcases Nat.lt_or_ge j (k + 1) with hlt | hge
    · have := ih (by omega)
      rw [bindTo, List.length_append]
      omega
    · rw [show j = k + 1 from by omega]; exact Nat.le_refl _
theorem bindTo_step (nm ts : Nat → List UInt8) (j : Nat) : (bindTo nm ts j).length + (nm j).length + (ts j).length + 3 ≤ (bindTo nm ts (j + 1)).length := by
  rw [bindTo]
  simp only [List.length_append, tEq, List.length_cons, List.length_nil]
  omega

theorem tx_more {w : World} {c : Nat} {t : List UInt8} (h : TX w c t) (q a : Nat) : Calls Tryz.prog 17 #[.pointer (some ⟨c, 0, none⟩)] (w.drewN (q + a)) fun e w'' => e = .returned (.string (B t)) ∧ ∃ n, w'' = w.drewN (q + n) :=
  (h (q + a)).mono fun _ _ ⟨he, m, hm⟩ => ⟨he, a + m, by rw [hm, World.drewN_drewN, Nat.add_assoc]⟩

set_option maxRecDepth 100000 in
set_option maxHeartbeats 4000000 in
theorem text_let (w : World) (b gn gk cn ck N : Nat) (cs : Nat → Nat) (nm ts : Nat → List UInt8) (op : List UInt8) (p : Int) (hN : N ≤ 1000000) (hN0 : 0 < N)
    (hop : op ≠ kName ∧ op ≠ kNum ∧ op ≠ kFun ∧ op ≠ oPair ∧ op ≠ kIf ∧ op ≠ oApp)
    (hb : w.heap[b]? = some (.cells #[.string (B op), .slice (some ⟨gn, 0, none⟩) N cn, .slice (some ⟨gk, 0, none⟩) (N + 1) ck, .int .i64 p] 86 (0, 0)))
    (hn : ∀ j, j < N → w.cell? ⟨gn, j, none⟩ = some (.string (B (nm j)))) (hk : ∀ j, j < N + 1 → w.cell? ⟨gk, j, none⟩ = some (.pointer (some ⟨cs j, 0, none⟩))) (ih : ∀ j, j < N + 1 → TX w (cs j) (ts j))
    (hl : (bindTo nm ts N).length + (ts N).length ≤ 1000000000) :
    Calls Tryz.prog 17 #[.pointer (some ⟨b, 0, none⟩)] w fun e w' => e = .returned (.string (B (letHead op ++ bindTo nm ts N ++ tIn ++ ts N))) ∧ ∃ q, w' = w.drewN q := by
  have c0' : w.cell? ⟨b, 0, none⟩ = some (.string (B op)) := by simp [World.cell?, hb]
  have c1' : w.cell? ⟨b, 1, none⟩ = some (.slice (some ⟨gn, 0, none⟩) N cn) := by simp [World.cell?, hb]
  have c2' : w.cell? ⟨b, 2, none⟩ = some (.slice (some ⟨gk, 0, none⟩) (N + 1) ck) := by simp [World.cell?, hb]
  have o0 : ((B op).toList == [110, 97, 109, 101]) = false := by rw [toList_B]; exact beq_eq_false_iff_ne.2 hop.1
  have o1 : ((B op).toList == [110, 117, 109]) = false := by rw [toList_B]; exact beq_eq_false_iff_ne.2 hop.2.1
  have o2 : ((B op).toList == [102, 117, 110]) = false := by rw [toList_B]; exact beq_eq_false_iff_ne.2 hop.2.2.1
  have o3 : ((B op).toList == [112, 97, 105, 114]) = false := by rw [toList_B]; exact beq_eq_false_iff_ne.2 hop.2.2.2.1
  have o4 : ((B op).toList == [105, 102]) = false := by rw [toList_B]; exact beq_eq_false_iff_ne.2 hop.2.2.2.2.1
  have o5 : ((B op).toList == [97, 112, 112]) = false := by rw [toList_B]; exact beq_eq_false_iff_ne.2 hop.2.2.2.2.2
  have IH := hid ih
  have HN := hid hn
  have HK := hid hk
  have HL := hid hl
  clear hb ih hn hk hl hop
  have hq : (((B op).toList == [114, 101, 99]) = true ∧ letHead op = tLet ++ tRec) ∨ (((B op).toList == [114, 101, 99]) = false ∧ letHead op = tLet) := by
    rw [toList_B]
    by_cases hr : op = kRec
    · left; exact ⟨by rw [hr]; decide, by rw [letHead, if_pos hr]⟩
    · right; exact ⟨beq_eq_false_iff_ne.2 hr, by rw [letHead, if_neg hr, List.append_nil]⟩
  rcases hq with ⟨o6, hlh⟩ | ⟨o6, hlh⟩
  all_goals
    have HLH := hid hlh
    clear hlh
    go_enter Tryz.func17, Tryz.ntmps17
    go_upto_if 161 with fail
    clear o0 o1 o2 o3 o4 o5
    go_cut [7] (fun v wx => v = .string (B (letHead op)) ∧ wx = w)
    case first =>
      go_wp2
      go_meet
      case rel =>
        refine ⟨?_, rfl⟩
        rw [HLH.out]
        first | rfl | (show Value.string (B tLet ++ B tRec) = _; rw [append_B])
    case rest =>
      obtain ⟨rfl, rfl⟩ := hcut
      go_wp2_with fail
      go_loopg [7, 169] (N + 1) (fun gh v i wi => ∃ j q : Nat, ∃ tx : List UInt8, j ≤ N ∧ i = .int .i64 j ∧ gh = N - j + 1 ∧ v = .string (B tx) ∧ Hid (tx = letHead op ++ bindTo nm ts j) ∧ wi = wc.drewN q)
      case atStart => exact ⟨0, 0, letHead op, by omega, rfl, by omega, rfl, hid (by simp [bindTo]), rfl⟩
      case round =>
        obtain ⟨j, q, tx, hj, rfl, hgj, rfl, HTX, rfl⟩ := hrel
        have hhd : (letHead op).length ≤ 8 := by unfold letHead; split <;> simp [tLet, tRec]
        have htl : tx.length ≤ 1000000008 := by
          rw [HTX.out, List.length_append]
          have := bindTo_le nm ts j N hj
          have := HL.out
          omega
        have szx : (B tx).size ≤ 1000000008 := by rw [size_B]; exact htl
        by_cases hjl : j < N
        · have hstep := bindTo_step nm ts j
          have hle := bindTo_le nm ts (j + 1) N (by omega)
          have hll := HL.out
          have szn : (B (nm j)).size ≤ 1000000000 := by rw [size_B]; omega
          have szt : (B (ts j)).size ≤ 1000000000 := by rw [size_B]; omega
          have szs : (B tx).size + (B (nm j)).size + (B (ts j)).size ≤ 2000000000 := by
            rw [size_B, size_B, size_B, HTX.out, List.length_append]; omega
          have cn1 := HN.out j hjl
          have ck1 := HK.out j (by omega)
          have I1 := hid (IH.out j (by omega))
          clear hstep hle hll
          obtain ⟨nj, hnj⟩ : ∃ nj, nj = nm j := ⟨_, rfl⟩
          obtain ⟨tj, htj⟩ : ∃ tj, tj = ts j := ⟨_, rfl⟩
          obtain ⟨cj, hcj⟩ : ∃ cj, cj = cs j := ⟨_, rfl⟩
          rw [← hnj] at szn szs cn1
          rw [← htj] at szt szs I1
          rw [← hcj] at ck1 I1
          have HNJ := hid hnj
          have HTJ := hid htj
          clear hnj htj hcj
          have hjk : (j : Int) < (N : Int) + 1 := by omega
          by_cases hj0 : 0 < j
          · have hd0 : decide (0 < (j : Int)) = true := by simp; omega
            go_wp2_with fail
            refine (I1.out q).mono ?_
            rintro e1 w1 ⟨rfl, q1, hw1⟩
            have hw1' : w1 = wc.drewN (q + q1) := by rw [hw1]; simp
            clear hw1
            subst hw1'
            go_wp2_with fail
            go_roundg (N - (j + 1) + 1)
            case measure => omega
            case rel =>
              refine ⟨j + 1, q + q1, tx ++ tAnd ++ (nj ++ tEq ++ tj), by omega, by go_num, rfl, ?_, hid ?_, rfl⟩
              · show Value.string (B tx ++ B tAnd ++ (B nj ++ B tEq ++ B tj)) = _
                rw [append_B, append_B, append_B, append_B]
              · rw [bindTo, if_pos hj0, HTX.out, HNJ.out, HTJ.out]
                simp only [List.append_assoc]
          · have hd9 : 0 ≤ j := Nat.zero_le _
            have hd0 : decide (0 < (j : Int)) = false := by simp; omega
            go_wp2_with fail
            refine (I1.out q).mono ?_
            rintro e1 w1 ⟨rfl, q1, hw1⟩
            have hw1' : w1 = wc.drewN (q + q1) := by rw [hw1]; simp
            clear hw1
            subst hw1'
            go_wp2_with fail
            go_roundg (N - (j + 1) + 1)
            case measure => omega
            case rel =>
              refine ⟨j + 1, q + q1, tx ++ (nj ++ tEq ++ tj), by omega, by go_num, rfl, ?_, hid ?_, rfl⟩
              · show Value.string (B tx ++ (B nj ++ B tEq ++ B tj)) = _
                rw [append_B, append_B, append_B]
              · rw [bindTo, if_neg hj0, HTX.out, HNJ.out, HTJ.out]
                simp only [List.append_assoc, List.nil_append]
        · have hje : j = N := by omega
          subst hje
          have ckN := HK.out j (by omega)
          have IN := hid (IH.out j (by omega))
          have szN : (B (ts j)).size ≤ 1000000000 := by rw [size_B]; have := HL.out; omega
          obtain ⟨tj, htj⟩ : ∃ tj, tj = ts j := ⟨_, rfl⟩
          obtain ⟨cj, hcj⟩ : ∃ cj, cj = cs j := ⟨_, rfl⟩
          rw [← htj] at szN IN
          rw [← hcj] at ckN IN
          have HTJ := hid htj
          clear htj hcj
          have hjk : (j : Int) < (j : Int) + 1 := by omega
          go_wp2_with fail
          go_quiet ((go_at_call 17; exact tx_more IN.out _ _))
          go_wp2
          go_ret
          refine ⟨?_, q + nq, by first | rfl | rw [World.drewN_drewN]⟩
          show Ending.returned (.string (B tx ++ B tIn ++ B tj)) = _
          rw [append_B, append_B, HTX.out, HTJ.out]
end Go.Proofs.YtcdijppegfcoaaaGreatDoor
