/-
  OUR OWN TEXT. typerref.Text at an application.
-/
import Derived.Test.YtcdijppegfcoaaaGreatDoorRefT2
import Derived.Deep.DeepCutAuto
namespace Go.Proofs.YtcdijppegfcoaaaGreatDoor
open Go.RowKit

/-- Brackets about a function that is applied; about what it is applied to. -/
def brF (p : List UInt8) : Bool := p == kFun || (p == kIf || (p == kLet || p == kRec))
def brA (p : List UInt8) : Bool := p != kName && (p != kNum && p != oPair)
def inBr (b : Bool) (t : List UInt8) : List UInt8 := if b = true then tOpen ++ t ++ tShut else t
theorem inBr_len (b : Bool) (t : List UInt8) : (inBr b t).length ≤ t.length + 2 := by
  unfold inBr
  split
  · simp [tOpen, tShut]
  · omega

set_option maxRecDepth 100000 in
set_option maxHeartbeats 4000000 in
theorem text_app (w : World) (b gk ck : Nat) (c0 c1 : Nat) (t0 t1 p0 p1 : List UInt8) (p : Int) (ns : Value) (hl0 : t0.length ≤ 1000000000) (hl1 : t1.length ≤ 1000000000)
    (hb : w.heap[b]? = some (.cells #[.string (B oApp), ns, .slice (some ⟨gk, 0, none⟩) 2 ck, .int .i64 p] 86 (0, 0))) (hk0 : w.cell? ⟨gk, 0, none⟩ = some (.pointer (some ⟨c0, 0, none⟩))) (hk1 : w.cell? ⟨gk, 1, none⟩ = some (.pointer (some ⟨c1, 0, none⟩)))
    (hp0 : w.cell? ⟨c0, 0, none⟩ = some (.string (B p0))) (hp1 : w.cell? ⟨c1, 0, none⟩ = some (.string (B p1))) (ih0 : TX w c0 t0) (ih1 : TX w c1 t1) :
    Calls Tryz.prog 17 #[.pointer (some ⟨b, 0, none⟩)] w fun e w' => e = .returned (.string (B (inBr (brF p0) t0 ++ tSp ++ inBr (brA p1) t1))) ∧ ∃ q, w' = w.drewN q := by
  have c0' : w.cell? ⟨b, 0, none⟩ = some (.string (B oApp)) := by simp [World.cell?, hb]
  have c2' : w.cell? ⟨b, 2, none⟩ = some (.slice (some ⟨gk, 0, none⟩) 2 ck) := by simp [World.cell?, hb]
  have o0 : ((B oApp).toList == [110, 97, 109, 101]) = false := by rw [toList_B]; decide
  have o1 : ((B oApp).toList == [110, 117, 109]) = false := by rw [toList_B]; decide
  have o2 : ((B oApp).toList == [102, 117, 110]) = false := by rw [toList_B]; decide
  have o3 : ((B oApp).toList == [112, 97, 105, 114]) = false := by rw [toList_B]; decide
  have o4 : ((B oApp).toList == [105, 102]) = false := by rw [toList_B]; decide
  have o5 : ((B oApp).toList == [97, 112, 112]) = true := by rw [toList_B]; decide
  have sz0 : (B t0).size ≤ 1000000000 := by rw [size_B]; exact hl0
  have sz1 : (B t1).size ≤ 1000000000 := by rw [size_B]; exact hl1
  have IH0 := hid ih0
  have IH1 := hid ih1
  clear hb ih0 ih1
  go_enter Tryz.func17, Tryz.ntmps17
  go_wp2_with fail
  refine (IH0.out 0).mono ?_
  rintro e1 w1 ⟨rfl, q1, hw1⟩
  have hw1' : w1 = w.drewN q1 := by rw [hw1]; simp
  clear hw1
  subst hw1'
  clear o0 o1 o2 o3 o4 o5 c0'
  go_upto_region 14 with fail
  go_cut [120] (fun v wx => v = .bool (brF p0) ∧ wx = w.drewN q1)
  case first =>
    have hv : brF p0 = ((B p0).toList == [102, 117, 110] || ((B p0).toList == [105, 102] || ((B p0).toList == [108, 101, 116] || (B p0).toList == [114, 101, 99]))) := by rw [toList_B]; rfl
    have HV := hid hv
    clear hv
    cases a1 : ((B p0).toList == [102, 117, 110]) with
    | true =>
      have H1 := hid a1
      go_wp2
      go_meet
      case rel => exact ⟨by rw [HV.out, H1.out]; rfl, rfl⟩
    | false =>
      cases a2 : ((B p0).toList == [105, 102]) with
      | true =>
        have H1 := hid a1
        have H2 := hid a2
        go_wp2
        go_meet
        case rel => exact ⟨by rw [HV.out, H1.out, H2.out]; rfl, rfl⟩
      | false =>
        cases a3 : ((B p0).toList == [108, 101, 116]) with
        | true =>
          have H1 := hid a1
          have H2 := hid a2
          have H3 := hid a3
          go_wp2
          go_meet
          case rel => exact ⟨by rw [HV.out, H1.out, H2.out, H3.out]; rfl, rfl⟩
        | false =>
          cases a4 : ((B p0).toList == [114, 101, 99]) with
          | true =>
            have H1 := hid a1
            have H2 := hid a2
            have H3 := hid a3
            have H4 := hid a4
            go_wp2
            go_meet
            case rel => exact ⟨by rw [HV.out, H1.out, H2.out, H3.out, H4.out]; rfl, rfl⟩
          | false =>
            have H1 := hid a1
            have H2 := hid a2
            have H3 := hid a3
            have H4 := hid a4
            go_wp2
            go_meet
            case rel => exact ⟨by rw [HV.out, H1.out, H2.out, H3.out, H4.out]; rfl, rfl⟩
  case rest =>
    obtain ⟨rfl, rfl⟩ := hcut
    go_upto_if 120 with fail
    go_cut [3] (fun v wx => v = .string (B (inBr (brF p0) t0)) ∧ wx = w.drewN q1)
    case first =>
      cases hbr : brF p0 with
      | true =>
        have HB := hid hbr
        go_wp2
        go_meet
        case rel =>
          refine ⟨?_, rfl⟩
          show Value.string (B tOpen ++ B t0 ++ B tShut) = _
          rw [append_B, append_B, HB.out]
          rfl
      | false =>
        have HB := hid hbr
        go_wp2
        go_meet
        case rel => exact ⟨by rw [HB.out]; rfl, rfl⟩
    case rest =>
      obtain ⟨rfl, rfl⟩ := hcut
      obtain ⟨f, hf⟩ : ∃ f, f = inBr (brF p0) t0 := ⟨_, rfl⟩
      have hfl : f.length ≤ 1000000002 := by rw [hf]; have := inBr_len (brF p0) t0; omega
      rw [← hf]
      have HF := hid hf
      clear hf
      have szf : (B f).size ≤ 1000000002 := by rw [size_B]; exact hfl
      go_wp2_with fail
      refine (IH1.out q1).mono ?_
      rintro e2 w2 ⟨rfl, q2, hw2⟩
      have hw2' : w2 = w.drewN (q1 + q2) := by rw [hw2]; simp
      clear hw2
      subst hw2'
      go_upto_region 18 with fail
      go_cut [149] (fun v wx => v = .bool (brA p1) ∧ wx = w.drewN (q1 + q2))
      case first =>
        have hv : brA p1 = (!((B p1).toList == [110, 97, 109, 101]) && (!((B p1).toList == [110, 117, 109]) && !((B p1).toList == [112, 97, 105, 114]))) := by rw [toList_B]; rfl
        have HV := hid hv
        clear hv
        cases a1 : ((B p1).toList == [110, 97, 109, 101]) with
        | true =>
          have H1 := hid a1
          go_wp2
          go_meet
          case rel => exact ⟨by rw [HV.out, H1.out]; rfl, rfl⟩
        | false =>
          cases a2 : ((B p1).toList == [110, 117, 109]) with
          | true =>
            have H1 := hid a1
            have H2 := hid a2
            go_wp2
            go_meet
            case rel => exact ⟨by rw [HV.out, H1.out, H2.out]; rfl, rfl⟩
          | false =>
            cases a3 : ((B p1).toList == [112, 97, 105, 114]) with
            | true =>
              have H1 := hid a1
              have H2 := hid a2
              have H3 := hid a3
              go_wp2
              go_meet
              case rel => exact ⟨by rw [HV.out, H1.out, H2.out, H3.out]; rfl, rfl⟩
            | false =>
              have H1 := hid a1
              have H2 := hid a2
              have H3 := hid a3
              go_wp2
              go_meet
              case rel => exact ⟨by rw [HV.out, H1.out, H2.out, H3.out]; rfl, rfl⟩
      case rest =>
        obtain ⟨rfl, rfl⟩ := hcut
        cases hbr : brA p1 with
        | true =>
          have HB := hid hbr
          go_wp2
          go_ret
          refine ⟨?_, _, rfl⟩
          show Ending.returned (.string (B f ++ B tSp ++ (B tOpen ++ B t1 ++ B tShut))) = _
          rw [append_B, append_B, append_B, append_B, HF.out, HB.out]
          rfl
        | false =>
          have HB := hid hbr
          go_wp2
          go_ret
          refine ⟨?_, _, rfl⟩
          show Ending.returned (.string (B f ++ B tSp ++ B t1)) = _
          rw [append_B, append_B, HF.out, HB.out]
          rfl
end Go.Proofs.YtcdijppegfcoaaaGreatDoor
