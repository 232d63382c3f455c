import Derived.Test.YtcdijppegfcoaaaGreatDoorJA
import Derived.Test.YtcdijppegfcoaaaGreatDoorCell
import Derived.Test.YtcdijppegfcoaaaGreatDoorRefT5
import Derived.Test.YtcdijppegfcoaaaGreatDoorShelfJ
import Derived.Test.YtcdijppegfcoaaaGreatDoorRefB
/-
  OUR OWN TEXT. The program's expr.Text, kind by kind.
-/
namespace Go.Proofs.YtcdijppegfcoaaaGreatDoor
open Go.RowKit

/-- The text of a part, asked for in whatever world has grown out of this one. -/
def TXP (f : FuncId) (w : World) (v : Value) (t : List UInt8) : Prop := ∀ wx, w.grownBy wx none → Calls Tryz.prog f #[v] wx fun e w' => e = .returned (.string (B t)) ∧ wx.grownBy w' none
theorem TXP.at {f : FuncId} {w : World} {v : Value} {t : List UInt8} (h : TXP f w v t) {wx : World} (hg : w.grownBy wx none) : TXP f wx v t := fun wy hy => h wy (hg.trans hy)

set_option maxRecDepth 100000 in
set_option maxHeartbeats 8000000 in
theorem ptext_name (w : World) (b : Nat) (nm : List UInt8) (hnm : nm.length ≤ 1000000000)  (c1 : w.cell? ⟨b, 1, none⟩ = some (.string (B nm))) :
    Calls Tryz.prog 69 #[(.iface 186 (.pointer (some ⟨b, 0, none⟩)))] w fun e w' => e = .returned (.string (B (nm))) ∧ w.grownBy w' none := by
  have qName := as_Name_Name b
  have sznm : (B nm).size ≤ 1000000000 := by rw [size_B]; exact hnm
  go_enter Tryz.func69, Tryz.ntmps69
  go_wp2
  go_ret
  exact ⟨rfl, World.grownBy.refl _ _⟩

set_option maxRecDepth 100000 in
set_option maxHeartbeats 8000000 in
theorem ptext_number (w : World) (b : Nat) (nm : List UInt8) (hnm : nm.length ≤ 1000000000)  (c1 : w.cell? ⟨b, 1, none⟩ = some (.string (B nm))) :
    Calls Tryz.prog 69 #[(.iface 191 (.pointer (some ⟨b, 0, none⟩)))] w fun e w' => e = .returned (.string (B (nm))) ∧ w.grownBy w' none := by
  have qName := as_Number_Name b
  have qNumber := as_Number_Number b
  have sznm : (B nm).size ≤ 1000000000 := by rw [size_B]; exact hnm
  go_enter Tryz.func69, Tryz.ntmps69
  go_wp2
  go_ret
  exact ⟨rfl, World.grownBy.refl _ _⟩

set_option maxRecDepth 100000 in
set_option maxHeartbeats 8000000 in
theorem ptext_fun (w : World) (b : Nat) (t0 b0 : Nat) (x0 : List UInt8) (nm : List UInt8) (hnm : nm.length ≤ 1000000000) (l0 : x0.length ≤ 1000000000)  (hb : b < w.heap.size) (c1 : w.cell? ⟨b, 1, none⟩ = some (.string (B nm))) (c2 : w.cell? ⟨b, 2, none⟩ = some (.iface t0 (.pointer (some ⟨b0, 0, none⟩)))) (ih0 : TXP 69 w (.iface t0 (.pointer (some ⟨b0, 0, none⟩))) x0) :
    Calls Tryz.prog 69 #[(.iface 194 (.pointer (some ⟨b, 0, none⟩)))] w fun e w' => e = .returned (.string (B (tFun ++ nm ++ tArrow ++ x0))) ∧ w.grownBy w' none := by
  have qName := as_Fun_Name b
  have qNumber := as_Fun_Number b
  have qFun := as_Fun_Fun b
  have sznm : (B nm).size ≤ 1000000000 := by rw [size_B]; exact hnm
  have sz0 : (B x0).size ≤ 1000000000 := by rw [size_B]; exact l0
  have k1 : ¬ 9223372036854775807 < 4 + (B nm).size := by omega
  have k2 : ¬ 9223372036854775807 < 4 + (B nm).size + 4 := by omega
  have k3 : ¬ 9223372036854775807 < 4 + (B nm).size + 4 + (B x0).size := by omega
  have IH0 := hid ih0
  clear ih0
  go_enter Tryz.func69, Tryz.ntmps69
  go_wp2_with fail
  go_region_held3 (fun wx => wx.cell? ⟨b, 1, none⟩ = some (.string (B nm)) ∧ wx.cell? ⟨b, 2, none⟩ = some (.iface t0 (.pointer (some ⟨b0, 0, none⟩)))) (first | assumption | exact ⟨by assumption, by assumption⟩ | go_keep) (first | (go_at_call_of 69 (Value.iface t0 (Value.pointer (some ⟨b0, 0, none⟩))); refine (IH0.out _ ?_).mono ?_; exact (grown_drew (World.grownBy.refl _ _)); rintro e w1 ⟨rfl, g0⟩; have G0 : Hid (w.grownBy w1 none) := World.grownBy.trans (grown_drew (World.grownBy.refl _ _)) g0; have d0_1 := grown_cell c1 hb G0.out; have d0_2 := grown_cell c2 hb G0.out; clear g0))
  all_goals
    go_wp2
    go_ret
    refine ⟨?_, G0.out⟩
    show Ending.returned (.string (B tFun ++ B nm ++ B tArrow ++ B x0)) = _
    rw [append_B, append_B, append_B]
end Go.Proofs.YtcdijppegfcoaaaGreatDoor

/-
  OUR OWN TEXT. The program's expr.Text: if, an application, a pair.
-/
namespace Go.Proofs.YtcdijppegfcoaaaGreatDoor
open Go.RowKit

set_option maxRecDepth 100000 in
set_option maxHeartbeats 8000000 in
theorem ptext_if (w : World) (b : Nat) (t0 b0 : Nat) (x0 : List UInt8) (t1 b1 : Nat) (x1 : List UInt8) (t2 b2 : Nat) (x2 : List UInt8) (l0 : x0.length ≤ 1000000000) (l1 : x1.length ≤ 1000000000) (l2 : x2.length ≤ 1000000000)  (hb : b < w.heap.size) (c1 : w.cell? ⟨b, 1, none⟩ = some (.iface t0 (.pointer (some ⟨b0, 0, none⟩)))) (c2 : w.cell? ⟨b, 2, none⟩ = some (.iface t1 (.pointer (some ⟨b1, 0, none⟩)))) (c3 : w.cell? ⟨b, 3, none⟩ = some (.iface t2 (.pointer (some ⟨b2, 0, none⟩)))) (ih0 : TXP 69 w (.iface t0 (.pointer (some ⟨b0, 0, none⟩))) x0) (ih1 : TXP 69 w (.iface t1 (.pointer (some ⟨b1, 0, none⟩))) x1) (ih2 : TXP 69 w (.iface t2 (.pointer (some ⟨b2, 0, none⟩))) x2) :
    Calls Tryz.prog 69 #[(.iface 197 (.pointer (some ⟨b, 0, none⟩)))] w fun e w' => e = .returned (.string (B (tIf ++ x0 ++ tThen ++ x1 ++ tElse ++ x2))) ∧ w.grownBy w' none := by
  have qName := as_If_Name b
  have qNumber := as_If_Number b
  have qFun := as_If_Fun b
  have qIf := as_If_If b
  have sz0 : (B x0).size ≤ 1000000000 := by rw [size_B]; exact l0
  have sz1 : (B x1).size ≤ 1000000000 := by rw [size_B]; exact l1
  have sz2 : (B x2).size ≤ 1000000000 := by rw [size_B]; exact l2
  have k1 : ¬ 9223372036854775807 < 3 + (B x0).size := by omega
  have k2 : ¬ 9223372036854775807 < 3 + (B x0).size + 6 := by omega
  have k3 : ¬ 9223372036854775807 < 3 + (B x0).size + 6 + (B x1).size := by omega
  have k4 : ¬ 9223372036854775807 < 3 + (B x0).size + 6 + (B x1).size + 6 := by omega
  have k5 : ¬ 9223372036854775807 < 3 + (B x0).size + 6 + (B x1).size + 6 + (B x2).size := by omega
  have IH0 := hid ih0
  have IH1 := hid ih1
  have IH2 := hid ih2
  clear ih0 ih1 ih2
  go_enter Tryz.func69, Tryz.ntmps69
  go_wp2_with fail
  go_region_held3 (fun wx => wx.cell? ⟨b, 1, none⟩ = some (.iface t0 (.pointer (some ⟨b0, 0, none⟩))) ∧ wx.cell? ⟨b, 2, none⟩ = some (.iface t1 (.pointer (some ⟨b1, 0, none⟩))) ∧ wx.cell? ⟨b, 3, none⟩ = some (.iface t2 (.pointer (some ⟨b2, 0, none⟩)))) (first | assumption | exact ⟨by assumption, by assumption, by assumption⟩ | go_keep) (first | (go_at_call_of 69 (Value.iface t0 (Value.pointer (some ⟨b0, 0, none⟩))); refine (IH0.out _ ?_).mono ?_; exact (grown_drew (World.grownBy.refl _ _)); rintro e w1 ⟨rfl, g0⟩; have G0 : Hid (w.grownBy w1 none) := World.grownBy.trans (grown_drew (World.grownBy.refl _ _)) g0; have d0_1 := grown_cell c1 hb G0.out; have d0_2 := grown_cell c2 hb G0.out; have d0_3 := grown_cell c3 hb G0.out; clear g0) | (go_at_call_of 69 (Value.iface t1 (Value.pointer (some ⟨b1, 0, none⟩))); refine (IH1.out _ ?_).mono ?_; exact G0.out; rintro e w2 ⟨rfl, g1⟩; have G1 : Hid (w.grownBy w2 none) := World.grownBy.trans G0.out g1; have d1_1 := grown_cell c1 hb G1.out; have d1_2 := grown_cell c2 hb G1.out; have d1_3 := grown_cell c3 hb G1.out; clear g1) | (go_at_call_of 69 (Value.iface t2 (Value.pointer (some ⟨b2, 0, none⟩))); refine (IH2.out _ ?_).mono ?_; exact G1.out; rintro e w3 ⟨rfl, g2⟩; have G2 : Hid (w.grownBy w3 none) := World.grownBy.trans G1.out g2; have d2_1 := grown_cell c1 hb G2.out; have d2_2 := grown_cell c2 hb G2.out; have d2_3 := grown_cell c3 hb G2.out; clear g2))
  all_goals
    go_wp2
    go_ret
    refine ⟨?_, G2.out⟩
    show Ending.returned (.string (B tIf ++ B x0 ++ B tThen ++ B x1 ++ B tElse ++ B x2)) = _
    rw [append_B, append_B, append_B, append_B, append_B]

set_option maxRecDepth 100000 in
set_option maxHeartbeats 8000000 in
theorem ptext_apply (w : World) (b : Nat) (t0 b0 : Nat) (x0 : List UInt8) (t1 b1 : Nat) (x1 : List UInt8) (l0 : x0.length ≤ 1000000000) (l1 : x1.length ≤ 1000000000)  (hb : b < w.heap.size) (c1 : w.cell? ⟨b, 1, none⟩ = some (.iface t0 (.pointer (some ⟨b0, 0, none⟩)))) (c2 : w.cell? ⟨b, 2, none⟩ = some (.iface t1 (.pointer (some ⟨b1, 0, none⟩)))) (ih0 : TXP 100 w (.iface t0 (.pointer (some ⟨b0, 0, none⟩))) x0) (ih1 : TXP 101 w (.iface t1 (.pointer (some ⟨b1, 0, none⟩))) x1) :
    Calls Tryz.prog 69 #[(.iface 211 (.pointer (some ⟨b, 0, none⟩)))] w fun e w' => e = .returned (.string (B (x0 ++ tSp ++ x1))) ∧ w.grownBy w' none := by
  have qName := as_Apply_Name b
  have qNumber := as_Apply_Number b
  have qFun := as_Apply_Fun b
  have qIf := as_Apply_If b
  have qLet := as_Apply_Let b
  have qLetRec := as_Apply_LetRec b
  have qApply := as_Apply_Apply b
  have sz0 : (B x0).size ≤ 1000000000 := by rw [size_B]; exact l0
  have sz1 : (B x1).size ≤ 1000000000 := by rw [size_B]; exact l1
  have k1 : ¬ 9223372036854775807 < (B x0).size + 1 := by omega
  have k2 : ¬ 9223372036854775807 < (B x0).size + 1 + (B x1).size := by omega
  have IH0 := hid ih0
  have IH1 := hid ih1
  clear ih0 ih1
  go_enter Tryz.func69, Tryz.ntmps69
  go_wp2_with fail
  go_region_held3 (fun wx => wx.cell? ⟨b, 1, none⟩ = some (.iface t0 (.pointer (some ⟨b0, 0, none⟩))) ∧ wx.cell? ⟨b, 2, none⟩ = some (.iface t1 (.pointer (some ⟨b1, 0, none⟩)))) (first | assumption | exact ⟨by assumption, by assumption⟩ | go_keep) (first | (go_at_call_of 100 (Value.iface t0 (Value.pointer (some ⟨b0, 0, none⟩))); refine (IH0.out _ ?_).mono ?_; exact (grown_drew (World.grownBy.refl _ _)); rintro e w1 ⟨rfl, g0⟩; have G0 : Hid (w.grownBy w1 none) := World.grownBy.trans (grown_drew (World.grownBy.refl _ _)) g0; have d0_1 := grown_cell c1 hb G0.out; have d0_2 := grown_cell c2 hb G0.out; clear g0) | (go_at_call_of 101 (Value.iface t1 (Value.pointer (some ⟨b1, 0, none⟩))); refine (IH1.out _ ?_).mono ?_; exact G0.out; rintro e w2 ⟨rfl, g1⟩; have G1 : Hid (w.grownBy w2 none) := World.grownBy.trans G0.out g1; have d1_1 := grown_cell c1 hb G1.out; have d1_2 := grown_cell c2 hb G1.out; clear g1))
  all_goals
    go_wp2
    go_ret
    refine ⟨?_, G1.out⟩
    show Ending.returned (.string (B x0 ++ B tSp ++ B x1)) = _
    rw [append_B, append_B]

set_option maxRecDepth 100000 in
set_option maxHeartbeats 8000000 in
theorem ptext_pair (w : World) (b : Nat) (t0 b0 : Nat) (x0 : List UInt8) (t1 b1 : Nat) (x1 : List UInt8) (l0 : x0.length ≤ 1000000000) (l1 : x1.length ≤ 1000000000)  (hb : b < w.heap.size) (c1 : w.cell? ⟨b, 1, none⟩ = some (.iface t0 (.pointer (some ⟨b0, 0, none⟩)))) (c2 : w.cell? ⟨b, 2, none⟩ = some (.iface t1 (.pointer (some ⟨b1, 0, none⟩)))) (ih0 : TXP 69 w (.iface t0 (.pointer (some ⟨b0, 0, none⟩))) x0) (ih1 : TXP 69 w (.iface t1 (.pointer (some ⟨b1, 0, none⟩))) x1) :
    Calls Tryz.prog 69 #[(.iface 214 (.pointer (some ⟨b, 0, none⟩)))] w fun e w' => e = .returned (.string (B (tOpen ++ x0 ++ tComma ++ x1 ++ tShut))) ∧ w.grownBy w' none := by
  have qName := as_Pair_Name b
  have qNumber := as_Pair_Number b
  have qFun := as_Pair_Fun b
  have qIf := as_Pair_If b
  have qLet := as_Pair_Let b
  have qLetRec := as_Pair_LetRec b
  have qApply := as_Pair_Apply b
  have qPair := as_Pair_Pair b
  have sz0 : (B x0).size ≤ 1000000000 := by rw [size_B]; exact l0
  have sz1 : (B x1).size ≤ 1000000000 := by rw [size_B]; exact l1
  have k1 : ¬ 9223372036854775807 < 1 + (B x0).size := by omega
  have k2 : ¬ 9223372036854775807 < 1 + (B x0).size + 2 := by omega
  have k3 : ¬ 9223372036854775807 < 1 + (B x0).size + 2 + (B x1).size := by omega
  have k4 : ¬ 9223372036854775807 < 1 + (B x0).size + 2 + (B x1).size + 1 := by omega
  have IH0 := hid ih0
  have IH1 := hid ih1
  clear ih0 ih1
  go_enter Tryz.func69, Tryz.ntmps69
  go_wp2_with fail
  go_region_held3 (fun wx => wx.cell? ⟨b, 1, none⟩ = some (.iface t0 (.pointer (some ⟨b0, 0, none⟩))) ∧ wx.cell? ⟨b, 2, none⟩ = some (.iface t1 (.pointer (some ⟨b1, 0, none⟩)))) (first | assumption | exact ⟨by assumption, by assumption⟩ | go_keep) (first | (go_at_call_of 69 (Value.iface t0 (Value.pointer (some ⟨b0, 0, none⟩))); refine (IH0.out _ ?_).mono ?_; exact (grown_drew (World.grownBy.refl _ _)); rintro e w1 ⟨rfl, g0⟩; have G0 : Hid (w.grownBy w1 none) := World.grownBy.trans (grown_drew (World.grownBy.refl _ _)) g0; have d0_1 := grown_cell c1 hb G0.out; have d0_2 := grown_cell c2 hb G0.out; clear g0) | (go_at_call_of 69 (Value.iface t1 (Value.pointer (some ⟨b1, 0, none⟩))); refine (IH1.out _ ?_).mono ?_; exact G0.out; rintro e w2 ⟨rfl, g1⟩; have G1 : Hid (w.grownBy w2 none) := World.grownBy.trans G0.out g1; have d1_1 := grown_cell c1 hb G1.out; have d1_2 := grown_cell c2 hb G1.out; clear g1))
  all_goals
    go_wp2
    go_ret
    refine ⟨?_, G1.out⟩
    show Ending.returned (.string (B tOpen ++ B x0 ++ B tComma ++ B x1 ++ B tShut)) = _
    rw [append_B, append_B, append_B, append_B]
end Go.Proofs.YtcdijppegfcoaaaGreatDoor

/-
  OUR OWN TEXT. The program's expr.Text: what is bound; let; what is applied, and what to.
-/
namespace Go.Proofs.YtcdijppegfcoaaaGreatDoor
open Go.RowKit

set_option maxRecDepth 100000 in
set_option maxHeartbeats 4000000 in
theorem bindText_p (w : World) (nm x : List UInt8) (t b : Nat) (hnm : nm.length ≤ 1000000000) (hx : x.length ≤ 1000000000) (ih : TXP 69 w (.iface t (.pointer (some ⟨b, 0, none⟩))) x) :
    Calls Tryz.prog 98 #[.agg #[.string (B nm), (.iface t (.pointer (some ⟨b, 0, none⟩)))]] w fun e w' => e = .returned (.string (B (nm ++ tEq ++ x))) ∧ w.grownBy w' none := by
  have sznm : (B nm).size ≤ 1000000000 := by rw [size_B]; exact hnm
  have szx : (B x).size ≤ 1000000000 := by rw [size_B]; exact hx
  have k1 : ¬ 9223372036854775807 < (B nm).size + 3 := by omega
  have k2 : ¬ 9223372036854775807 < (B nm).size + 3 + (B x).size := by omega
  have IH := hid ih
  clear ih
  obtain ⟨w0, hw0⟩ : ∃ w0, w0 = w.alloc (.cells #[.string (B nm), (.iface t (.pointer (some ⟨b, 0, none⟩)))] 203) := ⟨_, rfl⟩
  have G0 : Hid (w.grownBy w0 none) := by rw [hw0]; exact World.grownBy_alloc _ _ _
  have c0 : w0.cell? ⟨w.heap.size, 0, none⟩ = some (.string (B nm)) := by rw [hw0]; simp [go_sem]
  have c1 : w0.cell? ⟨w.heap.size, 1, none⟩ = some (.iface t (.pointer (some ⟨b, 0, none⟩))) := by rw [hw0]; simp [go_sem]
  have hb : w.heap.size < w0.heap.size := by rw [hw0]; simp
  go_enter Tryz.func98, Tryz.ntmps98
  go_wp2_with fail
  rw [← hw0]
  clear hw0
  go_region_held3 (fun wx => wx.cell? ⟨w.heap.size, 0, none⟩ = some (.string (B nm)) ∧ wx.cell? ⟨w.heap.size, 1, none⟩ = some (.iface t (.pointer (some ⟨b, 0, none⟩)))) (first | assumption | exact ⟨by assumption, by assumption⟩ | go_keep) ((go_at_call 69; refine (IH.out _ ?_).mono ?_; exact grown_drew G0.out; rintro e w1 ⟨rfl, g1⟩; have G1 : Hid (w0.grownBy w1 none) := World.grownBy.trans (grown_drew (World.grownBy.refl _ _)) g1; have d0 := grown_cell c0 hb G1.out; have d1 := grown_cell c1 hb G1.out; clear g1))
  all_goals
    go_wp2
    go_ret
    refine ⟨?_, G0.out.trans G1.out⟩
    show Ending.returned (.string (B nm ++ B tEq ++ B x)) = _
    rw [append_B, append_B]

set_option maxRecDepth 100000 in
set_option maxHeartbeats 8000000 in
theorem ptext_let (w : World) (b : Nat) (t0 b0 : Nat) (x0 : List UInt8) (t1 b1 : Nat) (x1 nm : List UInt8) (hnm : nm.length ≤ 1000000) (l0 : x0.length ≤ 1000000) (l1 : x1.length ≤ 1000000000) (hb : b < w.heap.size) (c1 : w.cell? ⟨b, 1, none⟩ = some (.string (B nm))) (c2 : w.cell? ⟨b, 2, none⟩ = some (.iface t0 (.pointer (some ⟨b0, 0, none⟩)))) (c3 : w.cell? ⟨b, 3, none⟩ = some (.iface t1 (.pointer (some ⟨b1, 0, none⟩))))
    (ih0 : TXP 69 w (.iface t0 (.pointer (some ⟨b0, 0, none⟩))) x0) (ih1 : TXP 69 w (.iface t1 (.pointer (some ⟨b1, 0, none⟩))) x1) :
    Calls Tryz.prog 69 #[.iface 200 (.pointer (some ⟨b, 0, none⟩))] w fun e w' => e = .returned (.string (B (tLet ++ (nm ++ tEq ++ x0) ++ tIn ++ x1))) ∧ w.grownBy w' none := by
  have qName := as_Let_Name b
  have qNumber := as_Let_Number b
  have qFun := as_Let_Fun b
  have qIf := as_Let_If b
  have qLet := as_Let_Let b
  obtain ⟨y, hy⟩ : ∃ y, y = nm ++ tEq ++ x0 := ⟨_, rfl⟩
  have hyl : y.length ≤ 1000000000 := by rw [hy]; simp [tEq]; omega
  have sz0 : (B y).size ≤ 1000000000 := by rw [size_B]; exact hyl
  have sz1 : (B x1).size ≤ 1000000000 := by rw [size_B]; exact l1
  have k1 : ¬ 9223372036854775807 < 4 + (B y).size := by omega
  have k2 : ¬ 9223372036854775807 < 4 + (B y).size + 4 := by omega
  have k3 : ¬ 9223372036854775807 < 4 + (B y).size + 4 + (B x1).size := by omega
  have IH0 : Hid (TXP 98 w (.agg #[.string (B nm), (.iface t0 (.pointer (some ⟨b0, 0, none⟩)))]) y) := fun wx hg => by rw [hy]; exact bindText_p wx nm x0 t0 b0 (by omega) (by omega) (ih0.at hg)
  have IH1 := hid ih1
  rw [← hy]
  clear ih0 ih1 hy
  go_enter Tryz.func69, Tryz.ntmps69
  go_wp2_with fail
  go_region_held3 (fun wx => wx.cell? ⟨b, 1, none⟩ = some (.string (B nm)) ∧ wx.cell? ⟨b, 2, none⟩ = some (.iface t0 (.pointer (some ⟨b0, 0, none⟩))) ∧ wx.cell? ⟨b, 3, none⟩ = some (.iface t1 (.pointer (some ⟨b1, 0, none⟩)))) (first | assumption | exact ⟨by assumption, by assumption, by assumption⟩ | go_keep) (first | (go_at_call 98; refine (IH0.out _ ?_).mono ?_; exact (grown_drew (World.grownBy.refl _ _)); rintro e w1 ⟨rfl, g0⟩; have G0 : Hid (w.grownBy w1 none) := World.grownBy.trans (grown_drew (World.grownBy.refl _ _)) g0; have d0_1 := grown_cell c1 hb G0.out; have d0_2 := grown_cell c2 hb G0.out; have d0_3 := grown_cell c3 hb G0.out; clear g0) | (go_at_call 69; refine (IH1.out _ ?_).mono ?_; exact G0.out; rintro e w2 ⟨rfl, g1⟩; have G1 : Hid (w.grownBy w2 none) := World.grownBy.trans G0.out g1; have d1_1 := grown_cell c1 hb G1.out; have d1_2 := grown_cell c2 hb G1.out; have d1_3 := grown_cell c3 hb G1.out; clear g1))
  all_goals
    go_wp2
    go_ret
    refine ⟨?_, G1.out⟩
    show Ending.returned (.string (B tLet ++ B y ++ B tIn ++ B x1)) = _
    rw [append_B, append_B, append_B]
end Go.Proofs.YtcdijppegfcoaaaGreatDoor

/-
  OUR OWN TEXT. The program's funText and argText.
-/
namespace Go.Proofs.YtcdijppegfcoaaaGreatDoor
open Go.RowKit

set_option maxRecDepth 100000 in
set_option maxHeartbeats 1000000 in
theorem funText_name (w : World) (b : Nat) (x : List UInt8) (hx : x.length ≤ 1000000) (ih : TXP 69 w (.iface 186 (.pointer (some ⟨b, 0, none⟩))) x) :
    Calls Tryz.prog 100 #[.iface 186 (.pointer (some ⟨b, 0, none⟩))] w fun e w' => e = .returned (.string (B (inBr false x))) ∧ w.grownBy w' none := by
  have qFun := as_Name_Fun b
  have qIf := as_Name_If b
  have qLet := as_Name_Let b
  have qLetRec := as_Name_LetRec b
  have sz : (B x).size ≤ 1000000 := by rw [size_B]; exact hx
  have IH := hid (ih w (World.grownBy.refl _ _))
  clear ih
  go_enter Tryz.func100, Tryz.ntmps100
  go_wp2_with (go_at_call 69; refine IH.out.mono ?_; rintro e w1 ⟨rfl, g1⟩; have G1 := hid g1; clear g1)
  go_ret
  refine ⟨?_, G1.out⟩
  rfl

set_option maxRecDepth 100000 in
set_option maxHeartbeats 1000000 in
theorem funText_number (w : World) (b : Nat) (x : List UInt8) (hx : x.length ≤ 1000000) (ih : TXP 69 w (.iface 191 (.pointer (some ⟨b, 0, none⟩))) x) :
    Calls Tryz.prog 100 #[.iface 191 (.pointer (some ⟨b, 0, none⟩))] w fun e w' => e = .returned (.string (B (inBr false x))) ∧ w.grownBy w' none := by
  have qFun := as_Number_Fun b
  have qIf := as_Number_If b
  have qLet := as_Number_Let b
  have qLetRec := as_Number_LetRec b
  have sz : (B x).size ≤ 1000000 := by rw [size_B]; exact hx
  have IH := hid (ih w (World.grownBy.refl _ _))
  clear ih
  go_enter Tryz.func100, Tryz.ntmps100
  go_wp2_with (go_at_call 69; refine IH.out.mono ?_; rintro e w1 ⟨rfl, g1⟩; have G1 := hid g1; clear g1)
  go_ret
  refine ⟨?_, G1.out⟩
  rfl

set_option maxRecDepth 100000 in
set_option maxHeartbeats 1000000 in
theorem funText_fun (w : World) (b : Nat) (x : List UInt8) (hx : x.length ≤ 1000000) (ih : TXP 69 w (.iface 194 (.pointer (some ⟨b, 0, none⟩))) x) :
    Calls Tryz.prog 100 #[.iface 194 (.pointer (some ⟨b, 0, none⟩))] w fun e w' => e = .returned (.string (B (inBr true x))) ∧ w.grownBy w' none := by
  have qFun := as_Fun_Fun b
  have qIf := as_Fun_If b
  have qLet := as_Fun_Let b
  have qLetRec := as_Fun_LetRec b
  have sz : (B x).size ≤ 1000000 := by rw [size_B]; exact hx
  have IH := hid (ih w (World.grownBy.refl _ _))
  clear ih
  have k1 : ¬ 9223372036854775807 < 1 + (B x).size := by omega
  have k2 : ¬ 9223372036854775807 < 1 + (B x).size + 1 := by omega
  go_enter Tryz.func100, Tryz.ntmps100
  go_wp2_with (go_at_call 69; refine IH.out.mono ?_; rintro e w1 ⟨rfl, g1⟩; have G1 := hid g1; clear g1)
  go_ret
  refine ⟨?_, G1.out⟩
  show Ending.returned (.string (B tOpen ++ B x ++ B tShut)) = _
  rw [append_B, append_B]
  rfl

set_option maxRecDepth 100000 in
set_option maxHeartbeats 1000000 in
theorem funText_if (w : World) (b : Nat) (x : List UInt8) (hx : x.length ≤ 1000000) (ih : TXP 69 w (.iface 197 (.pointer (some ⟨b, 0, none⟩))) x) :
    Calls Tryz.prog 100 #[.iface 197 (.pointer (some ⟨b, 0, none⟩))] w fun e w' => e = .returned (.string (B (inBr true x))) ∧ w.grownBy w' none := by
  have qFun := as_If_Fun b
  have qIf := as_If_If b
  have qLet := as_If_Let b
  have qLetRec := as_If_LetRec b
  have sz : (B x).size ≤ 1000000 := by rw [size_B]; exact hx
  have IH := hid (ih w (World.grownBy.refl _ _))
  clear ih
  have k1 : ¬ 9223372036854775807 < 1 + (B x).size := by omega
  have k2 : ¬ 9223372036854775807 < 1 + (B x).size + 1 := by omega
  go_enter Tryz.func100, Tryz.ntmps100
  go_wp2_with (go_at_call 69; refine IH.out.mono ?_; rintro e w1 ⟨rfl, g1⟩; have G1 := hid g1; clear g1)
  go_ret
  refine ⟨?_, G1.out⟩
  show Ending.returned (.string (B tOpen ++ B x ++ B tShut)) = _
  rw [append_B, append_B]
  rfl

set_option maxRecDepth 100000 in
set_option maxHeartbeats 1000000 in
theorem funText_let (w : World) (b : Nat) (x : List UInt8) (hx : x.length ≤ 1000000) (ih : TXP 69 w (.iface 200 (.pointer (some ⟨b, 0, none⟩))) x) :
    Calls Tryz.prog 100 #[.iface 200 (.pointer (some ⟨b, 0, none⟩))] w fun e w' => e = .returned (.string (B (inBr true x))) ∧ w.grownBy w' none := by
  have qFun := as_Let_Fun b
  have qIf := as_Let_If b
  have qLet := as_Let_Let b
  have qLetRec := as_Let_LetRec b
  have sz : (B x).size ≤ 1000000 := by rw [size_B]; exact hx
  have IH := hid (ih w (World.grownBy.refl _ _))
  clear ih
  have k1 : ¬ 9223372036854775807 < 1 + (B x).size := by omega
  have k2 : ¬ 9223372036854775807 < 1 + (B x).size + 1 := by omega
  go_enter Tryz.func100, Tryz.ntmps100
  go_wp2_with (go_at_call 69; refine IH.out.mono ?_; rintro e w1 ⟨rfl, g1⟩; have G1 := hid g1; clear g1)
  go_ret
  refine ⟨?_, G1.out⟩
  show Ending.returned (.string (B tOpen ++ B x ++ B tShut)) = _
  rw [append_B, append_B]
  rfl

set_option maxRecDepth 100000 in
set_option maxHeartbeats 1000000 in
theorem funText_letrec (w : World) (b : Nat) (x : List UInt8) (hx : x.length ≤ 1000000) (ih : TXP 69 w (.iface 206 (.pointer (some ⟨b, 0, none⟩))) x) :
    Calls Tryz.prog 100 #[.iface 206 (.pointer (some ⟨b, 0, none⟩))] w fun e w' => e = .returned (.string (B (inBr true x))) ∧ w.grownBy w' none := by
  have qFun := as_LetRec_Fun b
  have qIf := as_LetRec_If b
  have qLet := as_LetRec_Let b
  have qLetRec := as_LetRec_LetRec b
  have sz : (B x).size ≤ 1000000 := by rw [size_B]; exact hx
  have IH := hid (ih w (World.grownBy.refl _ _))
  clear ih
  have k1 : ¬ 9223372036854775807 < 1 + (B x).size := by omega
  have k2 : ¬ 9223372036854775807 < 1 + (B x).size + 1 := by omega
  go_enter Tryz.func100, Tryz.ntmps100
  go_wp2_with (go_at_call 69; refine IH.out.mono ?_; rintro e w1 ⟨rfl, g1⟩; have G1 := hid g1; clear g1)
  go_ret
  refine ⟨?_, G1.out⟩
  show Ending.returned (.string (B tOpen ++ B x ++ B tShut)) = _
  rw [append_B, append_B]
  rfl

set_option maxRecDepth 100000 in
set_option maxHeartbeats 1000000 in
theorem funText_apply (w : World) (b : Nat) (x : List UInt8) (hx : x.length ≤ 1000000) (ih : TXP 69 w (.iface 211 (.pointer (some ⟨b, 0, none⟩))) x) :
    Calls Tryz.prog 100 #[.iface 211 (.pointer (some ⟨b, 0, none⟩))] w fun e w' => e = .returned (.string (B (inBr false x))) ∧ w.grownBy w' none := by
  have qFun := as_Apply_Fun b
  have qIf := as_Apply_If b
  have qLet := as_Apply_Let b
  have qLetRec := as_Apply_LetRec b
  have sz : (B x).size ≤ 1000000 := by rw [size_B]; exact hx
  have IH := hid (ih w (World.grownBy.refl _ _))
  clear ih
  go_enter Tryz.func100, Tryz.ntmps100
  go_wp2_with (go_at_call 69; refine IH.out.mono ?_; rintro e w1 ⟨rfl, g1⟩; have G1 := hid g1; clear g1)
  go_ret
  refine ⟨?_, G1.out⟩
  rfl

set_option maxRecDepth 100000 in
set_option maxHeartbeats 1000000 in
theorem funText_pair (w : World) (b : Nat) (x : List UInt8) (hx : x.length ≤ 1000000) (ih : TXP 69 w (.iface 214 (.pointer (some ⟨b, 0, none⟩))) x) :
    Calls Tryz.prog 100 #[.iface 214 (.pointer (some ⟨b, 0, none⟩))] w fun e w' => e = .returned (.string (B (inBr false x))) ∧ w.grownBy w' none := by
  have qFun := as_Pair_Fun b
  have qIf := as_Pair_If b
  have qLet := as_Pair_Let b
  have qLetRec := as_Pair_LetRec b
  have sz : (B x).size ≤ 1000000 := by rw [size_B]; exact hx
  have IH := hid (ih w (World.grownBy.refl _ _))
  clear ih
  go_enter Tryz.func100, Tryz.ntmps100
  go_wp2_with (go_at_call 69; refine IH.out.mono ?_; rintro e w1 ⟨rfl, g1⟩; have G1 := hid g1; clear g1)
  go_ret
  refine ⟨?_, G1.out⟩
  rfl

set_option maxRecDepth 100000 in
set_option maxHeartbeats 1000000 in
theorem argText_name (w : World) (b : Nat) (x : List UInt8) (hx : x.length ≤ 1000000) (ih : TXP 69 w (.iface 186 (.pointer (some ⟨b, 0, none⟩))) x) :
    Calls Tryz.prog 101 #[.iface 186 (.pointer (some ⟨b, 0, none⟩))] w fun e w' => e = .returned (.string (B (inBr false x))) ∧ w.grownBy w' none := by
  have qName := as_Name_Name b
  have qNumber := as_Name_Number b
  have qPair := as_Name_Pair b
  have sz : (B x).size ≤ 1000000 := by rw [size_B]; exact hx
  have IH := hid (ih w (World.grownBy.refl _ _))
  clear ih
  go_enter Tryz.func101, Tryz.ntmps101
  go_wp2_with (go_at_call 69; refine IH.out.mono ?_; rintro e w1 ⟨rfl, g1⟩; have G1 := hid g1; clear g1)
  go_ret
  refine ⟨?_, G1.out⟩
  rfl

set_option maxRecDepth 100000 in
set_option maxHeartbeats 1000000 in
theorem argText_number (w : World) (b : Nat) (x : List UInt8) (hx : x.length ≤ 1000000) (ih : TXP 69 w (.iface 191 (.pointer (some ⟨b, 0, none⟩))) x) :
    Calls Tryz.prog 101 #[.iface 191 (.pointer (some ⟨b, 0, none⟩))] w fun e w' => e = .returned (.string (B (inBr false x))) ∧ w.grownBy w' none := by
  have qName := as_Number_Name b
  have qNumber := as_Number_Number b
  have qPair := as_Number_Pair b
  have sz : (B x).size ≤ 1000000 := by rw [size_B]; exact hx
  have IH := hid (ih w (World.grownBy.refl _ _))
  clear ih
  go_enter Tryz.func101, Tryz.ntmps101
  go_wp2_with (go_at_call 69; refine IH.out.mono ?_; rintro e w1 ⟨rfl, g1⟩; have G1 := hid g1; clear g1)
  go_ret
  refine ⟨?_, G1.out⟩
  rfl

set_option maxRecDepth 100000 in
set_option maxHeartbeats 1000000 in
theorem argText_fun (w : World) (b : Nat) (x : List UInt8) (hx : x.length ≤ 1000000) (ih : TXP 69 w (.iface 194 (.pointer (some ⟨b, 0, none⟩))) x) :
    Calls Tryz.prog 101 #[.iface 194 (.pointer (some ⟨b, 0, none⟩))] w fun e w' => e = .returned (.string (B (inBr true x))) ∧ w.grownBy w' none := by
  have qName := as_Fun_Name b
  have qNumber := as_Fun_Number b
  have qPair := as_Fun_Pair b
  have sz : (B x).size ≤ 1000000 := by rw [size_B]; exact hx
  have IH := hid (ih w (World.grownBy.refl _ _))
  clear ih
  have k1 : ¬ 9223372036854775807 < 1 + (B x).size := by omega
  have k2 : ¬ 9223372036854775807 < 1 + (B x).size + 1 := by omega
  go_enter Tryz.func101, Tryz.ntmps101
  go_wp2_with (go_at_call 69; refine IH.out.mono ?_; rintro e w1 ⟨rfl, g1⟩; have G1 := hid g1; clear g1)
  go_ret
  refine ⟨?_, G1.out⟩
  show Ending.returned (.string (B tOpen ++ B x ++ B tShut)) = _
  rw [append_B, append_B]
  rfl

set_option maxRecDepth 100000 in
set_option maxHeartbeats 1000000 in
theorem argText_if (w : World) (b : Nat) (x : List UInt8) (hx : x.length ≤ 1000000) (ih : TXP 69 w (.iface 197 (.pointer (some ⟨b, 0, none⟩))) x) :
    Calls Tryz.prog 101 #[.iface 197 (.pointer (some ⟨b, 0, none⟩))] w fun e w' => e = .returned (.string (B (inBr true x))) ∧ w.grownBy w' none := by
  have qName := as_If_Name b
  have qNumber := as_If_Number b
  have qPair := as_If_Pair b
  have sz : (B x).size ≤ 1000000 := by rw [size_B]; exact hx
  have IH := hid (ih w (World.grownBy.refl _ _))
  clear ih
  have k1 : ¬ 9223372036854775807 < 1 + (B x).size := by omega
  have k2 : ¬ 9223372036854775807 < 1 + (B x).size + 1 := by omega
  go_enter Tryz.func101, Tryz.ntmps101
  go_wp2_with (go_at_call 69; refine IH.out.mono ?_; rintro e w1 ⟨rfl, g1⟩; have G1 := hid g1; clear g1)
  go_ret
  refine ⟨?_, G1.out⟩
  show Ending.returned (.string (B tOpen ++ B x ++ B tShut)) = _
  rw [append_B, append_B]
  rfl

set_option maxRecDepth 100000 in
set_option maxHeartbeats 1000000 in
theorem argText_let (w : World) (b : Nat) (x : List UInt8) (hx : x.length ≤ 1000000) (ih : TXP 69 w (.iface 200 (.pointer (some ⟨b, 0, none⟩))) x) :
    Calls Tryz.prog 101 #[.iface 200 (.pointer (some ⟨b, 0, none⟩))] w fun e w' => e = .returned (.string (B (inBr true x))) ∧ w.grownBy w' none := by
  have qName := as_Let_Name b
  have qNumber := as_Let_Number b
  have qPair := as_Let_Pair b
  have sz : (B x).size ≤ 1000000 := by rw [size_B]; exact hx
  have IH := hid (ih w (World.grownBy.refl _ _))
  clear ih
  have k1 : ¬ 9223372036854775807 < 1 + (B x).size := by omega
  have k2 : ¬ 9223372036854775807 < 1 + (B x).size + 1 := by omega
  go_enter Tryz.func101, Tryz.ntmps101
  go_wp2_with (go_at_call 69; refine IH.out.mono ?_; rintro e w1 ⟨rfl, g1⟩; have G1 := hid g1; clear g1)
  go_ret
  refine ⟨?_, G1.out⟩
  show Ending.returned (.string (B tOpen ++ B x ++ B tShut)) = _
  rw [append_B, append_B]
  rfl

set_option maxRecDepth 100000 in
set_option maxHeartbeats 1000000 in
theorem argText_letrec (w : World) (b : Nat) (x : List UInt8) (hx : x.length ≤ 1000000) (ih : TXP 69 w (.iface 206 (.pointer (some ⟨b, 0, none⟩))) x) :
    Calls Tryz.prog 101 #[.iface 206 (.pointer (some ⟨b, 0, none⟩))] w fun e w' => e = .returned (.string (B (inBr true x))) ∧ w.grownBy w' none := by
  have qName := as_LetRec_Name b
  have qNumber := as_LetRec_Number b
  have qPair := as_LetRec_Pair b
  have sz : (B x).size ≤ 1000000 := by rw [size_B]; exact hx
  have IH := hid (ih w (World.grownBy.refl _ _))
  clear ih
  have k1 : ¬ 9223372036854775807 < 1 + (B x).size := by omega
  have k2 : ¬ 9223372036854775807 < 1 + (B x).size + 1 := by omega
  go_enter Tryz.func101, Tryz.ntmps101
  go_wp2_with (go_at_call 69; refine IH.out.mono ?_; rintro e w1 ⟨rfl, g1⟩; have G1 := hid g1; clear g1)
  go_ret
  refine ⟨?_, G1.out⟩
  show Ending.returned (.string (B tOpen ++ B x ++ B tShut)) = _
  rw [append_B, append_B]
  rfl

set_option maxRecDepth 100000 in
set_option maxHeartbeats 1000000 in
theorem argText_apply (w : World) (b : Nat) (x : List UInt8) (hx : x.length ≤ 1000000) (ih : TXP 69 w (.iface 211 (.pointer (some ⟨b, 0, none⟩))) x) :
    Calls Tryz.prog 101 #[.iface 211 (.pointer (some ⟨b, 0, none⟩))] w fun e w' => e = .returned (.string (B (inBr true x))) ∧ w.grownBy w' none := by
  have qName := as_Apply_Name b
  have qNumber := as_Apply_Number b
  have qPair := as_Apply_Pair b
  have sz : (B x).size ≤ 1000000 := by rw [size_B]; exact hx
  have IH := hid (ih w (World.grownBy.refl _ _))
  clear ih
  have k1 : ¬ 9223372036854775807 < 1 + (B x).size := by omega
  have k2 : ¬ 9223372036854775807 < 1 + (B x).size + 1 := by omega
  go_enter Tryz.func101, Tryz.ntmps101
  go_wp2_with (go_at_call 69; refine IH.out.mono ?_; rintro e w1 ⟨rfl, g1⟩; have G1 := hid g1; clear g1)
  go_ret
  refine ⟨?_, G1.out⟩
  show Ending.returned (.string (B tOpen ++ B x ++ B tShut)) = _
  rw [append_B, append_B]
  rfl

set_option maxRecDepth 100000 in
set_option maxHeartbeats 1000000 in
theorem argText_pair (w : World) (b : Nat) (x : List UInt8) (hx : x.length ≤ 1000000) (ih : TXP 69 w (.iface 214 (.pointer (some ⟨b, 0, none⟩))) x) :
    Calls Tryz.prog 101 #[.iface 214 (.pointer (some ⟨b, 0, none⟩))] w fun e w' => e = .returned (.string (B (inBr false x))) ∧ w.grownBy w' none := by
  have qName := as_Pair_Name b
  have qNumber := as_Pair_Number b
  have qPair := as_Pair_Pair b
  have sz : (B x).size ≤ 1000000 := by rw [size_B]; exact hx
  have IH := hid (ih w (World.grownBy.refl _ _))
  clear ih
  go_enter Tryz.func101, Tryz.ntmps101
  go_wp2_with (go_at_call 69; refine IH.out.mono ?_; rintro e w1 ⟨rfl, g1⟩; have G1 := hid g1; clear g1)
  go_ret
  refine ⟨?_, G1.out⟩
  rfl
end Go.Proofs.YtcdijppegfcoaaaGreatDoor

/-
  OUR OWN TEXT. The program's groupText.
-/
namespace Go.Proofs.YtcdijppegfcoaaaGreatDoor
open Go.RowKit

def bindsOf (ns xs : List (List UInt8)) : List (List UInt8) := List.zipWith (fun n x => n ++ tEq ++ x) ns xs
theorem bindsOf_len {ns xs : List (List UInt8)} (h : xs.length = ns.length) : (bindsOf ns xs).length = ns.length := by simp [bindsOf, h]
theorem bindsOf_get {ns xs : List (List UInt8)} {j : Nat} {n x : List UInt8} (h1 : ns[j]? = some n) (h2 : xs[j]? = some x) : (bindsOf ns xs)[j]? = some (n ++ tEq ++ x) := by
  simp [bindsOf, List.getElem?_zipWith, h1, h2]
theorem strs_step {ys : List (List UInt8)} {j : Nat} {y : List UInt8} (h : ys[j]? = some y) : strs (ys.take (j + 1)) = strs (ys.take j) ++ [.string (B y)] := by
  rw [List.take_add_one, h]
  simp [strs]
theorem own_strs {w : World} {base n : Nat} {v : Value} {ys : List (List UInt8)} (h : w.ownsRow base 9 1 v n (strs ys)) (h0 : 0 < n) : ∃ g cap, v = .slice (some ⟨g, 0, none⟩) n cap ∧ g < w.heap.size ∧ n ≤ cap ∧ ∀ (j : Nat) (x : ByteArray), (ys.map B)[j]? = some x → w.cell? ⟨g, 0 + j, none⟩ = some (.string x) := by
  obtain ⟨h1, h2⟩ := h
  rcases h2 with ⟨_, h3⟩ | ⟨g, cap, cur, e1, e2, e3, e4, e5, e6, e7⟩
  · omega
  · refine ⟨g, cap, e1, lt_of_block e3, e4, fun j x hx => ?_⟩
    have hx2 : (strs ys)[j]? = some (.string x) := by
      simp only [List.getElem?_map, Option.map_eq_some_iff] at hx
      obtain ⟨y, hy, rfl⟩ := hx
      simp [strs, hy]
    rw [← e7, List.getElem?_take] at hx2
    split at hx2
    · simp only [World.cell?, e3, Nat.zero_add]
      simpa using hx2
    · cases hx2
theorem B_back (ys : List (List UInt8)) : (ys.map B).map (fun x => x.data.toList) = ys := by
  rw [List.map_map]
  conv => rhs; rw [← List.map_id ys]
  apply List.map_congr_left
  intro a _
  simp [B]

set_option maxRecDepth 100000 in
set_option maxHeartbeats 4000000 in
theorem groupText_p (w : World) (g cap : Nat) (ns : List (List UInt8)) (us : List Value) (xs : List (List UInt8)) (hn : ns.length ≤ 1000000) (h0 : 0 < ns.length) (hxl : xs.length = ns.length) (hga : GAt w g ns us) (hax : AllX us)
    (hns : ∀ n, n ∈ ns → n.length ≤ 1000000) (hxs : ∀ x, x ∈ xs → x.length ≤ 1000000) (hj : (Lib.join (bindsOf ns xs) tAnd).length ≤ 1000000000) (ih : ∀ (j : Nat) (u : Value) (x : List UInt8), us[j]? = some u → xs[j]? = some x → TXP 69 w u x) :
    Calls Tryz.prog 99 #[.slice (some ⟨g, 0, none⟩) ns.length cap] w fun e w' => e = .returned (.string (B (Lib.join (bindsOf ns xs) tAnd))) ∧ w.grownBy w' none := by
  have hul := hga.1
  obtain ⟨ys, hys⟩ : ∃ ys, ys = bindsOf ns xs := ⟨_, rfl⟩
  have hyl : ys.length = ns.length := by rw [hys]; exact bindsOf_len hxl
  rw [← hys] at hj ⊢
  have HYS := hid hys
  have GA := hid hga
  have IH := hid ih
  clear hga ih hys
  obtain ⟨i0, hi, hz0, hz1, hz2⟩ := info_parts info_str
  go_enter Tryz.func99, Tryz.ntmps99
  go_wp2_with fail
  go_loopg [3, 8] (ns.length + 1) (fun q bv i wi => ∃ j : Nat, j ≤ ns.length ∧ i = .int .i64 j ∧ q = ns.length - j + 1 ∧ Hid (wi.ownsRow w.heap.size 9 1 bv j (strs (ys.take j))) ∧ Hid (w.grownBy wi none))
  case atStart => exact ⟨0, by omega, rfl, by omega, World.ownsRow_nil _ _ _ _, World.grownBy.refl _ _⟩
  case round =>
    obtain ⟨j, hj1, rfl, hq, OW, GR⟩ := hrel
    rename World => w2
    have hs2 : w.heap.size ≤ w2.heap.size := GR.out.size
    by_cases hlt : j < ns.length
    · obtain ⟨nm, hnm⟩ : ∃ nm, ns[j]? = some nm := ⟨ns[j], List.getElem?_eq_getElem _⟩
      obtain ⟨x, hx⟩ : ∃ x, xs[j]? = some x := ⟨xs[j]'(by omega), List.getElem?_eq_getElem _⟩
      obtain ⟨u, hu⟩ : ∃ u, us[j]? = some u := ⟨us[j]'(by omega), List.getElem?_eq_getElem _⟩
      obtain ⟨c0, c1, _⟩ := (GA.out.grown GR.out).2.2 j nm u hnm hu
      obtain ⟨t6, b6, rfl⟩ := hax u (List.mem_of_getElem? hu)
      have hj2 : (j : Int) < (ns.length : Int) := by omega
      have hnml := hns nm (List.mem_of_getElem? hnm)
      have hxll := hxs x (List.mem_of_getElem? hx)
      have BT := hid (bindText_p (w2.alloc (.cells #[.string (B nm), (.iface t6 (.pointer (some ⟨b6, 0, none⟩)))] 203)) nm x t6 b6 (by omega) (by omega) ((IH.out j _ x hu hx).at (GR.out.trans (World.grownBy_alloc _ _ _))))
      have HY := hid (show ys[j]? = some (nm ++ tEq ++ x) by rw [HYS.out]; exact bindsOf_get hnm hx)
      obtain ⟨yy, hyy⟩ : ∃ yy, yy = nm ++ tEq ++ x := ⟨_, rfl⟩
      rw [← hyy] at BT HY
      clear hx hu hnm hyy
      go_wp2_with fail
      refine BT.out.mono ?_
      rintro e w3 ⟨rfl, g3⟩
      have own3 := own_grown (OW.out.alloc _) g3
      have GR3 := hid ((GR.out.trans (World.grownBy_alloc _ _ _)).trans g3)
      have hs3 : w.heap.size ≤ w3.heap.size := GR3.out.size
      clear g3 c0 c1
      go_wp2_with (at_builtin; refine wpList_append_lies _ rfl (.tmp 12) (.tmp 15) 34 rfl w.heap.size 9 i0 (.string (B [])) 1 16 Tryz.underlying34 hi hz0 hz1 hz2 rfl (by decide) _ _ _ rfl (own3.alloc _) ⟨w3.heap.size, 0, none⟩ 1 1 [.string (B yy)] rfl rfl ?d1 ?d2 (by decide) ?d3 ?d4 ?d5 (w3.heap.size + 1) ?d6 ?_)
      case d1 => exact one_new _ _ _
      case d2 => exact one_str _
      case d3 => unfold maxLen; omega
      case d4 => omega
      case d5 => simp; omega
      case d6 => simp
      intro g7 cap7 w7 hown7 hgrow7 _ _
      have ON := hid hown7
      have GN := hid (grown_own (GR3.out.trans (World.grownBy_alloc _ _ _)) hgrow7 (fun k e => (own_lt own3 e).1))
      clear hown7 hgrow7 own3
      go_wp2_with fail
      go_roundg (ns.length - (j + 1) + 1)
      case measure => omega
      case rel =>
        refine ⟨j + 1, by omega, by go_num, rfl, ?_, GN⟩
        rw [strs_step HY.out]
        exact ON
    · have hj3 : j = ns.length := by omega
      subst hj3
      have own6 := OW.out
      rw [List.take_of_length_le (by omega)] at own6
      obtain ⟨g6, cap6, rfl, hg6, hcap6, hrow6⟩ := own_strs own6 h0
      have hml : (ys.map B).length = ns.length := by simp [hyl]
      have JN := Tryz.strings_Join g6 0 cap6 (ys.map B) (B tAnd) w2 hrow6 hg6 (by omega) (by omega) (by rw [B_back]; simp [B]; omega)
      rw [hml, B_back] at JN
      have JH := hid JN
      clear JN hrow6 own6
      go_wp2_with fail
      refine JH.out.mono ?_
      rintro e w8 ⟨rfl, g8⟩
      have G8 := hid (GR.out.trans (show w2.grownBy w8 none from ⟨g8.os, g8.tape, g8.output, g8.size, fun k hk _ => g8.block k hk⟩))
      clear g8
      go_wp2
      go_ret
      refine ⟨?_, G8.out⟩
      simp [B]
end Go.Proofs.YtcdijppegfcoaaaGreatDoor

/-
  OUR OWN TEXT. The program's expr.Text, whole.
-/
namespace Go.Proofs.YtcdijppegfcoaaaGreatDoor
open Go.RowKit

set_option maxRecDepth 100000 in
set_option maxHeartbeats 8000000 in
theorem ptext_rec (w : World) (b : Nat) (gv : Value) (y : List UInt8) (t1 b1 : Nat) (x1 : List UInt8) (g n cap : Nat) (hgv : gv = .slice (some ⟨g, 0, none⟩) n cap) (l0 : y.length ≤ 1000000000) (l1 : x1.length ≤ 1000000000) (hb : b < w.heap.size) (c1 : w.cell? ⟨b, 1, none⟩ = some gv) (c2 : w.cell? ⟨b, 2, none⟩ = some (.iface t1 (.pointer (some ⟨b1, 0, none⟩))))
    (ih0 : TXP 99 w gv y) (ih1 : TXP 69 w (.iface t1 (.pointer (some ⟨b1, 0, none⟩))) x1) :
    Calls Tryz.prog 69 #[.iface 206 (.pointer (some ⟨b, 0, none⟩))] w fun e w' => e = .returned (.string (B ((tLet ++ tRec) ++ y ++ tIn ++ x1))) ∧ w.grownBy w' none := by
  subst hgv
  have qName := as_LetRec_Name b
  have qNumber := as_LetRec_Number b
  have qFun := as_LetRec_Fun b
  have qIf := as_LetRec_If b
  have qLet := as_LetRec_Let b
  have qRec := as_LetRec_LetRec b
  have sz0 : (B y).size ≤ 1000000000 := by rw [size_B]; exact l0
  have sz1 : (B x1).size ≤ 1000000000 := by rw [size_B]; exact l1
  have k1 : ¬ 9223372036854775807 < 8 + (B y).size := by omega
  have k2 : ¬ 9223372036854775807 < 8 + (B y).size + 4 := by omega
  have k3 : ¬ 9223372036854775807 < 8 + (B y).size + 4 + (B x1).size := by omega
  have IH0 := hid ih0
  have IH1 := hid ih1
  clear ih0 ih1
  go_enter Tryz.func69, Tryz.ntmps69
  go_wp2_with fail
  go_region_held3 (fun wx => wx.cell? ⟨b, 1, none⟩ = some (.slice (some ⟨g, 0, none⟩) n cap) ∧ wx.cell? ⟨b, 2, none⟩ = some (.iface t1 (.pointer (some ⟨b1, 0, none⟩)))) (first | assumption | exact ⟨by assumption, by assumption⟩ | go_keep) (first | (go_at_call 99; refine (IH0.out _ ?_).mono ?_; exact (grown_drew (World.grownBy.refl _ _)); rintro e w1 ⟨rfl, g0⟩; have G0 : Hid (w.grownBy w1 none) := World.grownBy.trans (grown_drew (World.grownBy.refl _ _)) g0; have d0_1 := grown_cell c1 hb G0.out; have d0_2 := grown_cell c2 hb G0.out; clear g0) | (go_at_call 69; refine (IH1.out _ ?_).mono ?_; exact G0.out; rintro e w2 ⟨rfl, g1⟩; have G1 : Hid (w.grownBy w2 none) := World.grownBy.trans G0.out g1; have d1_1 := grown_cell c1 hb G1.out; have d1_2 := grown_cell c2 hb G1.out; clear g1))
  all_goals
    go_wp2
    go_ret
    refine ⟨?_, G1.out⟩
    show Ending.returned (.string (B (tLet ++ tRec) ++ B y ++ B tIn ++ B x1)) = _
    rw [append_B, append_B, append_B]

theorem joinTail_snoc (sep : List UInt8) (r : List (List UInt8)) (y : List UInt8) : Lib.joinTail sep (r ++ [y]) = Lib.joinTail sep r ++ (sep ++ y) := by
  simp [Lib.joinTail]
/-- What is bound, one behind the other, in both readings. -/
theorem bindTo_join (nm ts : Nat → List UInt8) : ∀ N, 0 < N → Lib.join ((List.range N).map fun j => nm j ++ tEq ++ ts j) tAnd = bindTo nm ts N
  | 0, h => by omega
  | 1, _ => by simp [bindTo, Lib.join_one]
  | N + 2, _ => by
    have ih := bindTo_join nm ts (N + 1) (by omega)
    rw [List.range_succ, List.map_append, List.map_singleton, bindTo, if_pos (by omega), ← ih]
    generalize hl : (List.range (N + 1)).map (fun j => nm j ++ tEq ++ ts j) = l
    cases l with
    | nil => simp at hl
    | cons a r =>
      rw [List.cons_append, Lib.join_cons, Lib.join_cons, joinTail_snoc]
      simp only [List.append_assoc]
theorem bindsOf_range (ns xs : List (List UInt8)) (h : xs.length = ns.length) : bindsOf ns xs = (List.range ns.length).map fun j => nth ns j ++ tEq ++ nth xs j := by
  apply List.ext_getElem?
  intro j
  rcases Nat.lt_or_ge j ns.length with hj | hj
  · rw [bindsOf_get (List.getElem?_eq_getElem hj) (List.getElem?_eq_getElem (by omega))]
    simp [nth, hj, h]
  · rw [List.getElem?_eq_none (by rw [bindsOf_len h]; exact hj), List.getElem?_eq_none (by simp; exact hj)]

theorem funTXP {m : Nat} {H : Nat → Option Obj} {u : Value} {y : Ex} {w : World} {t : List UInt8} (h : PRep m H u y) (ht : t.length ≤ 1000000) (ih : TXP 69 w u t) : TXP 100 w u (inBr (brF y.op) t) := fun wx hg => by
  cases m with
  | zero => exact absurd h id
  | succ m =>
    obtain ⟨b, vs, rfl, hn, _⟩ := h
    have i2 := ih.at hg
    rcases hn with ⟨h0, _⟩ | ⟨h0, _⟩ | ⟨h0, _⟩ | ⟨h0, _⟩ | ⟨h0, _⟩ | ⟨h0, _⟩ | ⟨h0, _⟩ | ⟨h0, _⟩ <;> rw [h0] at i2 ⊢
    · exact funText_name wx b t ht i2
    · exact funText_number wx b t ht i2
    · exact funText_fun wx b t ht i2
    · exact funText_if wx b t ht i2
    · exact funText_let wx b t ht i2
    · exact funText_letrec wx b t ht i2
    · exact funText_apply wx b t ht i2
    · exact funText_pair wx b t ht i2
theorem argTXP {m : Nat} {H : Nat → Option Obj} {u : Value} {y : Ex} {w : World} {t : List UInt8} (h : PRep m H u y) (ht : t.length ≤ 1000000) (ih : TXP 69 w u t) : TXP 101 w u (inBr (brA y.op) t) := fun wx hg => by
  cases m with
  | zero => exact absurd h id
  | succ m =>
    obtain ⟨b, vs, rfl, hn, _⟩ := h
    have i2 := ih.at hg
    rcases hn with ⟨h0, _⟩ | ⟨h0, _⟩ | ⟨h0, _⟩ | ⟨h0, _⟩ | ⟨h0, _⟩ | ⟨h0, _⟩ | ⟨h0, _⟩ | ⟨h0, _⟩ <;> rw [h0] at i2 ⊢
    · exact argText_name wx b t ht i2
    · exact argText_number wx b t ht i2
    · exact argText_fun wx b t ht i2
    · exact argText_if wx b t ht i2
    · exact argText_let wx b t ht i2
    · exact argText_letrec wx b t ht i2
    · exact argText_apply wx b t ht i2
    · exact argText_pair wx b t ht i2
theorem PRep.val {m : Nat} {H : Nat → Option Obj} {u : Value} {y : Ex} (h : PRep m H u y) : ∃ t b, u = (.iface t (.pointer (some ⟨b, 0, none⟩))) := by
  cases m with
  | zero => exact absurd h id
  | succ m =>
    obtain ⟨b, vs, h1, _⟩ := h
    exact ⟨_, b, h1⟩
theorem kid_of {m : Nat} {H : Nat → Option Obj} {x : Ex} {vs : List Value} (hl : vs.length = x.kids.length) (hk : ∀ (i : Nat) (y : Ex) (u : Value), vs[i]? = some u → x.kids[i]? = some y → PRep m H u y) (j : Nat) {u : Value} (hu : vs[j]? = some u) : ∃ y, x.kids[j]? = some y ∧ PRep m H u y := by
  have hj : j < vs.length := by
    rcases Nat.lt_or_ge j vs.length with h | h
    · exact h
    · rw [List.getElem?_eq_none h] at hu; cases hu
  exact ⟨x.kids[j]'(by omega), List.getElem?_eq_getElem _, hk j _ u hu (List.getElem?_eq_getElem _)⟩
theorem kidT_at {m : Nat} {x y : Ex} {j : Nat} (h : x.kids[j]? = some y) : kidT m x j = exText m y := by unfold kidT; rw [h]
theorem kidO_at {x y : Ex} {j : Nat} (h : x.kids[j]? = some y) : kidO x j = y.op := by unfold kidO; rw [h]

theorem bind_parts_le (nm ts : Nat → List UInt8) {j N : Nat} (h : j < N) : (nm j).length + (ts j).length ≤ (bindTo nm ts N).length := by
  have h1 := bindTo_step nm ts j
  have h2 := bindTo_le nm ts (j + 1) N h
  omega

set_option maxHeartbeats 2000000 in
theorem pt_all : ∀ (m : Nat) (H : Nat → Option Obj) (v : Value) (x : Ex) (w : World), PRep m H v x → Fz H w → (exText m x).length ≤ 1000000 →
    Calls Tryz.prog 69 #[v] w fun e w' => e = .returned (.string (B (exText m x))) ∧ w.grownBy w' none
  | 0, _, _, _, _, h, _, _ => absurd h id
  | m + 1, H, v, x, w, h, hz, hl => by
    have ih := pt_all m H
    have ihx : ∀ (u : Value) (y : Ex), PRep m H u y → (exText m y).length ≤ 1000000 → TXP 69 w u (exText m y) := fun u y hy hly wx hg => ih u y wx hy (hz.grown hg) hly
    obtain ⟨b, vs, rfl, hn, hvl, hk⟩ := h
    rw [exText_succ, exBody] at hl ⊢
    rcases hn with ⟨h0, t, h1, h2, h3, h4⟩ | ⟨h0, t, h1, h2, h3, h4⟩ | ⟨h0, t, u, h1, h2, h3, h4⟩ | ⟨h0, u, v, z, h1, h3, h4⟩ | ⟨h0, t, u, v, h1, h2, h3, h4⟩ | ⟨h0, us, u, gv, h1, h2, h3, h5, h6, h4⟩ | ⟨h0, u, v, h1, h3, h4⟩ | ⟨h0, u, v, h1, h3, h4⟩
    · rw [if_pos (Or.inl h0)] at hl ⊢
      have hb := hz _ _ h4
      rw [h0, show nth x.names 0 = t from by rw [h1]; rfl] at *
      exact ptext_name w b t (by omega) (by simp [World.cell?, hb])
    · rw [if_pos (Or.inr h0)] at hl ⊢
      have hb := hz _ _ h4
      rw [h0, show nth x.names 0 = t from by rw [h1]; rfl] at *
      exact ptext_number w b t (by omega) (by simp [World.cell?, hb])
    · rw [if_neg (by rw [h0]; decide), if_pos h0] at hl ⊢
      have hb := hz _ _ h4
      obtain ⟨y, hy1, hy2⟩ := kid_of hvl hk 0 (u := u) (by rw [h3]; rfl)
      rw [h0, show nth x.names 0 = t from by rw [h1]; rfl, kidT_at hy1] at *
      obtain ⟨t0, b0, rfl⟩ := hy2.val
      simp only [List.length_append] at hl
      exact ptext_fun w b t0 b0 _ t (by omega) (by omega) (lt_of_block hb) (by simp [World.cell?, hb]) (by simp [World.cell?, hb]) (ihx _ y hy2 (by omega))
    · rw [if_neg (by rw [h0]; decide), if_neg (by rw [h0]; decide), if_neg (by rw [h0]; decide), if_pos h0] at hl ⊢
      have hb := hz _ _ h4
      obtain ⟨y0, hy0, hr0⟩ := kid_of hvl hk 0 (u := u) (by rw [h3]; rfl)
      obtain ⟨y1, hy1, hr1⟩ := kid_of hvl hk 1 (u := v) (by rw [h3]; rfl)
      obtain ⟨y2, hy2, hr2⟩ := kid_of hvl hk 2 (u := z) (by rw [h3]; rfl)
      rw [h0, kidT_at hy0, kidT_at hy1, kidT_at hy2] at *
      obtain ⟨t0, b0, rfl⟩ := hr0.val
      obtain ⟨t1, b1, rfl⟩ := hr1.val
      obtain ⟨t2, b2, rfl⟩ := hr2.val
      simp only [List.length_append] at hl
      exact ptext_if w b t0 b0 _ t1 b1 _ t2 b2 _ (by omega) (by omega) (by omega) (lt_of_block hb) (by simp [World.cell?, hb]) (by simp [World.cell?, hb]) (by simp [World.cell?, hb]) (ihx _ y0 hr0 (by omega)) (ihx _ y1 hr1 (by omega)) (ihx _ y2 hr2 (by omega))
    · rw [if_neg (by rw [h0]; decide), if_neg (by rw [h0]; decide), if_neg (by rw [h0]; decide), if_neg (by rw [h0]; decide), if_neg (by rw [h0]; decide)] at hl ⊢
      have hb := hz _ _ h4
      obtain ⟨y0, hy0, hr0⟩ := kid_of hvl hk 0 (u := u) (by rw [h3]; rfl)
      obtain ⟨y1, hy1, hr1⟩ := kid_of hvl hk 1 (u := v) (by rw [h3]; rfl)
      have e1 : x.names.length = 1 := by rw [h1]; rfl
      have e2 : letHead x.op ++ bindTo (nth x.names) (kidT m x) x.names.length ++ tIn ++ kidT m x x.names.length = tLet ++ (t ++ tEq ++ exText m y0) ++ tIn ++ exText m y1 := by
        rw [e1, kidT_at hy1, h0]
        have : nth x.names 0 = t := by rw [h1]; rfl
        simp [bindTo, letHead, kLet, kRec, this, kidT_at hy0]
      rw [e2] at hl ⊢
      rw [h0]
      obtain ⟨t0, b0, rfl⟩ := hr0.val
      obtain ⟨t1, b1, rfl⟩ := hr1.val
      simp only [List.length_append] at hl
      exact ptext_let w b t0 b0 _ t1 b1 _ t (by omega) (by omega) (by omega) (lt_of_block hb) (by simp [World.cell?, hb]) (by simp [World.cell?, hb]) (by simp [World.cell?, hb]) (ihx _ y0 hr0 (by omega)) (ihx _ y1 hr1 (by omega))
    · rw [if_neg (by rw [h0]; decide), if_neg (by rw [h0]; decide), if_neg (by rw [h0]; decide), if_neg (by rw [h0]; decide), if_neg (by rw [h0]; decide)] at hl ⊢
      have hb := hz _ _ h4
      obtain ⟨yl, hyl, hrl⟩ := kid_of hvl hk x.names.length (u := u) (by rw [h5, List.getElem?_append_right (by omega), h2]; simp)
      obtain ⟨xs, hxs⟩ : ∃ xs, xs = (List.range x.names.length).map (kidT m x) := ⟨_, rfl⟩
      have hxl : xs.length = x.names.length := by rw [hxs]; simp
      have hxn : ∀ j, j < x.names.length → nth xs j = kidT m x j := fun j hj => by rw [hxs]; simp [nth, hj]
      have e1 : Lib.join (bindsOf x.names xs) tAnd = bindTo (nth x.names) (kidT m x) x.names.length := by
        rw [bindsOf_range _ _ hxl, bindTo_join _ _ _ h1]
        exact bindTo_congr _ (fun j hj => ⟨rfl, hxn j hj⟩)
      have hh : letHead x.op = tLet ++ tRec := by rw [h0]; rfl
      rw [hh, kidT_at hyl, ← e1] at hl ⊢
      simp only [List.length_append] at hl
      have hN : x.names.length ≤ 1000000 := by
        have := bindTo_n (nth x.names) (kidT m x) x.names.length
        rw [← e1] at this
        omega
      have part : ∀ j, j < x.names.length → (nth x.names j).length + (kidT m x j).length ≤ 1000000 := fun j hj => by
        have := bind_parts_le (nth x.names) (kidT m x) hj
        rw [← e1] at this
        omega
      obtain ⟨g, cap, cur, hg1, hg2, hg3⟩ := h6
      have hgb := hz _ _ hg2
      have husx : AllX us := fun a ha => by
        obtain ⟨i, hi, rfl⟩ := List.mem_iff_getElem.1 ha
        obtain ⟨y, _, hr⟩ := kid_of hvl hk i (u := us[i]) (by rw [h5, List.getElem?_append_left hi]; exact List.getElem?_eq_getElem hi)
        exact hr.val
      have hga : GAt w g x.names us := by
        refine ⟨h2, lt_of_block hgb, fun i nm a e2 e3 => ?_⟩
        have hi : i < x.names.length := by
          rcases Nat.lt_or_ge i x.names.length with h | h
          · exact h
          · rw [List.getElem?_eq_none h] at e2; cases e2
        obtain ⟨q1, q2⟩ := bindCells_get x.names us i nm a h2 e2 e3
        rw [← hg3, List.getElem?_take, if_pos (by omega)] at q1 q2
        obtain ⟨t, c, rfl⟩ := husx a (List.mem_of_getElem? e3)
        refine ⟨?_, ?_, rfl⟩
        · simp only [World.cell?, hgb]
          simpa using q1
        · simp only [World.cell?, hgb]
          simpa using q2
      obtain ⟨t1, b1, rfl⟩ := hrl.val
      have gt : TXP 99 w gv (Lib.join (bindsOf x.names xs) tAnd) := fun wx hg => by
        rw [hg1]
        refine groupText_p wx g cap x.names us xs hN h1 hxl (hga.grown hg) husx (fun n hn => ?_) (fun a ha => ?_) (by omega) (fun j a tx e2 e3 => ?_)
        · obtain ⟨i, hi, rfl⟩ := List.mem_iff_getElem.1 hn
          have := part i hi
          have e : nth x.names i = x.names[i] := by simp [nth, hi]
          rw [e] at this
          omega
        · rw [hxs] at ha
          obtain ⟨j, hj, rfl⟩ := List.mem_map.1 ha
          have := part j (List.mem_range.1 hj)
          omega
        · have hj : j < x.names.length := by
            rcases Nat.lt_or_ge j us.length with h | h
            · omega
            · rw [List.getElem?_eq_none h] at e2; cases e2
          obtain ⟨y, hy, hr⟩ := kid_of hvl hk j (u := a) (by rw [h5, List.getElem?_append_left (by omega)]; exact e2)
          have et : tx = exText m y := by
            have := hxn j hj
            simp only [nth, e3, Option.getD_some] at this
            rw [this, kidT_at hy]
          have hpl := part j hj
          rw [kidT_at hy] at hpl
          rw [et]
          exact (ihx a y hr (by omega)).at hg
      rw [h0]
      exact ptext_rec w b gv _ t1 b1 _ g x.names.length cap hg1 (by omega) (by omega) (lt_of_block hb) (by simp [World.cell?, hb]) (by simp [World.cell?, hb]) gt (ihx _ yl hrl (by omega))
    · rw [if_neg (by rw [h0]; decide), if_neg (by rw [h0]; decide), if_neg (by rw [h0]; decide), if_neg (by rw [h0]; decide), if_pos h0] at hl ⊢
      have hb := hz _ _ h4
      obtain ⟨y0, hy0, hr0⟩ := kid_of hvl hk 0 (u := u) (by rw [h3]; rfl)
      obtain ⟨y1, hy1, hr1⟩ := kid_of hvl hk 1 (u := v) (by rw [h3]; rfl)
      rw [h0, kidT_at hy0, kidT_at hy1, kidO_at hy0, kidO_at hy1] at *
      obtain ⟨t0, b0, rfl⟩ := hr0.val
      obtain ⟨t1, b1, rfl⟩ := hr1.val
      simp only [List.length_append] at hl
      have g0 := inBr_ge (brF y0.op) (exText m y0)
      have g1 := inBr_ge (brA y1.op) (exText m y1)
      exact ptext_apply w b t0 b0 _ t1 b1 _ (by omega) (by omega) (lt_of_block hb) (by simp [World.cell?, hb]) (by simp [World.cell?, hb]) (funTXP hr0 (by omega) (ihx _ y0 hr0 (by omega))) (argTXP hr1 (by omega) (ihx _ y1 hr1 (by omega)))
    · rw [if_neg (by rw [h0]; decide), if_neg (by rw [h0]; decide), if_pos h0] at hl ⊢
      have hb := hz _ _ h4
      obtain ⟨y0, hy0, hr0⟩ := kid_of hvl hk 0 (u := u) (by rw [h3]; rfl)
      obtain ⟨y1, hy1, hr1⟩ := kid_of hvl hk 1 (u := v) (by rw [h3]; rfl)
      rw [h0, kidT_at hy0, kidT_at hy1] at *
      obtain ⟨t0, b0, rfl⟩ := hr0.val
      obtain ⟨t1, b1, rfl⟩ := hr1.val
      simp only [List.length_append] at hl
      exact ptext_pair w b t0 b0 _ t1 b1 _ (by omega) (by omega) (lt_of_block hb) (by simp [World.cell?, hb]) (by simp [World.cell?, hb]) (ihx _ y0 hr0 (by omega)) (ihx _ y1 hr1 (by omega))
end Go.Proofs.YtcdijppegfcoaaaGreatDoor

/-
  OUR OWN TEXT. The program's infer.Show.
-/
namespace Go.Proofs.YtcdijppegfcoaaaGreatDoor
open Go.RowKit

theorem text_le {n m : Nat} {x : Ex} (h : Shape n x) (hm : n ≤ m) : exText m x = exText n x := by
  have hs : ∀ k, Shape (n + k) x ∧ exText (n + k) x = exText n x := by
    intro k
    induction k with
    | zero => exact ⟨h, rfl⟩
    | succ k ih =>
      have := more_fuel _ _ ih.1
      exact ⟨this.1, this.2.1.trans ih.2⟩
  have := (hs (m - n)).2
  rw [show n + (m - n) = m from by omega] at this
  exact this
theorem text_same {n m : Nat} {x : Ex} (h : Shape n x) (h' : Shape m x) : exText n x = exText m x ∧ exDeep n x = exDeep m x := by
  rcases Nat.le_total n m with hl | hl
  · exact ⟨(text_le h hl).symm, (deep_le h hl).symm⟩
  · exact ⟨text_le h' hl, deep_le h' hl⟩

/-- What Show leaves; m: any fuel at which the expression has its parts. -/
def SOut (w w' : World) (s2 : St) (e : Ending) (ex : Ex) (bd : Addr) : Prop :=
  w.grownBy w' none ∧ ((0 ≤ s2.bad ∧ ∃ b, e = .returned (.tuple #[.string (B []), .iface 134 (.pointer (some ⟨b, 0, none⟩))]) ∧ w'.heap[b]? = some (.cells #[.int .i64 s2.bad] 145 (0, 0))) ∨
    (s2.bad < 0 ∧ ∀ m, Shape m ex → ((40 < exDeep m ex ∧ e = .returned (.tuple #[.string (B []), errV bd])) ∨ (exDeep m ex ≤ 40 ∧ e = .returned (.tuple #[.string (B (exText m ex)), .nilIface])))))

set_option maxRecDepth 100000 in
set_option maxHeartbeats 2000000 in
theorem show_p (s : ByteArray) (hs : s.size ≤ 300) (w : World) (n : Nat) (ex : Ex) (s1 : St) (hx : expS (toksOf exKw s) n ⟨0, -1⟩ = some (ex, s1)) (hni : (needS (toksOf exKw s) s1 kEnd).bad < 0 → ∃ m c, Nice m ex c ∧ c ≤ 400) (bd : Addr) (hg : w.cell? ⟨3, 0, none⟩ = some (errV bd)) (hgl : 3 < w.heap.size) :
    Calls Tryz.prog 36 #[.string s] w fun e w' => SOut w w' (needS (toksOf exKw s) s1 kEnd) e ex bd := by
  have HC := hid (read_p s hs w n ex s1 hx bd hg hgl)
  clear hx hg
  go_enter Tryz.func36, Tryz.ntmps36
  go_wp2_with fail
  refine HC.out.mono ?_
  rintro e w1 ⟨g1, (⟨hb, b, rfl, hbk⟩ | ⟨hb, v, H', m, z1, r1, d1, (⟨hd, rfl⟩ | ⟨hd, rfl⟩)⟩)⟩
  · have Q := hid (And.intro g1 (And.intro hb hbk))
    clear g1 hb hbk HC
    go_wp2
    go_ret2
    exact ⟨Q.out.1, Or.inl ⟨Q.out.2.1, b, rfl, Q.out.2.2⟩⟩
  · have sh := PRep.shape _ _ _ r1
    have Q := hid (And.intro g1 (And.intro hb (And.intro sh hd)))
    clear g1 hb z1 r1 d1 sh hd HC
    unfold errV
    go_wp2
    go_ret2
    obtain ⟨g1, hb, sh, hd⟩ := Q.out
    exact ⟨g1, Or.inr ⟨hb, fun k hk => Or.inl ⟨by rw [(text_same hk sh).2]; exact hd, rfl⟩⟩⟩
  · have sh := PRep.shape _ _ _ r1
    obtain ⟨m', c, nice, hc⟩ := hni hb
    have ts := text_same sh nice.shape
    have hlen : (exText m ex).length ≤ 10000 := by
      rw [ts.1]
      have := nice.text
      omega
    have PT := hid (pt_all m H' v ex w1 r1 z1 (by omega))
    obtain ⟨t1, b1, rfl⟩ := r1.val
    have Q := hid (And.intro g1 (And.intro hb (And.intro sh hd)))
    have hsz : (B (exText m ex)).size ≤ 281474976710656 := by rw [size_B]; omega
    clear g1 hb z1 r1 d1 sh hd HC hni nice ts
    go_wp2_with (first | (go_at_call 69; refine PT.out.mono ?_; rintro e w2 ⟨rfl, g2⟩; have G2 := hid g2; clear g2) | (go_at_call 97; refine (Tryz.stringslite_Clone _ _ hsz).mono ?_; rintro e w3 ⟨rfl, g3⟩; have G3 := hid g3; clear g3) | go_in)
    go_ret2
    obtain ⟨g1, hb, sh, hd⟩ := Q.out
    exact ⟨(g1.trans G2.out).trans ⟨G3.out.os, G3.out.tape, G3.out.output, G3.out.size, fun k hk _ => G3.out.block k hk⟩, Or.inr ⟨hb, fun k hk => Or.inr ⟨by rw [(text_same hk sh).2]; exact hd, by rw [(text_same hk sh).1]; rfl⟩⟩⟩

set_option maxRecDepth 100000 in
theorem show_plong (s : ByteArray) (hs : 300 < s.size) (w : World) (bl : Addr) (hg : w.cell? ⟨2, 0, none⟩ = some (errV bl)) (hgl : 2 < w.heap.size) :
    Calls Tryz.prog 36 #[.string s] w fun e w' => e = .returned (.tuple #[.string (B []), errV bl]) ∧ w.grownBy w' none := by
  have HC := hid (read_plong s hs w bl hg hgl)
  clear hg
  unfold errV at HC ⊢
  go_enter Tryz.func36, Tryz.ntmps36
  go_wp2_with (go_at_call 67; refine HC.out.mono ?_; rintro e w' ⟨rfl, g1⟩; have G1 := hid g1; clear g1)
  go_ret2
  exact ⟨rfl, G1.out⟩
end Go.Proofs.YtcdijppegfcoaaaGreatDoor
