/-
  OUR OWN TEXT (written by mktext.py). typerref.Text at a leaf, a pair, an if, an application.
-/
import Derived.Test.YtcdijppegfcoaaaGreatDoorRefT
import Derived.Deep.RegionWith
namespace Go.Proofs.YtcdijppegfcoaaaGreatDoor
open Go.RowKit

/-- What Text answers of a part, in whatever world has drawn more. -/
def TX (w : World) (c : Nat) (t : List UInt8) : Prop := ∀ n, Calls Tryz.prog 17 #[.pointer (some ⟨c, 0, none⟩)] (w.drewN n) fun e w' => e = .returned (.string (B t)) ∧ ∃ q, w' = (w.drewN n).drewN q
def tOpen : List UInt8 := [40]
def tShut : List UInt8 := [41]
def tComma : List UInt8 := [44, 32]
def tIf : List UInt8 := [105, 102, 32]
def tThen : List UInt8 := [32, 116, 104, 101, 110, 32]
def tElse : List UInt8 := [32, 101, 108, 115, 101, 32]
def tSp : List UInt8 := [32]

set_option maxRecDepth 100000 in
set_option maxHeartbeats 2000000 in
theorem text_pair (w : World) (b gk ck : Nat) (c0 c1 : Nat) (t0 t1 : List UInt8) (p : Int) (ns : Value) (hl0 : t0.length ≤ 1000000000) (hl1 : t1.length ≤ 1000000000) (hb : w.heap[b]? = some (.cells #[.string (B oPair), ns, .slice (some ⟨gk, 0, none⟩) 2 ck, .int .i64 p] 86 (0, 0))) (hk0 : w.cell? ⟨gk, 0, none⟩ = some (.pointer (some ⟨c0, 0, none⟩))) (hk1 : w.cell? ⟨gk, 1, none⟩ = some (.pointer (some ⟨c1, 0, none⟩))) (ih0 : TX w c0 t0) (ih1 : TX w c1 t1) :
    Calls Tryz.prog 17 #[.pointer (some ⟨b, 0, none⟩)] w fun e w' => e = .returned (.string (B (tOpen ++ t0 ++ tComma ++ t1 ++ tShut))) ∧ ∃ q, w' = w.drewN q := by
  have c0' : w.cell? ⟨b, 0, none⟩ = some (.string (B oPair)) := by simp [World.cell?, hb]
  have c1' : w.cell? ⟨b, 1, none⟩ = some (ns) := by simp [World.cell?, hb]
  have c2' : w.cell? ⟨b, 2, none⟩ = some (.slice (some ⟨gk, 0, none⟩) 2 ck) := by simp [World.cell?, hb]
  have o0 : ((B oPair).toList == [110, 97, 109, 101]) = false := by rw [toList_B]; decide
  have o1 : ((B oPair).toList == [110, 117, 109]) = false := by rw [toList_B]; decide
  have o2 : ((B oPair).toList == [102, 117, 110]) = false := by rw [toList_B]; decide
  have o3 : ((B oPair).toList == [112, 97, 105, 114]) = true := by rw [toList_B]; decide
  have sz0 : (B t0).size ≤ 1000000000 := by rw [size_B]; exact hl0
  have sz1 : (B t1).size ≤ 1000000000 := by rw [size_B]; exact hl1
  have IH0 := hid ih0
  have IH1 := hid ih1
  clear hb ih0 ih1
  go_enter Tryz.func17, Tryz.ntmps17
  go_wp2_with fail
  go_quiet ((first | (go_at_call_of 17 (Value.pointer (some ⟨c0, 0, none⟩)); exact Calls.quiet_of (IH0.out _)) | (go_at_call_of 17 (Value.pointer (some ⟨c1, 0, none⟩)); exact Calls.quiet_of (IH1.out _))))
  go_wp2
  go_ret
  refine ⟨?_, _, rfl⟩
  show Ending.returned (.string (B tOpen ++ B t0 ++ B tComma ++ B t1 ++ B tShut)) = _
  rw [append_B, append_B, append_B, append_B]

set_option maxRecDepth 100000 in
set_option maxHeartbeats 2000000 in
theorem text_if (w : World) (b gk ck : Nat) (c0 c1 c2 : Nat) (t0 t1 t2 : List UInt8) (p : Int) (ns : Value) (hl0 : t0.length ≤ 1000000000) (hl1 : t1.length ≤ 1000000000) (hl2 : t2.length ≤ 1000000000) (hb : w.heap[b]? = some (.cells #[.string (B kIf), ns, .slice (some ⟨gk, 0, none⟩) 3 ck, .int .i64 p] 86 (0, 0))) (hk0 : w.cell? ⟨gk, 0, none⟩ = some (.pointer (some ⟨c0, 0, none⟩))) (hk1 : w.cell? ⟨gk, 1, none⟩ = some (.pointer (some ⟨c1, 0, none⟩))) (hk2 : w.cell? ⟨gk, 2, none⟩ = some (.pointer (some ⟨c2, 0, none⟩))) (ih0 : TX w c0 t0) (ih1 : TX w c1 t1) (ih2 : TX w c2 t2) :
    Calls Tryz.prog 17 #[.pointer (some ⟨b, 0, none⟩)] w fun e w' => e = .returned (.string (B (tIf ++ t0 ++ tThen ++ t1 ++ tElse ++ t2))) ∧ ∃ q, w' = w.drewN q := by
  have c0' : w.cell? ⟨b, 0, none⟩ = some (.string (B kIf)) := by simp [World.cell?, hb]
  have c1' : w.cell? ⟨b, 1, none⟩ = some (ns) := by simp [World.cell?, hb]
  have c2' : w.cell? ⟨b, 2, none⟩ = some (.slice (some ⟨gk, 0, none⟩) 3 ck) := by simp [World.cell?, hb]
  have o0 : ((B kIf).toList == [110, 97, 109, 101]) = false := by rw [toList_B]; decide
  have o1 : ((B kIf).toList == [110, 117, 109]) = false := by rw [toList_B]; decide
  have o2 : ((B kIf).toList == [102, 117, 110]) = false := by rw [toList_B]; decide
  have o3 : ((B kIf).toList == [112, 97, 105, 114]) = false := by rw [toList_B]; decide
  have o4 : ((B kIf).toList == [105, 102]) = true := by rw [toList_B]; decide
  have sz0 : (B t0).size ≤ 1000000000 := by rw [size_B]; exact hl0
  have sz1 : (B t1).size ≤ 1000000000 := by rw [size_B]; exact hl1
  have sz2 : (B t2).size ≤ 1000000000 := by rw [size_B]; exact hl2
  have IH0 := hid ih0
  have IH1 := hid ih1
  have IH2 := hid ih2
  clear hb ih0 ih1 ih2
  go_enter Tryz.func17, Tryz.ntmps17
  go_wp2_with fail
  go_quiet ((first | (go_at_call_of 17 (Value.pointer (some ⟨c0, 0, none⟩)); exact Calls.quiet_of (IH0.out _)) | (go_at_call_of 17 (Value.pointer (some ⟨c1, 0, none⟩)); exact Calls.quiet_of (IH1.out _)) | (go_at_call_of 17 (Value.pointer (some ⟨c2, 0, none⟩)); exact Calls.quiet_of (IH2.out _))))
  go_wp2
  go_ret
  refine ⟨?_, _, rfl⟩
  show Ending.returned (.string (B tIf ++ B t0 ++ B tThen ++ B t1 ++ B tElse ++ B t2)) = _
  rw [append_B, append_B, append_B, append_B, append_B]

set_option maxRecDepth 100000 in
theorem text_name (w : World) (b gn cn : Nat) (ks : Value) (t0 : List UInt8) (p : Int) (hb : w.heap[b]? = some (.cells #[.string (B kName), .slice (some ⟨gn, 0, none⟩) 1 cn, ks, .int .i64 p] 86 (0, 0))) (hn : w.cell? ⟨gn, 0, none⟩ = some (.string (B t0))) :
    Calls Tryz.prog 17 #[.pointer (some ⟨b, 0, none⟩)] w fun e w' => e = .returned (.string (B t0)) ∧ ∃ q, w' = w.drewN q := by
  have c0' : w.cell? ⟨b, 0, none⟩ = some (.string (B kName)) := by simp [World.cell?, hb]
  have c1' : w.cell? ⟨b, 1, none⟩ = some (.slice (some ⟨gn, 0, none⟩) 1 cn) := by simp [World.cell?, hb]
  have c2' : w.cell? ⟨b, 2, none⟩ = some (ks) := by simp [World.cell?, hb]
  have o0 : ((B kName).toList == [110, 97, 109, 101]) = true := by rw [toList_B]; decide
  clear hb
  go_enter Tryz.func17, Tryz.ntmps17
  go_wp2_with fail
  go_wp2
  go_ret
  exact ⟨rfl, 0, rfl⟩

set_option maxRecDepth 100000 in
theorem text_num (w : World) (b gn cn : Nat) (ks : Value) (t0 : List UInt8) (p : Int) (hb : w.heap[b]? = some (.cells #[.string (B kNum), .slice (some ⟨gn, 0, none⟩) 1 cn, ks, .int .i64 p] 86 (0, 0))) (hn : w.cell? ⟨gn, 0, none⟩ = some (.string (B t0))) :
    Calls Tryz.prog 17 #[.pointer (some ⟨b, 0, none⟩)] w fun e w' => e = .returned (.string (B t0)) ∧ ∃ q, w' = w.drewN q := by
  have c0' : w.cell? ⟨b, 0, none⟩ = some (.string (B kNum)) := by simp [World.cell?, hb]
  have c1' : w.cell? ⟨b, 1, none⟩ = some (.slice (some ⟨gn, 0, none⟩) 1 cn) := by simp [World.cell?, hb]
  have c2' : w.cell? ⟨b, 2, none⟩ = some (ks) := by simp [World.cell?, hb]
  have o0 : ((B kNum).toList == [110, 97, 109, 101]) = false := by rw [toList_B]; decide
  have o1 : ((B kNum).toList == [110, 117, 109]) = true := by rw [toList_B]; decide
  clear hb
  go_enter Tryz.func17, Tryz.ntmps17
  go_wp2_with fail
  go_wp2
  go_ret
  exact ⟨rfl, 0, rfl⟩

end Go.Proofs.YtcdijppegfcoaaaGreatDoor
