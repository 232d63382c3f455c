import Derived.Test.YtcdijppegfcoaabGreatDoorZC36
import Derived.Test.YtcdijppegfcoaabGreatDoorZC35
set_option maxRecDepth 100000
set_option maxHeartbeats 1000000
namespace Go.Proofs.YtcdijppegfcoaabGreatDoor
open Go.RowKit
theorem ptr_nil1 (a : Addr) (w : World) : (binOp .eql 157 (.pointer (some a)) (.pointer none)).run Tryz.prog w = .ok (.bool false) w := by kernel_rfl
def AKP (r : UR) (w : World) (e : Ending) (w' : World) : Prop := w.grownBy w' none ∧ match r with
  | none => e = .returned .nilIface
  | some y => ∃ b,e = .returned (.iface 82 (.pointer (some ⟨b,0,none⟩))) ∧ w'.heap[b]? = some (.cells #[.int .i64 (y.2 : Int),.string (B y.1)] 95 (0,0)) ∧ w.heap.size ≤ b
theorem allKnown_e {H : Nat → Option Obj} {mb m f : Nat} {ge : List (List UInt8 × Et)} {v : Value} {e : Ex} {r : UR} {w : World} (hU : UNE H mb ge (unT ge f)) (hp : PRep m H v e) (ho : unT ge f e [] = some r) (hl : ∀ y,r = some y → y.1.length ≤ 300) (hz : Fz H w) (hg : GE2 H w mb ge) :
    Calls Tryz.prog 46 #[v,.map (some mb)] w (AKP r w) := by
  have hmf : ∀ (fn : Fn) (first cap : Array Value) (w : World),(Instr.makeFunc fn first cap).run Tryz.prog w = .ok (.func fn first cap) w := fun _ _ _ _ => rfl
  have pn := ptr_nil
  have pn1 := ptr_nil1
  have g1 : w.grownBy (w.alloc (.cells #[.map (some mb)] 104)) none := World.grownBy_alloc _ _ _
  obtain ⟨T0,b0,rfl⟩ := hp.val
  have CU := hid (hU e _ m [] (.func (.func 72) #[] #[.pointer (some ⟨w.heap.size,0,none⟩)]) r _ hp ho (hz.grown g1) (hg.grown g1) ⟨_,rfl,heap_alloc_new _ _⟩)
  have G := hid (And.intro g1 hz)
  clear hU hp ho hz hg g1
  go_enter Tryz.func46,Tryz.ntmps46
  go_wp2_with fail
  refine CU.out.mono ?_
  rintro e w1 ⟨x,rfl,ux,g1⟩
  cases r with
  | none =>
    have ux' : x = none := ux
    subst ux'
    have G1 := hid (G.out.1.trans g1)
    clear g1 CU ux
    go_wp2
    go_ret
    exact ⟨G1.out,rfl⟩
  | some y =>
    obtain ⟨b,dep,rfl,hb⟩ := ux
    have hbw := (G.out.2.grown (G.out.1.trans g1)) _ _ hb
    have c1 := blk_c hbw 1 rfl
    have c2 := blk_c hbw 2 rfl
    have hbl := lt_of_block hbw
    have G1 := hid (G.out.1.trans g1)
    have hszn : (B y.1).size ≤ 281474976710656 := by rw [size_B]; have := hl y rfl; omega
    clear g1 CU hb hl
    have HB := hid hbw
    clear hbw
    go_wp2_with fail
    go_region_with (go_at_call 48; refine (clone_q _ _ hszn).mono ?_; rintro e w5 ⟨rfl,g5'⟩; have g5 := grown_drew' g5'; have hb5 := (g5.block b hbl (by simp)).trans HB.out; have c3 := blk_c hb5 2 rfl; have hbl5 := lt_of_block hb5; have G5 := hid (G1.out.trans g5); clear g5 g5' hb5)
    all_goals go_wp2
    all_goals go_ret
    all_goals exact ⟨G5.out.trans (World.grownBy_alloc _ _ _),_,rfl,heap_alloc_new _ _,G5.out.size⟩
end Go.Proofs.YtcdijppegfcoaabGreatDoor
