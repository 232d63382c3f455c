import Derived.Test.YtcdijppegfcoaabGreatDoorZC36
set_option maxRecDepth 100000
set_option maxHeartbeats 2000000
namespace Go.Proofs.YtcdijppegfcoaabGreatDoor
open Go.RowKit
theorem une_Pair {H : Nat → Option Obj} {mb b m : Nat} {ge : List (List UInt8 × Et)} {l : List (List (List UInt8))} {kv dep u1 u2 : Value} {e1 e2 : Ex} {r s : UR} {P : Ex → List (List (List UInt8)) → Option UR} (hP : UNE H mb ge P) {w : World} (hb : H b = some (.cells #[dep,u1,u2] 200 (0,0))) (hp1 : PRep m H u1 e1) (hp2 : PRep m H u2 e2) (h1 : P e1 l = some r) (h2 : P e2 l = some s) (hz : Fz H w) (hg : GE2 H w mb ge) (hk : KF mb w l kv) :
    Calls Tryz.prog 71 #[.iface 198 (.pointer (some ⟨b,0,none⟩)),kv] w (UNP1 H (orU r s) w) := by
  obtain ⟨T1,b1,rfl⟩ := hp1.val
  obtain ⟨T2,b2,rfl⟩ := hp2.val
  have hbw := hz _ _ hb
  have k1 := blk_c hbw 1 rfl
  have k2 := blk_c hbw 2 rfl
  have hbl := lt_of_block hbw
  have CA := hid (hP e1 _ m l kv r w.drew hp1 h1 hz hg (hk.grown (grown_drew (Gb.refl (fun k => w.heap.size ≤ k) w).none)))
  have Q := hid (And.intro hP (And.intro hp2 (And.intro h2 (And.intro hz (And.intro hg (And.intro hk hbw))))))
  have hf := hk.form
  have a0 := xA_Pair_Name b
  have a1 := xA_Pair_Fun b
  have a2 := xA_Pair_If b
  have a3 := xA_Pair_Let b
  have a4 := xA_Pair_LetRec b
  have a5 := xA_Pair_Apply b
  have a6 := xA_Pair_Pair b
  clear hP hp1 hp2 h1 h2 hz hg hk hb hbw
  rcases hf with ⟨q1,rfl⟩ | ⟨q1,q2,rfl⟩
  all_goals
    go_enter Tryz.func71,Tryz.ntmps71
    go_wp2_with fail
    go_region_with (first
      | (go_at_call 71; refine CA.out.mono ?_; rintro e w1 ⟨x1,rfl,ux1,gr1⟩; have CB := hid (Q.out.1 e2 _ m _ _ s w1 Q.out.2.1 Q.out.2.2.1 (Q.out.2.2.2.1.grown (grown_drew' gr1)) (Q.out.2.2.2.2.1.grown (grown_drew' gr1)) (Q.out.2.2.2.2.2.1.grown (grown_drew' gr1))); have hb1 : w1.heap[b]? = _ := (gr1.block b hbl (by simp)).trans Q.out.2.2.2.2.2.2; have k3 := blk_c hb1 2 rfl; have hbl1 := lt_of_block hb1; have G1 := hid (And.intro ux1 gr1); clear gr1 ux1 CA hb1)
      | (go_at_call 71; refine CB.out.mono ?_; rintro e w2 ⟨x2,rfl,ux2,gr2⟩; have CO := hid (or_two w2.heap.size x1 x2 (w2.alloc (.cells #[.pointer x1,.pointer x2] 157)) (heap_alloc_new _ _)); have G2 := hid (And.intro ux2 gr2); clear gr2 ux2 CB)
      | (go_at_call 117; refine CO.out.mono ?_; rintro e w3 ⟨rfl,rfl⟩))
    all_goals go_wp2
    all_goals go_ret
    all_goals exact ⟨orX x1 x2,rfl,G1.out.1.or G2.out.1,grown_drew' (G1.out.2.trans (G2.out.2.trans (World.grownBy_alloc _ _ _)))⟩
end Go.Proofs.YtcdijppegfcoaabGreatDoor
