import Derived.Test.YtcdijppegfcoaabGreatDoorZC36
set_option maxRecDepth 100000
set_option maxHeartbeats 8000000
namespace Go.Proofs.YtcdijppegfcoaabGreatDoor
open Go.RowKit
theorem une_If1 {H : Nat → Option Obj} {mb b m q1 q2 : Nat} {ge : List (List UInt8 × Et)} {l : List (List (List UInt8))} {dep u1 u2 u3 : Value} {e1 e2 e3 : Ex} {r s t : UR} {P : Ex → List (List (List UInt8)) → Option UR} (hP : UNE H mb ge P) {w : World} (hb : H b = some (.cells #[dep,u1,u2,u3] 183 (0,0))) (hp1 : PRep m H u1 e1) (hp2 : PRep m H u2 e2) (hp3 : PRep m H u3 e3) (h1 : P e1 l = some r) (h2 : P e2 l = some s) (h3 : P e3 l = some t) (hz : Fz H w) (hg : GE2 H w mb ge) (hk : KF mb w l (.func (.func 148) #[] #[.pointer (some ⟨q1,0,none⟩),.pointer (some ⟨q2,0,none⟩)])) :
    Calls Tryz.prog 71 #[.iface 181 (.pointer (some ⟨b,0,none⟩)),.func (.func 148) #[] #[.pointer (some ⟨q1,0,none⟩),.pointer (some ⟨q2,0,none⟩)]] w (UNP1 H (orU r (orU s t)) w) := by
  obtain ⟨T1,b1,rfl⟩ := hp1.val
  obtain ⟨T2,b2,rfl⟩ := hp2.val
  obtain ⟨T3,b3,rfl⟩ := hp3.val
  have hbw := hz _ _ hb
  have k1 := blk_c hbw 1 rfl
  have k2 := blk_c hbw 2 rfl
  have k3 := blk_c hbw 3 rfl
  have hbl := lt_of_block hbw
  have CA := hid (hP e1 _ m l _ r w.drew hp1 h1 hz hg (hk.grown (grown_drew (Gb.refl (fun k => w.heap.size ≤ k) w).none)))
  have Q := hid (And.intro hP (And.intro hp2 (And.intro h2 (And.intro hz (And.intro hg (And.intro hk (And.intro hbw (And.intro hp3 h3))))))))
  have a0 := xA_If_Name b
  have a1 := xA_If_Fun b
  have a2 := xA_If_If b
  clear hP hp1 hp2 hp3 h1 h2 h3 hz hg hk hb hbw
  all_goals
    go_enter Tryz.func71,Tryz.ntmps71
    go_wp2_with fail
    go_region_with (first
      | (go_at_call 71; refine CA.out.mono ?_; rintro e w1 ⟨x1,rfl,ux1,gr1⟩; have CB := hid (Q.out.1 e2 _ m _ _ s w1 Q.out.2.1 Q.out.2.2.1 (Q.out.2.2.2.1.grown (grown_drew' gr1)) (Q.out.2.2.2.2.1.grown (grown_drew' gr1)) (Q.out.2.2.2.2.2.1.grown (grown_drew' gr1))); have hb1 : w1.heap[b]? = _ := (gr1.block b hbl (by simp)).trans Q.out.2.2.2.2.2.2.1; have k4 := blk_c hb1 2 rfl; have k5 := blk_c hb1 3 rfl; have hbl1 := lt_of_block hb1; have G1 := hid (And.intro ux1 (And.intro (grown_drew' gr1) hb1)); clear gr1 ux1 CA hb1)
      | (go_at_call 71; refine CB.out.mono ?_; rintro e w2 ⟨x2,rfl,ux2,gr2⟩; have CC := hid (Q.out.1 e3 _ m _ _ t w2 Q.out.2.2.2.2.2.2.2.1 Q.out.2.2.2.2.2.2.2.2 (Q.out.2.2.2.1.grown (G1.out.2.1.trans gr2)) (Q.out.2.2.2.2.1.grown (G1.out.2.1.trans gr2)) (Q.out.2.2.2.2.2.1.grown (G1.out.2.1.trans gr2))); have hb2 : w2.heap[b]? = _ := (gr2.block b hbl1 (by simp)).trans G1.out.2.2; have k6 := blk_c hb2 3 rfl; have hbl2 := lt_of_block hb2; have G2 := hid (And.intro ux2 (G1.out.2.1.trans gr2)); clear gr2 ux2 CB hb2)
      | (go_at_call 71; refine CC.out.mono ?_; rintro e w3 ⟨x3,rfl,ux3,gr3⟩; have CO := hid (or_three w3.heap.size x1 x2 x3 (w3.alloc (.cells #[.pointer x1,.pointer x2,.pointer x3] 157)) (heap_alloc_new _ _)); have G3 := hid (And.intro ux3 (G2.out.2.trans gr3)); clear gr3 ux3 CC)
      | (go_at_call 117; refine CO.out.mono ?_; rintro e w4 ⟨rfl,rfl⟩))
    all_goals go_wp2
    all_goals go_ret
    all_goals exact ⟨orX x1 (orX x2 x3),rfl,G1.out.1.or (G2.out.1.or G3.out.1),G3.out.2.trans (World.grownBy_alloc _ _ _)⟩
end Go.Proofs.YtcdijppegfcoaabGreatDoor
