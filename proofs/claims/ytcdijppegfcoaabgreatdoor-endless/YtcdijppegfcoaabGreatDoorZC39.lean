import Derived.Test.YtcdijppegfcoaabGreatDoorZC36
set_option maxRecDepth 100000
set_option maxHeartbeats 8000000
namespace Go.Proofs.YtcdijppegfcoaabGreatDoor
open Go.RowKit
theorem une_Let1 {H : Nat → Option Obj} {mb b m q1 q2 : Nat} {ge : List (List UInt8 × Et)} {l : List (List (List UInt8))} {dep u1 u2 : Value} {p : List UInt8} {e1 e2 : Ex} {r s : UR} {P : Ex → List (List (List UInt8)) → Option UR} (hP : UNE H mb ge P) {w : World} (hb : H b = some (.cells #[dep,.string (B p),u1,u2] 189 (0,0))) (hp1 : PRep m H u1 e1) (hp2 : PRep m H u2 e2) (h1 : P e1 l = some r) (h2 : P e2 ([p] :: l) = some s) (hz : Fz H w) (hg : GE2 H w mb ge) (hk : KF mb w l (.func (.func 148) #[] #[.pointer (some ⟨q1,0,none⟩),.pointer (some ⟨q2,0,none⟩)])) :
    Calls Tryz.prog 71 #[.iface 184 (.pointer (some ⟨b,0,none⟩)),.func (.func 148) #[] #[.pointer (some ⟨q1,0,none⟩),.pointer (some ⟨q2,0,none⟩)]] w (UNP1 H (orU r s) w) := by
  obtain ⟨T1,b1,rfl⟩ := hp1.val
  obtain ⟨T2,b2,rfl⟩ := hp2.val
  have hbw := hz _ _ hb
  have k1 := blk_c hbw 1 rfl
  have k2 := blk_c hbw 2 rfl
  have k3 := blk_c hbw 3 rfl
  have hbl := lt_of_block hbw
  have gE : w.grownBy w.drew none := grown_drew (Gb.refl (fun k => w.heap.size ≤ k) w).none
  have gW0 : w.grownBy (w.alloc (.cells #[.string (B p)] 9)).drew none := grown_drew (World.grownBy_alloc _ _ _)
  have CA := hid (hP e1 _ m l _ r w.drew hp1 h1 hz hg (hk.grown gE))
  have CD := hid (hP e1 _ m l _ r _ hp1 h1 (hz.grown gW0) (hg.grown gW0) (hk.grown gW0))
  have hone : ∀ (j : Nat) x,[p][j]? = some x → (#[Value.string (B p)] : Array Value)[j]? = some (.string (B x)) := fun j x hx => by
    cases j with
    | zero => cases hx; rfl
    | succ j => cases hx
  have Q := hid (And.intro hP (And.intro hp2 (And.intro h2 (And.intro hz (And.intro hg (And.intro hk (And.intro hbw (And.intro gW0 hone))))))))
  have a0 := xA_Let_Name b
  have a1 := xA_Let_Fun b
  have a2 := xA_Let_If b
  have a3 := xA_Let_Let b
  clear hP hp1 hp2 h1 h2 hz hg hk hb hbw gE gW0 hone
  go_enter Tryz.func71,Tryz.ntmps71
  go_wp2_with fail
  go_region_with (first
    | (go_at_call 71; refine CA.out.mono ?_; rintro e w1 ⟨x1,rfl,ux1,gr1⟩; have hb1 : w1.heap[b]? = _ := (gr1.block b hbl (by simp)).trans Q.out.2.2.2.2.2.2.1; have k4 := blk_c hb1 1 rfl; have k5 := blk_c hb1 3 rfl; have hbl1 := lt_of_block hb1; have gW : w1.grownBy (w1.alloc (.cells #[.string (B p)] 9)) none := World.grownBy_alloc _ _ _; have G1 := hid (And.intro ux1 ((grown_drew' gr1).trans gW)); have CN := hid (and_any (ns := [p]) (gg := w1.heap.size) (cap := 1) (Q.out.2.2.2.2.2.1.grown G1.out.2) (heap_alloc_new w1 _) Q.out.2.2.2.2.2.2.2.2 (Nat.succ_le_succ (Nat.zero_le _))); clear gr1 ux1 CA CD hb1 gW)
    | (go_at_call 71; refine CD.out.mono ?_; rintro e w1 ⟨x1,rfl,ux1,gr1⟩; have G1 := hid (And.intro ux1 (Q.out.2.2.2.2.2.2.2.1.trans gr1)); have hb1 : w1.heap[b]? = _ := (G1.out.2.block b hbl (by simp)).trans Q.out.2.2.2.2.2.2.1; have k4 := blk_c hb1 1 rfl; have k5 := blk_c hb1 3 rfl; have hbl1 := lt_of_block hb1; have hr1 : w1.heap[w.heap.size]? = some (.cells #[.string (B p)] 9 (0,0)) := (gr1.block _ (by simp) (by simp)).trans (heap_alloc_new w _); have CN := hid (and_any (ns := [p]) (gg := w.heap.size) (cap := 1) (Q.out.2.2.2.2.2.1.grown G1.out.2) hr1 Q.out.2.2.2.2.2.2.2.2 (Nat.succ_le_succ (Nat.zero_le _))); clear gr1 ux1 CA CD hb1 hr1)
    | (go_at_call 116; refine CN.out.mono ?_; rintro e w2 ⟨y1,y2,rfl,kf2,gr2⟩; have gA := G1.out.2.trans gr2; have CB := hid (Q.out.1 e2 _ m _ _ s w2 Q.out.2.1 Q.out.2.2.1 (Q.out.2.2.2.1.grown gA) (Q.out.2.2.2.2.1.grown gA) kf2); have hb2 : w2.heap[b]? = _ := (gA.block b hbl (by simp)).trans Q.out.2.2.2.2.2.2.1; have k6 := blk_c hb2 3 rfl; have hbl2 := lt_of_block hb2; have G2 := hid gA; clear gr2 gA hb2 kf2 CN)
    | (go_at_call 71; refine CB.out.mono ?_; rintro e w3 ⟨x2,rfl,ux2,gr3⟩; have CO := hid (or_two w3.heap.size x1 x2 (w3.alloc (.cells #[.pointer x1,.pointer x2] 157)) (heap_alloc_new _ _)); have G3 := hid (And.intro ux2 (G2.out.trans gr3)); clear gr3 ux2 CB)
    | (go_at_call 117; refine CO.out.mono ?_; rintro e w4 ⟨rfl,rfl⟩))
  all_goals go_wp2
  all_goals go_ret
  all_goals exact ⟨orX x1 x2,rfl,G1.out.1.or G3.out.1,G3.out.2.trans (World.grownBy_alloc _ _ _)⟩
end Go.Proofs.YtcdijppegfcoaabGreatDoor
