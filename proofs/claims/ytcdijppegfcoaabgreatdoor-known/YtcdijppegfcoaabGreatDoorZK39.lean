import Derived.Test.YtcdijppegfcoaabGreatDoorZK38
set_option maxRecDepth 100000
set_option maxHeartbeats 2000000
namespace Go.Proofs.YtcdijppegfcoaabGreatDoor
open Go.RowKit Go.Extern.Stop Go.Stop Go.Extern
theorem as_unb_env (tb : Nat) (q : Addr) (w : World) (htl : tb < w.heap.size)
    (hE : w.cell? ⟨8,0,none⟩ = some ETy) (hEl : 8 < w.heap.size) :
    Calls Tryz.prog 37 #[.iface 82 (.pointer (some q)),.iface 85 (.pointer (some ⟨tb,0,none⟩))] w fun e w' => e = .returned (.bool false) ∧ w.grownBy w' none := by
  unfold ETy at hE
  have e0 := valueOfEnvError
  have e1 := valTypeEnvError
  have e2 := kindMEnvError
  have e3 := kindEnvError
  have e4 := kindEMEnvError
  have e5 := kindEEnvError
  have e6 := elemOfEnvError
  have e7 := implOfEnvError
  have e8 := isNilEnvError
  have g0 := rtElem
  have g1 := rtImplements
  have g2 := rtAssignableTo
  have g3 := typeOfUnbound
  have g4 := noAsUnbound
  have g5 := assignUnboundEnvError
  have g6 := noUnwrapUnbound
  have g7 := noUnwrapsUnbound
  have m1 : tb < w.heap.size + 1 := by omega
  have m2 : tb < w.heap.size + 1 + 1 := by omega
  have n1 : 8 < w.heap.size + 1 := by omega
  go_enter Tryz.func37,Tryz.ntmps37
  go_wp2
  refine wp_loop_rounds 1 ?_
  rw [rounds_succ]
  go_wp2
  go_ret
  exact ⟨rfl,((World.grownBy_alloc _ _ _).trans (World.grownBy_alloc _ _ _)).trans (World.grownBy_alloc _ _ _)⟩
theorem as_unb_syn (tb : Nat) (q : Addr) (w : World) (htl : tb < w.heap.size)
    (hE : w.cell? ⟨8,0,none⟩ = some ETy) (hEl : 8 < w.heap.size) :
    Calls Tryz.prog 37 #[.iface 82 (.pointer (some q)),.iface 90 (.pointer (some ⟨tb,0,none⟩))] w fun e w' => e = .returned (.bool false) ∧ w.grownBy w' none := by
  unfold ETy at hE
  have e0 := valueOfSyntaxError
  have e1 := valTypeSyntaxError
  have e2 := kindMSyntaxError
  have e3 := kindSyntaxError
  have e4 := kindEMSyntaxError
  have e5 := kindESyntaxError
  have e6 := elemOfSyntaxError
  have e7 := implOfSyntaxError
  have e8 := isNilSyntaxError
  have g0 := rtElem
  have g1 := rtImplements
  have g2 := rtAssignableTo
  have g3 := typeOfUnbound
  have g4 := noAsUnbound
  have g5 := assignUnboundSyntaxError
  have g6 := noUnwrapUnbound
  have g7 := noUnwrapsUnbound
  have m1 : tb < w.heap.size + 1 := by omega
  have m2 : tb < w.heap.size + 1 + 1 := by omega
  have n1 : 8 < w.heap.size + 1 := by omega
  go_enter Tryz.func37,Tryz.ntmps37
  go_wp2
  refine wp_loop_rounds 1 ?_
  rw [rounds_succ]
  go_wp2
  go_ret
  exact ⟨rfl,((World.grownBy_alloc _ _ _).trans (World.grownBy_alloc _ _ _)).trans (World.grownBy_alloc _ _ _)⟩
theorem as_unb_unb (tb : Nat) (q : Addr) (old : Value) (w : World) (ht : w.cell? ⟨tb,0,none⟩ = some old) (htf : w.frozen? ⟨tb,0,none⟩ = false) (htl : tb < w.heap.size)
    (hE : w.cell? ⟨8,0,none⟩ = some ETy) (hEl : 8 < w.heap.size) :
    Calls Tryz.prog 37 #[.iface 82 (.pointer (some q)),.iface 93 (.pointer (some ⟨tb,0,none⟩))] w fun e w' => e = .returned (.bool true) ∧ w'.cell? ⟨tb,0,none⟩ = some (.pointer (some q)) ∧ w.grownBy w' (some tb) := by
  unfold ETy at hE
  have e0 := valueOfUnboundError
  have e1 := valTypeUnboundError
  have e2 := kindMUnboundError
  have e3 := kindUnboundError
  have e4 := kindEMUnboundError
  have e5 := kindEUnboundError
  have e6 := elemOfUnboundError
  have e7 := implOfUnboundError
  have e8 := isNilUnboundError
  have g0 := rtElem
  have g1 := rtImplements
  have g2 := rtAssignableTo
  have g3 := typeOfUnbound
  have g4 := assignUnboundUnboundError
  have g5 := valueOfErrUnboundError
  have f2 := fun (o2 o3 : Obj) => elemUnboundError ⟨w.heap.size,0,none⟩ ⟨tb,0,none⟩ (((w.alloc (.cells #[.pointer (some ⟨tb,0,none⟩)] 93)).alloc o2).alloc o3)
    (by rw [World.cell?_alloc_past _ _ _ (by simp; omega),World.cell?_alloc_past _ _ _ (by simp),World.cell?_alloc_new]; rfl)
  have f3 := fun (o1 o2 o3 : Obj) => setUnboundError ⟨tb,0,none⟩ ⟨w.heap.size + 1 + 1 + 1,0,none⟩ (some q) old ((((w.alloc o1).alloc o2).alloc o3).alloc (.cells #[.pointer (some q)] 82))
    (by rw [World.cell?_alloc_at _ _ _ _ (by simp)]; rfl)
    (by rw [World.cell?_alloc_past _ _ _ (by simp; omega),World.cell?_alloc_past _ _ _ (by simp; omega),World.cell?_alloc_past _ _ _ (by simp; omega),World.cell?_alloc_past _ _ _ htl]; exact ht)
    (by rw [World.frozen?_alloc_past _ _ _ (by simp; omega),World.frozen?_alloc_past _ _ _ (by simp; omega),World.frozen?_alloc_past _ _ _ (by simp; omega),World.frozen?_alloc_past _ _ _ htl]; exact htf)
  have m1 : tb < w.heap.size + 1 := by omega
  have m2 : tb < w.heap.size + 1 + 1 := by omega
  have m3 : tb < w.heap.size + 1 + 1 + 1 := by omega
  have n1 : 8 < w.heap.size + 1 := by omega
  go_enter Tryz.func37,Tryz.ntmps37
  go_wp2
  refine wp_loop_rounds 1 ?_
  rw [rounds_succ]
  go_wp2
  go_ret
  exact ⟨rfl,cell_past (cell_past (cell_past (cell_past (set_get ht _) _) _) _) _,(((((Kept.refl tb w).setCell 0 _).alloc _).alloc _).alloc _).alloc _⟩
end Go.Proofs.YtcdijppegfcoaabGreatDoor
