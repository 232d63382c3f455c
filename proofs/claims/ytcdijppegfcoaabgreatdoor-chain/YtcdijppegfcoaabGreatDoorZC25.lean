import Derived.Test.YtcdijppegfcoaabGreatDoorZC24
import Derived.Test.YtcdijppegfcoaabGreatDoorZC02
import Derived.Outline
set_option maxRecDepth 100000
set_option maxHeartbeats 2000000
namespace Go.Proofs.YtcdijppegfcoaabGreatDoor
open Go.RowKit Go.Extern.Stop Go.Stop Go.Extern
def ETy : Value := .iface 229 (.agg #[.pointer (some ⟨13,56,none⟩)])
theorem as_nil (t : Value) (w : World) : Calls Tryz.prog 37 #[.nilIface,t] w fun e w' => e = .returned (.bool false) ∧ w' = w := by
  go_enter Tryz.func37,Tryz.ntmps37
  go_wp2
  go_ret
  exact ⟨rfl,rfl⟩
theorem as_plain_env (tb : Nat) (q : Addr) (w : World) (htl : tb < w.heap.size)
    (hE : w.cell? ⟨8,0,none⟩ = some ETy) (hEl : 8 < w.heap.size) :
    Calls Tryz.prog 37 #[.iface 372 (.pointer (some q)),.iface 85 (.pointer (some ⟨tb,0,none⟩))] w fun e w' => e = .returned (.bool false) ∧ w.grownBy w' none := by
  unfold ETy at hE
  have e0 := valueOfEnvError
  have e1 := valTypeEnvError
  have e2 := kindMEnvError
  have e3 := kindEnvError
  have e4 := kindEMEnvError
  have e5 := kindEEnvError
  have e6 := elemOfEnvError
  have e7 := implOfEnvError
  have e8 := isNilEnvError
  have g0 := rtElem
  have g1 := rtImplements
  have g2 := rtAssignableTo
  have g3 := typeOfPlain
  have g4 := noAsPlain
  have g5 := assignPlainEnvError
  have g6 := noUnwrapE
  have g7 := noUnwrapsE
  have m1 : tb < w.heap.size + 1 := by omega
  have m2 : tb < w.heap.size + 1 + 1 := by omega
  have n1 : 8 < w.heap.size + 1 := by omega
  go_enter Tryz.func37,Tryz.ntmps37
  go_wp2
  refine wp_loop_rounds 1 ?_
  rw [rounds_succ]
  go_wp2
  go_ret
  exact ⟨rfl,((World.grownBy_alloc _ _ _).trans (World.grownBy_alloc _ _ _)).trans (World.grownBy_alloc _ _ _)⟩
theorem as_plain_syntax (tb : Nat) (q : Addr) (w : World) (htl : tb < w.heap.size)
    (hE : w.cell? ⟨8,0,none⟩ = some ETy) (hEl : 8 < w.heap.size) :
    Calls Tryz.prog 37 #[.iface 372 (.pointer (some q)),.iface 90 (.pointer (some ⟨tb,0,none⟩))] w fun e w' => e = .returned (.bool false) ∧ w.grownBy w' none := by
  unfold ETy at hE
  have e0 := valueOfSyntaxError
  have e1 := valTypeSyntaxError
  have e2 := kindMSyntaxError
  have e3 := kindSyntaxError
  have e4 := kindEMSyntaxError
  have e5 := kindESyntaxError
  have e6 := elemOfSyntaxError
  have e7 := implOfSyntaxError
  have e8 := isNilSyntaxError
  have g0 := rtElem
  have g1 := rtImplements
  have g2 := rtAssignableTo
  have g3 := typeOfPlain
  have g4 := noAsPlain
  have g5 := assignPlainSyntaxError
  have g6 := noUnwrapE
  have g7 := noUnwrapsE
  have m1 : tb < w.heap.size + 1 := by omega
  have m2 : tb < w.heap.size + 1 + 1 := by omega
  have n1 : 8 < w.heap.size + 1 := by omega
  go_enter Tryz.func37,Tryz.ntmps37
  go_wp2
  refine wp_loop_rounds 1 ?_
  rw [rounds_succ]
  go_wp2
  go_ret
  exact ⟨rfl,((World.grownBy_alloc _ _ _).trans (World.grownBy_alloc _ _ _)).trans (World.grownBy_alloc _ _ _)⟩
theorem as_plain_unbound (tb : Nat) (q : Addr) (w : World) (htl : tb < w.heap.size)
    (hE : w.cell? ⟨8,0,none⟩ = some ETy) (hEl : 8 < w.heap.size) :
    Calls Tryz.prog 37 #[.iface 372 (.pointer (some q)),.iface 93 (.pointer (some ⟨tb,0,none⟩))] w fun e w' => e = .returned (.bool false) ∧ w.grownBy w' none := by
  unfold ETy at hE
  have e0 := valueOfUnboundError
  have e1 := valTypeUnboundError
  have e2 := kindMUnboundError
  have e3 := kindUnboundError
  have e4 := kindEMUnboundError
  have e5 := kindEUnboundError
  have e6 := elemOfUnboundError
  have e7 := implOfUnboundError
  have e8 := isNilUnboundError
  have g0 := rtElem
  have g1 := rtImplements
  have g2 := rtAssignableTo
  have g3 := typeOfPlain
  have g4 := noAsPlain
  have g5 := assignPlainUnboundError
  have g6 := noUnwrapE
  have g7 := noUnwrapsE
  have m1 : tb < w.heap.size + 1 := by omega
  have m2 : tb < w.heap.size + 1 + 1 := by omega
  have n1 : 8 < w.heap.size + 1 := by omega
  go_enter Tryz.func37,Tryz.ntmps37
  go_wp2
  refine wp_loop_rounds 1 ?_
  rw [rounds_succ]
  go_wp2
  go_ret
  exact ⟨rfl,((World.grownBy_alloc _ _ _).trans (World.grownBy_alloc _ _ _)).trans (World.grownBy_alloc _ _ _)⟩
end Go.Proofs.YtcdijppegfcoaabGreatDoor
