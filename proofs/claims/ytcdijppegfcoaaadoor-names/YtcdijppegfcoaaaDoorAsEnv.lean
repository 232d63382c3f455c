/-
  OUR OWN TEXT. errors.As(e, &s), e an *EnvError whose Why is a *SyntaxError, s a *SyntaxError: true; s is that pointer.
-/
import Derived.Test.YtcdijppegfcoaaaDoorAs
import Derived.Outline
namespace Go.Proofs.YtcdijppegfcoaaaDoor
open Go.RowKit Go.Extern.Stop Go.Stop Go.Extern

/-- The world behind: four blocks more, the target's cell set. -/
def asWorld (w : World) (tb : Nat) (q : Addr) : World :=
  ((((w.setCell ⟨tb, 0, none⟩ (.pointer (some q))).alloc (.cells #[.pointer (some ⟨tb, 0, none⟩)] 38)).alloc (.cells #[.pointer (some ⟨9, 38, none⟩), .pointer (some ⟨w.heap.size, 0, none⟩), .int .u64 150] 46)).alloc
    (.cells #[.pointer (some ⟨9, 38, none⟩), .pointer (some ⟨w.heap.size, 0, none⟩), .int .u64 150] 46)).alloc (.cells #[.pointer (some q)] 34)

set_option maxHeartbeats 1000000 in
theorem as_env_syntax (pb po : Nat) (tb : Nat) (q : Addr) (old : Value) (w : World) (h1 : w.cell? ⟨pb, po + 1, none⟩ = some (.iface 34 (.pointer (some q)))) (hlt : pb < w.heap.size)
    (ht : w.cell? ⟨tb, 0, none⟩ = some old) (htf : w.frozen? ⟨tb, 0, none⟩ = false) (htl : tb < w.heap.size)
    (hE : w.cell? ⟨8, 0, none⟩ = some (.iface 54 (.agg #[.pointer (some ⟨9, 28, none⟩)]))) (hEl : 8 < w.heap.size) :
    Calls Tryd.prog 6 #[.iface 30 (.pointer (some ⟨pb, po, none⟩)), .iface 38 (.pointer (some ⟨tb, 0, none⟩))] w fun e w' => e = .returned (.bool true) ∧ w' = asWorld w tb q := by
  have e1 := valueOfSyntaxError
  have e2 := valueOfErrSyntaxError
  have e3 := valTypeSyntaxError
  have e4 := kindMSyntaxError
  have e5 := kindSyntaxError
  have e6 := kindEMSyntaxError
  have e7 := kindESyntaxError
  have e8 := elemOfSyntaxError
  have e9 := implOfSyntaxError
  have f1 := isNilSyntaxError
  have f2 := fun (o2 o3 : Obj) => elemSyntaxError ⟨w.heap.size, 0, none⟩ ⟨tb, 0, none⟩ (((w.alloc (.cells #[.pointer (some ⟨tb, 0, none⟩)] 38)).alloc o2).alloc o3)
    (by rw [World.cell?_alloc_past _ _ _ (by simp; omega), World.cell?_alloc_past _ _ _ (by simp), World.cell?_alloc_new]; rfl)
  have f3 := fun (o1 o2 o3 : Obj) => setSyntaxError ⟨tb, 0, none⟩ ⟨w.heap.size + 1 + 1 + 1, 0, none⟩ (some q) old ((((w.alloc o1).alloc o2).alloc o3).alloc (.cells #[.pointer (some q)] 34))
    (by rw [World.cell?_alloc_at _ _ _ _ (by simp)]; rfl)
    (by rw [World.cell?_alloc_past _ _ _ (by simp; omega), World.cell?_alloc_past _ _ _ (by simp; omega), World.cell?_alloc_past _ _ _ (by simp; omega), World.cell?_alloc_past _ _ _ htl]; exact ht)
    (by rw [World.frozen?_alloc_past _ _ _ (by simp; omega), World.frozen?_alloc_past _ _ _ (by simp; omega), World.frozen?_alloc_past _ _ _ (by simp; omega), World.frozen?_alloc_past _ _ _ htl]; exact htf)
  have f4 := rtElem
  have f5 := rtImplements
  have f6 := rtAssignableTo
  have g1 := typeOfEnv
  have g2 := typeOfSyntax
  have g3 := noAsEnv
  have g4 := assignEnvSyntaxError
  have g5 := assignSyntaxSyntaxError
  have g6 := hasUnwrapW
  have g7 := methodUnwrap
  have l1 : pb < w.heap.size + 1 := by omega
  have l2 : pb < w.heap.size + 1 + 1 := by omega
  have l3 : pb < w.heap.size + 1 + 1 + 1 := by omega
  have m1 : tb < w.heap.size + 1 := by omega
  have m2 : tb < w.heap.size + 1 + 1 := by omega
  have m3 : tb < w.heap.size + 1 + 1 + 1 := by omega
  have n1 : 8 < w.heap.size + 1 := by omega
  go_enter Tryd.func6, Tryd.ntmps6
  go_wp2
  refine wp_loop_rounds 2 ?_
  rw [rounds_succ]
  go_wp2
  rw [rounds_succ]
  go_wp2
  go_ret
  exact ⟨rfl, rfl⟩
end Go.Proofs.YtcdijppegfcoaaaDoor
