/-
  OUR OWN TEXT (written by mkas.py). errors.As: what package reflectlite's entries answer at the types that the program hands them: closed facts, each by the kernel, and three on a cell that is read or written.
-/
import Derived.Test.YtcdijppegfcoaaaGreatDoorIs
namespace Go.Proofs.YtcdijppegfcoaaaGreatDoor
open Go.RowKit Go.Extern.Stop Go.Stop Go.Extern

theorem valueOfSyntaxError (p : Option Addr) (w : World) : (callFunc 102 #[.iface 143 (.pointer p)]).run Tryz.prog w = .ok (.value (.agg #[.pointer (some ⟨15, 143, none⟩), .pointer (some ⟨w.heap.size, 0, none⟩), .int .u64 150])) (w.alloc (.cells #[.pointer p] 143)) := by kernel_rfl
theorem valueOfErrSyntaxError (p : Option Addr) (w : World) : (callFunc 102 #[.iface 134 (.pointer p)]).run Tryz.prog w = .ok (.value (.agg #[.pointer (some ⟨15, 134, none⟩), .pointer (some ⟨w.heap.size, 0, none⟩), .int .u64 150])) (w.alloc (.cells #[.pointer p] 134)) := by kernel_rfl
theorem valTypeSyntaxError (a : Addr) (w : World) : (callFunc 103 #[.agg #[.pointer (some ⟨15, 143, none⟩), .pointer (some a), .int .u64 150]]).run Tryz.prog w = .ok (.value (.iface 278 (.agg #[.pointer (some ⟨15, 143, none⟩)]))) w := by kernel_rfl
theorem kindMSyntaxError (w : World) : (Go.method 567 278 (.agg #[.pointer (some ⟨15, 143, none⟩)]) "Kind").run Tryz.prog w = .ok (282, .pointer (some ⟨15, 143, none⟩)) w := by kernel_rfl
theorem kindSyntaxError (w : World) : (callFunc 282 #[.pointer (some ⟨15, 143, none⟩)]).run Tryz.prog w = .ok (.value (.int .u8 22)) w := by kernel_rfl
theorem kindEMSyntaxError (w : World) : (Go.method 567 278 (.agg #[.pointer (some ⟨15, 134, none⟩)]) "Kind").run Tryz.prog w = .ok (282, .pointer (some ⟨15, 134, none⟩)) w := by kernel_rfl
theorem kindESyntaxError (w : World) : (callFunc 282 #[.pointer (some ⟨15, 134, none⟩)]).run Tryz.prog w = .ok (.value (.int .u8 22)) w := by kernel_rfl
theorem elemOfSyntaxError (w : World) : (callFunc 296 #[.agg #[.pointer (some ⟨15, 143, none⟩)]]).run Tryz.prog w = .ok (.value (.iface 278 (.agg #[.pointer (some ⟨15, 134, none⟩)]))) w := by kernel_rfl
theorem implOfSyntaxError (w : World) : (callFunc 297 #[.agg #[.pointer (some ⟨15, 134, none⟩)], .iface 278 (.agg #[.pointer (some ⟨15, 72, none⟩)])]).run Tryz.prog w = .ok (.value (.bool true)) w := by kernel_rfl
theorem partsSyntaxError (a : Addr) (w : World) : (Extern.ReflectliteValue.parts (.agg #[.pointer (some ⟨15, 143, none⟩), .pointer (some a), .int .u64 150])).run Tryz.prog w = .ok (some (143, a, 150)) w := by kernel_rfl
theorem partsASyntaxError (p : Addr) (w : World) : (Extern.ReflectliteValue.parts (.agg #[.pointer (some ⟨15, 134, none⟩), .pointer (some p), .int .u64 406])).run Tryz.prog w = .ok (some (134, p, 406)) w := by kernel_rfl
theorem partsBSyntaxError (a : Addr) (w : World) : (Extern.ReflectliteValue.parts (.agg #[.pointer (some ⟨15, 134, none⟩), .pointer (some a), .int .u64 150])).run Tryz.prog w = .ok (some (134, a, 150)) w := by kernel_rfl
theorem loadPPSyntaxError (a : Addr) (w : World) : (loadVar 143 a).run Tryz.prog w = (load a).run Tryz.prog w := by kernel_rfl
theorem loadPSyntaxError (a : Addr) (w : World) : (loadVar 134 a).run Tryz.prog w = (load a).run Tryz.prog w := by kernel_rfl
theorem elemTSyntaxError (w : World) : (Extern.Rtype.elem? 143).run Tryz.prog w = .ok (some 134) w := by kernel_rfl
theorem mkSyntaxError (p : Addr) (w : World) : (Extern.ReflectliteValue.mk 134 p Extern.ReflectliteValue.flagAddr).run Tryz.prog w = .ok (.agg #[.pointer (some ⟨15, 134, none⟩), .pointer (some p), .int .u64 406]) w := by kernel_rfl
theorem directSyntaxError (w : World) : (Extern.Rtype.directlyAssignable 134 134).run Tryz.prog w = .ok true w := by kernel_rfl
theorem storeVarSyntaxError (p : Addr) (q : Option Addr) (w : World) : (storeVar 134 p (.pointer q)).run Tryz.prog w = (storeCells p [.pointer q]).run Tryz.prog w := by kernel_rfl
theorem isNilSyntaxError (a p : Addr) (w : World) (h : w.cell? a = some (.pointer (some p))) : (callFunc 104 #[.agg #[.pointer (some ⟨15, 143, none⟩), .pointer (some a), .int .u64 150]]).run Tryz.prog w = .ok (.value (.bool false)) w := by
  rw [@run_callFunc_extern Tryz.prog 104 _ (Extern.ReflectliteValue.method (Extern.ReflectliteValue.valueError "reflectlite.Value.IsNil" 0) Extern.ReflectliteValue.isNil) Tryz.func104 (by kernel_rfl) (by kernel_rfl) (by kernel_rfl) (by kernel_rfl)]
  have e : Extern.ReflectliteValue.method (Extern.ReflectliteValue.valueError "reflectlite.Value.IsNil" 0) Extern.ReflectliteValue.isNil #[.agg #[.pointer (some ⟨15, 143, none⟩), .pointer (some a), .int .u64 150]] = (Extern.ReflectliteValue.parts (.agg #[.pointer (some ⟨15, 143, none⟩), .pointer (some a), .int .u64 150]) >>= _) := rfl
  rw [e]
  simp [Extern.ReflectliteValue.isNil, partsSyntaxError, loadPPSyntaxError, h]
theorem elemSyntaxError (a p : Addr) (w : World) (h : w.cell? a = some (.pointer (some p))) : (callFunc 139 #[.agg #[.pointer (some ⟨15, 143, none⟩), .pointer (some a), .int .u64 150]]).run Tryz.prog w = .ok (.value (.agg #[.pointer (some ⟨15, 134, none⟩), .pointer (some p), .int .u64 406])) w := by
  rw [@run_callFunc_extern Tryz.prog 139 _ (Extern.ReflectliteValue.method (Extern.ReflectliteValue.valueError "reflectlite.Value.Elem" 0) Extern.ReflectliteValue.elem) Tryz.func139 (by kernel_rfl) (by kernel_rfl) (by kernel_rfl) (by kernel_rfl)]
  have e : Extern.ReflectliteValue.method (Extern.ReflectliteValue.valueError "reflectlite.Value.Elem" 0) Extern.ReflectliteValue.elem #[.agg #[.pointer (some ⟨15, 143, none⟩), .pointer (some a), .int .u64 150]] = (Extern.ReflectliteValue.parts (.agg #[.pointer (some ⟨15, 143, none⟩), .pointer (some a), .int .u64 150]) >>= _) := rfl
  rw [e]
  simp [Extern.ReflectliteValue.elem, partsSyntaxError, loadPPSyntaxError, h, elemTSyntaxError, mkSyntaxError]
theorem setSyntaxError (p a : Addr) (q : Option Addr) (old : Value) (w : World) (ha : w.cell? a = some (.pointer q)) (hp : w.cell? p = some old) (hf : w.frozen? p = false) : (callFunc 140 #[.agg #[.pointer (some ⟨15, 134, none⟩), .pointer (some p), .int .u64 406], .agg #[.pointer (some ⟨15, 134, none⟩), .pointer (some a), .int .u64 150]]).run Tryz.prog w = .ok (.value (.tuple #[])) (w.setCell p (.pointer q)) := by
  rw [@run_callFunc_extern Tryz.prog 140 _ Extern.ReflectliteValue.set Tryz.func140 (by kernel_rfl) (by kernel_rfl) (by kernel_rfl) (by kernel_rfl)]
  have e : Extern.ReflectliteValue.set #[.agg #[.pointer (some ⟨15, 134, none⟩), .pointer (some p), .int .u64 406], .agg #[.pointer (some ⟨15, 134, none⟩), .pointer (some a), .int .u64 150]] = (Extern.ReflectliteValue.parts (.agg #[.pointer (some ⟨15, 134, none⟩), .pointer (some p), .int .u64 406]) >>= fun _ => Extern.ReflectliteValue.parts (.agg #[.pointer (some ⟨15, 134, none⟩), .pointer (some a), .int .u64 150]) >>= fun _ => _) := rfl
  have hst := fun m => run_store Tryz.prog w p (.pointer q) m rfl
  rw [e]
  simp [partsASyntaxError, partsBSyntaxError, directSyntaxError, loadPSyntaxError, ha, storeVarSyntaxError, storeCells, Extern.ReflectliteValue.flagAddr, Addr.add, hst, hp, hf]

theorem valueOfUnboundError (p : Option Addr) (w : World) : (callFunc 102 #[.iface 146 (.pointer p)]).run Tryz.prog w = .ok (.value (.agg #[.pointer (some ⟨15, 146, none⟩), .pointer (some ⟨w.heap.size, 0, none⟩), .int .u64 150])) (w.alloc (.cells #[.pointer p] 146)) := by kernel_rfl
theorem valueOfErrUnboundError (p : Option Addr) (w : World) : (callFunc 102 #[.iface 135 (.pointer p)]).run Tryz.prog w = .ok (.value (.agg #[.pointer (some ⟨15, 135, none⟩), .pointer (some ⟨w.heap.size, 0, none⟩), .int .u64 150])) (w.alloc (.cells #[.pointer p] 135)) := by kernel_rfl
theorem valTypeUnboundError (a : Addr) (w : World) : (callFunc 103 #[.agg #[.pointer (some ⟨15, 146, none⟩), .pointer (some a), .int .u64 150]]).run Tryz.prog w = .ok (.value (.iface 278 (.agg #[.pointer (some ⟨15, 146, none⟩)]))) w := by kernel_rfl
theorem kindMUnboundError (w : World) : (Go.method 567 278 (.agg #[.pointer (some ⟨15, 146, none⟩)]) "Kind").run Tryz.prog w = .ok (282, .pointer (some ⟨15, 146, none⟩)) w := by kernel_rfl
theorem kindUnboundError (w : World) : (callFunc 282 #[.pointer (some ⟨15, 146, none⟩)]).run Tryz.prog w = .ok (.value (.int .u8 22)) w := by kernel_rfl
theorem kindEMUnboundError (w : World) : (Go.method 567 278 (.agg #[.pointer (some ⟨15, 135, none⟩)]) "Kind").run Tryz.prog w = .ok (282, .pointer (some ⟨15, 135, none⟩)) w := by kernel_rfl
theorem kindEUnboundError (w : World) : (callFunc 282 #[.pointer (some ⟨15, 135, none⟩)]).run Tryz.prog w = .ok (.value (.int .u8 22)) w := by kernel_rfl
theorem elemOfUnboundError (w : World) : (callFunc 296 #[.agg #[.pointer (some ⟨15, 146, none⟩)]]).run Tryz.prog w = .ok (.value (.iface 278 (.agg #[.pointer (some ⟨15, 135, none⟩)]))) w := by kernel_rfl
theorem implOfUnboundError (w : World) : (callFunc 297 #[.agg #[.pointer (some ⟨15, 135, none⟩)], .iface 278 (.agg #[.pointer (some ⟨15, 72, none⟩)])]).run Tryz.prog w = .ok (.value (.bool true)) w := by kernel_rfl
theorem partsUnboundError (a : Addr) (w : World) : (Extern.ReflectliteValue.parts (.agg #[.pointer (some ⟨15, 146, none⟩), .pointer (some a), .int .u64 150])).run Tryz.prog w = .ok (some (146, a, 150)) w := by kernel_rfl
theorem partsAUnboundError (p : Addr) (w : World) : (Extern.ReflectliteValue.parts (.agg #[.pointer (some ⟨15, 135, none⟩), .pointer (some p), .int .u64 406])).run Tryz.prog w = .ok (some (135, p, 406)) w := by kernel_rfl
theorem partsBUnboundError (a : Addr) (w : World) : (Extern.ReflectliteValue.parts (.agg #[.pointer (some ⟨15, 135, none⟩), .pointer (some a), .int .u64 150])).run Tryz.prog w = .ok (some (135, a, 150)) w := by kernel_rfl
theorem loadPPUnboundError (a : Addr) (w : World) : (loadVar 146 a).run Tryz.prog w = (load a).run Tryz.prog w := by kernel_rfl
theorem loadPUnboundError (a : Addr) (w : World) : (loadVar 135 a).run Tryz.prog w = (load a).run Tryz.prog w := by kernel_rfl
theorem elemTUnboundError (w : World) : (Extern.Rtype.elem? 146).run Tryz.prog w = .ok (some 135) w := by kernel_rfl
theorem mkUnboundError (p : Addr) (w : World) : (Extern.ReflectliteValue.mk 135 p Extern.ReflectliteValue.flagAddr).run Tryz.prog w = .ok (.agg #[.pointer (some ⟨15, 135, none⟩), .pointer (some p), .int .u64 406]) w := by kernel_rfl
theorem directUnboundError (w : World) : (Extern.Rtype.directlyAssignable 135 135).run Tryz.prog w = .ok true w := by kernel_rfl
theorem storeVarUnboundError (p : Addr) (q : Option Addr) (w : World) : (storeVar 135 p (.pointer q)).run Tryz.prog w = (storeCells p [.pointer q]).run Tryz.prog w := by kernel_rfl
theorem isNilUnboundError (a p : Addr) (w : World) (h : w.cell? a = some (.pointer (some p))) : (callFunc 104 #[.agg #[.pointer (some ⟨15, 146, none⟩), .pointer (some a), .int .u64 150]]).run Tryz.prog w = .ok (.value (.bool false)) w := by
  rw [@run_callFunc_extern Tryz.prog 104 _ (Extern.ReflectliteValue.method (Extern.ReflectliteValue.valueError "reflectlite.Value.IsNil" 0) Extern.ReflectliteValue.isNil) Tryz.func104 (by kernel_rfl) (by kernel_rfl) (by kernel_rfl) (by kernel_rfl)]
  have e : Extern.ReflectliteValue.method (Extern.ReflectliteValue.valueError "reflectlite.Value.IsNil" 0) Extern.ReflectliteValue.isNil #[.agg #[.pointer (some ⟨15, 146, none⟩), .pointer (some a), .int .u64 150]] = (Extern.ReflectliteValue.parts (.agg #[.pointer (some ⟨15, 146, none⟩), .pointer (some a), .int .u64 150]) >>= _) := rfl
  rw [e]
  simp [Extern.ReflectliteValue.isNil, partsUnboundError, loadPPUnboundError, h]
theorem elemUnboundError (a p : Addr) (w : World) (h : w.cell? a = some (.pointer (some p))) : (callFunc 139 #[.agg #[.pointer (some ⟨15, 146, none⟩), .pointer (some a), .int .u64 150]]).run Tryz.prog w = .ok (.value (.agg #[.pointer (some ⟨15, 135, none⟩), .pointer (some p), .int .u64 406])) w := by
  rw [@run_callFunc_extern Tryz.prog 139 _ (Extern.ReflectliteValue.method (Extern.ReflectliteValue.valueError "reflectlite.Value.Elem" 0) Extern.ReflectliteValue.elem) Tryz.func139 (by kernel_rfl) (by kernel_rfl) (by kernel_rfl) (by kernel_rfl)]
  have e : Extern.ReflectliteValue.method (Extern.ReflectliteValue.valueError "reflectlite.Value.Elem" 0) Extern.ReflectliteValue.elem #[.agg #[.pointer (some ⟨15, 146, none⟩), .pointer (some a), .int .u64 150]] = (Extern.ReflectliteValue.parts (.agg #[.pointer (some ⟨15, 146, none⟩), .pointer (some a), .int .u64 150]) >>= _) := rfl
  rw [e]
  simp [Extern.ReflectliteValue.elem, partsUnboundError, loadPPUnboundError, h, elemTUnboundError, mkUnboundError]
theorem setUnboundError (p a : Addr) (q : Option Addr) (old : Value) (w : World) (ha : w.cell? a = some (.pointer q)) (hp : w.cell? p = some old) (hf : w.frozen? p = false) : (callFunc 140 #[.agg #[.pointer (some ⟨15, 135, none⟩), .pointer (some p), .int .u64 406], .agg #[.pointer (some ⟨15, 135, none⟩), .pointer (some a), .int .u64 150]]).run Tryz.prog w = .ok (.value (.tuple #[])) (w.setCell p (.pointer q)) := by
  rw [@run_callFunc_extern Tryz.prog 140 _ Extern.ReflectliteValue.set Tryz.func140 (by kernel_rfl) (by kernel_rfl) (by kernel_rfl) (by kernel_rfl)]
  have e : Extern.ReflectliteValue.set #[.agg #[.pointer (some ⟨15, 135, none⟩), .pointer (some p), .int .u64 406], .agg #[.pointer (some ⟨15, 135, none⟩), .pointer (some a), .int .u64 150]] = (Extern.ReflectliteValue.parts (.agg #[.pointer (some ⟨15, 135, none⟩), .pointer (some p), .int .u64 406]) >>= fun _ => Extern.ReflectliteValue.parts (.agg #[.pointer (some ⟨15, 135, none⟩), .pointer (some a), .int .u64 150]) >>= fun _ => _) := rfl
  have hst := fun m => run_store Tryz.prog w p (.pointer q) m rfl
  rw [e]
  simp [partsAUnboundError, partsBUnboundError, directUnboundError, loadPUnboundError, ha, storeVarUnboundError, storeCells, Extern.ReflectliteValue.flagAddr, Addr.add, hst, hp, hf]

theorem valueOfEnvError (p : Option Addr) (w : World) : (callFunc 102 #[.iface 138 (.pointer p)]).run Tryz.prog w = .ok (.value (.agg #[.pointer (some ⟨15, 138, none⟩), .pointer (some ⟨w.heap.size, 0, none⟩), .int .u64 150])) (w.alloc (.cells #[.pointer p] 138)) := by kernel_rfl
theorem valueOfErrEnvError (p : Option Addr) (w : World) : (callFunc 102 #[.iface 136 (.pointer p)]).run Tryz.prog w = .ok (.value (.agg #[.pointer (some ⟨15, 136, none⟩), .pointer (some ⟨w.heap.size, 0, none⟩), .int .u64 150])) (w.alloc (.cells #[.pointer p] 136)) := by kernel_rfl
theorem valTypeEnvError (a : Addr) (w : World) : (callFunc 103 #[.agg #[.pointer (some ⟨15, 138, none⟩), .pointer (some a), .int .u64 150]]).run Tryz.prog w = .ok (.value (.iface 278 (.agg #[.pointer (some ⟨15, 138, none⟩)]))) w := by kernel_rfl
theorem kindMEnvError (w : World) : (Go.method 567 278 (.agg #[.pointer (some ⟨15, 138, none⟩)]) "Kind").run Tryz.prog w = .ok (282, .pointer (some ⟨15, 138, none⟩)) w := by kernel_rfl
theorem kindEnvError (w : World) : (callFunc 282 #[.pointer (some ⟨15, 138, none⟩)]).run Tryz.prog w = .ok (.value (.int .u8 22)) w := by kernel_rfl
theorem kindEMEnvError (w : World) : (Go.method 567 278 (.agg #[.pointer (some ⟨15, 136, none⟩)]) "Kind").run Tryz.prog w = .ok (282, .pointer (some ⟨15, 136, none⟩)) w := by kernel_rfl
theorem kindEEnvError (w : World) : (callFunc 282 #[.pointer (some ⟨15, 136, none⟩)]).run Tryz.prog w = .ok (.value (.int .u8 22)) w := by kernel_rfl
theorem elemOfEnvError (w : World) : (callFunc 296 #[.agg #[.pointer (some ⟨15, 138, none⟩)]]).run Tryz.prog w = .ok (.value (.iface 278 (.agg #[.pointer (some ⟨15, 136, none⟩)]))) w := by kernel_rfl
theorem implOfEnvError (w : World) : (callFunc 297 #[.agg #[.pointer (some ⟨15, 136, none⟩)], .iface 278 (.agg #[.pointer (some ⟨15, 72, none⟩)])]).run Tryz.prog w = .ok (.value (.bool true)) w := by kernel_rfl
theorem partsEnvError (a : Addr) (w : World) : (Extern.ReflectliteValue.parts (.agg #[.pointer (some ⟨15, 138, none⟩), .pointer (some a), .int .u64 150])).run Tryz.prog w = .ok (some (138, a, 150)) w := by kernel_rfl
theorem partsAEnvError (p : Addr) (w : World) : (Extern.ReflectliteValue.parts (.agg #[.pointer (some ⟨15, 136, none⟩), .pointer (some p), .int .u64 406])).run Tryz.prog w = .ok (some (136, p, 406)) w := by kernel_rfl
theorem partsBEnvError (a : Addr) (w : World) : (Extern.ReflectliteValue.parts (.agg #[.pointer (some ⟨15, 136, none⟩), .pointer (some a), .int .u64 150])).run Tryz.prog w = .ok (some (136, a, 150)) w := by kernel_rfl
theorem loadPPEnvError (a : Addr) (w : World) : (loadVar 138 a).run Tryz.prog w = (load a).run Tryz.prog w := by kernel_rfl
theorem loadPEnvError (a : Addr) (w : World) : (loadVar 136 a).run Tryz.prog w = (load a).run Tryz.prog w := by kernel_rfl
theorem elemTEnvError (w : World) : (Extern.Rtype.elem? 138).run Tryz.prog w = .ok (some 136) w := by kernel_rfl
theorem mkEnvError (p : Addr) (w : World) : (Extern.ReflectliteValue.mk 136 p Extern.ReflectliteValue.flagAddr).run Tryz.prog w = .ok (.agg #[.pointer (some ⟨15, 136, none⟩), .pointer (some p), .int .u64 406]) w := by kernel_rfl
theorem directEnvError (w : World) : (Extern.Rtype.directlyAssignable 136 136).run Tryz.prog w = .ok true w := by kernel_rfl
theorem storeVarEnvError (p : Addr) (q : Option Addr) (w : World) : (storeVar 136 p (.pointer q)).run Tryz.prog w = (storeCells p [.pointer q]).run Tryz.prog w := by kernel_rfl
theorem isNilEnvError (a p : Addr) (w : World) (h : w.cell? a = some (.pointer (some p))) : (callFunc 104 #[.agg #[.pointer (some ⟨15, 138, none⟩), .pointer (some a), .int .u64 150]]).run Tryz.prog w = .ok (.value (.bool false)) w := by
  rw [@run_callFunc_extern Tryz.prog 104 _ (Extern.ReflectliteValue.method (Extern.ReflectliteValue.valueError "reflectlite.Value.IsNil" 0) Extern.ReflectliteValue.isNil) Tryz.func104 (by kernel_rfl) (by kernel_rfl) (by kernel_rfl) (by kernel_rfl)]
  have e : Extern.ReflectliteValue.method (Extern.ReflectliteValue.valueError "reflectlite.Value.IsNil" 0) Extern.ReflectliteValue.isNil #[.agg #[.pointer (some ⟨15, 138, none⟩), .pointer (some a), .int .u64 150]] = (Extern.ReflectliteValue.parts (.agg #[.pointer (some ⟨15, 138, none⟩), .pointer (some a), .int .u64 150]) >>= _) := rfl
  rw [e]
  simp [Extern.ReflectliteValue.isNil, partsEnvError, loadPPEnvError, h]
theorem elemEnvError (a p : Addr) (w : World) (h : w.cell? a = some (.pointer (some p))) : (callFunc 139 #[.agg #[.pointer (some ⟨15, 138, none⟩), .pointer (some a), .int .u64 150]]).run Tryz.prog w = .ok (.value (.agg #[.pointer (some ⟨15, 136, none⟩), .pointer (some p), .int .u64 406])) w := by
  rw [@run_callFunc_extern Tryz.prog 139 _ (Extern.ReflectliteValue.method (Extern.ReflectliteValue.valueError "reflectlite.Value.Elem" 0) Extern.ReflectliteValue.elem) Tryz.func139 (by kernel_rfl) (by kernel_rfl) (by kernel_rfl) (by kernel_rfl)]
  have e : Extern.ReflectliteValue.method (Extern.ReflectliteValue.valueError "reflectlite.Value.Elem" 0) Extern.ReflectliteValue.elem #[.agg #[.pointer (some ⟨15, 138, none⟩), .pointer (some a), .int .u64 150]] = (Extern.ReflectliteValue.parts (.agg #[.pointer (some ⟨15, 138, none⟩), .pointer (some a), .int .u64 150]) >>= _) := rfl
  rw [e]
  simp [Extern.ReflectliteValue.elem, partsEnvError, loadPPEnvError, h, elemTEnvError, mkEnvError]
theorem setEnvError (p a : Addr) (q : Option Addr) (old : Value) (w : World) (ha : w.cell? a = some (.pointer q)) (hp : w.cell? p = some old) (hf : w.frozen? p = false) : (callFunc 140 #[.agg #[.pointer (some ⟨15, 136, none⟩), .pointer (some p), .int .u64 406], .agg #[.pointer (some ⟨15, 136, none⟩), .pointer (some a), .int .u64 150]]).run Tryz.prog w = .ok (.value (.tuple #[])) (w.setCell p (.pointer q)) := by
  rw [@run_callFunc_extern Tryz.prog 140 _ Extern.ReflectliteValue.set Tryz.func140 (by kernel_rfl) (by kernel_rfl) (by kernel_rfl) (by kernel_rfl)]
  have e : Extern.ReflectliteValue.set #[.agg #[.pointer (some ⟨15, 136, none⟩), .pointer (some p), .int .u64 406], .agg #[.pointer (some ⟨15, 136, none⟩), .pointer (some a), .int .u64 150]] = (Extern.ReflectliteValue.parts (.agg #[.pointer (some ⟨15, 136, none⟩), .pointer (some p), .int .u64 406]) >>= fun _ => Extern.ReflectliteValue.parts (.agg #[.pointer (some ⟨15, 136, none⟩), .pointer (some a), .int .u64 150]) >>= fun _ => _) := rfl
  have hst := fun m => run_store Tryz.prog w p (.pointer q) m rfl
  rw [e]
  simp [partsAEnvError, partsBEnvError, directEnvError, loadPEnvError, ha, storeVarEnvError, storeCells, Extern.ReflectliteValue.flagAddr, Addr.add, hst, hp, hf]

theorem rtElem (v : Value) (w : World) : (Go.method 567 278 v "Elem").run Tryz.prog w = .ok (296, v) w := by kernel_rfl
theorem rtImplements (v : Value) (w : World) : (Go.method 567 278 v "Implements").run Tryz.prog w = .ok (297, v) w := by kernel_rfl
theorem rtAssignableTo (v : Value) (w : World) : (Go.method 567 278 v "AssignableTo").run Tryz.prog w = .ok (294, v) w := by kernel_rfl
theorem typeOfEnv (v : Value) (w : World) : (callFunc 106 #[.iface 136 v]).run Tryz.prog w = .ok (.value (.iface 278 (.agg #[.pointer (some ⟨15, 136, none⟩)]))) w := by kernel_rfl
theorem noAsEnv (v : Value) (xT : TypeId) (w : World) : (Instr.typeAssert (.iface 136 v) xT 282 true).run Tryz.prog w = .ok (.tuple #[.nilIface, .bool false]) w := run_typeAssert_lacksB Tryz.underlying282 (by kernel_rfl) (by kernel_rfl) v xT w
theorem assignEnvSyntaxError (w : World) : (callFunc 294 #[.agg #[.pointer (some ⟨15, 136, none⟩)], .iface 278 (.agg #[.pointer (some ⟨15, 134, none⟩)])]).run Tryz.prog w = .ok (.value (.bool false)) w := by kernel_rfl
theorem assignEnvUnboundError (w : World) : (callFunc 294 #[.agg #[.pointer (some ⟨15, 136, none⟩)], .iface 278 (.agg #[.pointer (some ⟨15, 135, none⟩)])]).run Tryz.prog w = .ok (.value (.bool false)) w := by kernel_rfl
theorem assignEnvEnvError (w : World) : (callFunc 294 #[.agg #[.pointer (some ⟨15, 136, none⟩)], .iface 278 (.agg #[.pointer (some ⟨15, 136, none⟩)])]).run Tryz.prog w = .ok (.value (.bool true)) w := by kernel_rfl
theorem typeOfSyntax (v : Value) (w : World) : (callFunc 106 #[.iface 134 v]).run Tryz.prog w = .ok (.value (.iface 278 (.agg #[.pointer (some ⟨15, 134, none⟩)]))) w := by kernel_rfl
theorem noAsSyntax (v : Value) (xT : TypeId) (w : World) : (Instr.typeAssert (.iface 134 v) xT 282 true).run Tryz.prog w = .ok (.tuple #[.nilIface, .bool false]) w := run_typeAssert_lacksB Tryz.underlying282 (by kernel_rfl) (by kernel_rfl) v xT w
theorem noUnwrapSyntax (v : Value) (xT : TypeId) (w : World) : (Instr.typeAssert (.iface 134 v) xT 230 true).run Tryz.prog w = .ok (.tuple #[.nilIface, .bool false]) w := run_typeAssert_lacksB Tryz.underlying230 (by kernel_rfl) (by kernel_rfl) v xT w
theorem noUnwrapsSyntax (v : Value) (xT : TypeId) (w : World) : (Instr.typeAssert (.iface 134 v) xT 285 true).run Tryz.prog w = .ok (.tuple #[.nilIface, .bool false]) w := run_typeAssert_lacksB Tryz.underlying285 (by kernel_rfl) (by kernel_rfl) v xT w
theorem assignSyntaxSyntaxError (w : World) : (callFunc 294 #[.agg #[.pointer (some ⟨15, 134, none⟩)], .iface 278 (.agg #[.pointer (some ⟨15, 134, none⟩)])]).run Tryz.prog w = .ok (.value (.bool true)) w := by kernel_rfl
theorem assignSyntaxUnboundError (w : World) : (callFunc 294 #[.agg #[.pointer (some ⟨15, 134, none⟩)], .iface 278 (.agg #[.pointer (some ⟨15, 135, none⟩)])]).run Tryz.prog w = .ok (.value (.bool false)) w := by kernel_rfl
theorem assignSyntaxEnvError (w : World) : (callFunc 294 #[.agg #[.pointer (some ⟨15, 134, none⟩)], .iface 278 (.agg #[.pointer (some ⟨15, 136, none⟩)])]).run Tryz.prog w = .ok (.value (.bool false)) w := by kernel_rfl
theorem typeOfUnbound (v : Value) (w : World) : (callFunc 106 #[.iface 135 v]).run Tryz.prog w = .ok (.value (.iface 278 (.agg #[.pointer (some ⟨15, 135, none⟩)]))) w := by kernel_rfl
theorem noAsUnbound (v : Value) (xT : TypeId) (w : World) : (Instr.typeAssert (.iface 135 v) xT 282 true).run Tryz.prog w = .ok (.tuple #[.nilIface, .bool false]) w := run_typeAssert_lacksB Tryz.underlying282 (by kernel_rfl) (by kernel_rfl) v xT w
theorem noUnwrapUnbound (v : Value) (xT : TypeId) (w : World) : (Instr.typeAssert (.iface 135 v) xT 230 true).run Tryz.prog w = .ok (.tuple #[.nilIface, .bool false]) w := run_typeAssert_lacksB Tryz.underlying230 (by kernel_rfl) (by kernel_rfl) v xT w
theorem noUnwrapsUnbound (v : Value) (xT : TypeId) (w : World) : (Instr.typeAssert (.iface 135 v) xT 285 true).run Tryz.prog w = .ok (.tuple #[.nilIface, .bool false]) w := run_typeAssert_lacksB Tryz.underlying285 (by kernel_rfl) (by kernel_rfl) v xT w
theorem assignUnboundSyntaxError (w : World) : (callFunc 294 #[.agg #[.pointer (some ⟨15, 135, none⟩)], .iface 278 (.agg #[.pointer (some ⟨15, 134, none⟩)])]).run Tryz.prog w = .ok (.value (.bool false)) w := by kernel_rfl
theorem assignUnboundUnboundError (w : World) : (callFunc 294 #[.agg #[.pointer (some ⟨15, 135, none⟩)], .iface 278 (.agg #[.pointer (some ⟨15, 135, none⟩)])]).run Tryz.prog w = .ok (.value (.bool true)) w := by kernel_rfl
theorem assignUnboundEnvError (w : World) : (callFunc 294 #[.agg #[.pointer (some ⟨15, 135, none⟩)], .iface 278 (.agg #[.pointer (some ⟨15, 136, none⟩)])]).run Tryz.prog w = .ok (.value (.bool false)) w := by kernel_rfl
theorem typeOfPlain (v : Value) (w : World) : (callFunc 106 #[.iface 437 v]).run Tryz.prog w = .ok (.value (.iface 278 (.agg #[.pointer (some ⟨15, 437, none⟩)]))) w := by kernel_rfl
theorem noAsPlain (v : Value) (xT : TypeId) (w : World) : (Instr.typeAssert (.iface 437 v) xT 282 true).run Tryz.prog w = .ok (.tuple #[.nilIface, .bool false]) w := run_typeAssert_lacksB Tryz.underlying282 (by kernel_rfl) (by kernel_rfl) v xT w
theorem assignPlainSyntaxError (w : World) : (callFunc 294 #[.agg #[.pointer (some ⟨15, 437, none⟩)], .iface 278 (.agg #[.pointer (some ⟨15, 134, none⟩)])]).run Tryz.prog w = .ok (.value (.bool false)) w := by kernel_rfl
theorem assignPlainUnboundError (w : World) : (callFunc 294 #[.agg #[.pointer (some ⟨15, 437, none⟩)], .iface 278 (.agg #[.pointer (some ⟨15, 135, none⟩)])]).run Tryz.prog w = .ok (.value (.bool false)) w := by kernel_rfl
theorem assignPlainEnvError (w : World) : (callFunc 294 #[.agg #[.pointer (some ⟨15, 437, none⟩)], .iface 278 (.agg #[.pointer (some ⟨15, 136, none⟩)])]).run Tryz.prog w = .ok (.value (.bool false)) w := by kernel_rfl
end Go.Proofs.YtcdijppegfcoaaaGreatDoor
