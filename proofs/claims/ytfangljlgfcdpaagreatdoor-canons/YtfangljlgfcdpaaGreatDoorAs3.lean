/-
  OUR OWN TEXT (written by mkas.py). errors.As: what package reflectlite's entries answer at the types that the program hands them: closed facts, each by the kernel, and three on a cell that is read or written.
-/
import Derived.Test.YtfangljlgfcdpaaGreatDoorIs
namespace Go.Proofs.YtfangljlgfcdpaaGreatDoor
open Go.RowKit Go.Extern.Stop Go.Stop Go.Extern

theorem valueOfSyntaxError (p : Option Addr) (w : World) : (callFunc 93 #[.iface 127 (.pointer p)]).run Tryz.prog w = .ok (.value (.agg #[.pointer (some ⟨15, 127, none⟩), .pointer (some ⟨w.heap.size, 0, none⟩), .int .u64 150])) (w.alloc (.cells #[.pointer p] 127)) := by kernel_rfl
theorem valueOfErrSyntaxError (p : Option Addr) (w : World) : (callFunc 93 #[.iface 118 (.pointer p)]).run Tryz.prog w = .ok (.value (.agg #[.pointer (some ⟨15, 118, none⟩), .pointer (some ⟨w.heap.size, 0, none⟩), .int .u64 150])) (w.alloc (.cells #[.pointer p] 118)) := by kernel_rfl
theorem valTypeSyntaxError (a : Addr) (w : World) : (callFunc 94 #[.agg #[.pointer (some ⟨15, 127, none⟩), .pointer (some a), .int .u64 150]]).run Tryz.prog w = .ok (.value (.iface 257 (.agg #[.pointer (some ⟨15, 127, none⟩)]))) w := by kernel_rfl
theorem kindMSyntaxError (w : World) : (Go.method 523 257 (.agg #[.pointer (some ⟨15, 127, none⟩)]) "Kind").run Tryz.prog w = .ok (253, .pointer (some ⟨15, 127, none⟩)) w := by kernel_rfl
theorem kindSyntaxError (w : World) : (callFunc 253 #[.pointer (some ⟨15, 127, none⟩)]).run Tryz.prog w = .ok (.value (.int .u8 22)) w := by kernel_rfl
theorem kindEMSyntaxError (w : World) : (Go.method 523 257 (.agg #[.pointer (some ⟨15, 118, none⟩)]) "Kind").run Tryz.prog w = .ok (253, .pointer (some ⟨15, 118, none⟩)) w := by kernel_rfl
theorem kindESyntaxError (w : World) : (callFunc 253 #[.pointer (some ⟨15, 118, none⟩)]).run Tryz.prog w = .ok (.value (.int .u8 22)) w := by kernel_rfl
theorem elemOfSyntaxError (w : World) : (callFunc 267 #[.agg #[.pointer (some ⟨15, 127, none⟩)]]).run Tryz.prog w = .ok (.value (.iface 257 (.agg #[.pointer (some ⟨15, 118, none⟩)]))) w := by kernel_rfl
theorem implOfSyntaxError (w : World) : (callFunc 268 #[.agg #[.pointer (some ⟨15, 118, none⟩)], .iface 257 (.agg #[.pointer (some ⟨15, 64, none⟩)])]).run Tryz.prog w = .ok (.value (.bool true)) w := by kernel_rfl
theorem partsSyntaxError (a : Addr) (w : World) : (Extern.ReflectliteValue.parts (.agg #[.pointer (some ⟨15, 127, none⟩), .pointer (some a), .int .u64 150])).run Tryz.prog w = .ok (some (127, a, 150)) w := by kernel_rfl
theorem partsASyntaxError (p : Addr) (w : World) : (Extern.ReflectliteValue.parts (.agg #[.pointer (some ⟨15, 118, none⟩), .pointer (some p), .int .u64 406])).run Tryz.prog w = .ok (some (118, p, 406)) w := by kernel_rfl
theorem partsBSyntaxError (a : Addr) (w : World) : (Extern.ReflectliteValue.parts (.agg #[.pointer (some ⟨15, 118, none⟩), .pointer (some a), .int .u64 150])).run Tryz.prog w = .ok (some (118, a, 150)) w := by kernel_rfl
theorem loadPPSyntaxError (a : Addr) (w : World) : (loadVar 127 a).run Tryz.prog w = (load a).run Tryz.prog w := by kernel_rfl
theorem loadPSyntaxError (a : Addr) (w : World) : (loadVar 118 a).run Tryz.prog w = (load a).run Tryz.prog w := by kernel_rfl
theorem elemTSyntaxError (w : World) : (Extern.Rtype.elem? 127).run Tryz.prog w = .ok (some 118) w := by kernel_rfl
theorem mkSyntaxError (p : Addr) (w : World) : (Extern.ReflectliteValue.mk 118 p Extern.ReflectliteValue.flagAddr).run Tryz.prog w = .ok (.agg #[.pointer (some ⟨15, 118, none⟩), .pointer (some p), .int .u64 406]) w := by kernel_rfl
theorem directSyntaxError (w : World) : (Extern.Rtype.directlyAssignable 118 118).run Tryz.prog w = .ok true w := by kernel_rfl
theorem storeVarSyntaxError (p : Addr) (q : Option Addr) (w : World) : (storeVar 118 p (.pointer q)).run Tryz.prog w = (storeCells p [.pointer q]).run Tryz.prog w := by kernel_rfl
theorem isNilSyntaxError (a p : Addr) (w : World) (h : w.cell? a = some (.pointer (some p))) : (callFunc 95 #[.agg #[.pointer (some ⟨15, 127, none⟩), .pointer (some a), .int .u64 150]]).run Tryz.prog w = .ok (.value (.bool false)) w := by
  rw [@run_callFunc_extern Tryz.prog 95 _ (Extern.ReflectliteValue.method (Extern.ReflectliteValue.valueError "reflectlite.Value.IsNil" 0) Extern.ReflectliteValue.isNil) Tryz.func95 (by kernel_rfl) (by kernel_rfl) (by kernel_rfl) (by kernel_rfl)]
  have e : Extern.ReflectliteValue.method (Extern.ReflectliteValue.valueError "reflectlite.Value.IsNil" 0) Extern.ReflectliteValue.isNil #[.agg #[.pointer (some ⟨15, 127, none⟩), .pointer (some a), .int .u64 150]] = (Extern.ReflectliteValue.parts (.agg #[.pointer (some ⟨15, 127, none⟩), .pointer (some a), .int .u64 150]) >>= _) := rfl
  rw [e]
  simp [Extern.ReflectliteValue.isNil, partsSyntaxError, loadPPSyntaxError, h]
theorem elemSyntaxError (a p : Addr) (w : World) (h : w.cell? a = some (.pointer (some p))) : (callFunc 129 #[.agg #[.pointer (some ⟨15, 127, none⟩), .pointer (some a), .int .u64 150]]).run Tryz.prog w = .ok (.value (.agg #[.pointer (some ⟨15, 118, none⟩), .pointer (some p), .int .u64 406])) w := by
  rw [@run_callFunc_extern Tryz.prog 129 _ (Extern.ReflectliteValue.method (Extern.ReflectliteValue.valueError "reflectlite.Value.Elem" 0) Extern.ReflectliteValue.elem) Tryz.func129 (by kernel_rfl) (by kernel_rfl) (by kernel_rfl) (by kernel_rfl)]
  have e : Extern.ReflectliteValue.method (Extern.ReflectliteValue.valueError "reflectlite.Value.Elem" 0) Extern.ReflectliteValue.elem #[.agg #[.pointer (some ⟨15, 127, none⟩), .pointer (some a), .int .u64 150]] = (Extern.ReflectliteValue.parts (.agg #[.pointer (some ⟨15, 127, none⟩), .pointer (some a), .int .u64 150]) >>= _) := rfl
  rw [e]
  simp [Extern.ReflectliteValue.elem, partsSyntaxError, loadPPSyntaxError, h, elemTSyntaxError, mkSyntaxError]
theorem setSyntaxError (p a : Addr) (q : Option Addr) (old : Value) (w : World) (ha : w.cell? a = some (.pointer q)) (hp : w.cell? p = some old) (hf : w.frozen? p = false) : (callFunc 130 #[.agg #[.pointer (some ⟨15, 118, none⟩), .pointer (some p), .int .u64 406], .agg #[.pointer (some ⟨15, 118, none⟩), .pointer (some a), .int .u64 150]]).run Tryz.prog w = .ok (.value (.tuple #[])) (w.setCell p (.pointer q)) := by
  rw [@run_callFunc_extern Tryz.prog 130 _ Extern.ReflectliteValue.set Tryz.func130 (by kernel_rfl) (by kernel_rfl) (by kernel_rfl) (by kernel_rfl)]
  have e : Extern.ReflectliteValue.set #[.agg #[.pointer (some ⟨15, 118, none⟩), .pointer (some p), .int .u64 406], .agg #[.pointer (some ⟨15, 118, none⟩), .pointer (some a), .int .u64 150]] = (Extern.ReflectliteValue.parts (.agg #[.pointer (some ⟨15, 118, none⟩), .pointer (some p), .int .u64 406]) >>= fun _ => Extern.ReflectliteValue.parts (.agg #[.pointer (some ⟨15, 118, none⟩), .pointer (some a), .int .u64 150]) >>= fun _ => _) := rfl
  have hst := fun m => run_store Tryz.prog w p (.pointer q) m rfl
  rw [e]
  simp [partsASyntaxError, partsBSyntaxError, directSyntaxError, loadPSyntaxError, ha, storeVarSyntaxError, storeCells, Extern.ReflectliteValue.flagAddr, Addr.add, hst, hp, hf]

theorem valueOfUnboundError (p : Option Addr) (w : World) : (callFunc 93 #[.iface 130 (.pointer p)]).run Tryz.prog w = .ok (.value (.agg #[.pointer (some ⟨15, 130, none⟩), .pointer (some ⟨w.heap.size, 0, none⟩), .int .u64 150])) (w.alloc (.cells #[.pointer p] 130)) := by kernel_rfl
theorem valueOfErrUnboundError (p : Option Addr) (w : World) : (callFunc 93 #[.iface 119 (.pointer p)]).run Tryz.prog w = .ok (.value (.agg #[.pointer (some ⟨15, 119, none⟩), .pointer (some ⟨w.heap.size, 0, none⟩), .int .u64 150])) (w.alloc (.cells #[.pointer p] 119)) := by kernel_rfl
theorem valTypeUnboundError (a : Addr) (w : World) : (callFunc 94 #[.agg #[.pointer (some ⟨15, 130, none⟩), .pointer (some a), .int .u64 150]]).run Tryz.prog w = .ok (.value (.iface 257 (.agg #[.pointer (some ⟨15, 130, none⟩)]))) w := by kernel_rfl
theorem kindMUnboundError (w : World) : (Go.method 523 257 (.agg #[.pointer (some ⟨15, 130, none⟩)]) "Kind").run Tryz.prog w = .ok (253, .pointer (some ⟨15, 130, none⟩)) w := by kernel_rfl
theorem kindUnboundError (w : World) : (callFunc 253 #[.pointer (some ⟨15, 130, none⟩)]).run Tryz.prog w = .ok (.value (.int .u8 22)) w := by kernel_rfl
theorem kindEMUnboundError (w : World) : (Go.method 523 257 (.agg #[.pointer (some ⟨15, 119, none⟩)]) "Kind").run Tryz.prog w = .ok (253, .pointer (some ⟨15, 119, none⟩)) w := by kernel_rfl
theorem kindEUnboundError (w : World) : (callFunc 253 #[.pointer (some ⟨15, 119, none⟩)]).run Tryz.prog w = .ok (.value (.int .u8 22)) w := by kernel_rfl
theorem elemOfUnboundError (w : World) : (callFunc 267 #[.agg #[.pointer (some ⟨15, 130, none⟩)]]).run Tryz.prog w = .ok (.value (.iface 257 (.agg #[.pointer (some ⟨15, 119, none⟩)]))) w := by kernel_rfl
theorem implOfUnboundError (w : World) : (callFunc 268 #[.agg #[.pointer (some ⟨15, 119, none⟩)], .iface 257 (.agg #[.pointer (some ⟨15, 64, none⟩)])]).run Tryz.prog w = .ok (.value (.bool true)) w := by kernel_rfl
theorem partsUnboundError (a : Addr) (w : World) : (Extern.ReflectliteValue.parts (.agg #[.pointer (some ⟨15, 130, none⟩), .pointer (some a), .int .u64 150])).run Tryz.prog w = .ok (some (130, a, 150)) w := by kernel_rfl
theorem partsAUnboundError (p : Addr) (w : World) : (Extern.ReflectliteValue.parts (.agg #[.pointer (some ⟨15, 119, none⟩), .pointer (some p), .int .u64 406])).run Tryz.prog w = .ok (some (119, p, 406)) w := by kernel_rfl
theorem partsBUnboundError (a : Addr) (w : World) : (Extern.ReflectliteValue.parts (.agg #[.pointer (some ⟨15, 119, none⟩), .pointer (some a), .int .u64 150])).run Tryz.prog w = .ok (some (119, a, 150)) w := by kernel_rfl
theorem loadPPUnboundError (a : Addr) (w : World) : (loadVar 130 a).run Tryz.prog w = (load a).run Tryz.prog w := by kernel_rfl
theorem loadPUnboundError (a : Addr) (w : World) : (loadVar 119 a).run Tryz.prog w = (load a).run Tryz.prog w := by kernel_rfl
theorem elemTUnboundError (w : World) : (Extern.Rtype.elem? 130).run Tryz.prog w = .ok (some 119) w := by kernel_rfl
theorem mkUnboundError (p : Addr) (w : World) : (Extern.ReflectliteValue.mk 119 p Extern.ReflectliteValue.flagAddr).run Tryz.prog w = .ok (.agg #[.pointer (some ⟨15, 119, none⟩), .pointer (some p), .int .u64 406]) w := by kernel_rfl
theorem directUnboundError (w : World) : (Extern.Rtype.directlyAssignable 119 119).run Tryz.prog w = .ok true w := by kernel_rfl
theorem storeVarUnboundError (p : Addr) (q : Option Addr) (w : World) : (storeVar 119 p (.pointer q)).run Tryz.prog w = (storeCells p [.pointer q]).run Tryz.prog w := by kernel_rfl
theorem isNilUnboundError (a p : Addr) (w : World) (h : w.cell? a = some (.pointer (some p))) : (callFunc 95 #[.agg #[.pointer (some ⟨15, 130, none⟩), .pointer (some a), .int .u64 150]]).run Tryz.prog w = .ok (.value (.bool false)) w := by
  rw [@run_callFunc_extern Tryz.prog 95 _ (Extern.ReflectliteValue.method (Extern.ReflectliteValue.valueError "reflectlite.Value.IsNil" 0) Extern.ReflectliteValue.isNil) Tryz.func95 (by kernel_rfl) (by kernel_rfl) (by kernel_rfl) (by kernel_rfl)]
  have e : Extern.ReflectliteValue.method (Extern.ReflectliteValue.valueError "reflectlite.Value.IsNil" 0) Extern.ReflectliteValue.isNil #[.agg #[.pointer (some ⟨15, 130, none⟩), .pointer (some a), .int .u64 150]] = (Extern.ReflectliteValue.parts (.agg #[.pointer (some ⟨15, 130, none⟩), .pointer (some a), .int .u64 150]) >>= _) := rfl
  rw [e]
  simp [Extern.ReflectliteValue.isNil, partsUnboundError, loadPPUnboundError, h]
theorem elemUnboundError (a p : Addr) (w : World) (h : w.cell? a = some (.pointer (some p))) : (callFunc 129 #[.agg #[.pointer (some ⟨15, 130, none⟩), .pointer (some a), .int .u64 150]]).run Tryz.prog w = .ok (.value (.agg #[.pointer (some ⟨15, 119, none⟩), .pointer (some p), .int .u64 406])) w := by
  rw [@run_callFunc_extern Tryz.prog 129 _ (Extern.ReflectliteValue.method (Extern.ReflectliteValue.valueError "reflectlite.Value.Elem" 0) Extern.ReflectliteValue.elem) Tryz.func129 (by kernel_rfl) (by kernel_rfl) (by kernel_rfl) (by kernel_rfl)]
  have e : Extern.ReflectliteValue.method (Extern.ReflectliteValue.valueError "reflectlite.Value.Elem" 0) Extern.ReflectliteValue.elem #[.agg #[.pointer (some ⟨15, 130, none⟩), .pointer (some a), .int .u64 150]] = (Extern.ReflectliteValue.parts (.agg #[.pointer (some ⟨15, 130, none⟩), .pointer (some a), .int .u64 150]) >>= _) := rfl
  rw [e]
  simp [Extern.ReflectliteValue.elem, partsUnboundError, loadPPUnboundError, h, elemTUnboundError, mkUnboundError]
theorem setUnboundError (p a : Addr) (q : Option Addr) (old : Value) (w : World) (ha : w.cell? a = some (.pointer q)) (hp : w.cell? p = some old) (hf : w.frozen? p = false) : (callFunc 130 #[.agg #[.pointer (some ⟨15, 119, none⟩), .pointer (some p), .int .u64 406], .agg #[.pointer (some ⟨15, 119, none⟩), .pointer (some a), .int .u64 150]]).run Tryz.prog w = .ok (.value (.tuple #[])) (w.setCell p (.pointer q)) := by
  rw [@run_callFunc_extern Tryz.prog 130 _ Extern.ReflectliteValue.set Tryz.func130 (by kernel_rfl) (by kernel_rfl) (by kernel_rfl) (by kernel_rfl)]
  have e : Extern.ReflectliteValue.set #[.agg #[.pointer (some ⟨15, 119, none⟩), .pointer (some p), .int .u64 406], .agg #[.pointer (some ⟨15, 119, none⟩), .pointer (some a), .int .u64 150]] = (Extern.ReflectliteValue.parts (.agg #[.pointer (some ⟨15, 119, none⟩), .pointer (some p), .int .u64 406]) >>= fun _ => Extern.ReflectliteValue.parts (.agg #[.pointer (some ⟨15, 119, none⟩), .pointer (some a), .int .u64 150]) >>= fun _ => _) := rfl
  have hst := fun m => run_store Tryz.prog w p (.pointer q) m rfl
  rw [e]
  simp [partsAUnboundError, partsBUnboundError, directUnboundError, loadPUnboundError, ha, storeVarUnboundError, storeCells, Extern.ReflectliteValue.flagAddr, Addr.add, hst, hp, hf]

theorem valueOfEnvError (p : Option Addr) (w : World) : (callFunc 93 #[.iface 122 (.pointer p)]).run Tryz.prog w = .ok (.value (.agg #[.pointer (some ⟨15, 122, none⟩), .pointer (some ⟨w.heap.size, 0, none⟩), .int .u64 150])) (w.alloc (.cells #[.pointer p] 122)) := by kernel_rfl
theorem valueOfErrEnvError (p : Option Addr) (w : World) : (callFunc 93 #[.iface 120 (.pointer p)]).run Tryz.prog w = .ok (.value (.agg #[.pointer (some ⟨15, 120, none⟩), .pointer (some ⟨w.heap.size, 0, none⟩), .int .u64 150])) (w.alloc (.cells #[.pointer p] 120)) := by kernel_rfl
theorem valTypeEnvError (a : Addr) (w : World) : (callFunc 94 #[.agg #[.pointer (some ⟨15, 122, none⟩), .pointer (some a), .int .u64 150]]).run Tryz.prog w = .ok (.value (.iface 257 (.agg #[.pointer (some ⟨15, 122, none⟩)]))) w := by kernel_rfl
theorem kindMEnvError (w : World) : (Go.method 523 257 (.agg #[.pointer (some ⟨15, 122, none⟩)]) "Kind").run Tryz.prog w = .ok (253, .pointer (some ⟨15, 122, none⟩)) w := by kernel_rfl
theorem kindEnvError (w : World) : (callFunc 253 #[.pointer (some ⟨15, 122, none⟩)]).run Tryz.prog w = .ok (.value (.int .u8 22)) w := by kernel_rfl
theorem kindEMEnvError (w : World) : (Go.method 523 257 (.agg #[.pointer (some ⟨15, 120, none⟩)]) "Kind").run Tryz.prog w = .ok (253, .pointer (some ⟨15, 120, none⟩)) w := by kernel_rfl
theorem kindEEnvError (w : World) : (callFunc 253 #[.pointer (some ⟨15, 120, none⟩)]).run Tryz.prog w = .ok (.value (.int .u8 22)) w := by kernel_rfl
theorem elemOfEnvError (w : World) : (callFunc 267 #[.agg #[.pointer (some ⟨15, 122, none⟩)]]).run Tryz.prog w = .ok (.value (.iface 257 (.agg #[.pointer (some ⟨15, 120, none⟩)]))) w := by kernel_rfl
theorem implOfEnvError (w : World) : (callFunc 268 #[.agg #[.pointer (some ⟨15, 120, none⟩)], .iface 257 (.agg #[.pointer (some ⟨15, 64, none⟩)])]).run Tryz.prog w = .ok (.value (.bool true)) w := by kernel_rfl
theorem partsEnvError (a : Addr) (w : World) : (Extern.ReflectliteValue.parts (.agg #[.pointer (some ⟨15, 122, none⟩), .pointer (some a), .int .u64 150])).run Tryz.prog w = .ok (some (122, a, 150)) w := by kernel_rfl
theorem partsAEnvError (p : Addr) (w : World) : (Extern.ReflectliteValue.parts (.agg #[.pointer (some ⟨15, 120, none⟩), .pointer (some p), .int .u64 406])).run Tryz.prog w = .ok (some (120, p, 406)) w := by kernel_rfl
theorem partsBEnvError (a : Addr) (w : World) : (Extern.ReflectliteValue.parts (.agg #[.pointer (some ⟨15, 120, none⟩), .pointer (some a), .int .u64 150])).run Tryz.prog w = .ok (some (120, a, 150)) w := by kernel_rfl
theorem loadPPEnvError (a : Addr) (w : World) : (loadVar 122 a).run Tryz.prog w = (load a).run Tryz.prog w := by kernel_rfl
theorem loadPEnvError (a : Addr) (w : World) : (loadVar 120 a).run Tryz.prog w = (load a).run Tryz.prog w := by kernel_rfl
theorem elemTEnvError (w : World) : (Extern.Rtype.elem? 122).run Tryz.prog w = .ok (some 120) w := by kernel_rfl
theorem mkEnvError (p : Addr) (w : World) : (Extern.ReflectliteValue.mk 120 p Extern.ReflectliteValue.flagAddr).run Tryz.prog w = .ok (.agg #[.pointer (some ⟨15, 120, none⟩), .pointer (some p), .int .u64 406]) w := by kernel_rfl
theorem directEnvError (w : World) : (Extern.Rtype.directlyAssignable 120 120).run Tryz.prog w = .ok true w := by kernel_rfl
theorem storeVarEnvError (p : Addr) (q : Option Addr) (w : World) : (storeVar 120 p (.pointer q)).run Tryz.prog w = (storeCells p [.pointer q]).run Tryz.prog w := by kernel_rfl
theorem isNilEnvError (a p : Addr) (w : World) (h : w.cell? a = some (.pointer (some p))) : (callFunc 95 #[.agg #[.pointer (some ⟨15, 122, none⟩), .pointer (some a), .int .u64 150]]).run Tryz.prog w = .ok (.value (.bool false)) w := by
  rw [@run_callFunc_extern Tryz.prog 95 _ (Extern.ReflectliteValue.method (Extern.ReflectliteValue.valueError "reflectlite.Value.IsNil" 0) Extern.ReflectliteValue.isNil) Tryz.func95 (by kernel_rfl) (by kernel_rfl) (by kernel_rfl) (by kernel_rfl)]
  have e : Extern.ReflectliteValue.method (Extern.ReflectliteValue.valueError "reflectlite.Value.IsNil" 0) Extern.ReflectliteValue.isNil #[.agg #[.pointer (some ⟨15, 122, none⟩), .pointer (some a), .int .u64 150]] = (Extern.ReflectliteValue.parts (.agg #[.pointer (some ⟨15, 122, none⟩), .pointer (some a), .int .u64 150]) >>= _) := rfl
  rw [e]
  simp [Extern.ReflectliteValue.isNil, partsEnvError, loadPPEnvError, h]
theorem elemEnvError (a p : Addr) (w : World) (h : w.cell? a = some (.pointer (some p))) : (callFunc 129 #[.agg #[.pointer (some ⟨15, 122, none⟩), .pointer (some a), .int .u64 150]]).run Tryz.prog w = .ok (.value (.agg #[.pointer (some ⟨15, 120, none⟩), .pointer (some p), .int .u64 406])) w := by
  rw [@run_callFunc_extern Tryz.prog 129 _ (Extern.ReflectliteValue.method (Extern.ReflectliteValue.valueError "reflectlite.Value.Elem" 0) Extern.ReflectliteValue.elem) Tryz.func129 (by kernel_rfl) (by kernel_rfl) (by kernel_rfl) (by kernel_rfl)]
  have e : Extern.ReflectliteValue.method (Extern.ReflectliteValue.valueError "reflectlite.Value.Elem" 0) Extern.ReflectliteValue.elem #[.agg #[.pointer (some ⟨15, 122, none⟩), .pointer (some a), .int .u64 150]] = (Extern.ReflectliteValue.parts (.agg #[.pointer (some ⟨15, 122, none⟩), .pointer (some a), .int .u64 150]) >>= _) := rfl
  rw [e]
  simp [Extern.ReflectliteValue.elem, partsEnvError, loadPPEnvError, h, elemTEnvError, mkEnvError]
theorem setEnvError (p a : Addr) (q : Option Addr) (old : Value) (w : World) (ha : w.cell? a = some (.pointer q)) (hp : w.cell? p = some old) (hf : w.frozen? p = false) : (callFunc 130 #[.agg #[.pointer (some ⟨15, 120, none⟩), .pointer (some p), .int .u64 406], .agg #[.pointer (some ⟨15, 120, none⟩), .pointer (some a), .int .u64 150]]).run Tryz.prog w = .ok (.value (.tuple #[])) (w.setCell p (.pointer q)) := by
  rw [@run_callFunc_extern Tryz.prog 130 _ Extern.ReflectliteValue.set Tryz.func130 (by kernel_rfl) (by kernel_rfl) (by kernel_rfl) (by kernel_rfl)]
  have e : Extern.ReflectliteValue.set #[.agg #[.pointer (some ⟨15, 120, none⟩), .pointer (some p), .int .u64 406], .agg #[.pointer (some ⟨15, 120, none⟩), .pointer (some a), .int .u64 150]] = (Extern.ReflectliteValue.parts (.agg #[.pointer (some ⟨15, 120, none⟩), .pointer (some p), .int .u64 406]) >>= fun _ => Extern.ReflectliteValue.parts (.agg #[.pointer (some ⟨15, 120, none⟩), .pointer (some a), .int .u64 150]) >>= fun _ => _) := rfl
  have hst := fun m => run_store Tryz.prog w p (.pointer q) m rfl
  rw [e]
  simp [partsAEnvError, partsBEnvError, directEnvError, loadPEnvError, ha, storeVarEnvError, storeCells, Extern.ReflectliteValue.flagAddr, Addr.add, hst, hp, hf]

theorem rtElem (v : Value) (w : World) : (Go.method 523 257 v "Elem").run Tryz.prog w = .ok (267, v) w := by kernel_rfl
theorem rtImplements (v : Value) (w : World) : (Go.method 523 257 v "Implements").run Tryz.prog w = .ok (268, v) w := by kernel_rfl
theorem rtAssignableTo (v : Value) (w : World) : (Go.method 523 257 v "AssignableTo").run Tryz.prog w = .ok (265, v) w := by kernel_rfl
theorem typeOfEnv (v : Value) (w : World) : (callFunc 97 #[.iface 120 v]).run Tryz.prog w = .ok (.value (.iface 257 (.agg #[.pointer (some ⟨15, 120, none⟩)]))) w := by kernel_rfl
theorem noAsEnv (v : Value) (xT : TypeId) (w : World) : (Instr.typeAssert (.iface 120 v) xT 261 true).run Tryz.prog w = .ok (.tuple #[.nilIface, .bool false]) w := run_typeAssert_lacksB Tryz.underlying261 (by kernel_rfl) (by kernel_rfl) v xT w
theorem assignEnvSyntaxError (w : World) : (callFunc 265 #[.agg #[.pointer (some ⟨15, 120, none⟩)], .iface 257 (.agg #[.pointer (some ⟨15, 118, none⟩)])]).run Tryz.prog w = .ok (.value (.bool false)) w := by kernel_rfl
theorem assignEnvUnboundError (w : World) : (callFunc 265 #[.agg #[.pointer (some ⟨15, 120, none⟩)], .iface 257 (.agg #[.pointer (some ⟨15, 119, none⟩)])]).run Tryz.prog w = .ok (.value (.bool false)) w := by kernel_rfl
theorem assignEnvEnvError (w : World) : (callFunc 265 #[.agg #[.pointer (some ⟨15, 120, none⟩)], .iface 257 (.agg #[.pointer (some ⟨15, 120, none⟩)])]).run Tryz.prog w = .ok (.value (.bool true)) w := by kernel_rfl
theorem typeOfSyntax (v : Value) (w : World) : (callFunc 97 #[.iface 118 v]).run Tryz.prog w = .ok (.value (.iface 257 (.agg #[.pointer (some ⟨15, 118, none⟩)]))) w := by kernel_rfl
theorem noAsSyntax (v : Value) (xT : TypeId) (w : World) : (Instr.typeAssert (.iface 118 v) xT 261 true).run Tryz.prog w = .ok (.tuple #[.nilIface, .bool false]) w := run_typeAssert_lacksB Tryz.underlying261 (by kernel_rfl) (by kernel_rfl) v xT w
theorem noUnwrapSyntax (v : Value) (xT : TypeId) (w : World) : (Instr.typeAssert (.iface 118 v) xT 212 true).run Tryz.prog w = .ok (.tuple #[.nilIface, .bool false]) w := run_typeAssert_lacksB Tryz.underlying212 (by kernel_rfl) (by kernel_rfl) v xT w
theorem noUnwrapsSyntax (v : Value) (xT : TypeId) (w : World) : (Instr.typeAssert (.iface 118 v) xT 264 true).run Tryz.prog w = .ok (.tuple #[.nilIface, .bool false]) w := run_typeAssert_lacksB Tryz.underlying264 (by kernel_rfl) (by kernel_rfl) v xT w
theorem assignSyntaxSyntaxError (w : World) : (callFunc 265 #[.agg #[.pointer (some ⟨15, 118, none⟩)], .iface 257 (.agg #[.pointer (some ⟨15, 118, none⟩)])]).run Tryz.prog w = .ok (.value (.bool true)) w := by kernel_rfl
theorem assignSyntaxUnboundError (w : World) : (callFunc 265 #[.agg #[.pointer (some ⟨15, 118, none⟩)], .iface 257 (.agg #[.pointer (some ⟨15, 119, none⟩)])]).run Tryz.prog w = .ok (.value (.bool false)) w := by kernel_rfl
theorem assignSyntaxEnvError (w : World) : (callFunc 265 #[.agg #[.pointer (some ⟨15, 118, none⟩)], .iface 257 (.agg #[.pointer (some ⟨15, 120, none⟩)])]).run Tryz.prog w = .ok (.value (.bool false)) w := by kernel_rfl
theorem typeOfUnbound (v : Value) (w : World) : (callFunc 97 #[.iface 119 v]).run Tryz.prog w = .ok (.value (.iface 257 (.agg #[.pointer (some ⟨15, 119, none⟩)]))) w := by kernel_rfl
theorem noAsUnbound (v : Value) (xT : TypeId) (w : World) : (Instr.typeAssert (.iface 119 v) xT 261 true).run Tryz.prog w = .ok (.tuple #[.nilIface, .bool false]) w := run_typeAssert_lacksB Tryz.underlying261 (by kernel_rfl) (by kernel_rfl) v xT w
theorem noUnwrapUnbound (v : Value) (xT : TypeId) (w : World) : (Instr.typeAssert (.iface 119 v) xT 212 true).run Tryz.prog w = .ok (.tuple #[.nilIface, .bool false]) w := run_typeAssert_lacksB Tryz.underlying212 (by kernel_rfl) (by kernel_rfl) v xT w
theorem noUnwrapsUnbound (v : Value) (xT : TypeId) (w : World) : (Instr.typeAssert (.iface 119 v) xT 264 true).run Tryz.prog w = .ok (.tuple #[.nilIface, .bool false]) w := run_typeAssert_lacksB Tryz.underlying264 (by kernel_rfl) (by kernel_rfl) v xT w
theorem assignUnboundSyntaxError (w : World) : (callFunc 265 #[.agg #[.pointer (some ⟨15, 119, none⟩)], .iface 257 (.agg #[.pointer (some ⟨15, 118, none⟩)])]).run Tryz.prog w = .ok (.value (.bool false)) w := by kernel_rfl
theorem assignUnboundUnboundError (w : World) : (callFunc 265 #[.agg #[.pointer (some ⟨15, 119, none⟩)], .iface 257 (.agg #[.pointer (some ⟨15, 119, none⟩)])]).run Tryz.prog w = .ok (.value (.bool true)) w := by kernel_rfl
theorem assignUnboundEnvError (w : World) : (callFunc 265 #[.agg #[.pointer (some ⟨15, 119, none⟩)], .iface 257 (.agg #[.pointer (some ⟨15, 120, none⟩)])]).run Tryz.prog w = .ok (.value (.bool false)) w := by kernel_rfl
theorem typeOfPlain (v : Value) (w : World) : (callFunc 97 #[.iface 393 v]).run Tryz.prog w = .ok (.value (.iface 257 (.agg #[.pointer (some ⟨15, 393, none⟩)]))) w := by kernel_rfl
theorem noAsPlain (v : Value) (xT : TypeId) (w : World) : (Instr.typeAssert (.iface 393 v) xT 261 true).run Tryz.prog w = .ok (.tuple #[.nilIface, .bool false]) w := run_typeAssert_lacksB Tryz.underlying261 (by kernel_rfl) (by kernel_rfl) v xT w
theorem assignPlainSyntaxError (w : World) : (callFunc 265 #[.agg #[.pointer (some ⟨15, 393, none⟩)], .iface 257 (.agg #[.pointer (some ⟨15, 118, none⟩)])]).run Tryz.prog w = .ok (.value (.bool false)) w := by kernel_rfl
theorem assignPlainUnboundError (w : World) : (callFunc 265 #[.agg #[.pointer (some ⟨15, 393, none⟩)], .iface 257 (.agg #[.pointer (some ⟨15, 119, none⟩)])]).run Tryz.prog w = .ok (.value (.bool false)) w := by kernel_rfl
theorem assignPlainEnvError (w : World) : (callFunc 265 #[.agg #[.pointer (some ⟨15, 393, none⟩)], .iface 257 (.agg #[.pointer (some ⟨15, 120, none⟩)])]).run Tryz.prog w = .ok (.value (.bool false)) w := by kernel_rfl
end Go.Proofs.YtfangljlgfcdpaaGreatDoor
