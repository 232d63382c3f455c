/-
  OUR OWN TEXT (written by mkas.py). errors.As: what package reflectlite's entries answer at the types that the program hands them: closed facts, each by the kernel, and three on a cell that is read or written.
-/
import Derived.Test.YtcdijppegfcoaaaDoorIs
namespace Go.Proofs.YtcdijppegfcoaaaDoor
open Go.RowKit Go.Extern.Stop Go.Stop Go.Extern

theorem valueOfSyntaxError (p : Option Addr) (w : World) : (callFunc 9 #[.iface 38 (.pointer p)]).run Tryd.prog w = .ok (.value (.agg #[.pointer (some ⟨9, 38, none⟩), .pointer (some ⟨w.heap.size, 0, none⟩), .int .u64 150])) (w.alloc (.cells #[.pointer p] 38)) := by kernel_rfl
theorem valueOfErrSyntaxError (p : Option Addr) (w : World) : (callFunc 9 #[.iface 34 (.pointer p)]).run Tryd.prog w = .ok (.value (.agg #[.pointer (some ⟨9, 34, none⟩), .pointer (some ⟨w.heap.size, 0, none⟩), .int .u64 150])) (w.alloc (.cells #[.pointer p] 34)) := by kernel_rfl
theorem valTypeSyntaxError (a : Addr) (w : World) : (callFunc 10 #[.agg #[.pointer (some ⟨9, 38, none⟩), .pointer (some a), .int .u64 150]]).run Tryd.prog w = .ok (.value (.iface 54 (.agg #[.pointer (some ⟨9, 38, none⟩)]))) w := by kernel_rfl
theorem kindMSyntaxError (w : World) : (Go.method 202 54 (.agg #[.pointer (some ⟨9, 38, none⟩)]) "Kind").run Tryd.prog w = .ok (29, .pointer (some ⟨9, 38, none⟩)) w := by kernel_rfl
theorem kindSyntaxError (w : World) : (callFunc 29 #[.pointer (some ⟨9, 38, none⟩)]).run Tryd.prog w = .ok (.value (.int .u8 22)) w := by kernel_rfl
theorem kindEMSyntaxError (w : World) : (Go.method 202 54 (.agg #[.pointer (some ⟨9, 34, none⟩)]) "Kind").run Tryd.prog w = .ok (29, .pointer (some ⟨9, 34, none⟩)) w := by kernel_rfl
theorem kindESyntaxError (w : World) : (callFunc 29 #[.pointer (some ⟨9, 34, none⟩)]).run Tryd.prog w = .ok (.value (.int .u8 22)) w := by kernel_rfl
theorem elemOfSyntaxError (w : World) : (callFunc 41 #[.agg #[.pointer (some ⟨9, 38, none⟩)]]).run Tryd.prog w = .ok (.value (.iface 54 (.agg #[.pointer (some ⟨9, 34, none⟩)]))) w := by kernel_rfl
theorem implOfSyntaxError (w : World) : (callFunc 42 #[.agg #[.pointer (some ⟨9, 34, none⟩)], .iface 54 (.agg #[.pointer (some ⟨9, 28, none⟩)])]).run Tryd.prog w = .ok (.value (.bool true)) w := by kernel_rfl
theorem partsSyntaxError (a : Addr) (w : World) : (Extern.ReflectliteValue.parts (.agg #[.pointer (some ⟨9, 38, none⟩), .pointer (some a), .int .u64 150])).run Tryd.prog w = .ok (some (38, a, 150)) w := by kernel_rfl
theorem partsASyntaxError (p : Addr) (w : World) : (Extern.ReflectliteValue.parts (.agg #[.pointer (some ⟨9, 34, none⟩), .pointer (some p), .int .u64 406])).run Tryd.prog w = .ok (some (34, p, 406)) w := by kernel_rfl
theorem partsBSyntaxError (a : Addr) (w : World) : (Extern.ReflectliteValue.parts (.agg #[.pointer (some ⟨9, 34, none⟩), .pointer (some a), .int .u64 150])).run Tryd.prog w = .ok (some (34, a, 150)) w := by kernel_rfl
theorem loadPPSyntaxError (a : Addr) (w : World) : (loadVar 38 a).run Tryd.prog w = (load a).run Tryd.prog w := by kernel_rfl
theorem loadPSyntaxError (a : Addr) (w : World) : (loadVar 34 a).run Tryd.prog w = (load a).run Tryd.prog w := by kernel_rfl
theorem elemTSyntaxError (w : World) : (Extern.Rtype.elem? 38).run Tryd.prog w = .ok (some 34) w := by kernel_rfl
theorem mkSyntaxError (p : Addr) (w : World) : (Extern.ReflectliteValue.mk 34 p Extern.ReflectliteValue.flagAddr).run Tryd.prog w = .ok (.agg #[.pointer (some ⟨9, 34, none⟩), .pointer (some p), .int .u64 406]) w := by kernel_rfl
theorem directSyntaxError (w : World) : (Extern.Rtype.directlyAssignable 34 34).run Tryd.prog w = .ok true w := by kernel_rfl
theorem storeVarSyntaxError (p : Addr) (q : Option Addr) (w : World) : (storeVar 34 p (.pointer q)).run Tryd.prog w = (storeCells p [.pointer q]).run Tryd.prog w := by kernel_rfl
theorem isNilSyntaxError (a p : Addr) (w : World) (h : w.cell? a = some (.pointer (some p))) : (callFunc 11 #[.agg #[.pointer (some ⟨9, 38, none⟩), .pointer (some a), .int .u64 150]]).run Tryd.prog w = .ok (.value (.bool false)) w := by
  rw [@run_callFunc_extern Tryd.prog 11 _ (Extern.ReflectliteValue.method (Extern.ReflectliteValue.valueError "reflectlite.Value.IsNil" 0) Extern.ReflectliteValue.isNil) Tryd.func11 (by kernel_rfl) (by kernel_rfl) (by kernel_rfl) (by kernel_rfl)]
  have e : Extern.ReflectliteValue.method (Extern.ReflectliteValue.valueError "reflectlite.Value.IsNil" 0) Extern.ReflectliteValue.isNil #[.agg #[.pointer (some ⟨9, 38, none⟩), .pointer (some a), .int .u64 150]] = (Extern.ReflectliteValue.parts (.agg #[.pointer (some ⟨9, 38, none⟩), .pointer (some a), .int .u64 150]) >>= _) := rfl
  rw [e]
  simp [Extern.ReflectliteValue.isNil, partsSyntaxError, loadPPSyntaxError, h]
theorem elemSyntaxError (a p : Addr) (w : World) (h : w.cell? a = some (.pointer (some p))) : (callFunc 13 #[.agg #[.pointer (some ⟨9, 38, none⟩), .pointer (some a), .int .u64 150]]).run Tryd.prog w = .ok (.value (.agg #[.pointer (some ⟨9, 34, none⟩), .pointer (some p), .int .u64 406])) w := by
  rw [@run_callFunc_extern Tryd.prog 13 _ (Extern.ReflectliteValue.method (Extern.ReflectliteValue.valueError "reflectlite.Value.Elem" 0) Extern.ReflectliteValue.elem) Tryd.func13 (by kernel_rfl) (by kernel_rfl) (by kernel_rfl) (by kernel_rfl)]
  have e : Extern.ReflectliteValue.method (Extern.ReflectliteValue.valueError "reflectlite.Value.Elem" 0) Extern.ReflectliteValue.elem #[.agg #[.pointer (some ⟨9, 38, none⟩), .pointer (some a), .int .u64 150]] = (Extern.ReflectliteValue.parts (.agg #[.pointer (some ⟨9, 38, none⟩), .pointer (some a), .int .u64 150]) >>= _) := rfl
  rw [e]
  simp [Extern.ReflectliteValue.elem, partsSyntaxError, loadPPSyntaxError, h, elemTSyntaxError, mkSyntaxError]
theorem setSyntaxError (p a : Addr) (q : Option Addr) (old : Value) (w : World) (ha : w.cell? a = some (.pointer q)) (hp : w.cell? p = some old) (hf : w.frozen? p = false) : (callFunc 14 #[.agg #[.pointer (some ⟨9, 34, none⟩), .pointer (some p), .int .u64 406], .agg #[.pointer (some ⟨9, 34, none⟩), .pointer (some a), .int .u64 150]]).run Tryd.prog w = .ok (.value (.tuple #[])) (w.setCell p (.pointer q)) := by
  rw [@run_callFunc_extern Tryd.prog 14 _ Extern.ReflectliteValue.set Tryd.func14 (by kernel_rfl) (by kernel_rfl) (by kernel_rfl) (by kernel_rfl)]
  have e : Extern.ReflectliteValue.set #[.agg #[.pointer (some ⟨9, 34, none⟩), .pointer (some p), .int .u64 406], .agg #[.pointer (some ⟨9, 34, none⟩), .pointer (some a), .int .u64 150]] = (Extern.ReflectliteValue.parts (.agg #[.pointer (some ⟨9, 34, none⟩), .pointer (some p), .int .u64 406]) >>= fun _ => Extern.ReflectliteValue.parts (.agg #[.pointer (some ⟨9, 34, none⟩), .pointer (some a), .int .u64 150]) >>= fun _ => _) := rfl
  have hst := fun m => run_store Tryd.prog w p (.pointer q) m rfl
  rw [e]
  simp [partsASyntaxError, partsBSyntaxError, directSyntaxError, loadPSyntaxError, ha, storeVarSyntaxError, storeCells, Extern.ReflectliteValue.flagAddr, Addr.add, hst, hp, hf]

theorem rtElem (v : Value) (w : World) : (Go.method 202 54 v "Elem").run Tryd.prog w = .ok (41, v) w := by kernel_rfl
theorem rtImplements (v : Value) (w : World) : (Go.method 202 54 v "Implements").run Tryd.prog w = .ok (42, v) w := by kernel_rfl
theorem rtAssignableTo (v : Value) (w : World) : (Go.method 202 54 v "AssignableTo").run Tryd.prog w = .ok (39, v) w := by kernel_rfl
theorem typeOfEnv (v : Value) (w : World) : (callFunc 7 #[.iface 30 v]).run Tryd.prog w = .ok (.value (.iface 54 (.agg #[.pointer (some ⟨9, 30, none⟩)]))) w := by kernel_rfl
theorem noAsEnv (v : Value) (xT : TypeId) (w : World) : (Instr.typeAssert (.iface 30 v) xT 65 true).run Tryd.prog w = .ok (.tuple #[.nilIface, .bool false]) w := run_typeAssert_lacksB Tryd.underlying65 (by kernel_rfl) (by kernel_rfl) v xT w
theorem assignEnvSyntaxError (w : World) : (callFunc 39 #[.agg #[.pointer (some ⟨9, 30, none⟩)], .iface 54 (.agg #[.pointer (some ⟨9, 34, none⟩)])]).run Tryd.prog w = .ok (.value (.bool false)) w := by kernel_rfl
theorem typeOfSyntax (v : Value) (w : World) : (callFunc 7 #[.iface 34 v]).run Tryd.prog w = .ok (.value (.iface 54 (.agg #[.pointer (some ⟨9, 34, none⟩)]))) w := by kernel_rfl
theorem noAsSyntax (v : Value) (xT : TypeId) (w : World) : (Instr.typeAssert (.iface 34 v) xT 65 true).run Tryd.prog w = .ok (.tuple #[.nilIface, .bool false]) w := run_typeAssert_lacksB Tryd.underlying65 (by kernel_rfl) (by kernel_rfl) v xT w
theorem noUnwrapSyntax (v : Value) (xT : TypeId) (w : World) : (Instr.typeAssert (.iface 34 v) xT 59 true).run Tryd.prog w = .ok (.tuple #[.nilIface, .bool false]) w := run_typeAssert_lacksB Tryd.underlying59 (by kernel_rfl) (by kernel_rfl) v xT w
theorem noUnwrapsSyntax (v : Value) (xT : TypeId) (w : World) : (Instr.typeAssert (.iface 34 v) xT 61 true).run Tryd.prog w = .ok (.tuple #[.nilIface, .bool false]) w := run_typeAssert_lacksB Tryd.underlying61 (by kernel_rfl) (by kernel_rfl) v xT w
theorem assignSyntaxSyntaxError (w : World) : (callFunc 39 #[.agg #[.pointer (some ⟨9, 34, none⟩)], .iface 54 (.agg #[.pointer (some ⟨9, 34, none⟩)])]).run Tryd.prog w = .ok (.value (.bool true)) w := by kernel_rfl
theorem typeOfPlain (v : Value) (w : World) : (callFunc 7 #[.iface 68 v]).run Tryd.prog w = .ok (.value (.iface 54 (.agg #[.pointer (some ⟨9, 68, none⟩)]))) w := by kernel_rfl
theorem noAsPlain (v : Value) (xT : TypeId) (w : World) : (Instr.typeAssert (.iface 68 v) xT 65 true).run Tryd.prog w = .ok (.tuple #[.nilIface, .bool false]) w := run_typeAssert_lacksB Tryd.underlying65 (by kernel_rfl) (by kernel_rfl) v xT w
theorem assignPlainSyntaxError (w : World) : (callFunc 39 #[.agg #[.pointer (some ⟨9, 68, none⟩)], .iface 54 (.agg #[.pointer (some ⟨9, 34, none⟩)])]).run Tryd.prog w = .ok (.value (.bool false)) w := by kernel_rfl
end Go.Proofs.YtcdijppegfcoaaaDoor
