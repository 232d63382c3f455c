import Derived.Test.YtcdijppegfcoaabGreatDoorZK21
namespace Go.Proofs.YtcdijppegfcoaabGreatDoor
open Go.RowKit Go.Extern.Stop Go.Stop Go.Extern
theorem valueOfSyntaxError (p : Option Addr) (w : World) : (callFunc 57 #[.iface 90 (.pointer p)]).run Tryz.prog w = .ok (.value (.agg #[.pointer (some ⟨13,90,none⟩),.pointer (some ⟨w.heap.size,0,none⟩),.int .u64 150])) (w.alloc (.cells #[.pointer p] 90)) := by kernel_rfl
theorem valueOfErrSyntaxError (p : Option Addr) (w : World) : (callFunc 57 #[.iface 81 (.pointer p)]).run Tryz.prog w = .ok (.value (.agg #[.pointer (some ⟨13,81,none⟩),.pointer (some ⟨w.heap.size,0,none⟩),.int .u64 150])) (w.alloc (.cells #[.pointer p] 81)) := by kernel_rfl
theorem valTypeSyntaxError (a : Addr) (w : World) : (callFunc 58 #[.agg #[.pointer (some ⟨13,90,none⟩),.pointer (some a),.int .u64 150]]).run Tryz.prog w = .ok (.value (.iface 229 (.agg #[.pointer (some ⟨13,90,none⟩)]))) w := by kernel_rfl
theorem kindMSyntaxError (w : World) : (Go.method 502 229 (.agg #[.pointer (some ⟨13,90,none⟩)]) "Kind").run Tryz.prog w = .ok (231,.pointer (some ⟨13,90,none⟩)) w := by kernel_rfl
theorem kindSyntaxError (w : World) : (callFunc 231 #[.pointer (some ⟨13,90,none⟩)]).run Tryz.prog w = .ok (.value (.int .u8 22)) w := by kernel_rfl
theorem kindEMSyntaxError (w : World) : (Go.method 502 229 (.agg #[.pointer (some ⟨13,81,none⟩)]) "Kind").run Tryz.prog w = .ok (231,.pointer (some ⟨13,81,none⟩)) w := by kernel_rfl
theorem kindESyntaxError (w : World) : (callFunc 231 #[.pointer (some ⟨13,81,none⟩)]).run Tryz.prog w = .ok (.value (.int .u8 22)) w := by kernel_rfl
theorem elemOfSyntaxError (w : World) : (callFunc 247 #[.agg #[.pointer (some ⟨13,90,none⟩)]]).run Tryz.prog w = .ok (.value (.iface 229 (.agg #[.pointer (some ⟨13,81,none⟩)]))) w := by kernel_rfl
theorem implOfSyntaxError (w : World) : (callFunc 248 #[.agg #[.pointer (some ⟨13,81,none⟩)],.iface 229 (.agg #[.pointer (some ⟨13,56,none⟩)])]).run Tryz.prog w = .ok (.value (.bool true)) w := by kernel_rfl
theorem partsSyntaxError (a : Addr) (w : World) : (Extern.ReflectliteValue.parts (.agg #[.pointer (some ⟨13,90,none⟩),.pointer (some a),.int .u64 150])).run Tryz.prog w = .ok (some (90,a,150)) w := by kernel_rfl
theorem partsASyntaxError (p : Addr) (w : World) : (Extern.ReflectliteValue.parts (.agg #[.pointer (some ⟨13,81,none⟩),.pointer (some p),.int .u64 406])).run Tryz.prog w = .ok (some (81,p,406)) w := by kernel_rfl
theorem partsBSyntaxError (a : Addr) (w : World) : (Extern.ReflectliteValue.parts (.agg #[.pointer (some ⟨13,81,none⟩),.pointer (some a),.int .u64 150])).run Tryz.prog w = .ok (some (81,a,150)) w := by kernel_rfl
theorem loadPPSyntaxError (a : Addr) (w : World) : (loadVar 90 a).run Tryz.prog w = (load a).run Tryz.prog w := by kernel_rfl
theorem loadPSyntaxError (a : Addr) (w : World) : (loadVar 81 a).run Tryz.prog w = (load a).run Tryz.prog w := by kernel_rfl
theorem elemTSyntaxError (w : World) : (Extern.Rtype.elem? 90).run Tryz.prog w = .ok (some 81) w := by kernel_rfl
theorem mkSyntaxError (p : Addr) (w : World) : (Extern.ReflectliteValue.mk 81 p Extern.ReflectliteValue.flagAddr).run Tryz.prog w = .ok (.agg #[.pointer (some ⟨13,81,none⟩),.pointer (some p),.int .u64 406]) w := by kernel_rfl
theorem directSyntaxError (w : World) : (Extern.Rtype.directlyAssignable 81 81).run Tryz.prog w = .ok true w := by kernel_rfl
theorem storeVarSyntaxError (p : Addr) (q : Option Addr) (w : World) : (storeVar 81 p (.pointer q)).run Tryz.prog w = (storeCells p [.pointer q]).run Tryz.prog w := by kernel_rfl
theorem isNilSyntaxError (a p : Addr) (w : World) (h : w.cell? a = some (.pointer (some p))) : (callFunc 59 #[.agg #[.pointer (some ⟨13,90,none⟩),.pointer (some a),.int .u64 150]]).run Tryz.prog w = .ok (.value (.bool false)) w := by
  rw [@run_callFunc_extern Tryz.prog 59 _ (Extern.ReflectliteValue.method (Extern.ReflectliteValue.valueError "reflectlite.Value.IsNil" 0) Extern.ReflectliteValue.isNil) Tryz.func59 (by kernel_rfl) (by kernel_rfl) (by kernel_rfl) (by kernel_rfl)]
  have e : Extern.ReflectliteValue.method (Extern.ReflectliteValue.valueError "reflectlite.Value.IsNil" 0) Extern.ReflectliteValue.isNil #[.agg #[.pointer (some ⟨13,90,none⟩),.pointer (some a),.int .u64 150]] = (Extern.ReflectliteValue.parts (.agg #[.pointer (some ⟨13,90,none⟩),.pointer (some a),.int .u64 150]) >>= _) := rfl
  rw [e]
  simp [Extern.ReflectliteValue.isNil,partsSyntaxError,loadPPSyntaxError,h]
theorem elemSyntaxError (a p : Addr) (w : World) (h : w.cell? a = some (.pointer (some p))) : (callFunc 94 #[.agg #[.pointer (some ⟨13,90,none⟩),.pointer (some a),.int .u64 150]]).run Tryz.prog w = .ok (.value (.agg #[.pointer (some ⟨13,81,none⟩),.pointer (some p),.int .u64 406])) w := by
  rw [@run_callFunc_extern Tryz.prog 94 _ (Extern.ReflectliteValue.method (Extern.ReflectliteValue.valueError "reflectlite.Value.Elem" 0) Extern.ReflectliteValue.elem) Tryz.func94 (by kernel_rfl) (by kernel_rfl) (by kernel_rfl) (by kernel_rfl)]
  have e : Extern.ReflectliteValue.method (Extern.ReflectliteValue.valueError "reflectlite.Value.Elem" 0) Extern.ReflectliteValue.elem #[.agg #[.pointer (some ⟨13,90,none⟩),.pointer (some a),.int .u64 150]] = (Extern.ReflectliteValue.parts (.agg #[.pointer (some ⟨13,90,none⟩),.pointer (some a),.int .u64 150]) >>= _) := rfl
  rw [e]
  simp [Extern.ReflectliteValue.elem,partsSyntaxError,loadPPSyntaxError,h,elemTSyntaxError,mkSyntaxError]
theorem setSyntaxError (p a : Addr) (q : Option Addr) (old : Value) (w : World) (ha : w.cell? a = some (.pointer q)) (hp : w.cell? p = some old) (hf : w.frozen? p = false) : (callFunc 95 #[.agg #[.pointer (some ⟨13,81,none⟩),.pointer (some p),.int .u64 406],.agg #[.pointer (some ⟨13,81,none⟩),.pointer (some a),.int .u64 150]]).run Tryz.prog w = .ok (.value (.tuple #[])) (w.setCell p (.pointer q)) := by
  rw [@run_callFunc_extern Tryz.prog 95 _ Extern.ReflectliteValue.set Tryz.func95 (by kernel_rfl) (by kernel_rfl) (by kernel_rfl) (by kernel_rfl)]
  have e : Extern.ReflectliteValue.set #[.agg #[.pointer (some ⟨13,81,none⟩),.pointer (some p),.int .u64 406],.agg #[.pointer (some ⟨13,81,none⟩),.pointer (some a),.int .u64 150]] = (Extern.ReflectliteValue.parts (.agg #[.pointer (some ⟨13,81,none⟩),.pointer (some p),.int .u64 406]) >>= fun _ => Extern.ReflectliteValue.parts (.agg #[.pointer (some ⟨13,81,none⟩),.pointer (some a),.int .u64 150]) >>= fun _ => _) := rfl
  have hst := fun m => run_store Tryz.prog w p (.pointer q) m rfl
  rw [e]
  simp [partsASyntaxError,partsBSyntaxError,directSyntaxError,loadPSyntaxError,ha,storeVarSyntaxError,storeCells,Extern.ReflectliteValue.flagAddr,Addr.add,hst,hp,hf]
theorem valueOfUnboundError (p : Option Addr) (w : World) : (callFunc 57 #[.iface 93 (.pointer p)]).run Tryz.prog w = .ok (.value (.agg #[.pointer (some ⟨13,93,none⟩),.pointer (some ⟨w.heap.size,0,none⟩),.int .u64 150])) (w.alloc (.cells #[.pointer p] 93)) := by kernel_rfl
theorem valueOfErrUnboundError (p : Option Addr) (w : World) : (callFunc 57 #[.iface 82 (.pointer p)]).run Tryz.prog w = .ok (.value (.agg #[.pointer (some ⟨13,82,none⟩),.pointer (some ⟨w.heap.size,0,none⟩),.int .u64 150])) (w.alloc (.cells #[.pointer p] 82)) := by kernel_rfl
theorem valTypeUnboundError (a : Addr) (w : World) : (callFunc 58 #[.agg #[.pointer (some ⟨13,93,none⟩),.pointer (some a),.int .u64 150]]).run Tryz.prog w = .ok (.value (.iface 229 (.agg #[.pointer (some ⟨13,93,none⟩)]))) w := by kernel_rfl
theorem kindMUnboundError (w : World) : (Go.method 502 229 (.agg #[.pointer (some ⟨13,93,none⟩)]) "Kind").run Tryz.prog w = .ok (231,.pointer (some ⟨13,93,none⟩)) w := by kernel_rfl
theorem kindUnboundError (w : World) : (callFunc 231 #[.pointer (some ⟨13,93,none⟩)]).run Tryz.prog w = .ok (.value (.int .u8 22)) w := by kernel_rfl
theorem kindEMUnboundError (w : World) : (Go.method 502 229 (.agg #[.pointer (some ⟨13,82,none⟩)]) "Kind").run Tryz.prog w = .ok (231,.pointer (some ⟨13,82,none⟩)) w := by kernel_rfl
theorem kindEUnboundError (w : World) : (callFunc 231 #[.pointer (some ⟨13,82,none⟩)]).run Tryz.prog w = .ok (.value (.int .u8 22)) w := by kernel_rfl
theorem elemOfUnboundError (w : World) : (callFunc 247 #[.agg #[.pointer (some ⟨13,93,none⟩)]]).run Tryz.prog w = .ok (.value (.iface 229 (.agg #[.pointer (some ⟨13,82,none⟩)]))) w := by kernel_rfl
theorem implOfUnboundError (w : World) : (callFunc 248 #[.agg #[.pointer (some ⟨13,82,none⟩)],.iface 229 (.agg #[.pointer (some ⟨13,56,none⟩)])]).run Tryz.prog w = .ok (.value (.bool true)) w := by kernel_rfl
theorem partsUnboundError (a : Addr) (w : World) : (Extern.ReflectliteValue.parts (.agg #[.pointer (some ⟨13,93,none⟩),.pointer (some a),.int .u64 150])).run Tryz.prog w = .ok (some (93,a,150)) w := by kernel_rfl
theorem partsAUnboundError (p : Addr) (w : World) : (Extern.ReflectliteValue.parts (.agg #[.pointer (some ⟨13,82,none⟩),.pointer (some p),.int .u64 406])).run Tryz.prog w = .ok (some (82,p,406)) w := by kernel_rfl
theorem partsBUnboundError (a : Addr) (w : World) : (Extern.ReflectliteValue.parts (.agg #[.pointer (some ⟨13,82,none⟩),.pointer (some a),.int .u64 150])).run Tryz.prog w = .ok (some (82,a,150)) w := by kernel_rfl
theorem loadPPUnboundError (a : Addr) (w : World) : (loadVar 93 a).run Tryz.prog w = (load a).run Tryz.prog w := by kernel_rfl
theorem loadPUnboundError (a : Addr) (w : World) : (loadVar 82 a).run Tryz.prog w = (load a).run Tryz.prog w := by kernel_rfl
theorem elemTUnboundError (w : World) : (Extern.Rtype.elem? 93).run Tryz.prog w = .ok (some 82) w := by kernel_rfl
theorem mkUnboundError (p : Addr) (w : World) : (Extern.ReflectliteValue.mk 82 p Extern.ReflectliteValue.flagAddr).run Tryz.prog w = .ok (.agg #[.pointer (some ⟨13,82,none⟩),.pointer (some p),.int .u64 406]) w := by kernel_rfl
theorem directUnboundError (w : World) : (Extern.Rtype.directlyAssignable 82 82).run Tryz.prog w = .ok true w := by kernel_rfl
theorem storeVarUnboundError (p : Addr) (q : Option Addr) (w : World) : (storeVar 82 p (.pointer q)).run Tryz.prog w = (storeCells p [.pointer q]).run Tryz.prog w := by kernel_rfl
theorem isNilUnboundError (a p : Addr) (w : World) (h : w.cell? a = some (.pointer (some p))) : (callFunc 59 #[.agg #[.pointer (some ⟨13,93,none⟩),.pointer (some a),.int .u64 150]]).run Tryz.prog w = .ok (.value (.bool false)) w := by
  rw [@run_callFunc_extern Tryz.prog 59 _ (Extern.ReflectliteValue.method (Extern.ReflectliteValue.valueError "reflectlite.Value.IsNil" 0) Extern.ReflectliteValue.isNil) Tryz.func59 (by kernel_rfl) (by kernel_rfl) (by kernel_rfl) (by kernel_rfl)]
  have e : Extern.ReflectliteValue.method (Extern.ReflectliteValue.valueError "reflectlite.Value.IsNil" 0) Extern.ReflectliteValue.isNil #[.agg #[.pointer (some ⟨13,93,none⟩),.pointer (some a),.int .u64 150]] = (Extern.ReflectliteValue.parts (.agg #[.pointer (some ⟨13,93,none⟩),.pointer (some a),.int .u64 150]) >>= _) := rfl
  rw [e]
  simp [Extern.ReflectliteValue.isNil,partsUnboundError,loadPPUnboundError,h]
theorem elemUnboundError (a p : Addr) (w : World) (h : w.cell? a = some (.pointer (some p))) : (callFunc 94 #[.agg #[.pointer (some ⟨13,93,none⟩),.pointer (some a),.int .u64 150]]).run Tryz.prog w = .ok (.value (.agg #[.pointer (some ⟨13,82,none⟩),.pointer (some p),.int .u64 406])) w := by
  rw [@run_callFunc_extern Tryz.prog 94 _ (Extern.ReflectliteValue.method (Extern.ReflectliteValue.valueError "reflectlite.Value.Elem" 0) Extern.ReflectliteValue.elem) Tryz.func94 (by kernel_rfl) (by kernel_rfl) (by kernel_rfl) (by kernel_rfl)]
  have e : Extern.ReflectliteValue.method (Extern.ReflectliteValue.valueError "reflectlite.Value.Elem" 0) Extern.ReflectliteValue.elem #[.agg #[.pointer (some ⟨13,93,none⟩),.pointer (some a),.int .u64 150]] = (Extern.ReflectliteValue.parts (.agg #[.pointer (some ⟨13,93,none⟩),.pointer (some a),.int .u64 150]) >>= _) := rfl
  rw [e]
  simp [Extern.ReflectliteValue.elem,partsUnboundError,loadPPUnboundError,h,elemTUnboundError,mkUnboundError]
theorem setUnboundError (p a : Addr) (q : Option Addr) (old : Value) (w : World) (ha : w.cell? a = some (.pointer q)) (hp : w.cell? p = some old) (hf : w.frozen? p = false) : (callFunc 95 #[.agg #[.pointer (some ⟨13,82,none⟩),.pointer (some p),.int .u64 406],.agg #[.pointer (some ⟨13,82,none⟩),.pointer (some a),.int .u64 150]]).run Tryz.prog w = .ok (.value (.tuple #[])) (w.setCell p (.pointer q)) := by
  rw [@run_callFunc_extern Tryz.prog 95 _ Extern.ReflectliteValue.set Tryz.func95 (by kernel_rfl) (by kernel_rfl) (by kernel_rfl) (by kernel_rfl)]
  have e : Extern.ReflectliteValue.set #[.agg #[.pointer (some ⟨13,82,none⟩),.pointer (some p),.int .u64 406],.agg #[.pointer (some ⟨13,82,none⟩),.pointer (some a),.int .u64 150]] = (Extern.ReflectliteValue.parts (.agg #[.pointer (some ⟨13,82,none⟩),.pointer (some p),.int .u64 406]) >>= fun _ => Extern.ReflectliteValue.parts (.agg #[.pointer (some ⟨13,82,none⟩),.pointer (some a),.int .u64 150]) >>= fun _ => _) := rfl
  have hst := fun m => run_store Tryz.prog w p (.pointer q) m rfl
  rw [e]
  simp [partsAUnboundError,partsBUnboundError,directUnboundError,loadPUnboundError,ha,storeVarUnboundError,storeCells,Extern.ReflectliteValue.flagAddr,Addr.add,hst,hp,hf]
theorem valueOfEnvError (p : Option Addr) (w : World) : (callFunc 57 #[.iface 85 (.pointer p)]).run Tryz.prog w = .ok (.value (.agg #[.pointer (some ⟨13,85,none⟩),.pointer (some ⟨w.heap.size,0,none⟩),.int .u64 150])) (w.alloc (.cells #[.pointer p] 85)) := by kernel_rfl
theorem valTypeEnvError (a : Addr) (w : World) : (callFunc 58 #[.agg #[.pointer (some ⟨13,85,none⟩),.pointer (some a),.int .u64 150]]).run Tryz.prog w = .ok (.value (.iface 229 (.agg #[.pointer (some ⟨13,85,none⟩)]))) w := by kernel_rfl
theorem kindMEnvError (w : World) : (Go.method 502 229 (.agg #[.pointer (some ⟨13,85,none⟩)]) "Kind").run Tryz.prog w = .ok (231,.pointer (some ⟨13,85,none⟩)) w := by kernel_rfl
theorem kindEnvError (w : World) : (callFunc 231 #[.pointer (some ⟨13,85,none⟩)]).run Tryz.prog w = .ok (.value (.int .u8 22)) w := by kernel_rfl
theorem kindEMEnvError (w : World) : (Go.method 502 229 (.agg #[.pointer (some ⟨13,83,none⟩)]) "Kind").run Tryz.prog w = .ok (231,.pointer (some ⟨13,83,none⟩)) w := by kernel_rfl
theorem kindEEnvError (w : World) : (callFunc 231 #[.pointer (some ⟨13,83,none⟩)]).run Tryz.prog w = .ok (.value (.int .u8 22)) w := by kernel_rfl
theorem elemOfEnvError (w : World) : (callFunc 247 #[.agg #[.pointer (some ⟨13,85,none⟩)]]).run Tryz.prog w = .ok (.value (.iface 229 (.agg #[.pointer (some ⟨13,83,none⟩)]))) w := by kernel_rfl
theorem implOfEnvError (w : World) : (callFunc 248 #[.agg #[.pointer (some ⟨13,83,none⟩)],.iface 229 (.agg #[.pointer (some ⟨13,56,none⟩)])]).run Tryz.prog w = .ok (.value (.bool true)) w := by kernel_rfl
theorem partsEnvError (a : Addr) (w : World) : (Extern.ReflectliteValue.parts (.agg #[.pointer (some ⟨13,85,none⟩),.pointer (some a),.int .u64 150])).run Tryz.prog w = .ok (some (85,a,150)) w := by kernel_rfl
theorem loadPPEnvError (a : Addr) (w : World) : (loadVar 85 a).run Tryz.prog w = (load a).run Tryz.prog w := by kernel_rfl
theorem isNilEnvError (a p : Addr) (w : World) (h : w.cell? a = some (.pointer (some p))) : (callFunc 59 #[.agg #[.pointer (some ⟨13,85,none⟩),.pointer (some a),.int .u64 150]]).run Tryz.prog w = .ok (.value (.bool false)) w := by
  rw [@run_callFunc_extern Tryz.prog 59 _ (Extern.ReflectliteValue.method (Extern.ReflectliteValue.valueError "reflectlite.Value.IsNil" 0) Extern.ReflectliteValue.isNil) Tryz.func59 (by kernel_rfl) (by kernel_rfl) (by kernel_rfl) (by kernel_rfl)]
  have e : Extern.ReflectliteValue.method (Extern.ReflectliteValue.valueError "reflectlite.Value.IsNil" 0) Extern.ReflectliteValue.isNil #[.agg #[.pointer (some ⟨13,85,none⟩),.pointer (some a),.int .u64 150]] = (Extern.ReflectliteValue.parts (.agg #[.pointer (some ⟨13,85,none⟩),.pointer (some a),.int .u64 150]) >>= _) := rfl
  rw [e]
  simp [Extern.ReflectliteValue.isNil,partsEnvError,loadPPEnvError,h]
theorem rtElem (v : Value) (w : World) : (Go.method 502 229 v "Elem").run Tryz.prog w = .ok (247,v) w := by kernel_rfl
theorem rtImplements (v : Value) (w : World) : (Go.method 502 229 v "Implements").run Tryz.prog w = .ok (248,v) w := by kernel_rfl
theorem rtAssignableTo (v : Value) (w : World) : (Go.method 502 229 v "AssignableTo").run Tryz.prog w = .ok (245,v) w := by kernel_rfl
theorem typeOfSyntax (v : Value) (w : World) : (callFunc 61 #[.iface 81 v]).run Tryz.prog w = .ok (.value (.iface 229 (.agg #[.pointer (some ⟨13,81,none⟩)]))) w := by kernel_rfl
theorem noAsSyntax (v : Value) (xT : TypeId) (w : World) : (Instr.typeAssert (.iface 81 v) xT 233 true).run Tryz.prog w = .ok (.tuple #[.nilIface,.bool false]) w := run_typeAssert_lacksB Tryz.underlying233 (by kernel_rfl) (by kernel_rfl) v xT w
theorem noUnwrapSyntax (v : Value) (xT : TypeId) (w : World) : (Instr.typeAssert (.iface 81 v) xT 142 true).run Tryz.prog w = .ok (.tuple #[.nilIface,.bool false]) w := run_typeAssert_lacksB Tryz.underlying142 (by kernel_rfl) (by kernel_rfl) v xT w
theorem noUnwrapsSyntax (v : Value) (xT : TypeId) (w : World) : (Instr.typeAssert (.iface 81 v) xT 236 true).run Tryz.prog w = .ok (.tuple #[.nilIface,.bool false]) w := run_typeAssert_lacksB Tryz.underlying236 (by kernel_rfl) (by kernel_rfl) v xT w
theorem assignSyntaxSyntaxError (w : World) : (callFunc 245 #[.agg #[.pointer (some ⟨13,81,none⟩)],.iface 229 (.agg #[.pointer (some ⟨13,81,none⟩)])]).run Tryz.prog w = .ok (.value (.bool true)) w := by kernel_rfl
theorem assignSyntaxEnvError (w : World) : (callFunc 245 #[.agg #[.pointer (some ⟨13,81,none⟩)],.iface 229 (.agg #[.pointer (some ⟨13,83,none⟩)])]).run Tryz.prog w = .ok (.value (.bool false)) w := by kernel_rfl
theorem typeOfUnbound (v : Value) (w : World) : (callFunc 61 #[.iface 82 v]).run Tryz.prog w = .ok (.value (.iface 229 (.agg #[.pointer (some ⟨13,82,none⟩)]))) w := by kernel_rfl
theorem noAsUnbound (v : Value) (xT : TypeId) (w : World) : (Instr.typeAssert (.iface 82 v) xT 233 true).run Tryz.prog w = .ok (.tuple #[.nilIface,.bool false]) w := run_typeAssert_lacksB Tryz.underlying233 (by kernel_rfl) (by kernel_rfl) v xT w
theorem noUnwrapUnbound (v : Value) (xT : TypeId) (w : World) : (Instr.typeAssert (.iface 82 v) xT 142 true).run Tryz.prog w = .ok (.tuple #[.nilIface,.bool false]) w := run_typeAssert_lacksB Tryz.underlying142 (by kernel_rfl) (by kernel_rfl) v xT w
theorem noUnwrapsUnbound (v : Value) (xT : TypeId) (w : World) : (Instr.typeAssert (.iface 82 v) xT 236 true).run Tryz.prog w = .ok (.tuple #[.nilIface,.bool false]) w := run_typeAssert_lacksB Tryz.underlying236 (by kernel_rfl) (by kernel_rfl) v xT w
theorem assignUnboundSyntaxError (w : World) : (callFunc 245 #[.agg #[.pointer (some ⟨13,82,none⟩)],.iface 229 (.agg #[.pointer (some ⟨13,81,none⟩)])]).run Tryz.prog w = .ok (.value (.bool false)) w := by kernel_rfl
theorem assignUnboundUnboundError (w : World) : (callFunc 245 #[.agg #[.pointer (some ⟨13,82,none⟩)],.iface 229 (.agg #[.pointer (some ⟨13,82,none⟩)])]).run Tryz.prog w = .ok (.value (.bool true)) w := by kernel_rfl
theorem assignUnboundEnvError (w : World) : (callFunc 245 #[.agg #[.pointer (some ⟨13,82,none⟩)],.iface 229 (.agg #[.pointer (some ⟨13,83,none⟩)])]).run Tryz.prog w = .ok (.value (.bool false)) w := by kernel_rfl
theorem typeOfPlain (v : Value) (w : World) : (callFunc 61 #[.iface 372 v]).run Tryz.prog w = .ok (.value (.iface 229 (.agg #[.pointer (some ⟨13,372,none⟩)]))) w := by kernel_rfl
theorem noAsPlain (v : Value) (xT : TypeId) (w : World) : (Instr.typeAssert (.iface 372 v) xT 233 true).run Tryz.prog w = .ok (.tuple #[.nilIface,.bool false]) w := run_typeAssert_lacksB Tryz.underlying233 (by kernel_rfl) (by kernel_rfl) v xT w
theorem assignPlainSyntaxError (w : World) : (callFunc 245 #[.agg #[.pointer (some ⟨13,372,none⟩)],.iface 229 (.agg #[.pointer (some ⟨13,81,none⟩)])]).run Tryz.prog w = .ok (.value (.bool false)) w := by kernel_rfl
theorem assignPlainUnboundError (w : World) : (callFunc 245 #[.agg #[.pointer (some ⟨13,372,none⟩)],.iface 229 (.agg #[.pointer (some ⟨13,82,none⟩)])]).run Tryz.prog w = .ok (.value (.bool false)) w := by kernel_rfl
theorem assignPlainEnvError (w : World) : (callFunc 245 #[.agg #[.pointer (some ⟨13,372,none⟩)],.iface 229 (.agg #[.pointer (some ⟨13,83,none⟩)])]).run Tryz.prog w = .ok (.value (.bool false)) w := by kernel_rfl
end Go.Proofs.YtcdijppegfcoaabGreatDoor
