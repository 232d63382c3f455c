import Derived.Test.YtcdijppegfcoaaaGreatDoorZH03
set_option linter.unusedSimpArgs false
namespace Go.Proofs.YtcdijppegfcoaaaGreatDoor
open Go.RowKit Go.Extern.Stop Go.Stop Go.Extern Tryz
@[reducible] def GD(h:TypeId)(e:Nat):Prop:=∀(p:Option Addr) (w:World),(callFunc 102 #[.iface h (.pointer p)]).run prog w= .ok (.value (.agg #[.pointer (some ⟨15,e,none⟩), .pointer (some ⟨w.heap.size,0,none⟩), .int .u64 150])) (w.alloc (.cells #[.pointer p] h))
theorem pB:GD 143 143:=λ_ _=>by kernel_rfl
theorem zG:GD 134 134:=λ_ _=>by kernel_rfl
@[reducible] def VJ(h:Nat):Prop:=∀(a:Addr) (w:World),(callFunc 103 #[.agg #[.pointer (some ⟨15,h,none⟩), .pointer (some a), .int .u64 150]]).run prog w= .ok (.value (.iface 278 (.agg #[.pointer (some ⟨15,h,none⟩)]))) w
theorem pC:VJ 143:=λ_ _=>by kernel_rfl
@[reducible] def BI(h:Nat):Prop:=∀(w:World),(Go.method 567 278 (.agg #[.pointer (some ⟨15,h,none⟩)]) "Kind").run prog w= .ok (282, .pointer (some ⟨15,h,none⟩)) w
theorem rG:BI 143:=λ_=>by kernel_rfl
@[reducible] def BJ(h:Nat):Prop:=∀(w:World),(callFunc 282 #[.pointer (some ⟨15,h,none⟩)]).run prog w= .ok (.value (.int .u8 22)) w
theorem sU:BJ 143:=λ_=>by kernel_rfl
theorem qA:BI 134:=λ_=>by kernel_rfl
theorem rH:BJ 134:=λ_=>by kernel_rfl
@[reducible] def VK(h:Nat)(e:Nat):Prop:=∀(w:World),(callFunc 296 #[.agg #[.pointer (some ⟨15,h,none⟩)]]).run prog w= .ok (.value (.iface 278 (.agg #[.pointer (some ⟨15,e,none⟩)]))) w
theorem qB:VK 143 134:=λ_=>by kernel_rfl
@[reducible] def GF(h:FuncId)(e:Nat)(x:Nat):Prop:=∀(w:World),(callFunc h #[.agg #[.pointer (some ⟨15,e,none⟩)], .iface 278 (.agg #[.pointer (some ⟨15,x,none⟩)])]).run prog w= .ok (.value (.bool true)) w
theorem qC:GF 297 134 72:=λ_=>by kernel_rfl
@[reducible] def GG(h:Nat)(e:TypeId):Prop:=∀(a:Addr) (w:World),(Extern.ReflectliteValue.parts (.agg #[.pointer (some ⟨15,h,none⟩), .pointer (some a), .int .u64 150])).run prog w= .ok (some (e,a,150)) w
theorem xC:GG 143 143:=λ_ _=>by kernel_rfl
theorem GH(p:Addr)(w:World):(Extern.ReflectliteValue.parts (.agg #[.pointer (some ⟨15,134,none⟩), .pointer (some p), .int .u64 406])).run prog w= .ok (some (134,p,406)) w:=by kernel_rfl
theorem GI:GG 134 134:=λ_ _=>by kernel_rfl
@[reducible] def GJ(h:TypeId):Prop:=∀(a:Addr) (w:World),(loadVar h a).run prog w=(load a).run prog w
theorem vD:GJ 143:=λ_ _=>by kernel_rfl
theorem JO:GJ 134:=λ_ _=>by kernel_rfl
theorem JP(w:World):(Extern.Rtype.elem? 143).run prog w= .ok (some 134) w:=by kernel_rfl
theorem SL(p:Addr)(w:World):(Extern.ReflectliteValue.mk 134 p Extern.ReflectliteValue.flagAddr).run prog w= .ok (.agg #[.pointer (some ⟨15,134,none⟩), .pointer (some p), .int .u64 406]) w:=by kernel_rfl
theorem GK(w:World):(Extern.Rtype.directlyAssignable 134 134).run prog w= .ok true w:=by kernel_rfl
theorem DC(p:Addr)(q:Option Addr)(w:World):(storeVar 134 p (.pointer q)).run prog w=(storeCells p [.pointer q]).run prog w:=by kernel_rfl
theorem rI(a p:Addr)(w:World)(h:w.cell? a=some (.pointer (some p))):(callFunc 104 #[.agg #[.pointer (some ⟨15,143,none⟩), .pointer (some a), .int .u64 150]]).run prog w= .ok (.value (.bool false)) w:=by rw[@fX prog 104 _ (Extern.ReflectliteValue.method (Extern.ReflectliteValue.valueError "reflectlite.Value.IsNil" 0) Extern.ReflectliteValue.isNil) func104 (by kernel_rfl) (by kernel_rfl) (by kernel_rfl) (by kernel_rfl)];have e:Extern.ReflectliteValue.method (Extern.ReflectliteValue.valueError "reflectlite.Value.IsNil" 0) Extern.ReflectliteValue.isNil #[.agg #[.pointer (some ⟨15,143,none⟩), .pointer (some a), .int .u64 150]]=(Extern.ReflectliteValue.parts (.agg #[.pointer (some ⟨15,143,none⟩), .pointer (some a), .int .u64 150])>>=_):=rfl;rw[e];simp[Extern.ReflectliteValue.isNil,xC,vD,h]
theorem MK(a p:Addr)(w:World)(h:w.cell? a=some (.pointer (some p))):(callFunc 139 #[.agg #[.pointer (some ⟨15,143,none⟩), .pointer (some a), .int .u64 150]]).run prog w= .ok (.value (.agg #[.pointer (some ⟨15,134,none⟩), .pointer (some p), .int .u64 406])) w:=by rw[@fX prog 139 _ (Extern.ReflectliteValue.method (Extern.ReflectliteValue.valueError "reflectlite.Value.Elem" 0) Extern.ReflectliteValue.elem) func139 (by kernel_rfl) (by kernel_rfl) (by kernel_rfl) (by kernel_rfl)];have e:Extern.ReflectliteValue.method (Extern.ReflectliteValue.valueError "reflectlite.Value.Elem" 0) Extern.ReflectliteValue.elem #[.agg #[.pointer (some ⟨15,143,none⟩), .pointer (some a), .int .u64 150]]=(Extern.ReflectliteValue.parts (.agg #[.pointer (some ⟨15,143,none⟩), .pointer (some a), .int .u64 150])>>=_):=rfl;rw[e];simp[Extern.ReflectliteValue.elem,xC,vD,h,JP,SL]
theorem OO(p a:Addr)(q:Option Addr)(d:Value)(w:World)(h:w.cell? a=some (.pointer q))(b:w.cell? p=some d)(x:w.frozen? p=false):(callFunc 140 #[.agg #[.pointer (some ⟨15,134,none⟩), .pointer (some p), .int .u64 406], .agg #[.pointer (some ⟨15,134,none⟩), .pointer (some a), .int .u64 150]]).run prog w= .ok (.value (.tuple #[])) (w.setCell p (.pointer q)):=by rw[@fX prog 140 _ Extern.ReflectliteValue.set func140 (by kernel_rfl) (by kernel_rfl) (by kernel_rfl) (by kernel_rfl)];have e:Extern.ReflectliteValue.set #[.agg #[.pointer (some ⟨15,134,none⟩), .pointer (some p), .int .u64 406], .agg #[.pointer (some ⟨15,134,none⟩), .pointer (some a), .int .u64 150]]=(Extern.ReflectliteValue.parts (.agg #[.pointer (some ⟨15,134,none⟩), .pointer (some p), .int .u64 406])>>=λ_=>Extern.ReflectliteValue.parts (.agg #[.pointer (some ⟨15,134,none⟩), .pointer (some a), .int .u64 150])>>=λ_=>_):=rfl;have c:=λm=>run_store prog w p (.pointer q) m rfl;rw[e];simp[GH,GI,GK,JO,h,DC,storeCells,Extern.ReflectliteValue.flagAddr,Addr.add,c,b,x]
theorem sY:GD 146 146:=λ_ _=>by kernel_rfl
theorem yB:GD 135 135:=λ_ _=>by kernel_rfl
theorem sZ:VJ 146:=λ_ _=>by kernel_rfl
theorem vF:BI 146:=λ_=>by kernel_rfl
theorem xD:BJ 146:=λ_=>by kernel_rfl
theorem tZ:BI 135:=λ_=>by kernel_rfl
theorem vG:BJ 135:=λ_=>by kernel_rfl
theorem u9:VK 146 135:=λ_=>by kernel_rfl
theorem uA:GF 297 135 72:=λ_=>by kernel_rfl
theorem vH:GG 146 146:=λ_ _=>by kernel_rfl
theorem DV(p:Addr)(w:World):(Extern.ReflectliteValue.parts (.agg #[.pointer (some ⟨15,135,none⟩), .pointer (some p), .int .u64 406])).run prog w= .ok (some (135,p,406)) w:=by kernel_rfl
theorem DX:GG 135 135:=λ_ _=>by kernel_rfl
theorem uB:GJ 146:=λ_ _=>by kernel_rfl
theorem GO:GJ 135:=λ_ _=>by kernel_rfl
theorem GQ(w:World):(Extern.Rtype.elem? 146).run prog w= .ok (some 135) w:=by kernel_rfl
theorem OP(p:Addr)(w:World):(Extern.ReflectliteValue.mk 135 p Extern.ReflectliteValue.flagAddr).run prog w= .ok (.agg #[.pointer (some ⟨15,135,none⟩), .pointer (some p), .int .u64 406]) w:=by kernel_rfl
theorem DY(w:World):(Extern.Rtype.directlyAssignable 135 135).run prog w= .ok true w:=by kernel_rfl
theorem A9(p:Addr)(q:Option Addr)(w:World):(storeVar 135 p (.pointer q)).run prog w=(storeCells p [.pointer q]).run prog w:=by kernel_rfl
theorem vI(a p:Addr)(w:World)(h:w.cell? a=some (.pointer (some p))):(callFunc 104 #[.agg #[.pointer (some ⟨15,146,none⟩), .pointer (some a), .int .u64 150]]).run prog w= .ok (.value (.bool false)) w:=by rw[@fX prog 104 _ (Extern.ReflectliteValue.method (Extern.ReflectliteValue.valueError "reflectlite.Value.IsNil" 0) Extern.ReflectliteValue.isNil) func104 (by kernel_rfl) (by kernel_rfl) (by kernel_rfl) (by kernel_rfl)];have e:Extern.ReflectliteValue.method (Extern.ReflectliteValue.valueError "reflectlite.Value.IsNil" 0) Extern.ReflectliteValue.isNil #[.agg #[.pointer (some ⟨15,146,none⟩), .pointer (some a), .int .u64 150]]=(Extern.ReflectliteValue.parts (.agg #[.pointer (some ⟨15,146,none⟩), .pointer (some a), .int .u64 150])>>=_):=rfl;rw[e];simp[Extern.ReflectliteValue.isNil,vH,uB,h]
theorem JQ(a p:Addr)(w:World)(h:w.cell? a=some (.pointer (some p))):(callFunc 139 #[.agg #[.pointer (some ⟨15,146,none⟩), .pointer (some a), .int .u64 150]]).run prog w= .ok (.value (.agg #[.pointer (some ⟨15,135,none⟩), .pointer (some p), .int .u64 406])) w:=by rw[@fX prog 139 _ (Extern.ReflectliteValue.method (Extern.ReflectliteValue.valueError "reflectlite.Value.Elem" 0) Extern.ReflectliteValue.elem) func139 (by kernel_rfl) (by kernel_rfl) (by kernel_rfl) (by kernel_rfl)];have e:Extern.ReflectliteValue.method (Extern.ReflectliteValue.valueError "reflectlite.Value.Elem" 0) Extern.ReflectliteValue.elem #[.agg #[.pointer (some ⟨15,146,none⟩), .pointer (some a), .int .u64 150]]=(Extern.ReflectliteValue.parts (.agg #[.pointer (some ⟨15,146,none⟩), .pointer (some a), .int .u64 150])>>=_):=rfl;rw[e];simp[Extern.ReflectliteValue.elem,vH,uB,h,GQ,OP]
theorem ML(p a:Addr)(q:Option Addr)(d:Value)(w:World)(h:w.cell? a=some (.pointer q))(b:w.cell? p=some d)(x:w.frozen? p=false):(callFunc 140 #[.agg #[.pointer (some ⟨15,135,none⟩), .pointer (some p), .int .u64 406], .agg #[.pointer (some ⟨15,135,none⟩), .pointer (some a), .int .u64 150]]).run prog w= .ok (.value (.tuple #[])) (w.setCell p (.pointer q)):=by rw[@fX prog 140 _ Extern.ReflectliteValue.set func140 (by kernel_rfl) (by kernel_rfl) (by kernel_rfl) (by kernel_rfl)];have e:Extern.ReflectliteValue.set #[.agg #[.pointer (some ⟨15,135,none⟩), .pointer (some p), .int .u64 406], .agg #[.pointer (some ⟨15,135,none⟩), .pointer (some a), .int .u64 150]]=(Extern.ReflectliteValue.parts (.agg #[.pointer (some ⟨15,135,none⟩), .pointer (some p), .int .u64 406])>>=λ_=>Extern.ReflectliteValue.parts (.agg #[.pointer (some ⟨15,135,none⟩), .pointer (some a), .int .u64 150])>>=λ_=>_):=rfl;have c:=λm=>run_store prog w p (.pointer q) m rfl;rw[e];simp[DV,DX,DY,GO,h,A9,storeCells,Extern.ReflectliteValue.flagAddr,Addr.add,c,b,x]
theorem sV:GD 138 138:=λ_ _=>by kernel_rfl
theorem sW:VJ 138:=λ_ _=>by kernel_rfl
theorem vW:BI 138:=λ_=>by kernel_rfl
theorem yC:BJ 138:=λ_=>by kernel_rfl
theorem uC:BI 136:=λ_=>by kernel_rfl
theorem vX:BJ 136:=λ_=>by kernel_rfl
theorem uD:VK 138 136:=λ_=>by kernel_rfl
theorem uF:GF 297 136 72:=λ_=>by kernel_rfl
theorem SM:GG 138 138:=λ_ _=>by kernel_rfl
theorem OQ:GJ 138:=λ_ _=>by kernel_rfl
theorem vY(a p:Addr)(w:World)(h:w.cell? a=some (.pointer (some p))):(callFunc 104 #[.agg #[.pointer (some ⟨15,138,none⟩), .pointer (some a), .int .u64 150]]).run prog w= .ok (.value (.bool false)) w:=by rw[@fX prog 104 _ (Extern.ReflectliteValue.method (Extern.ReflectliteValue.valueError "reflectlite.Value.IsNil" 0) Extern.ReflectliteValue.isNil) func104 (by kernel_rfl) (by kernel_rfl) (by kernel_rfl) (by kernel_rfl)];have e:Extern.ReflectliteValue.method (Extern.ReflectliteValue.valueError "reflectlite.Value.IsNil" 0) Extern.ReflectliteValue.isNil #[.agg #[.pointer (some ⟨15,138,none⟩), .pointer (some a), .int .u64 150]]=(Extern.ReflectliteValue.parts (.agg #[.pointer (some ⟨15,138,none⟩), .pointer (some a), .int .u64 150])>>=_):=rfl;rw[e];simp[Extern.ReflectliteValue.isNil,SM,OQ,h]
theorem AD(v:Value)(w:World):(Go.method 567 278 v "Elem").run prog w= .ok (296,v) w:=by kernel_rfl
theorem lK(v:Value)(w:World):(Go.method 567 278 v "Implements").run prog w= .ok (297,v) w:=by kernel_rfl
theorem jY(v:Value)(w:World):(Go.method 567 278 v "AssignableTo").run prog w= .ok (294,v) w:=by kernel_rfl
@[reducible] def VL(h:TypeId)(e:Nat):Prop:=∀(v:Value) (w:World),(callFunc 106 #[.iface h v]).run prog w= .ok (.value (.iface 278 (.agg #[.pointer (some ⟨15,e,none⟩)]))) w
theorem GU:VL 134 134:=λ_ _=>by kernel_rfl
theorem fu(v:Value)(h:TypeId)(w:World):(Instr.typeAssert (.iface 134 v) h 282 true).run prog w= .ok (.tuple #[.nilIface, .bool false]) w:=fV underlying282 (by kernel_rfl) (by kernel_rfl) v h w
theorem OR(v:Value)(h:TypeId)(w:World):(Instr.typeAssert (.iface 134 v) h 230 true).run prog w= .ok (.tuple #[.nilIface, .bool false]) w:=fV underlying230 (by kernel_rfl) (by kernel_rfl) v h w
theorem MN(v:Value)(h:TypeId)(w:World):(Instr.typeAssert (.iface 134 v) h 285 true).run prog w= .ok (.tuple #[.nilIface, .bool false]) w:=fV underlying285 (by kernel_rfl) (by kernel_rfl) v h w
theorem xF:GF 294 134 134:=λ_=>by kernel_rfl
@[reducible] def BL(h:Nat)(e:Nat):Prop:=∀(w:World),(callFunc 294 #[.agg #[.pointer (some ⟨15,h,none⟩)], .iface 278 (.agg #[.pointer (some ⟨15,e,none⟩)])]).run prog w= .ok (.value (.bool false)) w
theorem AE:BL 134 136:=λ_=>by kernel_rfl
theorem vZ:VL 135 135:=λ_ _=>by kernel_rfl
theorem LB(v:Value)(h:TypeId)(w:World):(Instr.typeAssert (.iface 135 v) h 282 true).run prog w= .ok (.tuple #[.nilIface, .bool false]) w:=fV underlying282 (by kernel_rfl) (by kernel_rfl) v h w
theorem zC(v:Value)(h:TypeId)(w:World):(Instr.typeAssert (.iface 135 v) h 230 true).run prog w= .ok (.tuple #[.nilIface, .bool false]) w:=fV underlying230 (by kernel_rfl) (by kernel_rfl) v h w
theorem xG(v:Value)(h:TypeId)(w:World):(Instr.typeAssert (.iface 135 v) h 285 true).run prog w= .ok (.tuple #[.nilIface, .bool false]) w:=fV underlying285 (by kernel_rfl) (by kernel_rfl) v h w
theorem wB:BL 135 134:=λ_=>by kernel_rfl
theorem uY:GF 294 135 135:=λ_=>by kernel_rfl
theorem zH:BL 135 136:=λ_=>by kernel_rfl
theorem AF:VL 437 437:=λ_ _=>by kernel_rfl
theorem JR(v:Value)(h:TypeId)(w:World):(Instr.typeAssert (.iface 437 v) h 282 true).run prog w= .ok (.tuple #[.nilIface, .bool false]) w:=fV underlying282 (by kernel_rfl) (by kernel_rfl) v h w
theorem yD:BL 437 134:=λ_=>by kernel_rfl
theorem xH:BL 437 135:=λ_=>by kernel_rfl
theorem DD:BL 437 136:=λ_=>by kernel_rfl
end Go.Proofs.YtcdijppegfcoaaaGreatDoor
