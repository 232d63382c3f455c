import Derived.Test.YtcdijppegfcoaaaGreatDoorZH00
import Derived.Stop.Asserts
import Derived.RowKitTokens
set_option linter.defProp false
set_option linter.unusedSimpArgs false
namespace Go.Proofs.YtcdijppegfcoaaaGreatDoor
open Go.RowKit Go.Extern.Stop Go.Stop Go.Extern Tryz
def fV:=@run_typeAssert_lacksB
theorem XX(v:Value)(w:World):(Extern.ReflectliteType.typeOf #[.iface 437 v]).run prog w= .ok (.iface 278 (.agg #[.pointer (some ⟨15,437,none⟩)])) w:=by kernel_rfl
theorem FV(w:World):((Extern.ReflectliteType.method λt=>do Extern.Rtype.noPackHeld "Comparable" t;Functor.map (λa=>Value.bool a.comparable) (typeInfo t)) #[.agg #[.pointer (some ⟨15,437,none⟩)]]).run prog w= .ok (.bool true) w:=by kernel_rfl
theorem tU(v:Value)(w:World):(Go.method 567 278 v "Comparable").run prog w= .ok (295,v) w:=by kernel_rfl
theorem Ad:(prog.info? 437).map (·.comparable)=some true:=by kernel_rfl
theorem Ae:(prog.info? 455).map (·.size)=some 1:=by kernel_rfl
theorem Ts(v:Value)(h:TypeId)(w:World):(Instr.typeAssert (.iface 437 v) h 288 true).run prog w= .ok (.tuple #[.nilIface, .bool false]) w:=fV underlying288 (by kernel_rfl) (by kernel_rfl) v h w
theorem BG(v:Value)(h:TypeId)(w:World):(Instr.typeAssert (.iface 437 v) h 230 true).run prog w= .ok (.tuple #[.nilIface, .bool false]) w:=fV underlying230 (by kernel_rfl) (by kernel_rfl) v h w
theorem y8(v:Value)(h:TypeId)(w:World):(Instr.typeAssert (.iface 437 v) h 285 true).run prog w= .ok (.tuple #[.nilIface, .bool false]) w:=fV underlying285 (by kernel_rfl) (by kernel_rfl) v h w
theorem Tt(v:Value)(h:TypeId)(w:World):(Instr.typeAssert (.iface 136 v) h 288 true).run prog w= .ok (.tuple #[.nilIface, .bool false]) w:=fV underlying288 (by kernel_rfl) (by kernel_rfl) v h w
theorem fi(v:Value)(h:TypeId)(w:World):(Instr.typeAssert (.iface 136 v) h 230 true).run prog w= .ok (.tuple #[.iface 136 v, .bool true]) w:=run_typeAssert_hasB underlying230 (by kernel_rfl) v h w
theorem VD(v:Value)(w:World):(Go.method 567 136 v "Unwrap").run prog w= .ok (288,v) w:=by kernel_rfl
theorem Ja(a:Addr)(w:World):
  Calls prog 72 #[.iface 437 (.pointer (some a)), .iface 437 (.pointer (some a))] w λe c=>e= .returned (.bool true)/\c=w:=by
 obtain⟨i,x,h⟩:=iU.1 Ad;obtain⟨j,b,k⟩:=iU.1 Ae;have f:= @fX prog 106 _ Extern.ReflectliteType.typeOf func106 (by kernel_rfl) (by kernel_rfl) (by kernel_rfl) (by kernel_rfl);have d:= @fX prog 295 _ (Extern.ReflectliteType.method λt=>do Extern.Rtype.noPackHeld "Comparable" t;pure (.bool (<-typeInfo t).comparable)) func295 (by kernel_rfl) (by kernel_rfl) (by kernel_rfl) (by kernel_rfl);have m:=XX;have cT:=FV;have l:=tU;have g:=run_eql_iface_ptr_same (P:=prog) w a underlying72 underlying437 x h b;go_enter func72,ntmps72;go_wp2;refine dX 1 ?_;rw[dH];go_wp2;go_ret;exact⟨rfl,rfl⟩
theorem Af(a b:Addr)(h x:Array Value)(n o:TypeId)(w:World)(m:a≠b)(c:w.heap[a.block]? =some (.cells h n (0,0)))(d:w.heap[b.block]? =some (.cells x o (0,0))):
  Calls prog 72 #[.iface 437 (.pointer (some a)), .iface 437 (.pointer (some b))] w λe p=>e= .returned (.bool false)/\p=w:=by
 obtain⟨i,g,f⟩:=iU.1 Ad;obtain⟨j,k,l⟩:=iU.1 Ae;have r:= @fX prog 106 _ Extern.ReflectliteType.typeOf func106 (by kernel_rfl) (by kernel_rfl) (by kernel_rfl) (by kernel_rfl);have q:= @fX prog 295 _ (Extern.ReflectliteType.method λt=>do Extern.Rtype.noPackHeld "Comparable" t;pure (.bool (<-typeInfo t).comparable)) func295 (by kernel_rfl) (by kernel_rfl) (by kernel_rfl) (by kernel_rfl);have A:=XX;have cT:=FV;have u:=tU;have y:=Ts;have C:=BG;have E:=y8;have z:=Tt;have D:=fi;have v:=VD;have s:=run_eql_iface_ptr_other (P:=prog) w underlying72 underlying437 g f k (by rw[l];decide) m c d;go_enter func72,ntmps72;go_wp2;refine dX 1 ?_;rw[dH];go_wp2;go_ret;exact⟨rfl,rfl⟩
end Go.Proofs.YtcdijppegfcoaaaGreatDoor
