import Derived.Test.YtcdijppegfcoaaaGreatDoorChecked
import Derived.WalkSpells
import Derived.BigQuiet
import Derived.Deep.LoopGhost
import Derived.Deep.RegionWith
set_option linter.defProp false
set_option linter.unusedSimpArgs false
namespace Go.Proofs.YtcdijppegfcoaaaGreatDoor
open Go.RowKit Tryz
@[reducible] def aA:=List UInt8
@[reducible] def aB:=Nat->Option Obj
@[reducible] def aC:=List Nat
@[reducible] def aD:=List aA
@[reducible] def aE:=Nat->Array Value
@[reducible] def aF:=Nat->Addr
@[reducible] def aG:=Nat->TypeId
@[reducible] def aH:=List Value
@[reducible] def aI:=Nat->Nat
@[reducible] def aJ:=List (aA×Nat)
@[reducible] def aK:=List (Option aA)
def aL:=@And.intro
def aM:=@Or.inr
def aN:=@if_neg
def aO:=@World.grownBy_alloc
def aP:=@List.getElem?_eq_getElem
def aQ:=@Or.inl
def aR:=@if_pos
def aT:=@lt_of_block
def aU:=@List.getElem?_eq_some_iff
def aV:=@Nat.le_refl
def aW:=@List.getD_eq_getElem?_getD
def aY:=@Option.some.inj
def aZ:=@Nat.lt_of_lt_of_le
def bC:=@World.grownBy.refl
def bD:=@List.length_append
def bE:=@List.mem_cons_of_mem
def bF:=@List.mem_singleton
def bG:=@List.mem_cons_self
def bH:=@List.mem_cons
def bJ:=@List.getElem?_append_left
def bN:=@decide_eq_false
def bO:=@Below.heap_setCell
def bQ:=@Below.heap_alloc
def bT:=@World.cell?_of_block
def bU:=@List.length_cons
def bV:=@Nat.le_trans
def bW:=@List.getElem?_eq_none
def bY:=@heap_alloc_new
def bZ:=@Nat.lt_or_ge
def cB:=@List.length_nil
def cD:=@List.getElem?_append_right
def cE:=@List.not_mem_nil
def cG:=@List.map_cons
def cH:=@List.mem_append
def cK:=@List.mem_of_getElem?
def cO:=@List.drop_eq_getElem_cons
def cX:=@decide_eq_true_eq
def cY:=@Bool.and_eq_true
def dD:=@List.prefix_refl
def dE:=@decide_eq_true
def dF:=@List.map_congr_left
def dG:=@Nat.zero_le
def dH:=@rounds_succ
def dK:=@Option.some.injEq
def dN:=@Array.getElem?_modify
def dV:=@beq_eq_false_iff_ne
def dX:=@wp_loop_rounds
def eC:=@congrArg
def eH:=@Array.length_toList
def eJ:=@List.getElem?_drop
def eK:=@or_false
def eM:=@World.cell?_alloc_past
def eN:=@bodyPost_ret
def eR:=@List.map_append
def eV:=@List.mem_range
def eY:=@List.getElem?_concat_length
def fD:=@List.foldl_cons
def fE:=@List.map_nil
def fF:=@List.mem_map
def fG:=@List.sum_cons
def fM:=@List.length_map
def fO:=@World.grownBy.trans
def fX:=@run_callFunc_extern
def gD:=@List.getElem?_take
def gH:=@List.mem_map_of_mem
def gI:=@Nat.le_max_left
def gJ:=@Nat.le_max_right
def gK:=@List.length_take
def gU:=@Prod.mk.injEq
def iC:=@List.getElem?_take_of_lt
def iD:=@beq_self_eq_true
def iF:=@World.frozen?_alloc_past
def iG:=@List.idxOf_lt_length_of_mem
def iH:=@List.getElem?_map
def iI:=@List.take_add_one
def iJ:=@List.getElem?_inj
def iN:=@List.prefix_append
def iU:=@Option.map_eq_some_iff
def iV:=@List.take_of_length_le
def iW:=@List.drop_eq_nil_of_le
def jA:=@List.append_assoc
def jB:=@of_decide_eq_true
def jI:=@Option.map_some
def jJ:=@Nat.zero_add
def jM:=@List.mem_iff_getElem
def jW:=@Nat.le_of_lt
def jX:=@List.nodup_append
def kK:=@List.take_length
def kU:=@Ne.symm
def kW:=@Nat.le_zero
def kX:=@List.mem_append_left
def kY:=@List.foldl_nil
def l8:=@Bool.or_eq_true
def lE:=@World.ownsRow_nil
def lQ:=@List.cons_append
def lR:=@List.drop_length
def lS:=@List.all_eq_true
def mH:=@List.range_succ
def mI:=@List.cons.injEq
def mJ:=@List.idxOf_append
def mK:=@List.getElem?_set
def nC:=@List.getElem?_cons_succ
def o0:=@Bool.false_eq_true
def o9:=@List.map_map
def oH:=@List.sum_append
def oI:=@List.idxOf_cons
def oJ:=@Option.map_none
def oK:=@Nat.min_eq_left
def oL:=@List.nil_append
def oR:=@info_parts
def p8:=@List.take_append_drop
def qP:=@List.length_drop
def qQ:=@List.sum_nil
def qR:=@Option.getD_some
def qS:=@Nat.lt_succ_self
def qT:=@Nat.add_comm
def qU:=@Nat.le_add_right
def qZ:=@List.length_pos_iff
def rX:=@Nat.add_assoc
def sP:=@List.find?_cons
def sQ:=@beq_iff_eq
def sS:=@Nat.add_sub_cancel
def tH:=@Array.getElem?_eq_none
def tI:=@leaves_cons
def tJ:=@Nat.lt_trichotomy
def vR:=@Option.getD_none
def vS:=@List.getElem_mem
def vU:=@Nat.succ_le_succ
def wQ:=@List.getElem?_of_mem
def wR:=@and_true
def wU:=@Array.replicate_succ
def wV:=@Array.replicate_zero
def xW:=@callsD_of_wpS
def xX:=@List.nodup_cons
def yZ:=@List.take_succ_cons
def z6:=@List.append_toArray
def zM:=@Option.isSome_some
def zO:=@Option.isSome_none
def zQ:=@UInt8.toNat_ofNat'
def D9:=@Classical.byContradiction
def DE:=@List.size_toArray
def DF:=@List.push_toArray
def DQ:=@List.take_append_getElem
def FG:=@decide_eq_false_iff_not
def FH:=@cell_of_row
def FI:=@Nat.zero_lt_succ
def FJ:=@List.getElem?_cons_zero
def JE:=@Nat.mod_lt
def JF:=@Nat.le_total
def KV:=@List.append_nil
def MH:=@Below.refl
def MI:=@List.length_mergeSort
def MV:=@wpS_region
def MW:=@results_none
def O7:=@Prod.mk.inj
def O8:=@Bool.or_eq_false_iff
def O9:=@List.dropLast_concat
def V8:=@wpS_of_wp
def V9:=@List.find?_eq_none
def XL:=@if_false
def XM:=@List.foldl_append
def XN:=@Nat.add_zero
def XO:=@List.length_range
def dx:=@World.ownsMap_made
def ee:=@List.Nodup.length_le_of_subset
def eh:=@List.filter_cons
def mu:=@Nat.le_succ
def ua:=@beq_false_of_ne
def ub:=@List.dropLast_concat_getLast
def zn:=@List.drop_take
def zo:=@List.drop_zero
def zq:=@List.drop_drop
def zt:=@List.nodup_iff_pairwise_ne
def zv:=@List.nodup_nil
variable{H:Nat->Option Obj}
@[reducible] def mA(u s t:TypeId):Prop:=∀(b:Nat) (w:World),(Instr.typeAssert (.iface u (.pointer (some ⟨b,0,none⟩))) s t true).run prog w= .ok (.tuple #[.pointer none, .bool false]) w
@[reducible] def mw(u s t:TypeId):Prop:=∀(b:Nat) (w:World),(Instr.typeAssert (.iface u (.pointer (some ⟨b,0,none⟩))) s t true).run prog w= .ok (.tuple #[.pointer (some ⟨b,0,none⟩), .bool true]) w
theorem mB:mw 265 156 265:=λ_ _=>by kernel_rfl
theorem OA:mA 265 156 309:=λ_ _=>by kernel_rfl
theorem xY:mA 265 156 346:=λ_ _=>by kernel_rfl
theorem KW:mA 265 156 349:=λ_ _=>by kernel_rfl
theorem L0:mA 265 156 361:=λ_ _=>by kernel_rfl
theorem xZ:mA 265 156 291:=λ_ _=>by kernel_rfl
theorem r8:mA 309 156 265:=λ_ _=>by kernel_rfl
theorem rC:mw 309 156 309:=λ_ _=>by kernel_rfl
theorem zR:mA 309 156 346:=λ_ _=>by kernel_rfl
theorem ep:mA 309 156 349:=λ_ _=>by kernel_rfl
theorem fc:mA 309 156 361:=λ_ _=>by kernel_rfl
theorem L3:mA 309 156 291:=λ_ _=>by kernel_rfl
theorem pV:mA 346 156 265:=λ_ _=>by kernel_rfl
theorem v7:mA 346 156 309:=λ_ _=>by kernel_rfl
theorem kO:mw 346 156 346:=λ_ _=>by kernel_rfl
theorem FK:mA 346 156 349:=λ_ _=>by kernel_rfl
theorem FL:mA 346 156 361:=λ_ _=>by kernel_rfl
theorem vV:mA 346 156 291:=λ_ _=>by kernel_rfl
theorem pF:mA 349 156 265:=λ_ _=>by kernel_rfl
theorem tK:mA 349 156 309:=λ_ _=>by kernel_rfl
theorem lF:mA 349 156 346:=λ_ _=>by kernel_rfl
theorem lG:mw 349 156 349:=λ_ _=>by kernel_rfl
theorem XP:mA 349 156 361:=λ_ _=>by kernel_rfl
theorem FN:mA 349 156 291:=λ_ _=>by kernel_rfl
theorem pG:mA 361 156 265:=λ_ _=>by kernel_rfl
theorem tM:mA 361 156 309:=λ_ _=>by kernel_rfl
theorem lH:mA 361 156 346:=λ_ _=>by kernel_rfl
theorem lI:mA 361 156 349:=λ_ _=>by kernel_rfl
theorem lJ:mw 361 156 361:=λ_ _=>by kernel_rfl
theorem FP:mA 361 156 291:=λ_ _=>by kernel_rfl
theorem nK:mA 291 156 265:=λ_ _=>by kernel_rfl
theorem rY:mA 291 156 309:=λ_ _=>by kernel_rfl
theorem kP:mA 291 156 346:=λ_ _=>by kernel_rfl
theorem kL:mA 291 156 349:=λ_ _=>by kernel_rfl
theorem kM:mA 291 156 361:=λ_ _=>by kernel_rfl
theorem jC:mw 291 156 291:=λ_ _=>by kernel_rfl
theorem N4:mA 191 130 186:=λ_ _=>by kernel_rfl
theorem fd:mA 191 130 194:=λ_ _=>by kernel_rfl
theorem zx:mA 191 130 197:=λ_ _=>by kernel_rfl
theorem fe:mA 191 130 200:=λ_ _=>by kernel_rfl
theorem JG:mA 191 130 206:=λ_ _=>by kernel_rfl
theorem XQ:mA 191 130 211:=λ_ _=>by kernel_rfl
theorem VA:mA 191 130 214:=λ_ _=>by kernel_rfl
theorem t7:mw 186 130 186:=λ_ _=>by kernel_rfl
theorem OB:mA 186 130 191:=λ_ _=>by kernel_rfl
theorem XR:mA 186 130 194:=λ_ _=>by kernel_rfl
theorem ff:mA 186 130 197:=λ_ _=>by kernel_rfl
theorem XS:mA 186 130 200:=λ_ _=>by kernel_rfl
theorem OC:mA 186 130 206:=λ_ _=>by kernel_rfl
theorem VB:mA 186 130 214:=λ_ _=>by kernel_rfl
theorem wW:mw 191 130 191:=λ_ _=>by kernel_rfl
theorem vA:mA 194 130 186:=λ_ _=>by kernel_rfl
theorem DH:mA 194 130 191:=λ_ _=>by kernel_rfl
theorem y7:mw 194 130 194:=λ_ _=>by kernel_rfl
theorem uc:mA 194 130 197:=λ_ _=>by kernel_rfl
theorem fg:mA 194 130 200:=λ_ _=>by kernel_rfl
theorem SF:mA 194 130 206:=λ_ _=>by kernel_rfl
theorem XT:mA 194 130 214:=λ_ _=>by kernel_rfl
theorem tN:mA 197 130 186:=λ_ _=>by kernel_rfl
theorem FQ:mA 197 130 191:=λ_ _=>by kernel_rfl
theorem wY:mA 197 130 194:=λ_ _=>by kernel_rfl
theorem zS:mw 197 130 197:=λ_ _=>by kernel_rfl
theorem ud:mA 197 130 200:=λ_ _=>by kernel_rfl
theorem VC:mA 197 130 206:=λ_ _=>by kernel_rfl
theorem fh:mA 197 130 214:=λ_ _=>by kernel_rfl
theorem rZ:mA 200 130 186:=λ_ _=>by kernel_rfl
theorem DI:mA 200 130 191:=λ_ _=>by kernel_rfl
theorem tO:mA 200 130 194:=λ_ _=>by kernel_rfl
theorem wZ:mA 200 130 197:=λ_ _=>by kernel_rfl
theorem tQ:mw 200 130 200:=λ_ _=>by kernel_rfl
theorem SG:mA 200 130 206:=λ_ _=>by kernel_rfl
theorem XU:mA 200 130 214:=λ_ _=>by kernel_rfl
theorem lV:mA 206 130 186:=λ_ _=>by kernel_rfl
theorem x8:mA 206 130 191:=λ_ _=>by kernel_rfl
theorem mO:mA 206 130 194:=λ_ _=>by kernel_rfl
theorem nL:mA 206 130 197:=λ_ _=>by kernel_rfl
theorem mP:mA 206 130 200:=λ_ _=>by kernel_rfl
theorem kV:mw 206 130 206:=λ_ _=>by kernel_rfl
theorem OD:mA 206 130 214:=λ_ _=>by kernel_rfl
theorem rR:mA 211 130 186:=λ_ _=>by kernel_rfl
theorem zA:mA 211 130 191:=λ_ _=>by kernel_rfl
theorem t8:mA 211 130 194:=λ_ _=>by kernel_rfl
theorem vB:mA 211 130 197:=λ_ _=>by kernel_rfl
theorem tC:mA 211 130 200:=λ_ _=>by kernel_rfl
theorem oS:mA 211 130 206:=λ_ _=>by kernel_rfl
theorem tS:mw 211 130 211:=λ_ _=>by kernel_rfl
theorem SI:mA 211 130 214:=λ_ _=>by kernel_rfl
theorem nM:mA 214 130 186:=λ_ _=>by kernel_rfl
theorem zT:mA 214 130 191:=λ_ _=>by kernel_rfl
theorem pH:mA 214 130 194:=λ_ _=>by kernel_rfl
theorem rD:mA 214 130 197:=λ_ _=>by kernel_rfl
theorem pI:mA 214 130 200:=λ_ _=>by kernel_rfl
theorem lW:mA 214 130 206:=λ_ _=>by kernel_rfl
theorem oM:mA 214 130 211:=λ_ _=>by kernel_rfl
theorem nN:mw 214 130 214:=λ_ _=>by kernel_rfl
theorem aS{p:Prop}(h:p):Hid p:=h
def mS(c:UInt8):Bool:=c==32||c==10
def low(c:UInt8):Bool:=decide (97<=c.toNat/\c.toNat<=122)
def qO(c:UInt8):Bool:=decide (48<=c.toNat/\c.toNat<=57)
def eI(c:UInt8):Bool:=low c||qO c
def run(p:UInt8->Bool)(l:aA):Nat:=(l.takeWhile p).length
theorem OE(p:UInt8->Bool):∀l:aA,run p l<=l.length
 |[]=>by simp[run]
 |c::l=>by have:=OE p l;unfold run at this⊢;by_cases h:p c=true<;>simp[h]<;>omega
theorem OG(p:UInt8->Bool):∀(l:aA) (m:Nat),m<run p l->∃c,l[m]? =some c/\p c=true
 |[],m,h=>by simp[run]at h
 |c::l,m,h=>by
  unfold run at h;by_cases e:p c=true
  ·simp[e]at h
   cases m with
   |zero=>exact⟨c,rfl,e⟩
   |succ m=>exact OG p l m (by unfold run;omega)
  ·simp[e]at h
theorem FU(p:UInt8->Bool):∀(l:aA) (c:UInt8),l[run p l]? =some c->p c=false
 |[],c,h=>by simp[run]at h
 |d::l,c,h=>by
  by_cases w:p d=true
  ·have e:run p (d::l)=run p l+1:=by simp[run,w]
   rw[e,nC]at h;exact FU p l c h
  ·have e:run p (d::l)=0:=by simp[run,w]
   rw[e]at h;simp at h;subst h;simpa using w
def upto(p:UInt8->Bool)(l:aA)(i:Nat):Nat:=i+run p (l.drop i)
theorem kN(p:UInt8->Bool)(l:aA)(i:Nat)(h:i<=l.length):i<=upto p l i/\upto p l i<=l.length:=by have:=OE p (l.drop i);simp only[qP]at this;unfold upto;omega
theorem my(p:UInt8->Bool)(l:aA)(i k:Nat)(x:i<=k)(e:k<upto p l i):∃c,l[k]? =some c/\p c=true:=by unfold upto at e;obtain⟨c,h,w⟩:=OG p (l.drop i) (k-i) (by omega);refine⟨c, ?_,w⟩;rw[eJ]at h;rw[show i+(k-i)=k from by omega]at h;exact h
theorem zU(p:UInt8->Bool)(l:aA)(i:Nat)(c:UInt8)(h:l[upto p l i]? =some c):p c=false:=by refine FU p (l.drop i) c ?_;rw[eJ];exact h
structure fI where
 is:aA
 s:aA
 pos:Nat
def bK:aA:=[110,97,109,101]
def dS:aA:=[110,117,109]
def eE:aA:=[101,110,100]
def dZ:aA:=[110,111,110,101]
def cV:aA:=[45,62]
def qX:aA:=[61,40,41,44,91,93]
def lO(l:aA)(i:Nat):aA×Nat:=
 match l[i]? with
 |none=>(eE,i)
 |some c=>
  if low c=true then(bK,upto eI l i)
  else if qO c=true then(dS,upto qO l i)
  else if c=45/\l[i+1]? =some 62 then(cV,i+2)
  else if c∈qX then([c],i+1)
  else(dZ,i)
def cut(l:aA)(i k:Nat):aA:=(l.take k).drop i
def fL(h:aD)(l:aA)(i:Nat):fI×Nat:=
 let r:=lO l i;let b:=if(r.1=bK\/r.1=dS)/\r.2-i>8 then dZ else r.1;let t:=if b=bK/\cut l i r.2∈h then cut l i r.2 else b
 (⟨t,cut l i r.2,i⟩,r.2)
def iO(h:aD)(l:aA):Nat->Nat->List fI
 |0,_=>[]
 |f+1,i=>
  let t:=fL h l (upto mS l i)
  if t.1.is=dZ\/t.1.is=eE then [t.1]else t.1::iO h l f t.2
def B(l:aA):ByteArray:=⟨l.toArray⟩
def zy(t:fI):List Value:=[.string (B t.is), .string (B t.s), .int .i64 t.pos]
def zz(h:List fI):List Value:=h.flatMap zy
theorem p9(s:ByteArray)(k:Nat)(h:k<s.size):s.data.toList[k]? =some (s[k]'h):=by rw[Array.getElem?_toList];exact Array.getElem?_eq_getElem h
theorem Iy(s:ByteArray)(J:Nat)(h:¬J<s.size):lO s.data.toList J=(eE,J):=by unfold lO;rw[bW (by rw[eH];exact Nat.le_of_not_lt h)]
theorem Aa(s:ByteArray)(J:Nat)(h:J<s.size)(e:low s[J]=true):lO s.data.toList J=(bK,upto eI s.data.toList J):=by unfold lO;rw[p9 s J h];simp only[e,if_true]
theorem Iz(s:ByteArray)(J:Nat)(h:J<s.size)(e:low s[J]=false)(w:qO s[J]=true):lO s.data.toList J=(dS,upto qO s.data.toList J):=by unfold lO;rw[p9 s J h];simp only[e,w,if_true,o0,XL]
theorem ue(s:ByteArray)(J:Nat)(h:J<s.size)(e:J+1<s.size)(w:low s[J]=false)(x:qO s[J]=false)(a:s[J]=45)(b:s[J+1]=62):lO s.data.toList J=(cV,J+2):=by unfold lO;rw[p9 s J h];simp only[w,x,o0,XL];rw[aR ⟨a,by rw[p9 s (J+1) e,b]⟩]
theorem uf(s:ByteArray)(J:Nat)(h:J<s.size)(a:low s[J]=false)(b:qO s[J]=false)(c:s[J]=45->∀g:J+1<s.size,s[J+1]≠62):
  lO s.data.toList J=if s[J]∈qX then([s[J]],J+1)else(dZ,J):=by
 unfold lO;rw[p9 s J h];simp only[a,b,o0,XL];rw[aN];rintro⟨x,e⟩
 have w:J+1<s.size:=by
  rcases bZ (J+1) s.size with f|d
  ·exact f
  ·rw[bW (by rw[eH];exact d)]at e;cases e
 rw[p9 s (J+1) w]at e;exact c x w (aY e)
theorem Ab(s:ByteArray)(J:Nat)(h:J<=s.size):J<=(lO s.data.toList J).2/\(lO s.data.toList J).2<=s.size:=by
 have d:s.data.toList.length=s.size:=by rw[eH];rfl
 have a:=kN eI s.data.toList J (by omega);have b:=kN qO s.data.toList J (by omega);unfold lO
 cases x:s.data.toList[J]? with
 |none=>exact⟨aV _,h⟩
 |some c=>
  have f:J<s.size:=by
   rcases bZ J s.size with e|e
   ·exact e
   ·rw[bW (by omega)]at x;cases x
  dsimp only;split
  ·dsimp only;omega
  split
  ·dsimp only;omega
  split
  ·rename_i w
   have:J+1<s.size:=by
    rcases bZ (J+1) s.size with e|e
    ·exact e
    ·rw[bW (by omega)]at w;cases w.2
   dsimp only;omega
  split
  ·dsimp only;omega
  ·dsimp only;omega
theorem dC(w:World)(o:Obj)(n:Nat)(h:n=w.heap.size):(w.alloc o).heap[n]? =some o:=by subst h;exact bY _ _
theorem N5(s:ByteArray)(i k:Nat):s.extract i k=B (cut s.data.toList i k):=by
 apply ByteArray.ext;rw[ByteArray.data_extract];apply Array.ext';simp only[B,cut,Array.toList_extract,List.extract_eq_drop_take',List.toList_toArray]
 try rw[zn]
theorem iZ(l:aA):(B l).toList=l:=by rw[ByteArray.toList_eq];rfl
theorem mT{w:World}{base e d n k:Nat}{v:Value}{f:aH}(h:w.ownsRow base e d v n f)(x:some k=v.ownBlock):base<=k/\k<w.heap.size:=by
 obtain⟨_,a⟩:=h;rcases a with⟨rfl,_⟩|⟨g,i,j,rfl,b,c,r⟩
 ·cases x
 ·simp only[Value.ownBlock,dK]at x;subst x;exact⟨b,aT c⟩
theorem ug(h:aD)(l:aA)(f k J:Nat)(w:J=upto mS l k){t:fI}{e:Nat}(x:fL h l J=(t,e)):
  iO h l (f+1) k=if t.is=dZ\/t.is=eE then [t]else t::iO h l f e:=by
 rw[iO,<-w,x]
theorem TA(s:ByteArray)(J:Nat){a:aA}{b:Nat}(w:(a,b)=lO s.data.toList J)(d:a≠dZ)(f:a≠eE):J<b:=by
 have j:=kN;unfold lO at w
 cases x:s.data.toList[J]? with
 |none=>rw[x]at w;simp only[gU]at w;exact absurd w.1 f
 |some c=>
  rw[x]at w
  have g:J<s.data.toList.length:=by
   rcases bZ J s.data.toList.length with h|h
   ·exact h
   ·rw[bW h]at x;cases x
  have step:∀p:UInt8->Bool,p c=true->J<upto p s.data.toList J:=λp i=>by
   rcases bZ J (upto p s.data.toList J)with h|h
   ·exact h
   ·have:=kN p s.data.toList J (jW g);have e:upto p s.data.toList J=J:=by omega
    have:=zU p s.data.toList J c (by rw[e];exact x);rw[i]at this;cases this
  dsimp only at w;split at w
  ·rename_i h;simp only[gU]at w;rw[w.2];exact step eI (by simp[eI,h])
  split at w
  ·rename_i h;simp only[gU]at w;rw[w.2];exact step qO h
  split at w
  ·simp only[gU]at w;omega
  split at w
  ·simp only[gU]at w;omega
  ·simp only[gU]at w;exact absurd w.1 d
theorem XV(h:aD)(l:aA):∀f i,(iO h l f i).length<=f
 |0,i=>by simp[iO]
 |f+1,i=>by
  rw[iO];split
  ·simp
  ·have:=XV h l f (fL h l (upto mS l i)).2;simp only[bU];omega
def dO:aA:=[102,117,110]
def xA:aA:=[105,102]
def pJ:aA:=[116,104,101,110]
def oN:aA:=[101,108,115,101]
def iP:aA:=[108,101,116]
def gV:aA:=[114,101,99]
def zV:aA:=[97,110,100]
def BE:aA:=[105,110]
def DS:aA:=[61]
def eD:aA:=[40]
def eO:aA:=[41]
def iQ:aA:=[44]
def oO:aA:=[97,112,112]
def eS:aA:=[112,97,105,114]
structure Ex where
 op:aA
 names:List aA
 kids:List Ex
 pos:Nat
structure St where
 k:Nat
 bad:Int
def tk(T:List fI)(k:Nat):fI:=T.getD k ⟨[],[],0⟩
def fW(T:List fI)(s:St)(w:aA):Bool:=decide (s.bad<0)&&((tk T s.k).is==w)
def pW(T:List fI)(s:St)(w:aA):St:=if fW T s w=true then⟨s.k+1,s.bad⟩else s
def cL(T:List fI)(s:St)(w:aA):St:=if fW T s w=true then⟨s.k+1,s.bad⟩else⟨s.k,if s.bad<0 then((tk T s.k).pos:Int)else s.bad⟩
structure RS(w:World)(rb g cap:Nat)(T:List fI)(s:St):Prop where
 r:w.heap[rb]? =some (.cells #[.slice (some ⟨g,0,none⟩) T.length cap, .int .i64 s.k, .int .i64 s.bad] 80 (0,0))
 t:∃cur:Array Value,w.heap[g]? =some (.cells cur 151 (0,0))/\cur.toList.take (T.length*3)=zz T
 len:T.length<=400
 pos:∀k,(tk T k).pos<=400
 kle:s.k<=400
 blo: -1<=s.bad
 bhi:s.bad<=400
def gX(h:Nat)(w e:World):Prop:=w.grownBy e (some h)
theorem gX.refl(h:Nat)(w:World):gX h w w:=⟨rfl,rfl,rfl,aV _,λ_ _ _=>rfl⟩
theorem gX.trans{e:Nat}{a b c:World}(h:gX e a b)(k:gX e b c):gX e a c:=
 ⟨k.os.trans h.os,k.tape.trans h.tape,k.output.trans h.output,bV h.size k.size,λi w x=>(k.block i (aZ w h.size) x).trans (h.block i w x)⟩
theorem gX.alloc{e:Nat}{a b:World}(h:gX e a b)(o:Obj):gX e a (b.alloc o):=h.trans (aO b o _)
theorem gX.setCell{w:Nat}{a b:World}(h:gX w a b)(i:Nat)(v:Value):gX w a (b.setCell ⟨w,i,none⟩ v):=
 h.trans ⟨rfl,rfl,rfl,by simp[World.setCell],λk _ x=>bO _ _ _ _ (λe=>x (by rw[e]))⟩
theorem gX.drew{e:Nat}{a b:World}(h:gX e a b):gX e a b.drew:=⟨h.os,h.tape,h.output,h.size,h.block⟩
theorem dP{w:World}{b o:Nat}{v:Value}(h:w.cell? ⟨b,o,none⟩=some v)(x:Obj):(w.alloc x).cell? ⟨b,o,none⟩=some v:=by
 have a:b<w.heap.size:=by
  rcases bZ b w.heap.size with e|e
  ·exact e
  ·simp[World.cell?,tH e]at h
 rw[eM _ _ _ a];exact h
def St.up(s:St):St:=⟨s.k+1,s.bad⟩
def kG(E:St->Option (Ex×St))(T:List fI)(s:St):Option (Ex×St):=
 if fW T s bK=true\/fW T s dS=true then some (⟨(tk T s.k).is,[(tk T s.k).s],[],(tk T s.k).pos⟩,s.up)
 else match E (cL T s eD)with
  |none=>none
  |some (x,h)=>
   if fW T h iQ=true then match E h.up with
    |none=>none
    |some (y,e)=>some (⟨eS,[],[x,y],(tk T s.k).pos⟩,cL T e eO)
   else some (x,cL T h eO)
def tD(A:St->Option (Ex×St))(T:List fI):Nat->Ex->St->Option (Ex×St)
 |0,_,_=>none
 |f+1,x,s=>
  if fW T s bK=true\/fW T s dS=true\/fW T s eD=true then match A s with
   |none=>none
   |some (y,h)=>tD A T f ⟨oO,[],[x,y],x.pos⟩ h
  else some (x,s)
def pX(h:aD)(n:aA)(p:Nat)(s:St):St:=if n∈h/\s.bad<0 then⟨s.k,(p:Int)⟩else s
def pA(E:St->Option (Ex×St))(T:List fI)(x:Ex)(s:St):Option (Ex×St):=
 match E (cL T (pX x.names (tk T s.k).s (tk T s.k).pos (cL T s bK)) DS)with
 |none=>none
 |some (b,h)=>some (⟨x.op,x.names++[(tk T s.k).s],x.kids++[b],x.pos⟩,h)
def kZ(E:St->Option (Ex×St))(T:List fI):Nat->Ex->St->Option (Ex×St)
 |0,_,_=>none
 |f+1,x,s=>
  if x.op=gV/\fW T s zV=true then match pA E T x s.up with
   |none=>none
   |some (y,h)=>kZ E T f y h
  else some (x,s)
def fC(T:List fI):Nat->St->Option (Ex×St)
 |0,_=>none
 |n+1,s=>
  if 0<=s.bad then some (⟨[],[],[],(tk T s.k).pos⟩,s)
  else if fW T s dO=true then
   match fC T n (cL T (cL T s.up bK) cV)with
   |none=>none
   |some (b,d)=>some (⟨dO,[(tk T s.up.k).s],[b],(tk T s.k).pos⟩,d)
  else if fW T s xA=true then
   match fC T n s.up with
   |none=>none
   |some (c,h)=>match fC T n (cL T h pJ)with
    |none=>none
    |some (a,e)=>match fC T n (cL T e oN)with
     |none=>none
     |some (b,w)=>some (⟨xA,[],[c,a,b],(tk T s.k).pos⟩,w)
  else if fW T s iP=true then
   match pA (fC T n) T ⟨if fW T s.up gV=true then gV else iP,[],[],(tk T s.k).pos⟩ (pW T s.up gV)with
   |none=>none
   |some (x,h)=>match kZ (fC T n) T (T.length+1) x h with
    |none=>none
    |some (y,e)=>match fC T n (cL T e BE)with
     |none=>none
     |some (b,w)=>some (⟨y.op,y.names,y.kids++[b],y.pos⟩,w)
  else match kG (fC T n) T s with
   |none=>none
   |some (x,h)=>tD (kG (fC T n) T) T (T.length+1) x h
def Fz(H:aB)(w:World):Prop:=∀k o,H k=some o->w.heap[k]? =some o
theorem Fz.lt{w:World}(h:Fz H w){k:Nat}{o:Obj}(e:H k=some o):k<w.heap.size:=aT (h k o e)
theorem Fz.none{H:aB}{w:World}(h:Fz H w){k:Nat}(x:w.heap.size<=k):H k=none:=by
 cases e:H k with
 |none=>rfl
 |some o=>have:=h.lt e;omega
theorem Fz.alloc{w:World}(h:Fz H w)(o:Obj):Fz H (w.alloc o):=λk x e=>by rw[bQ _ _ _ (h.lt e)];exact h k x e
theorem Fz.drew{w:World}(h:Fz H w):Fz H w.drew:=h
theorem Fz.kept{w b:World}{a:Nat}(h:Fz H w)(d:gX a w b)(f:H a=Option.none):Fz H b:=λk x e=>by rw[d.block k (h.lt e) (λc=>by rw[aY c,f]at e;cases e)];exact h k x e
theorem Fz.set{w:World}(h:Fz H w){b:Nat}(d:H b=Option.none)(i:Nat)(v:Value):Fz H (w.setCell ⟨b,i,Option.none⟩ v):=λk x e=>by rw[bO _ _ _ _ (λa=>by have c:k=b:=a;rw[c,d]at e;cases e)];exact h k x e
def Fz.more(H:aB)(b:Nat)(o:Obj):Nat->Option Obj:=λk=>if k=b then some o else H k
theorem Fz.add{w:World}(h:Fz H w){b:Nat}{o:Obj}(a:w.heap[b]? =some o):Fz (Fz.more H b o) w:=λk x e=>by
 unfold Fz.more at e;split at e
 ·rename_i c;subst c;rw[<-aY e];exact a
 ·exact h k x e
def zW(n:Nat)(H h:aB):Prop:=(∀k o,H k=some o->h k=some o)/\∀k,k<n->h k=H k
theorem zW.refl(n:Nat)(H:aB):zW n H H:=⟨λ_ _ e=>e,λ_ _=>rfl⟩
theorem zW.trans{n m:Nat}{w x:aB}(h:zW n H w)(k:zW m w x)(b:n<=m):zW n H x:=
 ⟨λi o e=>k.1 i o (h.1 i o e),λi a=>(k.2 i (by omega)).trans (h.2 i a)⟩
theorem zW.add{n:Nat}{w:aB}(h:zW n H w){b:Nat}{o:Obj}(f:n<=b)(d:w b=none):zW n H (Fz.more w b o):=by
 refine⟨λi x e=> ?_,λi c=> ?_⟩
 ·unfold Fz.more;rw[aN (λa=>by have:=h.1 i x e;rw[a,d]at this;cases this)];exact h.1 i x e
 ·unfold Fz.more;rw[aN (by omega)];exact h.2 i c
def Xi(H:aB)(t:TypeId)(v:Value)(h:aH):Prop:=
 (v= .slice none 0 0/\h=[])\/∃g w e,v= .slice (some ⟨g,0,none⟩) h.length w/\H g=some (.cells e t (0,0))/\e.toList.take h.length=h
def Xj(h:aC):List Value:=h.map λb=> .pointer (some ⟨b,0,none⟩)
def pS(h:aD):List Value:=h.map λx=> .string (B x)
theorem Fz.more_same(H:aB)(b:Nat)(o:Obj):Fz.more H b o b=some o:=by simp[Fz.more]
def j4(l:aC):Nat:=l.foldl max 0
def cA:Nat->Ex->Nat
 |0,_=>0
 |m+1,x=>j4 (x.kids.map (cA m))+1
theorem BF(l:aC)(a:Nat):l.foldl max a=max a (l.foldl max 0):=by
 induction l generalizing a with
 |nil=>simp
 |cons b l h=>simp only[fD];rw[h (max a b),h (max 0 b)];omega
theorem JI(l:aC)(a:Nat):j4 (l++[a])=max (j4 l) a:=by simp[j4,XM]
theorem Ac{l:aC}{a:Nat}(h:a∈l):a<=j4 l:=by
 induction l with
 |nil=>cases h
 |cons b l e=>
  unfold j4;rw[fD,BF];rcases bH.1 h with rfl|h
  ·omega
  ·have:=e h;unfold j4 at this;omega
theorem uh(l:aC)(j:Nat):j4 (l.take j)<=j4 l:=by
 have e:j4 l=max (j4 (l.take j)) (j4 (l.drop j)):=by
  conv=>lhs;rw[<-p8 j l]
  unfold j4;rw[XM,BF]
 omega
def Small:Nat->Ex->Prop
 |0,_=>True
 |m+1,x=>x.kids.length<=1000000/\x.names.length<=1000000/\∀y,y∈x.kids->Small m y
def XW:aA:=[102,117,110,32]
def zX:aA:=[32,45,62,32]
theorem dY(l:aA):(B l).size=l.length:=by simp[B,ByteArray.size]
theorem dQ(a b:aA):B a++B b=B (a++b):=by apply ByteArray.ext;simp[B]
def nX:aA:=[40]
def nY:aA:=[41]
def zY:aA:=[44,32]
def Ob:aA:=[105,102,32]
def L4:aA:=[32,116,104,101,110,32]
def L8:aA:=[32,101,108,115,101,32]
def Oc:aA:=[32]
end Go.Proofs.YtcdijppegfcoaaaGreatDoor
