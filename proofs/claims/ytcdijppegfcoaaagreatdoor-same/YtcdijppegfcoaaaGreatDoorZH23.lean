import Derived.Test.YtcdijppegfcoaaaGreatDoorZH08
import Derived.Test.YtcdijppegfcoaaaGreatDoorZH14
set_option maxRecDepth 100000
set_option maxHeartbeats 4000000
set_option linter.unusedSimpArgs false
namespace Go.Proofs.YtcdijppegfcoaaaGreatDoor
open Go.RowKit Go.Extern.Stop Go.Stop Go.Extern Tryz
variable{w:World}
theorem pe{w:World}{b i:Nat}{d:Value}(h:w.cell? ⟨b,i,none⟩=some d)(v:Value):(w.setCell ⟨b,i,none⟩ v).cell? ⟨b,i,none⟩=some v:=by
 cases e:w.heap[b]? with
 |none=>simp[World.cell?,e]at h
 |some o=>
  cases o with
  |cells c t f=>
   simp only[World.cell?,e]at h
   have a:i<c.size:=by
    rcases bZ i c.size with x|x
    ·exact x
    ·rw[tH x]at h;cases h
   simp[World.cell?,World.setCell,dN,e,a]
  |_=>simp[World.cell?,e]at h
def YV:Value:= .iface 278 (.agg #[.pointer (some ⟨15,72,none⟩)])
theorem Qo(t:Value)(w:World):Calls prog 70 #[.nilIface,t] w λe h=>e= .returned (.bool false)/\h=w:=by go_enter func70,ntmps70;go_wp2;go_ret;exact⟨rfl,rfl⟩
theorem W6(h:Nat)(q:Addr)(w:World)(y:h<w.heap.size)
  (x:w.cell? ⟨10,0,none⟩=some YV) (v:10<w.heap.size):
  Calls prog 70 #[.iface 437 (.pointer (some q)), .iface 138 (.pointer (some ⟨h,0,none⟩))] w λe a=>e= .returned (.bool false)/\w.grownBy a none:=by
 unfold YV at x;have b:=sV;have c:=sW;have d:=vW;have f:=yC;have g:=uC;have i:=vX;have j:=uD;have k:=uF;have l:=vY;have m:=AD;have n:=lK;have o:=jY;have p:=AF;have r:=JR;have s:=DD;have t:=BG;have u:=y8;have z:h<w.heap.size+1:=by omega
 have A:h<w.heap.size+1+1:=by omega
 have C:10<w.heap.size+1:=by omega
 go_enter func70,ntmps70;go_wp2;refine dX 1 ?_;rw[dH];go_wp2;go_ret;exact⟨rfl,((aO _ _ _).trans (aO _ _ _)).trans (aO _ _ _)⟩
theorem MR(h:Nat)(q:Addr)(w:World)(y:h<w.heap.size)
  (x:w.cell? ⟨10,0,none⟩=some YV) (v:10<w.heap.size):
  Calls prog 70 #[.iface 437 (.pointer (some q)), .iface 143 (.pointer (some ⟨h,0,none⟩))] w λe a=>e= .returned (.bool false)/\w.grownBy a none:=by
 unfold YV at x;have b:=pB;have c:=pC;have d:=rG;have f:=sU;have g:=qA;have i:=rH;have j:=qB;have k:=qC;have l:=rI;have m:=AD;have n:=lK;have o:=jY;have p:=AF;have r:=JR;have s:=yD;have t:=BG;have u:=y8;have z:h<w.heap.size+1:=by omega
 have A:h<w.heap.size+1+1:=by omega
 have C:10<w.heap.size+1:=by omega
 go_enter func70,ntmps70;go_wp2;refine dX 1 ?_;rw[dH];go_wp2;go_ret;exact⟨rfl,((aO _ _ _).trans (aO _ _ _)).trans (aO _ _ _)⟩
theorem JZ(h:Nat)(q:Addr)(w:World)(y:h<w.heap.size)
  (x:w.cell? ⟨10,0,none⟩=some YV) (v:10<w.heap.size):
  Calls prog 70 #[.iface 437 (.pointer (some q)), .iface 146 (.pointer (some ⟨h,0,none⟩))] w λe a=>e= .returned (.bool false)/\w.grownBy a none:=by
 unfold YV at x;have b:=sY;have c:=sZ;have d:=vF;have f:=xD;have g:=tZ;have i:=vG;have j:=u9;have k:=uA;have l:=vI;have m:=AD;have n:=lK;have o:=jY;have p:=AF;have r:=JR;have s:=xH;have t:=BG;have u:=y8;have z:h<w.heap.size+1:=by omega
 have A:h<w.heap.size+1+1:=by omega
 have C:10<w.heap.size+1:=by omega
 go_enter func70,ntmps70;go_wp2;refine dX 1 ?_;rw[dH];go_wp2;go_ret;exact⟨rfl,((aO _ _ _).trans (aO _ _ _)).trans (aO _ _ _)⟩
theorem SP(h:Nat)(q:Addr)(w:World)(y:h<w.heap.size)
  (x:w.cell? ⟨10,0,none⟩=some YV) (v:10<w.heap.size):
  Calls prog 70 #[.iface 134 (.pointer (some q)), .iface 138 (.pointer (some ⟨h,0,none⟩))] w λe a=>e= .returned (.bool false)/\w.grownBy a none:=by
 unfold YV at x;have b:=sV;have c:=sW;have d:=vW;have f:=yC;have g:=uC;have i:=vX;have j:=uD;have k:=uF;have l:=vY;have m:=AD;have n:=lK;have o:=jY;have p:=GU;have r:=fu;have s:=AE;have t:=OR;have u:=MN;have z:h<w.heap.size+1:=by omega
 have A:h<w.heap.size+1+1:=by omega
 have C:10<w.heap.size+1:=by omega
 go_enter func70,ntmps70;go_wp2;refine dX 1 ?_;rw[dH];go_wp2;go_ret;exact⟨rfl,((aO _ _ _).trans (aO _ _ _)).trans (aO _ _ _)⟩
theorem K8(h:Nat)(q:Addr)(d:Value)(w:World)(b:w.cell? ⟨h,0,none⟩=some d)(i:w.frozen? ⟨h,0,none⟩=false)(c:h<w.heap.size)
  (g:w.cell? ⟨10,0,none⟩=some YV) (F:10<w.heap.size):
  Calls prog 70 #[.iface 134 (.pointer (some q)), .iface 143 (.pointer (some ⟨h,0,none⟩))] w λe f=>e= .returned (.bool true)/\f.cell? ⟨h,0,none⟩=some (.pointer (some q))/\w.grownBy f (some h):=by
 unfold YV at g;have k:=pB;have l:=pC;have m:=rG;have n:=sU;have o:=qA;have p:=rH;have r:=qB;have s:=qC;have t:=rI;have y:=AD;have z:=lK;have A:=jY;have C:=GU;have D:=xF;have E:=zG
 have u:=λ(x a:Obj)=>MK ⟨w.heap.size,0,none⟩ ⟨h,0,none⟩ (((w.alloc (.cells #[.pointer (some ⟨h,0,none⟩)] 143)).alloc x).alloc a)
  (by rw[eM _ _ _ (by simp;omega),eM _ _ _ (by simp),World.cell?_alloc_new];rfl)
 have v:=λ(j x a:Obj)=>OO ⟨h,0,none⟩ ⟨w.heap.size+1+1+1,0,none⟩ (some q) d ((((w.alloc j).alloc x).alloc a).alloc (.cells #[.pointer (some q)] 134))
  (by rw[World.cell?_alloc_at _ _ _ _ (by simp)];rfl)
  (by rw[eM _ _ _ (by simp;omega),eM _ _ _ (by simp;omega),eM _ _ _ (by simp;omega),eM _ _ _ c];exact b)
  (by rw[iF _ _ _ (by simp;omega),iF _ _ _ (by simp;omega),iF _ _ _ (by simp;omega),iF _ _ _ c];exact i)
 have G:h<w.heap.size+1:=by omega
 have H:h<w.heap.size+1+1:=by omega
 have I:h<w.heap.size+1+1+1:=by omega
 have J:10<w.heap.size+1:=by omega
 go_enter func70,ntmps70;go_wp2;refine dX 1 ?_;rw[dH];go_wp2;go_ret;exact⟨rfl,dP (dP (dP (dP (pe b _) _) _) _) _,(((((gX.refl h w).setCell 0 _).alloc _).alloc _).alloc _).alloc _⟩
structure SW(W:World)(ad:aF)(cs:aE)(ts:aG):Prop where
 g0:W.cell? ⟨2,0,none⟩=some (eQ (ad 0))
 g1:W.cell? ⟨3,0,none⟩=some (eQ (ad 1))
 g2:W.cell? ⟨4,0,none⟩=some (eQ (ad 2))
 g3:W.cell? ⟨5,0,none⟩=some (eQ (ad 3))
 g4:W.cell? ⟨6,0,none⟩=some (eQ (ad 4))
 g5:W.cell? ⟨7,0,none⟩=some (eQ (ad 5))
 g6:W.cell? ⟨8,0,none⟩=some (eQ (ad 6))
 g7:W.cell? ⟨9,0,none⟩=some (eQ (ad 7))
 hE:W.cell? ⟨10,0,none⟩=some YV
 hb:∀k,k<8->W.heap[(ad k).block]? =some (.cells (cs k) (ts k) (0,0))
 hne:∀i j,i<8->j<8->i≠j->ad i≠ad j
 hsz:10+1<=W.heap.size
theorem SW.grown{a:World}{d:aF}{f:aE}{i:aG}(h:SW w d f i)(x:w.grownBy a none):SW a d f i:=by
 have c:∀{b:Nat} {v:Value},b<10+1->w.cell? ⟨b,0,none⟩=some v->a.cell? ⟨b,0,none⟩=some v:=λj e=>dB e (aZ j h.hsz) x
 exact⟨c (by decide) h.g0,c (by decide) h.g1,c (by decide) h.g2,c (by decide) h.g3,c (by decide) h.g4,c (by decide) h.g5,c (by decide) h.g6,c (by decide) h.g7,c (by decide) h.hE,
  λk g=>by rw[x.block _ (aT (h.hb k g)) (by simp)];exact h.hb k g,h.hne,bV h.hsz x.size⟩
theorem eG{b:Nat}{p q r s u:Value}{t:TypeId}(h:w.heap[b]? =some (.cells #[p,q,r,s,u] t (0,0))):
  (w.cell? ⟨b,0,none⟩=some p/\w.cell? ⟨b,1,none⟩=some q/\w.cell? ⟨b,2,none⟩=some r/\w.cell? ⟨b,3,none⟩=some s/\w.cell? ⟨b,4,none⟩=some u)/\
  w.frozen? ⟨b,0,none⟩=false/\w.frozen? ⟨b,1,none⟩=false/\w.frozen? ⟨b,2,none⟩=false/\w.frozen? ⟨b,3,none⟩=false/\w.frozen? ⟨b,4,none⟩=false:=by
 simp[World.cell?,World.frozen?,h]
def oD(w:World):World:=(((w.alloc (.cells #[.int .i64 0, .int .i64 0, .string (B []), .int .i64 0, .int .i64 0] 23)).alloc (.cells #[.pointer none] 134)).alloc (.cells #[.pointer none] 135)).alloc (.cells #[.pointer none] 136)
theorem mF(w:World):w.grownBy (oD w) none:=(((aO _ _ _).trans (aO _ _ _)).trans (aO _ _ _)).trans (aO _ _ _)
theorem rU(w:World):(oD w).heap[w.heap.size]? =some (.cells #[.int .i64 0, .int .i64 0, .string (B []), .int .i64 0, .int .i64 0] 23 (0,0))/\(oD w).heap[w.heap.size+1]? =some (.cells #[.pointer none] 134 (0,0))/\
  (oD w).heap[w.heap.size+2]? =some (.cells #[.pointer none] 135 (0,0))/\(oD w).heap[w.heap.size+3]? =some (.cells #[.pointer none] 136 (0,0)):=by
 unfold oD;refine⟨?_, ?_, ?_, ?_⟩
 ·rw[bQ _ _ _ (by simp<;>omega),bQ _ _ _ (by simp<;>omega),bQ _ _ _ (by simp)];exact bY _ _
 ·rw[bQ _ _ _ (by simp<;>omega),bQ _ _ _ (by simp)];exact dC _ _ _ (by simp)
 ·rw[bQ _ _ _ (by simp)];exact dC _ _ _ (by simp)
 ·exact dC _ _ _ (by simp)
theorem YX{b:Nat}{p:Value}{t:TypeId}(h:w.heap[b]? =some (.cells #[p] t (0,0))):w.cell? ⟨b,0,none⟩=some p/\w.frozen? ⟨b,0,none⟩=false:=by simp[World.cell?,World.frozen?,h]
theorem BS{x:World}(f:w.grownBy x none){n:Nat}(h:w.heap.size<=n)(a b c d e:Value):w.grownBy (((((x.setCell ⟨n,0,none⟩ a).setCell ⟨n,1,none⟩ b).setCell ⟨n,2,none⟩ c).setCell ⟨n,3,none⟩ d).setCell ⟨n,4,none⟩ e) none:=
 YQ (YQ (YQ (YQ (YQ f h 0 a) h 1 b) h 2 c) h 3 d) h 4 e
theorem BU(w:World):Calls prog 37 #[.nilIface] w λe h=>e= .returned (fv 0 0)/\w.grownBy h none:=by
 go_enter func37,ntmps37;go_wp2_with (go_at_call 70;refine(Qo _ _).mono ?_;rintro e h ⟨rfl,rfl⟩);refine eN (v:=fv 0 0) ?_ rfl ?_
 ·have q:=eG (rU w).1;obtain⟨⟨x,a,b,c,d⟩,_⟩:=q;unfold oD at x a b c d;simp[results,results37,go_sem];rfl
 ·exact⟨rfl,mF w⟩
theorem KA(w:World)(C:aF)(D:aE)(O:aG)(S:SW w C D O)(b:Nat)(p:Int)(l:w.heap[b]? =some (.cells #[.int .i64 p] 145 (0,0))):
  Calls prog 37 #[.iface 134 (.pointer (some ⟨b,0,none⟩))] w λe P=>e= .returned (fv 2 p)/\w.grownBy P none:=by
 obtain⟨c,a,I,y⟩:=rU w;have E:=aT l;have i:=aS (S.grown (mF w));have j:=aS (SP (w.heap.size+3) ⟨b,0,none⟩ (oD w) (aT y) i.hE (aZ (by decide) i.hsz));have g:=aS (aL c a);have A:=aS l;clear S l c a I y;unfold oD at j;go_enter func37,ntmps37;go_wp2_with fail;refine j.mono ?_;rintro e f ⟨rfl,r⟩;have d:(oD w).grownBy f none:=r;have q:=aS (i.grown d)
 have a:f.heap[w.heap.size+1]? =some (.cells #[.pointer none] 134 (0,0)):=by rw[d.block _ (aT g.2) (by simp)];exact g.2
 have c:f.heap[w.heap.size]? =some (.cells #[.int .i64 0, .int .i64 0, .string (B []), .int .i64 0, .int .i64 0] 23 (0,0)):=by rw[d.block _ (aT g.1) (by simp)];exact g.1
 have o:=aS (K8 (w.heap.size+1) ⟨b,0,none⟩ (.pointer none) f (YX a).1 (YX a).2 (aT a) q.hE (aZ (by decide) q.hsz));have x:=aS ((mF w).trans d)
 have m:f.heap[b]? =some (.cells #[.int .i64 p] 145 (0,0)):=by rw[x.block _ E (by simp)];exact A.out
 have G:=aT c;have H:=aT m;clear r d j i;go_wp2_with fail;refine o.mono ?_;rintro e n ⟨rfl,Q,h⟩
 have u:n.heap[w.heap.size]? =some (.cells #[.int .i64 0, .int .i64 0, .string (B []), .int .i64 0, .int .i64 0] 23 (0,0)):=by rw[h.block _ G (by simp)];exact c
 have s:n.heap[b]? =some (.cells #[.int .i64 p] 145 (0,0)):=by rw[h.block _ H (by simp;omega)];exact m
 have R:=(YX s).1;obtain⟨⟨J,K,L,M,N⟩,T,U,V,W,X⟩:=eG u
 have z:Hid (w.grownBy n none):=⟨h.os.trans x.os,h.tape.trans x.tape,h.output.trans x.output,bV x.size h.size,λk t F=>by
  rw[h.block k (aZ t x.size) (by simp;omega)]
  exact x.block k t F⟩
 clear h u s c a m o;go_wp2;refine eN (v:=fv 2 p) (by simp[results,results37,go_sem,J,K,L,M,N];rfl) rfl ?_;exact⟨rfl,BS z.out (aV _) _ _ _ _ _⟩
end Go.Proofs.YtcdijppegfcoaaaGreatDoor
