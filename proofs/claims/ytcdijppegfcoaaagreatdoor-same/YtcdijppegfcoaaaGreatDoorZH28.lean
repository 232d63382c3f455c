import Derived.Test.YtcdijppegfcoaaaGreatDoorZH23
import Derived.WideMake
import Derived.Test.YtcdijppegfcoaaaGreatDoorZH24
import Derived.Test.YtcdijppegfcoaaaGreatDoorZH26
set_option maxRecDepth 100000
set_option maxHeartbeats 4000000
set_option linter.unusedSimpArgs false
namespace Go.Proofs.YtcdijppegfcoaaaGreatDoor
open Go.RowKit Tryz
variable{x:Ty}{n:Nat}
theorem SY(w:World)(a b:Nat):Calls prog 152 #[.iface 346 (.pointer (some ⟨a,0,none⟩)), .iface 265 (.pointer (some ⟨b,0,none⟩))] w λe h=>e= .returned (.bool false)/\w.grownBy h none:=by
 have x:=kO a;have c:=xY b;go_enter func152,ntmps152;go_wp2_with fail
 go_quiet (fail)
 go_wp2;go_ret;exact⟨rfl,⟨rfl,rfl,rfl,aV _,λ_ _ _=>rfl⟩⟩
theorem WI(w:World)(a b:Nat):Calls prog 152 #[.iface 349 (.pointer (some ⟨a,0,none⟩)), .iface 265 (.pointer (some ⟨b,0,none⟩))] w λe h=>e= .returned (.bool false)/\w.grownBy h none:=by have x:=lF a;have c:=lG a;have d:=KW b;go_enter func152,ntmps152;go_wp2;go_ret;exact⟨rfl,bC _ _⟩
theorem WJ(w:World)(a b:Nat):Calls prog 152 #[.iface 361 (.pointer (some ⟨a,0,none⟩)), .iface 265 (.pointer (some ⟨b,0,none⟩))] w λe h=>e= .returned (.bool false)/\w.grownBy h none:=by have x:=lH a;have c:=lI a;have d:=lJ a;have f:=L0 b;go_enter func152,ntmps152;go_wp2;go_ret;exact⟨rfl,bC _ _⟩
theorem SZ(w:World)(a b:Nat):Calls prog 152 #[.iface 291 (.pointer (some ⟨a,0,none⟩)), .iface 265 (.pointer (some ⟨b,0,none⟩))] w λe h=>e= .returned (.bool false)/\w.grownBy h none:=by have c:=kP a;have d:=kL a;have f:=kM a;have x:=jC a;have g:=xZ b;go_enter func152,ntmps152;go_wp2;go_ret;exact⟨rfl,bC _ _⟩
theorem Km(w:World)(a:Nat)(v:Value):Calls prog 152 #[.iface 265 (.pointer (some ⟨a,0,none⟩)),v] w λe h=>e= .returned (.bool false)/\w.grownBy h none:=by have x:=xY a;have b:=KW a;have c:=L0 a;have d:=xZ a;go_enter func152,ntmps152;go_wp2;go_ret;exact⟨rfl,bC _ _⟩
def EV(H:aB)(v:Value)(t:Et):Prop:=∃b,(t.kind=cM/\v= .iface 265 (.pointer (some ⟨b,0,none⟩)))\/(t.kind=[]/\v= .iface 309 (.pointer (some ⟨b,0,none⟩))/\H b=some (.cells #[.string (B t.name)] 313 (0,0))/\t.name.length<=300)\/
 ((t.kind=nD\/t.kind=eU)/\v= .iface 346 (.pointer (some ⟨b,0,none⟩))/\H b=some (.cells #[.string (B t.kind)] 348 (0,0)))\/(t.kind=nF/\v= .iface 349 (.pointer (some ⟨b,0,none⟩)))\/(t.kind=eS/\v= .iface 361 (.pointer (some ⟨b,0,none⟩)))\/(t.kind=dO/\v= .iface 291 (.pointer (some ⟨b,0,none⟩)))
theorem fP.ev{c:Nat}{H:aB}{a:aC}{m:Nat}{v:Value}{t:Et}(h:fP c H a m v t):EV H v t:=by
 cases m with
 |zero=>exact absurd h id
 |succ m=>
 obtain⟨b,h⟩:=h;refine⟨b, ?_⟩;rcases h with⟨e,_,_,x⟩|⟨e,_,d,_,w,x⟩|⟨e,_,w,x⟩|⟨e,_,_,_,_,w,_⟩|⟨e,_,_,_,_,_,_,w,_⟩|⟨e,_,_,_,_,_,_,w,_⟩
 ·exact aQ ⟨e,x⟩
 ·exact aM (aQ ⟨e,w,x,d⟩)
 ·exact aM (aM (aQ ⟨e,w,x⟩))
 ·exact aM (aM (aM (aQ ⟨e,w⟩)))
 ·exact aM (aM (aM (aM (aQ ⟨e,w⟩))))
 ·exact aM (aM (aM (aM (aM ⟨e,w⟩))))
theorem Kn{H:aB}{u v:Value}{x y:Et}{w:World}(g:EV H u x)(d:EV H v y)(i:Fz H w)(l:x.kind≠[]):Calls prog 152 #[u,v] w λe m=>e= .returned (.bool (decide (x.kind=y.kind/\x.kind≠cM)))/\w.grownBy m none:=by
 obtain⟨a,g⟩:=g;obtain⟨b,d⟩:=d;rcases g with⟨c,rfl⟩|⟨c,_⟩|⟨c,rfl,j⟩|⟨c,rfl⟩|⟨c,rfl⟩|⟨c,rfl⟩
 ·rw[bN (λe=>e.2 c)];exact Km w a v
 ·exact absurd c l
 ·rcases d with⟨h,rfl⟩|⟨h,rfl,_⟩|⟨h,rfl,f⟩|⟨h,rfl⟩|⟨h,rfl⟩|⟨h,rfl⟩
  ·rw[bN (λe=>by rcases c with c|c<;>exact absurd (c.symm.trans (e.1.trans h)) (by decide))];exact SY w a b
  ·rw[bN (λe=>by rcases c with c|c<;>exact absurd (c.symm.trans (e.1.trans h)) (by decide))];exact IC w a b
  ·have e:decide (x.kind=y.kind/\x.kind≠cM)=decide (x.kind=y.kind):=by
    have k:x.kind≠cM:=by rcases c with c|c<;>rw[c]<;>decide
    simp[k]
   rw[e];exact uM w a b _ _ (by simp[World.cell?,i _ _ j]) (by simp[World.cell?,i _ _ f])
  ·rw[bN (λe=>by rcases c with c|c<;>exact absurd (c.symm.trans (e.1.trans h)) (by decide))];exact wF w a b
  ·rw[bN (λe=>by rcases c with c|c<;>exact absurd (c.symm.trans (e.1.trans h)) (by decide))];exact wG w a b
  ·rw[bN (λe=>by rcases c with c|c<;>exact absurd (c.symm.trans (e.1.trans h)) (by decide))];exact uN w a b
 ·rcases d with⟨h,rfl⟩|⟨h,rfl,_⟩|⟨h,rfl,f⟩|⟨h,rfl⟩|⟨h,rfl⟩|⟨h,rfl⟩
  ·rw[bN (λe=>absurd (c.symm.trans (e.1.trans h)) (by decide))];exact WI w a b
  ·rw[bN (λe=>absurd (c.symm.trans (e.1.trans h)) (by decide))];exact LH w a b
  ·rw[bN (λe=>by rcases h with h|h<;>exact absurd (c.symm.trans (e.1.trans h)) (by decide))];exact wH w a b
  ·rw[dE ⟨by rw[c,h],by rw[c];decide⟩];exact yJ w a b
  ·rw[bN (λe=>absurd (c.symm.trans (e.1.trans h)) (by decide))];exact yK w a b
  ·rw[bN (λe=>absurd (c.symm.trans (e.1.trans h)) (by decide))];exact wI w a b
 ·rcases d with⟨h,rfl⟩|⟨h,rfl,_⟩|⟨h,rfl,f⟩|⟨h,rfl⟩|⟨h,rfl⟩|⟨h,rfl⟩
  ·rw[bN (λe=>absurd (c.symm.trans (e.1.trans h)) (by decide))];exact WJ w a b
  ·rw[bN (λe=>absurd (c.symm.trans (e.1.trans h)) (by decide))];exact LJ w a b
  ·rw[bN (λe=>by rcases h with h|h<;>exact absurd (c.symm.trans (e.1.trans h)) (by decide))];exact wJ w a b
  ·rw[bN (λe=>absurd (c.symm.trans (e.1.trans h)) (by decide))];exact yL w a b
  ·rw[dE ⟨by rw[c,h],by rw[c];decide⟩];exact yM w a b
  ·rw[bN (λe=>absurd (c.symm.trans (e.1.trans h)) (by decide))];exact wK w a b
 ·rcases d with⟨h,rfl⟩|⟨h,rfl,_⟩|⟨h,rfl,f⟩|⟨h,rfl⟩|⟨h,rfl⟩|⟨h,rfl⟩
  ·rw[bN (λe=>absurd (c.symm.trans (e.1.trans h)) (by decide))];exact SZ w a b
  ·rw[bN (λe=>absurd (c.symm.trans (e.1.trans h)) (by decide))];exact ID w a b
  ·rw[bN (λe=>by rcases h with h|h<;>exact absurd (c.symm.trans (e.1.trans h)) (by decide))];exact uO w a b
  ·rw[bN (λe=>absurd (c.symm.trans (e.1.trans h)) (by decide))];exact wL w a b
  ·rw[bN (λe=>absurd (c.symm.trans (e.1.trans h)) (by decide))];exact wM w a b
  ·rw[dE ⟨by rw[c,h],by rw[c];decide⟩];exact uP w a b
structure NU(w:World)(cb mb:Nat)(L:aD):Prop where
 blk:w.heap[cb]? =some (.cells #[.map (some mb)] 358 (0,0))
 mp:MP w mb L
theorem NU.ne{w:World}{x a:Nat}{L:aD}(h:NU w x a L):x≠a:=λe=>by obtain⟨d,c,b⟩:=h.mp.isMap;have:=h.blk;rw[e,b]at this;cases this
theorem NU.gb{R:Nat->Prop}{w b:World}{a x:Nat}{L:aD}(h:NU w a x L)(g:Gb R w b)(i:¬R a)(j:¬R x):NU b a x L:=by refine⟨g.at h.blk i, ?_⟩;obtain⟨D,c,l⟩:=h.mp;have e:b.heap[x]? =w.heap[x]? :=g.block x c.lt j;obtain⟨f,d,k,m⟩:=c;exact⟨D,⟨f,d,by rw[e];exact k,m⟩,l⟩
theorem Ok(w:World)(d c:Nat)(x:aA)(L:aD)(f:x.length<=300)(h:NU w d c L)(r:L.length<=200):
  Calls prog 187 #[.string (B x), .pointer (some ⟨d,0,none⟩)] w λe o=>e= .returned (.int .i64 ((jO L x).idxOf x:Nat))/\NU o d c (jO L x)/\w.grownBy o (some c):=by
 have q:w.cell? ⟨d,0,none⟩=some (.map (some c)):=by simp[World.cell?,h.blk]
 have H:=aS h;by_cases a:x∈L
 ·have e:jO L x=L:=by unfold jO;rw[aR a]
  rw[e];have l:=h.mp.look_in f a;obtain⟨n,j⟩:∃n,n=L.idxOf x:=⟨_,rfl⟩;rw[<-j]at l⊢;clear h a e j;go_enter func187,ntmps187;go_wp2;go_ret;exact⟨rfl,H.out,bC _ _⟩
 ·have e:jO L x=L++[x]:=by unfold jO;rw[aN a]
  rw[e];have l:=h.mp.look_out f a;have s:=λp=>MP.len h.mp p;obtain⟨u,t,m,g⟩:=MP.store h.mp f a (by omega);have i:(L++[x]).idxOf x=L.length:=by rw[mJ,aN a];simp
  rw[i];have Q:=aS (aL m g);clear h a e i m g;go_enter func187,ntmps187;go_wp2;go_ret;exact⟨rfl,⟨(Gb.of (R:=λk=>k=c) Q.2 (λb e=>aQ (aY e).symm)).at H.blk H.ne,Q.1⟩,Q.2⟩
structure Gn(w w':World):Prop where
 os:w'.os=w.os
 output:w'.output=w.output
 size:w.heap.size<=w'.heap.size
 block:∀k,k<w.heap.size->w'.heap[k]? =w.heap[k]?
theorem Gn.of{w e:World}(h:w.grownBy e none):Gn w e:=⟨h.os,h.output,h.size,λk x=>h.block k x (by simp)⟩
theorem Gn.trans{a b c:World}(h:Gn a b)(k:Gn b c):Gn a c:=⟨k.os.trans h.os,k.output.trans h.output,bV h.size k.size,λi e=>(k.block i (aZ e h.size)).trans (h.block i e)⟩
theorem Gn.setNew{w e:World}(h:Gn w e)(b:w.heap.size<=n)(i:Nat)(a:Value):Gn w (e.setCell ⟨n,i,none⟩ a):=
 ⟨h.os,h.output,by have:=h.size;simp[World.setCell]at this⊢;omega,λk x=>by
  rw[bO _ _ _ _ (by show k≠n;omega)]
  exact h.block k x⟩
theorem Gn.set5{w x:World}(f:Gn w x)(h:w.heap.size<=n)(a b c d e:Value):Gn w (((((x.setCell ⟨n,0,none⟩ a).setCell ⟨n,1,none⟩ b).setCell ⟨n,2,none⟩ c).setCell ⟨n,3,none⟩ d).setCell ⟨n,4,none⟩ e):=
 ((((f.setNew h 0 a).setNew h 1 b).setNew h 2 c).setNew h 3 d).setNew h 4 e
theorem Gn.frame{W e:World}(h:Gn W e)(x:MemPlace->Prop):W.keptBut e x:=by refine⟨h.os,h.output,λi w=> ?_⟩;rw[h.block i w];split<;>simp_all
theorem xe(w:World)(o o':Obj):({w.alloc o with heap:=(w.alloc o).heap.setIfInBounds w.heap.size o'}:World)=w.alloc o':=by
 have h:(w.heap.push o).setIfInBounds w.heap.size o'=w.heap.push o':=by
  apply Array.ext_getElem?;intro i;rw[Array.getElem?_setIfInBounds,Array.getElem?_push,Array.getElem?_push];by_cases e:w.heap.size=i
  ·subst e;simp
  ·rw[if_neg e,if_neg (λh=>e h.symm),if_neg (λh=>e h.symm)]
 show({w with heap:=(w.heap.push o).setIfInBounds w.heap.size o'}:World)={w with heap:=w.heap.push o'};rw[h]
theorem vM(w:World)(es:Array MapEntry)(c:Nat)(k:Int)(v:Value)(hf:Instr.findNow (.int .i64) (.int .i64 k) es.toList 0=some none):
  (Instr.mapUpdate 149 (.map (some w.heap.size)) (.int .i64 k) v).run prog (w.alloc (.map es c))= .ok () (w.alloc (.map (es.push {key:= .int .i64 k,val:=v,born:=c}) (c+1))):=by
 have hb:(w.alloc (.map es c)).heap[w.heap.size]? =some (.map es c):=heap_alloc_new _ _;have hc:(Instr.checkKey false 10000 3 (.int .i64 k)).run prog (w.alloc (.map es c))= .ok () (w.alloc (.map es c)):=MapKept.run_checkKey (k:= .int .i64 k) underlying3 (by simp[MapKept.IsKey]) false 9999;simp[Instr.mapUpdate,run_underlying underlying149,MapKept.run_getObj_map hb,hc,MapKept.run_findKey underlying3 hf,MapKept.run_setObj_map _ hb,Result.andThen];exact xe _ _ _
def B3(i:Nat):Int:=[1,3,6,7,8,9,10,11].getD i 0
def qI(h:aF):Array MapEntry:= #[{key:= .int .i64 1,val:=eQ (h 0),born:=0},{key:= .int .i64 3,val:=eQ (h 1),born:=1},{key:= .int .i64 6,val:=eQ (h 2),born:=2},{key:= .int .i64 7,val:=eQ (h 3),born:=3},{key:= .int .i64 8,val:=eQ (h 4),born:=4},{key:= .int .i64 9,val:=eQ (h 5),born:=5},{key:= .int .i64 10,val:=eQ (h 6),born:=6},{key:= .int .i64 11,val:=eQ (h 7),born:=7}]
theorem U8(h:aF):∀x∈(qI h).toList,∃j,j<8/\x.key= .int .i64 (B3 j)/\x.val=eQ (h j)/\x.born=j:=by
 intro x e;simp only[qI,bH,cE,eK]at e;rcases e with rfl|rfl|rfl|rfl|rfl|rfl|rfl|rfl
 ·exact⟨0,by decide,rfl,rfl,rfl⟩
 ·exact⟨1,by decide,rfl,rfl,rfl⟩
 ·exact⟨2,by decide,rfl,rfl,rfl⟩
 ·exact⟨3,by decide,rfl,rfl,rfl⟩
 ·exact⟨4,by decide,rfl,rfl,rfl⟩
 ·exact⟨5,by decide,rfl,rfl,rfl⟩
 ·exact⟨6,by decide,rfl,rfl,rfl⟩
 ·exact⟨7,by decide,rfl,rfl,rfl⟩
theorem Cw(h:aF)(i:Nat)(e:i<8):∃x∈(qI h).toList,x.born=i:=by
 simp only[qI,bH,cE,eK]
 match i,e with
 |0,_=>exact⟨_,aQ rfl,rfl⟩
 |1,_=>exact⟨_,aM (aQ rfl),rfl⟩
 |2,_=>exact⟨_,aM (aM (aQ rfl)),rfl⟩
 |3,_=>exact⟨_,aM (aM (aM (aQ rfl))),rfl⟩
 |4,_=>exact⟨_,aM (aM (aM (aM (aQ rfl)))),rfl⟩
 |5,_=>exact⟨_,aM (aM (aM (aM (aM (aQ rfl))))),rfl⟩
 |6,_=>exact⟨_,aM (aM (aM (aM (aM (aM (aQ rfl)))))),rfl⟩
 |7,_=>exact⟨_,aM (aM (aM (aM (aM (aM (aM (rfl))))))),rfl⟩
theorem DN(h:aF):(∀x∈(qI h).toList,x.born<8)/\((qI h).toList.map (·.born)).Nodup:=by
 constructor
 ·intro x e;obtain⟨j,w,_,_,a⟩:=U8 h x e;omega
 ·simp[qI]
theorem xN(w:World)(a:aF)(E:aE)(G:aG)(S:SW w a E G)(i:Nat)(hi:i<8):
  Calls prog 37 #[.iface 437 (.pointer (some (a i)))] w λe u=>e= .returned (fv (B3 i) 0)/\Gn w u:=by
 have x5:= @run_makeMap prog;have u0:=λ(d:World) (v:Value)=>vM d #[] 0 1 v rfl;have u1:=λ(d:World) (v g:Value)=>vM d #[{key:= .int .i64 1,val:=g,born:=0}] 1 3 v rfl;have u2:=λ(d:World) (v g l:Value)=>vM d #[{key:= .int .i64 1,val:=g,born:=0},{key:= .int .i64 3,val:=l,born:=1}] 2 6 v rfl;have u3:=λ(d:World) (v g l o:Value)=>vM d #[{key:= .int .i64 1,val:=g,born:=0},{key:= .int .i64 3,val:=l,born:=1},{key:= .int .i64 6,val:=o,born:=2}] 3 7 v rfl;have u4:=λ(d:World) (v g l o q:Value)=>vM d #[{key:= .int .i64 1,val:=g,born:=0},{key:= .int .i64 3,val:=l,born:=1},{key:= .int .i64 6,val:=o,born:=2},{key:= .int .i64 7,val:=q,born:=3}] 4 8 v rfl;have u5:=λ(d:World) (v g l o q D:Value)=>vM d #[{key:= .int .i64 1,val:=g,born:=0},{key:= .int .i64 3,val:=l,born:=1},{key:= .int .i64 6,val:=o,born:=2},{key:= .int .i64 7,val:=q,born:=3},{key:= .int .i64 8,val:=D,born:=4}] 5 9 v rfl;have u6:=λ(d:World) (v g l o q D V:Value)=>vM d #[{key:= .int .i64 1,val:=g,born:=0},{key:= .int .i64 3,val:=l,born:=1},{key:= .int .i64 6,val:=o,born:=2},{key:= .int .i64 7,val:=q,born:=3},{key:= .int .i64 8,val:=D,born:=4},{key:= .int .i64 9,val:=V,born:=5}] 6 10 v rfl;have u7:=λ(d:World) (v g l o q D V a6:Value)=>vM d #[{key:= .int .i64 1,val:=g,born:=0},{key:= .int .i64 3,val:=l,born:=1},{key:= .int .i64 6,val:=o,born:=2},{key:= .int .i64 7,val:=q,born:=3},{key:= .int .i64 8,val:=D,born:=4},{key:= .int .i64 9,val:=V,born:=5},{key:= .int .i64 10,val:=a6,born:=6}] 7 11 v rfl;obtain⟨n0,n1,n2,n3⟩:=rU w;have H:=aS (S.grown (mF w));have R:=aS (W6 (w.heap.size+3) (a i) (oD w) (aT n3) H.hE (aZ (by decide) H.hsz));have l1:=aT n1;have l2:=aT n2;have l0:=aT n0;have B4:=aS n0;clear S n0 n1 n2 n3;unfold oD at R;go_enter func37,ntmps37;go_wp2_with fail;refine R.mono ?_;rintro e w5 ⟨rfl,g5⟩;have L:(oD w).grownBy w5 none:=g5;have I:=aS (H.grown L);have A2:=aS (MR (w.heap.size+1) (a i) w5 (aZ l1 L.size) I.hE (aZ (by decide) I.hsz));have G5:=aS L;clear g5 L R H;go_wp2_with fail;refine A2.mono ?_;rintro e w6 ⟨rfl,X⟩;have J:=aS (I.grown X);have T:=aS (G5.trans X);have A3:=aS (JZ (w.heap.size+2) (a i) w6 (aZ l2 T.size) J.hE (aZ (by decide) J.hsz));clear X A2 I G5;go_wp2_with fail;refine A3.mono ?_;rintro e c ⟨rfl,Y⟩;have m:=J.grown Y;have G7:=aS (T.trans Y);have c0:=λx=>dP m.g0 x;have c1:=λx=>dP m.g1 x;have c2:=λx=>dP m.g2 x;have c3:=λx=>dP m.g3 x;have c4:=λx=>dP m.g4 x;have c5:=λx=>dP m.g5 x;have c6:=λx=>dP m.g6 x;have c7:=λx=>dP m.g7 x
 have n7:c.heap[w.heap.size]? =some (.cells #[.int .i64 0, .int .i64 0, .string (B []), .int .i64 0, .int .i64 0] 23 (0,0)):=by rw[G7.block _ l0 (by simp)];exact B4.out
 have U:=aS m;obtain⟨f,r⟩:∃f,f=c.alloc (.map (qI a) 8):=⟨_,rfl⟩;have h2:f.heap[c.heap.size]? =some (.map (qI a) 8):=by rw[r];exact bY _ _
 have h8:f.heap.size=c.heap.size+1:=by rw[r];simp
 have e2:∀k,k<c.heap.size->f.heap[k]? =c.heap[k]? :=λk n=>by rw[r];exact bQ _ _ _ n
 have w3:=run_range_map (P:=prog) f 149 3 72 c.heap.size (qI a) 8 underlying149 h2;have G0:Hid (w.grownBy f none):=by rw[r];exact((mF w).trans G7.out).trans (aO _ _ _)
 have h7:=w3;rw[r]at h7;unfold qI at h7;clear Y A3 J T m B4;go_wp2_with fail;rw[show(Obj.map #[{key:=Value.int IntKind.i64 1,val:=eQ (a 0),born:=0},{key:=Value.int IntKind.i64 3,val:=eQ (a 1),born:=1},{key:=Value.int IntKind.i64 6,val:=eQ (a 2),born:=2},{key:=Value.int IntKind.i64 7,val:=eQ (a 3),born:=3},{key:=Value.int IntKind.i64 8,val:=eQ (a 4),born:=4},{key:=Value.int IntKind.i64 9,val:=eQ (a 5),born:=5},{key:=Value.int IntKind.i64 10,val:=eQ (a 6),born:=6},{key:=Value.int IntKind.i64 11,val:=eQ (a 7),born:=7}] 8)=Obj.map (qI a) 8 from rfl]at*;rw[<-r];clear w3 h7 u0 u1 u2 u3 u4 u5 u6 u7 x5 c0 c1 c2 c3 c4 c5 c6 c7;have x4:w.heap.size<c.heap.size:=aT n7;have e0:f.heap[w.heap.size]? =some (.cells #[.int .i64 0, .int .i64 0, .string (B []), .int .i64 0, .int .i64 0] 23 (0,0)):=by rw[e2 _ x4];exact n7
 have ea:∀k,k<8->f.heap[(a k).block]? =some (.cells (E k) (G k) (0,0)):=λk n=>by rw[e2 _ (aT (U.hb k n))];exact U.hb k n
 have x2:=aS e0;have e5:=aS ea;have x0:=aS h2;clear r h2 e2 n7 e0 ea
 go_loopw [] (λu=>∃(y:World) (p:Array Nat),y.Alike f/\u=y.alloc (.mapIter (some c.heap.size) 8 p 8)/\Hid (∀x∈(qI a).toList,p.contains x.born=true->x.born≠i)) (λu=>(leftOf (qI a) (u.iterSeen (c.heap.size+1))).size)
 case atStart=>exact⟨f,#[],⟨rfl,rfl,rfl⟩,rfl,λx _ h=>by simp at h⟩
 case round=>
  obtain⟨y,p,s,rfl,e6⟩:=hrel;have w4:y.heap.size=c.heap.size+1:=by rw[s.1];exact h8
  have h3:y.heap[c.heap.size]? =some (.map (qI a) 8):=by rw[s.1];exact x0.out
  have w8:=run_next_map (P:=prog) y 0 c.heap.size 8 8 p (qI a) 8 h3 (DN a).1 (aV _);rw[w4]at w8;rcases w8 with⟨h0,O⟩|⟨e,M,z,C,O⟩
  ·obtain⟨x,Q,x6⟩:=Cw a i hi;exact absurd x6 (e6.out x Q (all_seen _ _ h0 x Q))
  ·obtain⟨j,w0,h5,e1,e9⟩:=U8 a e (mem_left M).1;have h9:z.heap.size=c.heap.size+1:=by rw[C.1,s.1];exact h8
   have e8:z.heap[c.heap.size]? =some (.map (qI a) 8):=by rw[C.1];exact h3
   have N:=run_entry_map (P:=prog) z c.heap.size 8 p (qI a) 8 e e8 (mem_left M).1 (DN a).2;rw[h5,e1]at O;rw[h9,h5,e1]at N;have h6:∀ty,(Instr.next (.pointer (some ⟨c.heap.size+1,0,none⟩)) false ty).run prog (y.alloc (.mapIter (some c.heap.size) 8 p 8))=_:=λ_=>O;have t:z.Alike f:=⟨C.1.trans s.1,C.2.1.trans s.2.1,C.2.2.trans s.2.2⟩;obtain⟨A,F⟩:∃A,A=z.alloc (.mapIter (some c.heap.size) 8 (p.push e.born) 8):=⟨_,rfl⟩;rw[<-F]at h6 N;have e3:∀k,k<c.heap.size+1->A.heap[k]? =f.heap[k]? :=λk n=>by rw[F,bQ _ _ _ (by omega),t.1]
   have W:=x2.out;rw[<-e3 _ (by omega)]at W
   have aX:∀k,k<8->A.heap[(a k).block]? =some (.cells (E k) (G k) (0,0)):=λk n=>by rw[e3 _ (by have:=aT (e5.out k n);omega)];exact e5.out k n
   obtain⟨⟨q0,q1,q2,q3,q4⟩,f0,f1,f2,f3,f4⟩:=eG W;have e4:=aS aX;have e7:=aS F;have w9:=aS t
   have GX:Hid (Gn w A):=by have K:=Gn.of G0.out;show Gn w A;rw[F];exact Gn.trans (b:=z) ⟨t.2.1.trans K.os,t.2.2.trans K.output,by rw[t.1];exact K.size,λk n=>by rw[t.1];exact K.block k n⟩ (Gn.of (aO _ _ _))
   have HE:=aS M;have x1:=aS e9;clear F e3 W aX s C t h3 e8 M h5 e1 e9 O h8;by_cases h4:j=i
   ·subst h4;unfold eQ at h6 N;go_wp2_with (go_at_call 72;refine(Ja _ _).mono ?_;rintro e u ⟨rfl,rfl⟩);refine eN (v:=fv (B3 j) 0) (by simp[results,results37,go_sem,q0,q1,q2,q3,q4];rfl) rfl ?_;exact⟨rfl,GX.out.set5 (aV _) _ _ _ _ _⟩
   ·have x3:=aS (Af (a i) (a j) (E i) (E j) (G i) (G j) A (U.hne i j hi w0 (λe=>h4 e.symm)) (e4.out i hi) (e4.out j w0));unfold eQ at h6 N;go_wp2_with (go_at_call 72;refine x3.mono ?_;rintro e u ⟨rfl,rfl⟩)
    go_roundw
    case rel=>
     refine⟨z,p.push e.born,w9.out,e7.out,λx Q hc=> ?_⟩;rw[contains_push]at hc;rcases l8 _ _▸hc with Z|Z
     ·exact e6.out x Q Z
     ·rw[sQ.1 Z,x1.out];exact h4
    case measure=>rw[e7.out,<-h9,World.iterSeen_alloc,h9,<-w4,World.iterSeen_alloc];exact left_shrinks (qI a) p e HE.out
def jm(s:ByteArray)(x:Ty)(e:aD):Prop:=
 s.size<=300/\∃h,iK (dU fN s) (s.size+2) [] ⟨0,-1⟩=some (x,e,h)/\h.k<(dU fN s).length/\(cL (dU fN s) h eE).bad<0/\∀N m,dJ N m x->cC m x<=120
theorem Cx(s:ByteArray):∃x w e,iK (dU fN s) (s.size+2) [] ⟨0,-1⟩=some (x,w,e)/\e.k<(dU fN s).length:=by obtain⟨h,a,b⟩:=yG fN s (s.size+1) 0 (dG _) (by omega);have c:=uK fN s;exact VH (T:=dU fN s) h (s.size+2) [] ⟨0,-1⟩ (by show(-1:Int)<0;omega) h.1 (by show(dU fN s).length-0<s.size+2;omega)
theorem jm.names{s:ByteArray}{e:aD}(h:jm s x e):Qj e.length e/\e.length<=1000:=by obtain⟨i,w,a,g,c,_⟩:=h;refine⟨Bl a ((j5 _ w eE).2.2 c).1, ?_⟩;have b:=(tW (dU fN s) _ [] ⟨0,-1⟩ x e w (by show(-1:Int)<0;omega) a);have d:=uK fN s;have f:e.length+0<=0+w.k+1:=b.2.2.1;omega
def Cy(w:World)(h:aF)(v:Value)(a b:Int):Prop:=
 (∃i,i<8/\v=eQ (h i)/\a=B3 i/\b=0)\/∃c,v= .iface 134 (.pointer (some ⟨c,0,none⟩))/\w.heap[c]? =some (.cells #[.int .i64 b] 145 (0,0))/\a=2
theorem Cy.val{w:World}{e:aF}{v:Value}{a b:Int}(h:Cy w e v a b):∃t p,v= .iface t (.pointer (some p)):=by
 rcases h with⟨i,_,rfl,_⟩|⟨c,rfl,_⟩
 ·exact⟨_,_,rfl⟩
 ·exact⟨_,_,rfl⟩
theorem jn(s:ByteArray)(x:Ty)(a:aD)(w:World)(c:aF)(i:aE)(q:aG)(S:SW w c i q)(h:jm s x a):
  Calls prog 79 #[.string s] w λe b=>w.grownBy b none/\∃u H m,e= .returned (.tuple #[u, .nilIface])/\Fz H b/\gG a m H u x/\dJ a.length m x/\cC m x<=120:=by
 obtain⟨k,p,n,j,t,l⟩:=h;refine(Ci s k w _ x a p n j (c 4) S.g4 (aZ (by decide) S.hsz)).mono ?_;rintro e b ⟨g,(⟨y,_⟩|⟨_,v,f,m,r,o,ok,(⟨d,_⟩|⟨d,rfl⟩)⟩)⟩
 ·omega
 ·exact absurd (l _ _ ok) (by omega)
 ·exact⟨g,v,f,m,rfl,r,o,ok,d⟩
theorem U9{T:List fI}(o:Sh T){A:List aA->St->Option (Ty×List aA×St)}(d:∀a s t b c,A a s=some (t,b,c)->c.bad<0->(∀n,n∈a->n.length<=8)->∀n,n∈b->n.length<=8)(a:aD)(s:St)(t:Ty)(b:aD)(c:St)
  (h:lT A T a s=some (t,b,c)) (w:c.bad<0) (x:∀n,n∈a->n.length<=8):∀n,n∈b->n.length<=8:=by
 unfold lT at h;split at h
 ·cases h;exact x
 ·split at h
  ·cases h;exact x
  ·split at h
   ·cases e:A a s.up with
    |none=>rw[e]at h;cases h
    |some q=>obtain⟨z,l,g⟩:=q;rw[e]at h;cases h;exact d _ _ _ _ _ e ((j5 T g yx).2.2 w).1 x
   ·split at h
    ·cases e:A a s.up with
     |none=>rw[e]at h;cases h
     |some q=>
      obtain⟨z,l,g⟩:=q;rw[e]at h;simp only at h;split at h
      ·rename_i p
       cases i:A l g.up with
       |none=>rw[i]at h;cases h
       |some v=>obtain⟨E,D,y⟩:=v;rw[i]at h;cases h;exact d _ _ _ _ _ i ((j5 T y eO).2.2 w).1 (d _ _ _ _ _ e (tV p) x)
      ·cases h;exact d _ _ _ _ _ e ((j5 T g eO).2.2 w).1 x
    ·cases h
     have j:fW T s bK=true:=by
      cases r:fW T s bK with
      |true=>rfl
      |false=>have C:=((j5 T s bK).2.2 w).2;have m:=((j5 T s bK).2.2 w).1;rw[cL,aN (by rw[r];decide),aR m]at w;exact absurd w (by show¬((tk T s.k).pos:Int)<0;omega)
     have u:(tk T s.k).is=bK:=by simp only[fW,cY,sQ]at j;exact j.2
     intro n f;unfold pU at f;split at f
     ·exact x n f
     ·rcases cH.1 f with h|h
      ·exact x n h
      ·rw[bF.1 h];exact o s.k (aQ u)
theorem C7{T:List fI}(x:Sh T):∀(n:Nat) (w:aD) (s:St) (t:Ty) (b:aD) (c:St),iK T n w s=some (t,b,c)->c.bad<0->(∀n,n∈w->n.length<=8)->∀n,n∈b->n.length<=8
 |0,_,_,_,_,_,h,_,_=>by cases h
 |n+1,w,s,t,b,c,h,hb,d=>by
  rw[iK]at h
  cases e:lT (iK T n) T w s with
  |none=>rw[e]at h;cases h
  |some q=>
   obtain⟨l,f,g⟩:=q;rw[e]at h;simp only at h;split at h
   ·rename_i i;have j:=U9 x (C7 x n) w s l f g e (tV i) d
    cases a:iK T n f g.up with
    |none=>rw[a]at h;cases h
    |some k=>obtain⟨p,m,o⟩:=k;rw[a]at h;cases h;exact C7 x n _ _ _ _ _ a hb j
   ·cases h;exact U9 x (C7 x n) w s _ _ _ e hb d
theorem jm.short{s:ByteArray}{e:aD}(h:jm s x e):∀i,i<e.length->(e.getD i []).length<=300:=by obtain⟨k,w,d,j,b,_⟩:=h;obtain⟨f,a,g⟩:=yG fN s (s.size+1) 0 (dG _) (by omega);intro i c;have:=C7 (T:=dU fN s) a _ [] ⟨0,-1⟩ x e w d ((j5 _ w eE).2.2 b).1 (by simp) _ (xJ c);omega
theorem QI{N a m e:Nat}{t:Ty}(w:aD)(h:dJ N m t)(b:dJ a e t):cJ m w t=cJ e w t:=by
 rcases JF m e with x|x
 ·exact(dJ.text w m e t h x).symm
 ·exact dJ.text w e m t b x
theorem LS{f x:Ty->Ty->List (Option aA)->Option (List (Option aA))}:∀(e w:List Ty),(∀a b g,a∈e->b∈w->f a b g=x a b g)->∀g,mC f e w g=mC x e w g
 |[],w,_,g=>by simp[mC]
 |a::e,[],_,g=>by simp[mC]
 |a::e,b::w,h,g=>by
  rw[mC,mC,h a b g (by simp) (by simp)]
  cases x a b g with
  |none=>rfl
  |some g1=>exact LS e w (λa b g c d=>h a b g (bE _ c) (bE _ d)) g1
theorem EN{o p j k M e:Nat}{i:aD}:∀(n c:Nat) (x y:Ty) (g:aK),dJ o n x->dJ p c x->dJ j M y->dJ k e y->iL M i n x y g=iL e i c x y g
 |0,_,_,_,_,h,_,_,_=>absurd h id
 |n+1,0,_,_,_,_,h,_,_=>absurd h id
 |n+1,c+1,x,y,g,h1,h2,d,f=>by
  by_cases w:x.kind=[]
  ·rw[yP w,yP w,QI i d f]
  ·rw[iL,iL,aN w,aN w];split
   ·refine LS _ _ (λa b g l m=> ?_) g
    have q:dJ j M b:=by
     cases M with
     |zero=>exact absurd d id
     |succ M=>exact dJ.up M b (JV d m)
    have r:dJ k e b:=by
     cases e with
     |zero=>exact absurd f id
     |succ e=>exact dJ.up e b (JV f m)
    exact EN n c a b g (JV h1 l) (JV h2 l) q r
   ·rfl
def InO(w a:World)(b:aF)(c:aD)(e:Ending)(x:Option (List (Option aA))):Prop:=
 w.grownBy a none/\((x=none/\e= .returned (.tuple #[.map none,eQ (b 7)]))\/∃g h,x=some g/\e= .returned (.tuple #[.map (some h), .nilIface])/\FM a h c g)
theorem Ko(G H:ByteArray)(x y:Ty)(j k:aD)(K t Nx Ny:Nat)(w:World)(a:aF)(A:aE)(I:aG)(S:SW w a A I)(D:jm G x j)(p:jm H y k)(X:dJ Nx K x)(Y:dJ Ny t y):
  Calls prog 47 #[.string G, .string H] w λe w'=>InO w w' a j e (iL t k K x y (List.replicate j.length none)):=by
 have O:=aS (jn G x j w a A I S D);have o:=aS S;obtain⟨n1,Z⟩:=D.names;obtain⟨n2,l2⟩:=p.names;have W:=p.short;obtain⟨h0,E⟩:∃h0,h0=iL t k K x y (List.replicate j.length none):=⟨_,rfl⟩;rw[<-E];have h4:=aS E;clear E;have n:=aS (aL n1.nd (aL Z W));have KX:=aS (aL X Y);clear S D n1 Z n2 l2 W X Y;go_enter func47,ntmps47;go_wp2_with fail;refine O.mono ?_;rintro e w1 ⟨C,u,H1,b,rfl,d,c,l,_⟩;obtain⟨tu,bu,_,rfl,_⟩:=c.val d;have M:=aS (jn H y k w1 a A I (o.grown C) p);have m:=aS C;have L:=aS (aL d (aL c l));clear C d c l O p;go_wp2_with fail;refine M.mono ?_;rintro e w2 ⟨f,v,H2,h,rfl,J,F,q,h6⟩;obtain⟨tv,bv,_,rfl,_⟩:=F.val J;obtain⟨d,c,l⟩:=L.out;obtain⟨h3,Q,R⟩:=WG (d.grown f) J;have U:b<=max b h:=by omega
 have z:=Kl (N:=k.length) n.2.2 n.1 n.2.1 (KC H1 H2) _ _ x y w2 (gG.ext Q _ _ _ c) ((gG.ext R _ _ _ F).le (show h<=max b h by omega)) (q.le (by omega)) (by rw[dJ.size h (max b h) y q (by omega)];omega) U h3;rw[EN b K x y _ l KX.1 (q.le (show h<=max b h by omega)) KX.2,<-h4.out]at z;have r:=aS z;have V:w2.cell? ⟨9,0,none⟩=some (eQ (a 7)):=((o.grown m.out).grown f).g7;have S2:=aS ((o.grown m.out).grown f);have P:=aS (m.trans f);clear f J F q h6 d c l h3 Q R U z M L m KX n o;go_wp2_with fail;refine r.mono ?_;rintro e w3 ⟨i,(⟨rfl,rfl⟩|⟨g,mb,rfl,rfl,T⟩)⟩
 ·have h5:w3.cell? ⟨9,0,none⟩=some (eQ (a 7)):=(S2.grown i).g7;unfold eQ at h5;have s:=aS i;clear i r V;go_wp2_with fail
  go_region
  go_wp2
  go_ret2
  exact⟨cZ (P.trans s.out),aQ ⟨rfl,rfl⟩⟩
 ·have s:=aS i;have HF:=aS T;clear i r V T;go_wp2
  go_ret2
  exact⟨P.trans s.out,aM ⟨g,mb,rfl,rfl,HF.out⟩⟩
theorem IM{N:Nat}(w:N<=260)(ok:dJ N n x)(g:cQ n x []=List.range N)(f:(cJ n (eW N) x).length<=300)(b:cC n x<=120):jm (B (cJ n (eW N) x)) x (eW N):=by
 obtain⟨j,e,c,d⟩:=U0 (vL w) DM ok;have a:=NI w n x 0 N ok g (aV _);rw[show eW 0=[]from rfl]at a;rw[a]at e;refine⟨by rw[dY];exact f,j,e,c,d,λk m i=> ?_⟩;rcases JF m n with h|h
 ·rw[<-dJ.size m n x i h];exact b
 ·rw[dJ.size n m x ok h];exact b
def Xv(w a:World)(d:aD)(h:St)(e:Ending)(x:Ty)(c:Addr):Prop:=
 w.grownBy a none/\((0<=h.bad/\∃b,e= .returned (.tuple #[.string (B []), .iface 134 (.pointer (some ⟨b,0,none⟩))])/\a.heap[b]? =some (.cells #[.int .i64 h.bad] 145 (0,0)))\/
  (h.bad<0/\∃m,dJ d.length m x/\((120<cC m x/\e= .returned (.tuple #[.string (B []),eQ c]))\/(cC m x<=120/\e= .returned (.tuple #[.string (B (fJ m x)), .nilIface])))))
theorem Kp(s:ByteArray)(E:s.size<=300)(w:World)(n:Nat)(x:Ty)(f:aD)(d:St)(o:iK (dU fN s) n [] ⟨0,-1⟩=some (x,f,d))(u:d.k<(dU fN s).length)(l:Addr)(t:w.cell? ⟨6,0,none⟩=some (eQ l))(D:6<w.heap.size):
  Calls prog 42 #[.string s] w λe F=>Xv w F f (cL (dU fN s) d eE) e x l:=by
 have g:=aS (Ci s E w n x f d o u l t D);have y:=BQ n [] ⟨0,-1⟩ x f d o (by simp);have C:=aS y;clear o t u y;generalize cL (dU fN s) d eE=I at*;go_enter func42,ntmps42;go_wp2_with fail;refine g.mono ?_;rintro e G ⟨a,(⟨h,b,rfl,r⟩|⟨h,v,A,m,j,i,ok,(⟨c,rfl⟩|⟨c,rfl⟩)⟩)⟩
 ·have Q:=aS (aL a (aL h r));clear a h r g;go_wp2
  go_ret2
  exact⟨Q.1,aQ ⟨Q.2.1,b,rfl,Q.2.2⟩⟩
 ·have Q:=aS (aL a (aL h (aL ok c)));clear a h j i ok c g;unfold eQ;go_wp2
  go_ret2
  obtain⟨a,h,ok,c⟩:=Q.out;exact⟨a,aM ⟨h,m,ok,aQ ⟨c,rfl⟩⟩⟩
 ·have p:=aS (vz f C.out m A v x G i j ok (by omega));obtain⟨J,H,_,rfl,_⟩:=i.val j;have Q:=aS (aL a (aL h (aL ok c)));clear a h j i ok c g;go_wp2_with fail;refine p.mono ?_;rintro e K ⟨rfl,q⟩;have z:=aS q;clear q p;go_wp2
  go_ret2
  obtain⟨a,h,ok,c⟩:=Q.out;exact⟨a.trans z.out,aM ⟨h,m,ok,aM ⟨c,rfl⟩⟩⟩
def Ux(w a:World)(N:Nat)(h:St)(e:Ending)(x:Ty):Prop:=
 Gn w a/\((0<=h.bad/\e= .returned (.tuple #[.string (B []),fv 2 h.bad]))\/
  (h.bad<0/\∃m,dJ N m x/\((120<cC m x/\e= .returned (.tuple #[.string (B []),fv 8 0]))\/(cC m x<=120/\e= .returned (.tuple #[.string (B (fJ m x)),fv 0 0])))))
theorem Cz(s:ByteArray)(hs:s.size<=300)(w:World)(n:Nat)(x:Ty)(I:aD)(r:St)(V:iK (dU fN s) n [] ⟨0,-1⟩=some (x,I,r))(U:r.k<(dU fN s).length)(y:aF)(E:aE)(J:aG)(S:SW w y E J):
  Calls prog 18 #[.string s] w λe w'=>Ux w w' I.length (cL (dU fN s) r eE) e x:=by
 have F:w.grownBy (w.alloc (.cells #[.int .i64 0, .int .i64 0, .string (B []), .int .i64 0, .int .i64 0] 23)) none:=aO _ _ _;have u:=S.grown F;have D:=aS (Kp s hs _ n x I r V U (y 4) u.g4 (aZ (by decide) u.hsz));have Z:=aS u;have W:=aS F;clear V S u F U;generalize (cL (dU fN s) r eE)=s2 at D⊢;go_enter func18,ntmps18;go_wp2_with fail;refine D.mono ?_;rintro e A ⟨z,ho⟩;have L:=aS (Z.grown z);have C:=aS (W.trans z)
 have d:A.heap[w.heap.size]? =some (.cells #[.int .i64 0, .int .i64 0, .string (B []), .int .i64 0, .int .i64 0] 23 (0,0)):=by rw[z.block _ (by simp) (by simp)];exact bY _ _
 have H:=aT d;clear z D;rcases ho with⟨c,b,rfl,T⟩|⟨c,m,ok,(⟨i,rfl⟩|⟨i,rfl⟩)⟩
 ·have f:=aS (KA A y E J L.out b _ T);have X:=aS c;clear T c;go_wp2_with fail;refine f.mono ?_;rintro e t ⟨rfl,h⟩
  have a:t.heap[w.heap.size]? =some (.cells #[.int .i64 0, .int .i64 0, .string (B []), .int .i64 0, .int .i64 0] 23 (0,0)):=by rw[(Gn.of h).block _ H];exact d
  obtain⟨⟨j,l,o,p,q⟩,M,N,O,P,R⟩:=eG a;have g:=aS ((Gn.of C.out).trans (Gn.of h));clear h a d;unfold fv;go_wp2;refine eN (v:= .tuple #[.string (B []),fv 2 s2.bad]) (by simp[results,results18,go_sem,j,l,o,p,q];rfl) rfl ?_;exact⟨g.set5 (aV _) _ _ _ _ _,aQ ⟨X.out,rfl⟩⟩
 ·have f:=aS (xN A y E J L.out 4 (by decide));have Q:=aS (aL c (aL ok i));clear c ok i;unfold eQ at f⊢;go_wp2_with fail;refine f.mono ?_;rintro e t ⟨rfl,h⟩
  have a:t.heap[w.heap.size]? =some (.cells #[.int .i64 0, .int .i64 0, .string (B []), .int .i64 0, .int .i64 0] 23 (0,0)):=by rw[h.block _ H];exact d
  obtain⟨⟨j,l,o,p,q⟩,M,N,O,P,R⟩:=eG a;have g:=aS ((Gn.of C.out).trans h);clear h a d;rw[show B3 4=8 from rfl];unfold fv;go_wp2;refine eN (v:= .tuple #[.string (B []),fv 8 0]) (by simp[results,results18,go_sem,j,l,o,p,q];rfl) rfl ?_;exact⟨g.set5 (aV _) _ _ _ _ _,aM ⟨Q.1,m,Q.2.1,aQ ⟨Q.2.2,rfl⟩⟩⟩
 ·have f:=aS (BU A);have Q:=aS (aL c (aL ok i));obtain⟨K,G⟩:∃K,K=fJ m x:=⟨_,rfl⟩;rw[<-G];have Y:=aS G;clear c ok i G;go_wp2_with fail;refine f.mono ?_;rintro e t ⟨rfl,h⟩
  have a:t.heap[w.heap.size]? =some (.cells #[.int .i64 0, .int .i64 0, .string (B []), .int .i64 0, .int .i64 0] 23 (0,0)):=by rw[(Gn.of h).block _ H];exact d
  obtain⟨⟨j,l,o,p,q⟩,M,N,O,P,R⟩:=eG a;have g:=aS ((Gn.of C.out).trans (Gn.of h));clear h a d;unfold fv;go_wp2;refine eN (v:= .tuple #[.string (B K),fv 0 0]) (by simp[results,results18,go_sem,j,l,o,p,q];rfl) rfl ?_;exact⟨g.set5 (aV _) _ _ _ _ _,aM ⟨Q.1,m,Q.2.1,aM ⟨Q.2.2,by rw[Y.out]⟩⟩⟩
theorem Da(w:World)(x:aF)(d:aE)(f:aG)(S:SW w x d f){v:Value}{a b:Int}(h:Cy w x v a b):Calls prog 37 #[v] w λe g=>e= .returned (fv a b)/\Gn w g:=by
 rcases h with⟨i,m,rfl,rfl,rfl⟩|⟨c,rfl,l,rfl⟩
 ·exact xN w x d f S i m
 ·refine(KA w x d f S c b l).mono ?_;rintro e g ⟨j,k⟩;exact⟨j,Gn.of k⟩
theorem map_nil(w:World):(binOp .eql 93 (.map none) (.map none)).run prog w= .ok (.bool true) w:=by kernel_rfl
theorem map_some(b:Nat)(w:World):(binOp .eql 93 (.map (some b)) (.map none)).run prog w= .ok (.bool false) w:=by kernel_rfl
theorem Db(h:Option Nat)(W:World):Calls prog 49 #[.map h] W λe w=>e= .returned (.func (.func 87) #[] #[.pointer (some ⟨W.heap.size,0,none⟩)])/\w=W.alloc (.cells #[.map h] 93):=
 callsIn_wide.1 (Tryz.maps_Keys_49 h W)
def Uy(w a:World)(x:St)(e:Ending)(h:Ex):Prop:=
 Gn w a/\((0<=x.bad/\e= .returned (.tuple #[.string (B []),fv 2 x.bad]))\/
  (x.bad<0/\∀m,qD m h->((40<cA m h/\e= .returned (.tuple #[.string (B []),fv 3 0]))\/(cA m h<=40/\e= .returned (.tuple #[.string (B (cP m h)),fv 0 0])))))
theorem ph(s:ByteArray)(hs:s.size<=300)(w:World)(n:Nat)(i:Ex)(t:St)(hx:fC (dU dL s) n ⟨0,-1⟩=some (i,t))(N:(cL (dU dL s) t eE).bad<0->∃m c,pD m i c/\c<=400)(A:aF)(K:aE)(Q:aG)(S:SW w A K Q):
  Calls prog 14 #[.string s] w λe w'=>Uy w w' (cL (dU dL s) t eE) e i:=by
 have L:w.grownBy (w.alloc (.cells #[.int .i64 0, .int .i64 0, .string (B []), .int .i64 0, .int .i64 0] 23)) none:=aO _ _ _;have z:=S.grown L;have H:=aS (Qt s hs _ n i t hx N (A 1) z.g1 (aZ (by decide) z.hsz));have SH:=aS z;have G0:=aS L;have T:=aS N;clear hx S z L N;generalize (cL (dU dL s) t eE)=s2 at H T⊢;go_enter func14,ntmps14;go_wp2_with fail;refine H.mono ?_;rintro e F ⟨C,ho⟩;have U:=aS (SH.grown C);have G:=aS (G0.trans C)
 have d:F.heap[w.heap.size]? =some (.cells #[.int .i64 0, .int .i64 0, .string (B []), .int .i64 0, .int .i64 0] 23 (0,0)):=by rw[C.block _ (by simp) (by simp)];exact bY _ _
 have P:=aT d;clear C H;rcases ho with⟨a,b,rfl,h0⟩|⟨a,M⟩
 ·have f:=aS (KA F A K Q U.out b _ h0);have y:=aS a;clear h0 a;go_wp2_with fail;refine f.mono ?_;rintro e u ⟨rfl,h⟩
  have x:u.heap[w.heap.size]? =some (.cells #[.int .i64 0, .int .i64 0, .string (B []), .int .i64 0, .int .i64 0] 23 (0,0)):=by rw[(Gn.of h).block _ P];exact d
  obtain⟨⟨l,o,p,q,r⟩,V,W,X,Y,Z⟩:=eG x;have g:=aS ((Gn.of G.out).trans (Gn.of h));clear h x d;unfold fv;go_wp2;refine eN (v:= .tuple #[.string (B []),fv 2 s2.bad]) (by simp[results,results14,go_sem,l,o,p,q,r];rfl) rfl ?_;exact⟨g.set5 (aV _) _ _ _ _ _,aQ ⟨y.out,rfl⟩⟩
 ·obtain⟨m,c,E,_⟩:=T.out a;have y:=aS a;have J:=aS E.shape;rcases M m E.shape with⟨j,rfl⟩|⟨j,rfl⟩
  ·have f:=aS (xN F A K Q U.out 1 (by decide));have I:=aS j;clear a M j E;unfold eQ at f⊢;go_wp2_with fail;refine f.mono ?_;rintro e u ⟨rfl,h⟩
   have x:u.heap[w.heap.size]? =some (.cells #[.int .i64 0, .int .i64 0, .string (B []), .int .i64 0, .int .i64 0] 23 (0,0)):=by rw[(h).block _ P];exact d
   obtain⟨⟨l,o,p,q,r⟩,V,W,X,Y,Z⟩:=eG x;have g:=aS ((Gn.of G.out).trans (h));clear h x d;rw[show B3 1=3 from rfl];unfold fv;go_wp2;refine eN (v:= .tuple #[.string (B []),fv 3 0]) (by simp[results,results14,go_sem,l,o,p,q,r];rfl) rfl ?_;exact⟨g.set5 (aV _) _ _ _ _ _,aM ⟨y.out,λk D=>aQ ⟨by rw[(lZ D J.out).2];exact I.out,rfl⟩⟩⟩
  ·have f:=aS (BU F);have I:=aS j;obtain⟨R,O⟩:∃R,R=cP m i:=⟨_,rfl⟩;rw[<-O];have h1:=aS O;clear a M j E O;go_wp2_with fail;refine f.mono ?_;rintro e u ⟨rfl,h⟩
   have x:u.heap[w.heap.size]? =some (.cells #[.int .i64 0, .int .i64 0, .string (B []), .int .i64 0, .int .i64 0] 23 (0,0)):=by rw[(Gn.of h).block _ P];exact d
   obtain⟨⟨l,o,p,q,r⟩,V,W,X,Y,Z⟩:=eG x;have g:=aS ((Gn.of G.out).trans (Gn.of h));clear h x d;unfold fv;go_wp2;refine eN (v:= .tuple #[.string (B R),fv 0 0]) (by simp[results,results14,go_sem,l,o,p,q,r];rfl) rfl ?_;exact⟨g.set5 (aV _) _ _ _ _ _,aM ⟨y.out,λk D=>aM ⟨by rw[(lZ D J.out).2];exact I.out,by rw[h1.out,(lZ D J.out).1]⟩⟩⟩
theorem jo(s:ByteArray)(q:300<s.size)(w:World)(a:aF)(i:aE)(k:aG)(S:SW w a i k):
  Calls prog 14 #[.string s] w λe C=>e= .returned (.tuple #[.string (B []),fv 1 0])/\Gn w C:=by
 have b:w.grownBy (w.alloc (.cells #[.int .i64 0, .int .i64 0, .string (B []), .int .i64 0, .int .i64 0] 23)) none:=aO _ _ _;have h:=S.grown b;have g:=aS (ji s q _ (a 0) h.g0 (aZ (by decide) h.hsz));have p:=aS h;have m:=aS b;clear S h b;go_enter func14,ntmps14;go_wp2_with fail;refine g.mono ?_;rintro e l ⟨rfl,x⟩
 have d:l.heap[w.heap.size]? =some (.cells #[.int .i64 0, .int .i64 0, .string (B []), .int .i64 0, .int .i64 0] 23 (0,0)):=by rw[x.block _ (by simp) (by simp)];exact bY _ _
 have r:=aT d;have f:=aS (xN l a i k (p.grown x) 0 (by decide));have n:=aS (m.trans x);clear x g;unfold eQ at f⊢;go_wp2_with fail;refine f.mono ?_;rintro e D ⟨rfl,c⟩
 have j:D.heap[w.heap.size]? =some (.cells #[.int .i64 0, .int .i64 0, .string (B []), .int .i64 0, .int .i64 0] 23 (0,0)):=by rw[(c).block _ r];exact d
 obtain⟨⟨t,u,y,z,A⟩,E,F,G,H,I⟩:=eG j;have o:=aS ((Gn.of n.out).trans (c));clear c j d;rw[show B3 0=1 from rfl];unfold fv;go_wp2;refine eN (v:= .tuple #[.string (B []),fv 1 0]) (by simp[results,results14,go_sem,t,u,y,z,A];rfl) rfl ?_;exact⟨rfl,o.set5 (aV _) _ _ _ _ _⟩
theorem B5(s:ByteArray)(l:s.size<=300):∃x w,fC (dU dL s) (s.size+2) ⟨0,-1⟩=some (x,w)/\((cL (dU dL s) w eE).bad<0->∃m c,pD m x c/\c<=400):=by
 obtain⟨a,b,i⟩:=yG dL s (s.size+1) 0 (dG _) (by omega);have j:=uK dL s;obtain⟨x,w,e,r⟩:=oi (T:=dU dL s) a b (by omega) (s.size+2) ⟨0,-1⟩ ⟨a.1,aQ (by show(dU dL s).length-0+1<=s.size+2;omega)⟩;refine⟨x,w,e,λd=> ?_⟩
 have f:w.bad<0:=by
  rcases Int.lt_or_le w.bad 0 with h|h
  ·exact h
  ·rw[iA h]at d;omega
 obtain⟨_,_,m,g⟩:=r.2.2 f;exact⟨m,_,g,by have:=r.2.1;show w.k-0<=400;omega⟩
end Go.Proofs.YtcdijppegfcoaaaGreatDoor
