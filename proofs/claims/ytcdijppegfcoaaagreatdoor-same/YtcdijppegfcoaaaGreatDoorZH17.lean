import Derived.Test.YtcdijppegfcoaaaGreatDoorZH15
import Derived.Test.YtcdijppegfcoaaaGreatDoorZH16
set_option maxRecDepth 100000
set_option maxHeartbeats 4000000
set_option linter.unusedSimpArgs false
namespace Go.Proofs.YtcdijppegfcoaaaGreatDoor
open Go.RowKit Tryz
variable{σ:bM}{d:Nat->Nat}{H':Nat->Option Obj}{o:Option Et}{i other:Nat}{u:Value}{x y:Et}
theorem Qm{H:aB}{f:aC}{σ:bM}{d:aI}{v:Value}{t:Et}{w:World}(h:ER H f v t)(k:fY H f σ d w):
  ∃c b F a,v= .iface c (.pointer (some ⟨b,0,none⟩))/\a.length<=2/\KR H f a (fH σ t)/\oe H f σ d c b F a w:=by
 obtain⟨m,h⟩:=h
 cases m with
 |zero=>exact absurd h id
 |succ m=>
 by_cases x:t.kind=cM
 ·obtain⟨b,h⟩:=h;rcases h with⟨e,r,l,n⟩|⟨e,_⟩|⟨e,_⟩|⟨e,_⟩|⟨e,_⟩|⟨e,_⟩
  ·obtain⟨a,i,o,j⟩:=yI (σ:=σ) (d:=d) l k;have g:fH σ t=fH σ (cT t.num):=by unfold fH;rw[aR x,aR (show(cT t.num).kind=cM from rfl)];rfl
   exact⟨_,b,_,a,n,i,by rw[g];exact o,λw=>od b w,j,aM (aM (aM (aM (aM rfl))))⟩
  ·exact absurd (e.symm.trans x) (by decide)
  ·rcases e with e|e<;>exact absurd (e.symm.trans x) (by decide)
  ·exact absurd (e.symm.trans x) (by decide)
  ·exact absurd (e.symm.trans x) (by decide)
  ·exact absurd (e.symm.trans x) (by decide)
 ·obtain⟨c,b,F,a,i,_,j,p,q,s⟩:=E9 σ d h x;have g:fH σ t=t.kids:=by unfold fH;rw[aN x]
  exact⟨c,b,F,a,i,j,by rw[g];exact p,q w k⟩
theorem DL{R:Et->Int->Option Int}(hR:∀t l r,0<=l->R t l=some r-> -1<=r/\r<l):∀(x:List Et) (l r:Int),-1<=l->jF R x l=some r-> -1<=r/\r<=l
 |[],l,r,h,e=>by cases e;omega
 |t::x,l,r,h,e=>by
  rw[jF]at e;split at e
  ·cases e;omega
  ·rename_i d
   cases w:R t l with
   |none=>rw[w]at e;cases e
   |some a=>rw[w]at e;have b:=hR t l a (by omega) w;have c:=DL hR x a r b.1 e;omega
theorem EJ(w:bM):∀(f:Nat) (t:Et) (l r:Int),0<=l->lP w f t l=some r-> -1<=r/\r<l
 |0,_,_,_,_,e=>by cases e
 |f+1,t,l,r,h,e=>by have:=DL (EJ w f) (fH w t) (l-1) r (by omega) e;omega
theorem dT.lt{H:aB}{e:aC}{w:World}(h:fY H e σ d w){k:Nat}(a:dT e k):k<w.heap.size:=by obtain⟨i,x⟩:=wQ a;obtain⟨v,b,_⟩:=h.blk i k x;exact aT b
theorem Up{H:aB}{m:aC}{σ:bM}{d:aI}:∀(f:Nat) (t:Et) (v:Value) (l r:Int) (w:World),ER H m v t->lP σ f t l=some r->0<=l->l<=100000->fY H m σ d w->
  Calls prog 143 #[v, .int .i64 l] w λe N=>e= .returned (.int .i64 r)/\fY H m σ d N/\Gb (dT m) w N:=by
 intro f
 induction f with
 |zero=>intro t v l r w _ h;cases h
 |succ f ih=>
  intro t v l r w hv Z e6 e7 G;obtain⟨T0,b,F,a,rfl,e8,V,X,U,hF⟩:=Qm (σ:=σ) (d:=d) hv G;have e0:=X w;have s:=aS U;have z:=aS V;have IH:=aS ih;have h0:jF (lP σ f) (fH σ t) (l-1)=some r:=Z;have P:=aS h0;have HC:=aS G;clear hv Z G X U ih h0 V;unfold CP at s;rcases hF with rfl|rfl|rfl|rfl|rfl|rfl
  all_goals
   go_enter func143,ntmps143;go_wp2_with fail;refine s.mono ?_;rintro e q ⟨r1,r2,r3⟩;have C:=aS (aL r1 r2)
   obtain⟨D,R,he,h2⟩:∃D R,e= .returned (.slice D a.length R)/\∀(j:Nat) (u:Value),a[j]? =some u->∃c,D=some ⟨c,0,none⟩/\c<q.heap.size/\¬dT m c/\q.cell? ⟨c,j,none⟩=some u:=by
    rcases r3 with⟨rfl,rfl⟩|⟨c,rfl,q1,q2⟩
    ·exact⟨none,0,rfl,λj u h=>by simp at h⟩
    ·refine⟨_,_,rfl,λj u h=>⟨c,rfl,aT q2,λhk=> ?_, ?_⟩⟩
     ·have:=dT.lt HC.out hk;omega
     ·rw[FH q c j _ _ _ q2];simpa using h
   subst he;have h5:=aS h2;clear h2 r1 r2 r3 s e0;go_wp2_with fail
   go_loopg [1,12] (a.length+1) (λgh v i wi=>∃(j:Nat) (k:Int),j<=a.length/\i= .int .i64 j/\gh=a.length-j+1/\ -1<=k/\k<=100000/\Hid (jF (lP σ f) ((fH σ t).drop j) k=some r)/\v= .int .i64 k/\Hid (fY H m σ d wi/\Gb (dT m) q wi))
   case atStart=>exact⟨0,l-1,by omega,rfl,by omega,by omega,by omega,P,by first|rfl|(congr 1)|(go_num),aS ⟨C.1,Gb.refl _ _⟩⟩
   case round=>
    obtain⟨j,k,hj,rfl,e4,e5,h9,A,rfl,g⟩:=hrel;by_cases W:j<a.length
    ·obtain⟨u,p⟩:∃u,a[j]? =some u:=⟨a[j],aP W⟩;have K:j<(fH σ t).length:=by rw[<-z.1];exact W
     obtain⟨y,o⟩:∃y,(fH σ t)[j]? =some y:=⟨_,aP K⟩;obtain⟨c,rfl,h6,h7,I⟩:=h5.out j u p;have e3:wr.cell? ⟨c,j,none⟩=some u:=g.out.2.cell I h6 h7;have L:=z.2 j u y p o
     have J:(fH σ t).drop j=y::(fH σ t).drop (j+1):=by rw[cO K];rw[aP K]at o;rw[aY o]
     have x:=A.out;rw[J,jF]at x;by_cases Y:k<0
     ·rw[aR Y]at x;have E:=aY x;subst E;clear x p o L J I A P;go_wp2;go_ret;exact⟨rfl,g.out.1,C.2.tr g.out.2⟩
     ·rw[aN Y]at x
      cases n:lP σ f y k with
      |none=>rw[n]at x;cases x
      |some M=>
       rw[n]at x;have e2:=EJ σ f y k M (by omega) n;have h3:=aS (IH.out y u k M wr L n (by omega) h9 g.out.1);have h4:=aS x;clear x p o L J I n;go_wp2_with fail;refine h3.mono ?_;rintro e N ⟨rfl,Q,S⟩;have O:=aS (aL Q S);clear Q S;go_wp2_with fail
       go_roundg (a.length-(j+1)+1)
       case measure=>omega
       case rel=>exact⟨j+1,M,by omega,by go_num,rfl,by omega,by omega,h4,rfl,aS ⟨O.1,g.out.2.tr O.2⟩⟩
    ·have h8:j=a.length:=by omega
     subst h8
     have E:r=k:=by have T:=A.out;rw[z.1,lR]at T;exact(aY T).symm
     subst E;go_wp2;go_ret;exact⟨rfl,g.out.1,C.2.tr g.out.2⟩
def JY(h:bM)(t:Et):Option Bool:=match lP h 130 t 120 with
 |none=>none
 |some r=>some (decide (r<0))
theorem Xq{H:aB}{b:aC}{a:bM}{d:aI}{t:Et}{v:Value}{q:Bool}{w:World}(k:ER H b v t)(h:JY a t=some q)(j:fY H b a d w):
  Calls prog 111 #[v] w λe l=>e= .returned (.bool q)/\fY H b a d l/\Gb (dT b) w l:=by
 unfold JY at h
 cases x:lP a 130 t 120 with
 |none=>rw[x]at h;cases h
 |some r=>rw[x]at h;have m:=aY h;subst m;have c:=aS (Up 130 t v 120 r w k x (by decide) (by decide) j);have n:=EJ a 130 t 120 r (by decide) x;clear k h j x;go_enter func111,ntmps111;go_wp2_with fail;refine c.mono ?_;rintro e o ⟨rfl,g,i⟩;have f:=aS (aL g i);clear g i c;go_wp2;go_ret;exact⟨rfl,f.1,f.2⟩
theorem zK.ext{H:aB}{w a:aC}{v:Value}(h:zK H w o v)(e:∀k x,H k=some x->H' k=some x)(i:w<+:a):zK H' a o v:=by
 rcases h with h|⟨j,b,c,d,f,g⟩
 ·exact aQ h
 ·exact aM ⟨j,b,c,d,f,g.ext (aV _) e i _ _ _⟩
theorem CV.ext{H:aB}{f g:aC}{v:Value}(h:CV H f σ d i v)(e:∀k x,H k=some x->H' k=some x)(l:f<+:g):CV H' g σ d i v:=by
 rcases h with⟨w,a⟩|⟨j,c,b,w,a,m,n,o,p⟩
 ·exact aQ ⟨w,a.ext e l⟩
 ·exact aM ⟨j,c,b,w,a,m,jD l n,o,p⟩
theorem fY.more{H:aB}{b:aC}{w:World}(h:fY H b σ d w)(e:∀k x,H k=some x->H' k=some x)(f:Fz H' w)(g:∀a,a∈b->H' a=none):fY H' b σ d w:=
 ⟨f,h.len,h.lenc,h.nd,g,h.few,h.rr,λi a c=>by
  obtain⟨v,j,l⟩:=h.blk i a c
  exact⟨v,j,l.ext e (dD _)⟩⟩
theorem fY.new{H:aB}{g:aC}{w p:World}{v:Value}{a:Nat}(h:fY H g σ d w)(I:zK H g o v)(Q:σ.rep.length<9223372036854775806)(K:Fz H p)
  (E:∀x,x∈g->p.heap[x]? =w.heap[x]?) (A:w.heap.size<=a) (C:p.heap[a]? =some (sH σ.rep.length v)):fY H (g++[a]) (σ.new o) d p:=by
 have q:g<+:g++[a]:=iN _ _;have F:∀x,x∈g->x<w.heap.size:=λx f=>dT.lt h f;have G:H a=none:=h.fz.none A;have n:∀i,i<σ.rep.length->(σ.new o).rep[i]? =σ.rep[i]? :=λi k=>bJ k
 have D:∀i,i<σ.rep.length->(σ.new o).con.getD i none=σ.con.getD i none:=λi k=>by show(σ.con++[o]).getD i none=_;rw[aW,aW,bJ (by rw[h.lenc];exact k)]
 refine⟨K,by simp[bM.new,h.len],by simp[bM.new,h.lenc], ?_,λx f=> ?_,by simp[bM.new];omega,λi c m=> ?_,λi x f=> ?_⟩
 ·rw[jX];refine⟨h.nd,by simp,λx f y J e=> ?_⟩;simp at J;have:=F x f;omega
 ·rcases cH.1 f with f|f
  ·exact h.off x f
  ·rw[bF.1 f];exact G
 ·by_cases k:i<σ.rep.length
  ·rw[n i k]at m;have t:=h.rr i c m;rw[n c (aU.1 t).1];exact t
  ·have l:i=σ.rep.length:=by have:=(aU.1 m).1;simp[bM.new]at this;omega
   subst l;have:(σ.new o).rep[σ.rep.length]? =some σ.rep.length:=by simp[bM.new]
   rw[this]at m;cases m;exact this
 ·by_cases k:i<g.length
  ·rw[bJ k]at f;obtain⟨u,O,P⟩:=h.blk i x f;refine⟨u,(E x (cK f)).trans O, ?_⟩;have l:i<σ.rep.length:=by rw[<-h.len];exact k
   rcases P with⟨r,s⟩|⟨j,c,b,r,s,z,L,M,N⟩
   ·exact aQ ⟨(n i l).trans r,by rw[D i l];exact s.ext (λ_ _ e=>e) q⟩
   ·exact aM ⟨j,c,b,(n i l).trans r,s,(n j (aU.1 z).1).trans z,jD q L,M,N⟩
  ·have l:i=g.length:=by have:=(aU.1 f).1;simp at this;omega
   subst l;rw[cD (aV _)]at f;simp at f;subst f;refine⟨v,by rw[h.len];exact C,aQ ⟨?_, ?_⟩⟩
   ·rw[h.len];simp[bM.new]
   ·have e:(σ.new o).con.getD g.length none=o:=by show(σ.con++[o]).getD g.length none=o;rw[aW,h.len,<-h.lenc,cD (aV _)];simp
    rw[e];exact I.ext (λ_ _ e=>e) q
theorem qG{e c:Nat}(h:σ.rep[i]? =some c):(σ.link e other).rep[i]? =some (if c=e then other else c):=by unfold bM.link;simp[h]
theorem fY.link{H:aB}{o:aC}{w:World}{f a b:Nat}(h:fY H o σ d w)(G:σ.rep[f]? =some f)(t:σ.rep[other]? =some other)(q:f≠other)(s:o[f]? =some a)(F:o[other]? =some b):
  fY H o (σ.link f other) (λi=>if i=f then 0 else d i+1) (w.setCell ⟨a,1,none⟩ (CI b)):=by
 have p:(σ.link f other).rep.length=σ.rep.length:=by simp[bM.link]
 refine⟨h.fz.set (h.off a (cK s)) 1 _,by rw[p];exact h.len,by rw[p];exact h.lenc,h.nd,h.off,by rw[p];exact h.few,λi c g=> ?_,λi x m=> ?_⟩
 ·have k:i<σ.rep.length:=by rw[<-p];exact(aU.1 g).1
  obtain⟨r,z⟩:∃r,σ.rep[i]? =some r:=⟨_,aP k⟩;rw[qG z]at g;have e:=aY g;by_cases v:r=f
  ·rw[aR v]at e;subst e;rw[qG t,aN (kU q)]
  ·rw[aN v]at e;subst e;rw[qG (h.rr i r z),aN v]
 ·obtain⟨u,A,L⟩:=h.blk i x m;by_cases k:i=f
  ·subst k;rw[s]at m;cases m;refine⟨CI b, ?_,aM ⟨other,other,b, ?_,kU q, ?_,F,rfl,aQ rfl⟩⟩
   ·simp[World.setCell,dN,A,sH]
   ·rw[qG G,aR rfl]
   ·rw[qG t,aN (kU q)]
  ·refine⟨u, ?_, ?_⟩
   ·rw[bO _ _ _ _ (λD=>k ?_)]
    ·exact A
    ·have E:x=a:=D;subst E;exact(iJ (aU.1 m).1 h.nd).1 (m.trans s.symm)
   ·rcases L with⟨l,y⟩|⟨j,c,C,l,y,I,J,K,n⟩
    ·exact aQ ⟨by rw[qG l,aN k],y⟩
    ·refine aM ⟨j,if c=f then other else c,C,qG l, ?_,qG I,J,K, ?_⟩
     ·by_cases g:c=f
      ·rw[aR g];intro e;rw[<-e,t]at l;rw[g]at l;exact q (aY l).symm
      ·rw[aN g];exact y
     ·rcases n with n|n
      ·by_cases g:c=f
       ·right;show(if j=f then 0 else d j+1)<(if i=f then 0 else d i+1);rw[aR (n.trans g),aN k];omega
       ·left;rw[aN g];exact n
      ·right;show(if j=f then 0 else d j+1)<(if i=f then 0 else d i+1);rw[aN k];split
       ·omega
       ·omega
theorem fY.put{H:aB}{c:aC}{w:World}{b:Nat}{v:Value}(h:fY H c σ d w)(k:σ.rep[other]? =some other)(f:c[other]? =some b)(q:zK H c o v):
  fY H c (σ.put other o) d (w.setCell ⟨b,1,none⟩ v):=by
 refine⟨h.fz.set (h.off b (cK f)) 1 _,h.len,by simp[bM.put,h.lenc],h.nd,h.off,h.few,h.rr,λi x a=> ?_⟩;obtain⟨u,l,j⟩:=h.blk i x a;by_cases g:i=other
 ·subst g;rw[f]at a;cases a;refine⟨v,by simp[World.setCell,dN,l,sH],aQ ⟨k, ?_⟩⟩;have p:i<σ.con.length:=by rw[h.lenc];exact(aU.1 k).1
  have e:(σ.put i o).con.getD i none=o:=by show(σ.con.set i o).getD i none=o;rw[aW,List.getElem?_set_self p];rfl
  rw[e];exact q
 ·refine⟨u, ?_, ?_⟩
  ·rw[bO _ _ _ _ (λm=>g ?_)]
   ·exact l
   ·have n:x=b:=m;subst n;exact(iJ (aU.1 a).1 h.nd).1 (a.trans f.symm)
  ·rcases j with⟨r,s⟩|j
   ·refine aQ ⟨r, ?_⟩
    have e:(σ.put other o).con.getD i none=σ.con.getD i none:=by show(σ.con.set other o).getD i none=_;rw[aW,List.getElem?_set_ne (kU g),aW]
    rw[e];exact s
   ·exact aM j
def Zx(H:aB)(c:aC)(b:bM)(d:aI)(h:Nat)(w:World)(e:Ending)(x:World):Prop:=
 ∃a,e= .returned (CP a)/\w.heap.size<=a/\fY H (c++[a]) b d x/\x.cell? ⟨h,0,none⟩=some (.int .i64 (b.rep.length:Int))/\Gb (λk=>k=h) w x/\∀i,i≠0->x.cell? ⟨h,i,none⟩=w.cell? ⟨h,i,none⟩
theorem Qn{H:aB}{c:aC}{h:Nat}{v:Value}{w:World}(g:fY H c σ d w)(n:w.cell? ⟨h,0,none⟩=some (.int .i64 (σ.rep.length:Int)))(l:h<w.heap.size)(s:H h=none)(t:h∉c)(q:zK H c o v)(r:σ.rep.length<9223372036854775806):
  Zx H c (σ.new o) d h w (.returned (CP w.heap.size)) ((w.setCell ⟨h,0,none⟩ (.int .i64 ((σ.rep.length:Int)+1))).alloc (.cells #[.int .i64 ((σ.rep.length:Int)+1),v] 354)):=by
 have j:(w.setCell ⟨h,0,none⟩ (.int .i64 ((σ.rep.length:Int)+1))).heap.size=w.heap.size:=by simp[World.setCell]
 have f:Gb (λk=>k=h) w ((w.setCell ⟨h,0,none⟩ (.int .i64 ((σ.rep.length:Int)+1))).alloc (.cells #[.int .i64 ((σ.rep.length:Int)+1),v] 354)):=((Gb.refl (λk=>k=h) w).set (b:=h) (aQ rfl) 0 _).alloc _;refine⟨w.heap.size,rfl,aV _,g.new q r (g.fz.gb f (λk x e p=>by rw[p,s]at e;cases e)) (λx m=>f.block x (dT.lt g m) (λe=>t (e▸m))) (aV _) ?_, ?_,f,λi u=> ?_⟩
 ·rw[dC _ _ _ j.symm];rfl
 ·rw[bT (a:=⟨h,0,none⟩) (bQ _ _ _ (by rw[j];exact l))];have e:(((σ.new o).rep.length:Nat):Int)=(σ.rep.length:Int)+1:=by simp[bM.new]
  rw[e];exact World.cell?_setCell_same _ _ _ n
 ·rw[bT (a:=⟨h,i,none⟩) (bQ _ _ _ (by rw[j];exact l))];exact World.cell?_setCell_other _ _ _ _ (by simp)
def wN(H:aB)(h:aC)(v:Value)(t:Et):Prop:=t.kind≠[]/\t.kind≠cM/\ER H h v t
theorem wN.cases{H:aB}{x:aC}{v:Value}{t:Et}(h:wN H x v t):∃b,((t.kind=nD\/t.kind=eU)/\v= .iface 346 (.pointer (some ⟨b,0,none⟩))/\H b=some (.cells #[.string (B t.kind)] 348 (0,0)))\/
  (t.kind=nF/\v= .iface 349 (.pointer (some ⟨b,0,none⟩)))\/(t.kind=eS/\v= .iface 361 (.pointer (some ⟨b,0,none⟩)))\/(t.kind=dO/\v= .iface 291 (.pointer (some ⟨b,0,none⟩))):=by
 obtain⟨a,c,m,h⟩:=h
 cases m with
 |zero=>exact absurd h id
 |succ m=>
 obtain⟨b,h⟩:=h;refine⟨b, ?_⟩;rcases h with⟨e,_⟩|⟨e,_⟩|⟨e,_,w,d⟩|⟨e,_,_,_,_,w,_⟩|⟨e,_,_,_,_,_,_,w,_⟩|⟨e,_,_,_,_,_,_,w,_⟩
 ·exact absurd e c
 ·exact absurd e a
 ·exact aQ ⟨e,w,d⟩
 ·exact aM (aQ ⟨e,w⟩)
 ·exact aM (aM (aQ ⟨e,w⟩))
 ·exact aM (aM (aM ⟨e,w⟩))
theorem IE{H:aB}{i:aC}{v:Value}{w:World}(g:wN H i u x)(d:wN H i v y)(j:Fz H w):Calls prog 152 #[u,v] w λe l=>e= .returned (.bool (decide (x.kind=y.kind)))/\w.grownBy l none:=by
 obtain⟨a,g⟩:=g.cases;obtain⟨b,d⟩:=d.cases;rcases g with⟨c,rfl,k⟩|⟨c,rfl⟩|⟨c,rfl⟩|⟨c,rfl⟩
 ·rcases d with⟨h,rfl,f⟩|⟨h,rfl⟩|⟨h,rfl⟩|⟨h,rfl⟩
  ·exact uM w a b _ _ (by simp[World.cell?,j _ _ k]) (by simp[World.cell?,j _ _ f])
  ·rw[bN (by rcases c with c|c<;>rw[c,h]<;>decide)];exact wF w a b
  ·rw[bN (by rcases c with c|c<;>rw[c,h]<;>decide)];exact wG w a b
  ·rw[bN (by rcases c with c|c<;>rw[c,h]<;>decide)];exact uN w a b
 ·rcases d with⟨h,rfl,f⟩|⟨h,rfl⟩|⟨h,rfl⟩|⟨h,rfl⟩
  ·rw[bN (by rcases h with h|h<;>rw[c,h]<;>decide)];exact wH w a b
  ·rw[dE (c.trans h.symm)];exact yJ w a b
  ·rw[bN (by rw[c,h]<;>decide)];exact yK w a b
  ·rw[bN (by rw[c,h]<;>decide)];exact wI w a b
 ·rcases d with⟨h,rfl,f⟩|⟨h,rfl⟩|⟨h,rfl⟩|⟨h,rfl⟩
  ·rw[bN (by rcases h with h|h<;>rw[c,h]<;>decide)];exact wJ w a b
  ·rw[bN (by rw[c,h]<;>decide)];exact yL w a b
  ·rw[dE (c.trans h.symm)];exact yM w a b
  ·rw[bN (by rw[c,h]<;>decide)];exact wK w a b
 ·rcases d with⟨h,rfl,f⟩|⟨h,rfl⟩|⟨h,rfl⟩|⟨h,rfl⟩
  ·rw[bN (by rcases h with h|h<;>rw[c,h]<;>decide)];exact uO w a b
  ·rw[bN (by rw[c,h]<;>decide)];exact wL w a b
  ·rw[bN (by rw[c,h]<;>decide)];exact wM w a b
  ·rw[dE (c.trans h.symm)];exact uP w a b
theorem oV(b:Nat)(w:World):(Instr.typeAssert (.iface 265 (.pointer (some ⟨b,0,none⟩))) 156 265 false).run prog w= .ok (.pointer (some ⟨b,0,none⟩)) w:=by kernel_rfl
theorem TW:(prog.info? 354).map (·.size)=some 2:=by kernel_rfl
theorem Cf(a:Nat)(w:World):(binOp .eql 265 (.pointer (some ⟨a,0,none⟩)) (.pointer (some ⟨a,0,none⟩))).run prog w= .ok (.bool true) w:=by obtain⟨j,h,_⟩:=iU.1 TW;exact run_eql_ptr_same w _ underlying265 h
theorem xK{a b k:Nat}{v:Value}{w:World}(h:a≠b)(x:w.heap[a]? =some (sH i u))(c:w.heap[b]? =some (sH k v)):(binOp .eql 265 (.pointer (some ⟨a,0,none⟩)) (.pointer (some ⟨b,0,none⟩))).run prog w= .ok (.bool false) w:=by obtain⟨j,d,f⟩:=iU.1 TW;exact run_eql_ptr_other w underlying265 d (by rw[f];decide) (λe=>h (by injection e)) x c
def Tq(H:aB)(h:aC)(r:Option bM)(w:World)(e:Ending)(x:World):Prop:=
 Gb (dT h) w x/\match r with
  |none=>e= .returned (.bool false)
  |some b=>e= .returned (.bool true)/\∃a,fY H h b a x
def Oj(H:aB)(h:aC)(f:Nat):Prop:=∀(a b x y:Nat) (e:bM) (d:aI) (r:Option bM) (w:World),h[a]? =some x->h[b]? =some y->jE f a b e=some r->fY H h e d w->Calls prog 254 #[CI x,CI y] w (Tq H h r w)
def oz(a:aC)(w:World)(v:Value)(x:aH):Prop:=∃e b,v= .slice e x.length b/\∀(j:Nat) (u:Value),x[j]? =some u->∃h,e=some ⟨h,0,none⟩/\h<w.heap.size/\¬dT a h/\w.cell? ⟨h,j,none⟩=some u
def MQ(h:List Et):Prop:=∀k,k∈h->k.kind=cM
theorem qH{H:aB}{a:aC}{u:Value}{k:Et}(h:ER H a u k)(w:k.kind=cM):∃x,a[k.num]? =some x/\u=CI x:=by
 obtain⟨m,h⟩:=h
 cases m with
 |zero=>exact absurd h id
 |succ m=>
 obtain⟨b,h⟩:=h;rcases h with⟨e,f,c,d⟩|⟨e,_⟩|⟨e,_⟩|⟨e,_⟩|⟨e,_⟩|⟨e,_⟩
 ·exact⟨b,c,d⟩
 ·exact absurd (e.symm.trans w) (by decide)
 ·rcases e with e|e<;>exact absurd (e.symm.trans w) (by decide)
 ·exact absurd (e.symm.trans w) (by decide)
 ·exact absurd (e.symm.trans w) (by decide)
 ·exact absurd (e.symm.trans w) (by decide)
theorem vK{H:aB}{h:aC}{f:Nat}(hJ:Oj H h f){us vs:aH}{ks ls:List Et}{r:Option bM}{w:World}{v1 v2:Value}
  (h1:oz h w v1 us) (h2:oz h w v2 vs) (hn:us.length<=2) (I:KR H h us ks) (J:KR H h vs ls) (O:MQ ks) (P:MQ ls) (C:ks.length=ls.length) (t:hQ (jE f) ks ls σ=some r) (hc:fY H h σ d w):
  Calls prog 262 #[v1,v2] w (Tq H h r w):=by
 obtain⟨e5,e7,rfl,U⟩:=h1;obtain⟨e6,e8,rfl,V⟩:=h2;have F:vs.length=us.length:=by rw[I.1,J.1,C]
 rw[F];have E1:=aS U;have E2:=aS V;have m:=aS (aL I O);have N:=aS (aL J P);have HJ:=aS hJ;have J0:=aS (show hQ (jE f) (ks.drop 0) (ls.drop 0) σ=some r from t);have C0:=aS (aL (show∃d,fY H h σ d w from⟨d,hc⟩) (Gb.refl (dT h) w));have s:=aS (aL C F);clear U V I J O P hJ t hc C F;go_enter func262,ntmps262;go_wp2_with fail
 go_loopg [8] (us.length+1) (λgh i wi=>∃(j:Nat) (a:bM),j<=us.length/\i= .int .i64 j/\gh=us.length-j+1/\Hid (hQ (jE f) (ks.drop j) (ls.drop j) a=some r)/\Hid ((∃d,fY H h a d wi)/\Gb (dT h) w wi))
 case atStart=>exact⟨0,σ,by omega,rfl,by omega,J0,C0⟩
 case round=>
  obtain⟨j,a,t,rfl,e9,p,x⟩:=hrel;by_cases A:j<us.length
  ·have o:j<ks.length:=by rw[<-m.1.1];exact A
   have v:j<ls.length:=by rw[<-s.1];exact o
   have h9:j<vs.length:=by rw[s.2];exact A
   obtain⟨u,E⟩:∃u,us[j]? =some u:=⟨_,aP A⟩;obtain⟨z,G⟩:∃z,vs[j]? =some z:=⟨_,aP h9⟩;obtain⟨y,k⟩:∃y,ks[j]? =some y:=⟨_,aP o⟩;obtain⟨q,g⟩:∃q,ls[j]? =some q:=⟨_,aP v⟩;obtain⟨g1,rfl,h7,e3,Q⟩:=E1.out j u E;obtain⟨g2,rfl,h8,e4,R⟩:=E2.out j z G;have d1:wr.cell? ⟨g1,j,none⟩=some u:=x.out.2.cell Q h7 e3;have d2:wr.cell? ⟨g2,j,none⟩=some z:=x.out.2.cell R h8 e4;obtain⟨x1,X,rfl⟩:=qH (m.1.2 j u y E k) (m.2 y (cK k));obtain⟨x2,Y,rfl⟩:=qH (N.1.2 j z q G g) (N.2 q (cK g))
   have h4:ks.drop j=y::ks.drop (j+1):=by rw[cO o];rw[aP o]at k;rw[aY k]
   have h5:ls.drop j=q::ls.drop (j+1):=by rw[cO v];rw[aP v]at g;rw[aY g]
   have b:=p.out;rw[h4,h5,hQ]at b;obtain⟨T,h0⟩:=x.out.1
   cases n:jE f y.num q.num a with
   |none=>rw[n]at b;cases b
   |some rj=>
    rw[n]at b;have K:=aS (λ(W:World) (hW:fY H h a T W)=>HJ.out y.num q.num x1 x2 a T rj W X Y n hW);have L:=aS h0;have M:=aS b;clear E G k g Q R h4 h5 b h0 n X Y p;unfold CI at*
    cases rj with
    |none=>
     have D:r=none:=(aY M.out).symm;subst D;go_wp2_with fail
     go_region_with (go_at_call 254;refine(K.out _ L.drew).mono ?_;rintro e w5 ⟨c,rfl⟩;have l:=aS c;clear c)
     all_goals
      go_wp2;go_ret;exact⟨x.out.2.tr (Gb.drewL l.out),rfl⟩
    |some h6=>
     have J2:=aS (show hQ (jE f) (ks.drop (j+1)) (ls.drop (j+1)) h6=some r from M.out);go_wp2_with fail
     go_region_with (go_at_call 254;refine(K.out _ L.drew).mono ?_;rintro e w5 ⟨c,rfl,S⟩;have l:=aS (aL c S);clear c S)
     all_goals
      go_wp2_with fail
      go_roundg (us.length-(j+1)+1)
      case measure=>omega
      case rel=>exact⟨j+1,h6,by omega,by go_num,rfl,J2,aS ⟨l.2,x.out.2.tr (Gb.drewL l.1)⟩⟩
  ·have e0:j=us.length:=by omega
   subst e0
   have D:r=some a:=by have Z:=p.out;rw[m.1.1,lR,s.1,lR]at Z;exact(aY Z).symm
   subst D;go_wp2;go_ret;exact⟨x.out.2,rfl,x.out.1⟩
structure NK(H:aB)(ca:aC)(t:Et)(v:Value)(T0:TypeId)(b:Nat)(F:FuncId)(us:aH):Prop where
 val:v= .iface T0 (.pointer (some ⟨b,0,none⟩))
 kr:KR H ca us t.kids
 two:us.length<=2
 meth:∀w,(Go.method 567 T0 (.pointer (some ⟨b,0,none⟩)) "Below").run prog w= .ok (F, .pointer (some ⟨b,0,none⟩)) w
 run:∀w,Fz H w->Calls prog F #[.pointer (some ⟨b,0,none⟩)] w λe w'=>w.grownBy w' none/\((us=[]/\e= .returned (.slice none 0 0))\/∃gn,e= .returned (.slice (some ⟨gn,0,none⟩) us.length us.length)/\w.heap.size<=gn/\w'.heap[gn]? =some (.cells us.toArray 156 (0,0)))
theorem iu{H:aB}{k:aC}{v:Value}{t:Et}(h:wN H k v t):∃b p,((t.kind=nD\/t.kind=eU)/\NK H k t v 346 b 307 p)\/(t.kind=nF/\NK H k t v 349 b 308 p)\/
  (t.kind=eS/\NK H k t v 361 b 309 p)\/(t.kind=dO/\NK H k t v 291 b 304 p):=by
 obtain⟨y,A,m,h⟩:=h
 cases m with
 |zero=>exact absurd h id
 |succ m=>
 obtain⟨b,h⟩:=h;rcases h with⟨x,_⟩|⟨x,_⟩|⟨x,f,g,i⟩|⟨x,_,a,u,f,g,i,d⟩|⟨x,_,a,c,u,z,f,g,i,d,n⟩|⟨x,_,a,c,u,z,f,g,i,d,n⟩
 ·exact absurd x A
 ·exact absurd x y
 ·refine⟨b,[],aQ ⟨x,g,by rw[f];exact KR.nil,by simp,λw=>I0 b w,λw _=>(I9 b w).mono ?_⟩⟩;rintro e s ⟨rfl,rfl⟩;exact⟨bC _ _,aQ ⟨rfl,rfl⟩⟩
 ·obtain⟨o,j,_,rfl⟩:=d.val;refine⟨b,[_],aM (aQ ⟨x,g,by rw[f];exact KR.one ⟨m,d⟩,by simp,λw=>N8 b w,λw l=>(NC b w o j (l _ _ i)).mono ?_⟩)⟩;rintro e s ⟨rfl,rfl⟩;exact⟨aO _ _ _,aM ⟨_,rfl,aV _,dC _ _ _ rfl⟩⟩
 ·obtain⟨o,j,_,rfl⟩:=d.val;obtain⟨r,q,_,rfl⟩:=n.val;refine⟨b,[_,_],aM (aM (aQ ⟨x,g,by rw[f];exact KR.two ⟨m,d⟩ ⟨m,n⟩,by simp,λw=>N9 b w,λw l=>(ND b w o r j q (l _ _ i)).mono ?_⟩))⟩;rintro e s ⟨rfl,rfl⟩;exact⟨cZ (aO _ _ _),aM ⟨_,rfl,aV _,dC _ _ _ rfl⟩⟩
 ·obtain⟨o,j,_,rfl⟩:=d.val;obtain⟨r,q,_,rfl⟩:=n.val;refine⟨b,[_,_],aM (aM (aM ⟨x,g,by rw[f];exact KR.two ⟨m,d⟩ ⟨m,n⟩,by simp,λw=>I7 b w,λw l=>(IA b w o r j q (l _ _ i)).mono ?_⟩))⟩;rintro e s ⟨rfl,rfl⟩;exact⟨cZ (aO _ _ _),aM ⟨_,rfl,aV _,dC _ _ _ rfl⟩⟩
theorem oC{H:aB}{f:aC}{k w i b:World}{e:Ending}{a:aH}(m:fY H f σ d k)(o:k.heap.size<=w.heap.size)(h:(a=[]/\e= .returned (.slice none 0 0))\/∃x,e= .returned (.slice (some ⟨x,0,none⟩) a.length a.length)/\w.heap.size<=x/\i.heap[x]? =some (.cells a.toArray 156 (0,0)))(g:i.grownBy b none):
  ∃v,e= .returned v/\oz f b v a:=by
 rcases h with⟨rfl,rfl⟩|⟨x,rfl,p,c⟩
 ·exact⟨_,rfl,none,0,rfl,λj u h=>by simp at h⟩
 ·refine⟨_,rfl,some ⟨x,0,none⟩,a.length,rfl,λj u h=>⟨x,rfl,aZ (aT c) g.size,λn=> ?_, ?_⟩⟩
  ·have:=dT.lt m n;omega
  ·have l:b.heap[x]? =some (.cells a.toArray 156 (0,0)):=by rw[g.block x (aT c) (by simp)];exact c
   rw[FH b x j _ _ _ l];simpa using h
theorem oz.grown{x:aC}{w d:World}{v:Value}{c:aH}(h:oz x w v c)(g:w.grownBy d none):oz x d v c:=by obtain⟨f,i,k,l⟩:=h;refine⟨f,i,k,λj u m=> ?_⟩;obtain⟨e,n,b,o,p⟩:=l j u m;exact⟨e,n,aZ b g.size,o,by rw[bT (a:=⟨e,j,none⟩) (g.block e b (by simp))];exact p⟩
theorem fY.grown{H:aB}{x:aC}{w a:World}(h:fY H x σ d w)(g:w.grownBy a none):fY H x σ d a:=h.gb (R:=λ_=>False) (Gb.new g) (λ_ _ e=>e) (λ_ _ _ e=>e)
theorem W1{H:aB}{d:aC}{v:Value}(k:wN H d u x)(l:wN H d v y)(j:x.kind=y.kind):x.kids.length=y.kids.length:=by
 have f:∀{v:Value} {t:Et},wN H d v t->t.kids.length=if t.kind=nF then 1 else if t.kind=eS\/t.kind=dO then 2 else 0:=by
  intro v t h;obtain⟨g,i,m,h⟩:=h
  cases m with
  |zero=>exact absurd h id
  |succ m=>
  obtain⟨b,h⟩:=h;rcases h with⟨e,_⟩|⟨e,_⟩|⟨e,w,_⟩|⟨e,_,a,u,w,_⟩|⟨e,_,a,c,u,z,w,_⟩|⟨e,_,a,c,u,z,w,_⟩
  ·exact absurd e i
  ·exact absurd e g
  ·rw[w];rcases e with e|e<;>rw[e]<;>rfl
  ·rw[e,w];rfl
  ·rw[e,w];rfl
  ·rw[e,w];rfl
 rw[f k,f l,j]
theorem NG{H:aB}{k:aC}{v:Value}(n:wN H k u x)(o:wN H k v y)(a:x.kind=y.kind):∃f i g j d c,NK H k x u d f c i/\NK H k y v d g c j/\
  (((x.kind=nD\/x.kind=eU)/\d=346/\c=307)\/(x.kind=nF/\d=349/\c=308)\/(x.kind=eS/\d=361/\c=309)\/(x.kind=dO/\d=291/\c=304)):=by
 obtain⟨f,i,m⟩:=iu n;obtain⟨g,j,l⟩:=iu o;rcases m with⟨e,b⟩|⟨e,b⟩|⟨e,b⟩|⟨e,b⟩
 ·rcases l with⟨h,w⟩|⟨h,w⟩|⟨h,w⟩|⟨h,w⟩
  ·exact⟨f,i,g,j,_,_,b,w,aQ ⟨e,rfl,rfl⟩⟩
  all_goals exact absurd (a.trans h) (by rcases e with e|e<;>rw[e]<;>decide)
 ·rcases l with⟨h,w⟩|⟨h,w⟩|⟨h,w⟩|⟨h,w⟩
  ·exact absurd (a.symm.trans e) (by rcases h with h|h<;>rw[h]<;>decide)
  ·exact⟨f,i,g,j,_,_,b,w,aM (aQ ⟨e,rfl,rfl⟩)⟩
  all_goals exact absurd (a.symm.trans e) (by rw[h];decide)
 ·rcases l with⟨h,w⟩|⟨h,w⟩|⟨h,w⟩|⟨h,w⟩
  ·exact absurd (a.symm.trans e) (by rcases h with h|h<;>rw[h]<;>decide)
  ·exact absurd (a.symm.trans e) (by rw[h];decide)
  ·exact⟨f,i,g,j,_,_,b,w,aM (aM (aQ ⟨e,rfl,rfl⟩))⟩
  ·exact absurd (a.symm.trans e) (by rw[h];decide)
 ·rcases l with⟨h,w⟩|⟨h,w⟩|⟨h,w⟩|⟨h,w⟩
  ·exact absurd (a.symm.trans e) (by rcases h with h|h<;>rw[h]<;>decide)
  ·exact absurd (a.symm.trans e) (by rw[h];decide)
  ·exact absurd (a.symm.trans e) (by rw[h];decide)
  ·exact⟨f,i,g,j,_,_,b,w,aM (aM (aM ⟨e,rfl,rfl⟩))⟩
end Go.Proofs.YtcdijppegfcoaaaGreatDoor
