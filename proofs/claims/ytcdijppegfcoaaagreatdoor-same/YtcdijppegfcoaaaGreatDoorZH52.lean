import Derived.Test.YtcdijppegfcoaaaGreatDoorZH43
import Derived.Test.YtcdijppegfcoaaaGreatDoorZH44
import Derived.Test.YtcdijppegfcoaaaGreatDoorZH48
import Derived.Test.YtcdijppegfcoaaaGreatDoorZH49
import Derived.Test.YtcdijppegfcoaaaGreatDoorZH51
set_option maxRecDepth 100000
set_option maxHeartbeats 8000000
set_option linter.unusedSimpArgs false
namespace Go.Proofs.YtcdijppegfcoaaaGreatDoor
open Go.RowKit Tryz
variable{H:Nat->Option Obj}{m:Nat}{a ea fa fb eb ga gb hb:Int}{y:Ex}{sh gn:aA}
theorem Ml{e b:Nat}{c:lQE}{l:List (List aA)}{q v t u:Value}{p:aA}{x a:Ex}{r s:UR}{P:Ex->List (List aA)->Option UR}(g:ZZ H e c P){w:World}(i:H b=some (.cells #[v, .string (B p),t,u] 205 (0,0)))(k:dI m H t x)(n:dI m H u a)(d:P x l=some r)(f:P a ([p]::l)=some s)(o:Fz H w)(j:NS H w e c)(h:KF e w l (q)):
  Calls prog 124 #[.iface 200 (.pointer (some ⟨b,0,none⟩)),q] w (IY H (LY r s) w):=by
 rcases h.form with⟨y,rfl⟩|⟨y,z,rfl⟩
 ·exact En g i k n d f o j h
 ·exact Eo g i k n d f o j h
theorem Mm{b:Nat}{r:UR}{h:Value}{w:World}(j:(∃b,h= .func (.func 125) #[] #[.pointer (some ⟨b,0,none⟩)])\/∃b i,h= .func (.func 199) #[] #[.pointer (some ⟨b,0,none⟩), .pointer (some ⟨i,0,none⟩)])(f:Calls prog 169 #[.pointer (some ⟨b,0,none⟩),h] w (IY H r w)):
  Calls prog 124 #[.iface 206 (.pointer (some ⟨b,0,none⟩)),h] w (IY H r w):=by
 have a:=aS f;have l:=lV b;have m:=mO b;have n:=nL b;have o:=mP b;have p:=kV b;clear f;rcases j with⟨k,rfl⟩|⟨k,q,rfl⟩
 all_goals
  go_enter func124,ntmps124;go_wp2_with fail;refine a.mono ?_;rintro e s ⟨x,rfl,g,d⟩;have c:=aS (aL g d);clear g d a;go_wp2;go_ret;exact⟨x,rfl,c.1,c.2⟩
theorem yr{g:Nat}{x:Array Value}{h:aD}{e:aH}{w:World}(m:Fz H w)(i:H g=some (.cells x 203 (0,0)))(l:e.length=h.length)(k:x.toList.take (h.length*2)=iE h e){j:Nat}{n:aA}{u:Value}(a:h[j]? =some n)(f:e[j]? =some u):w.cell? ⟨g,j*2,none⟩=some (.string (B n))/\w.cell? ⟨g,j*2+1,none⟩=some u:=by have o:=(aU.1 a).1;obtain⟨c,d⟩:=rS h e j n u l a f;rw[<-k,gD,aR (by omega)]at c d;have b:=m _ _ i;exact⟨cU b _ (by simpa using c),cU b _ (by simpa using d)⟩
theorem Hq{H:aB}{Z:Nat}{N:lQE}{P:Ex->List (List aA)->Option UR}(D:ZZ H Z N P):ZZ H Z N (λe l=>Ee P (ZY P) N e l):=by
 intro e v m l kv r w M a n p o;simp only[]at a
 cases m with
 |zero=>exact absurd M id
 |succ m=>
 obtain⟨b,us,rfl,hn,hl,k⟩:=M;unfold Ee at a;rcases hn with⟨c,t,d,j,K,f⟩|⟨c,t,d,j,K,f⟩|⟨c,t,u,d,j,rfl,f⟩|⟨c,u,v,y,d,rfl,f⟩|⟨c,t,u,v,d,j,rfl,f⟩|⟨c,h7,u,gv,d,j,K,f,h5,h6⟩|⟨c,u,v,d,rfl,f⟩|⟨c,u,v,d,rfl,f⟩
 ·rw[aR c,d]at a;simp only at a;split at a
  ·rename_i R;cases a;rw[c];exact Ef f R n p o
  ·cases a
 ·rw[c,aN (by decide),aN (by decide),aN (by decide),aN (by decide),aN (by decide),aN (by decide),aN (by decide),aR rfl]at a;cases a;rw[c];refine(ZR b kv w).mono ?_;rintro e w' ⟨rfl,rfl⟩;exact⟨none,rfl,rfl,(Gb.refl _ _).none⟩
 ·obtain⟨y,g,M⟩:=Ol j k;rw[c,aN (by decide),aR rfl,d,g]at a;rw[c];exact Le D f M a n p o
 ·obtain⟨E,F,G,g,q,s,e3⟩:∃E F G,e.kids=[E,F,G]/\dI m H u E/\dI m H v F/\dI m H y G:=by
   match Q:e.kids,d with
   |[E,F,G],_=>exact⟨E,F,G,rfl,k 0 E u rfl (by rw[Q];rfl),k 1 F v rfl (by rw[Q];rfl),k 2 G y rfl (by rw[Q];rfl)⟩
  rw[c,aN (by decide),aN (by decide),aR rfl,g]at a;simp only at a;split at a
  ·rename_i S U r3 A C q3;cases a;rw[c];exact Ru D f q s e3 A C q3 n p o
  ·cases a
 ·obtain⟨y,z,g,q,s⟩:=KD j k;rw[c,aN (by decide),aN (by decide),aN (by decide),aR rfl,d,g]at a;simp only at a;split at a
  ·rename_i S U A C;cases a;rw[c];exact Ml D f q s A C n p o
  ·cases a
 ·rw[c,aN (by decide),aN (by decide),aN (by decide),aN (by decide),aR rfl]at a;split at a
  case isFalse=>cases a
  rename_i R;obtain⟨gB,e5,e6,rfl,W,h8⟩:=h5;subst f;have X:e.kids.dropLast.length=e.names.length:=by rw[List.length_dropLast,K];rfl
  obtain⟨L,O⟩:∃L,e.kids=e.kids.dropLast++[L]:=by
   have V:e.kids≠[]:=λh=>by rw[h]at K;simp at K
   exact⟨e.kids.getLast V,(ub V).symm⟩
  have e4:dI m H u L:=k e.names.length L u (by rw[cD (by omega),j];simp) (by rw[O,cD (by omega),X];simp);have Y:∀(i:Nat) (u:Value) (y:Ex),h7[i]? =some u->e.kids.dropLast[i]? =some y->dI m H u y:=λi x y I J=>k i y x (by rw[bJ ((aU.1 I).1)];exact I) (by rw[O,bJ ((aU.1 J).1)];exact J)
  have e0:Iq w gB e.names h7:=⟨j,aT (n _ _ W),λi nm x I J=>by
   have hi:=(aU.1 I).1;obtain⟨y,g⟩:∃y,e.kids.dropLast[i]? =some y:=⟨_,aP (by omega)⟩;obtain⟨T,b9,rfl⟩:=(Y i x y J g).val;obtain⟨c1,c2⟩:=yr n W j h8 I J
   exact⟨c1,c2,rfl⟩⟩
  rw[O]at a;rw[c];exact Mm o.form (Fj D h6 e0 X Y e4 d R a n p o)
 ·obtain⟨y,z,g,q,s⟩:=KD d k;rw[c,aN (by decide),aN (by decide),aN (by decide),aN (by decide),aN (by decide),aR rfl,g]at a;simp only at a;split at a
  ·rename_i S U A C;cases a;rw[c];exact yk D f q s A C n p o
  ·cases a
 ·obtain⟨y,z,g,q,s⟩:=KD d k;rw[c,aN (by decide),aN (by decide),aN (by decide),aN (by decide),aN (by decide),aN (by decide),aR rfl,g]at a;simp only at a;split at a
  ·rename_i S U A C;cases a;rw[c];exact Fk D f q s A C n p o
  ·cases a
theorem O4{H:aB}{w:Nat}{h:lQE}:∀f,ZZ H w h (pQ h f)
 |0=>λ_ _ _ _ _ _ _ _ e _ _ _=>by cases e
 |f+1=>Hq (O4 f)
def Hr(r:Sum (Sum (aA×Nat) Nat) aA):aA:=match r with
 | .inr h=>h
 | .inl _=>[]
def Mn(r:Sum (Sum (aA×Nat) Nat) aA):Int:=match r with
 | .inr _=>0
 | .inl (.inl _)=>4
 | .inl (.inr q)=>B3 q
def Mo(r:Sum (Sum (aA×Nat) Nat) aA):Int:=match r with
 | .inl (.inl y)=>(y.2:Int)
 |_=>0
def Mp(r:Sum (Sum (aA×Nat) Nat) aA):aA:=match r with
 | .inl (.inl y)=>y.1
 |_=>[]
def Hs(r:Sum (Sum (aA×Nat) Nat) aA):Prop:=match r with
 | .inr _=>True
 | .inl (.inl y)=>y.1.length<=300
 | .inl (.inr q)=>q<8
theorem Mq{s:aA}{r:Sum (Sum (aA×Nat) Nat) aA}(h:Xc s r=true):s.length<=300/\∃x,JC s=some x/\KI fK 6 x=some r:=by
 unfold Xc at h;simp only[cY,cX]at h;refine⟨h.1, ?_⟩
 cases e:JC s with
 |none=>rw[e]at h;simp at h
 |some x=>rw[e]at h;simp at h;exact⟨x,rfl,h.2⟩
theorem sr{s:aA}{r:Sum (Sum (aA×Nat) Nat) aA}{x:Ex}(A:s.length<=300)(D:JC s=some x)(a:KI fK 6 x=some r)(G:Hs r){H:Nat}{w:World}(F:FM w H fU (qW.map some))(d:aF)(f:aE)(i:aG)(S:SW w d f i)(C:LW w):
  Calls prog 61 #[.string (B s), .map (some H), .int .i64 6, .nilFunc] w λe c=>w.grownBy c none/\∃v,e= .returned (.tuple #[.string (B (Hr r)),v])/\(v= .nilIface\/∃p q,v= .iface p (.pointer (some q)))/\Calls prog 37 #[v] c λe E=>e= .returned (f5 (Mn r) (Mo r) (B (Mp r)) 0 0)/\Gn c E:=by
 have m:∀v,v<fU.length->((qW.map some).getD v none).isSome=true:=λv K=>by rw[UI v K];rfl
 unfold KI at a
 cases k:pQ fK 60 x []with
 |none=>rw[k]at a;cases a
 |some u=>
 rw[k]at a
 cases u with
 |some y=>
  cases a
  exact(Fc (most:=6) A D (λ_ _=>O4 60) k G (by decide) (by decide) F xP m rfl (by decide) ko QY d f i S C).mono λe c ⟨g,b,j,I,_⟩=>
   ⟨g,_,j,aM ⟨_,_,rfl⟩,(yi c d f i (S.grown g) b _ _ I).mono λe E h=>⟨h.1,Gn.of h.2⟩⟩
 |none=>
 simp only at a
 cases l:j7 fK 6 60 x [] ⟨[],[]⟩with
 |none=>rw[l]at a;cases a
 |some z=>
 rw[l]at a
 cases z with
 |inl q=>
  cases a
  exact(Fb (most:=6) A D (λ_ _=>O4 60) k l (by decide) (by decide) F xP m rfl (by decide) ko QY d f i S C).mono λe c ⟨g,j⟩=>
   ⟨g,_,j,aM ⟨_,_,rfl⟩,xN c d f i (S.grown g) q G⟩
 |inr z=>
 simp only at a
 cases o:cI z.1 [] 130 z.2 with
 |none=>rw[o]at a;cases a
 |some t=>
 rw[o]at a;simp only at a;split at a
 case isFalse=>cases a
 rename_i J
 cases n:fS ⟨[],[]⟩ 1 130 t (ze [])with
 |none=>rw[n]at a;cases a
 |some L=>
 rw[n]at a;cases a
 exact(Fa (most:=6) A D (λ_ _=>O4 60) k l o J n (by decide) (by decide) F xP m rfl (by decide) ko QY d f i S C).mono λe c ⟨g,j⟩=>
  ⟨g,_,j,aQ rfl,(BU c).mono λe E h=>⟨h.1,Gn.of h.2⟩⟩
theorem Hu{s:aA}{r:Sum (Sum (aA×Nat) Nat) aA}(h:Xc s r=true)(m:Hs r)(w:World)(b:aF)(c:aE)(j:aG)(S:SW w b c j)(p:LW w):
  Calls prog 35 #[.string (B s)] w λe C=>Gn w C/\e= .returned (.tuple #[.string (B (Hr r)),f5 (Mn r) (Mo r) (B (Mp r)) 0 0]):=by
 obtain⟨o,x,q,n⟩:=Mq h;have y:∀W,w.grownBy W none->LW W:=λW g=>(rP.up (rP.of S p) g).tab
 exact bf λz A W d u v=>Du (B s) 6 fU qW z A (Hr r) (Mn r) (Mo r) (B (Mp r)) 0 0 W u v rfl (by decide) xP (λi a=>NT i a) (λi a=>bV (WT i a) (by decide)) λk t f l=>
  (pr (B s) t 6 k (B (Hr r)) _ (sr o q n m l b c j (S.grown (d.trans f)) (y _ (d.trans f))))
theorem Yw:Zr:=λg m h e w ok f=>by have x:=rF m h [] ok;have d:=GC m h [] ok;obtain⟨c,a,b⟩:=qF ⟨[],[]⟩ e m h [] (ze []) 130 ok w rfl (by simp at x;omega) (by simp) (by show 0+_<=_;omega) (by show 0+_<=_;omega);exact⟨c,a,by rw[b.out,YH ok];rfl⟩
theorem mm:∀(m n:Nat) (x:Ex),mG m x->cA m x<=n->mG n x
 |0,_,_,h,_=>h.elim
 |m+1,0,x,_,h=>by rw[cA]at h;omega
 |m+1,n+1,x,h,t=>by
  have i:∀y,y∈x.kids->mG m y->mG n y:=λy v u=>by rw[cA]at t;exact mm m n y u (by have:=Ac (gH (f:=cA m) v);omega)
  rcases h with⟨d,g,w⟩|⟨d,g,w⟩|⟨d,p,b,g,l,w,j⟩|⟨d,a,b,c,g,w,j,k,o⟩|⟨d,p,a,b,g,l,w,j,k⟩|⟨d,r,b,g,s,l,w,j,k,o⟩|⟨d,a,b,g,w,j,k⟩|⟨d,a,b,g,w,j,k⟩
  ·exact aQ ⟨d,g,w⟩
  ·exact aM (aQ ⟨d,g,w⟩)
  ·exact aM (aM (aQ ⟨d,p,b,g,l,w,i b (by rw[w];simp) j⟩))
  ·exact aM (aM (aM (aQ ⟨d,a,b,c,g,w,i a (by rw[w];simp) j,i b (by rw[w];simp) k,i c (by rw[w];simp) o⟩)))
  ·exact aM (aM (aM (aM (aQ ⟨d,p,a,b,g,l,w,i a (by rw[w];simp) j,i b (by rw[w];simp) k⟩))))
  ·exact aM (aM (aM (aM (aM (aQ ⟨d,r,b,g,s,l,w,j,λe q=>i e (by rw[w];exact kX _ q) (k e q),i b (by rw[w];simp) o⟩)))))
  ·exact aM (aM (aM (aM (aM (aM (aQ ⟨d,a,b,g,w,i a (by rw[w];simp) j,i b (by rw[w];simp) k⟩))))))
  ·exact aM (aM (aM (aM (aM (aM (aM ⟨d,a,b,g,w,i a (by rw[w];simp) j,i b (by rw[w];simp) k⟩))))))
theorem xU{x:Ex}(h:mG m x):qD m x:=BX m x (rW m x h)
def Rf(s:aA)(a b:Int):Prop:=(300<s.length/\a=1/\b=0)\/(s.length<=300/\∃x h,fC (dU dL (B s)) (s.length+2) ⟨0,-1⟩=some (x,h)/\((0<=(cL (dU dL (B s)) h eE).bad/\a=2/\b=(cL (dU dL (B s)) h eE).bad)\/((cL (dU dL (B s)) h eE).bad<0/\(∀m,qD m x->40<cA m x)/\a=3/\b=0)))
theorem S9{s:aA}(b:s.length<=300){x:Ex}{a:St}(e:fC (dU dL (B s)) (s.length+2) ⟨0,-1⟩=some (x,a))(h:(cL (dU dL (B s)) a eE).bad<0):Rf s 3 0\/JC s=some x:=by
 have L:=(X0 b (s.length+1) 0 (dG _) (by omega)).1;rw[<-BA]at L;obtain⟨m,w,_,_⟩:=Fs L e (nT h).1;by_cases f:40<cA m x
 ·exact aQ (aM ⟨b,x,a,e,aM ⟨h,λg d=>by rw[(lZ d (xU w)).2];exact f,rfl,rfl⟩⟩)
 ·have c:=(F5 (mm m 40 x w (by omega)) (show 40<=60 by decide)).1;refine aM ?_;unfold JC;rw[e];simp only[];rw[aR];simp only[cY,cX];exact⟨⟨h,rW 60 x c⟩,by rw[(lZ (xU c) (xU w)).2];omega⟩
theorem V4(s:aA):(∃a b,Rf s a b/\a≠0)\/(s.length<=300/\∃x,JC s=some x):=by
 rcases bZ 300 s.length with e|e
 ·exact aQ ⟨1,0,aQ ⟨e,rfl,rfl⟩,by decide⟩
 ·have f:(B s).size=s.length:=dY s;obtain⟨x,c,w,_⟩:=B5 (B s) (by omega);rw[f]at w;by_cases d:(cL (dU dL (B s)) c eE).bad<0
  ·rcases S9 e w d with h|h
   ·exact aQ ⟨3,0,h,by decide⟩
   ·exact aM ⟨e,x,h⟩
  ·exact aQ ⟨2,_,aM ⟨e,x,c,w,aQ ⟨by omega,rfl,rfl⟩⟩,by decide⟩
def df(s d:aA)(a b:Int):Prop:=∀(w:World) (h:aF) (x:aE) (c:aG),SW w h x c->Calls prog 14 #[.string (B s)] w λe f=>Gn w f/\e= .returned (.tuple #[.string (B d),fv a b])
def zF(s f:aA)(a b:Int)(c:aA):Prop:=∀(w:World) (h:aF) (x:aE) (d:aG),SW w h x d->LW w->Calls prog 35 #[.string (B s)] w λe g=>Gn w g/\e= .returned (.tuple #[.string (B f),f5 a b (B c) 0 0])
theorem Hv{s:aA}{b:Int}(h:Rf s a b):df s [] a b:=λw d f p S=>by
 have t:(B s).size=s.length:=dY s;rcases h with⟨q,rfl,rfl⟩|⟨q,x,v,l,r⟩
 ·exact(jo (B s) (by omega) w d f p S).mono λe y h=>⟨h.2,h.1⟩
 ·obtain⟨A,z,n,k⟩:=B5 (B s) (by omega);rw[t,l]at n;cases n;refine(ph (B s) (by omega) w _ x v l k d f p S).mono ?_;rintro e y ⟨g,c⟩;refine⟨g, ?_⟩;rcases r with⟨o,rfl,rfl⟩|⟨o,u,rfl,rfl⟩
  ·rcases c with⟨_,c⟩|⟨c,_⟩
   ·exact c
   ·omega
  ·rcases c with⟨c,_⟩|⟨_,c⟩
   ·omega
   ·obtain⟨m,_,j,_⟩:=k o;rcases c m j.shape with⟨_,i⟩|⟨i,_⟩
    ·exact i
    ·have:=u m j.shape;omega
theorem Pp{s:aA}{x:Ex}(b:s.length<=300)(h:JC s=some x):df s (cP 60 x) 0 0:=λw e a c S=>Rt (by unfold Yd;rw[h];simp[b]) w e a c S
theorem Hw{s:aA}{b:Int}(h:Rf s a b)(z:Nat)(q:Int)(w:World)(k:aF)(p:aE)(F:aG)(S:SW w k p F):
  Calls prog 61 #[.string (B s), .map (some z), .int .i64 q, .nilFunc] w λe o=>w.grownBy o none/\∃v,e= .returned (.tuple #[.string (B []),v])/\Cy o k v a b:=by
 have N:(B s).size=s.length:=dY s;rcases h with⟨J,rfl,rfl⟩|⟨J,x,E,y,r⟩
 ·exact(jx (B s) (by omega) z q w k p F S).mono λe o ⟨g,v,H,I⟩=>⟨g,v,H,aQ ⟨0,by decide,I,rfl,rfl⟩⟩
 ·have j:=aS (jd (B s) (by omega) w _ x E y (k 1) S.g1 (aZ (by decide) S.hsz));have d:=aS r;clear S y r;generalize cL (dU dL (B s)) E eE=O at j d;go_enter func61,ntmps61;go_wp2_with fail;refine j.mono ?_;rintro e P ⟨l,(⟨n,c,rfl,t⟩|⟨n,v,M,m,L,D,G,u⟩)⟩
  ·rcases d.out with⟨A,f,i⟩|⟨A,_⟩
   ·have Q:=aS (aL l (aL t (aL f i)));clear l t f i j d n;go_wp2
    go_ret2
    refine⟨Q.1,_,rfl,aM ⟨c,rfl, ?_,Q.2.2.1⟩⟩;rw[Q.2.2.2];exact Q.2.1
   ·omega
  ·rcases d.out with⟨A,_⟩|⟨_,f,i,C⟩
   ·omega
   ·have K:=f m (dI.shape m v x D);rcases u with⟨_,rfl⟩|⟨u,_⟩
    ·have Q:=aS (aL l (aL i C));clear l f i C K j d n L D G;unfold eQ;go_wp2
     go_ret2
     exact⟨Q.1,_,rfl,aQ ⟨1,by decide,rfl,Q.2.1,Q.2.2⟩⟩
    ·omega
theorem Hx{s c k:aA}{b:Int}(h:∀(w:World) (x:Nat) (d:aF) (f:aE) (l:aG),SW w d f l->LW w->FM w x fU (qW.map some)->Calls prog 61 #[.string (B s), .map (some x), .int .i64 6, .nilFunc] w λe m=>w.grownBy m none/\∃v,e= .returned (.tuple #[.string (B c),v])/\(v= .nilIface\/∃p q,v= .iface p (.pointer (some q)))/\Calls prog 37 #[v] m λe E=>e= .returned (f5 a b (B k) 0 0)/\Gn m E):zF s c a b k:=λw d f l S u=>by
 have A:∀W,w.grownBy W none->LW W:=λW g=>(rP.up (rP.of S u) g).tab
 exact bf λC D W o y z=>Du (B s) 6 fU qW C D c a b (B k) 0 0 W y z rfl (by decide) xP (λi j=>NT i j) (λi j=>bV (WT i j) (by decide)) λn x r t=>
  (pr (B s) x 6 n (B c) _ (h n x d f l (S.grown (o.trans r)) (A _ (o.trans r)) t))
theorem KU{s:aA}{b:Int}(h:Rf s a b):zF s [] a b []:=Hx λw i e x d S _ _=>
 (Hw h i 6 w e x d S).mono λ_ j ⟨g,v,f,c⟩=>⟨g,v,f,aM (Cy.val c),Da j e x d (S.grown g) c⟩
theorem SA{s:aA}{x:Ex}(b:s.length<=300)(d:JC s=some x){r:Sum (Sum (aA×Nat) Nat) aA}(a:KI fK 6 x=some r)(w:Hs r):zF s (Hr r) (Mn r) (Mo r) (Mp r):=Hx λ_ _ h e f S c F=>sr b d a w F h e f S c
theorem Mr(s:aA):∃k a b j,zF s k a b j:=by
 rcases V4 s with⟨a,b,h,_⟩|⟨w,x,c⟩
 ·exact⟨_,_,_,_,KU h⟩
 ·have g:=(F8 w c).1;rcases V2 g with⟨y,e,i⟩|⟨q,d⟩|⟨l,m,f⟩
  ·exact⟨_,_,_,_,SA w c (Hd e) i⟩
  ·exact⟨_,_,_,_,SA w c (Hc d) d.2.2⟩
  ·exact⟨_,_,_,_,SA w c (Hb Yw f) trivial⟩
def zN:Ex:=⟨bK,[zZ],[],0⟩
def XC:Ex:=⟨dO,[zZ],[zN],0⟩
def pZ:Ex:=⟨eS,[],[zN,zN],0⟩
def FB(x b:Ex):Ex:=⟨iP,[zZ],[x,b],0⟩
def tL:aA:=[108,101,116,32,122,32,61,32]
def tR:aA:=[32,105,110,32,122]
def tP:aA:=[32,105,110,32,40,122,44,32,122,41]
def tF:aA:=[40,102,117,110,32,122,32,45,62,32,122,41,32,40]
theorem Sw:MU zZ:=⟨by decide,by decide,⟨122,[],rfl,by decide⟩,by decide⟩
theorem sw(m:Nat):mG (m+1) zN:=aQ ⟨rfl,⟨zZ,rfl,Sw⟩,rfl⟩
theorem Wb(m:Nat):mG (m+2) pZ:=aM (aM (aM (aM (aM (aM (aM ⟨rfl,zN,zN,rfl,rfl,sw m,sw m⟩))))))
theorem sx(m:Nat):mG (m+2) XC:=aM (aM (aQ ⟨rfl,zZ,zN,rfl,Sw,rfl,sw m⟩))
theorem tc{x b:Ex}(h:mG m x)(k:mG m b):mG (m+1) (FB x b):=aM (aM (aM (aM (aQ ⟨rfl,zZ,x,b,rfl,Sw,rfl,h,k⟩))))
theorem Ms{x:Ex}(h:mG m x)(e:m<=59):cP 59 x=cP 60 x:=by rw[NJ (xU h) e,NJ (xU h) (show m<=60 by omega)]
theorem V5{x b:Ex}{u:aA}(h:mG 40 x)(a:cP 59 b=u):cP 60 (FB x b)=tL++cP 60 x++([32,105,110,32]++u):=by rw[D7];unfold FB;simp only[];rw[aN (by decide),aN (by decide),aN (by decide),aN (by decide),aN (by decide),<-Ms h (by decide),<-a];have e:j8 (lU [zZ]) (mY (cP 59) ⟨iP,[zZ],[x,b],0⟩) [zZ].length=zZ++SK++cP 59 x:=rfl;have w:mY (cP 59) ⟨iP,[zZ],[x,b],0⟩ [zZ].length=cP 59 b:=rfl;rw[e,w,show oU iP=MJ from rfl];simp[tL,MJ,SK,nj,zZ]
theorem Mt{X:Ex}(a:mG 60 X)(d:(cP 60 X).length<=300):Rf (cP 60 X) 3 0\/∃Y,JC (cP 60 X)=some Y/\XE X Y:=by
 have h:=yn 60 X a;obtain⟨b,x,g⟩:=Gu h;have i:=h.le;obtain⟨y,e,f⟩:=O3 (iO dL (cP 60 X) ((cP 60 X).length+1) 0) 60 ((cP 60 X).length+2) X 0 a b (by rw[jJ];exact oZ x (by decide)) (by omega) (by omega);rw[jJ]at e;rw[<-BA]at e x
 have c:(cL (dU dL (B (cP 60 X))) ⟨(xk 60 X).length,-1⟩ eE).bad<0:=by rw[i7 (w:=eE) x];exact(by decide:(-1:Int)<0)
 rcases S9 d e c with q|q
 ·exact aQ q
 ·exact aM ⟨y,q,60,f⟩
theorem SB(h:XE zN y):y.op=bK/\y.names=[zZ]:=by obtain⟨e,w,_⟩:=h.kids;exact⟨e,w⟩
theorem tg{x Y b:Ex}(g:XG Y)(h:XE (FB x b) Y):∃w,XB x Y w/\XE b w:=by obtain⟨a,c,d⟩:=h.kids;obtain⟨j,w,e,f,i⟩:=d.i2;exact⟨w,⟨g,a,c,j,e,f⟩,i⟩
def ed(t:aA):aA:=tF++t++[41]
theorem Wc{x:Ex}(c:mG 60 x):TP (ed (cP 60 x)) (([kk eD]++xk 60 XC++[kk eO])++([kk eD]++xk 60 x++[kk eO])):=by
 have w:=sa (b:=true) (yn 60 XC (sx 58));have a:=sa (b:=true) (yn 60 x c);have h:=w.sp a;have e:cP 60 XC=[102,117,110,32,122,32,45,62,32,122]:=by decide+kernel
 rw[e]at h;unfold T9 oA at h;rw[aR rfl,aR rfl,aR rfl,aR rfl]at h;simpa[ed,tF,nX,nY]using h
theorem Wd{x:Ex}(m:mG 60 x)(s:(ed (cP 60 x)).length<=300):Rf (ed (cP 60 x)) 3 0\/∃Y e c p,JC (ed (cP 60 x))=some Y/\Y=⟨oO,[],[e,c],p⟩/\XE XC e/\XE x c:=by
 have h:=Wc m;obtain⟨b,a,j⟩:=Gu h;have l:=h.le;generalize r:iO dL (ed (cP 60 x)) ((ed (cP 60 x)).length+1) 0=T at b a j;generalize o:(ed (cP 60 x)).length=F at l;simp only[bD,bU,cB]at a j l;obtain⟨e,g,t⟩:=sc (T:=T) (F:=F+1) (O3 T 60 (F+1)) (sx 58) b.left (by omega) (by omega);obtain⟨c,i,u⟩:=sc (T:=T) (F:=F+1) (O3 T 60 (F+1)) m b.right (by omega) (by omega);have f:(tk T 0).is=eD:=b.left.left.left.head.1;have n:(tk T (0+([kk eD]++xk 60 XC++[kk eO]).length)).is=eD:=b.right.left.left.head.1;simp only[bD,bU,cB,jJ]at g i n
 have d:fC T (F+2) ⟨0,-1⟩=some (⟨oO,[],[e,c],e.pos⟩,⟨1+(xk 60 XC).length+1+(1+(xk 60 x).length+1),-1⟩):=by
  rw[fC,aN (by decide),aN (by rw[DP f];decide),aN (by rw[DP f];decide),aN (by rw[DP f];decide),g];simp only[];rw[tD,aR (aM (aM (by rw[DP n];decide))),i];simp only[]
  rw[show T.length=T.length-1+1 from by omega,tD,aN (by
   rw[DP (v:=eE) a,DP (v:=eE) a,DP (v:=eE) a]
   decide)]
 have k:(cL T ⟨1+(xk 60 XC).length+1+(1+(xk 60 x).length+1),-1⟩ eE).bad<0:=by rw[i7 (w:=eE) a];exact(by decide:(-1:Int)<0)
 rw[<-r,<-BA]at d k;rw[<-o]at d;rcases S9 s d k with q|q
 ·exact aQ q
 ·exact aM ⟨_,e,c,_,q,rfl,⟨60,t⟩,⟨60,u⟩⟩
theorem Hy{x Y h w:Ex}{p:Nat}(g:XG Y)(e:Y=⟨oO,[],[h,w],p⟩)(c:XE XC h)(d:XE x w):Vz x Y:=by obtain⟨f,i,j⟩:=c.kids;obtain⟨k,b,a⟩:=j.i1;subst e;exact⟨g,rfl,rfl,h,w,k,rfl,d,f,i,b,(SB a).1,(SB a).2⟩
def Hz:Ty:=⟨eS,0,[⟨[],0,[]⟩,⟨[],1,[]⟩]⟩
def Xh:aA:=[40,108,44,32,114,41]
theorem Pq:dJ 2 2 Hz:=aM (aM (aM ⟨aQ rfl,rfl,_,_,rfl,aQ ⟨rfl,by decide,rfl⟩,aQ ⟨rfl,by decide,rfl⟩⟩))
theorem We:jm (B Xh) Hz [[108],[114]]:=by refine⟨by decide,⟨5,-1⟩,by kernel_rfl,by decide,by decide,λN m ok=> ?_⟩;rw[(VW ok Pq).1];decide
theorem Mu:mX [[108],[114]]=[[108],[114]]:=by unfold mX;exact List.mergeSort_of_pairwise (by decide)
theorem Ia(M:Nat)(h:aD)(x y:Ty):iL M h 2 Hz ⟨eS,0,[x,y]⟩ (List.replicate 2 none)=some [some (cJ M h x),some (cJ M h y)]:=by simp[iL,mC,Hz,eS,List.replicate]
theorem O6{ns D:aD}{N K:Nat}(m:D.Nodup)(u:D.length=K)(o:∀v,v<K->ns.getD (v+N) []=D.getD v []):∀(n:Nat) (x:Ty) (k l:Nat),dJ K n x->cQ n x (List.range k)=List.range l->l<=K->oW ns n (SE N n x) (D.take k)=(x,D.take l)
 |0,_,_,_,h,_,_=>absurd h id
 |n+1,x,k,l,ok,c,z=>by
  obtain⟨y,j,O⟩:=x;rcases ok with⟨w,d,f⟩|⟨w,d,f⟩|⟨w,d,a,f,t⟩|⟨w,d,a,b,f,t,E⟩
  ·simp only at w d f;subst w f;have H:D.getD j []=D[j]:=by rw[aW,aP (by omega)];rfl
   rw[SE,aR rfl,oW,aR rfl];simp only[];rw[o j d,H];rw[cQ,aR rfl]at c;simp only[]at c⊢
   have C:D[j]∈D.take k↔j<k:=by
    constructor
    ·intro h;obtain⟨i,M,e⟩:=List.mem_take_iff_getElem.1 h;have F:=m.idxOf_getElem j (by omega);have G:=m.idxOf_getElem i (by omega);rw[e,F]at G;omega
    ·intro h;exact List.mem_take_iff_getElem.2 ⟨j,by omega,rfl⟩
   by_cases p:j<k
   ·rw[aR (eV.2 p)]at c;have e:=eC List.length c;simp at e;subst e;unfold pU;rw[aR (C.2 p)];have L:j<(D.take k).length:=by rw[gK];omega
    have I:(D.take k).Nodup:=(List.take_sublist k D).nodup m;have:=I.idxOf_getElem j L;rw[List.getElem_take]at this;rw[this]
   ·rw[aN (λe=>p (eV.1 e))]at c;have e:=eC List.length c;simp at e;subst e;rw[mH]at c;have s:j=k:=by simpa using c
    subst s;unfold pU;rw[aN (λe=>p (C.1 e)),gK,oK (by omega),DQ (by omega)]
  ·simp only at w d f;subst d f;have g:y≠[]:=by rcases w with w|w<;>rw[w]<;>decide
   rw[SE,aN g,oW];simp only[];rw[aN g];rw[cQ,aN g]at c;have e:=eC List.length c;simp at e;subst e;rfl
  ·simp only at w d f;subst d f;have g:y≠[]:=by rw[w];decide
   rw[SE,aN g,oW];simp only[cG,fE];rw[aN g];rw[cQ,aN g]at c;rw[O6 m u o n a k l t c z]
  ·simp only at w d f;subst d f;have g:y≠[]:=by rcases w with w|w<;>rw[w]<;>decide
   rw[SE,aN g,oW];simp only[cG,fE];rw[aN g];rw[cQ,aN g]at c;change cQ n b (cQ n a (List.range k))=List.range l at c;have A:=tX n b (cQ n a (List.range k));rw[c]at A;obtain⟨r,s⟩:=U1 A;obtain⟨q,J⟩:∃q,q=(cQ n a (List.range k)).length:=⟨_,rfl⟩;rw[<-J]at r s;rw[r]at c;rw[O6 m u o n a k q t r (by omega),O6 m u o n b q l E c z]
structure mW(N:Nat)(ty:Ty):Prop where
 ok:dJ N 121 ty
 v:cQ 121 ty []=List.range N
 s:cC 122 (JD N ty)<=120
 l:(fJ 122 (JD N ty)).length<=300
def mo(N:Nat)(h:Ty):aA:=cJ 121 (eW (N+N)) h
def XD(N:Nat)(h:Ty):aA:=cJ 121 (eW (N+N)) (SE N 121 h)
theorem mW.few{N:Nat}{w:Ty}(h:mW N w):N+N<=120:=by have e:=rF 122 (JD N w) [] (F9 h.ok);rw[JB h.ok h.v]at e;have:=h.s;simp at e;omega
theorem mW.text{N:Nat}{e:Ty}(h:mW N e):fJ 122 (JD N e)=[40]++mo N e++[44,32]++XD N e++[41]:=by rw[mQ (F9 h.ok) (JB h.ok h.v)];rfl
theorem mW.rd{N:Nat}{e:Ty}(h:mW N e):jm (B (fJ 122 (JD N e))) (JD N e) (eW (N+N)):=by have x:=h.few;have w:=mQ (F9 h.ok) (JB h.ok h.v);have:=IM (N:=N+N) (by omega) (F9 h.ok) (JB h.ok h.v) (by rw[<-w];exact h.l) h.s;rwa[<-w]at this
theorem mW.size{N:Nat}{e:Ty}(h:mW N e):cC 121 e<=120:=by have w:cC 122 (JD N e)=1+(cC 121 e+(cC 121 (SE N 121 e)+0)):=rfl;have:=h.s;omega
theorem mW.one{N:Nat}{e:Ty}(h:mW N e):mo N e=fJ 121 e:=by have x:=h.few;rw[mQ h.ok h.v];refine uQ (N:=N) (λv w=> ?_) 121 e h.ok;rw[yN (by omega),yN w]
theorem mW.can1{N:Nat}{x:Ty}(h:mW N x)(w:World)(b:aF)(c:aE)(i:aG)(S:SW w b c i):Calls prog 18 #[.string (B (mo N x))] w λe j=>e= .returned (.tuple #[.string (B (fJ 121 x)),fv 0 0])/\Gn w j:=by have k:=h.few;have f:=h.l;rw[h.text]at f;simp only[bD,bU,cB]at f;have a:=mQ h.ok h.v;have d:=h.one;have g:=IM (N:=N) (by omega) h.ok h.v (by rw[<-a,<-d];omega) h.size;rw[<-a]at g;have:=Uz (B (mo N x)) x (eW N) 121 w b c i S (by rw[d];exact g) (by rw[nH];exact h.ok);rw[nH,<-a]at this;exact this
theorem mW.can2{N:Nat}{a:Ty}(h:mW N a)(w:World)(d:aF)(f:aE)(j:aG)(S:SW w d f j):Calls prog 18 #[.string (B (XD N a))] w λe r=>e= .returned (.tuple #[.string (B (fJ 121 a)),fv 0 0])/\Gn w r:=by
 have s:=h.few;have b:=h.l;rw[h.text]at b;simp only[bD,bU,cB]at b;have c:((eW (N+N)).drop N).length=N:=by rw[qP,nH];omega
 obtain⟨q,i,o,p⟩:=U0 (vL (N:=N+N) (by omega)) DM (n:=121) (x:=SE N 121 a) (KS 121 a h.ok);have g:=O6 (ns:=eW (N+N)) (D:=(eW (N+N)).drop N) (N:=N) (K:=N) ((vL (N:=N+N) (by omega)).nd.drop) c (λv _=>by rw[aW,aW,eJ,qT N v]) 121 a 0 N h.ok h.v (aV _);rw[List.take_zero,iV (by omega)]at g;rw[g]at i
 have k:jm (B (XD N a)) a ((eW (N+N)).drop N):=by refine⟨by rw[dY];unfold XD at b⊢;omega,q,i,o,p,λM m ok=> ?_⟩;rw[(VW ok h.ok).1];exact h.size
 have:=Uz (B (XD N a)) a _ 121 w d f j S k (by rw[c];exact h.ok);rw[c,<-mQ h.ok h.v]at this;exact this
theorem mW.ins{N:Nat}{x:Ty}(h:mW N x)(w:World)(a:aF)(b:aE)(d:aG)(S:SW w a b d):Calls prog 21 #[.string (B Xh), .string (B (fJ 122 (JD N x)))] w λe f=>Xw w f e [[108],[114]] [mo N x,XD N x]:=by have c:=Ia 122 (eW (N+N)) x (SE N 121 x);rw[dJ.text (eW (N+N)) 121 _ x h.ok (by decide),dJ.text (eW (N+N)) 121 _ _ (KS (N:=N) 121 x h.ok) (by decide)]at c;have:=Xx (B Xh) (B (fJ 122 (JD N x))) Hz (JD N x) [[108],[114]] (eW (N+N)) 2 122 2 (N+N) w a b d S We h.rd Pq (F9 h.ok) _ c;rw[Mu]at this;exact this
theorem Wg{s:aA}(w:s.length<=300)(a:JC s=some y)(h:OU y):∃b c,zF s [] 4 b c:=by obtain⟨v,e,x⟩:=h;exact⟨_,_,SA w a (Hd e) x⟩
theorem Pr{s:aA}{q:Nat}(e:s.length<=300)(w:JC s=some y)(h:OF y q):zF s [] (B3 q) 0 []:=SA e w (Hc h) h.2.2
theorem th{s:aA}{a:aD}{e:Ty}(w:s.length<=300)(x:JC s=some y)(h:OT y a e):zF s (fJ 121 e) 0 0 []:=SA w x (Hb Yw h) trivial
theorem Ib:∀q,q<8->B3 q≠0:=by decide
def Ix(x:Ex)(a:Int):Prop:=(OU x/\a=4)\/∃q,OF x q/\a=B3 q
theorem Ix.ne{x:Ex}(h:Ix x a):a≠0:=by
 rcases h with⟨_,rfl⟩|⟨q,h,rfl⟩
 ·decide
 ·exact Ib q h.2.2
theorem Ix.inf{s:aA}(e:s.length<=300)(w:JC s=some y)(h:Ix y a):∃b x,zF s [] a b x:=by
 rcases h with⟨h,rfl⟩|⟨q,h,rfl⟩
 ·exact Wg e w h
 ·exact⟨_,_,Pr e w h⟩
theorem Wh{x:Ex}(h:XG x):(∃a,Ix x a)\/∃e w,OT x e w:=by
 rcases V2 h with h|⟨q,h⟩|h
 ·exact aQ ⟨4,aQ ⟨h,rfl⟩⟩
 ·exact aQ ⟨_,aM ⟨q,h,rfl⟩⟩
 ·exact aM h
def Sx(b t:aA):Prop:=∃h e x a,zF (tL++b++tP) h e x a/\(e=8\/(e=0/\(300<h.length\/(h.length<=300/\∃N w,mW N w/\h=fJ 122 (JD N w)/\t=fJ 121 w))))
def Yx(b t a:aA)(w x:Int):Prop:=∃e h c d,zF (ed b) e h c d/\(h=3\/(w≠0/\x≠0/\h≠0/\a=[]/\e=[]/\t=[])\/(w=0/\x=0/\h=0/\a=t/\e=t/\Sx b t))
def Wi(h t:aA)(x:Int):Prop:=∃w e a b,zF (tL++h++tR) w e a b/\((280<h.length\/e=3)\/(h.length<=280/\Yx h t w x e))
def Ps(s:aA):Prop:=∃h w d t e c en,df s h w d/\zF s t e c en/\h.length<=10000/\
 ((w≠0/\e≠0/\h=[]/\t=[])\/(w=0/\∃u a f g x b i,zF h u a f g/\df h x b i/\
  (300<h.length\/(h.length<=300/\u=t/\(e=0↔a=0)/\b=0/\x=h/\Wi h t e))))
theorem Wj{b:Ex}(h:XE pZ b):∃w x,b.op=eS/\b.names=[]/\b.kids=[w,x]/\w.op=bK/\w.names=[zZ]/\x.op=bK/\x.names=[zZ]:=by obtain⟨d,f,g⟩:=h.kids;obtain⟨w,x,e,a,c⟩:=g.i2;exact⟨w,x,d,f,e,(SB a).1,(SB a).2,(SB c).1,(SB c).2⟩
theorem Wk{x:Ex}(h:mG 40 x):cP 60 (FB x zN)=tL++cP 60 x++tR:=V5 h (u:=[122]) rfl
theorem Sy{x:Ex}(h:mG 40 x):cP 60 (FB x pZ)=tL++cP 60 x++tP:=V5 h (u:=[40,122,44,32,122,41]) (by decide+kernel)
theorem V6(x b:Ex):cA 60 (FB x b)=max (cA 59 x) (cA 59 b)+1:=by unfold FB;rw[cA];simp[j4]
theorem Ic{x:Ex}(l:mG 40 x)(V:(cP 60 x).length<=280)(z:cA 60 (FB x zN)<=40){w:aD}{e:Ty}(k:OT x w e):Sx (cP 60 x) (fJ 121 e):=by
 have f:=Sy l;have J:mG 60 (FB x pZ):=tc (F5 l (by decide)).1 (Wb 57);have a:(cP 60 (FB x pZ)).length<=300:=by rw[f];simp[tL,tP];omega
 have m:cA 60 (FB x pZ)<=40:=by
  have o:cA 59 zN=1:=by decide
  have p:cA 59 pZ=2:=by decide
  rw[V6,o]at z;rw[V6,p];omega
 obtain⟨Y,g,q⟩:=cy J m;have n:=(F8 a g).1;obtain⟨T,s,t⟩:=tg n q;obtain⟨X,Z,K,L,M,N,O,P,Q⟩:=Wj t;have d:=g;rw[f]at d a;unfold Sx;rcases Su s K L M N O P Q k with h|⟨G,j,σ,c,I,F,H,u,y,i,C,A⟩
 ·exact⟨_,_,_,_,Pr a d h,aQ rfl⟩
 ·obtain⟨h0,U,_,b,_⟩:=k.r;have D:=F9 b.ok;obtain⟨W,R,S⟩:=Yw I 122 (JD w.length e) C (by decide) (by rw[A];exact D) j
  have E:KI fK 6 Y=some (.inr (fJ 122 (JD w.length e))):=by unfold KI;rw[G];simp only[];rw[F];simp only[];rw[i];simp only[];rw[aR (Si 130 _ (J9 H u _ _ _ y i)),R];simp only[];rw[S]
  refine⟨_,_,_,_,SA a d E trivial,aM ⟨rfl, ?_⟩⟩;rcases bZ 300 (fJ 122 (JD w.length e)).length with h|h
  ·exact aQ h
  ·exact aM ⟨h,w.length,e,⟨b.ok,b.v,j,h⟩,rfl,rfl⟩
theorem dg{x:Ex}(k:mG 40 x){t:aA}(f:(∃a,Ix x a/\ea=a/\t=[])\/∃C u,OT x C u/\ea=0/\t=fJ 121 u):Wi (cP 60 x) t ea:=by
 rcases bZ 280 (cP 60 x).length with d|d
 ·obtain⟨R,O,P,Q,h⟩:=Mr (tL++cP 60 x++tR);exact⟨R,O,P,Q,h,aQ (aQ d)⟩
 ·have m:=Wk k;have S:mG 60 (FB x zN):=tc (F5 k (by decide)).1 (sw 58);have g:(cP 60 (FB x zN)).length<=300:=by rw[m];simp[tL,tR];omega
  rcases Mt S g with h|⟨Y,j,y⟩
  ·rw[m]at h;exact⟨_,_,_,_,KU h,aQ (aM rfl)⟩
  ·have v:=F8 g j;have H:cA 60 (FB x zN)<=40:=by rw[<-V1 y];exact v.2
   obtain⟨W,s,G⟩:=tg v.1 y;obtain⟨D,E⟩:=SB G;have A:=Hh D E 58;rw[m]at j g;have U:=(F5 k (show 40<=60 by decide)).1;have i:(ed (cP 60 x)).length<=300:=by simp[ed,tF];omega
   have z:=Wd U i;rcases f with⟨a,c,rfl,rfl⟩|⟨C,u,f,rfl,rfl⟩
   ·have I:Ix Y ea:=by
     rcases c with⟨h,e⟩|⟨q,h,e⟩
     ·exact aQ ⟨Vv s A h,e⟩
     ·exact aM ⟨q,Vw s A h,e⟩
    obtain⟨b,nm,K⟩:=I.inf g j;refine⟨_,_,_,_,K,aM ⟨d, ?_⟩⟩;rcases z with h|⟨Z,F,T,p,w,n,o,r⟩
    ·exact⟨_,_,_,_,KU h,aQ rfl⟩
    ·have l:=Hy (F8 i w).1 n o r
     have J:Ix Z ea:=by
      rcases c with⟨h,e⟩|⟨q,h,e⟩
      ·exact aQ ⟨Yr l h,e⟩
      ·exact aM ⟨q,Yu l h,e⟩
     obtain⟨V,h0,L⟩:=J.inf i w;exact⟨_,_,_,_,L,aM (aQ ⟨c.ne,c.ne,c.ne,rfl,rfl,rfl⟩)⟩
   ·obtain⟨X,M⟩:=Vx s D E f;refine⟨_,_,_,_,th g j M,aM ⟨d, ?_⟩⟩;rcases z with h|⟨Z,F,T,p,w,n,o,r⟩
    ·exact⟨_,_,_,_,KU h,aQ rfl⟩
    ·have l:=Hy (F8 i w).1 n o r;obtain⟨n3,N⟩:=Yv l f;exact⟨_,_,_,_,th i w N,aM (aM ⟨rfl,rfl,rfl,rfl,rfl,Ic k d H f⟩)⟩
theorem yt(s:aA):Ps s:=by
 rcases V4 s with⟨a,b,h,d⟩|⟨r,x,l⟩
 ·exact⟨[],a,b,[],a,b,[],Hv h,KU h,by simp,aQ ⟨d,d,rfl,rfl⟩⟩
 ·obtain⟨g,F⟩:=F8 r l;have H:=mm 60 40 x g.ok F
  have K:(cP 60 x).length<=10000:=by
   have P:(B s).size=s.length:=dY s;obtain⟨T,S,N,L⟩:=B5 (B s) (by omega);have j:=l;unfold JC at j;rw[<-P,N]at j;simp only[]at j;split at j
   ·rename_i E;cases j;simp only[cY,cX]at E;obtain⟨m,c,p,Q⟩:=L E.1.1;have I:=p.text;rw[<-(lZ (xU g.ok) p.shape).1]at I;omega
   ·cases j
  have M:=Pp r l
  have D:∀(t:aA) (f v:Int) (en:aA),zF s t f v en->((∃a,Ix x a/\f=a/\t=[])\/∃n k,OT x n k/\f=0/\t=fJ 121 k)->Ps s:=λt f v en J i=>by
   refine⟨cP 60 x,0,0,t,f,v,en,M,J,K,aM ⟨rfl, ?_⟩⟩;rcases bZ 300 (cP 60 x).length with w|w
   ·have h:Rf (cP 60 x) 1 0:=aQ ⟨w,rfl,rfl⟩;exact⟨_,_,_,_,_,_,_,KU h,Hv h,aQ w⟩
   ·obtain⟨y,u,o⟩:=cy g.ok F;have z:=(F8 w u).1;have A:=Pp w u;rw[mh o]at A;rcases i with⟨a,d,rfl,rfl⟩|⟨n,k,i,rfl,rfl⟩
    ·have p:Ix y f:=by
      rcases d with⟨h,e⟩|⟨q,h,e⟩
      ·exact aQ ⟨Sr z o h,e⟩
      ·exact aM ⟨q,Ss z o h,e⟩
     obtain⟨b,G,C⟩:=p.inf w u;exact⟨_,_,_,_,_,_,_,C,A,aM ⟨w,rfl,Iff.rfl,rfl,rfl,dg H (aQ ⟨f,d,rfl,rfl⟩)⟩⟩
    ·obtain⟨R,O⟩:=Mg z o i;exact⟨_,_,_,_,_,_,_,th w u O,A,aM ⟨w,rfl,Iff.rfl,rfl,rfl,dg H (aM ⟨n,k,i,rfl,rfl⟩)⟩⟩
  rcases Wh g with⟨a,d⟩|⟨n,k,i⟩
  ·obtain⟨b,G,C⟩:=d.inf r l;exact D [] a b G C (aQ ⟨a,d,rfl,rfl⟩)
  ·exact D _ 0 0 [] (th r l i) (aM ⟨n,k,i,rfl,rfl⟩)
theorem Sz{w e:World}(h:LW w)(g:Gn w e):LW e:=IV h (g.block _ (Dp h))
theorem Wl:Xc [102,117,110,32,120,32,45,62,32,120] (.inr [97,32,45,62,32,97])=true:=by kernel_rfl
theorem FC(w:World)(h:aF)(x:aE)(a:aG)(S:SW w h x a)(b:LW w):Calls prog 33 #[.string (B [102,117,110,32,120,32,45,62,32,120]), .string (B [97,32,45,62,32,97])] w λe c=>e= .returned (.bool true)/\Gn w c:=
 Vg (t:=[97,32,45,62,32,97]) (Hu Wl trivial w h x a S b) rfl
def wP(a b:Int)(h:aA):Obj:= .cells #[.int .i64 a, .int .i64 b, .string (B h), .int .i64 0, .int .i64 0] 23 (0,0)
def kA(a b:Int)(h:aA):Obj:= .cells #[.int .i64 a, .int .i64 b, .string (B h), .int .i64 0, .int .i64 0] 23
structure yu(w W:World)(ad:aF)(cs:aE)(ts:aG):Prop where
 g:Gn w W
 s:SW W ad cs ts
 t:LW W
theorem yu.next{w W e:World}{x:aF}{a:aE}{b:aG}(h:yu w W x a b)(g:Gn W e):yu w e x a b:=⟨h.g.trans g,h.s.gn g,Sz h.t g⟩
theorem yu.alloc{w W:World}{e:aF}{x:aE}{a:aG}(h:yu w W e x a)(o:Obj):yu w (W.alloc o) e x a:=h.next (Gn.of (aO W o none))
theorem j9(W:World)(a b:Int)(h:aA):(W.alloc (kA a b h)).heap[W.heap.size]? =some (wP a b h):=bY W (kA a b h)
theorem dM{w e:World}{k:Nat}{o:Obj}(h:w.heap[k]? =some o)(g:Gn w e):e.heap[k]? =some o:=(g.block _ (aT h)).trans h
theorem iM{w:World}{k:Nat}{o o':Obj}(h:w.heap[k]? =some o):(w.alloc o').heap[k]? =some o:=(bQ _ _ _ (aT h)).trans h
theorem Wm{s t en:aA}(z:df s sh fa fb)(A:zF s t ea eb en)(V:fa≠0)(C:ea≠0)(D:sh=[])(E:t=[])(w:World)(x:aF)(a:aE)(b:aG)(S:SW w x a b)(k:LW w):
  Calls prog 13 #[.string (B s)] w λe F=>e= .returned (.bool true)/\Gn w F:=by
 subst D E;have q:=aS (FC w x a b S k);have o:=aS z;have p:=aS A;have r:=aS (yu.mk (⟨rfl,rfl,aV _,λ_ _=>rfl⟩:Gn w w) S k);clear z A S k;go_enter func13,ntmps13;go_wp2_with fail;refine q.mono ?_;rintro e G ⟨rfl,v⟩;have d:=aS (r.next v);have l:=aS (o.out G x a b d.s);clear v q o;go_wp2_with fail;refine l.mono ?_;rintro e H ⟨y,rfl⟩;have h:=aS ((d.next y).alloc (kA fa fb []));have F2:=aS (j9 H fa fb []);have c:=aS (p.out _ x a b h.s h.t);clear y l p d;unfold fv;unfold kA at c;go_wp2_with fail;refine c.mono ?_;rintro e I ⟨j,rfl⟩;have u:=aS ((h.next j).alloc (kA ea eb en));have n:=aS (iM (o':=kA ea eb en) (dM F2.out j));have m:=aS (j9 I ea eb en);clear j c h F2;unfold f5;have f:=n.out;have i:=m.out;unfold wP kA at f i;obtain⟨⟨O,P,Q,R,T⟩,-⟩:=eG f;obtain⟨⟨J,K,L,M,N⟩,-⟩:=eG i;have W:(B []).toList=[]:=iZ [];have U:(ea !=0)=true:=by simpa using C
 clear f i n m r;unfold kA at u;go_wp2;go_ret;exact⟨rfl,u.g⟩
theorem Wn{s t en:aA}(L:df s sh fa fb)(M:zF s t ea eb en)(Z:fa=0)(h0:sh.length<=10000){u T:aA}{b:Int}(N:zF sh u ga gb gn)(O:df sh T b hb)(hl:300<sh.length)(w:World)(h:aF)(x:aE)(a:aG)(S:SW w h x a)(q:LW w):
  Calls prog 13 #[.string (B s)] w λe w'=>e= .returned (.bool true)/\Gn w w':=by
 subst Z;have F:=aS (FC w h x a S q);have A:=aS L;have C:=aS M;have D:=aS N;have E:=aS O;have H:=aS (yu.mk (⟨rfl,rfl,aV _,λ_ _=>rfl⟩:Gn w w) S q);clear L M S q N O;go_enter func13,ntmps13;go_wp2_with fail;refine F.mono ?_;rintro e w1 ⟨rfl,J⟩;have l:=aS (H.next J);have r:=aS (A.out w1 h x a l.s);clear J F A;go_wp2_with fail;refine r.mono ?_;rintro e w2 ⟨K,rfl⟩;have c:=aS ((l.next K).alloc (kA 0 fb []));have F2:=aS (j9 w2 0 fb []);have i:=aS (C.out _ h x a c.s c.t);clear K r C l;unfold fv;unfold kA at i;go_wp2_with fail;refine i.mono ?_;rintro e w3 ⟨o,rfl⟩;have d:=aS ((c.next o).alloc (kA ea eb en));have z:=aS (iM (o':=kA ea eb en) (dM F2.out o));have v:=aS (j9 w3 ea eb en);clear o i c F2;unfold f5;have n:=z.out;unfold wP kA at n;obtain⟨⟨U,V,W,X,Y⟩,-⟩:=eG n;have j:=aS (D.out _ h x a d.s d.t);clear n z D;unfold kA at j;go_wp2_with fail;refine j.mono ?_;rintro e w4 ⟨p,rfl⟩;have m:=aS ((d.next p).alloc (kA ga gb gn));have y:=aS (iM (o':=kA ga gb gn) (dM v.out p));have G:=aS (j9 w4 ga gb gn);have k:=aS (E.out _ h x a m.s);clear p j d v E U V W X Y;unfold f5;unfold kA at k;go_wp2_with fail;refine k.mono ?_;rintro e w5 ⟨f,rfl⟩;have I:=aS ((m.next f).alloc (kA b hb []));have P:=aS (iM (o':=kA b hb []) (dM y.out f));have Q:=aS (iM (o':=kA b hb []) (dM G.out f));have R:=aS (j9 w5 b hb []);have zs:(B sh).size=sh.length:=dY sh;clear f k m y G;unfold fv;have h5:(300:Int)<(sh.length:Int):=by omega
 clear P Q R H;unfold kA at I;go_wp2;go_ret;exact⟨rfl,I.g⟩
theorem dh(h:aA):({data:= #[108,101,116,32,122,32,61,32]}:ByteArray)++B h++({data:= #[32,105,110,32,122]}:ByteArray)=B (tL++h++tR):=by rw[show({data:= #[108,101,116,32,122,32,61,32]}:ByteArray)=B tL from rfl,show({data:= #[32,105,110,32,122]}:ByteArray)=B tR from rfl,dQ,dQ]
theorem FE(h:aA):(({data:= #[108,101,116,32,122,32,61,32]}:ByteArray)++B h).size=8+h.length:=by rw[ByteArray.size_append,dY];rfl
theorem Wo{s t en:aA}(h1:df s sh fa fb)(h2:zF s t ea eb en)(q1:fa=0)(e6:sh.length<=10000)(h3:zF sh t ga gb gn)(h4:df sh sh 0 hb)(hl:sh.length<=300)(q5:(ea==0)=(ga==0)){lt ln:aA}{l lb:Int}(h5:zF (tL++sh++tR) lt l lb ln)(q6:280<sh.length\/l=1\/l=3)(w:World)(x:aF)(a:aE)(b:aG)(S:SW w x a b)(J:LW w):
  Calls prog 13 #[.string (B s)] w λe w'=>e= .returned (.bool true)/\Gn w w':=by
 subst q1;have V:=aS (FC w x a b S J);have P:=aS h1;have Q:=aS h2;have R:=aS h3;have T:=aS h4;have U:=aS h5;have X:=aS (yu.mk (⟨rfl,rfl,aV _,λ_ _=>rfl⟩:Gn w w) S J);clear h1 h2 S J h3 h4 h5;go_enter func13,ntmps13;go_wp2_with fail;refine V.mono ?_;rintro e w1 ⟨rfl,Z⟩;have A:=aS (X.next Z);have M:=aS (P.out w1 x a b A.s);clear Z V P;go_wp2_with fail;refine M.mono ?_;rintro e w2 ⟨g2,rfl⟩;have j:=aS ((A.next g2).alloc (kA 0 fb []));have F2:=aS (j9 w2 0 fb []);have m:=aS (Q.out _ x a b j.s j.t);clear g2 M Q A;unfold fv;unfold kA at m;go_wp2_with fail;refine m.mono ?_;rintro e K ⟨I,rfl⟩;have c:=aS ((j.next I).alloc (kA ea eb en));have O:=aS (iM (o':=kA ea eb en) (dM F2.out I));have q:=aS (j9 K ea eb en);clear I m j F2;unfold f5;have D:=O.out;unfold wP kA at D;obtain⟨⟨f0,f1,f2,f3,f4⟩,-⟩:=eG D;have n:=aS (R.out _ x a b c.s c.t);clear D O R;unfold kA at n;go_wp2_with fail;refine n.mono ?_;rintro e h ⟨d,rfl⟩;have C:=aS ((c.next d).alloc (kA ga gb gn));have N:=aS (iM (o':=kA ga gb gn) (dM q.out d));have v:=aS (j9 h ga gb gn);have o:=aS (T.out _ x a b C.s);have h6:w.heap.size<=h.heap.size:=(c.next d).g.size;have h0:K.heap.size<h.heap.size:=aT (dM q.out d);clear d n c q T f0 f1 f2 f3 f4;unfold f5;unfold kA at o;go_wp2_with fail;refine o.mono ?_;rintro e L ⟨f,rfl⟩;have k:=aS ((C.next f).alloc (kA 0 hb []));have r:=aS (iM (o':=kA 0 hb []) (dM N.out f));have y:=aS (iM (o':=kA 0 hb []) (dM v.out f));have z:=aS (j9 L 0 hb []);have zs:(B sh).size=sh.length:=dY sh;have h9:w.heap.size<=h.heap.size:=h6;have h8:h.heap.size<L.heap.size:=aT (dM v.out f);have e8:K.heap.size<h.heap.size:=h0;clear f o C N v;unfold fv;have E:=r.out;have F:=y.out;have H:=z.out;unfold wP kA at E F H;obtain⟨⟨e0,e1,e2,e3,e4⟩,-⟩:=eG E;obtain⟨⟨k0,k1,k2,k3,k4⟩,-⟩:=eG F;obtain⟨⟨l0,l1,l2,l3,l4⟩,-⟩:=eG H;have e7:¬(300:Int)<(sh.length:Int):=by omega
 have et:((B t).toList==(B t).toList)=true:=iD _;have es:((B sh).toList==(B sh).toList)=true:=iD _;have bL:=dh sh;have zL:=FE sh;have p:=aS (U.out _ x a b k.s k.t);clear E F H U;unfold kA at p;go_wp2_with fail;refine p.mono ?_;rintro e w6 ⟨i,rfl⟩;have E6:=aS (dM r.out i);have W:=aS (dM y.out i);have L6:=aS (dM z.out i);have Y:=aS (k.next i);have e5:w.heap.size<=h.heap.size:=h9;have e9:h.heap.size<L.heap.size:=h8;clear i p k r y z e0 e1 e2 e3 e4 k0 k1 k2 k3 k4 l0 l1 l2 l3 l4;have G:=W.out;unfold wP at G;obtain⟨⟨k0,k1,k2,k3,k4⟩,y0,y1,y2,y3,y4⟩:=eG G;clear G;unfold f5;have u:=aS (Y.g.set5 e5 (.int .i64 l) (.int .i64 lb) (.string (B ln)) (.int .i64 0) (.int .i64 0));clear E6 W L6 Y X;rcases bZ 280 sh.length with hc|hc
 ·have h7:(300:Int)<(sh.length:Int)+20:=by omega
  go_wp2;go_ret;exact⟨rfl,u.out⟩
 ·have h7:¬(300:Int)<(sh.length:Int)+20:=by omega
  rcases q6 with q6|rfl|rfl
  ·omega
  ·go_wp2;go_ret;exact⟨rfl,u.out⟩
  ·go_wp2;go_ret;exact⟨rfl,u.out⟩
theorem tj(h:aA):({data:= #[40,102,117,110,32,122,32,45,62,32,122,41,32,40]}:ByteArray)++B h++({data:= #[41]}:ByteArray)=B (ed h):=by rw[show({data:= #[40,102,117,110,32,122,32,45,62,32,122,41,32,40]}:ByteArray)=B tF from rfl,show({data:= #[41]}:ByteArray)=B [41]from rfl,dQ,dQ];rfl
theorem XF(h:aA):(({data:= #[40,102,117,110,32,122,32,45,62,32,122,41,32,40]}:ByteArray)++B h).size=14+h.length:=by rw[ByteArray.size_append,dY];rfl
theorem Wp{s t en:aA}(h1:df s sh fa fb)(h2:zF s t ea eb en)(q1:fa=0)(e9:sh.length<=10000)(h3:zF sh t ga gb gn)(h4:df sh sh 0 hb)(hl:sh.length<=300)(q5:(ea==0)=(ga==0)){lt ln:aA}{c Z:Int}(h5:zF (tL++sh++tR) lt c Z ln)(hc:sh.length<=280)(n1:c≠1)(n3:c≠3){it h7:aA}{r ib:Int}(h6:zF (ed sh) it r ib h7)(q6:r=3\/r=8)(w:World)(x:aF)(a:aE)(b:aG)(S:SW w x a b)(T:LW w):
  Calls prog 13 #[.string (B s)] w λe w'=>e= .returned (.bool true)/\Gn w w':=by
 subst q1;have HH:=aS (FC w x a b S T);have H1:=aS h1;have H2:=aS h2;have H3:=aS h3;have H4:=aS h4;have H5:=aS h5;have H6:=aS h6;have I:=aS (yu.mk (⟨rfl,rfl,aV _,λ_ _=>rfl⟩:Gn w w) S T);clear h1 h2 S T h3 h4 h5 h6;go_enter func13,ntmps13;go_wp2_with fail;refine HH.mono ?_;rintro e w1 ⟨rfl,g1⟩;have J:=aS (I.next g1);have C1:=aS (H1.out w1 x a b J.s);clear g1 HH H1;go_wp2_with fail;refine C1.mono ?_;rintro e w2 ⟨g2,rfl⟩;have o:=aS ((J.next g2).alloc (kA 0 fb []));have F2:=aS (j9 w2 0 fb []);have v:=aS (H2.out _ x a b o.s o.t);clear g2 C1 H2 J;unfold fv;unfold kA at v;go_wp2_with fail;refine v.mono ?_;rintro e u ⟨R,rfl⟩;have i:=aS ((o.next R).alloc (kA ea eb en));have F3:=aS (iM (o':=kA ea eb en) (dM F2.out R));have C:=aS (j9 u ea eb en);clear R v o F2;unfold f5;have L:=F3.out;unfold wP kA at L;obtain⟨⟨f0,f1,f2,f3,f4⟩,-⟩:=eG L;have y:=aS (H3.out _ x a b i.s i.t);clear L F3 H3;unfold kA at y;go_wp2_with fail;refine y.mono ?_;rintro e h ⟨j,rfl⟩;have K:=aS ((i.next j).alloc (kA ga gb gn));have E4:=aS (iM (o':=kA ga gb gn) (dM C.out j));have E:=aS (j9 h ga gb gn);have z:=aS (H4.out _ x a b K.s);have e5:w.heap.size<=h.heap.size:=(i.next j).g.size;have h9:u.heap.size<h.heap.size:=aT (dM C.out j);clear j y i C H4 f0 f1 f2 f3 f4;unfold f5;unfold kA at z;go_wp2_with fail;refine z.mono ?_;rintro e n ⟨k,rfl⟩;have p:=aS ((K.next k).alloc (kA 0 hb []));have D:=aS (iM (o':=kA 0 hb []) (dM E4.out k));have F:=aS (iM (o':=kA 0 hb []) (dM E.out k));have H:=aS (j9 n 0 hb []);have zs:(B sh).size=sh.length:=dY sh;have e6:w.heap.size<=h.heap.size:=e5;have h0:h.heap.size<n.heap.size:=aT (dM E.out k);have w8:u.heap.size<h.heap.size:=h9;clear k z K E4 E;unfold fv;have M:=D.out;have N:=F.out;have Q:=H.out;unfold wP kA at M N Q;obtain⟨⟨e0,e1,e2,e3,e4⟩,-⟩:=eG M;obtain⟨⟨U,V,W,X,Y⟩,-⟩:=eG N;obtain⟨⟨l0,l1,l2,l3,l4⟩,-⟩:=eG Q;have w0:¬(300:Int)<(sh.length:Int):=by omega
 have et:((B t).toList==(B t).toList)=true:=iD _;have es:((B sh).toList==(B sh).toList)=true:=iD _;have bL:=dh sh;have zL:=FE sh;have A:=aS (H5.out _ x a b p.s p.t);clear M N Q H5;unfold kA at A;go_wp2_with fail;refine A.mono ?_;rintro e w6 ⟨l,rfl⟩;have E6:=aS (dM D.out l);have G:=aS (dM F.out l);have L6:=aS (dM H.out l);have M6:=aS (p.next l);have h8:w.heap.size<=h.heap.size:=e6;have x1:h.heap.size<n.heap.size:=h0;clear l A p D F H e0 e1 e2 e3 e4 U V W X Y l0 l1 l2 l3 l4;have O:=G.out;unfold wP at O;obtain⟨⟨U,V,W,X,Y⟩,y0,y1,y2,y3,y4⟩:=eG O;clear O;unfold f5;have e8:¬(300:Int)<(sh.length:Int)+20:=by omega
 have w9:(c==1)=false:=by simpa using n1
 have x0:(c==3)=false:=by simpa using n3
 have bI:=tj sh;have zI:=XF sh;go_wp2_with fail;obtain⟨d,f⟩:∃d,d=(((((w6.setCell ⟨h.heap.size,0,none⟩ (.int .i64 c)).setCell ⟨h.heap.size,1,none⟩ (.int .i64 Z)).setCell ⟨h.heap.size,2,none⟩ (.string (B ln))).setCell ⟨h.heap.size,3,none⟩ (.int .i64 0)).setCell ⟨h.heap.size,4,none⟩ (.int .i64 0)):=⟨_,rfl⟩;rw[<-f];have q:=aS (I.next (show Gn w d by rw[f];exact M6.g.set5 h8 _ _ _ _ _));have EZ:=aS (show d.heap[u.heap.size]? =some (wP ea eb en) by rw[f];exact sN E6.out (by omega) _ _ _ _ _);have KZ:=aS (show d.heap[h.heap.size]? =some (wP c Z ln) by rw[f];exact B6 G.out _ _ _ _ _);have LZ:=aS (show d.heap[n.heap.size]? =some (wP 0 hb []) by rw[f];exact sN L6.out (by omega) _ _ _ _ _);clear f M6 E6 G L6 U V W X Y y0 y1 y2 y3 y4;refine(H6.out d x a b q.s q.t).mono ?_;rintro e w7 ⟨m,rfl⟩;have E7:=aS (dM EZ.out m);have K7:=aS (dM KZ.out m);have L7:=aS (dM LZ.out m);have M7:=aS (q.next m);clear m H6 q EZ KZ LZ;have P:=L7.out;unfold wP at P;obtain⟨⟨l0,l1,l2,l3,l4⟩,y0,y1,y2,y3,y4⟩:=eG P;clear P;have e7:w.heap.size<=n.heap.size:=bV h8 (jW h0);unfold f5;have GZ:=aS (M7.g.set5 e7 (.int .i64 r) (.int .i64 ib) (.string (B h7)) (.int .i64 0) (.int .i64 0));clear E7 K7 L7 M7 I;rcases q6 with rfl|rfl
 ·go_wp2;go_ret;exact⟨rfl,GZ.out⟩
 ·go_wp2;go_ret;exact⟨rfl,GZ.out⟩
end Go.Proofs.YtcdijppegfcoaaaGreatDoor
