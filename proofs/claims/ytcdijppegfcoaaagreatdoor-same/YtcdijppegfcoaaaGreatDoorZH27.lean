import Derived.Test.YtcdijppegfcoaaaGreatDoorZH19
import Derived.Test.YtcdijppegfcoaaaGreatDoorZH20
import Derived.Test.YtcdijppegfcoaaaGreatDoorZH21
import Derived.Test.YtcdijppegfcoaaaGreatDoorZH22
import Derived.Test.YtcdijppegfcoaaaGreatDoorZH26
set_option maxRecDepth 100000
set_option maxHeartbeats 2000000
set_option linter.unusedSimpArgs false
namespace Go.Proofs.YtcdijppegfcoaaaGreatDoor
open Go.RowKit Tryz
theorem xd{H:aB}{o:aC}{f:Nat}(hJ:Oj H o f):Oj H o (f+1):=by
 intro a b x y i d r w m t A p;by_cases h5:∃c k,¬i.root a=i.root b/\i.is a=some c/\i.is b=some k/\c.kind=k.kind
 ·obtain⟨c,k,j,G,hb,q⟩:=h5;obtain⟨_,_,h0⟩:=p.root_get m;obtain⟨va,_,h2⟩:=p.root_val (aU.1 m).1 h0;rcases h2 with⟨Z,_⟩|⟨n0,Z,q1,q2,_,q4⟩
  ·rw[G]at Z;cases Z
  ·obtain rfl:=aY (G.symm.trans Z);obtain⟨_,_,hN⟩:=iu (show wN H o va c from⟨q1,q2,2,q4⟩);rcases hN with⟨C,_⟩|⟨C,_⟩|⟨C,_⟩|⟨C,_⟩
   ·exact iv hJ a b x y i d r w m t A p j c k G hb q C
   ·exact iw hJ a b x y i d r w m t A p j c k G hb q C
   ·exact iy hJ a b x y i d r w m t A p j c k G hb q C
   ·exact ja hJ a b x y i d r w m t A p j c k G hb q C
 have w9:=aS h5;clear h5;have X:=aS (λ(W:World) (N:fY H o i d W)=>jG (d a+1) a x W (by omega) m N);have Y:=aS (λ(W:World) (N:fY H o i d W)=>jG (d b+1) b y W (by omega) t N);have t1:=oV x;have t2:=oV y;have HC:=aS p;have V:=aS p.drew;rw[jE]at A;have HJ:=aS A;have EE:=aS (aL m t);have e8:=(aU.1 m).1;have e9:=(aU.1 t).1;unfold CI;unfold CP at X Y;clear A m t p;go_enter func254,ntmps254;go_wp2_with fail
 go_region_held3 (λwx=>fY H o i d wx) (first|assumption|exact V.out|exact fY.drew (by assumption)|go_keep) (first
  |(go_at_call_of 185 (Value.pointer (some ⟨x,0,none⟩));first
   |(refine(X.out _ V.out).mono ?_;rintro e w1 ⟨z,rfl,O,h3,Q,_⟩;have M:=aS (aL h3 Q);have E:=aS O;clear O Q)
   |(refine(X.out _ M.1).mono ?_;rintro e w2 ⟨z,rfl,O,h4,R,_⟩;have D:=aS (aL h4 (Gb.drewL (M.2.tr R)));have E:=aS O;clear O R))
  |(go_at_call_of 185 (Value.pointer (some ⟨y,0,none⟩));first
   |(refine(Y.out _ V.out).mono ?_;rintro e w1 ⟨l,rfl,P,h3,Q,_⟩;have M:=aS (aL h3 Q);have s:=aS P;clear P Q)
   |(refine(Y.out _ M.1).mono ?_;rintro e w2 ⟨l,rfl,P,h4,R,_⟩;have D:=aS (aL h4 (Gb.drewL (M.2.tr R)));have s:=aS P;clear P R)))
 all_goals
  have u:=D.1;obtain⟨va,h7,h2⟩:=u.root_val e8 E.out;obtain⟨vb,h8,h6⟩:=u.root_val e9 s.out;obtain⟨_,xa,_,fa⟩:=fZ h7;obtain⟨_,xb,_,fb⟩:=fZ h8;obtain⟨_,h0,_⟩:=u.root_get (aP e8);obtain⟨_,e5,_⟩:=u.root_get (aP e9);have e4:=u.rr _ _ h0;have e6:=u.rr _ _ e5;have nd:=u.nd;have RT:=aS (aL e4 e6);have e3:=aS (aL h7 h8);clear h7 h8 h0 e5 e4 e6 u X Y HC V;unfold CP;by_cases j:i.root a=i.root b
  ·have x1:z=l:=by have F:=E.out;rw[j,s.out]at F;exact(aY F).symm
   have h:=HJ.out;rw[aR j]at h;have h:=aY h;subst h x1;clear h2 h6 xa xb fa fb nd;have pq:=Cf z w2;go_wp2;go_ret;exact⟨D.2,rfl,d,D.1⟩
  ·have w0:z≠l:=λe=>j (by
    have F:=E.out;rw[e]at F
    exact(iJ (aU.1 F).1 nd).1 (F.trans s.symm))
   have x3:l≠z:=kU w0;have pq:=xK w0 e3.1 e3.2;have h:=HJ.out;rw[aN j]at h;have n:=aS (D.1.link RT.1 RT.2 j E.out s.out);have v:=aS (D.2.set (b:=z) (aQ (cK E.out)) 1 (CI l));unfold CI at n v;clear nd;rcases h2 with⟨I,rfl⟩|⟨c,I,S,T,U,K⟩
   ·rw[I]at h;have h:=aY h;subst h;clear h6 xb fb;go_wp2;go_ret;exact⟨v.out,rfl,_,n.out⟩
   ·rw[I]at h;simp only at h;obtain⟨Ta,pa,e7,rfl⟩:=K.val;rcases h6 with⟨J,rfl⟩|⟨k,J,w4,w6,w7,e2⟩
    ·rw[J]at h;have h:=aY h;subst h;have PT:=aS (n.put (other:=i.root b) (by rw[qG RT.2,aN (λe=>j e.symm)]) s.out (aM ⟨c,rfl,S,T,U,K⟩));have GP:=aS (v.set (b:=l) (aQ (cK s.out)) 1 (.iface Ta (.pointer (some ⟨pa,0,none⟩))));clear S T U K I J n v e7;go_wp2;go_ret;exact⟨GP.out,rfl,_,PT.out⟩
    ·rw[J]at h;simp only at h;have x0:zK H o (some c) (.iface Ta (.pointer (some ⟨pa,0,none⟩))):=aM ⟨c,rfl,S,T,U,K⟩;have NA:wN H o (.iface Ta (.pointer (some ⟨pa,0,none⟩))) c:=⟨S,T,2,K⟩;have NB:wN H o vb k:=⟨w4,w6,2,e2⟩;have AL:=aS (λ(W:World) (N:Fz H W)=>IE (w:=W) NA NB N);have AC:=aS (aL (show MQ c.kids from U) (show MQ k.kids from w7));have ER:=aS h;obtain⟨L,h9⟩:∃L,L=w2.setCell ⟨z,1,none⟩ (.iface 265 (.pointer (some ⟨l,0,none⟩))):=⟨_,rfl⟩;rw[<-h9]at n v;have y3:L.cell? ⟨l,1,none⟩=some vb:=by rw[h9,bT (a:=⟨l,1,none⟩) (bO _ _ _ _ (by exact x3))];exact xb
     have x2:=aT (n.blk _ l s.out).choose_spec.1;have C3:=aS n.out;have G3:=aS v.out;have w8:=aS (λ(x:World) (g:L.grownBy x none)=>aL (n.fz.grown g) (dB y3 x2 g));by_cases q:c.kind=k.kind
     ·exact absurd ⟨c,k,j,I,J,q⟩ w9.out
     ·have hr:=ER.out;rw[aN q]at hr;have hr:=(aY hr).symm;subst hr;rw[bN q]at AL;obtain⟨Tb,pb,_,rfl⟩:=e2.val;have x4:L.drew.cell? ⟨l,1,none⟩=some (.iface Tb (.pointer (some ⟨pb,0,none⟩))):=y3;have A3:=aS (AL.out L.drew C3.fz);clear S T U K w4 w6 w7 e2 I J h q AL x0 NA NB w8 AC ER n v e7;subst h9;go_wp2_with fail
      first|go_region_with (go_at_call 152;refine A3.mono ?_;rintro e w5 ⟨rfl,g5⟩;have G5:=aS g5;clear g5)|fail
      all_goals
       go_wp2;go_ret;exact⟨G3.tr (Gb.drewL (Gb.new G5.out)),rfl⟩
theorem ZK{H:aB}{h:aC}:∀f,Oj H h f
 |0=>λa b x y c d r w _ _ e _=>by cases e
 |f+1=>xd (ZK f)
theorem Qu(w:World):(Instr.makeMap 424 none).run prog w= .ok (.map (some w.heap.size)) (w.alloc (.map #[] 0)):=by kernel_rfl
def EQP(H:aB)(h:aC)(r:Option bM)(w:World)(e:Ending)(x:World):Prop:=
 Gb (dT h) w x/\match r with
  |none=>e= .returned (.bool false)
  |some b=>e= .returned (.bool true)/\∃a,fY H h b a x
theorem QH{H:aB}{g:aC}{σ:bM}{d:aI}{a b x y:Nat}{r:Option bM}{w:World}(A:g[a]? =some x)(F:g[b]? =some y)(c:jK a b σ=some r)(I:fY H g σ d w):
  Calls prog 245 #[CP x,CP y] w (EQP H g r w):=by
 unfold jK at c
 cases v:jE (σ.rep.length+1) a b σ with
 |none=>rw[v]at c;cases c
 |some J=>
  rw[v]at c;have k:=aS (λ(W:World) (N:fY H g σ d W)=>ZK (σ.rep.length+1) a b x y σ d J W A F v N);have t:=aS I;have M:=aS A;have u:=aS c;clear c I A F v;unfold CI at k;unfold CP
  cases J with
  |none=>have n:=(aY u.out).symm;subst n;go_enter func245,ntmps245;go_wp2_with fail;refine(k.out _ t.out).mono ?_;rintro e j ⟨o,rfl⟩;have f:=aS o;clear o k t;go_wp2;go_ret;exact⟨f.out,rfl⟩
  |some L=>
   go_enter func245,ntmps245;go_wp2_with fail;refine(k.out _ t.out).mono ?_;rintro e j ⟨o,rfl,E,m⟩;have c:=u.out
   cases z:jZ L (σ.rep.length+1) a []with
   |none=>rw[z]at c;cases c
   |some K=>
    rw[z]at c;have R:=Qu j;have G:j.grownBy (j.alloc (.map #[] 0)) none:=aO _ _ _;have C:j.heap.size∉g:=λh=>by have:=dT.lt m h;omega
    have l:=aS (wb (σ:=L) (d:=E) (m.fz.none (aV _)) C (σ.rep.length+1) a x [] K (j.alloc (.map #[] 0)) M.out z (m.grown0 G) GM.new (λp O=>by cases O));have f:=aS (aL o (aL m C));unfold CI at l;clear o m k t z G C
    cases K with
    |none=>have n:=(aY c).symm;subst n;clear c u;go_wp2_with fail;refine l.mono ?_;rintro e P ⟨q,rfl⟩;have s:=aS q;clear q l;go_wp2;go_ret;exact⟨(f.1.tr (Gb.new (aO _ _ _))).trans s.out (λi h=>h.imp id (λe=>by have:=f.1.size;omega)),rfl⟩
    |some Q=>have n:=(aY c).symm;subst n;clear c u;go_wp2_with fail;refine l.mono ?_;rintro e P ⟨q,rfl,D,_⟩;have s:=aS (aL q D);clear q D l;go_wp2;go_ret;exact⟨(f.1.tr (Gb.new (aO _ _ _))).trans s.1 (λi h=>h.imp id (λe=>by have:=f.1.size;omega)),rfl,E,s.2⟩
end Go.Proofs.YtcdijppegfcoaaaGreatDoor
