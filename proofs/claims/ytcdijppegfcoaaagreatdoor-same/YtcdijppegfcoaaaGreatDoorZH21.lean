import Derived.Test.YtcdijppegfcoaaaGreatDoorZH17
set_option maxRecDepth 100000
set_option maxHeartbeats 8000000
set_option linter.unusedSimpArgs false
namespace Go.Proofs.YtcdijppegfcoaaaGreatDoor
open Go.RowKit Tryz
theorem iy{H:aB}{c:aC}{f:Nat}(hJ:Oj H c f)(a b x y:Nat)(g:bM)(d:aI)(r:Option bM)(w:World)(ea:c[a]? =some x)(eb:c[b]? =some y)(S:jE (f+1) a b g=some r)(hc:fY H c g d w)(I:¬g.root a=g.root b)(z U:Et)(h8:g.is a=some z)(h9:g.is b=some U)(hk:z.kind=U.kind)(hX:z.kind=eS):Calls prog 254 #[CI x,CI y] w (Tq H c r w):=by
 have h0:=aS (λ(W:World) (L:fY H c g d W)=>jG (d a+1) a x W (by omega) ea L);have h3:=aS (λ(W:World) (L:fY H c g d W)=>jG (d b+1) b y W (by omega) eb L);have t1:=oV x;have t2:=oV y;have HC:=aS hc;have HD:=aS hc.drew;rw[jE,aN I,h8,h9]at S;simp only at S;rw[aR hk]at S;have HJ:=aS S;have n:=aS (aL I (aL h8 (aL h9 hk)));have a1:=aS hJ;have EE:=aS (aL ea eb);have w4:=(aU.1 ea).1;have w9:=(aU.1 eb).1;unfold CI;unfold CP at h0 h3;have HX:=aS hX;clear S ea eb hc I h8 h9 hk hJ hX;go_enter func254,ntmps254;go_wp2_with fail
 go_region_held3 (λwx=>fY H c g d wx) (first|assumption|exact HD.out|exact fY.drew (by assumption)|go_keep) (first
  |(go_at_call_of 185 (Value.pointer (some ⟨x,0,none⟩));first
   |(refine(h0.out _ HD.out).mono ?_;rintro e w1 ⟨F,rfl,N,e0,Q,_⟩;have A:=aS (aL e0 Q);have C:=aS N;clear N Q)
   |(refine(h0.out _ A.1).mono ?_;rintro e w2 ⟨F,rfl,N,e2,R,_⟩;have Y:=aS (aL e2 (Gb.drewL (A.2.tr R)));have C:=aS N;clear N R))
  |(go_at_call_of 185 (Value.pointer (some ⟨y,0,none⟩));first
   |(refine(h3.out _ HD.out).mono ?_;rintro e w1 ⟨o,rfl,P,e0,Q,_⟩;have A:=aS (aL e0 Q);have D:=aS P;clear P Q)
   |(refine(h3.out _ A.1).mono ?_;rintro e w2 ⟨o,rfl,P,e2,R,_⟩;have Y:=aS (aL e2 (Gb.drewL (A.2.tr R)));have D:=aS P;clear P R)))
 all_goals
  have p:=Y.1;obtain⟨va,e3,a3⟩:=p.root_val w4 C.out;obtain⟨vb,e4,a4⟩:=p.root_val w9 D.out;obtain⟨_,xa,_,fa⟩:=fZ e3;obtain⟨_,xb,_,fb⟩:=fZ e4;obtain⟨_,e7,_⟩:=p.root_get (aP w4);obtain⟨_,e9,_⟩:=p.root_get (aP w9);have e8:=p.rr _ _ e7;have w0:=p.rr _ _ e9;have nd:=p.nd;have RT:=aS (aL e8 w0);have e6:=aS (aL e3 e4);clear e3 e4 e7 e9 e8 w0 p h0 h3 HC HD;unfold CP
  have x0:F≠o:=λe=>n.1 (by
   have e1:=C.out;rw[e]at e1
   exact(iJ (aU.1 e1).1 nd).1 (e1.trans D.symm))
  have a2:o≠F:=kU x0;have pq:=xK x0 e6.1 e6.2;have E:=aS (Y.1.link RT.1 RT.2 n.1 C.out D.out);have GL:=aS (Y.2.set (b:=F) (aQ (cK C.out)) 1 (CI o));unfold CI at E GL;clear nd;rcases a3 with⟨M,_⟩|⟨a5,M,x1,x2,x3,x4⟩
  ·rw[n.2.1]at M;cases M
  ·obtain rfl:=aY (n.2.1.symm.trans M);rcases a4 with⟨O,_⟩|⟨a6,O,x5,x6,x7,x9⟩
   ·rw[n.2.2.1]at O;cases O
   ·obtain rfl:=aY (n.2.2.1.symm.trans O);have NA:wN H c va z:=⟨x1,x2,2,x4⟩;have NB:wN H c vb U:=⟨x5,x6,2,x9⟩;have AL:=aS (λ(W:World) (L:Fz H W)=>IE (w:=W) NA NB L);rw[dE n.2.2.2]at AL;obtain⟨p1,us,p2,vs,T0,F0,v,T,h5⟩:=NG NA NB n.2.2.2;have AC:=aS (aL (show MQ z.kids from x3) (show MQ U.kids from x7));obtain⟨u,e5⟩:∃u,u=w2.setCell ⟨F,1,none⟩ (.iface 265 (.pointer (some ⟨o,0,none⟩))):=⟨_,rfl⟩;rw[<-e5]at E GL;obtain rfl:=v.val;obtain rfl:=T.val;have y3:u.cell? ⟨o,1,none⟩=some (.iface T0 (.pointer (some ⟨p2,0,none⟩))):=by rw[e5,bT (a:=⟨o,1,none⟩) (bO _ _ _ _ (by exact a2))];exact xb
    have h4:=aT (E.blk _ o D.out).choose_spec.1;have a0:u.drew.cell? ⟨o,1,none⟩=some (.iface T0 (.pointer (some ⟨p2,0,none⟩))):=y3;have A3:=aS (AL.out u.drew E.fz);have KN:=aS (aL v T);have m1:=v.meth;have m2:=T.meth;have m:=aS (show fY H c (g.link (g.root a) (g.root b)) (λi=>if i=g.root a then 0 else d i+1) u.drew from E.drew);have JA:=aS (λ(W:World) (v1 v2:Value) (gW:u.drew.grownBy W none) (I:oz c W v1 us) (h2:oz c W v2 vs)=>vK a1.out (us:=us) (vs:=vs) (ks:=z.kids) (ls:=U.kids) (r:=r) (w:=W) I h2 v.two v.kr T.kr AC.1 AC.2 (W1 NA NB n.2.2.2) HJ.out (fY.grown m.out gW));clear x1 x2 x3 x4 x5 x6 x7 x9 M O NA NB AL v T;subst e5
    have h5:T0=361/\F0=309:=by
     rcases h5 with h|h|h|h
     ·exact absurd HX.out (by rcases h.1 with e|e<;>rw[e]<;>decide)
     ·exact absurd (h.1.symm.trans HX.out) (by decide)
     ·exact h.2
     ·exact absurd (h.1.symm.trans HX.out) (by decide)
    obtain⟨rfl,rfl⟩:=h5
    cases r with
    |none=>
      go_wp2_with fail
      first|go_region_with (first
       |(go_at_call 152;refine A3.mono ?_;rintro e w5 ⟨rfl,q⟩;have y5:=dB a0 h4 q;have j:=aS q;clear q)
       |(go_at_call_of 309 (Value.pointer (some ⟨p1,0,none⟩));refine(KN.1.run _ (m.fz.grown j.out)).mono ?_;rintro e w6 ⟨s,J⟩;obtain⟨v1,rfl,V⟩:=oC m.out j.size J (bC _ _);have y6:=dB y5 (aZ h4 j.size) s;have k:=aS (aL (j.trans s) V);clear s J V)
       |(go_at_call_of 309 (Value.pointer (some ⟨p2,0,none⟩));refine(KN.2.run _ (m.fz.grown k.1)).mono ?_;rintro e w7 ⟨t,K⟩;obtain⟨v2,rfl,X⟩:=oC m.out k.1.size K (bC _ _);have l:=aS (aL (k.1.trans t) (aL (k.2.grown t) X));clear t K X)
       |(go_at_call 262;refine(JA.out _ _ _ l.1 l.2.1 l.2.2).mono ?_;rintro e w8 ⟨G,rfl⟩;have Z:=aS G;clear G))|fail
      all_goals
       go_wp2;go_ret;exact⟨GL.tr (Gb.drewL ((Gb.new l.1).tr Z.out)),rfl⟩
    |some a7=>
      go_wp2_with fail
      first|go_region_with (first
       |(go_at_call 152;refine A3.mono ?_;rintro e w5 ⟨rfl,q⟩;have y5:=dB a0 h4 q;have j:=aS q;clear q)
       |(go_at_call_of 309 (Value.pointer (some ⟨p1,0,none⟩));refine(KN.1.run _ (m.fz.grown j.out)).mono ?_;rintro e w6 ⟨s,J⟩;obtain⟨v1,rfl,V⟩:=oC m.out j.size J (bC _ _);have y6:=dB y5 (aZ h4 j.size) s;have k:=aS (aL (j.trans s) V);clear s J V)
       |(go_at_call_of 309 (Value.pointer (some ⟨p2,0,none⟩));refine(KN.2.run _ (m.fz.grown k.1)).mono ?_;rintro e w7 ⟨t,K⟩;obtain⟨v2,rfl,X⟩:=oC m.out k.1.size K (bC _ _);have l:=aS (aL (k.1.trans t) (aL (k.2.grown t) X));clear t K X)
       |(go_at_call 262;refine(JA.out _ _ _ l.1 l.2.1 l.2.2).mono ?_;rintro e w8 ⟨G,rfl,c8⟩;have Z:=aS (aL G c8);clear G c8))|fail
      all_goals
       go_wp2;go_ret;exact⟨GL.tr (Gb.drewL ((Gb.new l.1).tr Z.1)),rfl,Z.2⟩
end Go.Proofs.YtcdijppegfcoaaaGreatDoor
