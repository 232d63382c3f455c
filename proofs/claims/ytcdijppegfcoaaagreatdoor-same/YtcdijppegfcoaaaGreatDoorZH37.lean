import Derived.Test.YtcdijppegfcoaaaGreatDoorZH34
set_option maxRecDepth 100000
set_option maxHeartbeats 2000000
set_option linter.unusedSimpArgs false
namespace Go.Proofs.YtcdijppegfcoaaaGreatDoor
open Go.RowKit Tryz
variable{H:Nat->Option Obj}{ca:List Nat}{C:TC}{σ1 σ2 σ σ3 σ4:bM}{nb:List (aA×Et)}{w:World}{c1 c2 b m c4 q:Nat}{ad:Nat->Addr}{P:Ex->List (aA×Et)->bM->Option (Sum Nat (bM×Nat))}{e1 e2 e3:Ex}{u1 u2 u3 dep nv:Value}{d:Nat->Nat}{vs:List NE}
def Oo(C:TC)(H:aB)(f:aC)(m:bM)(c d l:Nat)(i:lQE)(w:World)(e:Ending)(a:World):Prop:=∃x h g b j k,e= .returned (CP b)/\h[d]? =some b/\h[c]? =some l/\kD C x h m g i j k a/\MX H x f h w/\Gb C.own w a
theorem pv{p:Nat}(e:H p=some (.cells #[.string (B eU)] 348 (0,0))):zK H ca (some ⟨eU,[],0,[]⟩) (.iface 346 (.pointer (some ⟨p,0,none⟩))):=
 aM ⟨_,rfl,by decide,by decide,(λk h=>by cases h),⟨p,aM (aM (aQ ⟨aM rfl,rfl,rfl,e⟩))⟩⟩
theorem QR{a:aB}{x:aC}{i:aI}{p:Value}{t:List NE}{h:World}{d:Nat}(r:kD C a x σ1 i nb p t h)(o:MX H a ca x w)(b:Gb C.own w h)(k:x[c1]? =some d)(n:CH (some ⟨eU,[],0,[]⟩) σ1=some (σ2,c2)):
  Calls prog 211 #[CP C.tb, .iface 346 (.pointer (some ⟨h.heap.size,0,none⟩))] (h.alloc (.cells #[.string (B eU)] 348)) (Oo C H ca σ2 c1 c2 d nb w):=by
 refine(r.made (cs:= #[.string (B eU)]) (T:=348) (pv iR) n).mono ?_;rintro e y ⟨f,g,j,v,q,u,rfl,l,s,c,m⟩;exact⟨f,g,j,v,q,u,rfl,l,jD c.pre k,s,o.trans c b.size,b.tr m⟩
theorem QS{h:aB}{x:aC}{c:aI}{g:Value}{i:List NE}{b:World}{j p:Nat}(r:kD C h x σ1 c nb g i b)(q:MX H h ca x w)(d:Gb C.own w b)(k:x[c1]? =some j)(n:h p=some (.cells #[.string (B eU)] 348 (0,0)))(o:CH (some ⟨eU,[],0,[]⟩) σ1=some (σ2,c2)):
  Calls prog 211 #[CP C.tb, .iface 346 (.pointer (some ⟨p,0,none⟩))] b (Oo C H ca σ2 c1 c2 j nb w):=by
 refine(r.of (pv n) o).mono ?_;rintro e t ⟨a,rfl,l,s,f,m⟩;exact⟨h,x++[a],c,a,g,i,rfl,l,jD f.pre k,s,q.trans f d.size,d.tr m⟩
theorem xl(q:ET C ad P){h7:bM}{S:Nat}{M:bM}
  (r:H b=some (.cells #[dep,u1,u2,u3] 199 (0,0))) (u:dI m H u1 e1) (I:dI m H u2 e2) (J:dI m H u3 e3) (K:P e1 nb σ=some (.inr (σ1,c1))) (i2:CH (some ⟨eU,[],0,[]⟩) σ1=some (σ2,c2)) (i3:jK c1 c2 σ2=some (some σ3)) (i4:P e2 nb σ3=some (.inr (σ4,c4))) (i5:P e3 nb σ4=some (.inr (h7,S))) (i6:jK c4 S h7=some (some M)) (h:kD C H ca σ d nb nv vs w) (t:rP C.base ad w):
  Calls prog 206 #[CP C.tb, .pointer (some ⟨b,0,none⟩)] w (zE C ad H ca (.inr (M,c4)) nb w):=by
 obtain⟨T1,b1,rfl⟩:=u.val;obtain⟨T2,b2,rfl⟩:=I.val;obtain⟨D,b3,rfl⟩:=J.val;have s:=h.box #[.string (B eU)] 348;have G:w.grownBy (w.alloc (.cells #[.string (B eU)] 348)).drew none:=cZ (aO _ _ _);have CA:=aS (q e1 _ m σ nb _ H ca d nv vs w.drew u K h.drew (t.gb (Gb.refl _ w).drew));have CB:=aS (q e1 _ m σ nb _ _ ca d nv vs (w.alloc (.cells #[.string (B eU)] 348)).drew (s.2.prep u) K s.1.drew (t.gb (Gb.new G)));have A:=aS (aL s.2 G);have x0:=aT (h.ms.cs.fz _ _ r);have h2:=h.ms.cs.fz _ _ r;have k1:=cU h2 1 rfl;have Q:=aS (aL r (aL I (aL J (aL t q))));have R:=aS i2;have I3:=aS i3;have I4:=aS i4;have I5:=aS i5;have I6:=aS i6;clear q r u I J h h2 t s G K i2 i3 i4 i5 i6;unfold CP eU at*;go_enter func206,ntmps206;go_wp2_with fail
 go_region_with (first
  |(go_at_call 128;refine CA.mono ?_;rintro e w1 ⟨H1,h9,d1,x1,e6,w0,rfl,j,n,c,k⟩;have g:=aS (QR (H:=H) (ca:=ca) (w:=w) n (c.low (aV _)) k.drewL j R.out);clear j n c k;unfold CP eU at g)
  |(go_at_call 128;refine CB.mono ?_;rintro e w1 ⟨H1,h9,d1,x1,e6,w0,rfl,j,n,c,k⟩;have g:=aS (QS (H:=H) (ca:=ca) (w:=w) n (A.1.trans c A.2.size) ((Gb.new A.2).tr k) j (c.ext _ _ iR) R.out);clear j n c k;unfold CP at g)
  |(go_at_call 211;refine g.mono ?_;rintro e w2 ⟨H2,e0,d2,x2,e7,w7,rfl,U,T,t2,h5,X⟩;have h8:=True.intro;have x:=aS (CQ t2 T U I3.out);have i:=aS (aL h5 X);clear h8 U T t2 h5 X;unfold CP at x)
  |(go_at_call 234;refine x.mono ?_;rintro e w3 ⟨⟨z,rfl⟩,⟨d3,f⟩,l⟩;have D:=aS (aL f l);clear f l))
 all_goals
  obtain⟨f,l⟩:=D.out;have E:=i.2.tr l;have h0:=i.1.ext _ _ Q.1;have h3:=f.ms.cs.fz _ _ h0;have k2:=cU h3 2 rfl;have N:=aS (Q.2.2.2.2 e2 _ m σ3 nb _ H2 e0 d3 e7 w7 w3 (i.1.prep Q.2.1) I4.out f (Q.2.2.2.1.gb E));have o:=aS (aL i.1 E);clear f l E h0 h3 x i g D;unfold CP at*;go_wp2_with fail;refine N.mono ?_;rintro e w4 ⟨H4,e4,d4,x4,e8,w8,rfl,V,L,h6,Y⟩;have v:=o.1.trans h6 o.2.size;have F:=o.2.tr Y;have h1:=v.ext _ _ Q.1;have h4:=L.ms.cs.fz _ _ h1;have k3:=cU h4 3 rfl;have O:=aS (Q.2.2.2.2 e3 _ m σ4 nb _ H4 e4 d4 e8 w8 w4 (v.prep Q.2.2.1) I5.out L (Q.2.2.2.1.gb F));have a:=aS (aL V (aL v F));clear V L h6 Y v F h1 h4 N o;unfold CP at*;go_wp2_with fail;refine O.mono ?_;rintro e w5 ⟨H5,e5,d5,x5,e9,w9,rfl,W,t5,y,Z⟩;have x:=aS (CQ t5 (jD y.pre a.1) W I6.out);have p:=aS (aL (jD y.pre a.1) (aL (a.2.1.trans y a.2.2.size) (a.2.2.tr Z)));clear W t5 y Z O a;unfold CP at*;go_wp2_with fail;refine x.mono ?_;rintro e w6 ⟨⟨z,rfl⟩,⟨d6,t6⟩,g6⟩;have Q6:=aS (show js C H ca M c4 nb w (.returned (CP x4)) w6 from⟨H5,e5,d6,x4,e9,w9,rfl,p.1,t6,p.2.1,p.2.2.tr g6⟩);clear t6 g6 x p;unfold CP at*;go_wp2;go_ret;exact Q6.out
theorem xm(a:ET C ad P)
  (c:H b=some (.cells #[dep,u1,u2,u3] 199 (0,0))) (i:dI m H u1 e1) (l:dI m H u2 e2) (n:dI m H u3 e3) (o:P e1 nb σ=some (.inl q)) (h:kD C H ca σ d nb nv vs w) (g:rP C.base ad w):
  Calls prog 206 #[CP C.tb, .pointer (some ⟨b,0,none⟩)] w (zE C ad H ca (.inl q) nb w):=by
 obtain⟨v,A,rfl⟩:=i.val;obtain⟨y,D,rfl⟩:=l.val;obtain⟨z,E,rfl⟩:=n.val;have f:=h.box #[.string (B eU)] 348;have k:w.grownBy (w.alloc (.cells #[.string (B eU)] 348)).drew none:=cZ (aO _ _ _);have s:=aS (a e1 _ m σ nb _ H ca d nv vs w.drew i o h.drew (g.gb (Gb.refl _ w).drew));have t:=aS (a e1 _ m σ nb _ _ ca d nv vs (w.alloc (.cells #[.string (B eU)] 348)).drew (f.2.prep i) o f.1.drew (g.gb (Gb.new k)));have u:=aS (aL f.2 k);have F:=aT (h.ms.cs.fz _ _ c);have p:=h.ms.cs.fz _ _ c;have G:=cU p 1 rfl;have Q:=aS (aL c (aL l (aL n (aL g a))));clear a c i l n h p g f k o;unfold CP eU at*;go_enter func206,ntmps206;go_wp2_with fail
 go_region_with (first
  |(go_at_call 128;refine s.mono ?_;rintro e r ⟨rfl,x⟩;have j:=aS (show Gb C.own w r from x.drewL);clear x;unfold oF eQ;refine B7 w ⟨rfl,rfl,j.out⟩ ?_)
  |(go_at_call 128;refine t.mono ?_;rintro e r ⟨rfl,x⟩;have j:=aS ((Gb.new u.2).tr x);clear x;unfold oF eQ;refine B7 w ⟨rfl,rfl,j.out⟩ ?_))
 all_goals trivial
theorem xn(i:ET C ad P)
  (j:H b=some (.cells #[dep,u1,u2,u3] 199 (0,0))) (n:dI m H u1 e1) (r:dI m H u2 e2) (s:dI m H u3 e3) (t:P e1 nb σ=some (.inr (σ1,c1))) (E:CH (some ⟨eU,[],0,[]⟩) σ1=some (σ2,c2)) (F:jK c1 c2 σ2=some none) (h:kD C H ca σ d nb nv vs w) (l:rP C.base ad w):
  Calls prog 206 #[CP C.tb, .pointer (some ⟨b,0,none⟩)] w (zE C ad H ca (.inl 3) nb w):=by
 obtain⟨Z,b1,rfl⟩:=n.val;obtain⟨T2,b2,rfl⟩:=r.val;obtain⟨T3,b3,rfl⟩:=s.val;have k:=h.box #[.string (B eU)] 348;have q:w.grownBy (w.alloc (.cells #[.string (B eU)] 348)).drew none:=cZ (aO _ _ _);have I:=aS (i e1 _ m σ nb _ H ca d nv vs w.drew n t h.drew (l.gb (Gb.refl _ w).drew));have J:=aS (i e1 _ m σ nb _ _ ca d nv vs (w.alloc (.cells #[.string (B eU)] 348)).drew (k.2.prep n) t k.1.drew (l.gb (Gb.new q)));have o:=aS (aL k.2 q);have h1:=aT (h.ms.cs.fz _ _ j);have D:=h.ms.cs.fz _ _ j;have k1:=cU D 1 rfl;have Q:=aS (aL j (aL r (aL s (aL l i))));have v:=aS E;have M:=aS F;clear i j n r s h D l k q t E F;unfold CP eU at*;go_enter func206,ntmps206;go_wp2_with fail
 go_region_with (first
  |(go_at_call 128;refine I.mono ?_;rintro e W ⟨K,R,S,X,U,V,rfl,a,f,x,c⟩;have g:=aS (QR (H:=H) (ca:=ca) (w:=w) f (x.low (aV _)) c.drewL a v.out);clear a f x c;unfold CP eU at g)
  |(go_at_call 128;refine J.mono ?_;rintro e W ⟨K,R,S,X,U,V,rfl,a,f,x,c⟩;have g:=aS (QS (H:=H) (ca:=ca) (w:=w) f (o.1.trans x o.2.size) ((Gb.new o.2).tr c) a (x.ext _ _ iR) v.out);clear a f x c;unfold CP at g)
  |(go_at_call 211;refine g.mono ?_;rintro e w2 ⟨Y,h0,d2,x2,h2,h3,rfl,z,y,G,T,p⟩;have L:=True.intro;have u:=aS (WN G y z M.out (Q.2.2.2.1.gb p));have N:=aS p;clear L z y G T p;unfold CP at u)
  |(go_at_call 234;refine u.mono ?_;rintro e w3 ⟨rfl,A⟩;have O:=aS (N.tr A);clear A;unfold oF eQ;refine B7 w ⟨rfl,rfl,O.out⟩ ?_))
 all_goals trivial
theorem xo(l:ET C ad P)
  (n:H b=some (.cells #[dep,u1,u2,u3] 199 (0,0))) (r:dI m H u1 e1) (A:dI m H u2 e2) (D:dI m H u3 e3) (E:P e1 nb σ=some (.inr (σ1,c1))) (R:CH (some ⟨eU,[],0,[]⟩) σ1=some (σ2,c2)) (S:jK c1 c2 σ2=some (some σ3)) (T:P e2 nb σ3=some (.inl q)) (h:kD C H ca σ d nb nv vs w) (p:rP C.base ad w):
  Calls prog 206 #[CP C.tb, .pointer (some ⟨b,0,none⟩)] w (zE C ad H ca (.inl q) nb w):=by
 obtain⟨T1,b1,rfl⟩:=r.val;obtain⟨T2,b2,rfl⟩:=A.val;obtain⟨u,b3,rfl⟩:=D.val;have o:=h.box #[.string (B eU)] 348;have y:w.grownBy (w.alloc (.cells #[.string (B eU)] 348)).drew none:=cZ (aO _ _ _);have W:=aS (l e1 _ m σ nb _ H ca d nv vs w.drew r E h.drew (p.gb (Gb.refl _ w).drew));have X:=aS (l e1 _ m σ nb _ _ ca d nv vs (w.alloc (.cells #[.string (B eU)] 348)).drew (o.2.prep r) E o.1.drew (p.gb (Gb.new y)));have t:=aS (aL o.2 y);have h7:=aT (h.ms.cs.fz _ _ n);have N:=h.ms.cs.fz _ _ n;have k1:=cU N 1 rfl;have Q:=aS (aL n (aL A (aL D (aL p l))));have G:=aS R;have I3:=aS S;have I4:=aS T;clear l n r A D h N p o y E R S T;unfold CP eU at*;go_enter func206,ntmps206;go_wp2_with fail
 go_region_with (first
  |(go_at_call 128;refine W.mono ?_;rintro e w1 ⟨Y,h1,d1,x1,h3,h5,rfl,g,k,x,i⟩;have c:=aS (QR (H:=H) (ca:=ca) (w:=w) k (x.low (aV _)) i.drewL g G.out);clear g k x i;unfold CP eU at c)
  |(go_at_call 128;refine X.mono ?_;rintro e w1 ⟨Y,h1,d1,x1,h3,h5,rfl,g,k,x,i⟩;have c:=aS (QS (H:=H) (ca:=ca) (w:=w) k (t.1.trans x t.2.size) ((Gb.new t.2).tr i) g (x.ext _ _ iR) G.out);clear g k x i;unfold CP at c)
  |(go_at_call 211;refine c.mono ?_;rintro e w2 ⟨Z,h2,d2,x2,h4,h6,rfl,J,I,V,U,K⟩;have h0:=True.intro;have s:=aS (CQ V I J I3.out);have f:=aS (aL U K);clear h0 J I V U K;unfold CP at s)
  |(go_at_call 234;refine s.mono ?_;rintro e w3 ⟨⟨z,rfl⟩,⟨d3,a⟩,j⟩;have u:=aS (aL a j);clear a j))
 all_goals
  obtain⟨a,j⟩:=u.out;have v:=f.2.tr j;have M:=f.1.ext _ _ Q.1;have O:=a.ms.cs.fz _ _ M;have k2:=cU O 2 rfl;have F:=aS (Q.2.2.2.2 e2 _ m σ3 nb _ Z h2 d3 h4 h6 w3 (f.1.prep Q.2.1) I4.out a (Q.2.2.2.1.gb v));have Q3:=aS (aL f.1 v);clear a j v M O s f c u;unfold CP at*;go_wp2_with fail;refine F.mono ?_;rintro e w4 ⟨rfl,L⟩;have Q9:=aS (Q3.2.tr L);clear L F;unfold oF eQ;go_wp2;exact⟨rfl,rfl,Q9.out⟩
theorem xp(n:ET C ad P)
  (o:H b=some (.cells #[dep,u1,u2,u3] 199 (0,0))) (s:dI m H u1 e1) (F:dI m H u2 e2) (G:dI m H u3 e3) (I:P e1 nb σ=some (.inr (σ1,c1))) (i2:CH (some ⟨eU,[],0,[]⟩) σ1=some (σ2,c2)) (i3:jK c1 c2 σ2=some (some σ3)) (i4:P e2 nb σ3=some (.inr (σ4,c4))) (i5:P e3 nb σ4=some (.inl q)) (h:kD C H ca σ d nb nv vs w) (r:rP C.base ad w):
  Calls prog 206 #[CP C.tb, .pointer (some ⟨b,0,none⟩)] w (zE C ad H ca (.inl q) nb w):=by
 obtain⟨T1,b1,rfl⟩:=s.val;obtain⟨T2,b2,rfl⟩:=F.val;obtain⟨y,b3,rfl⟩:=G.val;have p:=h.box #[.string (B eU)] 348;have E:w.grownBy (w.alloc (.cells #[.string (B eU)] 348)).drew none:=cZ (aO _ _ _);have CA:=aS (n e1 _ m σ nb _ H ca d nv vs w.drew s I h.drew (r.gb (Gb.refl _ w).drew));have CB:=aS (n e1 _ m σ nb _ _ ca d nv vs (w.alloc (.cells #[.string (B eU)] 348)).drew (p.2.prep s) I p.1.drew (r.gb (Gb.new E)));have v:=aS (aL p.2 E);have e5:=aT (h.ms.cs.fz _ _ o);have X:=h.ms.cs.fz _ _ o;have k1:=cU X 1 rfl;have Q:=aS (aL o (aL F (aL G (aL r n))));have M:=aS i2;have I3:=aS i3;have I4:=aS i4;have I5:=aS i5;clear n o s F G h X r p E I i2 i3 i4 i5;unfold CP eU at*;go_enter func206,ntmps206;go_wp2_with fail
 go_region_with (first
  |(go_at_call 128;refine CA.mono ?_;rintro e w1 ⟨H1,h3,d1,x1,h6,h9,rfl,g,k,x,i⟩;have c:=aS (QR (H:=H) (ca:=ca) (w:=w) k (x.low (aV _)) i.drewL g M.out);clear g k x i;unfold CP eU at c)
  |(go_at_call 128;refine CB.mono ?_;rintro e w1 ⟨H1,h3,d1,x1,h6,h9,rfl,g,k,x,i⟩;have c:=aS (QS (H:=H) (ca:=ca) (w:=w) k (v.1.trans x v.2.size) ((Gb.new v.2).tr i) g (x.ext _ _ iR) M.out);clear g k x i;unfold CP at c)
  |(go_at_call 211;refine c.mono ?_;rintro e w2 ⟨H2,h4,d2,x2,h7,e0,rfl,O,N,t2,h0,S⟩;have h2:=True.intro;have u:=aS (CQ t2 N O I3.out);have f:=aS (aL h0 S);clear h2 O N t2 h0 S;unfold CP at u)
  |(go_at_call 234;refine u.mono ?_;rintro e w3 ⟨⟨z,rfl⟩,⟨d3,a⟩,j⟩;have y:=aS (aL a j);clear a j))
 all_goals
  obtain⟨a,j⟩:=y.out;have A:=f.2.tr j;have V:=f.1.ext _ _ Q.1;have Y:=a.ms.cs.fz _ _ V;have k2:=cU Y 2 rfl;have K:=aS (Q.2.2.2.2 e2 _ m σ3 nb _ H2 h4 d3 h7 e0 w3 (f.1.prep Q.2.1) I4.out a (Q.2.2.2.1.gb A));have l:=aS (aL f.1 A);clear a j A V Y u f c y;unfold CP at*;go_wp2_with fail;refine K.mono ?_;rintro e w4 ⟨H4,h5,d4,x4,h8,e4,rfl,R,J,h1,T⟩;have t:=l.1.trans h1 l.2.size;have D:=l.2.tr T;have W:=t.ext _ _ Q.1;have Z:=J.ms.cs.fz _ _ W;have k3:=cU Z 3 rfl;have L:=aS (Q.2.2.2.2 e3 _ m σ4 nb _ H4 h5 d4 h8 e4 w4 (t.prep Q.2.2.1) I5.out J (Q.2.2.2.1.gb D));have Q4:=aS (aL R (aL t D));clear R J h1 T t D W Z K l;unfold CP at*;go_wp2_with fail;refine L.mono ?_;rintro e w5 ⟨rfl,U⟩;have Q9:=aS (Q4.2.2.tr U);clear U L;unfold oF eQ;go_wp2;exact⟨rfl,rfl,Q9.out⟩
theorem xq(o:ET C ad P){h7:bM}{R:Nat}
  (p:H b=some (.cells #[dep,u1,u2,u3] 199 (0,0))) (s:dI m H u1 e1) (G:dI m H u2 e2) (I:dI m H u3 e3) (J:P e1 nb σ=some (.inr (σ1,c1))) (i2:CH (some ⟨eU,[],0,[]⟩) σ1=some (σ2,c2)) (i3:jK c1 c2 σ2=some (some σ3)) (i4:P e2 nb σ3=some (.inr (σ4,c4))) (i5:P e3 nb σ4=some (.inr (h7,R))) (i6:jK c4 R h7=some none) (h:kD C H ca σ d nb nv vs w) (r:rP C.base ad w):
  Calls prog 206 #[CP C.tb, .pointer (some ⟨b,0,none⟩)] w (zE C ad H ca (.inl 3) nb w):=by
 obtain⟨T1,b1,rfl⟩:=s.val;obtain⟨T2,b2,rfl⟩:=G.val;obtain⟨y,b3,rfl⟩:=I.val;have q:=h.box #[.string (B eU)] 348;have F:w.grownBy (w.alloc (.cells #[.string (B eU)] 348)).drew none:=cZ (aO _ _ _);have CA:=aS (o e1 _ m σ nb _ H ca d nv vs w.drew s J h.drew (r.gb (Gb.refl _ w).drew));have CB:=aS (o e1 _ m σ nb _ _ ca d nv vs (w.alloc (.cells #[.string (B eU)] 348)).drew (q.2.prep s) J q.1.drew (r.gb (Gb.new F)));have v:=aS (aL q.2 F);have w8:=aT (h.ms.cs.fz _ _ p);have h1:=h.ms.cs.fz _ _ p;have k1:=cU h1 1 rfl;have Q:=aS (aL p (aL G (aL I (aL r o))));have O:=aS i2;have I3:=aS i3;have I4:=aS i4;have I5:=aS i5;have I6:=aS i6;clear o p s G I h h1 r q F J i2 i3 i4 i5 i6;unfold CP eU at*;go_enter func206,ntmps206;go_wp2_with fail
 go_region_with (first
  |(go_at_call 128;refine CA.mono ?_;rintro e w1 ⟨H1,h9,d1,x1,e5,e8,rfl,g,k,x,i⟩;have c:=aS (QR (H:=H) (ca:=ca) (w:=w) k (x.low (aV _)) i.drewL g O.out);clear g k x i;unfold CP eU at c)
  |(go_at_call 128;refine CB.mono ?_;rintro e w1 ⟨H1,h9,d1,x1,e5,e8,rfl,g,k,x,i⟩;have c:=aS (QS (H:=H) (ca:=ca) (w:=w) k (v.1.trans x v.2.size) ((Gb.new v.2).tr i) g (x.ext _ _ iR) O.out);clear g k x i;unfold CP at c)
  |(go_at_call 211;refine c.mono ?_;rintro e w2 ⟨H2,e0,d2,x2,e6,e9,rfl,T,S,t2,h4,W⟩;have h8:=True.intro;have u:=aS (CQ t2 S T I3.out);have f:=aS (aL h4 W);clear h8 T S t2 h4 W;unfold CP at u)
  |(go_at_call 234;refine u.mono ?_;rintro e w3 ⟨⟨z,rfl⟩,⟨d3,a⟩,j⟩;have y:=aS (aL a j);clear a j))
 all_goals
  obtain⟨a,j⟩:=y.out;have A:=f.2.tr j;have Z:=f.1.ext _ _ Q.1;have h2:=a.ms.cs.fz _ _ Z;have k2:=cU h2 2 rfl;have L:=aS (Q.2.2.2.2 e2 _ m σ3 nb _ H2 e0 d3 e6 e9 w3 (f.1.prep Q.2.1) I4.out a (Q.2.2.2.1.gb A));have l:=aS (aL f.1 A);clear a j A Z h2 u f c y;unfold CP at*;go_wp2_with fail;refine L.mono ?_;rintro e w4 ⟨H4,e4,d4,x4,e7,w0,rfl,U,K,h5,X⟩;have t:=l.1.trans h5 l.2.size;have D:=l.2.tr X;have h0:=t.ext _ _ Q.1;have h3:=K.ms.cs.fz _ _ h0;have k3:=cU h3 3 rfl;have M:=aS (Q.2.2.2.2 e3 _ m σ4 nb _ H4 e4 d4 e7 w0 w4 (t.prep Q.2.2.1) I5.out K (Q.2.2.2.1.gb D));have n:=aS (aL U (aL t D));clear U K h5 X t D h0 h3 L l;unfold CP at*;go_wp2_with fail;refine M.mono ?_;rintro e w5 ⟨H5,w7,d5,x5,w9,x0,rfl,V,t5,h6,E⟩;have N:=aS (WN t5 (jD h6.pre n.1) V I6.out (Q.2.2.2.1.gb (n.2.2.tr E)));have Q5:=aS (n.2.2.tr E);clear V t5 h6 E M n;unfold CP at*;go_wp2_with fail;refine N.mono ?_;rintro e w6 ⟨rfl,Y⟩;have Q9:=aS (Q5.tr Y);clear Y N;unfold oF eQ;go_wp2;exact⟨rfl,rfl,Q9.out⟩
end Go.Proofs.YtcdijppegfcoaaaGreatDoor
