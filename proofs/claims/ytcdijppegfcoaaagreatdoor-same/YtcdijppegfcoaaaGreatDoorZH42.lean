import Derived.Test.YtcdijppegfcoaaaGreatDoorZH34
import Derived.Test.YtcdijppegfcoaaaGreatDoorZH40
set_option maxRecDepth 100000
set_option maxHeartbeats 4000000
set_option linter.unusedSimpArgs false
namespace Go.Proofs.YtcdijppegfcoaaaGreatDoor
open Go.RowKit Tryz
variable{C:TC}{ad:Nat->Addr}{P:Ex->List (aA×Et)->bM->Option (Sum Nat (bM×Nat))}{e1 e2:Ex}{u1 u2 dep nv u:Value}{b m c1 c2 c3 q:Nat}{σ σ1 σ2 σ3:bM}{nb:List (aA×Et)}{ca:List Nat}{d:Nat->Nat}{vs:List NE}{w:World}
theorem Eg(n:ET C ad P){H:aB}{h0:bM}{I:Nat}{y:bM}
  (p:H b=some (.cells #[dep,u1,u2] 213 (0,0))) (r:dI m H u1 e1) (s:dI m H u2 e2) (W:P e1 nb σ=some (.inr (σ1,c1))) (X:P e2 nb σ1=some (.inr (σ2,c2))) (Y:CH none σ2=some (σ3,c3)) (Z:CH (some ⟨dO,[],0,[cT c2,cT c3]⟩) σ3=some (h0,I)) (i5:jK c1 I h0=some (some y)) (h:kD C H ca σ d nb nv vs w) (q:rP C.base ad w):
  Calls prog 210 #[CP C.tb, .pointer (some ⟨b,0,none⟩)] w (zE C ad H ca (.inr (y,c3)) nb w):=by
 obtain⟨T1,b1,rfl⟩:=r.val;obtain⟨T2,b2,rfl⟩:=s.val;have A:=aS (n e1 _ m σ nb _ H ca d nv vs w r W h q);have U:=h.ms.cs.fz _ _ p;have k1:=cU U 1 rfl;have Q:=aS (aL p (aL s (aL q n)));have I2:=aS X;have I3:=aS Y;have I4:=aS Z;have I5:=aS i5;clear n p r s h U q W X Y Z i5;unfold CP at*;go_enter func210,ntmps210;go_wp2_with fail;refine A.mono ?_;rintro e w1 ⟨H1,h1,d1,x1,h3,h5,rfl,J,u,g,l⟩;have S:=g.ext _ _ Q.1;have V:=u.ms.cs.fz _ _ S;have k2:=cU V 2 rfl;have D:=aS (Q.2.2.2 e2 _ m σ1 nb _ H1 h1 d1 h3 h5 w1 (g.prep Q.2.1) I2.out u (Q.2.2.1.gb l));have c:=aS (aL J (aL g l));clear J u g l A S V;unfold CP at*;go_wp2_with fail;refine D.mono ?_;rintro e w2 ⟨H2,h7,d2,x2,h8,h9,rfl,K,t2,t,M⟩;have G:=aS (t2.of (o:=none) (aQ ⟨rfl,rfl⟩) I3.out);have x:=aS (aL (jD t.pre c.1) (aL K (aL (c.2.1.trans t c.2.2.size) (c.2.2.tr M))));clear K t2 t M D c;unfold CP at*;go_wp2_with fail;refine G.mono ?_;rintro e w3 ⟨v,rfl,k,t3,i,N⟩;have F:=aS (t3.made (cs:= #[CI x2,CI v]) (T:=293) (QP (jD i.pre x.2.1) k iR) I4.out);have a:=aS (aL (jD i.pre x.1) (aL k (aL (x.2.2.1.trans i x.2.2.2.size) (x.2.2.2.tr N))));clear k t3 i N G x;unfold CI CP at*;go_wp2_with fail;refine F.mono ?_;rintro e w4 ⟨H4,h2,d4,x4,h4,h6,rfl,L,t4,j,O⟩;have E:=aS (CQ t4 (jD j.pre a.1) L I5.out);have f:=aS (aL (jD j.pre a.2.1) (aL (a.2.2.1.trans j a.2.2.2.size) (a.2.2.2.tr O)));clear L t4 j O F a;unfold CP at*;go_wp2_with fail;refine E.mono ?_;rintro e w5 ⟨⟨z,rfl⟩,⟨d5,t5⟩,R⟩;have Q5:=aS (show js C H ca y c3 nb w (.returned (CP v)) w5 from⟨H4,h2,d5,v,h4,h6,rfl,f.1,t5,f.2.1,f.2.2.tr R⟩);clear t5 R E f;unfold CP at*;go_wp2;go_ret;exact Q5.out
theorem Eh(x:ET C ad P){H:aB}
  (a:H b=some (.cells #[dep,u1,u2] 213 (0,0))) (f:dI m H u1 e1) (g:dI m H u2 e2) (l:P e1 nb σ=some (.inl q)) (h:kD C H ca σ d nb nv vs w) (c:rP C.base ad w):
  Calls prog 210 #[CP C.tb, .pointer (some ⟨b,0,none⟩)] w (zE C ad H ca (.inl q) nb w):=by
 obtain⟨o,r,rfl⟩:=f.val;obtain⟨p,s,rfl⟩:=g.val;have i:=aS (x e1 _ m σ nb _ H ca d nv vs w f l h c);have k:=h.ms.cs.fz _ _ a;have t:=cU k 1 rfl;have Q:=aS (aL a (aL g (aL c x)));clear x a f g h k c l;unfold CP at*;go_enter func210,ntmps210;go_wp2_with fail;refine i.mono ?_;rintro e u ⟨rfl,j⟩;have n:=aS (j);clear j i;unfold oF eQ;go_wp2;exact⟨rfl,rfl,n.out⟩
theorem Ei(c:ET C ad P){H:aB}
  (f:H b=some (.cells #[dep,u1,u2] 213 (0,0))) (i:dI m H u1 e1) (j:dI m H u2 e2) (u:P e1 nb σ=some (.inr (σ1,c1))) (v:P e2 nb σ1=some (.inl q)) (h:kD C H ca σ d nb nv vs w) (g:rP C.base ad w):
  Calls prog 210 #[CP C.tb, .pointer (some ⟨b,0,none⟩)] w (zE C ad H ca (.inl q) nb w):=by
 obtain⟨K,M,rfl⟩:=i.val;obtain⟨L,N,rfl⟩:=j.val;have l:=aS (c e1 _ m σ nb _ H ca d nv vs w i u h g);have s:=h.ms.cs.fz _ _ f;have O:=cU s 1 rfl;have Q:=aS (aL f (aL j (aL g c)));have z:=aS v;clear c f i j h s g u v;unfold CP at*;go_enter func210,ntmps210;go_wp2_with fail;refine l.mono ?_;rintro e J ⟨y,E,F,T,G,I,rfl,o,k,x,a⟩;have r:=x.ext _ _ Q.1;have t:=k.ms.cs.fz _ _ r;have R:=cU t 2 rfl;have n:=aS (Q.2.2.2 e2 _ m σ1 nb _ y E F G I J (x.prep Q.2.1) z.out k (Q.2.2.1.gb a));have A:=aS (aL o (aL x a));clear o k x a l r t;unfold CP at*;go_wp2_with fail;refine n.mono ?_;rintro e S ⟨rfl,p⟩;have D:=aS (A.2.2.tr p);clear p n;unfold oF eQ;go_wp2;exact⟨rfl,rfl,D.out⟩
theorem Ej(l:ET C ad P){H:aB}{h0:bM}{D:Nat}
  (n:H b=some (.cells #[dep,u1,u2] 213 (0,0))) (q:dI m H u1 e1) (r:dI m H u2 e2) (O:P e1 nb σ=some (.inr (σ1,c1))) (R:P e2 nb σ1=some (.inr (σ2,c2))) (S:CH none σ2=some (σ3,c3)) (U:CH (some ⟨dO,[],0,[cT c2,cT c3]⟩) σ3=some (h0,D)) (V:jK c1 D h0=some none) (h:kD C H ca σ d nb nv vs w) (p:rP C.base ad w):
  Calls prog 210 #[CP C.tb, .pointer (some ⟨b,0,none⟩)] w (zE C ad H ca (.inl 3) nb w):=by
 obtain⟨T1,b1,rfl⟩:=q.val;obtain⟨T2,b2,rfl⟩:=r.val;have u:=aS (l e1 _ m σ nb _ H ca d nv vs w q O h p);have M:=h.ms.cs.fz _ _ n;have k1:=cU M 1 rfl;have Q:=aS (aL n (aL r (aL p l)));have I2:=aS R;have I3:=aS S;have I4:=aS U;have I5:=aS V;clear l n q r h M p O R S U V;unfold CP at*;go_enter func210,ntmps210;go_wp2_with fail;refine u.mono ?_;rintro e w1 ⟨H1,h1,d1,x1,h2,h3,rfl,E,t,f,j⟩;have L:=f.ext _ _ Q.1;have N:=t.ms.cs.fz _ _ L;have k2:=cU N 2 rfl;have v:=aS (Q.2.2.2 e2 _ m σ1 nb _ H1 h1 d1 h2 h3 w1 (f.prep Q.2.1) I2.out t (Q.2.2.1.gb j));have a:=aS (aL E (aL f j));clear E t f j u L N;unfold CP at*;go_wp2_with fail;refine v.mono ?_;rintro e w2 ⟨H2,h4,d2,x2,h6,h8,rfl,F,X,s,I⟩;have A:=aS (X.of (o:=none) (aQ ⟨rfl,rfl⟩) I3.out);have x:=aS (aL (jD s.pre a.1) (aL F (aL (a.2.1.trans s a.2.2.size) (a.2.2.tr I))));clear F X s I v a;unfold CP at*;go_wp2_with fail;refine A.mono ?_;rintro e w3 ⟨x3,rfl,i,Y,g,J⟩;have z:=aS (Y.made (cs:= #[CI x2,CI x3]) (T:=293) (QP (jD g.pre x.2.1) i iR) I4.out);have c:=aS (aL (jD g.pre x.1) (aL i (aL (x.2.2.1.trans g x.2.2.2.size) (x.2.2.2.tr J))));clear i Y g J A x;unfold CI CP at*;go_wp2_with fail;refine z.mono ?_;rintro e w4 ⟨H4,h5,d4,x4,h7,h9,rfl,G,Z,W,k⟩;have y:=aS (WN Z (jD W.pre c.1) G I5.out (Q.2.2.1.gb (c.2.2.2.tr k)));have Q4:=aS (c.2.2.2.tr k);clear G Z W k z c;unfold CP at*;go_wp2_with fail;refine y.mono ?_;rintro e w5 ⟨rfl,K⟩;have Q9:=aS (Q4.tr K);clear K y;unfold oF eQ;go_wp2;exact⟨rfl,rfl,Q9.out⟩
theorem Ro(K:ET C ad P){e:Ex}{p:aA}{H:aB}{n:Nat}
  (x:H b=some (.cells #[dep, .string (B p),u] 196 (0,0))) (D:dI m H u e) (g:CH none σ=some (σ1,n)) (N:nb.length+1<=1000) (r:P e (nb++[(p,cT n)]) σ1=some (.inr (σ2,c2))) (O:CH (some ⟨dO,[],0,[cT n,cT c2]⟩) σ2=some (σ3,c3)) (h:kD C H ca σ d nb nv vs w) (M:rP C.base ad w):
  Calls prog 205 #[CP C.tb, .pointer (some ⟨b,0,none⟩)] w (zE C ad H ca (.inr (σ3,c3)) nb w):=by
 obtain⟨V,W,rfl⟩:=D.val;have G:=aS (h.of (o:=none) (aQ ⟨rfl,rfl⟩) g);have Q:=aS (aL x (aL D (aL r (aL N (aL K M)))));have U:=aS O;have L:=h.ms.cs.fz;have X:=L _ _ x;have h2:=aT X;have h3:b≠C.tb:=λe=>by rw[e]at x;rw[h.ms.ht]at x;cases x
 have h1:¬dT ca b:=λY=>by rw[h.ms.cs.off b Y]at x;cases x
 clear D x r N K h L g M O;unfold CP at*;go_enter func205,ntmps205;go_wp2_with fail;refine G.mono ?_;rintro e f ⟨v,rfl,y,E,R,z⟩;have A:f.heap[b]? =some (.cells #[dep, .string (B p), .iface V (.pointer (some ⟨W,0,none⟩))] 196 (0,0)):=E.ms.cs.fz _ _ Q.1;have k1:=cU A 1 rfl;have k2:=cU A 2 rfl;have h4:=aT A;have s:f.grownBy (f.alloc (.cells #[.string (B p),CI v] 403)).drew none:=cZ (aO _ _ _)
 have I:=aS (uU (nbs:=[(p,cT n)]) (nws:=[((p,265,v):aA×TypeId×Nat)]) (gm:=f.heap.size) (capm:=1) Q.2.2.2.2.1 Q.2.1 Q.2.2.1 (Q.2.2.2.2.2.gb (z.tr (Gb.new s))) (E.grown s) rfl (FI _) Q.2.2.2.1 (lN (w:=(f.alloc (.cells #[.string (B p),CI v] 403)).drew) (bY f _)) (λi p' q g r=>by
   cases i with
   |zero=>cases g;cases r;exact⟨rfl,1,oX y⟩
   |succ i=>cases g))
 have a:=aS (aL y (aL R (aL z s)));clear y E R z G s;unfold CI CP at*;go_wp2_with fail
 go_region_with (go_at_call 208;refine I.mono ?_;rintro e w3 ⟨H3,h0,d3,x2,h5,h6,rfl,j,l,c,k⟩;have J:=aS (aL j (aL l (aL c k)));clear j l c k;unfold CP at*)
 all_goals
  obtain⟨j,l,c,k⟩:=J.out;have F:=aS ((l.made (cs:= #[CI v,CI x2]) (T:=293) (QP (jD c.pre a.1) j iR) U.out).mono λe Z t=>js.low (H:=H) (ca:=ca) (w:=w) t ((a.2.1.trans c (bV a.2.2.1.size a.2.2.2.size))) ((a.2.2.1.tr (Gb.new a.2.2.2)).tr k));clear j l c k J I a;unfold CI CP at*;go_wp2_with fail;refine F.mono ?_;rintro e Z t;have S:=aS t;obtain⟨_,_,_,x9,_,_,rfl,_⟩:=t;clear F;unfold CP at*;go_wp2;go_ret;exact S.out
theorem Rp(A:ET C ad P){e:Ex}{p:aA}{H:aB}{j:Nat}
  (x:H b=some (.cells #[dep, .string (B p),u] 196 (0,0))) (r:dI m H u e) (c:CH none σ=some (σ1,j)) (F:nb.length+1<=1000) (f:P e (nb++[(p,cT j)]) σ1=some (.inl q)) (h:kD C H ca σ d nb nv vs w) (E:rP C.base ad w):
  Calls prog 205 #[CP C.tb, .pointer (some ⟨b,0,none⟩)] w (zE C ad H ca (.inl q) nb w):=by
 obtain⟨K,L,rfl⟩:=r.val;have v:=aS (h.of (o:=none) (aQ ⟨rfl,rfl⟩) c);have Q:=aS (aL x (aL r (aL f (aL F (aL A E)))));have D:=h.ms.cs.fz;have M:=D _ _ x;have R:=aT M;have S:b≠C.tb:=λe=>by rw[e]at x;rw[h.ms.ht]at x;cases x
 have O:¬dT ca b:=λN=>by rw[h.ms.cs.off b N]at x;cases x
 clear r x f F A h D c E;unfold CP at*;go_enter func205,ntmps205;go_wp2_with fail;refine v.mono ?_;rintro e a ⟨t,rfl,k,s,G,l⟩;have n:a.heap[b]? =some (.cells #[dep, .string (B p), .iface K (.pointer (some ⟨L,0,none⟩))] 196 (0,0)):=s.ms.cs.fz _ _ Q.1;have U:=cU n 1 rfl;have V:=cU n 2 rfl;have T:=aT n;have g:a.grownBy (a.alloc (.cells #[.string (B p),CI t] 403)).drew none:=cZ (aO _ _ _)
 have I:=aS (uU (nbs:=[(p,cT j)]) (nws:=[((p,265,t):aA×TypeId×Nat)]) (gm:=a.heap.size) (capm:=1) Q.2.2.2.2.1 Q.2.1 Q.2.2.1 (Q.2.2.2.2.2.gb (l.tr (Gb.new g))) (s.grown g) rfl (FI _) Q.2.2.2.1 (lN (w:=(a.alloc (.cells #[.string (B p),CI t] 403)).drew) (bY a _)) (λi W q c f=>by
   cases i with
   |zero=>cases c;cases f;exact⟨rfl,1,oX k⟩
   |succ i=>cases c))
 have y:=aS (aL k (aL G (aL l g)));clear k s G l v g;unfold CI CP at*;go_wp2_with fail
 go_region_with (go_at_call 208;refine I.mono ?_;rintro e X ⟨rfl,z⟩;have J:=aS ((y.2.2.1.tr (Gb.new y.2.2.2)).tr z);clear z;unfold oF eQ;refine B7 w ⟨rfl,rfl,J.out⟩ ?_)
 all_goals trivial
theorem ae(g:ET C ad P){H:aB}
  (i:H b=some (.cells #[dep,u1,u2] 216 (0,0))) (l:dI m H u1 e1) (n:dI m H u2 e2) (y:P e1 nb σ=some (.inr (σ1,c1))) (z:P e2 nb σ1=some (.inr (σ2,c2))) (A:CH (some ⟨eS,[],0,[cT c1,cT c2]⟩) σ2=some (σ3,c3)) (h:kD C H ca σ d nb nv vs w) (k:rP C.base ad w):
  Calls prog 171 #[CP C.tb, .iface 214 (.pointer (some ⟨b,0,none⟩))] w (zE C ad H ca (.inr (σ3,c3)) nb w):=by
 obtain⟨X,b1,rfl⟩:=l.val;obtain⟨Y,b2,rfl⟩:=n.val;have q:=aS (g e1 _ m σ nb _ H ca d nv vs w l y h k);have v:=h.ms.cs.fz _ _ i;have k1:=cU v 1 rfl;have Q:=aS (aL i (aL n (aL k g)));have Z:=nM b;have a1:=pH b;have a2:=rD b;have a3:=pI b;have a4:=lW b;have a5:=oM b;have a6:=nN b;have K:=aS z;have L:=aS A;clear g i l n y h v k z A;unfold CP at*;go_enter func171,ntmps171;go_wp2_with fail;refine q.mono ?_;rintro e E ⟨I,M,N,U,O,R,rfl,r,p,c,f⟩;have u:=c.ext _ _ Q.1;have j:=p.ms.cs.fz _ _ u;have k2:=cU j 2 rfl;have h1:=aT j;have F:=aS (Q.2.2.2 e2 _ m σ1 nb _ I M N O R E.drew (c.prep Q.2.1) K.out p.drew ((Q.2.2.1.gb f).gb (Gb.refl _ E).drew));have x:=aS (aL r (aL c f));clear r p c f q u j;unfold CP at*;go_wp2_with fail
 go_region_with (first
  |(go_at_call 128;refine F.mono ?_;rintro e w2 ⟨W,h0,d2,V,h2,h3,rfl,s,D,o,t⟩;have G:=aS ((D.made (cs:= #[CI U,CI V]) (T:=384) (Kr (jD o.pre x.1) s iR) L.out).mono λe S a=>js.low (H:=H) (ca:=ca) (w:=w) a (x.2.1.trans o x.2.2.size) (x.2.2.tr t.drewL));clear s D o t;unfold CI CP at*)
  |(go_at_call 211;refine G.mono ?_;rintro e S a;have J:=aS a;obtain⟨_,_,_,x9,_,_,rfl,_⟩:=a;unfold CP at*))
 all_goals go_wp2
 all_goals go_ret
 all_goals exact J.out
theorem af(x:ET C ad P){H:aB}
  (a:H b=some (.cells #[dep,u1,u2] 216 (0,0))) (f:dI m H u1 e1) (g:dI m H u2 e2) (l:P e1 nb σ=some (.inl q)) (h:kD C H ca σ d nb nv vs w) (c:rP C.base ad w):
  Calls prog 171 #[CP C.tb, .iface 214 (.pointer (some ⟨b,0,none⟩))] w (zE C ad H ca (.inl q) nb w):=by
 obtain⟨o,A,rfl⟩:=f.val;obtain⟨p,D,rfl⟩:=g.val;have i:=aS (x e1 _ m σ nb _ H ca d nv vs w f l h c);have k:=h.ms.cs.fz _ _ a;have E:=cU k 1 rfl;have Q:=aS (aL a (aL g (aL c x)));have r:=nM b;have s:=pH b;have t:=rD b;have u:=pI b;have v:=lW b;have y:=oM b;have z:=nN b;clear x a f g l h k c;unfold CP at*;go_enter func171,ntmps171;go_wp2_with fail;refine i.mono ?_;rintro e F ⟨rfl,j⟩;have n:=aS j;clear j i;unfold oF eQ;go_wp2;exact⟨rfl,rfl,n.out⟩
theorem ai(c:ET C ad P){H:aB}
  (f:H b=some (.cells #[dep,u1,u2] 216 (0,0))) (j:dI m H u1 e1) (k:dI m H u2 e2) (t:P e1 nb σ=some (.inr (σ1,c1))) (u:P e2 nb σ1=some (.inl q)) (h:kD C H ca σ d nb nv vs w) (i:rP C.base ad w):
  Calls prog 171 #[CP C.tb, .iface 214 (.pointer (some ⟨b,0,none⟩))] w (zE C ad H ca (.inl q) nb w):=by
 obtain⟨K,V,rfl⟩:=j.val;obtain⟨L,W,rfl⟩:=k.val;have n:=aS (c e1 _ m σ nb _ H ca d nv vs w j t h i);have s:=h.ms.cs.fz _ _ f;have Y:=cU s 1 rfl;have Q:=aS (aL f (aL k (aL i c)));have M:=nM b;have N:=pH b;have O:=rD b;have R:=pI b;have S:=lW b;have T:=oM b;have U:=nN b;have A:=aS u;clear c f j k t h s i u;unfold CP at*;go_enter func171,ntmps171;go_wp2_with fail;refine n.mono ?_;rintro e v ⟨z,F,G,x1,I,J,rfl,o,l,x,a⟩;have r:=x.ext _ _ Q.1;have g:=l.ms.cs.fz _ _ r;have Z:=cU g 2 rfl;have X:=aT g;have y:=aS (Q.2.2.2 e2 _ m σ1 nb _ z F G I J v.drew (x.prep Q.2.1) A.out l.drew ((Q.2.2.1.gb a).gb (Gb.refl _ v).drew));have D:=aS (aL o (aL x a));clear o l x a n r g;unfold CP at*;go_wp2_with fail
 go_region_with (go_at_call 128;refine y.mono ?_;rintro e w2 ⟨rfl,p⟩;have E:=aS (D.2.2.tr p.drewL);clear p;unfold oF eQ;refine B7 w ⟨rfl,rfl,E.out⟩ ?_)
 all_goals trivial
theorem qd{N:Nat}{e:aD}:∀(m:Nat) (x:Ty),dJ N m x->qe e (m+1) x=qe e m x
 |0,_,h=>absurd h id
 |m+1,x,h=>by
  have f:qe e (m+1+1) x=if x.kind=[]then vT (e.getD x.var [])else⟨x.kind,[],0,x.kids.map (qe e (m+1))⟩:=rfl;have g:qe e (m+1) x=if x.kind=[]then vT (e.getD x.var [])else⟨x.kind,[],0,x.kids.map (qe e m)⟩:=rfl;rw[f,g];rcases h with⟨w,_⟩|⟨w,_,c⟩|⟨w,i,a,c,d⟩|⟨w,i,a,b,c,d,j⟩
  ·rw[aR w,aR w]
  ·rw[c];rfl
  ·rw[c];simp only[cG,fE];rw[qd m a d]
  ·rw[c];simp only[cG,fE];rw[qd m a d,qd m b j]
theorem Ek{N:Nat}{e:aD}{m:Nat}{x:Ty}(h:dJ N m x):∀k,qe e (m+k) x=qe e m x
 |0=>rfl
 |k+1=>by rw[<-rX,qd (m+k) x (h.le (by omega)),Ek h k]
theorem Lf{N a:Nat}{w:aD}{e:Nat}{x:Ty}(h:dJ N m x)(b:dJ a e x):qe w m x=qe w e x:=by rw[<-Ek h e,<-Ek b m,qT]
def kj(s:aA):Option Et:=
 match iK (dU fN (B s)) (s.length+2) [] ⟨0,-1⟩with
 |none=>none
 |some (x,h,e)=>if(decide ((cL (dU fN (B s)) e eE).bad<0)&&U3 h.length 60 x&&decide (cC 60 x<=120))=true then some (qe h 60 x)else none
theorem Rq{s:aA}{t:Et}(y:s.length<=300)(h:kj s=some t)(w:World)(c:aF)(d:aE)(j:aG)(S:SW w c d j):
  Calls prog 79 #[.string (B s)] w λe b=>w.grownBy b none/\∃u H,e= .returned (.tuple #[u, .nilIface])/\Fz H b/\ER H [] u t:=by
 have p:(B s).size=s.length:=dY s;obtain⟨x,r,v,i,o⟩:=Cx (B s);unfold kj at h;rw[<-p,i]at h;simp only at h;split at h
 ·rename_i f;cases h;simp only[cY,cX]at f;obtain⟨⟨k,l⟩,n⟩:=f;have ok:=IF _ 60 x l;refine(jn (B s) x r w c d j S ⟨by omega,v,i,o,k,λN m a=>by rw[(VW a ok).1];exact n⟩).mono ?_;rintro e b ⟨g,u,H,m,rfl,z,q,a,_⟩;refine⟨g,u,H,rfl,z,m, ?_⟩;rw[<-Lf a ok];exact gG.et m u x q
 ·cases h
def zi(H h:aB)(k:Nat):Option Obj:=match H k with
 |some o=>some o
 |none=>h k
theorem qf{H h:aB}:∀k o,H k=some o->zi H h k=some o:=λk o e=>by unfold zi;rw[e]
theorem qg{H h:aB}{w:World}(b:Fz H w)(c:Fz h w):∀k o,h k=some o->zi H h k=some o:=λk o e=>by
 unfold zi
 cases x:H k with
 |none=>exact e
 |some d=>have a:=b k d x;rw[c k o e]at a;exact a.symm
theorem WS{H x:aB}{w:World}(a:Fz H w)(b:Fz x w):Fz (zi H x) w:=λk o e=>by
 unfold zi at e
 cases h:H k with
 |none=>rw[h]at e;exact b k o e
 |some c=>rw[h]at e;cases e;exact a k _ h
theorem ER.ext{H w:aB}{v:Value}{t:Et}(h:ER H ca v t)(e:∀k o,H k=some o->w k=some o):ER w ca v t:=by obtain⟨m,h⟩:=h;exact⟨m,fP.ext (aV _) e (dD _) m v t h⟩
theorem NS.ext{H x:aB}{f:Nat}{d:lQE}(h:NS H w f d)(e:∀k o,H k=some o->x k=some o):NS x w f d:=by obtain⟨g,i,j⟩:=h;exact⟨g,i,λl=>(j l).imp id (λ⟨v,t,a,b,c⟩=>⟨v,t,a,b,c.ext e⟩)⟩
def wo(H:aB)(h:Nat)(k:Nat):Option Obj:=if k=h then none else H k
theorem Vb{H:aB}{q:aC}{p:Nat}(s:∀g T z,H p≠some (.cells g T z)):∀(m:Nat) (v:Value) (t:Et),fP 0 H q m v t->fP 0 (wo H p) q m v t:=by
 have n:∀k g T z,H k=some (.cells g T z)->wo H p k=some (.cells g T z):=λk g T z e=>by unfold wo;rw[aN (λr=>s g T z (by rw[<-r];exact e))];exact e
 intro m
 induction m with
 |zero=>exactλ_ _ h=>h
 |succ m o=>
  intro v t h;obtain⟨b,h⟩:=h;refine⟨b, ?_⟩;rcases h with h|⟨w,x,c,d,f,j⟩|⟨w,x,c,d⟩|⟨w,l,a,u,x,c,d,f⟩|⟨w,l,a,i,u,z,x,c,d,f,j⟩|⟨w,l,a,i,u,z,x,c,d,f,j⟩
  ·exact aQ h
  ·exact aM (aQ ⟨w,x,c,d,f,n _ _ _ _ j⟩)
  ·exact aM (aM (aQ ⟨w,x,c,n _ _ _ _ d⟩))
  ·exact aM (aM (aM (aQ ⟨w,l,a,u,x,c,n _ _ _ _ d,o u a f⟩)))
  ·exact aM (aM (aM (aM (aQ ⟨w,l,a,i,u,z,x,c,n _ _ _ _ d,o u a f,o z i j⟩))))
  ·exact aM (aM (aM (aM (aM ⟨w,l,a,i,u,z,x,c,n _ _ _ _ d,o u a f,o z i j⟩))))
structure Iu(ge:lQE)(K:aD)(mb:Nat)(w3:World)(j:Nat)(wi:World)(gv:List (aA×Value))(H:aB):Prop where
 gm:GM kS (λv=> .agg #[v]) 9 wi mb gv
 len:gv.length<=j
 yes:∀nm,nm∈K.take j->∃v t,dR gv nm=some v/\dR ge nm=some t/\ER H [] v t
 no:∀nm,nm∉K.take j->dR gv nm=none
 fz:Fz H wi
 off:H mb=none
 gb:Gb (λk=>k=mb) w3 wi
theorem Iu.start{a:lQE}{K:aD}{x:Nat}{w:World}(h:GM kS (λv=> .agg #[v]) 9 w x ([]:List (aA×Value))):Iu a K x w 0 w [] (λ_=>none):=
 ⟨h,aV _,(λb h=>by cases h),(λb _=>rfl),(λk o e=>by cases e),rfl,Gb.refl _ _⟩
theorem Iu.grown{e:lQE}{K:aD}{x j:Nat}{b c a:World}{w:List (aA×Value)}{H:aB}(h:Iu e K x b j c w H)(g:c.grownBy a none):Iu e K x b j a w H:=
 ⟨h.gm.gb (R:=λ_=>False) (Gb.new g) id,h.len,h.yes,h.no,h.fz.grown g,h.off,h.gb.tr (Gb.new g)⟩
theorem Iu.next{p:lQE}{K:aD}{w j:Nat}{C l r:World}{q:List (aA×Value)}{H x:aB}{t:Et}{k:aA}(h:Iu p K w C j l q H)(D:Fz x l)(n:ER x [] u t)(y:K[j]? =some k)(I:dR p k=some t)(J:GM kS (λv=> .agg #[v]) 9 r w (sI q k u))(g:l.grownBy r (some w)):
  Iu p K w C (j+1) r (sI q k u) (zi H (wo x w)):=by
 obtain⟨Q,P,M⟩:=h.gm.isMap;have L:∀s T z,x w≠some (.cells s T z):=λs T z e=>by have:=D _ _ e;rw[M]at this;cases this
 have E:Fz (wo x w) l:=λk o e=>by
  unfold wo at e;split at e
  ·cases e
  ·exact D k o e
 have F:=WS h.fz E;have A:zi H (wo x w) w=none:=by unfold zi wo;rw[h.off];simp
 refine⟨J, ?_,λi f=> ?_,λi f=> ?_,λk o e=> ?_,A,h.gb.tr (Gb.of g (λb e=>aQ (by cases e;rfl)))⟩
 ·rw[OX];have:=h.len;split<;>omega
 ·rw[lY];by_cases e:k=i
  ·rw[aR e];obtain⟨m,n⟩:=n;exact⟨u,t,rfl,by rw[<-e];exact I,ER.ext ⟨m,Vb L m u t n⟩ (qg h.fz E)⟩
  ·rw[aN e]
   have N:i∈K.take j:=by
    rw[iI,y]at f;rcases cH.1 f with d|d
    ·exact d
    ·simp at d;exact absurd d.symm e
   obtain⟨v,O,a,b,c⟩:=h.yes i N;exact⟨v,O,a,b,c.ext qf⟩
 ·rw[lY];rw[iI,y]at f;rw[aN (λe=>f (cH.2 (aM (by simp[e]))))];exact h.no i (λd=>f (cH.2 (aQ d)))
 ·rw[g.block k (aT (F k o e)) (λG=>by cases G;rw[A]at e;cases e)];exact F k o e
def aj(h:aD)(g:aK)(x:lQE):Prop:=
 (∀k,k∈h->k.length<=300/\(∀W,Calls prog 123 #[.string (B k)] W λe a=>e= .returned (.bool true)/\W.grownBy a none)/\∃i w t,i<h.length/\h.getD i []=k/\g.getD i none=some w/\w.length<=300/\kj w=some t/\dR x k=some t)/\∀k,k∉h->dR x k=none
theorem UH(h:aD)(k:aA):k∈mX h↔k∈h:=by unfold mX;exact(List.mergeSort_perm ..).mem_iff
theorem EW(h:aD)(g:aK)(z:lQE)(w:World)(x:Nat)(F:FM w x h g)(hd:h.Nodup)(h1:∀v,v<h.length->(g.getD v none).isSome=true)(e4:g.length=h.length)(hL:h.length<=1000)(o:aj h g z)
  (e8:(Instr.makeMap 169 (some (.int .i64 ((g.filter Option.isSome).length:Nat)))).run prog w= .ok (.map (some w.heap.size)) (w.alloc (.map #[] 0))) (U:aF) (V:aE) (ts:aG) (S:SW w U V ts):
  Calls prog 91 #[.map (some x)] w λe I=>w.grownBy I none/\∃b H,e= .returned (.tuple #[.map (some b), .nilIface])/\Fz H I/\NS H I b z:=by
 have e7:=FM.len F;generalize (g.filter Option.isSome).length=nl at e7 e8;have c:=aS (LU (w.alloc (.map #[] 0)) x h g (F.kept (aO _ _ none) (by simp)) hd h1 (by omega));rw[show(w.alloc (.map #[] 0)).heap.size=w.heap.size+1 by simp]at c;have w8:=F.lt;have h0:(mX h).length=h.length:=by unfold mX;rw[MI]
 have O:=aS (λ(k:aA) (D:k∈mX h)=>o.1 k ((UH h k).1 D));have M:=aS (λ(k:aA) (D:k∉mX h)=>o.2 k (λe=>D ((UH h k).2 e)));have J:=aS (aL F S);clear F hd h1 o S;obtain⟨K,hK⟩:∃K,K=mX h:=⟨_,rfl⟩;rw[<-hK]at h0 c O M;clear hK;go_enter func91,ntmps91;go_wp2_with fail;refine(Db (some x) _).mono ?_;rintro e w2 ⟨rfl,rfl⟩;go_wp2_with fail;refine c.mono ?_;rintro e w3 ⟨vs,rfl,e0,f⟩;obtain⟨ao,cp,rfl,e2⟩:=sJ e0;have a:=aS (aL (((aO w (.map #[] 0) none).trans (aO _ _ none)).trans f) (aL e2 (GM.gb (R:=λ_=>False) (GM.new (kl:=kS) (ev:=λv:Value=> .agg #[v]) (k:=9) (w:=w)) (Gb.new ((aO _ _ none).trans f)) id)));have w9:w.heap.size<w3.heap.size:=by have:=f.size;simp at this;omega
 clear f c e0 e2;have e9:K.length<=1000:=by omega
 have h2:((w.alloc (.map #[] 0)).alloc (.cells #[.map (some x)] 93)).heap.size=w.heap.size+2:=by simp
 rw[h2]at a;clear h0 e4 hL h2;go_wp2_with fail
 go_loopg [16] (K.length+1) (λgh i wi=>∃(j:Nat),j<=K.length/\i= .int .i64 j/\gh=K.length-j+1/\Hid (∃l H,Iu z K w.heap.size w3 j wi l H))
 case atStart=>exact⟨0,by omega,rfl,by omega,aS ⟨_,_,Iu.start a.2.2⟩⟩
 case round=>
  obtain⟨j,hj,rfl,w7,p⟩:=hrel;by_cases h8:j<K.length
  ·obtain⟨l,H,s⟩:=p.out;obtain⟨gn,rfl,w0,e5,h3⟩:=a.2.1 j h8;have w1:=s.gb.cell h3 e5 (by omega);have E:K[j]? =some (K.getD j []):=by rw[aW,aP h8];rfl
   obtain⟨A,P,i,tx,t,hi,C,h7,e1,h4,h5⟩:=O.out _ (cK E);have Z:w.grownBy wr none:=((Gb.new (R:=λk=>w.heap.size<=k) a.1).tr (s.gb.mono (λk e=>by omega))).none;have L:=aS P
   have T:=aS (show∀W:World,w.grownBy W none->(Instr.lookup 93 (.map (some x)) (.string (B (K.getD j []))) false).run prog W= .ok (.agg #[.string (B tx)]) W fromλW y=>by
    have:=(J.1.kept y (by simp)).look1 hi (by rw[C];exact A) h7;rw[C]at this
    exact this)
   have RD:=aS (λ(W:World) (y:w.grownBy W none)=>Rq e1 h4 W U V ts (J.2.grown y));have Q:=aS (aL s (aL Z (aL E (aL A h5))));clear s Z h3 P hi C h7 e1 h4 h5 E A p;generalize K.getD j []=k at*;go_wp2_with fail;refine(L.out _).mono ?_;rintro e w4 ⟨rfl,r⟩;have d:=aS (aL r (Q.2.1.trans r));have lk:=T.out _ d.2;have tf:=LV (B tx);clear r T L;go_wp2_with fail;refine(RD.out _ d.2).mono ?_;rintro e w5 ⟨X,u,H2,rfl,z2,q⟩;have n:=(Q.1.grown d.1).grown X;obtain⟨w6,x0,h6,Y⟩:=GM.store n.gm P0 underlying169 Av Aw (by have:=n.len;omega) u (P6 Q.2.2.2.1);have N:=aS (n.next z2 q Q.2.2.1 Q.2.2.2.2 h6 Y);obtain⟨T0,b0,_,rfl⟩:=oE q;clear X z2 q n h6 Y RD d Q lk;go_wp2
   go_roundg (K.length-(j+1)+1)
   case measure=>omega
   case rel=>exact⟨j+1,by omega,by go_num,rfl,aS ⟨_,_,N.out⟩⟩
  ·have e6:j=K.length:=by omega
   subst e6;go_wp2
   go_ret2
   obtain⟨l,H,s⟩:=p.out;refine⟨((Gb.new (R:=λk=>w.heap.size<=k) a.1).tr (s.gb.mono (λk e=>by omega))).none,_,H,rfl,s.fz,l,s.gm,λm=> ?_⟩;have e3:=s.yes m;have h9:=s.no m;rw[kK]at e3 h9;by_cases G:m∈K
   ·exact aM (e3 G)
   ·exact aQ ⟨h9 G,M.out m G⟩
def JC(s:aA):Option Ex:=
 match fC (dU dL (B s)) (s.length+2) ⟨0,-1⟩with
 |none=>none
 |some (x,h)=>if(decide ((cL (dU dL (B s)) h eE).bad<0)&&yO 60 x&&decide (cA 60 x<=40))=true then some x else none
theorem km{s:aA}{x:Ex}(C:s.length<=300)(h:JC s=some x)(w:World)(b:aF)(l:aE)(p:aG)(S:SW w b l p):
  Calls prog 67 #[.string (B s)] w λe a=>w.grownBy a none/\∃v H m,e= .returned (.tuple #[v, .nilIface])/\Fz H a/\dI m H v x:=by
 have n:(B s).size=s.length:=dY s;obtain⟨D,o,f,A⟩:=B5 (B s) (by omega);unfold JC at h;rw[<-n,f]at h;simp only at h;split at h
 ·rename_i c;cases h;simp only[cY,cX]at c;obtain⟨⟨r,k⟩,t⟩:=c;refine(jd (B s) (by omega) w _ x o f (b 1) S.g1 (aZ (by decide) S.hsz)).mono ?_;rintro e a ⟨g,(⟨z,_⟩|⟨_,v,j,m,q,i,u,d⟩)⟩
  ·omega
  ·have y:=(lZ (dI.shape m v x i) (BX 60 x k)).2;rcases d with⟨d,_⟩|⟨_,rfl⟩
   ·omega
   ·exact⟨g,v,j,m,rfl,q,i⟩
 ·cases h
theorem El(a:Addr)(w:World):(binOp .eql 186 (.pointer (some a)) (.pointer none)).run prog w= .ok (.bool false) w:=by kernel_rfl
def AKP(r:UR)(w:World)(e:Ending)(h:World):Prop:=w.grownBy h none/\match r with
 |none=>e= .returned .nilIface
 |some y=>∃b,e= .returned (.iface 135 (.pointer (some ⟨b,0,none⟩)))/\h.heap[b]? =some (.cells #[.int .i64 (y.2:Int), .string (B y.1)] 148 (0,0))/\w.heap.size<=b
theorem F4{H:aB}{d m f:Nat}{c:lQE}{v:Value}{e:Ex}{r:UR}{w:World}(u:ZZ H d c (pQ c f))(l:dI m H v e)(D:pQ c f e []=some r)(C:∀y,r=some y->y.1.length<=300)(n:Fz H w)(A:NS H w d c):
  Calls prog 92 #[v, .map (some d)] w (AKP r w):=by
 have R:∀(s:Fn) (first q:Array Value) (w:World),(Instr.makeFunc s first q).run prog w= .ok (.func s first q) w:=λ_ _ _ _=>rfl;have S:=Kx;have T:=El;have h:w.grownBy (w.alloc (.cells #[.map (some d)] 169)) none:=aO _ _ _;obtain⟨K,L,rfl⟩:=l.val;have g:=aS (u e _ m [] (.func (.func 125) #[] #[.pointer (some ⟨w.heap.size,0,none⟩)]) r _ l D (n.grown h) (A.grown h) ⟨_,rfl,bY _ _⟩);have G:=aS (aL h n);clear u l D n A h;go_enter func92,ntmps92;go_wp2_with fail;refine g.mono ?_;rintro e U ⟨x,rfl,o,h⟩
 cases r with
 |none=>have J:x=none:=o;subst J;have i:=aS (G.1.trans h);clear h g o;go_wp2;go_ret;exact⟨i.out,rfl⟩
 |some y=>
  obtain⟨b,P,rfl,z⟩:=o;have a:=(G.2.grown (G.1.trans h)) _ _ z;have M:=cU a 1 rfl;have N:=cU a 2 rfl;have F:=aT a;have i:=aS (G.1.trans h);have I:(B y.1).size<=281474976710656:=by rw[dY];have:=C y rfl;omega
  clear h g z C;have E:=aS a;clear a;go_wp2_with fail
  go_region_with (go_at_call 68;refine(pg _ _ I).mono ?_;rintro e V ⟨rfl,t⟩;have j:=fT t;have k:=(j.block b F (by simp)).trans E.out;have O:=cU k 2 rfl;have Q:=aT k;have p:=aS (i.trans j);clear j t k)
  all_goals go_wp2
  all_goals go_ret
  all_goals exact⟨p.trans (aO _ _ _),_,rfl,bY _ _,p.size⟩
def fU:List aA:=[[116,114,117,101],[110,105,108],[99,111,110,115],[102,115,116],[115,110,100],[97,100,100],[101,113],[104,100],[116,108],[101,109,112,116,121]]
def qW:List aA:=[[98,111,111,108],[91,97,93],[97,32,45,62,32,91,97,93,32,45,62,32,91,97,93],[40,97,44,32,98,41,32,45,62,32,97],[40,97,44,32,98,41,32,45,62,32,98],[105,110,116,32,45,62,32,105,110,116,32,45,62,32,105,110,116],[97,32,45,62,32,97,32,45,62,32,98,111,111,108],[91,97,93,32,45,62,32,97],[91,97,93,32,45,62,32,91,97,93],[91,120,93,32,45,62,32,98,111,111,108]]
def fK:List (aA×Et):=[([116,114,117,101],⟨[98,111,111,108],[],0,[]⟩),
 ([110,105,108],⟨[108,105,115,116],[],0,[⟨[],[97],0,[]⟩]⟩),
 ([99,111,110,115],⟨[102,117,110],[],0,[⟨[],[97],0,[]⟩,⟨[102,117,110],[],0,[⟨[108,105,115,116],[],0,[⟨[],[97],0,[]⟩]⟩,⟨[108,105,115,116],[],0,[⟨[],[97],0,[]⟩]⟩]⟩]⟩),
 ([102,115,116],⟨[102,117,110],[],0,[⟨[112,97,105,114],[],0,[⟨[],[97],0,[]⟩,⟨[],[98],0,[]⟩]⟩,⟨[],[97],0,[]⟩]⟩),
 ([115,110,100],⟨[102,117,110],[],0,[⟨[112,97,105,114],[],0,[⟨[],[97],0,[]⟩,⟨[],[98],0,[]⟩]⟩,⟨[],[98],0,[]⟩]⟩),
 ([97,100,100],⟨[102,117,110],[],0,[⟨[105,110,116],[],0,[]⟩,⟨[102,117,110],[],0,[⟨[105,110,116],[],0,[]⟩,⟨[105,110,116],[],0,[]⟩]⟩]⟩),
 ([101,113],⟨[102,117,110],[],0,[⟨[],[97],0,[]⟩,⟨[102,117,110],[],0,[⟨[],[97],0,[]⟩,⟨[98,111,111,108],[],0,[]⟩]⟩]⟩),
 ([104,100],⟨[102,117,110],[],0,[⟨[108,105,115,116],[],0,[⟨[],[97],0,[]⟩]⟩,⟨[],[97],0,[]⟩]⟩),
 ([116,108],⟨[102,117,110],[],0,[⟨[108,105,115,116],[],0,[⟨[],[97],0,[]⟩]⟩,⟨[108,105,115,116],[],0,[⟨[],[97],0,[]⟩]⟩]⟩),
 ([101,109,112,116,121],⟨[102,117,110],[],0,[⟨[108,105,115,116],[],0,[⟨[],[120],0,[]⟩]⟩,⟨[98,111,111,108],[],0,[]⟩]⟩)]
theorem eK0:kj (qW.getD 0 [])=some (fK.getD 0 ([],vT [])).2:=by kernel_rfl
theorem eL0:dR fK (fU.getD 0 [])=some (fK.getD 0 ([],vT [])).2:=by kernel_rfl
theorem eN0:upto mS (fU.getD 0 []) 0=0/\mD (fU.getD 0 []) 0=2/\kQ (fU.getD 0 []) 0=fU.getD 0 []/\decide (fU.getD 0 []∈dL)=false:=⟨by kernel_rfl,by kernel_rfl,by kernel_rfl,by kernel_rfl⟩
theorem eK1:kj (qW.getD 1 [])=some (fK.getD 1 ([],vT [])).2:=by kernel_rfl
theorem eL1:dR fK (fU.getD 1 [])=some (fK.getD 1 ([],vT [])).2:=by kernel_rfl
theorem eN1:upto mS (fU.getD 1 []) 0=0/\mD (fU.getD 1 []) 0=2/\kQ (fU.getD 1 []) 0=fU.getD 1 []/\decide (fU.getD 1 []∈dL)=false:=⟨by kernel_rfl,by kernel_rfl,by kernel_rfl,by kernel_rfl⟩
theorem eK2:kj (qW.getD 2 [])=some (fK.getD 2 ([],vT [])).2:=by kernel_rfl
theorem eL2:dR fK (fU.getD 2 [])=some (fK.getD 2 ([],vT [])).2:=by kernel_rfl
theorem eN2:upto mS (fU.getD 2 []) 0=0/\mD (fU.getD 2 []) 0=2/\kQ (fU.getD 2 []) 0=fU.getD 2 []/\decide (fU.getD 2 []∈dL)=false:=⟨by kernel_rfl,by kernel_rfl,by kernel_rfl,by kernel_rfl⟩
theorem eK3:kj (qW.getD 3 [])=some (fK.getD 3 ([],vT [])).2:=by kernel_rfl
theorem eL3:dR fK (fU.getD 3 [])=some (fK.getD 3 ([],vT [])).2:=by kernel_rfl
theorem eN3:upto mS (fU.getD 3 []) 0=0/\mD (fU.getD 3 []) 0=2/\kQ (fU.getD 3 []) 0=fU.getD 3 []/\decide (fU.getD 3 []∈dL)=false:=⟨by kernel_rfl,by kernel_rfl,by kernel_rfl,by kernel_rfl⟩
theorem eK4:kj (qW.getD 4 [])=some (fK.getD 4 ([],vT [])).2:=by kernel_rfl
theorem eL4:dR fK (fU.getD 4 [])=some (fK.getD 4 ([],vT [])).2:=by kernel_rfl
theorem eN4:upto mS (fU.getD 4 []) 0=0/\mD (fU.getD 4 []) 0=2/\kQ (fU.getD 4 []) 0=fU.getD 4 []/\decide (fU.getD 4 []∈dL)=false:=⟨by kernel_rfl,by kernel_rfl,by kernel_rfl,by kernel_rfl⟩
theorem eK5:kj (qW.getD 5 [])=some (fK.getD 5 ([],vT [])).2:=by kernel_rfl
theorem eL5:dR fK (fU.getD 5 [])=some (fK.getD 5 ([],vT [])).2:=by kernel_rfl
theorem eN5:upto mS (fU.getD 5 []) 0=0/\mD (fU.getD 5 []) 0=2/\kQ (fU.getD 5 []) 0=fU.getD 5 []/\decide (fU.getD 5 []∈dL)=false:=⟨by kernel_rfl,by kernel_rfl,by kernel_rfl,by kernel_rfl⟩
theorem eK6:kj (qW.getD 6 [])=some (fK.getD 6 ([],vT [])).2:=by kernel_rfl
theorem eL6:dR fK (fU.getD 6 [])=some (fK.getD 6 ([],vT [])).2:=by kernel_rfl
theorem eN6:upto mS (fU.getD 6 []) 0=0/\mD (fU.getD 6 []) 0=2/\kQ (fU.getD 6 []) 0=fU.getD 6 []/\decide (fU.getD 6 []∈dL)=false:=⟨by kernel_rfl,by kernel_rfl,by kernel_rfl,by kernel_rfl⟩
theorem eK7:kj (qW.getD 7 [])=some (fK.getD 7 ([],vT [])).2:=by kernel_rfl
theorem eL7:dR fK (fU.getD 7 [])=some (fK.getD 7 ([],vT [])).2:=by kernel_rfl
theorem eN7:upto mS (fU.getD 7 []) 0=0/\mD (fU.getD 7 []) 0=2/\kQ (fU.getD 7 []) 0=fU.getD 7 []/\decide (fU.getD 7 []∈dL)=false:=⟨by kernel_rfl,by kernel_rfl,by kernel_rfl,by kernel_rfl⟩
theorem eK8:kj (qW.getD 8 [])=some (fK.getD 8 ([],vT [])).2:=by kernel_rfl
theorem eL8:dR fK (fU.getD 8 [])=some (fK.getD 8 ([],vT [])).2:=by kernel_rfl
theorem eN8:upto mS (fU.getD 8 []) 0=0/\mD (fU.getD 8 []) 0=2/\kQ (fU.getD 8 []) 0=fU.getD 8 []/\decide (fU.getD 8 []∈dL)=false:=⟨by kernel_rfl,by kernel_rfl,by kernel_rfl,by kernel_rfl⟩
theorem eK9:kj (qW.getD 9 [])=some (fK.getD 9 ([],vT [])).2:=by kernel_rfl
theorem eL9:dR fK (fU.getD 9 [])=some (fK.getD 9 ([],vT [])).2:=by kernel_rfl
theorem eN9:upto mS (fU.getD 9 []) 0=0/\mD (fU.getD 9 []) 0=2/\kQ (fU.getD 9 []) 0=fU.getD 9 []/\decide (fU.getD 9 []∈dL)=false:=⟨by kernel_rfl,by kernel_rfl,by kernel_rfl,by kernel_rfl⟩
theorem ten{p:Nat->Prop}(i:Nat)(j:i<10)(h:p 0)(e:p 1)(w:p 2)(x:p 3)(a:p 4)(b:p 5)(c:p 6)(d:p 7)(f:p 8)(g:p 9):p i:=by
 have:i=0\/i=1\/i=2\/i=3\/i=4\/i=5\/i=6\/i=7\/i=8\/i=9:=by omega
 rcases this with rfl|rfl|rfl|rfl|rfl|rfl|rfl|rfl|rfl|rfl<;>assumption
theorem Xz(i:Nat)(h:i<10):kj (qW.getD i [])=some (fK.getD i ([],vT [])).2:=ten (p:=λi=>kj (qW.getD i [])=some (fK.getD i ([],vT [])).2) i h eK0 eK1 eK2 eK3 eK4 eK5 eK6 eK7 eK8 eK9
theorem Ya(i:Nat)(h:i<10):dR fK (fU.getD i [])=some (fK.getD i ([],vT [])).2:=ten (p:=λi=>dR fK (fU.getD i [])=some (fK.getD i ([],vT [])).2) i h eL0 eL1 eL2 eL3 eL4 eL5 eL6 eL7 eL8 eL9
theorem Yb(i:Nat)(h:i<10):upto mS (fU.getD i []) 0=0/\mD (fU.getD i []) 0=2/\kQ (fU.getD i []) 0=fU.getD i []/\decide (fU.getD i []∈dL)=false:=ten (p:=λi=>upto mS (fU.getD i []) 0=0/\mD (fU.getD i []) 0=2/\kQ (fU.getD i []) 0=fU.getD i []/\decide (fU.getD i []∈dL)=false) i h eN0 eN1 eN2 eN3 eN4 eN5 eN6 eN7 eN8 eN9
theorem NT(i:Nat)(h:i<10):(fU.getD i []).length<=300:=ten (p:=λi=>(fU.getD i []).length<=300) i h (by decide) (by decide) (by decide) (by decide) (by decide) (by decide) (by decide) (by decide) (by decide) (by decide)
theorem WT(i:Nat)(h:i<10):(qW.getD i []).length<=300:=ten (p:=λi=>(qW.getD i []).length<=300) i h (by decide) (by decide) (by decide) (by decide) (by decide) (by decide) (by decide) (by decide) (by decide) (by decide)
theorem UI(i:Nat)(h:i<10):(qW.map some).getD i none=some (qW.getD i []):=ten (p:=λi=>(qW.map some).getD i none=some (qW.getD i [])) i h rfl rfl rfl rfl rfl rfl rfl rfl rfl rfl
theorem Em:fK.map (·.1)=fU:=by kernel_rfl
theorem xP:fU.Nodup:=by decide
theorem ko:aj fU (qW.map some) fK:=by
 refine⟨λk b=> ?_,λk b=> ?_⟩
 ·obtain⟨i,a,e⟩:=jM.1 b;have w:i<10:=a;have c:fU.getD i []=k:=by rw[aW,aP a,e];rfl
  have x:=Yb i w;rw[<-c];refine⟨NT i w,λW=> ?_,i,qW.getD i [],(fK.getD i ([],vT [])).2,a,rfl,UI i w,WT i w,Xz i w,Ya i w⟩;have h:=Ky (fU.getD i []) (NT i w) x.1 x.2.1 x.2.2.1 W;rw[x.2.2.2]at h;exact h
 ·rw[rK,Em];exact b
theorem QY(w:World):(Instr.makeMap 169 (some (.int .i64 10))).run prog w= .ok (.map (some w.heap.size)) (w.alloc (.map #[] 0)):=by kernel_rfl
theorem EU.ten{l:aD}{t:TypeId}(h:w.heap[b]? =some (.cells (l.map λx=>Value.string (B x)).toArray t (0,0))):EU w (.slice (some ⟨b,0,none⟩) l.length l.length) l:=
 ⟨_,_,rfl,λj e=>⟨b,rfl,aT h,cU h j (by simp[e])⟩⟩
theorem Lg(w:World):Calls prog 65 #[] w λe h=>e= .returned (.slice (some ⟨w.heap.size,0,none⟩) 10 10)/\h=w.alloc (.cells (fU.map λx=>Value.string (B x)).toArray 9):=by go_enter func65,ntmps65;go_wp2;go_ret;exact⟨rfl,rfl⟩
theorem Lh(w:World):Calls prog 66 #[] w λe h=>e= .returned (.slice (some ⟨w.heap.size,0,none⟩) 10 10)/\h=w.alloc (.cells (qW.map λx=>Value.string (B x)).toArray 9):=by go_enter func66,ntmps66;go_wp2;go_ret;exact⟨rfl,rfl⟩
end Go.Proofs.YtcdijppegfcoaaaGreatDoor
