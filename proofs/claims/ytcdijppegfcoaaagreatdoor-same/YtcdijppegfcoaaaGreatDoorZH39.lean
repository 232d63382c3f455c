import Derived.Test.YtcdijppegfcoaaaGreatDoorZH36
import Derived.Test.YtcdijppegfcoaaaGreatDoorZH34
set_option maxRecDepth 100000
set_option maxHeartbeats 4000000
set_option linter.unusedSimpArgs false
namespace Go.Proofs.YtcdijppegfcoaaaGreatDoor
open Go.RowKit Tryz
variable{C:TC}{H:Nat->Option Obj}{ca:List Nat}{σ σ1:bM}{d:Nat->Nat}{nb:List (aA×Et)}{nv u1 u2 dep:Value}{vs:List NE}{w:World}{ad:Nat->Addr}{P:Ex->List (aA×Et)->bM->Option (Sum Nat (bM×Nat))}{e1:Ex}{p:aA}{b m:Nat}
theorem kD.more{b:aB}{i:aI}{c:World}(h:kD C H ca σ d nb nv vs w)(g:Gb (dT ca) w c)(f:fY H ca σ i c)(p:Fz b c)(l:∀k o,H k=some o->b k=some o)(n:∀k o,b k=some o->H k=some o\/w.heap.size<=k):
  kD C b ca σ i nb nv vs c/\MX H b ca ca w:=by
 have x:MX H b ca ca w:=⟨l,n,dD _,λ_ h=>aQ h⟩;have m:∀a,a∈ca->b a=none:=λa j=>x.none (dT.lt h.ms.cs j) (h.ms.cs.off a j);exact⟨h.step ⟨f.more l p m,(h.cs f g).ms.bk,x.none h.ms.bk.lt h.ms.ht,h.ms.hta⟩ x (g.mono λk e=>aM e),x⟩
theorem Ed{c:aB}{h:aC}{d:aI}{j:Value}{l:List NE}{x a b:World}{t1:kD C c h σ1 d nb j l x}(f:Gb C.own w x)(g:Gb (dT h) x.drew a)(i:Gb (dT h) a b):Gb C.own w b:=
 (f.tr (g.drewL.mono λk e=>t1.clo k e)).tr (i.mono λk e=>t1.clo k e)
theorem qc{H:aB}{x:aC}{p:aA}{t:Et}{e w:Nat}(c:ER H x (.iface e (.pointer (some ⟨w,0,none⟩))) t):∀(i:Nat) (h:NE) q,([((p,e,w):aA×TypeId×Nat)]:List NE)[i]? =some h->[(p,t)][i]? =some q->h.1=q.1/\ER H x h.v q.2:=λi h q a b=>by
 cases i with
 |zero=>cases a;cases b;exact⟨rfl,c⟩
 |succ i=>cases a
theorem Rk(f:ET C ad P){q:Nat}
  (g:H b=some (.cells #[dep, .string (B p),u1,u2] 205 (0,0))) (x:dI m H u1 e1) (k:P e1 nb σ=some (.inl q)) (h:kD C H ca σ d nb nv vs w) (j:rP C.base ad w):
  Calls prog 207 #[CP C.tb, .pointer (some ⟨b,0,none⟩)] w (zE C ad H ca (.inl q) nb w):=by
 obtain⟨n,o,rfl⟩:=x.val;have a:=aS (f e1 _ m σ nb _ H ca d nv vs w x k h j);have i:=h.ms.cs.fz _ _ g;have r:=cU i 2 rfl;clear f g x h i j k;unfold CP at*;go_enter func207,ntmps207;go_wp2_with fail;refine a.mono ?_;rintro e s ⟨rfl,c⟩;have l:=aS c;clear c a;unfold oF eQ;go_wp2;exact⟨rfl,rfl,l.out⟩
theorem Rl(u:ET C ad P){T:Ex}{O:Nat}{L:aC}{t:Et}{h2:bM}{R:Nat}
  (v:H b=some (.cells #[dep, .string (B p),u1,u2] 205 (0,0))) (A:dI m H u1 e1) (D:dI m H u2 T) (i1:P e1 nb σ=some (.inr (σ1,O))) (i2:mV σ1 nb=some L) (i3:cI σ1 L 130 O=some t) (Y:nb.length+1<=1000) (i4:P T (nb++[(p,t)]) σ1=some (.inr (h2,R))) (h:kD C H ca σ d nb nv vs w) (z:rP C.base ad w):
  Calls prog 207 #[CP C.tb, .pointer (some ⟨b,0,none⟩)] w (zE C ad H ca (.inr (h2,R)) nb w):=by
 obtain⟨T1,b1,rfl⟩:=A.val;obtain⟨T2,b2,rfl⟩:=D.val;have G:=aS (u e1 _ m σ nb _ H ca d nv vs w A i1 h z);have X:=h.ms.cs.fz _ _ v;have k2:=cU X 2 rfl;have Q:=aS (aL v (aL D (aL z (aL u Y))));have I2:=aS i2;have I3:=aS i3;have I4:=aS i4;clear u v A D h X z i1 i2 i3 i4 Y;unfold CP at*;go_enter func207,ntmps207;go_wp2_with fail;refine G.mono ?_;rintro e w1 ⟨H1,h3,d1,x1,e4,e5,rfl,U,t1,E,V⟩;have y:=E.ext _ _ Q.1;have i:=t1.ms.cs.fz _ _ y;have k1:=cU i 1 rfl;have k3:=cU i 3 rfl;have h4:=aT i;have CR:=aS (KG t1.drew I2.out);have x:=aS (aL y (aL U (aL t1 (aL E V))));clear k2 y i U t1 E V G;unfold CP at*;go_wp2_with fail
 go_region_with (first
  |(go_at_call 235;refine CR.mono ?_;rintro e w2 ⟨mb,rfl,Z,r2,c,q⟩;have f:=c.ms.cs.fz _ _ x.1;have h7:=cU f 1 rfl;have e0:=cU f 3 rfl;have h5:=aT f;have I:=aS (CX (lo:=0) x.2.1 I3.out c.ms.cs ⟨aM ⟨mb,rfl,Z,r2⟩,(Q.2.2.1.gb (x.2.2.2.2.tr (q.drewL.mono λk e=>x.2.2.1.clo k e))).tabW c.clo,dG _⟩);have o:=aS (aL c q);clear f Z r2 c q;unfold CP at I)
  |(go_at_call 127;refine I.mono ?_;rintro e l ⟨r,S,v3,H3,rfl,z3,h0,h1,a⟩;have a:=a.er;obtain⟨M,N,_,rfl⟩:=oE a;obtain⟨F,j⟩:=o.1.more r S z3 h0 h1;have g:=F.ms.cs.fz _ _ (j.ext _ _ x.1);have h8:=cU g 1 rfl;have e3:=cU g 3 rfl;have h6:=aT g;have K:=aS (Ed (t1:=x.2.2.1) x.2.2.2.2 o.2 r);have s:l.grownBy (l.alloc (.cells #[.string (B p), .iface M (.pointer (some ⟨N,0,none⟩))] 403)) none:=aO _ _ _;have n:=aS (aL (x.2.2.2.1.trans (j.low (w:=w1) o.2.size) x.2.2.2.2.size) (K.tr (Gb.new s)));have J:=aS (uU (nbs:=[(p,t)]) (nws:=[((p,M,N):aA×TypeId×Nat)]) (gm:=l.heap.size) (capm:=1) Q.2.2.2.1 (j.prep (x.2.2.2.1.prep Q.2.1)) I4.out (Q.2.2.1.gb n.2) (F.grown s) rfl (FI _) Q.2.2.2.2 (lN (bY l _)) (qc a));clear r S z3 h0 h1 a F j g s K;unfold CP at J)
  |(go_at_call 208;refine J.mono ?_;rintro e w9 W;have H9:=aS (zE.low (H:=H) (ca:=ca) (w:=w) W n.1 n.2);obtain⟨_,_,_,x9,_,_,rfl,_⟩:=W;unfold CP at*))
 all_goals go_wp2
 all_goals go_ret
 all_goals exact H9.out
theorem Rm(u:ET C ad P){T:Ex}{R:Nat}{L:aC}{t:Et}{q:Nat}
  (v:H b=some (.cells #[dep, .string (B p),u1,u2] 205 (0,0))) (A:dI m H u1 e1) (D:dI m H u2 T) (i1:P e1 nb σ=some (.inr (σ1,R))) (i2:mV σ1 nb=some L) (i3:cI σ1 L 130 R=some t) (Y:nb.length+1<=1000) (i4:P T (nb++[(p,t)]) σ1=some (.inl q)) (h:kD C H ca σ d nb nv vs w) (z:rP C.base ad w):
  Calls prog 207 #[CP C.tb, .pointer (some ⟨b,0,none⟩)] w (zE C ad H ca (.inl q) nb w):=by
 obtain⟨T1,b1,rfl⟩:=A.val;obtain⟨T2,b2,rfl⟩:=D.val;have G:=aS (u e1 _ m σ nb _ H ca d nv vs w A i1 h z);have X:=h.ms.cs.fz _ _ v;have k2:=cU X 2 rfl;have Q:=aS (aL v (aL D (aL z (aL u Y))));have I2:=aS i2;have I3:=aS i3;have I4:=aS i4;clear u v A D h X z i1 i2 i3 i4 Y;unfold CP at*;go_enter func207,ntmps207;go_wp2_with fail;refine G.mono ?_;rintro e w1 ⟨H1,h2,d1,x1,e0,e3,rfl,U,t1,E,V⟩;have y:=E.ext _ _ Q.1;have i:=t1.ms.cs.fz _ _ y;have k1:=cU i 1 rfl;have k3:=cU i 3 rfl;have h3:=aT i;have CR:=aS (KG t1.drew I2.out);have x:=aS (aL y (aL U (aL t1 (aL E V))));clear k2 y i U t1 E V G;unfold CP at*;go_wp2_with fail
 go_region_with (first
  |(go_at_call 235;refine CR.mono ?_;rintro e w2 ⟨mb,rfl,Z,r2,c,o⟩;have f:=c.ms.cs.fz _ _ x.1;have h6:=cU f 1 rfl;have h8:=cU f 3 rfl;have h4:=aT f;have I:=aS (CX (lo:=0) x.2.1 I3.out c.ms.cs ⟨aM ⟨mb,rfl,Z,r2⟩,(Q.2.2.1.gb (x.2.2.2.2.tr (o.drewL.mono λk e=>x.2.2.1.clo k e))).tabW c.clo,dG _⟩);have n:=aS (aL c o);clear f Z r2 c o;unfold CP at I)
  |(go_at_call 127;refine I.mono ?_;rintro e l ⟨r,S,v3,H3,rfl,z3,h0,h1,a⟩;have a:=a.er;obtain⟨N,O,_,rfl⟩:=oE a;obtain⟨F,j⟩:=n.1.more r S z3 h0 h1;have g:=F.ms.cs.fz _ _ (j.ext _ _ x.1);have h7:=cU g 1 rfl;have h9:=cU g 3 rfl;have h5:=aT g;have K:=aS (Ed (t1:=x.2.2.1) x.2.2.2.2 n.2 r);have s:l.grownBy (l.alloc (.cells #[.string (B p), .iface N (.pointer (some ⟨O,0,none⟩))] 403)) none:=aO _ _ _;have M:=aS (aL (x.2.2.2.1.trans (j.low (w:=w1) n.2.size) x.2.2.2.2.size) (K.tr (Gb.new s)));have J:=aS (uU (nbs:=[(p,t)]) (nws:=[((p,N,O):aA×TypeId×Nat)]) (gm:=l.heap.size) (capm:=1) Q.2.2.2.1 (j.prep (x.2.2.2.1.prep Q.2.1)) I4.out (Q.2.2.1.gb M.2) (F.grown s) rfl (FI _) Q.2.2.2.2 (lN (bY l _)) (qc a));clear r S z3 h0 h1 a F j g s K;unfold CP at J)
  |(go_at_call 208;refine J.mono ?_;rintro e w9 ⟨rfl,W⟩;have Q9:=aS (M.2.tr W);clear W;unfold oF eQ;refine B7 w ⟨rfl,rfl,Q9.out⟩ ?_))
 all_goals trivial
end Go.Proofs.YtcdijppegfcoaaaGreatDoor
