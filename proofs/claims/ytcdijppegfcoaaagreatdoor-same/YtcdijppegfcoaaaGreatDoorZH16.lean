import Derived.Test.YtcdijppegfcoaaaGreatDoorZH12
import Derived.Test.YtcdijppegfcoaaaGreatDoorZHSH
import Derived.Test.YtcdijppegfcoaaaGreatDoorZH13
set_option maxRecDepth 100000
set_option maxHeartbeats 8000000
set_option linter.unusedSimpArgs false
namespace Go.Proofs.YtcdijppegfcoaaaGreatDoor
open Go.RowKit Tryz
variable{w w':World}{n b F:Nat}{H:Nat->Option Obj}{s s' s1 s2:Ds}{v u:Value}
theorem TR{x y:Value}{t:TypeId}{p:Nat×Nat}(h:w.heap[n]? =some (.cells #[x,y] t p)):w.cell? ⟨n,0,none⟩=some x/\w.cell? ⟨n,1,none⟩=some y:=by constructor<;>simp[World.cell?,h]
theorem Ql{p:Value}{t:TypeId}(h:w.heap[b]? =some (.cells #[p] t (0,0))):w.cell? ⟨b,0,none⟩=some p/\w.frozen? ⟨b,0,none⟩=false:=by simp[World.cell?,World.frozen?,h]
theorem DW.drew{x:aC}{a:bM}{d:aI}{c:Dc}{e:Nat}(h:DW H x a d c e s w):DW H x a d c e s w.drew:=⟨h.cs.drew,h.dr.drew,h.lowa,h.lowH,h.off,h.big⟩
theorem im{f:aC}{K:bM}{d:aI}{c:Dc}{i:Nat}{a:AB}(E:c.own=some a)(z:n<=9223372036854775806)(u:s.O.length<=200)
  (t:Calls prog 223 #[v] w λe I=>e= .returned (.iface 265 (.pointer (some ⟨b,0,none⟩)))/\DW H f K d c i s I/\Gb (DG f c i) w I)
  (y:f[n]? =some b) (A:qE ([95]++fQ ((jO s.O n).idxOf n)) 0 0 ⟨s.steps,s.out,s.stands,s.L,jO s.O n⟩=some s'):
  Calls prog 184 #[CP c.db,v] w (XK H f K d c i s' w):=by
 have j:=aS t;have x:=aS (aL y (aL A (aL z u)));have Q:=xY b;have R:=OA b;have S:=mB b;have g:=aS E;clear t y E z u A;unfold CP;go_enter func184,ntmps184;go_wp2_with fail;refine j.mono ?_;rintro e J ⟨rfl,h,p⟩;obtain⟨U,D,_⟩:=h.cs.blk n b x.1;have N:=(fZ D).1;obtain⟨T,C,_⟩:=h.dr.blk;have P:J.cell? ⟨c.db,1,none⟩=some (.func (.func 264) #[] #[.pointer (some ⟨a.kb,0,none⟩), .pointer (some ⟨a.nb,0,none⟩)]):=by rw[(k8 C).2.1];unfold Dc.ownV;rw[g.out];rfl
 have M:=aS (Ul J.drew a n s.O x.2.2.1 ((h.dr.drew).ow a g.out).1 x.2.2.2);have l:=aS (aL h p);clear h p j C D;go_wp2_with fail
 go_region_with (first
  |(go_at_call 264;refine M.mono ?_;rintro e V ⟨rfl,F,q⟩;have m:=aS ((DW.drew l.1).ownL g.out F q);have k:=aS (mM m.1 x.2.1);clear F q;unfold CP at k)
  |(go_at_call 224;refine k.mono ?_;rintro e W ⟨rfl,G,r⟩;have o:=aS (aL G r);clear G r))
 all_goals
  go_wp2
  first|go_end0|skip
  exact⟨rfl,o.1,(l.2.tr (Gb.drewL m.2)).tr o.2⟩
theorem iq{h:aC}{g:bM}{d:aI}{c:Dc}{x:Nat}{F f:Nat}{a:Et}
  (C:Calls prog 223 #[v] w λe L=>e= .returned (.iface 349 (.pointer (some ⟨b,0,none⟩)))/\DW H h g d c x s L/\Gb (DG h c x) w L)
  (D:H b=some (.cells #[u] 351 (0,0))) (A:gz H h g d c x F f) (E:ER H h u a) (G:qE [91] 0 0 s=some s1) (I:fS g F f a s1=some s2) (J:qE [93] 0 0 s2=some s'):
  Calls prog 184 #[CP c.db,v] w (XK H h g d c x s' w):=by
 have i:=aS (show∀w,Fz H w->w.cell? ⟨b,0,none⟩=some u from(λw T=>(Ql (T _ _ D)).1));have p:=aS C;have R:=aS A;have X:=lF b;have Y:=tK b;have Z:=pF b;have q3:=lG b;have P:=aS (aL E (aL G (aL I J)));clear E G I J;clear C D A;unfold CP;go_enter func184,ntmps184;go_wp2_with fail;refine p.mono ?_;rintro e U ⟨rfl,j,r⟩;have M:=aS r;clear r p;have q:=i.out U j.cs.fz;have m:=aS (mM j P.2.1);clear j;unfold CP at m;go_wp2_with fail;refine m.mono ?_;rintro e V ⟨rfl,k,t⟩;have N:=aS t;clear t;have q:=i.out V k.cs.fz;have n:=aS (R.out u a s1 s2 _ P.1 P.2.2.1 k);clear k;unfold CP at n;go_wp2_with fail;refine n.mono ?_;rintro e W ⟨rfl,l,y⟩;have O:=aS y;clear y;have q:=i.out W l.cs.fz;have o:=aS (mM l P.2.2.2);clear l;unfold CP at o;go_wp2_with fail;refine o.mono ?_;rintro e w4 ⟨rfl,K,z⟩;have Q:=aS z;clear z;have S:=aS K;clear K;go_wp2
 first|go_end0|skip
 exact⟨rfl,S.out,(((M.tr N.out).tr O.out).tr Q.out)⟩
theorem ir{x:aC}{g:bM}{d:aI}{c:Dc}{i:Nat}{t f:Nat}{z:Value}{a k:Et}{y A:Ds}
  (S:Calls prog 223 #[v] w λe w'=>e= .returned (.iface 361 (.pointer (some ⟨b,0,none⟩)))/\DW H x g d c i s w'/\Gb (DG x c i) w w')
  (T:H b=some (.cells #[u,z] 384 (0,0))) (R:gz H x g d c i t f) (U:ER H x u a) (m:ER H x z k) (V:qE [40] 0 0 s=some s1) (W:fS g t f a s1=some s2) (X:qE [44,32] 0 0 s2=some y) (Y:fS g t f k y=some A) (Z:qE [41] 0 0 A=some s'):
  Calls prog 184 #[CP c.db,v] w (XK H x g d c i s' w):=by
 have h:=aS (show∀w,Fz H w->w.cell? ⟨b,0,none⟩=some u/\w.cell? ⟨b,1,none⟩=some z from(λw m=>TR (m _ _ T)));have J:=aS S;have I:=aS R;have q0:=lH b;have q1:=tM b;have q2:=pG b;have q3:=lI b;have q4:=lJ b;have P:=aS (aL U (aL m (aL V (aL W (aL X (aL Y Z))))));clear U m V W X Y Z;clear S T R;unfold CP;go_enter func184,ntmps184;go_wp2_with fail;refine J.mono ?_;rintro e w1 ⟨rfl,n,K⟩;have G1:=aS K;clear K J;have j:=(h.out w1 n.cs.fz).1;have l:=(h.out w1 n.cs.fz).2;have C:=aS (mM n P.2.2.1);clear n;unfold CP at C;go_wp2_with fail;refine C.mono ?_;rintro e w2 ⟨rfl,o,L⟩;have G2:=aS L;clear L;have j:=(h.out w2 o.cs.fz).1;have l:=(h.out w2 o.cs.fz).2;have D:=aS (I.out u a s1 s2 _ P.1 P.2.2.2.1 o);clear o;unfold CP at D;go_wp2_with fail;refine D.mono ?_;rintro e w3 ⟨rfl,p,M⟩;have G3:=aS M;clear M;have j:=(h.out w3 p.cs.fz).1;have l:=(h.out w3 p.cs.fz).2;have E:=aS (mM p P.2.2.2.2.1);clear p;unfold CP at E;go_wp2_with fail;refine E.mono ?_;rintro e w4 ⟨rfl,q,N⟩;have G4:=aS N;clear N;have j:=(h.out w4 q.cs.fz).1;have l:=(h.out w4 q.cs.fz).2;have F:=aS (I.out z k y A _ P.2.1 P.2.2.2.2.2.1 q);clear q;unfold CP at F;go_wp2_with fail;refine F.mono ?_;rintro e w5 ⟨rfl,r,O⟩;have G5:=aS O;clear O;have j:=(h.out w5 r.cs.fz).1;have l:=(h.out w5 r.cs.fz).2;have G:=aS (mM r P.2.2.2.2.2.2);clear r;unfold CP at G;go_wp2_with fail;refine G.mono ?_;rintro e w6 ⟨rfl,r6,Q⟩;have G6:=aS Q;clear Q;have RR:=aS r6;clear r6;go_wp2
 first|go_end0|skip
 exact⟨rfl,RR.out,(((((G1.tr G2.out).tr G3.out).tr G4.out).tr G5.out).tr G6.out)⟩
theorem YS{h:aC}{x:bM}{d:aI}{c:Dc}{i:Nat}{l f:Nat}{z:Value}{a k:Et}
  (I:Calls prog 223 #[v] w λe Q=>e= .returned (.iface 291 (.pointer (some ⟨b,0,none⟩)))/\DW H h x d c i s Q/\Gb (DG h c i) w Q)
  (J:H b=some (.cells #[u,z] 293 (0,0))) (G:gz H h x d c i l f) (hR:Qc H h x d c i l f) (K:ER H h u a) (j:ER H h z k) (L:LD (fS x l f) x a (some s)=some s1) (M:qE [32,45,62,32] 0 0 s1=some s2) (N:fS x l f k s2=some s'):
  Calls prog 184 #[CP c.db,v] w (XK H h x d c i s' w):=by
 have g:=aS (show∀w,Fz H w->w.cell? ⟨b,0,none⟩=some u/\w.cell? ⟨b,1,none⟩=some z from(λw j=>TR (j _ _ J)));have t:=aS I;have Y:=aS G;have q0:=kP b;have q1:=rY b;have q2:=nK b;have q3:=kL b;have q4:=kM b;have q5:=jC b;have P:=aS (aL K (aL j (aL L (aL M N))));have Z:=aS hR;clear K j L M N hR;clear I J G;unfold CP;go_enter func184,ntmps184;go_wp2_with fail;refine t.mono ?_;rintro e R ⟨rfl,m,C⟩;have U:=aS C;clear C t;have y:=(g.out R m.cs.fz).1;have A:=(g.out R m.cs.fz).2;have p:=aS (Z.out u a s s1 _ P.1 P.2.2.1 m);clear m;unfold CP at p;go_wp2_with fail;refine p.mono ?_;rintro e S ⟨rfl,n,D⟩;have V:=aS D;clear D;have y:=(g.out S n.cs.fz).1;have A:=(g.out S n.cs.fz).2;have q:=aS (mM n P.2.2.2.1);clear n;unfold CP at q;go_wp2_with fail;refine q.mono ?_;rintro e T ⟨rfl,o,E⟩;have W:=aS E;clear E;have y:=(g.out T o.cs.fz).1;have A:=(g.out T o.cs.fz).2;have r:=aS (Y.out z k s2 s' _ P.2.1 P.2.2.2.2 o);clear o;unfold CP at r;go_wp2_with fail;refine r.mono ?_;rintro e w4 ⟨rfl,O,F⟩;have X:=aS F;clear F;have RR:=aS O;clear O;go_wp2
 first|go_end0|skip
 exact⟨rfl,RR.out,(((U.tr V.out).tr W.out).tr X.out)⟩
theorem vq{p:aC}{σ:bM}{d:aI}{c:Dc}{r i f:Nat}(N:Md i c)(M:gz H p σ d c r i f)(hR:Qc H p σ d c r i f):Um H p σ d c r i f:=by
 intro v t s O w hv g h;obtain⟨G,m,Z,_,Y⟩:=Oh (σ:=σ) (d:=d) hv h.cs
 have h7:∀G,fP 0 H p (m+2) G (dW σ t)->Calls prog 223 #[v] w (λe P=>e= .returned G/\DW H p σ d c r s P/\Gb (DG p c r) w P)->
   Calls prog 184 #[CP c.db,v] w (XK H p σ d c r O w):=by
  intro G J q;unfold E8 at g;generalize dW σ t=u at g J;obtain⟨b,J⟩:=J;rcases J with⟨x,n,j,l⟩|⟨x,n,j,K,l,o⟩|⟨x,n,j,l⟩|⟨x,K,a,U,n,j,l,o⟩|⟨x,K,a,k,U,z,n,j,l,o,L⟩|⟨x,K,a,k,U,z,n,j,l,o,L⟩
  ·rw[aN (by rw[x];decide),aR x]at g;unfold Ue at g;split at g
   ·rename_i Q;obtain⟨a,C⟩:=Option.isSome_iff_exists.1 (N.2 Q.1);subst l;have hl:u.num<σ.rep.length:=by rw[<-h.cs.len];exact(aU.1 j).1
    exact im C (by have:=h.cs.few;omega) Q.2 q j g
   ·cases g
  ·rw[aR x]at g;unfold Jm at g;subst l;by_cases I:i=0
   ·rw[aR I]at g;exact VS (N.1.1 I) q o (Qd g)
   ·rw[aN I]at g;split at g
    ·rename_i X
     cases C:c.any with
     |none=>exact absurd (N.1.2 C) I
     |some a=>exact SN C q o (Ju C j X g)
    ·cases g
  ·rw[aN (by rcases x with x|x<;>rw[x]<;>decide),aN (by rcases x with x|x<;>rw[x]<;>decide),n]at g;subst j;exact YM q l g
  ·rw[aN (by rw[x];decide),aN (by rw[x];decide),n]at g;subst j;obtain⟨T,A,F⟩:=uI g;obtain⟨S,y,E⟩:=xI A;exact iq q l M ⟨_,o⟩ y E F
  ·rw[aN (by rw[x];decide),aN (by rw[x];decide),n]at g;subst j;have D:(if u.kind=dO then wE (fS σ i f) k (jV [32,45,62,32] (LD (fS σ i f) σ a (some s)))else jV [41] (wE (fS σ i f) k (jV [44,32] (wE (fS σ i f) a (jV [40] (some s))))))=some O:=g;rw[aN (by rw[x];decide)]at D;obtain⟨s4,W,p5⟩:=uI D;obtain⟨s3,V,p4⟩:=xI W;obtain⟨T,A,F⟩:=uI V;obtain⟨S,y,E⟩:=xI A;exact ir q l M ⟨_,o⟩ ⟨_,L⟩ y E F p4 p5
  ·rw[aN (by rw[x];decide),aN (by rw[x];decide),n]at g;subst j;have D:(if u.kind=dO then wE (fS σ i f) k (jV [32,45,62,32] (LD (fS σ i f) σ a (some s)))else jV [41] (wE (fS σ i f) k (jV [44,32] (wE (fS σ i f) a (jV [40] (some s))))))=some O:=g;rw[aR x]at D;obtain⟨T,A,F⟩:=xI D;obtain⟨S,y,E⟩:=uI A;exact YS q l M hR ⟨_,o⟩ ⟨_,L⟩ y E F
 refine h7 G Z (Y.mono ?_);rintro e P ⟨rfl,q2,R⟩;exact⟨rfl,h.cells q2 R,DG.cells R⟩
theorem Bz:(nD≠dO/\eU≠dO/\nF≠dO/\eS≠dO/\cM≠dO/\([]:aA)≠dO):=by decide
theorem fP.arrow{n m:Nat}{H:aB}{k:aC}{v:Value}{t:Et}(h:fP n H k m v t):∃g b,v= .iface g (.pointer (some ⟨b,0,none⟩))/\
  ((t.kind=dO/\∀w,(Instr.typeAssert (.iface g (.pointer (some ⟨b,0,none⟩))) 156 291 true).run prog w= .ok (.tuple #[.pointer (some ⟨b,0,none⟩), .bool true]) w)\/
   (t.kind≠dO/\∀w,(Instr.typeAssert (.iface g (.pointer (some ⟨b,0,none⟩))) 156 291 true).run prog w= .ok (.tuple #[.pointer none, .bool false]) w)):=by
 cases m with
 |zero=>exact absurd h id
 |succ m=>
 obtain⟨b,h⟩:=h;obtain⟨s,y,o,p,q,r⟩:=Bz;rcases h with⟨e,f,x,d⟩|⟨e,f,x,i,d,j⟩|⟨e,f,x,d⟩|⟨e,i,a,u,f,x,d,j⟩|⟨e,i,a,c,u,z,f,x,d,j,l⟩|⟨e,i,a,c,u,z,f,x,d,j,l⟩
 ·exact⟨_,b,d,aM ⟨by rw[e];exact q,λw=>xZ b w⟩⟩
 ·exact⟨_,b,d,aM ⟨by rw[e];exact r,λw=>L3 b w⟩⟩
 ·exact⟨_,b,x,aM ⟨by rcases e with e|e<;>rw[e]<;>assumption,λw=>vV b w⟩⟩
 ·exact⟨_,b,x,aM ⟨by rw[e];exact o,λw=>FN b w⟩⟩
 ·exact⟨_,b,x,aM ⟨by rw[e];exact p,λw=>FP b w⟩⟩
 ·exact⟨_,b,x,aQ ⟨e,λw=>jC b w⟩⟩
theorem Ca{G:aC}{σ:bM}{d:aI}{c:Dc}{bs z f:Nat}(M:gz H G σ d c bs z f):Qc H G σ d c bs z f:=by
 intro v t s W w y g h;obtain⟨v1,m,O,_,N⟩:=Oh (σ:=σ) (d:=d) y h.cs;obtain⟨T0,b,rfl,u⟩:=O.arrow;have o:=aS N;have C:=aS h;have A:=aS M;have D:=aS y;clear N h M y O;unfold LD at g;unfold CP;rcases u with⟨j,u⟩|⟨j,u⟩
 ·rw[aR j]at g;obtain⟨s2,J,R⟩:=uI g;obtain⟨X,I,Q⟩:=xI J;have P:=aS (aL (show qE [40] 0 0 s=some X from I) (aL Q R));clear g J I Q R j;go_enter func225,ntmps225;go_wp2_with fail;refine o.mono ?_;rintro e Y ⟨rfl,k,a⟩;have l:=C.cells k a;have r:=aS (DG.cells (c:=c) (bs:=bs) a);have x:=aS (mM l P.1);clear k a l o;unfold CP at x;go_wp2_with fail;refine x.mono ?_;rintro e Z ⟨rfl,n,i⟩;have U:=aS i;have p:=aS (A.out _ _ _ _ _ D.out P.2.1 n);clear n i x;unfold CP at p;go_wp2_with fail;refine p.mono ?_;rintro e w3 ⟨rfl,S,K⟩;have V:=aS K;have q:=aS (mM S P.2.2);clear S K p;unfold CP at q;go_wp2_with fail;refine q.mono ?_;rintro e w4 ⟨rfl,T,L⟩;have F:=aS (aL T L);clear T L q;go_wp2
  first|go_end0|skip
  exact⟨rfl,F.1,((r.tr U.out).tr V.out).tr F.2⟩
 ·rw[aN j]at g;have P:=aS (show fS σ z f t s=some W from g);clear g j;go_enter func225,ntmps225;go_wp2_with fail;refine o.mono ?_;rintro e Y ⟨rfl,k,a⟩;have l:=C.cells k a;have r:=aS (DG.cells (c:=c) (bs:=bs) a);have x:=aS (A.out _ _ _ _ _ D.out P.out l);clear k a l o;unfold CP at x;go_wp2_with fail;refine x.mono ?_;rintro e Z ⟨rfl,n,i⟩;have E:=aS (aL n i);clear n i x;go_wp2
  first|go_end0|skip
  exact⟨rfl,E.1,r.tr E.2⟩
theorem DR.stand{c:Dc}{r:Nat}{l:List (Nat×Nat×Nat)}(h:DR c r s w)(I:GM kI JU 3 w' c.mb l)(g:w.grownBy w' (some c.mb)):DR c r ⟨s.steps,s.out,l,s.L,s.O⟩ w':=by
 obtain⟨K,y,z⟩:=h.blk;have i:∀(k:Nat) (o:Obj),w.heap[k]? =some o->k≠c.mb->w'.heap[k]? =some o:=λk o e m=>(g.block k (aT e) (by simpa using m)).trans e;have x:∀(k:Nat) (u:Array Value) (t:TypeId) (v:Nat×Nat),w.heap[k]? =some (Obj.cells u t v)->k≠c.mb:=λk u t v e=>h.st.apart e;have a:∀(k:Nat) (o:Obj),w.heap[k]? =some o->k≠c.mb->w'.heap[k]? =w.heap[k]? :=λk o e m=>(i k o e m).trans e.symm;refine⟨⟨K,i _ _ y (x _ _ _ _ y),z.1, ?_⟩,h.run,h.ok,h.short,I,λb f=> ?_,λb f=> ?_,h.ap,h.lo⟩
 ·rcases z.2 with q|⟨H,E,F,n,C,p,J⟩
  ·exact aQ q
  ·exact aM ⟨H,E,F,n,C,i _ _ p (x _ _ _ _ p),J⟩
 ·obtain⟨j,d,A⟩:=h.an b f;obtain⟨D,⟨G,N,n,C⟩,p⟩:=j.mp;exact⟨j.same (a _ _ j.mrk (x _ _ _ _ j.mrk)) (a _ _ j.nf (x _ _ _ _ j.nf)) (a _ _ j.blk (x _ _ _ _ j.blk)) (a _ _ n A),d,A⟩
 ·obtain⟨j,d⟩:=h.ow b f;obtain⟨G,M,e⟩:=j.mp.isMap;exact⟨j.same (a _ _ j.mrk (x _ _ _ _ j.mrk)) (a _ _ j.nf (x _ _ _ _ j.nf)) (a _ _ j.blk (x _ _ _ _ j.blk)) (a _ _ e d),d⟩
theorem TS(w:World):(zeroValue 306).run prog w= .ok (.agg #[.string (B []), .int .i64 0, .int .i64 0]) w:=by kernel_rfl
theorem DW.stand{a:aC}{i:bM}{d:aI}{c:Dc}{x:Nat}{l:List (Nat×Nat×Nat)}(h:DW H a i d c x s w)(j:GM kI JU 3 w' c.mb l)(g:w.grownBy w' (some c.mb)):DW H a i d c x ⟨s.steps,s.out,l,s.L,s.O⟩ w'/\Gb (DG a c x) w w':=by have f:Gb (λk=>x<=k) w w':=Gb.of g (λb e=>by cases e;exact aQ h.dr.lo.2);exact⟨h.put (h.dr.stand j g) f,DG.put f⟩
theorem DW.alloc{b:aC}{f:bM}{d:aI}{c:Dc}{a:Nat}(h:DW H b f d c a s w)(o:Obj):DW H b f d c a s (w.alloc o):=
 ⟨h.cs.gb (R:=λ_=>False) ((Gb.refl _ _).alloc o) (λ_ _ e=>e) (λ_ _ _ e=>e),h.dr.same λk x e _=>by rw[bQ _ _ _ (aT e)];exact e,h.lowa,h.lowH,h.off,by simp;have:=h.big;omega⟩
theorem Gb.allocL{R:Nat->Prop}{o:Obj}(h:Gb R (w.alloc o) w'):Gb R w w':=((Gb.refl R w).alloc o).tr h
theorem vu{g:aC}{l:bM}{d:aI}{c:Dc}{f:Nat}{x:TypeId}
  (m:∀w,(Instr.typeAssert (.iface x (.pointer (some ⟨b,0,none⟩))) 156 265 true).run prog w= .ok (.tuple #[.pointer none, .bool false]) w)
  (j:Calls prog 184 #[CP c.db, .iface x (.pointer (some ⟨b,0,none⟩))] w (XK H g l d c f s' w)):
  Calls prog 144 #[CP c.db, .iface x (.pointer (some ⟨b,0,none⟩))] w (XK H g l d c f s' w):=by
 have h:=aS j;clear j;unfold CP at h⊢;go_enter func144,ntmps144;go_wp2_with fail;refine h.mono ?_;rintro e n ⟨rfl,k,i⟩;have a:=aS (aL k i);clear k i h;go_wp2
 first|go_end0|skip
 exact⟨rfl,a.1,a.2⟩
theorem vv{l:aC}{g:bM}{d:aI}{c:Dc}{bs:Nat}{x y:Nat}(p:l[n]? =some b)(h:DW H l g d c bs s w)(t:dR s.stands (g.root n)=some (x,y))(v:qE [] x y s=some s'):
  Calls prog 144 #[CP c.db,CI b] w (XK H l g d c bs s' w):=by
 have j:=aS (jG (d n+1) n b w (by omega) p h.cs);have K:=mB b;have Q:=aS (aL p (aL h (aL t v)));clear p h t v;unfold CP at j⊢;unfold CI;go_enter func144,ntmps144;go_wp2_with fail;refine j.mono ?_;rintro e G ⟨F,rfl,m,f,o,_⟩;have a:=Q.2.1.cells f o;have D:=aS (DG.cells (c:=c) (bs:=bs) o);obtain⟨M,A,_⟩:=f.blk _ F m;have I:=(fZ A).1;obtain⟨L,z,_⟩:=a.dr.blk;have J:=(k8 z).2.2.2.2.1
 have r:g.root n<=9223372036854775806:=by have:=(aU.1 m).1;rw[f.len]at this;have:=f.few;omega
 have u:=a.dr.st.look wC underlying295 (TS G) (wD r);rw[Q.2.2.1]at u;simp only[jI,qR,JU,zM]at u;have i:=aS (nz (a.alloc (.cells #[.string (B []), .int .i64 (x:Int), .int .i64 (y:Int)] 306)).dr Q.2.2.2 (a.alloc (.cells #[.string (B []), .int .i64 (x:Int), .int .i64 (y:Int)] 306)).big);have E:=aS a;clear m f o A a z r j;unfold CP Bb at i;unfold CP;go_wp2_with fail;refine i.mono ?_;rintro e N ⟨rfl,C,q⟩;have k:=aS (aL C q);clear C q i;go_wp2
 first|go_end0|skip
 exact⟨rfl,(E.alloc _).put k.1 k.2,D.tr (Gb.allocL (DG.put k.2))⟩
theorem vw{f:aC}{x:bM}{d:aI}{c:Dc}{bs:Nat}(t:f[n]? =some b)(h:DW H f x d c bs s w)(z:dR s.stands (x.root n)=none)(A:dR s1.stands (x.root n)=none)(C:s1.stands.length<100000)
  (y:∀w,DW H f x d c bs s w->Calls prog 184 #[CP c.db,CI b] w (XK H f x d c bs s1 w)):
  Calls prog 144 #[CP c.db,CI b] w (XK H f x d c bs ⟨s1.steps,s1.out,s1.stands++[(x.root n,s.out.length,s1.out.length)],s1.L,s1.O⟩ w):=by
 have p:=aS (jG (d n+1) n b w (by omega) t h.cs);have W:=mB b;have Q:=aS (aL t (aL h (aL z (aL A C))));have I:=aS y;clear t h z A C y;unfold CP at p⊢;unfold CI;go_enter func144,ntmps144;go_wp2_with fail;refine p.mono ?_;rintro e R ⟨P,rfl,q,g,r,_⟩;have j:=Q.2.1.cells g r;have G:=aS (DG.cells (c:=c) (bs:=bs) r);obtain⟨Z,F,_⟩:=g.blk _ P q;have S:=(fZ F).1;obtain⟨X,m,_⟩:=j.dr.blk;have U:=(k8 m).2.2.2.2.1;have T:=(k8 m).2.2.2.1;have V:=aT m
 have u:x.root n<=9223372036854775806:=by have:=(aU.1 q).1;rw[g.len]at this;have:=g.few;omega
 have D:=j.dr.st.look wC underlying295 (TS R) (wD u);rw[Q.2.2.1]at D;simp only[oJ,vR,zO]at D;have o:=aS (I.out _ (j.alloc (.cells #[.string (B []), .int .i64 0, .int .i64 0] 306)));have J:=aS (aL j u);clear q g r F j m u p;unfold CP CI at o;unfold CP;go_wp2_with fail;refine o.mono ?_;rintro e w2 ⟨rfl,a,k⟩;obtain⟨Y,v,_⟩:=a.dr.blk;have x3:=(k8 v).2.2.2.1;have x4:=(k8 v).2.2.2.2.1;obtain⟨w5,E,i,l⟩:=GM.store a.drew.dr.st wC underlying295 OY OZ (by have:=Q.2.2.2.2;omega) (s.out.length,s1.out.length) (wD J.2);rw[oP _ Q.2.2.2.1]at i;have K:=aS (aL a (aL k (aL i l)));unfold JU at E;change (Instr.mapUpdate _ _ _ (.agg #[.string ⟨#[]⟩,_,_])).run _ _=_ at E;clear a k i l v o;go_wp2_with fail
 go_region
 all_goals
  go_wp2
  first|go_end0|skip
  obtain⟨a,k,i,l⟩:=K.out;obtain⟨M,N⟩:=a.drew.stand i l;exact⟨rfl,M,(G.tr (Gb.allocL k)).tr (Gb.drewL N)⟩
theorem Cb{H:aB}{D:aC}{n:bM}{d:aI}{c:Dc}{C y f:Nat}(J:Um H D n d c C y f):gz H D n d c C y (f+1):=by
 intro v t s Q w l x h;have K:=l;obtain⟨m,l⟩:=l
 cases m with
 |zero=>exact absurd l id
 |succ m=>
 obtain⟨b,l⟩:=l;rw[fS]at x
 have q:∀(A:TypeId),v= .iface A (.pointer (some ⟨b,0,none⟩))->t.kind≠cM->(∀w,(Instr.typeAssert (.iface A (.pointer (some ⟨b,0,none⟩))) 156 265 true).run prog w= .ok (.tuple #[.pointer none, .bool false]) w)->
   Calls prog 144 #[CP c.db,v] w (XK H D n d c C Q w):=λA e N P=>by
  rw[aN N]at x;subst e;exact vu P (J _ _ _ _ _ K x h)
 rcases l with⟨g,o,i,j⟩|⟨g,o,i,F,j,G⟩|⟨g,o,i,j⟩|⟨g,F,a,u,o,i,j,G⟩|⟨g,F,a,k,u,z,o,i,j,G,M⟩|⟨g,F,a,k,u,z,o,i,j,G,M⟩
 ·rw[aR g]at x;subst j
  cases r:dR s.stands (n.root t.num)with
  |some p=>rw[r]at x;exact vv i h r x
  |none=>
   rw[r]at x;simp only at x
   cases E:E8 (fS n y f) n y t s with
   |none=>rw[E]at x;cases x
   |some R=>
    rw[E]at x;unfold Ax at x;simp only at x
    cases I:dR R.stands (n.root t.num)with
    |some p=>rw[I]at x;cases x
    |none=>
     rw[I]at x;simp only at x;split at x
     ·rename_i O;cases x;exact vw i h r I O (λS L=>J _ _ _ _ _ K E L)
     ·cases x
 ·exact q _ j (by rw[g];decide) (λw=>r8 b w)
 ·exact q _ i (by rcases g with g|g<;>rw[g]<;>decide) (λw=>pV b w)
 ·exact q _ i (by rw[g];decide) (λw=>pF b w)
 ·exact q _ i (by rw[g];decide) (λw=>pG b w)
 ·exact q _ i (by rw[g];decide) (λw=>nK b w)
theorem VZ{H:aB}{e:aC}{a:bM}{d:aI}{c:Dc}{bs md:Nat}(h:Md md c):∀f,gz H e a d c bs md f
 |0=>λv t s b w _ x _=>by cases x
 |f+1=>Cb (vq h (VZ h f) (Ca (VZ h f)))
theorem Cc(b n:Nat)(w:World)(d:w.heap[b]? =some (.cells #[.pointer none, .slice none 0 0] 304 (0,0)))(h:Nat)(a:h<=b)(c:h<=w.heap.size)(f:n<=281474976710656):
  Calls prog 148 #[.pointer (some ⟨b,0,none⟩), .int .i64 n] w λe x=>e= .returned (.tuple #[])/\(Lib.BuilderAt 304 5 h b (.pointer (some ⟨b,0,none⟩)) [] x/\Below h w x):=
 Any.Builder_Grow_fresh {Tryz.lays156 with} Tryz.Builder_Extra_156 h b n w a d c f
theorem TT(x b:Nat)(l:aH)(s:ByteArray)(w:World)(h:Lib.IsBuilderF 304 5 x b l w)(d:l.length+s.size<=140737488355328)(c:x<=w.heap.size):
  Calls prog 149 #[.pointer (some ⟨b,0,none⟩), .string s] w λe a=>e= .returned (.tuple #[.int .i64 s.size, .nilIface])/\(Lib.BuilderAtF 304 5 x b (.pointer (some ⟨b,0,none⟩)) (l++Lib.strCells s) a/\Below x w a/\Lib.OthersKept 5 (some b) w a):=
 Any.Builder_WriteString_k {Tryz.lays156 with} Tryz.Builder_Extra_156 x b l s w h d c
theorem PC(x b:Nat)(l:aA)(w:World)(h:Lib.IsBuilderF 304 5 x b (Lib.byteCells l) w)(c:x<=w.heap.size):
  Calls prog 150 #[.pointer (some ⟨b,0,none⟩)] w λe a=>e= .returned (.string ⟨l.toArray⟩)/\(Lib.IsBuilderF 304 5 x b (Lib.byteCells l) a/\Below x w a/\Lib.OthersKept 5 (some b) w a):=
 Any.Builder_String_any_k {Tryz.lays156 with} Tryz.Builder_Extra_156 x b l w h c
theorem TU:∀(l:List (aA×Nat×Nat)) (j:Nat) (x:aA) (f t:Nat),l[j]? =some (x,f,t)->(nG l)[3*j]? =some (.string (B x))/\(nG l)[3*j+1]? =some (.int .i64 (f:Int))/\(nG l)[3*j+2]? =some (.int .i64 (t:Int))
 |[],j,x,f,t,h=>by simp at h
 |a::l,0,x,f,t,h=>by simp at h;subst h;exact⟨rfl,rfl,rfl⟩
 |a::l,j+1,x,f,t,h=>by have b:=TU l j x f t (by simpa using h);have e:nG (a::l)=H8 a++nG l:=rfl;have w:(H8 a).length=3:=rfl;rw[e,cD (by rw[w];omega),cD (by rw[w];omega),cD (by rw[w];omega),w];rw[show 3*(j+1)-3=3*j from by omega,show 3*(j+1)+1-3=3*j+1 from by omega,show 3*(j+1)+2-3=3*j+2 from by omega];exact b
theorem Cd{s:Nat}{o:Value}{l:List (aA×Nat×Nat)}(h:w.ownsRow s 306 3 o l.length (nG l)):∃d b,o= .slice d l.length b/\∀(j:Nat) (x:aA) (f t:Nat),l[j]? =some (x,f,t)->∃g,d=some ⟨g,0,none⟩/\g<w.heap.size/\
  w.cell? ⟨g,j*3,none⟩=some (.string (B x))/\w.cell? ⟨g,j*3+1,none⟩=some (.int .i64 (f:Int))/\w.cell? ⟨g,j*3+2,none⟩=some (.int .i64 (t:Int)):=by
 rcases h.2 with⟨rfl,k⟩|⟨g,b,u,rfl,z,n,A,C,D,y⟩
 ·refine⟨none,0,by rw[k],λj x f t e=> ?_⟩;have m:=(aU.1 e).1;rw[k]at m;omega
 ·refine⟨_,b,rfl,λj x f t e=>⟨g,rfl,aT n, ?_⟩⟩;obtain⟨p,q,r⟩:=TU l j x f t e;have m:=(aU.1 e).1
  have c:∀(i:Nat) (v:Value),(nG l)[i]? =some v->w.cell? ⟨g,i,none⟩=some v:=λi v a=>by
   rw[FH w g i u _ _ n];rw[<-y,gD]at a;split at a
   ·simpa using a
   ·cases a
  rw[Nat.mul_comm j 3];exact⟨c _ _ p,c _ _ q,c _ _ r⟩
theorem YT:∀(l:List (aA×Nat×Nat)) (h:aA),h.length<=(uH l h).length
 |[],h=>aV _
 |(x,f,t)::l,h=>by rw[uH];have:=YT l (h++x++((h++x).drop f).take (t-f));simp only[bD]at this;omega
theorem vx{l:List (aA×Nat×Nat)}{j:Nat}{x:aA}{f t:Nat}(h:l[j]? =some (x,f,t))(e:aA):uH (l.take (j+1)) e=uH (l.take j) e++x++((uH (l.take j) e++x).drop f).take (t-f):=by rw[iI,h,P7];rfl
theorem Ce:∀{l:List (aA×Nat×Nat)} {j:Nat} {x:aA} {f t:Nat} {e:aA},Jp l e->l[j]? =some (x,f,t)->f<=t/\t<=(uH (l.take j) e).length+x.length
 |[],j,x,f,t,e,_,h=>by simp at h
 |a::l,0,x,f,t,e,w,h=>by simp at h;subst h;exact⟨w.1,w.2.1⟩
 |(d,b,c)::l,j+1,x,f,t,e,w,h=>by have:=Ce (l:=l) (j:=j) w.2.2 (by simpa using h);rw[yZ,uH];exact this
theorem TV{c:Dc}{bs:Nat}(h:DR c bs s w):Calls prog 114 #[CP c.db] w λe w'=>e= .returned (.string (B s.out))/\Below w.heap.size w w':=by
 obtain⟨sv,C,h2⟩:=h.blk;obtain⟨ao,h7,rfl,l⟩:=Cd h2;obtain⟨_,_,X,c3,_,_,_⟩:=k8 C;have h0:=aT C;have Q:=aS (aL h (aL l C));have r:=h.short;obtain⟨e7,e0⟩:=r;have q:(w.alloc (.cells #[.pointer none, .slice none 0 0] 304)).heap[w.heap.size]? =some (.cells #[.pointer none, .slice none 0 0] 304 (0,0)):=dC _ _ _ rfl;have O:=aS (Cc w.heap.size s.out.length _ q w.heap.size (aV _) (by simp) (by omega));clear h C h2 q l;unfold CP;go_enter func114,ntmps114;go_wp2_with fail;refine O.mono ?_;rintro e M ⟨rfl,r1,g⟩
 have h6:M.cell? ⟨c.db,2,none⟩=some (.slice ao s.steps.length h7):=by rw[g.cell (p:=⟨c.db,2,none⟩) h0,bT (a:=⟨c.db,2,none⟩) (bQ _ _ _ h0)];exact X
 have A:Below w.heap.size w M:=⟨g.os,g.tape,g.output,by have:=g.size;simp at this;omega,λk q=>by rw[g.block k q,bQ _ _ _ q]⟩;have R1:=aS (aL (show Lib.IsBuilderF 304 5 w.heap.size w.heap.size (Lib.byteCells (uH (s.steps.take 0) [])) M from aM (Lib.BuilderAtF.of r1)) A);clear r1 g A O;go_wp2_with fail;obtain⟨n,r⟩:∃n,n=s.steps.length:=⟨_,rfl⟩;have P:=aS r;rw[<-r]at e0⊢;clear r X h6 c3
 go_loopg [16] (n+1) (λgh i wi=>∃j:Nat,j<=n/\i= .int .i64 j/\gh=n-j+1/\Hid (Lib.IsBuilderF 304 5 w.heap.size w.heap.size (Lib.byteCells (uH (s.steps.take j) [])) wi/\Below w.heap.size w wi))
 case atStart=>exact⟨0,by omega,rfl,by omega,R1⟩
 case round=>
  obtain⟨j,hj,rfl,e6,b⟩:=hrel;by_cases h9:j<n
  ·obtain⟨⟨x,f,t⟩,l⟩:∃p,s.steps[j]? =some p:=⟨s.steps[j]'(by rw[<-P.out];exact h9),aP _⟩;obtain⟨m,rfl,L,k0,k1,k2⟩:=Q.2.1 j x f t l;have d0:wr.cell? ⟨m,j*3,none⟩=some (.string (B x)):=(b.out.2.cell (p:=⟨m,j*3,none⟩) L).trans k0;have d1:wr.cell? ⟨m,j*3+1,none⟩=some (.int .i64 (f:Int)):=(b.out.2.cell (p:=⟨m,j*3+1,none⟩) L).trans k1;have d2:wr.cell? ⟨m,j*3+2,none⟩=some (.int .i64 (t:Int)):=(b.out.2.cell (p:=⟨m,j*3+2,none⟩) L).trans k2;have e3:=b.out.2.size;obtain⟨y,F⟩:∃y,y=uH (s.steps.take j) []:=⟨_,rfl⟩;have E:=vx l [];have u:=Ce Q.1.ok l;rw[<-F]at E u
   have D:(uH (s.steps.take (j+1)) []).length<=100000:=by have h1:=YT (s.steps.drop (j+1)) (uH (s.steps.take (j+1)) []);rw[<-P7,p8,Q.1.run]at h1;omega
   rw[E]at D;simp only[bD]at D;have v:=b.out.1;rw[<-F]at v
   have e4:w.heap.size<wr.heap.size:=by
    rcases v with h|h
    ·exact h.lt
    ·exact h.lt
   have R:=aS (TT w.heap.size w.heap.size _ (B x) _ (v.alloc (.cells #[.string (B x), .int .i64 (f:Int), .int .i64 (t:Int)] 306)) (by rw[Lib.byteCells_length,dY];omega) (by simp;omega));obtain⟨z,G⟩:∃z,z=y++x:=⟨_,rfl⟩;have e9:t<=z.length:=by rw[G,bD];exact u.2
   have e5:=u.1;have e8:z.length<=100000:=by rw[G,bD];omega
   have I:=aS (aL E (aL u (aL D (aL F G))));clear k0 k1 k2 E u D v F l G;go_wp2_with fail;refine R.mono ?_;rintro e H ⟨rfl,r3,J,o3⟩;have K:H.heap[wr.heap.size]? =some (.cells #[.string (B x), .int .i64 (f:Int), .int .i64 (t:Int)] 306 (0,0)):=o3 _ _ (dC _ _ _ rfl) (by simp;omega) (λc fz e=>by injection e with _ e _;exact absurd e (by decide));obtain⟨_,z1,z2⟩:=AH K
   have h4:Lib.IsBuilderF 304 5 w.heap.size w.heap.size (Lib.byteCells z) H.drew:=by rw[I.2.2.2.2,Lib.byteCells_append];exact aM r3
   have h3:w.heap.size<=H.heap.size:=by have:=J.size;simp at this;omega
   have o:=aS (PC w.heap.size w.heap.size _ H.drew h4 h3);have S:=aS (aL J K);have w0:(⟨z.toArray⟩:ByteArray).size=z.length:=rfl;have N:=aS (show(⟨z.toArray⟩:ByteArray).extract f t=B ((z.drop f).take (t-f))from by rw[N5];show B ((z.take t).drop f)=_;rw[zn]);have HL:=aS (show(Lib.byteCells z).length+((⟨z.toArray⟩:ByteArray).extract f t).size<=140737488355328 from by rw[N.out,dY,Lib.byteCells_length];simp only[gK,qP];omega);clear r3 J o3 K h4 R d0 d1 d2;go_wp2_with fail
   go_region_with (first
    |(go_at_call 150;refine o.mono ?_;rintro e w4 ⟨rfl,r4,d,o4⟩;have Z:=o4 _ _ S.2 (by simp;omega) (λc fz e=>by injection e with _ e _;exact absurd e (by decide));obtain⟨_,y1,y2⟩:=AH Z;have e2:w.heap.size<=w4.heap.size:=bV h3 d.size;have T:=aS (aL r4 d);clear r4 d o4 Z)
    |(go_at_call 149;refine(TT w.heap.size w.heap.size _ _ _ T.1 HL.out e2).mono ?_;rintro e w5 ⟨rfl,r5,V,_⟩;have U:=aS (aL r5 V);clear r5 V))
   all_goals
    go_wp2_with fail
    go_roundg (n-(j+1)+1)
    case measure=>omega
    case rel=>
     refine⟨j+1,by omega,by go_num,rfl,aS ⟨?_, ?_⟩⟩
     ·rw[I.1,<-I.2.2.2.2,Lib.byteCells_append];have Y:=U.1;rw[N.out]at Y;exact aM Y
     ·have A:Below w.heap.size w (wr.alloc (.cells #[.string (B x), .int .i64 (f:Int), .int .i64 (t:Int)] 306)):=b.out.2.alloc e3 _;have d:=T.2;exact((A.trans S.1).trans ⟨d.os,d.tape,d.output,d.size,d.block⟩).trans U.2
  ·have h8:j=n:=by omega
   subst h8;have o:=aS (PC w.heap.size w.heap.size _ wr b.out.1 b.out.2.size);have e1:uH (s.steps.take j) []=s.out:=by rw[P.out,kK];exact Q.1.run
   rw[e1]at o;go_wp2_with fail;refine o.mono ?_;rintro e w9 ⟨rfl,_,W,_⟩;have B9:=aS W;clear W o;go_wp2;go_ret;exact⟨rfl,b.out.2.trans B9.out⟩
theorem fY.nil(e:Fz H w):fY H [] ⟨[],[]⟩ (λ_=>0) w:=
 ⟨e,rfl,rfl,by simp,λa h=>by simp at h,by simp,λi c h=>by simp at h,λi a h=>by simp at h⟩
def Zw(H:aB)(b:aC)(i:bM)(d:aI)(x own:Option AB)(a:Nat)(g:Ds)(w:World)(e:Ending)(f:World):Prop:=
 ∃h c,e= .returned (CP h)/\DW H b i d ⟨h,c,x,own⟩ a g f/\Gb (DG b ⟨h,c,x,own⟩ a) w f
def PD(h:Option AB):Value:=match h with
 |none=>ownV
 |some a=>Jo a
def PE(own:Option AB):Value:=match own with
 |none=> .nilFunc
 |some a=>Ui a
theorem Uo{k:Nat}{e a b x:Obj}(h:w.heap[k]? =some x):(((w.alloc e).alloc a).alloc b).heap[k]? =some x:=by rw[bQ _ _ _ (by simp;have:=aT h;omega)];exact Og h
theorem vy{l:aC}{r:bM}{d:aI}{g own:Option AB}{c:Nat}{O:aC}(f:Obj)(z:fY H l r d w)(E:∀a,a∈l->a<c)(C:∀k o,H k=some o->k<c)(F:c<=w.heap.size)
  (v:∀a,g=some a->VR w a []/\c<=a.mb) (n:∀a,own=some a->XJ w a O/\H a.mb=none/\a.mb∉l) (y:∀a b,g=some a->own=some b->a.mb≠b.mb):
  DW H l r d ⟨w.heap.size+1+1,w.heap.size+1,g,own⟩ c (ze O) (((w.alloc f).alloc (.map #[] 0)).alloc (.cells #[PD g,PE own, .slice none 0 0, .int .i64 0, .map (some (w.heap.size+1))] 298)):=by
 have s:(w.alloc f).heap.size=w.heap.size+1:=by simp
 have t:((w.alloc f).alloc (.map #[] 0)).heap.size=w.heap.size+1+1:=by simp
 have h:∀(k:Nat) (x:Obj),w.heap[k]? =some x->(((w.alloc f).alloc (.map #[] 0)).alloc (.cells #[PD g,PE own, .slice none 0 0, .int .i64 0, .map (some (w.heap.size+1))] 298)).heap[k]? =w.heap[k]? :=λk x e=>(Uo e).trans e.symm;refine⟨z.gb (R:=λ_=>False) ((((Gb.refl _ _).alloc _).alloc _).alloc _) (λ_ _ e=>e) (λ_ _ _ e=>e),⟨⟨.slice none 0 0, ?_,rfl,aQ ⟨rfl,rfl⟩⟩,rfl,trivial,⟨dG _,dG _⟩, ?_,λa j=> ?_,λa j=> ?_,y,⟨by show c<=w.heap.size+1+1;omega,by show c<=w.heap.size+1;omega⟩⟩,E,C,λa j=>(n a j).2,by simp;omega⟩
 ·rw[dC _ _ _ t.symm];unfold oB Dc.anyV Dc.ownV PD PE;rfl
 ·have m:GM kI JU 3 ((w.alloc f).alloc (.map #[] 0)) (w.alloc f).heap.size ([]:List (Nat×Nat×Nat)):=GM.new;rw[s]at m;exact m.same (bQ _ _ _ (by simp))
 ·obtain⟨i,p⟩:=v a j;obtain⟨D,⟨u,I,q,J⟩,K⟩:=i.mp;have A:=aT q;exact⟨i.same (h _ _ i.mrk) (h _ _ i.nf) (h _ _ i.blk) (h _ _ q),p,by show a.mb≠w.heap.size+1;omega⟩
 ·obtain⟨i,p⟩:=n a j;obtain⟨u,G,e⟩:=i.mp.isMap;have A:=aT e;exact⟨i.same (h _ _ i.mrk) (h _ _ i.nf) (h _ _ i.blk) (h _ _ e),by show a.mb≠w.heap.size+1;omega⟩
theorem LG{ca:aC}{σ:bM}{d:aI}{any own:Option AB}{bs md:Nat}{O:aC}{t:Et}
  (q:md=0↔any=none) (r:md=2->own.isSome=true) (y:ER H ca v t) (u:fS σ md F t (ze O)=some s') (p:fY H ca σ d w) (A:∀a,a∈ca->a<bs) (z:∀k o,H k=some o->k<bs) (D:bs<=w.heap.size)
  (m:∀a,any=some a->VR w a []/\bs<=a.mb) (s:∀a,own=some a->XJ w a O/\H a.mb=none/\a.mb∉ca) (n:∀a b,any=some a->own=some b->a.mb≠b.mb):
  Calls prog 112 #[v, .agg #[PD any,PE own]] w (Zw H ca σ d any own bs s' w):=by
 have E:= @run_makeMap prog;have Q:=aS (aL q (aL r (aL y (aL u (aL p (aL A (aL z (aL m (aL s n)))))))));clear q r y u p A z m s n;obtain⟨x,f⟩:∃x,x=PD any:=⟨_,rfl⟩;obtain⟨i,g⟩:∃i,i=PE own:=⟨_,rfl⟩;rw[<-f,<-g];have h:=aS (VZ (c:=⟨w.heap.size+1+1,w.heap.size+1,any,own⟩) (bs:=bs) (md:=md) ⟨Q.1,Q.2.1⟩ F v t (ze O) s' _ Q.2.2.1 Q.2.2.2.1 (vy (.cells #[x,i] 244) Q.2.2.2.2.1 Q.2.2.2.2.2.1 Q.2.2.2.2.2.2.1 D Q.2.2.2.2.2.2.2.1 Q.2.2.2.2.2.2.2.2.1 Q.2.2.2.2.2.2.2.2.2));rw[<-f,<-g]at h;unfold CP at h;clear f g;go_enter func112,ntmps112;go_wp2_with fail;refine h.mono ?_;rintro e G ⟨rfl,C,l⟩;have j:=aS (aL C l);clear C l h;go_wp2;go_ret;exact⟨_,_,rfl,j.1,Gb.allocL (Gb.allocL (Gb.allocL j.2))⟩
theorem Gb.none(h:Gb (λk=>w.heap.size<=k) w w'):w.grownBy w' none:=⟨h.os,h.tape,h.output,h.size,λk e _=>h.block k e (by omega)⟩
theorem Gb.below(h:Below w.heap.size w w')(R:Nat->Prop):Gb R w w':=⟨h.os,h.tape,h.output,h.size,λk e _=>h.block k e⟩
theorem DG.high{c d x:Nat}{b:Option AB}(h:Gb (DG [] ⟨c,d,b,none⟩ x) w w'):Gb (λk=>x<=k) w w':=h.mono λk e=>by
 rcases e with e|e|⟨a,e,_⟩
 ·cases e
 ·exact e
 ·cases e
theorem oy{t:Et}(m:ER H [] v t)(l:fS ⟨[],[]⟩ 1 F t (ze [])=some s')(n:Fz H w):
  Calls prog 80 #[v] w λe z=>e= .returned (.string (B s'.out))/\w.grownBy z none:=by
 have Q:=aS (aL m (aL l n));clear m l n;go_enter func80,ntmps80;go_wp2_with fail;refine(uz w).mono ?_;rintro e A ⟨y,rfl,p,c,j⟩;have x:=aS (LG (H:=H) (ca:=[]) (σ:=⟨[],[]⟩) (d:=λ_=>0) (any:=some y) (own:=none) (bs:=w.heap.size) (md:=1) (O:=[]) (w:=A) ⟨λe=>absurd e (by decide),λe=>by cases e⟩ (λe=>absurd e (by decide)) Q.1 Q.2.1 (fY.nil (Q.2.2.grown c)) (λa h=>by cases h) (λk o e=>Q.2.2.lt e) c.size (λa e=>by cases e;exact⟨p,j⟩) (λa e=>by cases e) (λa b _ e=>by cases e));have r:=aS c;clear p c j;unfold PD PE at x;simp only at x;unfold Jo at*;go_wp2_with fail;refine x.mono ?_;rintro e E ⟨C,D,rfl,q,i⟩;have f:=aS (TV q.dr);have s:=aS i;clear q i x;unfold CP at*;go_wp2_with fail;refine f.mono ?_;rintro e G ⟨rfl,g⟩;have u:=aS g;clear g f;go_wp2;go_ret;exact⟨rfl,((((Gb.new (R:=λk=>w.heap.size<=k) r.out).tr (DG.high s.out)).tr (Gb.below u.out _))).none⟩
theorem Kj{t:Et}(n:ER H [] v t)(m:fS ⟨[],[]⟩ 0 F t (ze [])=some s')(c:Fz H w):
  Calls prog 191 #[v] w λe s=>e= .returned (.string (B s'.out))/\w.grownBy s none:=by
 have y:∀(j:Fn) (first i:Array Value) (w:World),(Instr.makeFunc j first i).run prog w= .ok (.func j first i) w:=λ_ _ _ _=>rfl;have x:=aS (LG (H:=H) (ca:=[]) (σ:=⟨[],[]⟩) (d:=λ_=>0) (any:=none) (own:=none) (bs:=w.heap.size) (md:=0) (O:=[]) (w:=w) ⟨λ_=>rfl,λ_=>rfl⟩ (λe=>absurd e (by decide)) n m (fY.nil c) (λa h=>by cases h) (λk o e=>c.lt e) (aV _) (λa e=>by cases e) (λa e=>by cases e) (λa b _ e=>by cases e));unfold PD PE at x;simp only at x;unfold ownV at*;clear n m c;go_enter func191,ntmps191;go_wp2_with fail;refine x.mono ?_;rintro e A ⟨u,z,rfl,p,l⟩;have f:=aS (TV p.dr);have q:=aS l;clear p l x;unfold CP at*;go_wp2_with fail;refine f.mono ?_;rintro e C ⟨rfl,g⟩;have r:=aS g;clear g f;go_wp2;go_ret;exact⟨rfl,((DG.high q.out).tr (Gb.below r.out _)).none⟩
theorem vz(a:aD)(b:a.Nodup)(m:Nat)(H:aB)(v:Value)(x:Ty)(w:World)(h:gG a m H v x)(d:Fz H w)(ok:dJ a.length m x)(l:cC m x<=150):
  Calls prog 80 #[v] w λe j=>e= .returned (.string (B (fJ m x)))/\w.grownBy j none:=by
 have c:=rF m x [] ok;have k:=GC m x [] ok;obtain⟨i,f,g⟩:=qF ⟨[],[]⟩ b m x [] (ze []) m ok (aV _) rfl (by simp at c;omega) (by simp) (by show 0+_<=_;omega) (by show 0+_<=_;omega)
 have e:i.out=fJ m x:=by rw[g.out,YH ok];rfl
 rw[<-e];exact oy ⟨m,gG.et m v x h⟩ f d
theorem uM(w:World)(a b:Nat)(s t:aA)(x:w.cell? ⟨a,0,none⟩=some (.string (B s)))(c:w.cell? ⟨b,0,none⟩=some (.string (B t))):Calls prog 152 #[.iface 346 (.pointer (some ⟨a,0,none⟩)), .iface 346 (.pointer (some ⟨b,0,none⟩))] w λe h=>e= .returned (.bool (decide (s=t)))/\w.grownBy h none:=by
 have f:=kO a;have g:=kO b;have d:=fq s t;generalize decide (s=t)=r at*;go_enter func152,ntmps152;go_wp2_with fail
 go_quiet (fail)
 go_wp2;go_ret;exact⟨rfl,⟨rfl,rfl,rfl,aV _,λ_ _ _=>rfl⟩⟩
theorem IC(w:World)(a b:Nat):Calls prog 152 #[.iface 346 (.pointer (some ⟨a,0,none⟩)), .iface 309 (.pointer (some ⟨b,0,none⟩))] w λe h=>e= .returned (.bool (false))/\w.grownBy h none:=by
 have x:=kO a;have c:=zR b;go_enter func152,ntmps152;go_wp2_with fail
 go_quiet (fail)
 go_wp2;go_ret;exact⟨rfl,⟨rfl,rfl,rfl,aV _,λ_ _ _=>rfl⟩⟩
theorem wF(w:World)(a b:Nat):Calls prog 152 #[.iface 346 (.pointer (some ⟨a,0,none⟩)), .iface 349 (.pointer (some ⟨b,0,none⟩))] w λe h=>e= .returned (.bool (false))/\w.grownBy h none:=by
 have x:=kO a;have c:=lF b;go_enter func152,ntmps152;go_wp2_with fail
 go_quiet (fail)
 go_wp2;go_ret;exact⟨rfl,⟨rfl,rfl,rfl,aV _,λ_ _ _=>rfl⟩⟩
theorem wG(w:World)(a b:Nat):Calls prog 152 #[.iface 346 (.pointer (some ⟨a,0,none⟩)), .iface 361 (.pointer (some ⟨b,0,none⟩))] w λe h=>e= .returned (.bool (false))/\w.grownBy h none:=by
 have x:=kO a;have c:=lH b;go_enter func152,ntmps152;go_wp2_with fail
 go_quiet (fail)
 go_wp2;go_ret;exact⟨rfl,⟨rfl,rfl,rfl,aV _,λ_ _ _=>rfl⟩⟩
theorem uN(w:World)(a b:Nat):Calls prog 152 #[.iface 346 (.pointer (some ⟨a,0,none⟩)), .iface 291 (.pointer (some ⟨b,0,none⟩))] w λe h=>e= .returned (.bool (false))/\w.grownBy h none:=by
 have x:=kO a;have c:=kP b;go_enter func152,ntmps152;go_wp2_with fail
 go_quiet (fail)
 go_wp2;go_ret;exact⟨rfl,⟨rfl,rfl,rfl,aV _,λ_ _ _=>rfl⟩⟩
theorem wH(w:World)(a b:Nat):Calls prog 152 #[.iface 349 (.pointer (some ⟨a,0,none⟩)), .iface 346 (.pointer (some ⟨b,0,none⟩))] w λe h=>e= .returned (.bool (false))/\w.grownBy h none:=by have x:=lF a;have c:=lG a;have d:=FK b;go_enter func152,ntmps152;go_wp2;go_ret;exact⟨rfl,bC _ _⟩
theorem LH(w:World)(a b:Nat):Calls prog 152 #[.iface 349 (.pointer (some ⟨a,0,none⟩)), .iface 309 (.pointer (some ⟨b,0,none⟩))] w λe h=>e= .returned (.bool (false))/\w.grownBy h none:=by have x:=lF a;have c:=lG a;have d:=ep b;go_enter func152,ntmps152;go_wp2;go_ret;exact⟨rfl,bC _ _⟩
theorem yJ(w:World)(a b:Nat):Calls prog 152 #[.iface 349 (.pointer (some ⟨a,0,none⟩)), .iface 349 (.pointer (some ⟨b,0,none⟩))] w λe h=>e= .returned (.bool (true))/\w.grownBy h none:=by have x:=lF a;have c:=lG a;have d:=lG b;go_enter func152,ntmps152;go_wp2;go_ret;exact⟨rfl,bC _ _⟩
theorem yK(w:World)(a b:Nat):Calls prog 152 #[.iface 349 (.pointer (some ⟨a,0,none⟩)), .iface 361 (.pointer (some ⟨b,0,none⟩))] w λe h=>e= .returned (.bool (false))/\w.grownBy h none:=by have x:=lF a;have c:=lG a;have d:=lI b;go_enter func152,ntmps152;go_wp2;go_ret;exact⟨rfl,bC _ _⟩
theorem wI(w:World)(a b:Nat):Calls prog 152 #[.iface 349 (.pointer (some ⟨a,0,none⟩)), .iface 291 (.pointer (some ⟨b,0,none⟩))] w λe h=>e= .returned (.bool (false))/\w.grownBy h none:=by have x:=lF a;have c:=lG a;have d:=kL b;go_enter func152,ntmps152;go_wp2;go_ret;exact⟨rfl,bC _ _⟩
theorem wJ(w:World)(a b:Nat):Calls prog 152 #[.iface 361 (.pointer (some ⟨a,0,none⟩)), .iface 346 (.pointer (some ⟨b,0,none⟩))] w λe h=>e= .returned (.bool (false))/\w.grownBy h none:=by have x:=lH a;have c:=lI a;have d:=lJ a;have f:=FL b;go_enter func152,ntmps152;go_wp2;go_ret;exact⟨rfl,bC _ _⟩
theorem LJ(w:World)(a b:Nat):Calls prog 152 #[.iface 361 (.pointer (some ⟨a,0,none⟩)), .iface 309 (.pointer (some ⟨b,0,none⟩))] w λe h=>e= .returned (.bool (false))/\w.grownBy h none:=by have x:=lH a;have c:=lI a;have d:=lJ a;have f:=fc b;go_enter func152,ntmps152;go_wp2;go_ret;exact⟨rfl,bC _ _⟩
theorem yL(w:World)(a b:Nat):Calls prog 152 #[.iface 361 (.pointer (some ⟨a,0,none⟩)), .iface 349 (.pointer (some ⟨b,0,none⟩))] w λe h=>e= .returned (.bool (false))/\w.grownBy h none:=by have x:=lH a;have c:=lI a;have d:=lJ a;have f:=XP b;go_enter func152,ntmps152;go_wp2;go_ret;exact⟨rfl,bC _ _⟩
theorem yM(w:World)(a b:Nat):Calls prog 152 #[.iface 361 (.pointer (some ⟨a,0,none⟩)), .iface 361 (.pointer (some ⟨b,0,none⟩))] w λe h=>e= .returned (.bool (true))/\w.grownBy h none:=by have x:=lH a;have c:=lI a;have d:=lJ a;have f:=lJ b;go_enter func152,ntmps152;go_wp2;go_ret;exact⟨rfl,bC _ _⟩
theorem wK(w:World)(a b:Nat):Calls prog 152 #[.iface 361 (.pointer (some ⟨a,0,none⟩)), .iface 291 (.pointer (some ⟨b,0,none⟩))] w λe h=>e= .returned (.bool (false))/\w.grownBy h none:=by have x:=lH a;have c:=lI a;have d:=lJ a;have f:=kM b;go_enter func152,ntmps152;go_wp2;go_ret;exact⟨rfl,bC _ _⟩
theorem uO(w:World)(a b:Nat):Calls prog 152 #[.iface 291 (.pointer (some ⟨a,0,none⟩)), .iface 346 (.pointer (some ⟨b,0,none⟩))] w λe h=>e= .returned (.bool (false))/\w.grownBy h none:=by have c:=kP a;have d:=kL a;have f:=kM a;have x:=jC a;have g:=vV b;go_enter func152,ntmps152;go_wp2;go_ret;exact⟨rfl,bC _ _⟩
theorem ID(w:World)(a b:Nat):Calls prog 152 #[.iface 291 (.pointer (some ⟨a,0,none⟩)), .iface 309 (.pointer (some ⟨b,0,none⟩))] w λe h=>e= .returned (.bool (false))/\w.grownBy h none:=by have c:=kP a;have d:=kL a;have f:=kM a;have x:=jC a;have g:=L3 b;go_enter func152,ntmps152;go_wp2;go_ret;exact⟨rfl,bC _ _⟩
theorem wL(w:World)(a b:Nat):Calls prog 152 #[.iface 291 (.pointer (some ⟨a,0,none⟩)), .iface 349 (.pointer (some ⟨b,0,none⟩))] w λe h=>e= .returned (.bool (false))/\w.grownBy h none:=by have c:=kP a;have d:=kL a;have f:=kM a;have x:=jC a;have g:=FN b;go_enter func152,ntmps152;go_wp2;go_ret;exact⟨rfl,bC _ _⟩
theorem wM(w:World)(a b:Nat):Calls prog 152 #[.iface 291 (.pointer (some ⟨a,0,none⟩)), .iface 361 (.pointer (some ⟨b,0,none⟩))] w λe h=>e= .returned (.bool (false))/\w.grownBy h none:=by have c:=kP a;have d:=kL a;have f:=kM a;have x:=jC a;have g:=FP b;go_enter func152,ntmps152;go_wp2;go_ret;exact⟨rfl,bC _ _⟩
theorem uP(w:World)(a b:Nat):Calls prog 152 #[.iface 291 (.pointer (some ⟨a,0,none⟩)), .iface 291 (.pointer (some ⟨b,0,none⟩))] w λe h=>e= .returned (.bool (true))/\w.grownBy h none:=by have c:=kP a;have d:=kL a;have f:=kM a;have x:=jC a;have g:=jC b;go_enter func152,ntmps152;go_wp2;go_ret;exact⟨rfl,bC _ _⟩
theorem wa{n o:aD}{m i:Nat}{H:aB}{u v:Value}{x y:Ty}(w:World)(g:gG n m H u x)(d:gG o i H v y)(j:Fz H w)(l:x.kind≠[]):
  Calls prog 152 #[u,v] w λe p=>e= .returned (.bool (decide (x.kind=y.kind)))/\w.grownBy p none:=by
 cases m with
 |zero=>exact absurd g id
 |succ m=>
 cases i with
 |zero=>exact absurd d id
 |succ i=>
 obtain⟨a,g⟩:=g;obtain⟨b,d⟩:=d;rcases g with⟨c,_⟩|⟨c,_,rfl,k⟩|⟨c,_,_,_,rfl,_⟩|⟨c,_,_,_,_,_,rfl,_⟩|⟨c,_,_,_,_,_,rfl,_⟩
 ·exact absurd c l
 ·rcases d with⟨h,_,_,rfl,_⟩|⟨h,_,rfl,f⟩|⟨h,_,_,_,rfl,_⟩|⟨h,_,_,_,_,_,rfl,_⟩|⟨h,_,_,_,_,_,rfl,_⟩
  ·rw[bN (by rcases c with c|c<;>rw[c,h]<;>decide)];exact IC w a b
  ·exact uM w a b x.kind y.kind (by simp[World.cell?,j _ _ k]) (by simp[World.cell?,j _ _ f])
  ·rw[bN (by rcases c with c|c<;>rw[c,h]<;>decide)];exact wF w a b
  ·rw[bN (by rcases c with c|c<;>rw[c,h]<;>decide)];exact wG w a b
  ·rw[bN (by rcases c with c|c<;>rw[c,h]<;>decide)];exact uN w a b
 ·rcases d with⟨h,_,_,rfl,_⟩|⟨h,_,rfl,f⟩|⟨h,_,_,_,rfl,_⟩|⟨h,_,_,_,_,_,rfl,_⟩|⟨h,_,_,_,_,_,rfl,_⟩
  ·rw[bN (by rw[c,h]<;>decide)];exact LH w a b
  ·rw[bN (by rcases h with h|h<;>rw[c,h]<;>decide)];exact wH w a b
  ·rw[dE (by rw[c,h])];exact yJ w a b
  ·rw[bN (by rw[c,h]<;>decide)];exact yK w a b
  ·rw[bN (by rw[c,h]<;>decide)];exact wI w a b
 ·rcases d with⟨h,_,_,rfl,_⟩|⟨h,_,rfl,f⟩|⟨h,_,_,_,rfl,_⟩|⟨h,_,_,_,_,_,rfl,_⟩|⟨h,_,_,_,_,_,rfl,_⟩
  ·rw[bN (by rw[c,h]<;>decide)];exact LJ w a b
  ·rw[bN (by rcases h with h|h<;>rw[c,h]<;>decide)];exact wJ w a b
  ·rw[bN (by rw[c,h]<;>decide)];exact yL w a b
  ·rw[dE (by rw[c,h])];exact yM w a b
  ·rw[bN (by rw[c,h]<;>decide)];exact wK w a b
 ·rcases d with⟨h,_,_,rfl,_⟩|⟨h,_,rfl,f⟩|⟨h,_,_,_,rfl,_⟩|⟨h,_,_,_,_,_,rfl,_⟩|⟨h,_,_,_,_,_,rfl,_⟩
  ·rw[bN (by rw[c,h]<;>decide)];exact ID w a b
  ·rw[bN (by rcases h with h|h<;>rw[c,h]<;>decide)];exact uO w a b
  ·rw[bN (by rw[c,h]<;>decide)];exact wL w a b
  ·rw[bN (by rw[c,h]<;>decide)];exact wM w a b
  ·rw[dE (by rw[c,h])];exact uP w a b
end Go.Proofs.YtcdijppegfcoaaaGreatDoor
