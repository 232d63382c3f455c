import Derived.Test.YtcdijppegfcoaaaGreatDoorZH31
set_option maxRecDepth 100000
set_option maxHeartbeats 4000000
set_option linter.unusedSimpArgs false
namespace Go.Proofs.YtcdijppegfcoaaaGreatDoor
open Go.RowKit Tryz
variable{mb:Nat}{w3:World}
def pk(w:World)(h:Nat)(L:aC):Prop:=GM kI uV 3 w h (L.map λn=>(n,()))
def Qw(h:bM)(L:aC):Prop:=∀n,n∈L->n<h.rep.length
theorem pk.len{x:bM}{w:World}{L:aC}(h:pk w mb L)(ok:Qw x L):(L.map λn=>(n,())).length<=x.rep.length:=by
 obtain⟨D,_,_,b,_⟩:=h;have e:(L.map λn=>(n,())).map (·.1)=L:=by rw[o9];exact List.map_id L
 rw[e]at b;have c:L.Subset (List.range x.rep.length):=λa f=>eV.2 (ok a f);have d:=ee b c;simpa using d
theorem Dh{L:aC}{n:Nat}(h:n∉L):sI (L.map λn=>(n,())) n ()=(L++[n]).map λn=>(n,()):=by
 have e:dR (L.map λn=>(n,())) n=none:=by
  have w:=U5 L n;rw[bN h]at w
  cases x:dR (L.map λn=>(n,())) n with
  |none=>rfl
  |some u=>rw[x]at w;cases w
 rw[oP () e,eR];rfl
def Wx(H:aB)(x:aC)(b:bM)(d:aI)(a:Nat)(L:aC)(w:World)(e:Ending)(h:World):Prop:=
 (∃z,e= .returned z)/\fY H x b d h/\pk h a L/\Qw b L/\Gb (λk=>dT x k\/k=a) w h
theorem ZM{e:TypeId}(h:dz e)(x:e≠265)(b:Nat)(w:World):(Instr.typeAssert (.iface e (.pointer (some ⟨b,0,none⟩))) 156 265 true).run prog w= .ok (.tuple #[.pointer none, .bool false]) w:=by
 rcases h with rfl|rfl|rfl|rfl|rfl|rfl
 ·exact absurd rfl x
 ·exact r8 b w
 ·exact pV b w
 ·exact pF b w
 ·exact pG b w
 ·exact nK b w
theorem Di{H:aB}{c:aC}{m:bM}{d:aI}{a:aH}{w:World}{e:Ending}(i:fY H c m d w)(o:mb<w.heap.size)
  (l:(a=[]/\e= .returned (.slice none 0 0))\/∃x,e= .returned (.slice (some ⟨x,0,none⟩) a.length a.length)/\w.heap.size<=x/\w3.heap[x]? =some (.cells a.toArray 156 (0,0))):
  ∃b g,e= .returned (.slice b a.length g)/\∀(j:Nat) (u:Value),a[j]? =some u->∃x,b=some ⟨x,0,none⟩/\x<w3.heap.size/\¬dT c x/\x≠mb/\w3.cell? ⟨x,j,none⟩=some u:=by
 rcases l with⟨rfl,rfl⟩|⟨x,rfl,p,f⟩
 ·exact⟨none,0,rfl,λj u h=>by simp at h⟩
 ·refine⟨_,_,rfl,λj u h=>⟨x,rfl,aT f,λk=> ?_, ?_, ?_⟩⟩
  ·have n:=dT.lt i k;omega
  ·omega
  ·rw[FH w3 x j _ _ _ f];simpa using h
theorem xi{H:aB}{ca:aC}{σ:bM}{d:aI}{mb:Nat}(x6:H mb=none)(h6:mb∉ca):∀(f:Nat) (t:Et) (v:Value) (L s:aC) (w:World),ER H ca v t->uZ σ f t L=some s->fY H ca σ d w->pk w mb L->Qw σ L->
  Calls prog 246 #[.map (some mb),v] w (Wx H ca σ d mb s w):=by
 intro f
 induction f with
 |zero=>intro t v L s w _ h;cases h
 |succ f ih=>
  intro t v L s w N q I Y ok;rw[uZ]at q;by_cases U:t.kind=cM
  ·rw[aR U]at q;obtain⟨x,ec,rfl⟩:=qH N U;obtain⟨c,h8⟩:∃c,c=t.num:=⟨_,rfl⟩;have w4:fH σ t=fH σ (cT c):=by unfold fH;rw[aR U,aR (show(cT c).kind=cM from rfl),h8];rfl
   rw[w4,<-h8]at q;rw[<-h8]at ec;have HL:=aS (jG (d c+1) c x w (by omega) ec I);obtain⟨b0,e1,w0⟩:=I.root_get ec;have x7:σ.root c<σ.rep.length:=(aU.1 (I.rr _ _ e1)).1;have a2:=I.few;have x5:=Y.lt;have t1:=mB x;have tm:=od x;have HR:=aS q;have HF:=aS (aL Y ok);have EC:=aS (aL ec (aL w0 (I.rr _ _ e1)));have IH:=aS ih;clear q I Y ok ih ec e1 w0 N U w4 h8;unfold CI;unfold CP at HL;go_enter func246,ntmps246;go_wp2_with fail;refine HL.mono ?_;rintro e A ⟨b1,rfl,h1,h2,G,h4⟩;obtain rfl:=aY (EC.2.1.symm.trans h1);obtain⟨v1,w8,w6⟩:=h2.root_val (aU.1 EC.1).1 h1;obtain⟨x0,x1,_,_⟩:=fZ w8;have Z:pk A mb L:=HF.1.gb G h6;have e7:=QC.look (ca:=ca) (L:=L) (bv:= .map (some mb)) (w:=A) (n:=σ.root c) (aM ⟨mb,rfl,h6,Z⟩) (by omega);have K:=aS (aL h2 (aL G (aL Z w6)));clear h1 h2 G h4 w8 Z w6 HL;unfold CP;have q:=HR.out;by_cases S:σ.root c∈L
   ·rw[aR S]at q;cases q;rw[dE S]at e7;have M:A.grownBy (A.alloc (.cells #[] 371)) none:=aO _ _ _;have Q9:=aS (show Wx H ca σ d mb L w (.returned (.tuple #[])) (A.alloc (.cells #[] 371))from⟨⟨_,rfl⟩,K.1.grown0 M,GM.gb K.2.2.1 (R:=λ_=>False) (Gb.new M) id,HF.2,(K.2.1.mono (R':=λk=>dT ca k\/k=mb) (λi e=>aQ e)).tr (Gb.new M)⟩);clear HR S M;go_wp2;refine eN (MW rfl _ _ _) rfl ?_;exact Q9.out
   ·rw[aN S]at q;rw[bN S]at e7;have M:A.grownBy (A.alloc (.cells #[] 371)) none:=aO _ _ _;have Z:pk (A.alloc (.cells #[] 371)) mb L:=GM.gb K.2.2.1 (R:=λ_=>False) (Gb.new M) id;obtain⟨w2,w7,e4,g2⟩:=GM.store Z wC underlying336 OY OZ (by have:=pk.len K.2.2.1 HF.2;omega) () (wD (n:=σ.root c) (by omega));have a0:(Instr.mapUpdate 336 (.map (some mb)) (.int .i64 ((σ.root c:Int)+1)) (.agg #[])).run prog (A.alloc (.cells #[] 371))= .ok () w2:=w7;rw[Dh S]at e4
    have x2:Qw σ (L++[σ.root c]):=λn hn=>by
     rcases cH.1 hn with h|h
     ·exact HF.2 n h
     ·rw[bF.1 h];exact x7
    have e3:Gb (λk=>k=mb) A w2:=(Gb.new M).tr (Gb.of g2 (λb e=>aQ (aY e).symm));have c2:fY H ca σ d w2:=K.1.gb e3 (λa ha e=>h6 (e▸ha)) (λk o e e2=>by rw[e2,x6]at e;cases e);obtain⟨p,x9,hK,hB⟩:=yI (σ:=σ) (d:=d) EC.1 c2;have O:=aS hB;have P:=aS hK;have G2:=aS (aL (K.2.1.mono (R':=λk=>dT ca k\/k=mb) (λi e=>aQ e)) (e3.mono (R':=λk=>dT ca k\/k=mb) (λi e=>aM e)));have F2:=aS (aL e4 (aL x2 c2));have h9:=aS q;have a1:=tm w2;clear w7 e4 g2 x2 e3 c2 hK hB q HF HR S M Z;unfold CP at O;go_wp2_with fail;refine O.mono ?_;rintro e w3 ⟨r1,W,r3⟩;obtain⟨ao,x3,he,h7⟩:=Di (mb:=mb) F2.2.2 F2.1.lt r3;subst he;have e0:=aS h7;have C:=aS (aL r1 (aL (F2.1.gb W h6) (aL F2.2.1 (G2.1.tr (G2.2.tr (W.mono (λi e=>aQ e)))))));clear h7 r1 W r3 O x0 x1 e7 a0 G2 F2 K tm a1;go_wp2_with fail
    go_loopg [35] (p.length+1) (λgh i X=>∃(j:Nat) (l:aC),j<=p.length/\i= .int .i64 j/\gh=p.length-j+1/\Hid (kE (uZ σ f) ((fH σ (cT c)).drop j) l=some s)/\Hid ((fY H ca σ d X/\pk X mb l/\Qw σ l)/\Gb (λk=>dT ca k\/k=mb) w3 X))
    case atStart=>exact⟨0,_,by omega,rfl,by omega,h9,aS ⟨⟨C.1,C.2.1,C.2.2.1⟩,Gb.refl _ _⟩⟩
    case round=>
     obtain⟨j,l,hj,rfl,x4,D,g⟩:=hrel;by_cases h5:j<p.length
     ·have T:j<(fH σ (cT c)).length:=by rw[<-P.1];exact h5
      obtain⟨u,V⟩:∃u,p[j]? =some u:=⟨_,aP h5⟩;obtain⟨y,J⟩:∃y,(fH σ (cT c))[j]? =some y:=⟨_,aP T⟩;obtain⟨gn,rfl,e5,e8,e9,cu⟩:=e0.out j u V;have du:wr.cell? ⟨gn,j,none⟩=some u:=g.out.2.cell cu e5 (λe=>e.elim e8 e9)
      have hd:(fH σ (cT c)).drop j=y::(fH σ (cT c)).drop (j+1):=by rw[cO T];rw[aP T]at J;rw[aY J]
      have r:=D.out;rw[hd,kE]at r
      cases E:uZ σ f y l with
      |none=>rw[E]at r;cases r
      |some Q=>
       rw[E]at r;have h0:=aS (IH.out y u l Q wr (P.2 j u y V J) E g.out.1.1 g.out.1.2.1 g.out.1.2.2);have J2:=aS (show kE (uZ σ f) ((fH σ (cT c)).drop (j+1)) Q=some s from r);clear V J cu hd r E D;go_wp2_with fail;refine h0.mono ?_;rintro e w5 ⟨⟨z,rfl⟩,c5,f5,o5,g5⟩;have G5:=aS (aL (aL c5 (aL f5 o5)) g5);clear c5 f5 o5 g5 h0;go_wp2_with fail
       go_roundg (p.length-(j+1)+1)
       case measure=>omega
       case rel=>exact⟨j+1,Q,by omega,by go_num,rfl,J2,aS ⟨G5.1,g.out.2.tr G5.2⟩⟩
     ·have e6:j=p.length:=by omega
      subst e6
      have hR:l=s:=by have G:=D.out;rw[P.1,lR]at G;exact aY G
      subst hR;have Q9:=aS (show Wx H ca σ d mb l w (.returned (.tuple #[])) wr from⟨⟨_,rfl⟩,g.out.1.1,g.out.1.2.1,g.out.1.2.2,C.2.2.2.tr g.out.2⟩);clear D;go_wp2;refine eN (MW rfl _ _ _) rfl ?_;exact Q9.out
  ·rw[aN U]at q;obtain⟨m,N⟩:=N
   cases m with
   |zero=>exact absurd N id
   |succ m=>
   obtain⟨_,_,hI,w9⟩:=N.val;obtain⟨T0,b,F,p,rfl,hT,x9,hK,hN,hF⟩:=E9 σ d N U;obtain⟨rfl,_⟩:=Value.iface.inj w9;have ta:=ZM hI hT b;obtain⟨tm,hB,_⟩:=hN w I;have O:=aS hB;have P:=aS hK;have h9:=aS q;have F2:=aS (aL Y (aL ok I));have IH:=aS ih;have x5:=Y.lt;clear q I Y ok ih N U hB hK hN hI w9;unfold CP at O;rcases hF with rfl|rfl|rfl|rfl|rfl
   all_goals
    go_enter func246,ntmps246;go_wp2_with fail;refine O.mono ?_;rintro e w3 ⟨r1,W,r3⟩;obtain⟨ao,x3,he,h7⟩:=Di (mb:=mb) F2.2.2 F2.1.lt r3;subst he;have e0:=aS h7;have C:=aS (aL r1 (aL (F2.1.gb W h6) (aL F2.2.1 (W.mono (R':=λk=>dT ca k\/k=mb) (λi e=>aQ e)))));clear h7 r1 W r3 O F2;go_wp2_with fail
    go_loopg [35] (p.length+1) (λgh i X=>∃(j:Nat) (l:aC),j<=p.length/\i= .int .i64 j/\gh=p.length-j+1/\Hid (kE (uZ σ f) (t.kids.drop j) l=some s)/\Hid ((fY H ca σ d X/\pk X mb l/\Qw σ l)/\Gb (λk=>dT ca k\/k=mb) w3 X))
    case atStart=>exact⟨0,_,by omega,rfl,by omega,h9,aS ⟨⟨C.1,C.2.1,C.2.2.1⟩,Gb.refl _ _⟩⟩
    case round=>
     obtain⟨j,l,hj,rfl,x4,D,g⟩:=hrel;by_cases h5:j<p.length
     ·have T:j<(t.kids).length:=by rw[<-P.1];exact h5
      obtain⟨u,V⟩:∃u,p[j]? =some u:=⟨_,aP h5⟩;obtain⟨y,J⟩:∃y,(t.kids)[j]? =some y:=⟨_,aP T⟩;obtain⟨gn,rfl,e5,e8,e9,cu⟩:=e0.out j u V;have du:wr.cell? ⟨gn,j,none⟩=some u:=g.out.2.cell cu e5 (λe=>e.elim e8 e9)
      have hd:(t.kids).drop j=y::(t.kids).drop (j+1):=by rw[cO T];rw[aP T]at J;rw[aY J]
      have r:=D.out;rw[hd,kE]at r
      cases E:uZ σ f y l with
      |none=>rw[E]at r;cases r
      |some Q=>
       rw[E]at r;have h0:=aS (IH.out y u l Q wr (P.2 j u y V J) E g.out.1.1 g.out.1.2.1 g.out.1.2.2);have J2:=aS (show kE (uZ σ f) ((t.kids).drop (j+1)) Q=some s from r);clear V J cu hd r E D;go_wp2_with fail;refine h0.mono ?_;rintro e w5 ⟨⟨z,rfl⟩,c5,f5,o5,g5⟩;have G5:=aS (aL (aL c5 (aL f5 o5)) g5);clear c5 f5 o5 g5 h0;go_wp2_with fail
       go_roundg (p.length-(j+1)+1)
       case measure=>omega
       case rel=>exact⟨j+1,Q,by omega,by go_num,rfl,J2,aS ⟨G5.1,g.out.2.tr G5.2⟩⟩
     ·have e6:j=p.length:=by omega
      subst e6
      have hR:l=s:=by have G:=D.out;rw[P.1,lR]at G;exact aY G
      subst hR;have Q9:=aS (show Wx H ca σ d mb l w (.returned (.tuple #[])) wr from⟨⟨_,rfl⟩,g.out.1.1,g.out.1.2.1,g.out.1.2.2,C.2.2.2.tr g.out.2⟩);clear D;go_wp2;refine eN (MW rfl _ _ _) rfl ?_;exact Q9.out
theorem FM.same{w a:World}{x:aD}{g:aK}(h:FM w mb x g)(e:a.heap[mb]? =w.heap[mb]?):FM a mb x g:=by obtain⟨D,⟨c,b,i,d⟩,f⟩:=h;exact⟨D,⟨c,b,e.trans i,d⟩,f⟩
theorem QQ{h k:Nat}(w x a b c:Value)(e:k≠h):(((((w3.setCell ⟨h,0,none⟩ w).setCell ⟨h,1,none⟩ x).setCell ⟨h,2,none⟩ a).setCell ⟨h,3,none⟩ b).setCell ⟨h,4,none⟩ c).heap[k]? =w3.heap[k]? :=by rw[bO _ _ _ _ e,bO _ _ _ _ e,bO _ _ _ _ e,bO _ _ _ _ e,bO _ _ _ _ e]
theorem LV(s:ByteArray)(w:World):(Instr.field 101 (.agg #[.string s]) 0).run prog w= .ok (.string s) w:=by kernel_rfl
def Xw(w h:World)(e:Ending)(x a:aD):Prop:=
 Gn w h/\∃b c,e= .returned (.tuple #[b,c, .bool false,fv 0 0])/\h.ownsRow w.heap.size 9 1 b x.length (pS x)/\h.ownsRow w.heap.size 9 1 c a.length (pS a)
structure ju(base:Nat)(w wi:World)(vn vt:Value)(l1 l2:aD):Prop where
 n:wi.ownsRow base 9 1 vn l1.length (pS l1)
 t:wi.ownsRow base 9 1 vt l2.length (pS l2)
 ne:∀k,some k=vn.ownBlock->some k≠vt.ownBlock
 bel:Below base w wi
theorem ju.add1{base:Nat}{w a g:World}{f p:Value}{x l:aD}(h:ju base w a f p x l)(A:base<=a.heap.size){k:aA}{o:Obj}{c i:Nat}
  (z:g.ownsRow base 9 1 (.slice (some ⟨c,0,none⟩) (x.length+1) i) (x.length+1) (pS x++[.string (B k)])) (b:(a.alloc o).grownBy g f.ownBlock) (y:f.ownBlock=some c\/c=a.heap.size+1):
  ju base w g (.slice (some ⟨c,0,none⟩) (x.length+1) i) p (x++[k]) l:=by
 have m:∀q,q<a.heap.size->some q≠f.ownBlock->g.heap[q]? =a.heap[q]? :=λq d v=>by rw[b.block q (by simp;omega) v,bQ _ _ _ d]
 have s:(x++[k]).length=x.length+1:=by simp
 have u:pS (x++[k])=pS x++[.string (B k)]:=by simp[pS]
 refine⟨by rw[s,u];exact z,AJ h.t λq e=>m q (mT h.t e).2 (λr=>h.ne q r e),λq e=> ?_,h.bel.trans ⟨b.os,b.tape,b.output,bV (by simp) b.size,λq C=>m q (by omega) (λe=>by have:=(mT h.n e).1;omega)⟩⟩;simp only[Value.ownBlock,dK]at e;subst e;intro j;rcases y with d|d
 ·exact h.ne q d.symm j
 ·have:=(mT h.t j).2;omega
theorem ju.add2{base:Nat}{w a g:World}{p f:Value}{l x:aD}(h:ju base w a p f l x)(z:base<=a.heap.size){k:aA}{o:Obj}{c i:Nat}
  (y:g.ownsRow base 9 1 (.slice (some ⟨c,0,none⟩) (x.length+1) i) (x.length+1) (pS x++[.string (B k)])) (b:(a.alloc o).grownBy g f.ownBlock) (v:f.ownBlock=some c\/c=a.heap.size+1):
  ju base w g p (.slice (some ⟨c,0,none⟩) (x.length+1) i) l (x++[k]):=by
 have m:∀q,q<a.heap.size->some q≠f.ownBlock->g.heap[q]? =a.heap[q]? :=λq d u=>by rw[b.block q (by simp;omega) u,bQ _ _ _ d]
 have r:(x++[k]).length=x.length+1:=by simp
 have s:pS (x++[k])=pS x++[.string (B k)]:=by simp[pS]
 refine⟨AJ h.n λq e=>m q (mT h.n e).2 (h.ne q e),by rw[r,s];exact y,λq e j=> ?_,h.bel.trans ⟨b.os,b.tape,b.output,bV (by simp) b.size,λq A=>m q (by omega) (λe=>by have:=(mT h.t e).1;omega)⟩⟩;simp only[Value.ownBlock,dK]at j;subst j;rcases v with d|d
 ·exact h.ne q e d.symm
 ·have:=(mT h.n e).2;omega
theorem Dj(s1 s2:ByteArray)(h:aD)(g:aK)(w:World)(ad:aF)(cs:aE)(ts:aG)(S:SW w ad cs ts)(hd:h.Nodup)(hL:h.length<=1000)(e5:∀i,i<h.length->(h.getD i []).length<=300)(h7:∀v,v<h.length->(g.getD v none).isSome=true)(e0:g.length=h.length)
  (CI:∀W,SW W ad cs ts->Calls prog 47 #[.string s1, .string s2] W λe F=>W.grownBy F none/\∃b,e= .returned (.tuple #[.map (some b), .nilIface])/\FM F b h g):
  Calls prog 21 #[.string s1, .string s2] w λe F=>Xw w F e (mX h) ((mX h).map (jt h g)):=by
 have I:w.grownBy (w.alloc (.cells #[.int .i64 0, .int .i64 0, .string (B []), .int .i64 0, .int .i64 0] 23)) none:=aO _ _ _;have S0:=S.grown I;have HC:=aS (CI _ S0);have G0:=aS I;have h6:(mX h).length=h.length:=by unfold mX;rw[MI]
 have h0:=aS (show∀k,k∈mX h->k∈h fromλk l=>by unfold mX at l;exact List.mem_mergeSort.1 l);have p:=aS (aL hd (aL h7 (aL e0 e5)));obtain⟨K,N⟩:∃K,K=mX h:=⟨_,rfl⟩;rw[<-N]at h6 h0⊢;have HK:=aS N;have a1:K.length<=1000:=by omega
 clear S S0 I CI hd h7 e0 e5 h6 N;go_enter func21,ntmps21;go_wp2_with fail;refine HC.mono ?_;rintro e G ⟨J,b,rfl,M⟩
 have V:G.heap[w.heap.size]? =some (.cells #[.int .i64 0, .int .i64 0, .string (B []), .int .i64 0, .int .i64 0] 23 (0,0)):=by rw[J.block _ (by simp) (by simp)];exact bY _ _
 have l0:=aT V;have G1:=aS (G0.trans J);have HF:=aS M;have H:=aS (LU G b h g M p.1 p.2.1 (by have:=p.2.2.1;omega));rw[<-HK.out]at H;have N0:=aS V;clear J M V HC;go_wp2_with fail;refine(Db (some b) G).mono ?_;rintro e w2 ⟨rfl,rfl⟩;go_wp2_with fail;refine H.mono ?_;rintro e c ⟨vs,rfl,e8,g3⟩;have D:G.grownBy c none:=(aO _ _ _).trans g3;obtain⟨ao,cp,rfl,w0⟩:=sJ e8;have HV:=aS w0;have Y:=aS (HF.kept D (by simp));have x6:b<c.heap.size:=Y.lt
 have X:c.heap[w.heap.size]? =some (.cells #[.int .i64 0, .int .i64 0, .string (B []), .int .i64 0, .int .i64 0] 23 (0,0)):=by rw[D.block _ l0 (by simp)];exact N0.out
 have N3:=aS X;have l3:=aT X;have G3:=aS (G1.trans D);clear g3 D X HF N0 H e8 w0;go_wp2_with fail
 go_loopg [4,5,22] (K.length+1) (λgh vn vt i wi=>∃(j:Nat) (d f:aD),j<=K.length/\i= .int .i64 j/\gh=K.length-j+1/\Hid (d=K.take j/\f=(K.take j).map (jt h g))/\Hid (ju c.heap.size c wi vn vt d f)/\c.heap.size<=wi.heap.size)
 case atStart=>exact⟨0,[],[],by omega,rfl,by omega,aS ⟨by simp,by simp⟩,aS ⟨lE _ _ _ _,lE _ _ _ _,λk e=>(by cases e),MH _ _⟩,aV _⟩
 case round=>
  obtain⟨j,d,f,hj,rfl,a4,m,x,x7⟩:=hrel;by_cases E:j<K.length
  ·obtain⟨L,rfl,_,x2,O⟩:=HV.out j E;obtain⟨k,l⟩:∃k,k=K.getD j []:=⟨_,rfl⟩;rw[<-l]at O;have a2:wr.cell? ⟨L,j,none⟩=some (.string (B k)):=by rw[bT (a:=⟨L,j,none⟩) (x.out.bel.block L x2)];exact O
   have e3:k∈h:=h0.out k (by rw[l];exact xJ E);have u:=iG e3;have h5:h.getD (h.idxOf k) []=k:=by simp[List.getD,aP u]
   obtain⟨t,R⟩:∃t,g.getD (h.idxOf k) none=some t:=Option.isSome_iff_exists.1 (p.2.1 _ u)
   have LK:=aS (show∀W:World,W.heap[b]? =c.heap[b]? ->(Instr.lookup 93 (.map (some b)) (.string (B k)) false).run prog W= .ok (.agg #[.string (B t)]) W fromλW e=>by
    have:=(Y.same e).look1 u (p.2.2.2 _ u) R;rw[h5]at this
    exact this)
   have x1:=aS (show d++[k]=K.take (j+1)/\f++[t]=(K.take (j+1)).map (jt h g) by
    have e1:K[j]? =some k:=by rw[aP E,l];simp[List.getD,E]
    have e2:jt h g k=t:=by unfold jt;rw[R];rfl
    rw[m.out.1,m.out.2,iI,e1]
    simp[e2])
   have a5:d.length<=1000:=by rw[m.out.1];simp;omega
   have a6:f.length<=1000:=by rw[m.out.2];simp;omega
   have o:=x.out.n;have y:=x.out.t;obtain⟨h1,h3,T,_⟩:=sJ o;subst T;obtain⟨h2,h4,U,_⟩:=sJ y;subst U;obtain⟨i0,hi,w5,w8,w9⟩:=oR P9;clear l e3 u h5 R O;go_wp2_with (at_builtin;refine jQ _ rfl (.tmp 26) (.tmp 28) 34 rfl c.heap.size 9 i0 (.string (B [])) 1 16 underlying34 hi w5 w8 w9 rfl (by decide) _ _ _ rfl (o.alloc _) ⟨wr.heap.size,0,none⟩ 1 1 [.string (B k)] rfl rfl (IB _ _ _) (NF _) (by decide) (by unfold maxLen;omega) (by omega) (by simp;omega) (wr.heap.size+1) (by simp) ?_);intro g6 x9 z e6 P h8 a7;have C:=x.out.add1 x7 e6 P h8;have b0:wr.heap.size<z.heap.size:=by have:=P.size;simp at this;omega
   have x5:=LK.out z (C.bel.block b x6);have a3:=LV (B t);have e9:=C.t;have Z:=aS C;clear e6 P h8 C o y x LK;go_wp2_with (at_builtin;refine jQ _ rfl (.tmp 30) (.tmp 35) 34 rfl c.heap.size 9 i0 (.string (B [])) 1 16 underlying34 hi w5 w8 w9 rfl (by decide) _ _ _ rfl (e9.alloc _) ⟨z.heap.size,0,none⟩ 1 1 [.string (B t)] rfl rfl (IB _ _ _) (NF _) (by decide) (by unfold maxLen;omega) (by omega) (by simp;omega) (z.heap.size+1) (by simp) ?_);intro g7 a0 w7 e7 Q h9 a8;have H7:=aS (Z.add2 (by omega) e7 Q h9);have b1:z.heap.size<w7.heap.size:=by have:=Q.size;simp at this;omega
   clear e7 Q h9 e9 Z x5;go_wp2_with fail
   go_roundg (K.length-(j+1)+1)
   case measure=>omega
   case rel=>exact⟨j+1,d++[k],f++[t],by omega,by go_num,rfl,x1,H7,by omega⟩
  ·have x3:j=K.length:=by omega
   subst x3;have FA:=aS (BU wr);have a9:=map_some b;have x4:d=K:=by rw[m.out.1,kK]
   have e4:f=K.map (jt h g):=by rw[m.out.2,kK]
   subst x4;have x0:=aS e4;have o:=x.out.n;have y:=x.out.t;obtain⟨h1,h3,T,_⟩:=sJ o;subst T;obtain⟨h2,h4,U,_⟩:=sJ y;subst U;clear e4 o y;go_wp2_with fail;refine FA.mono ?_;rintro e w4 ⟨rfl,s⟩
   have n4:w4.heap[w.heap.size]? =some (.cells #[.int .i64 0, .int .i64 0, .string (B []), .int .i64 0, .int .i64 0] 23 (0,0)):=by rw[s.block _ (by omega) (by simp),x.out.bel.block _ l3];exact N3.out
   obtain⟨⟨q0,q1,q2,q3,q4⟩,f0,f1,f2,f3,f4⟩:=eG n4;have r:=x.out.bel;have G4:=aS ((Gn.of G3.out).trans ((Gn.mk r.os r.output r.size r.block).trans (Gn.of s)));have A:=aS (aL (AJ x.out.n λq e=>s.block q (mT x.out.n e).2 (by simp)) (AJ x.out.t λq e=>s.block q (mT x.out.t e).2 (by simp)));clear s n4 r;unfold fv;go_wp2;refine eN (v:= .tuple #[.slice h1 d.length h3, .slice h2 f.length h4, .bool false,fv 0 0]) (by simp[results,results21,go_sem,q0,q1,q2,q3,q4];rfl) rfl ?_;refine⟨G4.set5 (aV _) _ _ _ _ _,_,_,rfl,YP (AJ A.1 λq e=>QQ _ _ _ _ _ ?_) (by omega), ?_⟩
   ·have:=(mT A.1 e).1;omega
   ·rw[<-x0.out];refine YP (AJ A.2 λq e=>QQ _ _ _ _ _ ?_) (by omega);have:=(mT A.2 e).1;omega
theorem B6{e:Nat}{t:TypeId}{p q r s u:Value}(h:w3.heap[e]? =some (.cells #[p,q,r,s,u] t (0,0)))(w x a b c:Value):(((((w3.setCell ⟨e,0,none⟩ w).setCell ⟨e,1,none⟩ x).setCell ⟨e,2,none⟩ a).setCell ⟨e,3,none⟩ b).setCell ⟨e,4,none⟩ c).heap[e]? =some (.cells #[w,x,a,b,c] t (0,0)):=by simp[World.setCell,dN,h]
theorem Ks{n:ByteArray}{x y:Ty}{c l:aD}{K h e w:Nat}{g:aK}(i:jm n x c)(a:dJ e K x)(b:dJ w h y)(d:iL h l K x y (List.replicate c.length none)=some g)(v:Nat)(f:v<c.length):(g.getD v none).isSome=true:=by obtain⟨_,o,k,_⟩:=i;obtain⟨m,j⟩:=BW _ _ _ _ _ _ k v (by simp) f;rw[EN K K x y _ a a b (b.le (show h<=max K h by omega))]at d;exact PN m K x y _ g j (dJ.wide (show e<=max e w by omega) _ _ a) (dJ.wide (show w<=max e w by omega) _ _ (b.le (show h<=max K h by omega))) (by omega) d (by simpa using f)
theorem SW.gn{w d:World}{f:aF}{g:aE}{j:aG}(h:SW w f g j)(x:Gn w d):SW d f g j:=by
 have c:∀{b:Nat} {v:Value},b<10+1->w.cell? ⟨b,0,none⟩=some v->d.cell? ⟨b,0,none⟩=some v:=λ{b v} l e=>by rw[bT (a:=⟨b,0,none⟩) (x.block b (aZ l h.hsz))];exact e
 exact⟨c (by decide) h.g0,c (by decide) h.g1,c (by decide) h.g2,c (by decide) h.g3,c (by decide) h.g4,c (by decide) h.g5,c (by decide) h.g6,c (by decide) h.g7,c (by decide) h.hE,
  λk i=>by rw[x.block _ (aT (h.hb k i))];exact h.hb k i,h.hne,bV h.hsz x.size⟩
theorem Uz(s:ByteArray)(x:Ty)(a:aD)(m:Nat)(w:World)(c:aF)(d:aE)(j:aG)(S:SW w c d j)(h:jm s x a)(ok:dJ a.length m x):
  Calls prog 18 #[.string s] w λe k=>e= .returned (.tuple #[.string (B (cJ m (eW a.length) x)),fv 0 0])/\Gn w k:=by
 obtain⟨o,i,f,n,t,p⟩:=h;refine(Cz s o w _ x a i f n c d j S).mono ?_;rintro e k ⟨g,(⟨u,rfl⟩|⟨_,r,b,(⟨l,rfl⟩|⟨l,rfl⟩)⟩)⟩
 ·omega
 ·exact absurd (p _ _ b) (by omega)
 ·refine⟨?_,g⟩;have q:=PJ _ [] ⟨0,-1⟩ x a i f _ r b;rw[mQ b q,QI _ b ok]
theorem Xx(f i:ByteArray)(x y:Ty)(a m:aD)(K j o p:Nat)(w:World)(k:aF)(l:aE)(n:aG)(S:SW w k l n)(b:jm f x a)(u:jm i y m)(q:dJ o K x)(r:dJ p j y)
  (g:aK) (d:iL j m K x y (List.replicate a.length none)=some g):
  Calls prog 21 #[.string f, .string i] w λe s=>Xw w s e (mX a) ((mX a).map (jt a g)):=by
 have z:=Ks b q r d;have D:g.length=a.length:=by have:=yH K x y _ _ d;simpa using this
 exact Dj f i a g w k l n S b.names.1.nd b.names.2 b.short z D (λW t=>(Ko f i x y a m K j o p W k l n t b u q r).mono λe s h=>by
  obtain⟨C,(⟨c,_⟩|⟨F,E,c,A,v⟩)⟩:=h
  ·rw[d]at c;cases c
  ·rw[d]at c;cases c
   exact⟨C,E,A,v⟩)
end Go.Proofs.YtcdijppegfcoaaaGreatDoor
