import Derived.Test.YtcdijppegfcoaaaGreatDoorZH25
set_option maxRecDepth 100000
set_option maxHeartbeats 4000000
set_option linter.unusedSimpArgs false
namespace Go.Proofs.YtcdijppegfcoaaaGreatDoor
open Go.RowKit Tryz
variable{g:List (Option aA)}{w':World}{u:Value}{H1 H2:Nat->Option Obj}{gn c:Nat}
def jj(h:aA)(g:aK)(v:Nat):Option (List (Option aA)):=
 match g.getD v none with
 |some t=>if t=h then some g else none
 |none=>some (g.set v (some h))
theorem IJ{h t:aA}{v:Nat}(e:g.getD v none=some t):jj h g v=if t=h then some g else none:=by unfold jj;rw[e]
theorem QB{h:aA}{v:Nat}(e:g.getD v none=none):jj h g v=some (g.set v (some h)):=by unfold jj;rw[e]
theorem yP{M:Nat}{w:aD}{n:Nat}{x y:Ty}{g:aK}(h:x.kind=[]):iL M w (n+1) x y g=jj (cJ M w y) g x.var:=by
 cases e:g.getD x.var none with
 |some t=>rw[IJ e,iL,aR h,e]
 |none=>rw[QB e,iL,aR h,e]
def FO(w a:World)(h:Nat)(b:aD)(e:Ending)(x:Option (List (Option aA))):Prop:=
 w.grownBy a (some h)/\((x=none/\e= .returned (.bool false))\/∃g,x=some g/\e= .returned (.bool true)/\FM a h b g)
theorem rO{w:World}{r:Option Nat}(h:w.grownBy w' none):w.grownBy w' r:=⟨h.os,h.tape,h.output,h.size,λk e _=>h.block k e (by simp)⟩
theorem Cr(s t:aA)(w:World):(binOp .eql 101 (.agg #[.string (B s)]) (.agg #[.string (B t)])).run prog w= .ok (.bool (decide (s=t))) w:=by have:=fq s t;by_cases h:s=t<;>simp[go_sem,this,h]
theorem pg(s:ByteArray)(w:World)(h:s.size<=281474976710656):Calls prog 68 #[.string s] w λe c=>e= .returned (.string s)/\w.grownBy c none:=by go_enter func68,ntmps68;go_wp2_with (go_at_call 97;refine(Tryz.stringslite_Clone _ _ h).mono ?_;rintro e d ⟨rfl,a⟩;have x:=aS a;clear a);go_ret;exact⟨rfl,x.os,x.tape,x.output,x.size,λk b _=>x.block k b⟩
theorem Cs{na q:aD}{N m:Nat}{H:aB}{u:Value}{y:Ty}(w:World)(b v:Nat)(g:aK)(G:∀i,i<N->(q.getD i []).length<=300)(I:gG q m H u y)(ok:dJ N m y)(W:cC m y<=150)(J:Fz H w)
  (S:na.Nodup) (Z:v<na.length) (V:(na.getD v []).length<=300) (R:na.length<=1000) (U:g.length=na.length) (p:FM w b na g):
  Calls prog 151 #[.string (B (na.getD v [])),u, .map (some b)] w λe n=>FO w n b na e (jj (cJ m q y) g v):=by
 have o:=aS (wc G m H u y w I J ok W);have X:(cJ m q y).length<=1000000:=by have:=AX G m y ok;omega
 obtain⟨t0,b0,_,rfl,_⟩:=I.val J;obtain⟨h,Y⟩:∃h,h=cJ m q y:=⟨_,rfl⟩;rw[<-Y]at o X⊢;clear Y I ok W J G;obtain⟨D,A⟩:∃D,D=na.getD v []:=⟨_,rfl⟩;rw[<-A];have F:=aS A;have h3:=p.lt;have h1:(B D).size<=281474976710656:=by rw[A,dY];omega
 have c:=aS (aL Z (aL V (aL R (aL U S))));clear A Z V R U S;have r:=aS p;clear p
 cases l:g.getD v none with
 |some t=>
  rw[IJ l];have s:=aS l;have te:=Cr t h;clear l
  have M:Hid (∀n,FM n b na g->w.grownBy n none->FO w n b na (.returned (.bool (decide (t=h)))) (if t=h then some g else none)):=λn p T=>by
   by_cases C:t=h
   ·rw[aR C,dE C];exact⟨rO T,aM ⟨g,rfl,rfl,p⟩⟩
   ·rw[aN C,bN C];exact⟨rO T,aQ ⟨rfl,rfl⟩⟩
  generalize (if t=h then some g else none)=h5 at*;generalize decide (t=h)=dq at*;go_enter func151,ntmps151;go_wp2_with fail;refine o.mono ?_;rintro e x ⟨rfl,d⟩;have f:FM (x.alloc (.cells #[.string (B h)] 101)) b na g:=(r.kept d (by simp)).kept (aO _ _ none) (by simp);have z:=f.look_in c.1 c.2.1 s.out;rw[<-F.out]at z;have Q:=aS (M.out ((x.alloc (.cells #[.string (B h)] 101)).alloc (.cells #[.string (B t)] 101)) (f.kept (aO _ _ none) (by simp)) (d.trans ((aO x _ none).trans (aO _ _ none))));clear d f o r M;go_wp2;go_ret;exact Q.out
 |none=>
  rw[QB l];have s:=aS l;clear l;go_enter func151,ntmps151;go_wp2_with fail;refine o.mono ?_;rintro e x ⟨rfl,d⟩;have f:FM (x.alloc (.cells #[.string (B h)] 101)) b na g:=(r.kept d (by simp)).kept (aO _ _ none) (by simp);have z:=f.look_out c.1 c.2.1 s.out;rw[<-F.out]at z;have L:=aS f;have G1:=aS d;have h2:w.heap.size<=x.heap.size:=d.size;clear d f o r;go_wp2_with fail;have h0:=aS (L.kept (aO (x.alloc (.cells #[.string (B h)] 101)) (.cells #[.string (B [])] 101) none) (by simp))
  have AC:=aS (show∀j,(((x.alloc (.cells #[.string (B h)] 101)).alloc (.cells #[.string (B [])] 101)).drew).grownBy j none->j.cell? ⟨x.heap.size,0,none⟩=some (.string (B h))/\
    ∃E,(Instr.mapUpdate 93 (.map (some b)) (.string (B D)) (.agg #[.string (B h)])).run prog j= .ok () E/\FM E b na (g.set v (some h))/\j.grownBy E (some b)fromλj k=>by
   refine⟨(bT (a:=⟨x.heap.size,0,none⟩) (k.block x.heap.size (by simp;omega) (by simp))).trans (by simp[go_sem]), ?_⟩;have st:=(FM.kept (w:=((x.alloc (.cells #[.string (B h)] 101)).alloc (.cells #[.string (B [])] 101)).drew) h0.out k (by simp)).store c.2.2.2.1 c.2.2.1 c.2.2.2.2 c.1 c.2.1 s.out X;rw[<-F.out]at st
   exact st)
  clear z L
  go_region_with (go_at_call 68;refine(pg _ _ h1).mono ?_;rintro e j ⟨rfl,k⟩;obtain⟨c7,E,h4,P,O⟩:=AC.out j k;have K:=aS (aL P O);have G5:=aS k;clear P O k)
  all_goals
   go_wp2;go_ret;exact⟨(rO (G1.trans ((aO x _ none).trans ((aO _ _ none).trans ((cZ (bC _ none)).trans G5.out))))).trans K.2,aM ⟨_,rfl,rfl,K.1⟩⟩
theorem wm{W X:aD}{m V:Nat}{H:aB}{v:Value}{x y:Ty}(S:gG W (m+1) H u x)(L:gG X (V+1) H v y)(f:x.kind=y.kind)(C:x.kind≠[]):
  ∃t a b O R F,u= .iface t (.pointer (some ⟨a,0,none⟩))/\v= .iface t (.pointer (some ⟨b,0,none⟩))/\O.length=x.kids.length/\R.length=y.kids.length/\O.length=R.length/\O.length<=2/\
   (∀(i:Nat) (p:Value) (q:Ty),O[i]? =some p->x.kids[i]? =some q->gG W m H p q)/\(∀(i:Nat) (p:Value) (q:Ty),R[i]? =some p->y.kids[i]? =some q->gG X V H p q)/\
   (∀w,(Go.method 567 t (.pointer (some ⟨a,0,none⟩)) "Below").run prog w= .ok (F, .pointer (some ⟨a,0,none⟩)) w)/\(∀w,(Go.method 567 t (.pointer (some ⟨b,0,none⟩)) "Below").run prog w= .ok (F, .pointer (some ⟨b,0,none⟩)) w)/\
   (∀w,Fz H w->Calls prog F #[.pointer (some ⟨a,0,none⟩)] w λe U=>Ip w U e O)/\(∀w,Fz H w->Calls prog F #[.pointer (some ⟨b,0,none⟩)] w λe U=>Ip w U e R)/\
   (∀w,(Instr.typeAssert (.iface t (.pointer (some ⟨a,0,none⟩))) 156 309 true).run prog w= .ok (.tuple #[.pointer none, .bool false]) w)/\
   (F=307\/F=308\/F=309\/F=304):=by
 obtain⟨a,S⟩:=S;obtain⟨b,L⟩:=L;rcases S with⟨g,_⟩|⟨g,A,rfl,K⟩|⟨g,p,N,A,rfl,K,E⟩|⟨g,p,Y,N,T,A,rfl,K,E,M⟩|⟨g,p,Y,N,T,A,rfl,K,E,M⟩
 ·exact absurd g C
 ·rcases L with⟨d,_⟩|⟨d,j,rfl,l⟩|⟨d,q,o,j,rfl,l,n⟩|⟨d,q,I,o,D,j,rfl,l,n,s⟩|⟨d,q,I,o,D,j,rfl,l,n,s⟩
  ·rw[f]at C;exact absurd d C
  ·exact⟨_,a,b,[],[],_,rfl,rfl,by rw[A];rfl,by rw[j];rfl,rfl,by simp,λi p q e=>by simp at e,λi p q e=>by simp at e,λw=>AM a w,λw=>AM b w,λw _=>AQ a w,λw _=>AQ b w,λw=>v7 a w,aQ rfl⟩
  ·exfalso;rw[d]at f;rcases g with g|g<;>rw[g]at f<;>exact absurd f (by decide)
  ·exfalso;rw[d]at f;rcases g with g|g<;>rw[g]at f<;>exact absurd f (by decide)
  ·exfalso;rw[d]at f;rcases g with g|g<;>rw[g]at f<;>exact absurd f (by decide)
 ·rcases L with⟨d,_⟩|⟨d,j,rfl,l⟩|⟨d,q,o,j,rfl,l,n⟩|⟨d,q,I,o,D,j,rfl,l,n,s⟩|⟨d,q,I,o,D,j,rfl,l,n,s⟩
  ·rw[f]at C;exact absurd d C
  ·exfalso;rw[g]at f;rcases d with d|d<;>rw[d]at f<;>exact absurd f (by decide)
  ·refine⟨_,a,b,[N],[o],_,rfl,rfl,by rw[A];rfl,by rw[j];rfl,rfl,by simp,λi P Q h c=> ?_,λi P Q h c=> ?_,λw=>ED a w,λw=>ED b w,λw k=> ?_,λw k=> ?_,λw=>tK a w,aM (aQ rfl)⟩
   ·rw[A]at c
    match i,h,c with
    |0,h,c=>simp at h c;subst h c;exact E
    |i+1,h,c=>simp at h
   ·rw[j]at c
    match i,h,c with
    |0,h,c=>simp at h c;subst h c;exact n
    |i+1,h,c=>simp at h
   ·obtain⟨z,r,_,rfl,_⟩:=E.val k;exact EG a w z r (k _ _ K)
   ·obtain⟨z,r,_,rfl,_⟩:=n.val k;exact EG b w z r (k _ _ l)
  ·exfalso;rw[g,d]at f;exact absurd f (by decide)
  ·exfalso;rw[g,d]at f;exact absurd f (by decide)
 ·rcases L with⟨d,_⟩|⟨d,j,rfl,l⟩|⟨d,q,o,j,rfl,l,n⟩|⟨d,q,I,o,D,j,rfl,l,n,s⟩|⟨d,q,I,o,D,j,rfl,l,n,s⟩
  ·rw[f]at C;exact absurd d C
  ·exfalso;rw[g]at f;rcases d with d|d<;>rw[d]at f<;>exact absurd f (by decide)
  ·exfalso;rw[g,d]at f;exact absurd f (by decide)
  ·refine⟨_,a,b,[N,T],[o,D],_,rfl,rfl,by rw[A];rfl,by rw[j];rfl,rfl,by simp,λi P Q h c=> ?_,λi P Q h c=> ?_,λw=>EF a w,λw=>EF b w,λw k=> ?_,λw k=> ?_,λw=>tM a w,aM (aM (aQ rfl))⟩
   ·rw[A]at c
    match i,h,c with
    |0,h,c=>simp at h c;subst h c;exact E
    |1,h,c=>simp at h c;subst h c;exact M
    |i+2,h,c=>simp at h
   ·rw[j]at c
    match i,h,c with
    |0,h,c=>simp at h c;subst h c;exact n
    |1,h,c=>simp at h c;subst h c;exact s
    |i+2,h,c=>simp at h
   ·obtain⟨z,r,_,rfl,_⟩:=E.val k;obtain⟨J,G,_,rfl,_⟩:=M.val k;exact EH a w z J r G (k _ _ K)
   ·obtain⟨z,r,_,rfl,_⟩:=n.val k;obtain⟨J,G,_,rfl,_⟩:=s.val k;exact EH b w z J r G (k _ _ l)
  ·exfalso;rw[g,d]at f;exact absurd f (by decide)
 ·rcases L with⟨d,_⟩|⟨d,j,rfl,l⟩|⟨d,q,o,j,rfl,l,n⟩|⟨d,q,I,o,D,j,rfl,l,n,s⟩|⟨d,q,I,o,D,j,rfl,l,n,s⟩
  ·rw[f]at C;exact absurd d C
  ·exfalso;rw[g]at f;rcases d with d|d<;>rw[d]at f<;>exact absurd f (by decide)
  ·exfalso;rw[g,d]at f;exact absurd f (by decide)
  ·exfalso;rw[g,d]at f;exact absurd f (by decide)
  ·refine⟨_,a,b,[N,T],[o,D],_,rfl,rfl,by rw[A];rfl,by rw[j];rfl,rfl,by simp,λi P Q h c=> ?_,λi P Q h c=> ?_,λw=>AN a w,λw=>AN b w,λw k=> ?_,λw k=> ?_,λw=>rY a w,aM (aM (aM rfl))⟩
   ·rw[A]at c
    match i,h,c with
    |0,h,c=>simp at h c;subst h c;exact E
    |1,h,c=>simp at h c;subst h c;exact M
    |i+2,h,c=>simp at h
   ·rw[j]at c
    match i,h,c with
    |0,h,c=>simp at h c;subst h c;exact n
    |1,h,c=>simp at h c;subst h c;exact s
    |i+2,h,c=>simp at h
   ·obtain⟨z,r,_,rfl,_⟩:=E.val k;obtain⟨J,G,_,rfl,_⟩:=M.val k;exact AR a w z J r G (k _ _ K)
   ·obtain⟨z,r,_,rfl,_⟩:=n.val k;obtain⟨J,G,_,rfl,_⟩:=s.val k;exact AR b w z J r G (k _ _ l)
theorem Uw{j:aD}{m:Nat}{H:aB}{u:Value}{x:Ty}(e:gG j m H u x)(i:x.kind≠[]):∃t a,u= .iface t (.pointer (some ⟨a,0,none⟩))/\∀w,(Instr.typeAssert (.iface t (.pointer (some ⟨a,0,none⟩))) 156 309 true).run prog w= .ok (.tuple #[.pointer none, .bool false]) w:=by
 cases m with
 |zero=>exact absurd e id
 |succ m=>
 obtain⟨a,e⟩:=e;rcases e with⟨h,_⟩|⟨h,b,rfl,c⟩|⟨h,p,f,b,rfl,c,d⟩|⟨h,p,k,f,l,b,rfl,c,d,g⟩|⟨h,p,k,f,l,b,rfl,c,d,g⟩
 ·exact absurd h i
 ·exact⟨_,a,rfl,λw=>v7 a w⟩
 ·exact⟨_,a,rfl,λw=>tK a w⟩
 ·exact⟨_,a,rfl,λw=>tM a w⟩
 ·exact⟨_,a,rfl,λw=>rY a w⟩
theorem FM.notCell{w:World}{x:Nat}{d:aD}(h:FM w x d g){b j:Nat}{v:Value}(c:w.cell? ⟨b,j,none⟩=some v):some b≠some x:=λe=>by cases e;obtain⟨D,⟨i,f,a,_⟩,_⟩:=h;simp[World.cell?,a]at c
theorem Ct{na l:aD}{N M:Nat}(mb:Nat)(hn:∀i,i<N->(l.getD i []).length<=300)(hd:na.Nodup)(hL:na.length<=1000)(H:aB)(b2:H mb=none):∀(n:Nat) (u v:Value) (x y:Ty) (g:aK) (w:World),gG na n H u x->gG l M H v y->dJ N M y->cC M y<=150->n<=M->Fz H w->FM w mb na g->g.length=na.length->
  Calls prog 115 #[u,v, .map (some mb)] w λe w'=>FO w w' mb na e (iL M l n x y g):=by
 intro n
 induction n with
 |zero=>intro u v x y g w h;exact absurd h id
 |succ n ih=>
  intro u v x y g w r s ok X b8 m U V;by_cases d:x.kind=[]
  ·obtain⟨a,r⟩:=r;rcases r with⟨c,h2,h3,rfl,h5⟩|⟨c,_⟩|⟨c,_⟩|⟨c,_⟩|⟨c,_⟩
   ·rw[yP d];have CS:=aS (Cs (na:=na) w mb x.var g hn s ok X m hd h3.1 h3.2 hL V U);have c0:w.cell? ⟨a,0,none⟩=some (.string (B (na.getD x.var []))):=by simp[World.cell?,m _ _ h5]
    obtain⟨tv,bv,_,rfl,_⟩:=s.val m;have qv:=rC a;clear c h2 h3 h5 s ok X m U V ih d;generalize jj (cJ M l y) g x.var=z at*;generalize na.getD x.var []=nm at*;go_enter func115,ntmps115;go_wp2_with fail;refine CS.mono ?_;rintro e w1 ho;have HO:=aS ho;rcases ho with⟨_,(⟨_,rfl⟩|⟨_,_,rfl,_⟩)⟩
    ·go_wp2;go_ret;exact HO.out
    ·go_wp2;go_ret;exact HO.out
   ·exfalso;rw[d]at c;rcases c with c|c<;>exact absurd c (by decide)
   ·exfalso;rw[d]at c;exact absurd c (by decide)
   ·exfalso;rw[d]at c;exact absurd c (by decide)
   ·exfalso;rw[d]at c;exact absurd c (by decide)
  ·have I:=aS (wa w r s m d);by_cases E:x.kind=y.kind
   ·rw[dE E]at I;have W:iL M l (n+1) x y g=mC (iL M l n) (x.kids.drop 0) (y.kids.drop 0) g:=by rw[iL,aN d,aR E];rfl
    rw[W];obtain⟨k,rfl⟩:∃k,M=k+1:=⟨M-1,by omega⟩;obtain⟨t,a,b,A,vs,F,rfl,rfl,h4,h6,h7,b5,w7,w8,b6,b7,e9,w0,b9,a6⟩:=wm r s E d;have a0:=aS (show∀q,q∈y.kids->dJ N k q/\cC k q<=150 fromλq G=>⟨(ok.kids q G).1,bV (ok.kids q G).2 X⟩);have HL:=aS (aL h4 (aL h6 h7));have x7:=aS w7;have x9:=aS w8;have x4:=aS e9;have x5:=aS w0;have HZ:=aS m;have HF:=aS (aL U V);have IH:=aS ih;obtain⟨z,o⟩:∃z,z=mC (iL (k+1) l n) (x.kids.drop 0) (y.kids.drop 0) g:=⟨_,rfl⟩;rw[<-o];have a3:=aS o.symm;clear o r s ok X m U V ih W E d w7 w8 e9 w0 h4 h6 h7;rcases a6 with rfl|rfl|rfl|rfl
    all_goals
     go_enter func115,ntmps115;go_wp2_with fail;refine I.mono ?_;rintro e w1 ⟨rfl,K⟩;have z1:=HZ.grown K;have CV:=aS (x5.out w1 z1);have Z:=aS K;have Z1:=aS z1;clear K z1 I;go_wp2_with fail;refine CV.mono ?_;rintro e w2 ⟨ao,cp,rfl,g2,x2⟩;have z2:=Z1.grown g2;have CU:=aS (x4.out w2 z2);have G2:=aS (Z.trans g2);have Z2:=aS z2;have a5:=aS x2;clear g2 z2 CV x2 Z1 Z;go_wp2_with fail;refine CU.mono ?_;rintro e w3 ⟨bo,cq,rfl,R,x0⟩;have Z3:=aS (Z2.grown R);have G3:=aS (G2.trans R);have e7:=aS R;have a4:=aS x0;have F3:=aS (show FM w3 mb na g from HF.1.kept (G2.trans R) (by simp));clear R CU x0 Z2 G2;go_wp2_with fail
     go_loopg [34] (A.length+1) (λgh i wi=>∃(j:Nat) (g:aK),j<=A.length/\i= .int .i64 j/\gh=A.length-j+1/\Hid (w3.grownBy wi (some mb))/\Hid (FM wi mb na g/\g.length=na.length)/\Hid (mC (iL (k+1) l n) (x.kids.drop j) (y.kids.drop j) g=z))
     case atStart=>exact⟨0,g,by omega,rfl,by omega,aS (bC _ _),aS ⟨F3.out,HF.2⟩,a3⟩
     case round=>
      obtain⟨j,g,hj,rfl,b3,J,h0,O⟩:=hrel;by_cases b0:j<A.length
      ·obtain⟨h4,h6,h7⟩:=HL.out;have b1:j<vs.length:=by omega
       have b4:(j:Int)<(vs.length:Int):=by omega
       obtain⟨p,hp⟩:∃p,A[j]? =some p:=⟨A[j],aP b0⟩;obtain⟨q,G⟩:∃q,vs[j]? =some q:=⟨vs[j],aP b1⟩;obtain⟨Y,e5⟩:∃Y,x.kids[j]? =some Y:=⟨x.kids[j]'(by omega),aP _⟩;obtain⟨C,h8⟩:∃C,y.kids[j]? =some C:=⟨y.kids[j]'(by omega),aP _⟩;obtain⟨gu,rfl,a7,e0⟩:=a4.out j p hp;obtain⟨D,rfl,w6,w4⟩:=a5.out j q G;have e1:w3.cell? ⟨D,j,none⟩=some q:=by rw[bT (a:=⟨D,j,none⟩) (e7.block D w6 (by simp))];exact w4
       have a8:D<w3.heap.size:=aZ w6 e7.size;have ru:wr.cell? ⟨gu,j,none⟩=some p:=by rw[bT (a:=⟨gu,j,none⟩) (J.out.block gu a7 (F3.notCell e0))];exact e0
       have rv:wr.cell? ⟨D,j,none⟩=some q:=by rw[bT (a:=⟨D,j,none⟩) (J.out.block D a8 (F3.notCell e1))];exact e1
       have zr:Fz H wr:=Z3.turned J.out b2;have e3:=x7.out j p Y hp e5;have e4:=x9.out j q C G h8;obtain⟨e6,sy⟩:=a0.out C (cK h8);have x3:cC (k+1) C<=150:=by rw[dJ.size k (k+1) C e6 (by omega)];exact sy
       have L:=aS (IH.out p q Y C g wr e3 (e4.le (by omega)) (e6.le (by omega)) x3 (by omega) zr h0.out.1 h0.out.2);obtain⟨tp,bp,_,rfl,_⟩:=e3.val zr;obtain⟨tq,bq,_,rfl,_⟩:=e4.val zr;have P:=aS (ie (f:=iL (k+1) l n) e5 h8 g);obtain⟨r1,e2⟩:∃r1,r1=iL (k+1) l n Y C g:=⟨_,rfl⟩;rw[<-e2]at L P;have a1:=aS e2;clear e2 h4 h6 h7 hp G e5 h8 e0 e1 w4 zr e3 e4 e6 sy x3
       cases r1 with
       |none=>
        have o:z=none:=by have:=O.out;rw[P.out]at this;exact this.symm
        subst o;go_wp2_with fail;refine L.mono ?_;rintro e w5 ⟨S,(⟨_,rfl⟩|⟨_,T,_⟩)⟩
        ·have G5:=aS S;clear S L P O;go_wp2;go_ret;exact⟨(rO G3.out).trans (J.out.trans G5.out),aQ ⟨rfl,rfl⟩⟩
        ·cases T
       |some g9=>
        have w9:g9.length=na.length:=by rw[yH _ _ _ _ _ a1.symm];exact h0.out.2
        have a2:=aS (show mC (iL (k+1) l n) (x.kids.drop (j+1)) (y.kids.drop (j+1)) g9=z by
         have:=O.out;rw[P.out]at this
         exact this)
        go_wp2_with fail;refine L.mono ?_;rintro e w5 ⟨S,(⟨T,_⟩|⟨g8,T,rfl,e8⟩)⟩
        ·cases T
        ·cases T;have G5:=aS S;have x6:=aS (aL e8 w9);clear S L P O e8 w9;go_wp2_with fail
         go_roundg (A.length-(j+1)+1)
         case measure=>omega
         case rel=>exact⟨j+1,g9,by omega,by go_num,rfl,aS (J.out.trans G5.out),x6,a2⟩
      ·have a9:j=A.length:=by omega
       subst a9
       have o:z=some g:=by have:=O.out;rw[vk _ _ _ (by have:=HL.1;omega)]at this;exact this.symm
       have Q:=aS (show FO w wr mb na (.returned (.bool true)) z from⟨(rO G3.out).trans J.out,aM ⟨g,o,rfl,h0.out.1⟩⟩);clear o;go_wp2;go_ret;exact Q.out
   ·rw[bN E]at I;have W:iL M l (n+1) x y g=none:=by rw[iL,aN d,aN E]
    rw[W];obtain⟨t,a,rfl,G⟩:=Uw r d;obtain⟨tv,bv,_,rfl,_⟩:=s.val m;clear r s ok X m U V ih W E d;go_enter func115,ntmps115;go_wp2_with fail;refine I.mono ?_;rintro e w1 ⟨rfl,K⟩;have Z:=aS K;clear K I;go_wp2;go_ret;exact⟨rO Z.out,aQ ⟨rfl,rfl⟩⟩
def Zz(w a:World)(b:aD)(e:Ending)(x:Option (List (Option aA))):Prop:=
 w.grownBy a none/\((x=none/\e= .returned (.tuple #[.map none, .bool false]))\/∃g h,x=some g/\e= .returned (.tuple #[.map (some h), .bool true])/\FM a h b g)
theorem Kl{h d:aD}{N M n:Nat}(q:∀i,i<N->(d.getD i []).length<=300)(z:h.Nodup)(t:h.length<=1000)(H:aB)(u v:Value)(x y:Ty)(w:World)(m:gG h n H u x)(o:gG d M H v y)(ok:dJ N M y)(r:cC M y<=150)(A:n<=M)(b:Fz H w):
  Calls prog 84 #[u,v] w λe C=>Zz w C h e (iL M d n x y (List.replicate h.length none)):=by
 have f:=aS (Ct (mb:=w.heap.size) q z t H (b.none (aV _)) n u v x y (List.replicate h.length none) (w.alloc (.map #[] 0)) m o ok r A (b.alloc _) (FM.new w h h.length) (by simp));obtain⟨I,D,_,rfl,_⟩:=m.val b;obtain⟨J,E,_,rfl,_⟩:=o.val b;have F:= @run_makeMap prog;clear m o ok r b q;generalize iL M d n x y (List.replicate h.length none)=G at*;go_enter func84,ntmps84;go_wp2_with fail;refine f.mono ?_;rintro e K ⟨c,(⟨rfl,rfl⟩|⟨g,rfl,rfl,p⟩)⟩
 ·have j:=aS c;clear c f;go_wp2
  go_ret2
  refine⟨?_,aQ ⟨rfl,rfl⟩⟩;have a:=j.out;exact⟨a.os,a.tape,a.output,bV (by simp) a.size,λk l _=>by rw[a.block k (by simp;omega) (by simp;omega),bQ _ _ _ l]⟩
 ·have j:=aS c;have s:=aS p;clear c f p;go_wp2
  go_ret2
  refine⟨?_,aM ⟨g,_,rfl,rfl,s.out⟩⟩;have a:=j.out;exact⟨a.os,a.tape,a.output,bV (by simp) a.size,λk l _=>by rw[a.block k (by simp;omega) (by simp;omega),bQ _ _ _ l]⟩
def KC(h e:aB)(k:Nat):Option Obj:=match h k with
 |some o=>some o
 |none=>e k
theorem WG{w:World}(x:Fz H1 w)(c:Fz H2 w):Fz (KC H1 H2) w/\zW 0 H1 (KC H1 H2)/\zW 0 H2 (KC H1 H2):=by
 refine⟨λk o e=> ?_,⟨λk o e=> ?_,λk f=>by omega⟩,⟨λk o e=> ?_,λk f=>by omega⟩⟩
 ·unfold KC at e
  cases h:H1 k with
  |some d=>rw[h]at e;cases e;exact x k _ h
  |none=>rw[h]at e;exact c k o e
 ·unfold KC;rw[e]
 ·unfold KC
  cases h:H1 k with
  |some d=>have a:=x k d h;have b:=c k o e;rw[a]at b;exact b
  |none=>exact e
def uV(_:Unit):Value:= .agg #[]
def QC(x:aC)(L:aC)(e:Value)(w:World):Prop:=(e= .map none/\L=[])\/∃h,e= .map (some h)/\h∉x/\GM kI uV 3 w h (L.map λn=>(n,()))
theorem QC.gb{e:aC}{L:aC}{x:Value}{w:World}(h:QC e L x w)(g:Gb (dT e) w w'):QC e L x w':=by
 rcases h with h|⟨d,b,a,c⟩
 ·exact aQ h
 ·exact aM ⟨d,b,a,c.gb g a⟩
theorem U5(L:aC)(n:Nat):(dR (L.map λn=>(n,())) n).isSome=decide (n∈L):=by
 induction L with
 |nil=>rfl
 |cons a L e=>
  rw[cG,dR];by_cases h:a=n
  ·rw[aR h];simp[h]
  ·rw[aN h,e];simp[kU h]
theorem wq(n:Int)(w:World):(Instr.lookup 336 (.map none) (.int .i64 n) true).run prog w= .ok (.tuple #[.agg #[], .bool false]) w:=by kernel_rfl
theorem Cu(w:World):(zeroValue 371).run prog w= .ok (.agg #[]) w:=by kernel_rfl
theorem QC.look{ca:aC}{L:aC}{bv:Value}{w:World}(h:QC ca L bv w){n:Nat}(e:n<=9223372036854775806):(Instr.lookup 336 bv (.int .i64 ((n:Int)+1)) true).run prog w= .ok (.tuple #[.agg #[], .bool (decide (n∈L))]) w:=by
 rcases h with⟨rfl,rfl⟩|⟨x,rfl,_,h⟩
 ·exact wq _ w
 ·rw[h.look wC underlying336 (Cu w) (wD e),U5];cases dR (L.map λn=>(n,())) n<;>rfl
def kJ(H:aB)(p:Nat)(o:Obj)(k:Nat):Option Obj:=if k=p then some o else H k
theorem QD{H:aB}{w:World}{p:Nat}{o:Obj}(h:Fz H w)(b:w.heap[p]? =some o):Fz (kJ H p o) w:=λk x e=>by
 unfold kJ at e;split at e
 ·rename_i a;rw[a,<-e];exact b
 ·exact h k x e
theorem jS{H:aB}{p:Nat}{o:Obj}(h:H p=none):∀k x,H k=some x->kJ H p o k=some x:=λk x e=>by unfold kJ;rw[aN (λw=>by rw[w,h]at e;cases e)];exact e
theorem onto1_new{w H:aB}{p n:Nat}{o:Obj}(h:∀k x,H k=some x->w k=some x\/n<=k)(b:n<=p):∀k x,kJ H p o k=some x->w k=some x\/n<=k:=λk x e=>by
 unfold kJ at e;split at e
 ·rename_i a;right;omega
 ·exact h k x e
theorem iR{H:aB}{p:Nat}{o:Obj}:kJ H p o p=some o:=by unfold kJ;rw[aR rfl]
theorem fY.grown0{H:aB}{x:aC}{a:bM}{d:aI}{w:World}(h:fY H x a d w)(g:w.grownBy w' none):fY H x a d w':=h.gb (R:=λ_=>False) (Gb.new g) (λ_ _ e=>e) (λ_ _ _ e=>e)
theorem U6{w:World}{v:Value}{t:TypeId}(h:w.heap[gn]? =some (.cells #[u] t (0,0))):w.cell? ⟨gn,0,none⟩=some u/\w.frozen? ⟨gn,0,none⟩=false/\(w.setCell ⟨gn,0,none⟩ v).heap[gn]? =some (.cells #[v] t (0,0)):=by simp[World.cell?,World.frozen?,World.setCell,dN,h]
theorem pP{w:World}{z:Value}{t:TypeId}(h:w.heap[gn]? =some (.cells #[u,z] t (0,0))):w.cell? ⟨gn,0,none⟩=some u/\w.cell? ⟨gn,1,none⟩=some z/\w.frozen? ⟨gn,0,none⟩=false/\w.frozen? ⟨gn,1,none⟩=false/\(∀v,(w.setCell ⟨gn,0,none⟩ v).heap[gn]? =some (.cells #[v,z] t (0,0)))/\∀v,(w.setCell ⟨gn,1,none⟩ v).heap[gn]? =some (.cells #[u,v] t (0,0)):=by simp[World.cell?,World.frozen?,World.setCell,dN,h]
theorem nI{H:aB}{x:aC}{c:bM}{d:aI}{w:World}(h:fY H x c d w)(j:¬dT x gn)(l:H gn=none)(i:Nat)(v:Value):fY H x c d (w.setCell ⟨gn,i,none⟩ v):=
 h.gb (R:=λk=>k=gn) ((Gb.refl (λk=>k=gn) w).set (b:=gn) (aQ rfl) i v) (λa g e=>j (e▸g)) (λk o e f=>by rw[f,l]at e;cases e)
theorem xM{e:aC}{w:World}(h:Gb (dT e) w w')(x:w.heap.size<=gn)(i:Nat)(v:Value):Gb (dT e) w (w'.setCell ⟨gn,i,none⟩ v):=h.set (b:=gn) (aM x) i v
theorem fP.onto{H:aB}{w:aC}{v:Value}{t:Et}(h:ER H w v t)(e:∀k o,H k=some o->H1 k=some o):ER H1 w v t:=by obtain⟨m,h⟩:=h;exact⟨m,fP.ext (aV _) e (dD _) m v t h⟩
theorem oE{H:aB}{w:aC}{v:Value}{t:Et}(h:ER H w v t):∃e b,dz e/\v= .iface e (.pointer (some ⟨b,0,none⟩)):=by obtain⟨m,h⟩:=h;exact h.val
def TB(w:World)(h n:Nat)(r:aH):Prop:=w.heap[h]? =some (.cells (Value.int .i64 (n:Int)::r).toArray 263 (0,0))
theorem TB.c0{w:World}{e n:Nat}{r:aH}(h:TB w e n r):w.cell? ⟨e,0,none⟩=some (.int .i64 (n:Int))/\w.frozen? ⟨e,0,none⟩=false:=by unfold TB at h;simp[World.cell?,World.frozen?,h]
theorem TB.set{w:World}{e n:Nat}{r:aH}(h:TB w e n r)(m:Nat):TB (w.setCell ⟨e,0,none⟩ (.int .i64 (m:Int))) e m r:=by unfold TB at h⊢;simp[World.setCell,dN,h]
theorem TB.lt{w:World}{e n:Nat}{r:aH}(h:TB w e n r):e<w.heap.size:=aT h
theorem TB.gb{R:Nat->Prop}{w:World}{e n:Nat}{r:aH}(h:TB w e n r)(g:Gb R w w')(x:¬R e):TB w' e n r:=g.at h x
theorem Xu{x n:Nat}{v:Value}{w:World}(h:w.cell? ⟨x,0,none⟩=some (.int .i64 (n:Int)))(f:w.frozen? ⟨x,0,none⟩=false)(g:n<9223372036854775806)(c:v= .nilIface\/∃a b,v= .iface a (.pointer (some ⟨b,0,none⟩))):
  Calls prog 211 #[CP x,v] w λe d=>e= .returned (CP w.heap.size)/\d=(w.setCell ⟨x,0,none⟩ (.int .i64 ((n:Int)+1))).alloc (.cells #[.int .i64 ((n:Int)+1),v] 354):=by
 unfold CP;rcases c with rfl|⟨a,b,rfl⟩
 all_goals
  go_enter func211,ntmps211;go_wp2;go_ret;exact⟨rfl,rfl⟩
structure MS(H:aB)(ca:aC)(σ:bM)(d:aI)(tb:Nat)(r:aH)(w:World):Prop where
 cs:fY H ca σ d w
 bk:TB w tb σ.rep.length r
 ht:H tb=none
 hta:tb∉ca
structure MX(H H':aB)(ca ca':aC)(w:World):Prop where
 ext:∀k o,H k=some o->H' k=some o
 new:∀k o,H' k=some o->H k=some o\/w.heap.size<=k
 pre:ca<+:ca'
 cnew:∀a,a∈ca'->a∈ca\/w.heap.size<=a
theorem MX.refl(H:aB)(x:aC)(w:World):MX H H x x w:=⟨λ_ _ e=>e,λ_ _ e=>aQ e,dD _,λ_ h=>aQ h⟩
theorem MX.trans{H:aB}{x b c:aC}{w d:World}(h:MX H H1 x b w)(k:MX H1 H2 b c d)(g:w.heap.size<=d.heap.size):MX H H2 x c w:=
 ⟨λi o e=>k.ext i o (h.ext i o e),λi o e=>(k.new i o e).elim (λe=>h.new i o e) (λe=>aM (by omega)),h.pre.trans k.pre,λa f=>(k.cnew a f).elim (λe=>h.cnew a e) (λe=>aM (by omega))⟩
theorem MX.er{H x:aB}{a b:aC}{w:World}(h:MX H x a b w){v:Value}{t:Et}(e:ER H a v t):ER x b v t:=by obtain⟨m,e⟩:=e;exact⟨m,fP.ext (aV _) h.ext h.pre m v t e⟩
theorem MS.of{H:aB}{i:aC}{x:bM}{d:aI}{f:Nat}{r:aH}{o:Option Et}{v:Value}{w:World}(h:MS H i x d f r w)(m:zK H i o v)(n:x.rep.length<9223372036854775806):
  Calls prog 211 #[CP f,v] w λe l=>∃a,e= .returned (CP a)/\MS H (i++[a]) (x.new o) d f r l/\w.heap.size<=a/\Gb (λk=>k=f) w l:=by
 have y:v= .nilIface\/∃g b,v= .iface g (.pointer (some ⟨b,0,none⟩)):=by
  rcases m with⟨_,rfl⟩|⟨z,_,_,_,_,p⟩
  ·exact aQ rfl
  ·obtain⟨g,b,_,e⟩:=p.val;exact aM ⟨g,b,e⟩
 refine(Xu h.bk.c0.1 h.bk.c0.2 n y).mono ?_;rintro e l ⟨rfl,rfl⟩;obtain⟨a,q,u,s,_,t,_⟩:=Qn h.cs h.bk.c0.1 h.bk.lt h.ht h.hta m n;refine⟨a,q,⟨s, ?_,h.ht,λc=> ?_⟩,u,t⟩
 ·have j:=h.bk.set (x.rep.length+1);unfold TB at j⊢;rw[bQ _ _ _ (aT (by rw[show((x.rep.length:Int)+1)=((x.rep.length+1:Nat):Int) by omega];exact j))];rw[show((x.rep.length:Int)+1)=((x.rep.length+1:Nat):Int) by omega,j];simp[bM.new]
 ·rcases cH.1 c with c|c
  ·exact h.hta c
  ·have:=bF.1 c;have:=h.bk.lt;omega
theorem QF{w x:Type}[DecidableEq w]{a:w}{b:x}:∀{l:List (w×x)},dR l a=some b->(a,b)∈l
 |[],h=>by cases h
 |p::l,h=>by
  rw[dR]at h;split at h
  ·rename_i e;cases h;rw[<-e];exact bG ..
  ·exact bE _ (QF h)
def FR(h:aC)(w:World)(e:Nat)(g:aJ):Prop:=GM kS (λc=>CP (h.getD c 0)) 9 w e g/\∀p,p∈g->p.2<h.length
theorem FR.gb{R:Nat->Prop}{x:aC}{w:World}{e:Nat}{g:aJ}(h:FR x w e g)(k:Gb R w w')(a:¬R e):FR x w' e g:=⟨h.1.gb k a,h.2⟩
theorem wt{e w:aC}(h:e<+:w)(x:c<e.length):w.getD c 0=e.getD c 0:=by obtain⟨r,rfl⟩:=h;rw[aW,aW,bJ x]
theorem FR.pre{x c:aC}{w:World}{i:Nat}{g:aJ}(h:FR x w i g)(f:x<+:c):FR c w i g:=by obtain⟨⟨D,j,k,l,m,n⟩,d⟩:=h;refine⟨⟨D,j,k,l,m,λa b z e=> ?_⟩,λp o=>aZ (d p o) f.length_le⟩;rw[n a b z e];show DataW.held (CP (x.getD b 0))=DataW.held (CP (c.getD b 0));rw[wt f (d _ (QF e))]
def Is(H:aB)(g:aC)(d:aI)(i a:Nat)(r:aH)(l:bM)(j:aJ)(c:Nat)(w:World)(e:Ending)(f:World):Prop:=
 ∃b h x,e= .returned (CP x)/\h[c]? =some x/\MS b h l d i r f/\MX H b g h w/\FR h f a j/\b a=none/\a∉h/\Gb (λk=>k=i\/k=a\/dT g k) w f
def Ww(x e:Nat)(r:aH)(f:Nat):Prop:=∀(t:Et) (v:Value) (b:bM) (g:aJ) (i:bM) (a:aJ) (c:Nat) (H:aB) (h:aC) (d:aI) (w:World),
 ER H h v t->k7 f t b g=some (i,a,c)->MS H h b d x r w->FR h w e g->H e=none->e∉h->Calls prog 232 #[CP x,v, .map (some e)] w (Is H h d x e r i a c w)
theorem wu(w:World):(zeroValue 265).run prog w= .ok (.pointer none) w:=by kernel_rfl
theorem U7{z s:Nat}{r:aH}(h4:s≠z)(f:Nat)(t:Et)(v:Value)(u:bM)(g:aJ)(h8:bM)(g':aJ)(c:Nat)(H:aB)(j:aC)(d:aI)(w:World)
  (I:ER H j v t) (q:k7 (f+1) t u g=some (h8,g',c)) (y:MS H j u d z r w) (A:FR j w s g) (F:H s=none) (G:s∉j) (n:t.kind=cM\/t.kind=[]):Calls prog 232 #[CP z,v, .map (some s)] w (Is H j d z s r h8 g' c w):=by
 obtain⟨m,I⟩:=I
 cases m with
 |zero=>exact absurd I id
 |succ m=>
 obtain⟨b,I⟩:=I;rw[k7]at q;rcases I with⟨l,O,C,rfl⟩|⟨l,O,C,_,rfl,L⟩|⟨l,_⟩|⟨l,_⟩|⟨l,_⟩|⟨l,_⟩
 ·rw[aR l]at q;simp only[dK,gU]at q;obtain⟨rfl,rfl,rfl⟩:=q;have Q:=aS (show Is H j d z s r u g t.num w (.returned (CP b)) w from⟨H,j,b,rfl,C,y,MX.refl _ _ _,A,F,G,Gb.refl _ _⟩);have a1:=mB b;clear y A F G n l O C;unfold CP at*;go_enter func232,ntmps232;go_wp2;go_ret;exact Q.out
 ·have X:¬t.kind=cM:=by rw[l];decide
  rw[aN X,aR l]at q;have a1:=r8 b;have a2:=rC b;have c0:w.cell? ⟨b,0,none⟩=some (.string (B t.name)):=by simp[World.cell?,y.cs.fz _ _ L]
  have P:=A.1.look P0 underlying398 (wu w) (P6 C);have e4:b<w.heap.size:=aT (y.cs.fz _ _ L)
  cases E:dR g t.name with
  |some K=>
   rw[E]at q P;simp only[dK,gU]at q;obtain⟨rfl,rfl,rfl⟩:=q;simp only[jI,qR,zM]at P;have e0:=A.2 _ (QF E);have ex:j[K]? =some (j.getD K 0):=by rw[aW,aP e0];rfl
   have Q:=aS (show Is H j d z s r u g K w (.returned (CP (j.getD K 0))) w from⟨H,j,_,rfl,ex,y,MX.refl _ _ _,A,F,G,Gb.refl _ _⟩);generalize j.getD K 0=xx at*;clear y A F G n l O C L X E ex;unfold CP at*;go_enter func232,ntmps232;go_wp2;go_ret;exact Q.out
  |none=>
   rw[E]at q P;simp only[oJ,vR,zO]at P;simp only at q;split at q
   ·rename_i Z;simp only[dK,gU]at q;obtain⟨rfl,rfl,rfl⟩:=q;have e1:u.rep.length<9223372036854775806:=jB Z.1;have CO:=aS (y.of (o:=none) (v:= .nilIface) (aQ ⟨rfl,rfl⟩) e1);have D:=aS (aL y (aL A (aL F G)));have T:=aS (aL C (aL E Z));have H5:=aS L;clear y A F G n l O C L X E Z;unfold CP at*;go_enter func232,ntmps232;go_wp2_with fail;refine CO.mono ?_;rintro e R ⟨a,rfl,J,ha,V⟩;have Y:j.length=u.rep.length:=D.1.cs.len;have h6:j<+:j++[a]:=iN _ _;have U:FR (j++[a]) R s g:=(D.2.1.gb V h4).pre h6;have ea:(j++[a]).getD u.rep.length 0=a:=by rw[<-Y,aW];simp
    obtain⟨S,h7,W,g2⟩:=U.1.store P0 underlying398 Av Aw (by have:=T.2.2.2;omega) u.rep.length (P6 T.1)
    have e5:(Instr.mapUpdate 398 (.map (some s)) (.string (B t.name)) (.pointer (some ⟨a,0,none⟩))).run prog R= .ok () S:=by have h9:=h7;simp only[ea]at h9;exact h9
    rw[oP _ T.2.1]at W;have N:Gb (λk=>k=s) R S:=Gb.of g2 (λb e=>aQ (aY e).symm)
    have h0:s∉j++[a]:=λh=>by
     rcases cH.1 h with h|h
     ·exact D.2.2.2 h
     ·have:=bF.1 h;have:=D.2.1.1.lt;omega
    have m2:MS H (j++[a]) (u.new none) d z r S:=⟨J.cs.gb N (λx hx e=>h0 (e▸hx)) (λk o e e2=>by rw[e2,D.2.2.1]at e;cases e),J.bk.gb N (λe=>h4 e.symm),J.ht,J.hta⟩;have e3:R.cell? ⟨b,0,none⟩=some (.string (B t.name)):=by simp[World.cell?,J.cs.fz _ _ H5.out]
    have Q:=aS (show Is H j d z s r (u.new none) (g++[(t.name,u.rep.length)]) u.rep.length w (.returned (CP a)) S from⟨H,j++[a],a,rfl,by rw[<-Y];simp,m2,⟨λ_ _ e=>e,λ_ _ e=>aQ e,h6,λx hx=>(cH.1 hx).imp id (λh=>by rw[bF.1 h];exact ha)⟩,
     ⟨W,λp M=>by
      rcases cH.1 M with M|M
      ·exact U.2 p M
      ·rw[bF.1 M]
       simp[Y]⟩,D.2.2.1,h0,(V.mono (R':=λk=>k=z\/k=s\/dT j k) (λi e=>aQ e)).tr (N.mono (λi e=>aM (aQ e)))⟩)
    unfold CP at Q;clear J ha V U h7 W g2 N m2 CO;go_wp2;go_ret;exact Q.out
   ·cases q
 ·rcases n with n|n
  ·rcases l with l|l<;>exact absurd (l.symm.trans n) (by decide)
  ·rcases l with l|l<;>exact absurd (l.symm.trans n) (by decide)
 ·rcases n with n|n<;>exact absurd (l.symm.trans n) (by decide)
 ·rcases n with n|n<;>exact absurd (l.symm.trans n) (by decide)
 ·rcases n with n|n<;>exact absurd (l.symm.trans n) (by decide)
theorem MS.grown{H:aB}{e:aC}{a:bM}{d:aI}{x:Nat}{r:aH}{w:World}(h:MS H e a d x r w)(g:w.grownBy w' none):MS H e a d x r w':=⟨h.cs.grown0 g,h.bk.gb (R:=λ_=>False) (Gb.new g) id,h.ht,h.hta⟩
theorem MS.setNew{H:aB}{x:aC}{c:bM}{d:aI}{a:Nat}{r:aH}{w:World}(h:MS H x c d a r w)(f:¬dT x gn)(g:H gn=none)(j:gn≠a)(i:Nat)(v:Value):MS H x c d a r (w.setCell ⟨gn,i,none⟩ v):=
 ⟨nI h.cs f g i v,h.bk.gb (R:=λk=>k=gn) ((Gb.refl (λk=>k=gn) w).set (b:=gn) (aQ rfl) i v) (λe=>j e.symm),h.ht,h.hta⟩
theorem MS.more{H:aB}{x:aC}{f:bM}{d:aI}{b:Nat}{r:aH}{w:World}(h:MS H x f d b r w){p:Nat}{o:Obj}(j:w.heap[p]? =some o)(i:H p=none)(g:¬dT x p)(k:p≠b):MS (kJ H p o) x f d b r w:=
 ⟨h.cs.more (jS i) (QD h.cs.fz j) (λa c=>by unfold kJ;rw[aN (show¬a=p fromλe=>g (by rw[<-e];exact c))];exact h.cs.off a c),h.bk,by unfold kJ;rw[aN (kU k)];exact h.ht,h.hta⟩
theorem IK{H:aB}{m b:aC}{l:bM}{d:aI}{f c:Nat}{r:aH}{n:aJ}{nd:Et}{vn:Value}{w W:World}(q:MS H2 b l d f r W)(j:MX H H2 m b w)(z:zK H2 b (some nd) vn)(p:FR b W c n)(t:H2 c=none)(u:c∉b)(y:c≠f)
  (o:Gb (λk=>k=f\/k=c\/dT m k) w W) (A:GY l=true):Calls prog 211 #[CP f,vn] W (Is H m d f c r (l.new (some nd)) n l.rep.length w):=by
 refine(q.of z (jB A)).mono ?_;rintro e G ⟨a,rfl,D,E,g⟩;have s:b<+:b++[a]:=iN _ _;have v:=q.cs.len;have F:=o.size;refine⟨H2,b++[a],a,rfl,by rw[<-v];simp,D,⟨j.ext,j.new,j.pre.trans s,λx C=> ?_⟩,(p.gb g y).pre s,t,λh=> ?_,o.tr (g.mono (λi e=>aQ e))⟩
 ·rcases cH.1 C with h|h
  ·exact j.cnew x h
  ·rw[bF.1 h];exact aM (by omega)
 ·rcases cH.1 h with h|h
  ·exact u h
  ·have:=bF.1 h;have:=p.1.lt;omega
theorem oX{H:aB}{e:aC}{x:Nat}(h:e[c]? =some x):fP 0 H e 1 (CI x) (cT c):=⟨x,aQ ⟨rfl,rfl,h,rfl⟩⟩
theorem yQ{I:Et->bM->List (aA×Nat)->Option (bM×List (aA×Nat)×Nat)}{t:Et}{w:List Et}{e:bM}{g:aJ}(h:I t e g=none):gL I (t::w) e g=none:=by rw[gL,h]
theorem jk{l i:Nat}{r:aH}(D:i≠l)(f b:Nat)(t:Et)(z:bM)(g:aJ)(A:bM)(n:aJ)(c:Nat)(H:aB)(j:aC)(d:aI)(w:World)
  (a:k7 (f+1) t z g=some (A,n,c)) (v:MS H j z d l r w) (s:FR j w i g) (p:H i=none) (q:i∉j) (x:t.kind=nD\/t.kind=eU) (u:t.kids=[]) (o:H b=some (.cells #[.string (B t.kind)] 348 (0,0))):
  Calls prog 232 #[CP l, .iface 346 (.pointer (some ⟨b,0,none⟩)), .map (some i)] w (Is H j d l i r A n c w):=by
 rw[k7,aN (by rcases x with h|h<;>rw[h]<;>decide),aN (by rcases x with h|h<;>rw[h]<;>decide),u]at a;simp only[gL]at a;split at a
 ·rename_i E;simp only[dK,gU]at a;obtain⟨rfl,rfl,rfl⟩:=a;have m:=aS (IK (nd:=⟨t.kind,[],0,[]⟩) (vn:= .iface 346 (.pointer (some ⟨b,0,none⟩))) v (MX.refl H j w) (aM ⟨_,rfl,by rcases x with h|h<;>rw[h]<;>decide,by rcases x with h|h<;>rw[h]<;>decide,(λk x=>by cases x),b,aM (aM (aQ ⟨x,rfl,rfl,o⟩))⟩) s p q D (Gb.refl _ _) E);have F:=pV b;have G:=v7 b;have I:=I0 b;clear v s p q x u o;unfold CP at*;go_enter func232,ntmps232;go_wp2_with fail;refine(I9 b w).mono ?_;rintro e J ⟨rfl,rfl⟩;go_wp2_with fail;refine dX 1 ?_;rw[dH];go_wp2_with fail;refine(PG b _ _).mono ?_;rintro e K ⟨rfl,rfl⟩;go_wp2_with fail;refine m.mono ?_;rintro e L y;have C:=aS y;obtain⟨_,_,M,rfl,_⟩:=y;unfold CP at*;clear m;go_wp2;go_ret;exact C.out
 ·cases a
theorem MX.low{H x:aB}{ca b:aC}{w c:World}(h:MX H x ca b c)(f:w.heap.size<=c.heap.size):MX H x ca b w:=⟨h.ext,λk o e=>(h.new k o e).imp id (λe=>by omega),h.pre,λa d=>(h.cnew a d).imp id (λe=>by omega)⟩
theorem wv{z m:Nat}{r:aH}(w6:m≠z)(f:Nat)(Y:Ww z m r f)(b:Nat)(t:Et)(P:bM)(g:aJ)(w0:bM)(g':aJ)(c:Nat)(H:aB)(l:aC)(d:aI)(w:World)
  (u:k7 (f+1) t P g=some (w0,g',c)) (L:MS H l P d z r w) (W:FR l w m g) (hb:H m=none) (e0:m∉l) (y:t.kind=nF) (N:Et) (D:TypeId) (E:Nat) (e6:t.kids=[N]) (e1:ER H l (.iface D (.pointer (some ⟨E,0,none⟩))) N) (h5:H b=some (.cells #[.iface D (.pointer (some ⟨E,0,none⟩))] 351 (0,0))):
  Calls prog 232 #[CP z, .iface 349 (.pointer (some ⟨b,0,none⟩)), .map (some m)] w (Is H l d z m r w0 g' c w):=by
 rw[k7,aN (by rw[y];decide),aN (by rw[y];decide),e6]at u
 cases M:k7 f N P g with
 |none=>rw[yQ M]at u;cases u
 |some r1=>
 obtain⟨w7,g1,T⟩:=r1;simp only[gL,M]at u;have K:=u;split at K
 ·rename_i e8;simp only[dK,gU]at K;obtain⟨rfl,rfl,rfl⟩:=K;have a1:=pF b;have a2:=tK b;have mt:=N8 b;have a:=aS (aL L (aL W (aL hb (aL e0 (aL y (aL M e1))))));have e3:=L.cs.fz _ _ h5;have x5:=L.bk.lt;have w8:=W.1.lt;have w5:=aS Y;have w3:=aS e8;clear L W hb e0 y e6 u e8 M Y;unfold CP at*;go_enter func232,ntmps232;go_wp2_with fail;refine(NC b w D E e3).mono ?_;rintro e C ⟨rfl,X⟩;have F:w.grownBy C none:=by rw[X];exact aO _ _ _
  have I:C.heap[w.heap.size]? =some (.cells #[.iface D (.pointer (some ⟨E,0,none⟩))] 156 (0,0)):=by rw[X];exact dC _ _ _ rfl
  have x0:w.heap.size<C.heap.size:=aT I;clear X e3;have m1:=a.1.grown F;have f1:=a.2.1.gb (R:=λ_=>False) (Gb.new F) id;have h6:H w.heap.size=none:=a.1.cs.fz.none (aV _);have e5:¬dT l w.heap.size:=λh=>by have:=dT.lt a.1.cs h;omega
  have Q:=aS (w5.out N _ P g w7 g1 T H l d C a.2.2.2.2.2.2 a.2.2.2.2.2.1 m1 f1 a.2.2.1 a.2.2.2.1);have s:=aS (aL I (aL h6 (aL e5 F)));obtain⟨z0,z1,_⟩:=U6 (v:= .nilIface) I;clear m1 f1 I F h6 e5;unfold CP at Q;go_wp2_with fail;refine dX 2 ?_;rw[dH];go_wp2_with fail;refine Q.mono ?_;rintro e q ⟨A,U,j,rfl,h0,m2,O,f2,h7,e2,J⟩;have h1:q.heap[w.heap.size]? =_:=J.at s.1 (λe=>e.elim (λe=>by omega) (λe=>e.elim (λe=>by omega) s.2.2.1))
  have h4:A w.heap.size=none:=by
   cases h9:A w.heap.size with
   |none=>rfl
   |some o=>
    rcases O.new _ o h9 with h|h
    ·rw[s.2.1]at h;cases h
    ·omega
  have e4:¬dT U w.heap.size:=λh=>by
   rcases O.cnew _ h with h|h
   ·exact s.2.2.1 h
   ·omega
  have m3:=m2.setNew e4 h4 (by omega) 0 (CI j);have x2:=J.size;have h2:Gb (λk=>k=w.heap.size) q (q.setCell ⟨w.heap.size,0,none⟩ (CI j)):=(Gb.refl (λk=>k=w.heap.size) q).set (b:=w.heap.size) (aQ rfl) 0 (CI j);have f3:=f2.gb h2 (by omega);have h3:Gb (λk=>k=z\/k=m\/dT l k) w (q.setCell ⟨w.heap.size,0,none⟩ (CI j)):=((Gb.new s.2.2.2).tr J).set (b:=w.heap.size) (aM (aV _)) 0 (CI j);obtain⟨z0,z1,z2⟩:=U6 (v:=CI j) h1;have zc:=(U6 (v:= .nilIface) z2).1;have x:=aS (aL m3 (aL f3 (aL h3 (aL O (aL h7 (aL e2 h0))))));have x3:(q.setCell ⟨w.heap.size,0,none⟩ (CI j)).heap.size=q.heap.size:=by simp[World.setCell]
  unfold CI CP at*;clear m2 O f2 h7 e2 J h1 h4 e4 m3 h2 f3 h3 Q s h0;go_wp2_with fail;generalize q.setCell ⟨w.heap.size,0,none⟩ (.iface 265 (.pointer (some ⟨j,0,none⟩)))=W3 at*;rw[dH];have Z:=aS (TY b w.heap.size 1 265 j W3 zc);go_wp2_with fail;refine Z.mono ?_;rintro e w4 ⟨G,p,rfl,hp,h8⟩;have x4:w.heap.size<=W3.heap.size:=x.2.2.1.size;have e7:¬dT U p:=λh=>by have:=dT.lt x.1.cs h;omega
  have V:A p=none:=x.1.cs.fz.none hp;have m9:=(x.1.grown G).more h8 V e7 (by have:=x.1.bk.lt;omega);have e9:MX H (kJ A p (.cells #[.iface 265 (.pointer (some ⟨j,0,none⟩))] 351 (0,0))) l U w:=MX.low ⟨λi o e=>jS V i o (x.2.2.2.1.ext i o e),onto1_new (n:=C.heap.size) (λi o e=>x.2.2.2.1.new i o e) (by omega),x.2.2.2.1.pre,x.2.2.2.1.cnew⟩ (by omega);have S:=aS (IK (nd:=⟨t.kind,[],0,[cT T]⟩) m9 e9 (aM ⟨_,rfl,by rw[a.2.2.2.2.1];decide,by rw[a.2.2.2.2.1];decide,(λk y=>by rw[bF.1 y];rfl),⟨p,aM (aM (aM (aQ ⟨a.2.2.2.2.1,dG _,cT T,_,rfl,rfl,iR,oX x.2.2.2.2.2.2⟩)))⟩⟩) (x.2.1.gb (R:=λ_=>False) (Gb.new G) id) (show kJ A p (.cells #[.iface 265 (.pointer (some ⟨j,0,none⟩))] 351 (0,0)) m=none by unfold kJ;rw[aN (by have:=x.2.1.1.lt;omega)];exact x.2.2.2.2.1) x.2.2.2.2.2.1 w6 (x.2.2.1.tr (Gb.new G)) w3.out);clear m9 e9 G h8 V e7 Z;unfold CP at S;go_wp2_with fail;refine S.mono ?_;rintro e w9 ho;have HO:=aS ho;obtain⟨_,_,x9,rfl,_⟩:=ho;unfold CP at*;clear S;go_wp2;go_ret;exact HO.out
 ·cases K
theorem xc{z n:Nat}{r:aH}(b5:n≠z)(f:Nat)(IH:Ww z n r f)(b:Nat)(t:Et)(Z:bM)(g:aJ)(b3:bM)(g':aJ)(c:Nat)(H:aB)(j:aC)(d:aI)(w:World)
  (u:k7 (f+1) t Z g=some (b3,g',c)) (U:MS H j Z d z r w) (hf:FR j w n g) (hb:H n=none) (x7:n∉j) (y:t.kind=eS) (W:Et) (I:TypeId) (K:Nat) (X:Et) (J:TypeId) (L:Nat) (a6:t.kids=[W,X]) (e1:ER H j (.iface I (.pointer (some ⟨K,0,none⟩))) W) (e2:ER H j (.iface J (.pointer (some ⟨L,0,none⟩))) X) (h5:H b=some (.cells #[.iface I (.pointer (some ⟨K,0,none⟩)), .iface J (.pointer (some ⟨L,0,none⟩))] 384 (0,0))):
  Calls prog 232 #[CP z, .iface 361 (.pointer (some ⟨b,0,none⟩)), .map (some n)] w (Is H j d z n r b3 g' c w):=by
 rw[k7,aN (by rw[y];decide),aN (by rw[y];decide),a6]at u
 cases D:k7 f W Z g with
 |none=>rw[yQ D]at u;cases u
 |some r1=>
 obtain⟨e0,g1,c1⟩:=r1
 cases V:k7 f X e0 g1 with
 |none=>simp only[gL,D,V]at u;cases u
 |some r2=>
 obtain⟨b6,g2,c2⟩:=r2;simp only[gL,D,V]at u;have T:=u;split at T
 ·rename_i a8;simp only[dK,gU]at T;obtain⟨rfl,rfl,rfl⟩:=T;have a1:=pG b;have a2:=tM b;have mt:=N9 b;have a:=aS (aL U (aL hf (aL hb (aL x7 (aL y (aL D (aL e1 (aL V e2))))))));have a3:=U.cs.fz _ _ h5;have c6:=U.bk.lt;have b7:=hf.1.lt;have e4:=aS IH;have b4:=aS a8;clear U hf hb x7 y a6 u a8 D V IH;unfold CP at*;go_enter func232,ntmps232;go_wp2_with fail;refine(ND b w I J K L a3).mono ?_;rintro e Y ⟨rfl,h8⟩;have N:w.grownBy Y none:=by rw[h8];exact cZ (aO _ _ _)
  have P:Y.heap[w.heap.size]? =some (.cells #[.iface I (.pointer (some ⟨K,0,none⟩)), .iface J (.pointer (some ⟨L,0,none⟩))] 156 (0,0)):=by rw[h8];exact dC _ _ _ rfl
  have b8:w.heap.size<Y.heap.size:=aT P;clear h8 a3;have m1:=a.1.grown N;have f1:=a.2.1.gb (R:=λ_=>False) (Gb.new N) id;have x4:H w.heap.size=none:=a.1.cs.fz.none (aV _);have a5:¬dT j w.heap.size:=λh=>by have:=dT.lt a.1.cs h;omega
  have h0:=aS (e4.out W _ Z g e0 g1 c1 H j d Y a.2.2.2.2.2.2.1 a.2.2.2.2.2.1 m1 f1 a.2.2.1 a.2.2.2.1);have C:=aS (aL P (aL x4 (aL a5 N)));obtain⟨z0,z1,_⟩:=pP P;clear m1 f1 P N x4 a5;unfold CP at h0;go_wp2_with fail;refine dX 3 ?_;rw[dH];go_wp2_with fail;refine h0.mono ?_;rintro e s ⟨H1,e5,l,rfl,e6,m2,E,f2,h4,h6,Q⟩;have e9:s.heap[w.heap.size]? =_:=Q.at C.1 (λe=>e.elim (λe=>by omega) (λe=>e.elim (λe=>by omega) C.2.2.1))
  have h2:H1 w.heap.size=none:=by
   cases h9:H1 w.heap.size with
   |none=>rfl
   |some o=>
    rcases E.new _ o h9 with h|h
    ·rw[C.2.1]at h;cases h
    ·omega
  have h7:¬dT e5 w.heap.size:=λh=>by
   rcases E.cnew _ h with h|h
   ·exact C.2.2.1 h
   ·omega
  have m3:=m2.setNew h7 h2 (by omega) 0 (CI l);have b9:=Q.size;have w6:Gb (λk=>k=w.heap.size) s (s.setCell ⟨w.heap.size,0,none⟩ (CI l)):=(Gb.refl (λk=>k=w.heap.size) s).set (b:=w.heap.size) (aQ rfl) 0 (CI l);have f3:=f2.gb w6 (by omega);have w8:Gb (λk=>k=z\/k=n\/dT j k) w (s.setCell ⟨w.heap.size,0,none⟩ (CI l)):=((Gb.new C.2.2.2).tr Q).set (b:=w.heap.size) (aM (aV _)) 0 (CI l);obtain⟨z0,z1,z2,z3,G,_⟩:=pP e9;have h1:=G (CI l);have q:=aS (aL m3 (aL f3 (aL w8 (aL E (aL h4 (aL h6 (aL e6 (aL h1 (aL h2 h7)))))))));have c0:(s.setCell ⟨w.heap.size,0,none⟩ (CI l)).heap.size=s.heap.size:=by simp[World.setCell]
  obtain⟨y0,y1,_⟩:=pP h1;have e3:=aS (e4.out X _ e0 g1 b6 g2 c2 H1 e5 d (s.setCell ⟨w.heap.size,0,none⟩ (CI l)) (E.er a.2.2.2.2.2.2.2.2) a.2.2.2.2.2.2.2.1 m3 f3 h4 h6);unfold CI CP at*;clear m2 E f2 h4 h6 Q e9 h2 h7 m3 w6 f3 w8 h0 C e6 G h1;go_wp2_with fail;generalize s.setCell ⟨w.heap.size,0,none⟩ (.iface 265 (.pointer (some ⟨l,0,none⟩)))=W3 at*;rw[dH];go_wp2_with fail;refine e3.mono ?_;rintro e v ⟨A,M,m,rfl,e8,m5,F,f5,x6,a0,S⟩;have w0:v.heap[w.heap.size]? =_:=S.at q.2.2.2.2.2.2.2.1 (λe=>e.elim (λe=>by omega) (λe=>e.elim (λe=>by omega) q.2.2.2.2.2.2.2.2.2))
  have x3:A w.heap.size=none:=by
   cases h9:A w.heap.size with
   |none=>rfl
   |some o=>
    rcases F.new _ o h9 with h|h
    ·rw[q.2.2.2.2.2.2.2.2.1]at h;cases h
    ·omega
  have a4:¬dT M w.heap.size:=λh=>by
   rcases F.cnew _ h with h|h
   ·exact q.2.2.2.2.2.2.2.2.2 h
   ·omega
  have m7:=m5.setNew a4 x3 (by omega) 1 (CI m);have c3:=S.size;have w7:Gb (λk=>k=w.heap.size) v (v.setCell ⟨w.heap.size,1,none⟩ (CI m)):=(Gb.refl (λk=>k=w.heap.size) v).set (b:=w.heap.size) (aQ rfl) 1 (CI m);have f7:=f5.gb w7 (by omega);have a9:MX H A j M w:=(MX.trans q.2.2.2.1 F (by omega)).low (by omega);have x0:Gb (λk=>k=z\/k=n\/dT j k) w (v.setCell ⟨w.heap.size,1,none⟩ (CI m)):=(q.2.2.1.trans S (λi e=>e.elim (λe=>aQ (aQ e)) (λe=>e.elim (λe=>aQ (aM (aQ e))) (λe=>(q.2.2.2.1.cnew i e).elim (λe=>aQ (aM (aM e))) (λe=>aM (by omega)))))).set (b:=w.heap.size) (aM (aV _)) 1 (CI m);obtain⟨z0,z1,z2,z3,_,G⟩:=pP w0;have w3:=G (CI m);have e7:=jD F.pre q.2.2.2.2.2.2.1;have x:=aS (aL m7 (aL f7 (aL x0 (aL a9 (aL x6 (aL a0 (aL e7 e8)))))));have c4:(v.setCell ⟨w.heap.size,1,none⟩ (CI m)).heap.size=v.heap.size:=by simp[World.setCell]
  obtain⟨zc,zd,_⟩:=pP w3;unfold CI CP at*;clear e8 m5 F f5 x6 a0 S w0 x3 a4 m7 w7 f7 a9 x0 G w3 e7 e3 q;go_wp2_with fail;generalize v.setCell ⟨w.heap.size,1,none⟩ (.iface 265 (.pointer (some ⟨m,0,none⟩)))=W7 at*;rw[dH];have LI:=aS (TZ b w.heap.size 2 265 l 265 m W7 zc zd);go_wp2_with fail;refine LI.mono ?_;rintro e w4 ⟨O,p,rfl,hp,x5⟩;have c5:w.heap.size<=W7.heap.size:=x.2.2.1.size;have a7:¬dT M p:=λh=>by have:=dT.lt x.1.cs h;omega
  have h3:A p=none:=x.1.cs.fz.none hp;have m9:=(x.1.grown O).more x5 h3 a7 (by have:=x.1.bk.lt;omega);have b0:MX H (kJ A p (.cells #[.iface 265 (.pointer (some ⟨l,0,none⟩)), .iface 265 (.pointer (some ⟨m,0,none⟩))] 384 (0,0))) j M w:=⟨λi o e=>jS h3 i o (x.2.2.2.1.ext i o e),onto1_new (λi o e=>x.2.2.2.1.new i o e) (by omega),x.2.2.2.1.pre,x.2.2.2.1.cnew⟩;have CO:=aS (IK (nd:=⟨t.kind,[],0,[cT c1,cT c2]⟩) m9 b0 (aM ⟨_,rfl,by rw[a.2.2.2.2.1];decide,by rw[a.2.2.2.2.1];decide,(λk y=>by simp at y;rcases y with rfl|rfl<;>rfl),⟨p,aM (aM (aM (aM (aQ ⟨a.2.2.2.2.1,dG _,cT c1,cT c2,_,_,rfl,rfl,iR,oX x.2.2.2.2.2.2.1,oX x.2.2.2.2.2.2.2⟩))))⟩⟩) (x.2.1.gb (R:=λ_=>False) (Gb.new O) id) (show kJ A p (.cells #[.iface 265 (.pointer (some ⟨l,0,none⟩)), .iface 265 (.pointer (some ⟨m,0,none⟩))] 384 (0,0)) n=none by unfold kJ;rw[aN (by have:=x.2.1.1.lt;omega)];exact x.2.2.2.2.1) x.2.2.2.2.2.1 b5 (x.2.2.1.tr (Gb.new O)) b4.out);clear m9 b0 O x5 h3 a7 LI;unfold CP at CO;go_wp2_with fail;refine CO.mono ?_;rintro e w9 ho;have HO:=aS ho;obtain⟨_,_,x9,rfl,_⟩:=ho;unfold CP at*;clear CO;go_wp2;go_ret;exact HO.out
 ·cases T
theorem jl{z n:Nat}{r:aH}(b5:n≠z)(f:Nat)(IH:Ww z n r f)(b:Nat)(t:Et)(Z:bM)(g:aJ)(b3:bM)(g':aJ)(c:Nat)(H:aB)(j:aC)(d:aI)(w:World)
  (u:k7 (f+1) t Z g=some (b3,g',c)) (U:MS H j Z d z r w) (hf:FR j w n g) (hb:H n=none) (x7:n∉j) (y:t.kind=dO) (W:Et) (I:TypeId) (K:Nat) (X:Et) (J:TypeId) (L:Nat) (a6:t.kids=[W,X]) (e1:ER H j (.iface I (.pointer (some ⟨K,0,none⟩))) W) (e2:ER H j (.iface J (.pointer (some ⟨L,0,none⟩))) X) (h5:H b=some (.cells #[.iface I (.pointer (some ⟨K,0,none⟩)), .iface J (.pointer (some ⟨L,0,none⟩))] 293 (0,0))):
  Calls prog 232 #[CP z, .iface 291 (.pointer (some ⟨b,0,none⟩)), .map (some n)] w (Is H j d z n r b3 g' c w):=by
 rw[k7,aN (by rw[y];decide),aN (by rw[y];decide),a6]at u
 cases D:k7 f W Z g with
 |none=>rw[yQ D]at u;cases u
 |some r1=>
 obtain⟨e0,g1,c1⟩:=r1
 cases V:k7 f X e0 g1 with
 |none=>simp only[gL,D,V]at u;cases u
 |some r2=>
 obtain⟨b6,g2,c2⟩:=r2;simp only[gL,D,V]at u;have T:=u;split at T
 ·rename_i a8;simp only[dK,gU]at T;obtain⟨rfl,rfl,rfl⟩:=T;have a1:=nK b;have a2:=rY b;have mt:=I7 b;have a:=aS (aL U (aL hf (aL hb (aL x7 (aL y (aL D (aL e1 (aL V e2))))))));have a3:=U.cs.fz _ _ h5;have c6:=U.bk.lt;have b7:=hf.1.lt;have e4:=aS IH;have b4:=aS a8;clear U hf hb x7 y a6 u a8 D V IH;unfold CP at*;go_enter func232,ntmps232;go_wp2_with fail;refine(IA b w I J K L a3).mono ?_;rintro e Y ⟨rfl,h8⟩;have N:w.grownBy Y none:=by rw[h8];exact cZ (aO _ _ _)
  have P:Y.heap[w.heap.size]? =some (.cells #[.iface I (.pointer (some ⟨K,0,none⟩)), .iface J (.pointer (some ⟨L,0,none⟩))] 156 (0,0)):=by rw[h8];exact dC _ _ _ rfl
  have b8:w.heap.size<Y.heap.size:=aT P;clear h8 a3;have m1:=a.1.grown N;have f1:=a.2.1.gb (R:=λ_=>False) (Gb.new N) id;have x4:H w.heap.size=none:=a.1.cs.fz.none (aV _);have a5:¬dT j w.heap.size:=λh=>by have:=dT.lt a.1.cs h;omega
  have h0:=aS (e4.out W _ Z g e0 g1 c1 H j d Y a.2.2.2.2.2.2.1 a.2.2.2.2.2.1 m1 f1 a.2.2.1 a.2.2.2.1);have C:=aS (aL P (aL x4 (aL a5 N)));obtain⟨z0,z1,_⟩:=pP P;clear m1 f1 P N x4 a5;unfold CP at h0;go_wp2_with fail;refine dX 3 ?_;rw[dH];go_wp2_with fail;refine h0.mono ?_;rintro e s ⟨H1,e5,l,rfl,e6,m2,E,f2,h4,h6,Q⟩;have e9:s.heap[w.heap.size]? =_:=Q.at C.1 (λe=>e.elim (λe=>by omega) (λe=>e.elim (λe=>by omega) C.2.2.1))
  have h2:H1 w.heap.size=none:=by
   cases h9:H1 w.heap.size with
   |none=>rfl
   |some o=>
    rcases E.new _ o h9 with h|h
    ·rw[C.2.1]at h;cases h
    ·omega
  have h7:¬dT e5 w.heap.size:=λh=>by
   rcases E.cnew _ h with h|h
   ·exact C.2.2.1 h
   ·omega
  have m3:=m2.setNew h7 h2 (by omega) 0 (CI l);have b9:=Q.size;have w6:Gb (λk=>k=w.heap.size) s (s.setCell ⟨w.heap.size,0,none⟩ (CI l)):=(Gb.refl (λk=>k=w.heap.size) s).set (b:=w.heap.size) (aQ rfl) 0 (CI l);have f3:=f2.gb w6 (by omega);have w8:Gb (λk=>k=z\/k=n\/dT j k) w (s.setCell ⟨w.heap.size,0,none⟩ (CI l)):=((Gb.new C.2.2.2).tr Q).set (b:=w.heap.size) (aM (aV _)) 0 (CI l);obtain⟨z0,z1,z2,z3,G,_⟩:=pP e9;have h1:=G (CI l);have q:=aS (aL m3 (aL f3 (aL w8 (aL E (aL h4 (aL h6 (aL e6 (aL h1 (aL h2 h7)))))))));have c0:(s.setCell ⟨w.heap.size,0,none⟩ (CI l)).heap.size=s.heap.size:=by simp[World.setCell]
  obtain⟨y0,y1,_⟩:=pP h1;have e3:=aS (e4.out X _ e0 g1 b6 g2 c2 H1 e5 d (s.setCell ⟨w.heap.size,0,none⟩ (CI l)) (E.er a.2.2.2.2.2.2.2.2) a.2.2.2.2.2.2.2.1 m3 f3 h4 h6);unfold CI CP at*;clear m2 E f2 h4 h6 Q e9 h2 h7 m3 w6 f3 w8 h0 C e6 G h1;go_wp2_with fail;generalize s.setCell ⟨w.heap.size,0,none⟩ (.iface 265 (.pointer (some ⟨l,0,none⟩)))=W3 at*;rw[dH];go_wp2_with fail;refine e3.mono ?_;rintro e v ⟨A,M,m,rfl,e8,m5,F,f5,x6,a0,S⟩;have w0:v.heap[w.heap.size]? =_:=S.at q.2.2.2.2.2.2.2.1 (λe=>e.elim (λe=>by omega) (λe=>e.elim (λe=>by omega) q.2.2.2.2.2.2.2.2.2))
  have x3:A w.heap.size=none:=by
   cases h9:A w.heap.size with
   |none=>rfl
   |some o=>
    rcases F.new _ o h9 with h|h
    ·rw[q.2.2.2.2.2.2.2.2.1]at h;cases h
    ·omega
  have a4:¬dT M w.heap.size:=λh=>by
   rcases F.cnew _ h with h|h
   ·exact q.2.2.2.2.2.2.2.2.2 h
   ·omega
  have m7:=m5.setNew a4 x3 (by omega) 1 (CI m);have c3:=S.size;have w7:Gb (λk=>k=w.heap.size) v (v.setCell ⟨w.heap.size,1,none⟩ (CI m)):=(Gb.refl (λk=>k=w.heap.size) v).set (b:=w.heap.size) (aQ rfl) 1 (CI m);have f7:=f5.gb w7 (by omega);have a9:MX H A j M w:=(MX.trans q.2.2.2.1 F (by omega)).low (by omega);have x0:Gb (λk=>k=z\/k=n\/dT j k) w (v.setCell ⟨w.heap.size,1,none⟩ (CI m)):=(q.2.2.1.trans S (λi e=>e.elim (λe=>aQ (aQ e)) (λe=>e.elim (λe=>aQ (aM (aQ e))) (λe=>(q.2.2.2.1.cnew i e).elim (λe=>aQ (aM (aM e))) (λe=>aM (by omega)))))).set (b:=w.heap.size) (aM (aV _)) 1 (CI m);obtain⟨z0,z1,z2,z3,_,G⟩:=pP w0;have w3:=G (CI m);have e7:=jD F.pre q.2.2.2.2.2.2.1;have x:=aS (aL m7 (aL f7 (aL x0 (aL a9 (aL x6 (aL a0 (aL e7 e8)))))));have c4:(v.setCell ⟨w.heap.size,1,none⟩ (CI m)).heap.size=v.heap.size:=by simp[World.setCell]
  obtain⟨zc,zd,_⟩:=pP w3;unfold CI CP at*;clear e8 m5 F f5 x6 a0 S w0 x3 a4 m7 w7 f7 a9 x0 G w3 e7 e3 q;go_wp2_with fail;generalize v.setCell ⟨w.heap.size,1,none⟩ (.iface 265 (.pointer (some ⟨m,0,none⟩)))=W7 at*;rw[dH];have LI:=aS (PH b w.heap.size 2 265 l 265 m W7 zc zd);go_wp2_with fail;refine LI.mono ?_;rintro e w4 ⟨O,p,rfl,hp,x5⟩;have c5:w.heap.size<=W7.heap.size:=x.2.2.1.size;have a7:¬dT M p:=λh=>by have:=dT.lt x.1.cs h;omega
  have h3:A p=none:=x.1.cs.fz.none hp;have m9:=(x.1.grown O).more x5 h3 a7 (by have:=x.1.bk.lt;omega);have b0:MX H (kJ A p (.cells #[.iface 265 (.pointer (some ⟨l,0,none⟩)), .iface 265 (.pointer (some ⟨m,0,none⟩))] 293 (0,0))) j M w:=⟨λi o e=>jS h3 i o (x.2.2.2.1.ext i o e),onto1_new (λi o e=>x.2.2.2.1.new i o e) (by omega),x.2.2.2.1.pre,x.2.2.2.1.cnew⟩;have CO:=aS (IK (nd:=⟨t.kind,[],0,[cT c1,cT c2]⟩) m9 b0 (aM ⟨_,rfl,by rw[a.2.2.2.2.1];decide,by rw[a.2.2.2.2.1];decide,(λk y=>by simp at y;rcases y with rfl|rfl<;>rfl),⟨p,aM (aM (aM (aM (aM ⟨a.2.2.2.2.1,dG _,cT c1,cT c2,_,_,rfl,rfl,iR,oX x.2.2.2.2.2.2.1,oX x.2.2.2.2.2.2.2⟩))))⟩⟩) (x.2.1.gb (R:=λ_=>False) (Gb.new O) id) (show kJ A p (.cells #[.iface 265 (.pointer (some ⟨l,0,none⟩)), .iface 265 (.pointer (some ⟨m,0,none⟩))] 293 (0,0)) n=none by unfold kJ;rw[aN (by have:=x.2.1.1.lt;omega)];exact x.2.2.2.2.1) x.2.2.2.2.2.1 b5 (x.2.2.1.tr (Gb.new O)) b4.out);clear m9 b0 O x5 h3 a7 LI;unfold CP at CO;go_wp2_with fail;refine CO.mono ?_;rintro e w9 ho;have HO:=aS ho;obtain⟨_,_,x9,rfl,_⟩:=ho;unfold CP at*;clear CO;go_wp2;go_ret;exact HO.out
 ·cases T
theorem IL{tb mb:Nat}{r:aH}(e:mb≠tb):∀f,Ww tb mb r f
 |0=>λt v p g q k c H j d w _ i _ _ _ _=>by cases i
 |f+1=>λt v p g q k c H j d w o i C A s y=>by
  have K:=o;obtain⟨m,o⟩:=o
  cases m with
  |zero=>exact absurd o id
  |succ m=>
  obtain⟨b,o⟩:=o;rcases o with⟨h,_⟩|⟨h,_⟩|⟨h,l,rfl,n⟩|⟨h,_,a,u,l,rfl,n,x⟩|⟨h,_,a,I,u,z,l,rfl,n,x,F⟩|⟨h,_,a,I,u,z,l,rfl,n,x,F⟩
  ·exact U7 e f t v p g q k c H j d w K i C A s y (aQ h)
  ·exact U7 e f t v p g q k c H j d w K i C A s y (aM h)
  ·exact jk e f b t p g q k c H j d w i C A s y h l n
  ·obtain⟨D,E,_,rfl⟩:=x.val;exact wv e f (IL e f) b t p g q k c H j d w i C A s y h a D E l ⟨m,x⟩ n
  ·obtain⟨D,E,_,rfl⟩:=x.val;obtain⟨G,J,_,rfl⟩:=F.val;exact xc e f (IL e f) b t p g q k c H j d w i C A s y h a D E I G J l ⟨m,x⟩ ⟨m,F⟩ n
  ·obtain⟨D,E,_,rfl⟩:=x.val;obtain⟨G,J,_,rfl⟩:=F.val;exact jl e f (IL e f) b t p g q k c H j d w i C A s y h a D E I G J l ⟨m,x⟩ ⟨m,F⟩ n
theorem Cv(w:World):(Instr.makeMap 398 none).run prog w= .ok (.map (some w.heap.size)) (w.alloc (.map #[] 0)):=by kernel_rfl
def Zg(H:aB)(b:aC)(d:Nat)(r:aH)(i:bM)(c:Nat)(w:World)(e:Ending)(f:World):Prop:=
 ∃a h g x,e= .returned (CP x)/\h[c]? =some x/\MS a h i g d r f/\MX H a b h w/\Gb (λk=>k=d\/dT b k) w f
theorem WH{H:aB}{g:aC}{o k:bM}{d:aI}{tb:Nat}{r:aH}{f:Nat}{t:Et}{v:Value}{u:aJ}{w:World}(n:ER H g v t)(A:k7 f t o []=some (k,u,c))(j:MS H g o d tb r w):
  Calls prog 203 #[CP tb, .agg #[v]] w (Zg H g tb r k c w):=by
 obtain⟨a,b,_,rfl⟩:=oE n;have L:=j.bk.lt;have y:w.grownBy (w.alloc (.cells #[.iface a (.pointer (some ⟨b,0,none⟩))] 174)) none:=aO _ _ _;have E:(w.alloc (.cells #[.iface a (.pointer (some ⟨b,0,none⟩))] 174)).heap.size=w.heap.size+1:=by simp
 have I:=Cv (w.alloc (.cells #[.iface a (.pointer (some ⟨b,0,none⟩))] 174));have m:=y.trans (aO (w.alloc (.cells #[.iface a (.pointer (some ⟨b,0,none⟩))] 174)) (.map #[] 0) none);have l:FR g ((w.alloc (.cells #[.iface a (.pointer (some ⟨b,0,none⟩))] 174)).alloc (.map #[] 0)) (w.alloc (.cells #[.iface a (.pointer (some ⟨b,0,none⟩))] 174)).heap.size []:=⟨GM.new,λp J=>by cases J⟩;rw[E]at l I;have CI:=aS (IL (tb:=tb) (mb:=w.heap.size+1) (r:=r) (by omega) f t _ o [] k u c H g d _ n A (j.grown m) l (j.cs.fz.none (by omega)) (λh=>by have:=dT.lt j.cs h;omega));have q:=aS m;unfold CP at CI⊢;clear n A j l y m E;go_enter func203,ntmps203;go_wp2_with fail;refine CI.mono ?_;rintro e K ⟨F,G,x,rfl,s,C,D,_,_,_,z⟩;have Q:=aS (show Zg H g tb r k c w (.returned (CP x)) K from⟨F,G,d,x,rfl,s,C,D.low q.size,(Gb.new q.out).trans z (λi e=>e.elim (λe=>aQ (aQ e)) (λe=>e.elim (λe=>aM (by omega)) (λe=>aQ (aM e))))⟩);unfold CP at*;clear s C D z CI;go_wp2;go_ret;exact Q.out
end Go.Proofs.YtcdijppegfcoaaaGreatDoor
