import Derived.Test.YtcdijppegfcoaaaGreatDoorZH29
set_option maxRecDepth 100000
set_option maxHeartbeats 2000000
set_option linter.unusedSimpArgs false
namespace Go.Proofs.YtcdijppegfcoaaaGreatDoor
open Go.RowKit Tryz
variable{n x y:Nat}{v:Value}
structure TC where
 tb:Nat
 most:Value
 each:Value
 mb:Nat
 base:Nat
 ge:List (aA×Et)
 keep:List Nat
def TC.own(C:TC)(k:Nat):Prop:=C.base<=k/\k∉C.keep
def TC.r(C:TC)(nv:Value):List Value:=[C.most,C.each, .map (some C.mb),nv]
structure NR(H:aB)(ca:aC)(tb base:Nat)(w:World)(nv:Value)(vs:List NE)(nb:lQE):Prop where
 len:vs.length=nb.length
 own:w.ownsRow base 403 2 nv vs.length (gP vs)
 is:∀(i:Nat) (p:NE) q,vs[i]? =some p->nb[i]? =some q->p.1=q.1/\ER H ca p.v q.2
 off:∀g,nv.ownBlock=some g->H g=none/\g∉ca/\g≠tb
 few:nb.length<=1000
def GE(H:aB)(ca:aC)(w:World)(a:Nat)(x:lQE):Prop:=
 ∃h:List (aA×Value),GM kS (λv=> .agg #[v]) 9 w a h/\∀e t,dR x e=some t->∃v,dR h e=some v/\ER H ca v t
structure kD(C:TC)(H:aB)(ca:aC)(σ:bM)(d:aI)(nb:lQE)(nv:Value)(vs:List NE)(w:World):Prop where
 ms:MS H ca σ d C.tb (C.r nv) w
 nr:NR H ca C.tb C.base w nv vs nb
 env:GE H ca w C.mb C.ge
 mlo:C.mb<C.base
 tlo:C.own C.tb
 clo:∀a,a∈ca->C.own a
 kp:∀g,g∈C.keep->g<w.heap.size
 nko:∀g,nv.ownBlock=some g->g∉C.keep
theorem iX{R:Nat->Prop}{w w':World}{base a:Nat}{e:TypeId}{b:aH}(h:w.ownsRow base e a v n b)(g:Gb R w w')(m:∀k,v.ownBlock=some k->¬R k):w'.ownsRow base e a v n b:=by
 obtain⟨f,x⟩:=h;refine⟨f, ?_⟩;rcases x with x|⟨k,c,d,rfl,i,j,l⟩
 ·exact .inl x
 ·exact .inr ⟨k,c,d,rfl,i,g.at j (m k rfl),l⟩
theorem MX.none{H H':aB}{ca ca':aC}{w:World}(x:MX H H' ca ca' w){k:Nat}(b:k<w.heap.size)(h:H k=none):H' k=none:=by
 cases e:H' k with
 |none=>rfl
 |some o=>
  rcases x.new _ _ e with a|a
  ·rw[h]at a;cases a
  ·omega
theorem MX.notin{H H':aB}{ca ca':aC}{w:World}(x:MX H H' ca ca' w){k:Nat}(b:k<w.heap.size)(h:k∉ca):k∉ca':=λe=>by
 rcases x.cnew _ e with a|a
 ·exact h a
 ·omega
theorem NR.step{R:Nat->Prop}{H H':aB}{ca ca':aC}{c base:Nat}{w w':World}{nv:Value}{vs:List NE}{nb:lQE}(h:NR H ca c base w nv vs nb)(x:MX H H' ca ca' w)(g:Gb R w w')(hR:∀k,nv.ownBlock=some k->¬R k):NR H' ca' c base w' nv vs nb:=
 ⟨h.len,iX h.own g hR,λi p q a b=>⟨(h.is i p q a b).1,x.er (h.is i p q a b).2⟩,λk e=>⟨x.none (h.own.lt k e).2 (h.off k e).1,x.notin (h.own.lt k e).2 (h.off k e).2.1,(h.off k e).2.2⟩,h.few⟩
theorem GE.step{R:Nat->Prop}{H H':aB}{ca ca':aC}{a:Nat}{b:lQE}{w w':World}(h:GE H ca w a b)(x:MX H H' ca ca' w)(g:Gb R w w')(hR:¬R a):GE H' ca' w' a b:=by obtain⟨f,i,j⟩:=h;exact⟨f,i.gb g hR,λk t e=>by obtain⟨v,c,d⟩:=j k t e;exact⟨v,c,x.er d⟩⟩
section
variable {C:TC} {H H':Nat->Option Obj} {ca ca':List Nat} {σ σ':bM} {d d':Nat->Nat} {nb:List (List UInt8×Et)} {nv:Value} {vs:List NE} {w w':World}
theorem kD.low(h:kD C H ca σ d nb nv vs w)(k:Nat)(x:k=C.tb\/dT ca k):C.own k:=by
 rcases x with e|e
 ·rw[e];exact h.tlo
 ·exact h.clo k e
theorem kD.gbase(h:kD C H ca σ d nb nv vs w)(g:Gb (λk=>k=C.tb\/dT ca k) w w'):Gb C.own w w':=g.mono λk e=>h.low k e
theorem kD.bs(h:kD C H ca σ d nb nv vs w):C.base<=w.heap.size:=bV h.tlo.1 (jW h.ms.bk.lt)
theorem kD.step(h:kD C H ca σ d nb nv vs w)(m:MS H' ca' σ' d' C.tb (C.r nv) w')(x:MX H H' ca ca' w)(g:Gb (λk=>k=C.tb\/dT ca k) w w'):kD C H' ca' σ' d' nb nv vs w':=
 ⟨m,h.nr.step x g (λk b e=>by rcases e with e|e;exact(h.nr.off k b).2.2 e;exact(h.nr.off k b).2.1 e),h.env.step x g (λe=>by have:=(h.low _ e).1;have:=h.mlo;omega),h.mlo,h.tlo,λa c=>by
  rcases x.cnew a c with e|e
  ·exact h.clo a e
  ·exact⟨by have:=h.bs;omega,λb=>by have:=h.kp a b;omega⟩,λk b=>aZ (h.kp k b) g.size,h.nko⟩
theorem kD.grown(h:kD C H ca σ d nb nv vs w)(g:w.grownBy w' none):kD C H ca σ d nb nv vs w':=h.step (h.ms.grown g) (MX.refl _ _ _) (Gb.new g)
theorem MS.drew{e:Nat}{r:aH}(h:MS H ca σ d e r w):MS H ca σ d e r w.drew:=⟨h.cs.drew,h.bk,h.ht,h.hta⟩
theorem kD.drew(h:kD C H ca σ d nb nv vs w):kD C H ca σ d nb nv vs w.drew:=h.step h.ms.drew (MX.refl _ _ _) (Gb.refl _ w).drew
end
def js(C:TC)(H:aB)(ca:aC)(σ':bM)(c:Nat)(nb:lQE)(w:World)(e:Ending)(w':World):Prop:=
 ∃H' ca' d' x nv vs,e= .returned (CP x)/\ca'[c]? =some x/\kD C H' ca' σ' d' nb nv vs w'/\MX H H' ca ca' w/\Gb C.own w w'
theorem js.low{C:TC}{H a:aB}{ca b:aC}{σ':bM}{c:Nat}{nb:lQE}{w d f:World}{e:Ending}(h:js C a b σ' c nb d e f)(x:MX H a ca b w)(g:Gb C.own w d):js C H ca σ' c nb w e f:=by obtain⟨H',ca',d',y,nv,vs,i,j,k,l,m⟩:=h;exact⟨H',ca',d',y,nv,vs,i,j,k,x.trans l g.size,g.tr m⟩
def xO(nb e:lQE)(h:aA):Option Et:=match nb.reverse.find? (λp=>decide (p.1=h))with
 |some p=>some p.2
 |none=>dR e h
def IQ(e:lQE)(h:aA)(nb:lQE)(σ:bM):Option (bM×Nat):=
 if h.length<=300 then match xO nb e h with
  |none=>none
  |some t=>match k7 400 t σ []with
   |none=>none
   |some (w,_,c)=>some (w,c)
 else none
def CH(o:Option Et)(σ:bM):Option (bM×Nat):=if GY σ=true then some (σ.new o,σ.rep.length)else none
theorem MX.prep{H H':aB}{ca ca':aC}{w:World}(x:MX H H' ca ca' w){m:Nat}{e:Ex}(h:dI m H v e):dI m H' v e:=
 dI.ext (m:=w.heap.size) ⟨x.ext,λk b=>by
  cases a:H k with
  |none=>exact x.none b a
  |some o=>exact x.ext k o a⟩ m v e h
theorem dI.val{m:Nat}{H:aB}{v:Value}{e:Ex}(h:dI m H v e):∃T b,v= .iface T (.pointer (some ⟨b,0,none⟩)):=by
 cases m with
 |zero=>exact absurd h id
 |succ m=>obtain⟨b,_,w,_⟩:=h;exact⟨_,b,w⟩
theorem vN:∀vs:List NE,(gP vs).length=vs.length*2
 |[]=>rfl
 |p::l=>by simp[gP,vN l];omega
theorem EP:∀(vs:List NE) (j:Nat) (p:NE),vs[j]? =some p->(gP vs)[j*2]? =some (.string (B p.1))/\(gP vs)[j*2+1]? =some p.v
 |[],j,p,h=>by simp at h
 |q::l,0,p,h=>by simp at h;subst h;exact⟨rfl,rfl⟩
 |q::l,j+1,p,h=>by have e:=EP l j p (by simpa using h);rw[show(j+1)*2=j*2+2 by omega];simpa[gP]using e
theorem vO:∀(a b:List NE),gP (a++b)=gP a++gP b
 |[],_=>rfl
 |p::l,b=>by simp[gP,vO l b]
theorem NR.nis{H:aB}{ca:aC}{q base:Nat}{w:World}{nv:Value}{vs:List NE}{nb:lQE}(h:NR H ca q base w nv vs nb):It w.heap.size w nv vs:=by
 have o:=h.own.lt;obtain⟨r,e⟩:=h.own;rcases e with⟨e,a⟩|⟨g,d,f,rfl,a,k,s,t,v,l⟩
 ·exact .inl ⟨e,List.length_eq_zero_iff.1 a⟩
 ·refine .inr ⟨g,d,rfl,(o g rfl).2,λj n=> ?_⟩;have p:vs[j]? =some (NE.at vs j):=by unfold NE.at;rw[aP n];rfl
  have x:=EP vs j _ p;rw[<-l]at x
  have b:∀i u,i<vs.length*2->(f.toList.take (vs.length*2))[i]? =some u->w.cell? ⟨g,i,none⟩=some u:=λi u m c=>by rw[iC m]at c;simpa[World.cell?,k]using c
  exact⟨b _ _ (by omega) x.1,b _ _ (by omega) x.2⟩
theorem NR.slice{H:aB}{ca:aC}{c base:Nat}{w:World}{nv:Value}{vs:List NE}{nb:lQE}(h:NR H ca c base w nv vs nb):∃a x,nv= .slice a vs.length x:=by
 obtain⟨f,e⟩:=h.own;rcases e with⟨e,b⟩|⟨g,x,d,e,_⟩
 ·exact⟨none,0,by rw[e,b]⟩
 ·exact⟨_,x,e⟩
theorem ZL{X:NE->(aA×Et)->Prop}{nm:aA}:∀(a:List NE) (b:lQE),a.length=b.length->(∀(i:Nat) p q,a[i]? =some p->b[i]? =some q->p.1=q.1/\X p q)->
  (a.find? (λp=>decide (p.1=nm))=none/\b.find? (λp=>decide (p.1=nm))=none)\/∃p q,a.find? (λp=>decide (p.1=nm))=some p/\b.find? (λp=>decide (p.1=nm))=some q/\X p q
 |[],[],_,_=> .inl ⟨rfl,rfl⟩
 |[],_::_,h,_=>by simp at h
 |_::_,[],h,_=>by simp at h
 |p::a,q::b,h,c=>by
  have x:=c 0 p q rfl rfl;by_cases w:p.1=nm
  ·refine .inr ⟨p,q, ?_, ?_,x.2⟩
   ·rw[sP,dE w]
   ·rw[sP,dE (x.1.symm.trans w)]
  ·have g:=ZL (X:=X) (nm:=nm) a b (by simpa using h) (λi p q d f=>c (i+1) p q (by simpa using d) (by simpa using f));rw[sP,sP,bN w,bN (λe=>w (x.1.trans e))];exact g
theorem NR.find{H:aB}{b:aC}{j base:Nat}{w:World}{g:Value}{e:List NE}{x:lQE}(h:NR H b j base w g e x)(a:aA):
  (IP e a=none/\x.reverse.find? (λp=>decide (p.1=a))=none)\/∃p q,IP e a=some p/\x.reverse.find? (λp=>decide (p.1=a))=some q/\ER H b p.v q.2:=
 ZL (X:=λp q=>ER H b p.v q.2) e.reverse x.reverse (by simp[h.len]) (λi p q c d=>by
  have f:i<e.length:=by simpa using(aU.1 c).1
  rw[List.getElem?_reverse f]at c;rw[List.getElem?_reverse (by rw[<-h.len];exact f),<-h.len]at d
  exact h.is _ p q c d)
theorem QO(w:World):(zeroValue 174).run prog w= .ok (.agg #[.nilIface]) w:=by kernel_rfl
theorem De{C:TC}{H:aB}{n:aC}{N:bM}{d:aI}{s:lQE}{y:Value}{M:List NE}{w:World}{b:aA}{t:Et}(h:kD C H n N d s y M w)(k:b.length<=300)(x:xO s C.ge b=some t):
  Calls prog 204 #[CP C.tb, .string (B b)] w λe l=>∃v,e= .returned (.agg #[v])/\ER H n v t/\w.grownBy l none:=by
 obtain⟨a,O,D⟩:=h.nr.slice;have j:=h.nr.nis;have f:w.cell? ⟨C.tb,4,none⟩=some y:=by have:=h.ms.bk;unfold TB TC.r at this;simp[World.cell?,this]
 have m:w.cell? ⟨C.tb,3,none⟩=some (.map (some C.mb)):=by have:=h.ms.bk;unfold TB TC.r at this;simp[World.cell?,this]
 have Q:=h.nr.few;have S:=h.nr.len;obtain⟨P,F,G⟩:=h.env;rw[D]at f j;unfold xO at x;rcases h.nr.find b with⟨c,g⟩|⟨p,q,c,g,E⟩
 ·rw[g]at x;obtain⟨v,K,o⟩:=G b t x;obtain⟨z,A,_,L⟩:=oE o;refine(QM (u:=v) k (by omega) f m j h.ms.bk.lt (λ_=>⟨⟨z,A,L⟩,λW I=> ?_⟩)).mono ?_
  ·have:=GM.look1 (F.gb (R:=λ_=>False) (Gb.below I _) id) P0 underlying169 (QO W) (P6 k);rw[K]at this;exact this
  ·rintro e l ⟨rfl,i⟩;exact⟨v,by unfold xf;rw[c],o,(Gb.below i _).none⟩
 ·rw[g]at x;have J:q.2=t:=aY x;refine(QM (u:= .nilIface) k (by omega) f m j h.ms.bk.lt (λe=>by rw[c]at e;cases e)).mono ?_;rintro e l ⟨rfl,i⟩;exact⟨p.v,by unfold xf;rw[c],by rw[<-J];exact E,(Gb.below i _).none⟩
section
variable {C:TC} {H H':Nat->Option Obj} {ca ca':List Nat} {σ σ':bM} {d d':Nat->Nat} {nb:List (List UInt8×Et)} {nv:Value} {vs:List NE} {w w':World}
theorem kD.cs(h:kD C H ca σ d nb nv vs w)(c:fY H ca σ' d' w')(g:Gb (dT ca) w w'):kD C H ca σ' d' nb nv vs w':=by
 refine h.step ⟨c, ?_,h.ms.ht,h.ms.hta⟩ (MX.refl _ _ _) (g.mono λk e=>aM e);have e:σ'.rep.length=σ.rep.length:=by rw[<-c.len,<-h.ms.cs.len]
 rw[e];exact h.ms.bk.gb g h.ms.hta
theorem kD.of{o:Option Et}{c:Nat}(h:kD C H ca σ d nb nv vs w)(n:zK H ca o v)(f:CH o σ=some (σ',c)):
  Calls prog 211 #[CP C.tb,v] w λe w'=>∃a,e= .returned (CP a)/\(ca++[a])[c]? =some a/\kD C H (ca++[a]) σ' d nb nv vs w'/\MX H H ca (ca++[a]) w/\Gb C.own w w':=by
 unfold CH at f;split at f
 ·rename_i p;cases f;refine(h.ms.of n (jB p)).mono ?_;rintro e w' ⟨a,rfl,q,l,g⟩
  have x:MX H H ca (ca++[a]) w:=⟨λ_ _ e=>e,λ_ _ e=>aQ e,iN _ _,λb m=>by
   rcases cH.1 m with i|i
   ·exact aQ i
   ·rw[bF.1 i];exact aM l⟩
  have j:Gb (λk=>k=C.tb\/dT ca k) w w':=g.mono λk e=>aQ e;exact⟨a,rfl,by rw[<-h.ms.cs.len];simp,h.step q x j,x,h.gbase j⟩
 ·cases f
end
theorem CQ{C:TC}{H:aB}{ca:aC}{σ σ':bM}{d:aI}{nb:lQE}{nv:Value}{vs:List NE}{w:World}{a b:Nat}(h:kD C H ca σ d nb nv vs w)(j:ca[a]? =some x)(l:ca[b]? =some y)(m:jK a b σ=some (some σ')):
  Calls prog 234 #[CP C.tb,CP x,CP y] w λe w'=>(∃z,e= .returned z)/\(∃d',kD C H ca σ' d' nb nv vs w')/\Gb C.own w w':=by
 have f:=aS (QH j l m h.ms.cs);have Q:=aS h;clear h j l m;unfold CP at*;go_enter func234,ntmps234;go_wp2_with fail;refine f.mono ?_;rintro e n ⟨c,rfl,o,i⟩;have g:=aS (aL (show∃d',kD C H ca σ' d' nb nv vs n from⟨o,Q.cs i c⟩) (show Gb C.own w n from c.mono λk e=>Q.clo k e));clear c i f;go_wp2
 go_end0
 exact⟨⟨_,rfl⟩,g.1,g.2⟩
theorem ES:(prog.info? 403).map (λi=>(i.zero,i.size,i.bytes))=some (some (.agg #[.string (B []), .nilIface]),2,32):=by kernel_rfl
theorem Df:∀(vs:List NE) (u:Value),u∈gP vs->u.oneCell'=true
 |[],u,h=>by cases h
 |p::l,u,h=>by
  simp only[gP,bH]at h;rcases h with rfl|rfl|h
  ·rfl
  ·rfl
  ·exact Df l u h
theorem IU:∀(vs:List NE) (n:Nat),gP (vs.take n)=(gP vs).take (n*2)
 |[],n=>by simp[gP]
 |p::l,0=>rfl
 |p::l,n+1=>by rw[yZ,gP,IU l n,gP,show(n+1)*2=n*2+1+1 by omega,yZ,yZ]
section
variable {C:TC} {H H':Nat->Option Obj} {ca ca':List Nat} {σ σ':bM} {d d':Nat->Nat} {nb:List (List UInt8×Et)} {nv:Value} {vs:List NE} {w w':World}
theorem TB.put4{e:Nat}{x:Value}(h:TB w e n (C.r nv)):TB (w.setCell ⟨e,4,none⟩ x) e n (C.r x):=by unfold TB TC.r at h⊢;simp[World.setCell,dN,h]
theorem TB.c4{e:Nat}(h:TB w e n (C.r nv)):w.cell? ⟨e,4,none⟩=some nv/\w.frozen? ⟨e,4,none⟩=false:=by unfold TB TC.r at h;simp[World.cell?,World.frozen?,h]
theorem kD.names{nb':lQE}{nv':Value}{vs':List NE}{R:Nat->Prop}{c:World}(h:kD C H ca σ d nb nv vs w)(g:Gb R w c)(hR:∀k,R k->nv.ownBlock=some k)(own:c.ownsRow C.base 403 2 nv' vs'.length (gP vs'))(E:vs'.length=nb'.length)(D:∀(i:Nat) (p:NE) q,vs'[i]? =some p->nb'[i]? =some q->p.1=q.1/\ER H ca p.v q.2)
  (l:∀k,nv'.ownBlock=some k->nv.ownBlock=some k\/w.heap.size<=k) (u:nb'.length<=1000):
  kD C H ca σ d nb' nv' vs' (c.setCell ⟨C.tb,4,none⟩ nv')/\Gb C.own w (c.setCell ⟨C.tb,4,none⟩ nv'):=by
 have j:∀k,R k->H k=none/\k∉ca/\k≠C.tb:=λk x=>h.nr.off k (hR k x);have t:fY H ca σ d c:=h.ms.cs.gb g (λa z e=>(j a e).2.1 z) (λk o e x=>by rw[(j k x).1]at e;cases e);have s:TB c C.tb σ.rep.length (C.r nv):=h.ms.bk.gb g (λe=>(j _ e).2.2 rfl);have m:Gb (λk=>k=C.tb) c (c.setCell ⟨C.tb,4,none⟩ nv'):=(Gb.refl (λk=>k=C.tb) c).set (b:=C.tb) (aQ rfl) 4 nv'
 have n:∀k,nv'.ownBlock=some k->H k=none/\k∉ca/\k≠C.tb:=λk x=>by
  rcases l k x with e|e
  ·exact h.nr.off k e
  ·exact⟨h.ms.cs.fz.none e,λA=>by have:=dT.lt h.ms.cs A;omega,λF=>by have:=h.ms.bk.lt;omega⟩
 have f:Gb C.own w (c.setCell ⟨C.tb,4,none⟩ nv'):=(g.mono (λk x=>⟨(h.nr.own.lt k (hR k x)).1,h.nko k (hR k x)⟩)).tr (m.mono λk e=>by rw[e];exact h.tlo);refine⟨⟨⟨nI t h.ms.hta h.ms.ht 4 nv',s.put4,h.ms.ht,h.ms.hta⟩,⟨E,iX own m (λk x=>(n k x).2.2),D,n,u⟩, ?_,h.mlo,h.tlo,h.clo,λk x=>aZ (h.kp k x) f.size,λk x=> ?_⟩,f⟩
 ·exact h.env.step (MX.refl _ _ _) f (λe=>by have:=h.mlo;have:=e.1;omega)
 ·rcases l k x with e|e
  ·exact h.nko k e
  ·intro y;have:=h.kp k y;omega
end
section
variable {C:TC} {H H':Nat->Option Obj} {ca ca':List Nat} {σ σ':bM} {d d':Nat->Nat} {nb:List (List UInt8×Et)} {nv:Value} {vs:List NE} {w w':World}
theorem QP{h e p:Nat}(a:ca[h]? =some x)(b:ca[e]? =some y)(c:H p=some (.cells #[CI x,CI y] 293 (0,0))):zK H ca (some ⟨dO,[],0,[cT h,cT e]⟩) (.iface 291 (.pointer (some ⟨p,0,none⟩))):=
 aM ⟨_,rfl,(show dO≠[] by decide),(show dO≠cM by decide),(λk w=>by simp at w;rcases w with rfl|rfl<;>rfl),⟨p,aM (aM (aM (aM (aM ⟨rfl,dG _,cT h,cT e,_,_,rfl,rfl,c,oX a,oX b⟩))))⟩⟩
theorem Kr{h e p:Nat}(a:ca[h]? =some x)(b:ca[e]? =some y)(c:H p=some (.cells #[CI x,CI y] 384 (0,0))):zK H ca (some ⟨eS,[],0,[cT h,cT e]⟩) (.iface 361 (.pointer (some ⟨p,0,none⟩))):=
 aM ⟨_,rfl,(show eS≠[] by decide),(show eS≠cM by decide),(λk w=>by simp at w;rcases w with rfl|rfl<;>rfl),⟨p,aM (aM (aM (aM (aQ ⟨rfl,dG _,cT h,cT e,_,_,rfl,rfl,c,oX a,oX b⟩))))⟩⟩
theorem Qv{p:Nat}(e:H p=some (.cells #[.string (B nD)] 348 (0,0))):zK H ca (some ⟨nD,[],0,[]⟩) (.iface 346 (.pointer (some ⟨p,0,none⟩))):=
 aM ⟨_,rfl,by decide,by decide,(λk h=>by cases h),⟨p,aM (aM (aQ ⟨aQ rfl,rfl,rfl,e⟩))⟩⟩
theorem kD.box(h:kD C H ca σ d nb nv vs w)(a:Array Value)(T:TypeId):kD C (kJ H w.heap.size (.cells a T (0,0))) ca σ d nb nv vs (w.alloc (.cells a T))/\MX H (kJ H w.heap.size (.cells a T (0,0))) ca ca w:=by have b:H w.heap.size=none:=h.ms.cs.fz.none (aV _);have x:MX H (kJ H w.heap.size (.cells a T (0,0))) ca ca w:=⟨jS b,onto1_new (λk o e=>aQ e) (aV _),dD _,λ_ h=>aQ h⟩;have g:w.grownBy (w.alloc (.cells a T)) none:=aO _ _ _;exact⟨h.step ((h.ms.grown g).more (bY _ _) b (λc=>by have:=dT.lt h.ms.cs c;omega) (by have:=h.ms.bk.lt;omega)) x (Gb.new g),x⟩
theorem kD.made{x:Et}{c:Nat}{cs:Array Value}{T:TypeId}(h:kD C H ca σ d nb nv vs w)(i:zK (kJ H w.heap.size (.cells cs T (0,0))) ca (some x) v)(j:CH (some x) σ=some (σ',c)):
  Calls prog 211 #[CP C.tb,v] (w.alloc (.cells cs T)) (js C H ca σ' c nb w):=by
 have g:w.grownBy (w.alloc (.cells cs T)) none:=aO _ _ _;obtain⟨k,m⟩:=h.box cs T;refine(k.of i j).mono ?_;rintro e w' ⟨a,rfl,b,l,n,f⟩;exact⟨_,_,d,a,nv,vs,rfl,b,l,m.trans n g.size,(Gb.new g).tr f⟩
end
theorem xh{C:TC}{q:aA}{K L:Value}{b:Nat}{r:bM}{f:lQE}{s:bM}{c:Nat}{H:aB}{k:aC}{d:aI}{A:Value}{D:List NE}{w:World}
  (v:H b=some (.cells #[K, .string (B q),L] 190 (0,0))) (a:IQ C.ge q f r=some (s,c)) (h:kD C H k r d f A D w):
  Calls prog 171 #[CP C.tb, .iface 186 (.pointer (some ⟨b,0,none⟩))] w (js C H k s c f w):=by
 unfold IQ at a;split at a
 case isFalse=>cases a
 rename_i y
 cases i:xO f C.ge q with
 |none=>rw[i]at a;cases a
 |some t=>
 rw[i]at a;simp only[]at a
 cases j:k7 400 t r []with
 |none=>rw[j]at a;cases a
 |some r2=>
 obtain⟨X,S,R⟩:=r2;rw[j]at a;cases a;have E:=aS (De h.drew y i);have o:=h.ms.cs.fz _ _ v;have U:=cU o 1 rfl;have T:=aT o;have Q:=aS (aL h j);have O:=t7 b;clear v i j h o y;unfold CP at*;go_enter func171,ntmps171;go_wp2_with fail
 go_region_with (first
  |(go_at_call 204;refine E.mono ?_;rintro e W ⟨V,rfl,l,n⟩;have CI:=aS (WH l Q.2 (Q.1.drew.grown n).ms);have g:=aS n;obtain⟨N,P,_,rfl⟩:=oE l;clear n l;unfold CP at CI)
  |(go_at_call 203;refine CI.mono ?_;rintro e M ⟨F,I,J,x,rfl,u,z,p,m⟩;have G:=aS (show js C H k s c f w (.returned (CP x)) M from⟨F,I,J,x,A,D,rfl,u,(Q.1.drew.grown g.out).step z p m,p.low g.size,(Gb.new g.out).drewL.tr ((Q.1.drew.grown g.out).gbase m)⟩);clear u z p m;unfold CP at*))
 all_goals go_wp2
 all_goals go_ret
 all_goals exact G.out
theorem Dg{C:TC}{b:Nat}{j:bM}{i:lQE}{k:bM}{c:Nat}{H:aB}{a:aC}{d:aI}{m:Value}{n:List NE}{w:World}
  (g:CH (some ⟨nD,[],0,[]⟩) j=some (k,c)) (h:kD C H a j d i m n w):
  Calls prog 171 #[CP C.tb, .iface 191 (.pointer (some ⟨b,0,none⟩))] w (js C H a k c i w):=by
 have o:=N4 b;have p:=fd b;have q:=zx b;have r:=fe b;have s:=JG b;have t:=XQ b;have u:=VA b;have x:=aS (h.made (cs:= #[.string (B nD)]) (T:=348) (Qv iR) g);clear g h;unfold CP nD at*;go_enter func171,ntmps171;go_wp2_with fail;refine x.mono ?_;rintro e v f;have l:=aS f;obtain⟨_,_,_,y,_,_,rfl,_⟩:=f;clear x;unfold CP at*;go_wp2;go_ret;exact l.out
theorem Ol{m:Nat}{H:aB}{e:Ex}{u:Value}(x:e.kids.length=1)(w:∀(i:Nat) (y:Ex) (v:Value),[u][i]? =some v->e.kids[i]? =some y->dI m H v y):∃y,e.kids=[y]/\dI m H u y:=by
 match h:e.kids,x with
 |[y],_=>exact⟨y,rfl,w 0 y u rfl (by rw[h];rfl)⟩
theorem KD{m:Nat}{H:aB}{e:Ex}{u v:Value}(a:e.kids.length=2)(w:∀(i:Nat) (y:Ex) (x:Value),[u,v][i]? =some x->e.kids[i]? =some y->dI m H x y):∃y z,e.kids=[y,z]/\dI m H u y/\dI m H v z:=by
 match h:e.kids,a with
 |[y,z],_=>exact⟨y,z,rfl,w 0 y u rfl (by rw[h];rfl),w 1 z v rfl (by rw[h];rfl)⟩
def Om:Nat->Et->Bool
 |0,_=>false
 |f+1,t=>decide (t.kind≠cM)&&t.kids.all (Om f)
theorem UB{H:aB}{n:aC}:∀(f m:Nat) (v:Value) (t:Et),Om f t=true->fP 0 H n m v t->fP 0 H [] m v t
 |0,_,_,_,h,_=>by cases h
 |f+1,0,_,_,_,h=>absurd h id
 |f+1,m+1,v,t,l,h=>by
  simp only[Om,cY,cX,lS]at l;obtain⟨o,i⟩:=l;obtain⟨b,h⟩:=h;refine⟨b, ?_⟩;rcases h with⟨x,_⟩|h|h|⟨x,j,a,u,e,c,d,g⟩|⟨x,j,a,w,u,z,e,c,d,g,k⟩|⟨x,j,a,w,u,z,e,c,d,g,k⟩
  ·exact absurd x o
  ·exact aM (aQ h)
  ·exact aM (aM (aQ h))
  ·exact aM (aM (aM (aQ ⟨x,j,a,u,e,c,d,UB f m u a (i a (by rw[e];simp)) g⟩)))
  ·exact aM (aM (aM (aM (aQ ⟨x,j,a,w,u,z,e,c,d,UB f m u a (i a (by rw[e];simp)) g,UB f m z w (i w (by rw[e];simp)) k⟩))))
  ·exact aM (aM (aM (aM (aM ⟨x,j,a,w,u,z,e,c,d,UB f m u a (i a (by rw[e];simp)) g,UB f m z w (i w (by rw[e];simp)) k⟩))))
theorem kD.start{H:aB}{w:World}{fuel:Int}{each:Value}{h:Nat}{b:lQE}(d:Fz H w)(c:GE H [] w h b):
  kD ⟨w.heap.size, .int .i64 fuel,each,h,w.heap.size,b,[]⟩ H [] ⟨[],[]⟩ (λ_=>0) [] (.slice none 0 0) [] (w.alloc (.cells #[.int .i64 0, .int .i64 fuel,each, .map (some h), .slice none 0 0] 263)):=by
 have g:w.grownBy (w.alloc (.cells #[.int .i64 0, .int .i64 fuel,each, .map (some h), .slice none 0 0] 263)) none:=aO _ _ _
 have m:h<w.heap.size:=by obtain⟨n,f,_⟩:=c;exact f.lt
 refine⟨⟨fY.nil (d.alloc _), ?_,d.none (aV _),by simp⟩,⟨rfl,lE _ _ _ _,(λi p q e _=>by cases e),(λk l=>by cases l),dG _⟩,c.step (R:=λ_=>False) (MX.refl _ _ w) (Gb.new g) id,m,⟨aV _,by simp⟩,(λa j=>by cases j),(λg x=>by cases x),λg x=>by cases x⟩;unfold TB TC.r;exact bY _ _
end Go.Proofs.YtcdijppegfcoaaaGreatDoor
