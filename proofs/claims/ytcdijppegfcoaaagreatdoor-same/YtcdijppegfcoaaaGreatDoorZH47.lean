import Derived.Test.YtcdijppegfcoaaaGreatDoorZH38
import Derived.Test.YtcdijppegfcoaaaGreatDoorZH39
import Derived.Test.YtcdijppegfcoaaaGreatDoorZH42
import Derived.Test.YtcdijppegfcoaaaGreatDoorZH37
set_option maxRecDepth 100000
set_option maxHeartbeats 8000000
set_option linter.unusedSimpArgs false
namespace Go.Proofs.YtcdijppegfcoaaaGreatDoor
open Go.RowKit Tryz
variable{ca:List Nat}{nv dep:Value}{vs:List NE}{P:Ex->List (aA×Et)->bM->Option (Sum Nat (bM×Nat))}{capB m2 most:Nat}{grp ge:List (aA×Et)}{na:List aA}
def Vc(C:TC)(H1:aB)(ca1:aC)(σ1:bM)(nb:lQE)(nv1:Value)(vs1:List NE)(wS:World)(mb:Nat)(L:aC)(fv:Value)(xs:aC)(next:lQE)(k:Nat)(nx:Value)(w:World):Prop:=
 ∃(h:aB) (x:aI) (e:List NE),kD C h ca1 σ1 x nb nv1 vs1 w/\MX H1 h ca1 ca1 wS/\Gb C.own wS w/\pk w mb L/\w.ownsRow C.base 265 1 fv xs.length (xs.map CP)/\e.length=k/\w.ownsRow C.base 403 2 nx e.length (gP e)/\(∀q,nx.ownBlock=some q->wS.heap.size<=q/\h q=none)/\∀(i:Nat) (p:NE) q,e[i]? =some p->next[i]? =some q->p.1=q.1/\EL wS.heap.size h ca1 p.v q.2
def Zk(C:TC)(H1:aB)(ca1:aC)(σ1:bM)(nb:lQE)(nv1:Value)(vs1:List NE)(wS:World)(mb:Nat)(L:aC)(fv:Value)(xs:aC)(next:lQE)(k:Nat)(nx:Value)(v:Value)(t:Et)(w:World):Prop:=
 ∃(h:aB) (x:aI) (e:List NE),kD C h ca1 σ1 x nb nv1 vs1 w/\MX H1 h ca1 ca1 wS/\Gb C.own wS w/\pk w mb L/\w.ownsRow C.base 265 1 fv xs.length (xs.map CP)/\e.length=k/\w.ownsRow C.base 403 2 nx e.length (gP e)/\(∀q,nx.ownBlock=some q->wS.heap.size<=q/\h q=none)/\(∀(i:Nat) (p:NE) q,e[i]? =some p->next[i]? =some q->p.1=q.1/\EL wS.heap.size h ca1 p.v q.2)/\EL wS.heap.size h ca1 v t
structure Xb(C:TC)(ad:aF)(H1:aB)(ca1:aC)(σ1:bM)(nb:lQE)(nv1:Value)(vs1:List NE)(wS:World)(mb:Nat)(fv:Value)(d1:aI):Prop where
 t:kD C H1 ca1 σ1 d1 nb nv1 vs1 wS
 hm:mb∉ca1
 ml:mb<wS.heap.size
 fo:∀q,fv.ownBlock=some q->q∉ca1/\q<wS.heap.size
 gl:rP C.base ad wS
section
variable {C:TC} {ad:Nat->Addr} {H1:Nat->Option Obj} {ca1:List Nat} {σ1:bM} {nb:List (List UInt8×Et)} {nv1:Value} {vs1:List NE} {wS:World} {mb:Nat} {L:List Nat} {fv:Value} {xs:List Nat} {next:List (List UInt8×Et)} {k:Nat} {nx:Value} {d1:Nat->Nat} {w w1:World}
theorem Ep(S:Xb C ad H1 ca1 σ1 nb nv1 vs1 wS mb fv d1)(h:Vc C H1 ca1 σ1 nb nv1 vs1 wS mb L fv xs next k nx w)(g:w.grownBy w1 none){c x:Nat}{t:Et}(H:ca1[c]? =some x)(K:cI σ1 L 130 c=some t):
  Calls prog 127 #[CP x, .map (some mb)] w1 λe n=>∃T b,e= .returned (.agg #[.iface T (.pointer (some ⟨b,0,none⟩))])/\Gb (dT ca1) w1 n/\Zk C H1 ca1 σ1 nb nv1 vs1 wS mb L fv xs next k nx (.iface T (.pointer (some ⟨b,0,none⟩))) t n:=by
 obtain⟨W,G,P,tk,N,I,A,Q,M,rn,m,z⟩:=h;have l:=tk.grown g;have j:Gb C.own wS w1:=I.tr (Gb.new g);have U:=(S.gl.gb j).tabW l.clo;have f:Gb (λ_=>False) w w1:=Gb.new g;refine(CX (lo:=wS.heap.size) H K l.ms.cs ⟨aM ⟨mb,rfl,S.hm,GM.gb A f id⟩,U,j.size⟩).mono ?_;rintro e n ⟨d,F,v,r,rfl,V,D,E,y⟩;obtain⟨T,b,_,rfl⟩:=oE y.er;obtain⟨R,O⟩:=l.more d F V D E;refine⟨T,b,rfl,d,r,G,P,R,N.trans (O.low j.size) (aV _),j.tr (d.mono λk e=>l.clo k e),GM.gb (GM.gb A f id) d S.hm,iX (iX Q f (λ_ _=>id)) d (λq a=>(S.fo q a).1),M,iX (iX rn f (λ_ _=>id)) d (λq a e=> ?_),λq a=>⟨(m q a).1, ?_⟩,λi p q s u=>⟨(z i p q s u).1,(z i p q s u).2.onto D⟩,y⟩
 ·have X:=dT.lt S.t.ms.cs e;have Y:=(m q a).1;omega
 ·cases J:r q with
  |none=>rfl
  |some o=>
   rcases E q o J with h|h
   ·rw[(m q a).2]at h;cases h
   ·have:=(rn.lt q a).2;have:=g.size;omega
theorem Er(S:Xb C ad H1 ca1 σ1 nb nv1 vs1 wS mb fv d1){T b:Nat}{v:aA}{t:Et}{d:World}(h:Zk C H1 ca1 σ1 nb nv1 vs1 wS mb L fv xs next k nx (.iface T (.pointer (some ⟨b,0,none⟩))) t w)(s:next[k]? =some (v,t))(l:w.grownBy d none):
  ∃a:List NE,a.length=k/\d.ownsRow C.base 403 2 nx a.length (gP a)/\C.base<=d.heap.size/\∀g n m,m.ownsRow C.base 403 2 (.slice (some ⟨g,0,none⟩) (a.length+1) n) (a.length+1) (gP a++[.string (B v), .iface T (.pointer (some ⟨b,0,none⟩))])->d.grownBy m nx.ownBlock->(nx.ownBlock=some g\/g=d.heap.size)->Vc C H1 ca1 σ1 nb nv1 vs1 wS mb L fv xs next (k+1) (.slice (some ⟨g,0,none⟩) (a.length+1) n) m:=by
 obtain⟨A,H,a,tk,U,D,V,W,F,rn,y,P,J⟩:=h;have r:Gb (λ_=>False) w d:=Gb.new l;have X:=iX rn r (λ_ _=>id);have G:=tk.grown l;refine⟨a,F,X,G.bs,λg n m R O N=> ?_⟩;have gR:Gb (λq=>nx.ownBlock=some q) d m:=Gb.of O (λb e=>aQ e);have f:∀q,nx.ownBlock=some q->∀z,z<wS.heap.size->z≠q:=λq x z Z e=>by have:=(y q x).1;omega
 have hR:∀q,nx.ownBlock=some q->A q=none/\q∉ca1/\q≠C.tb/\nv1.ownBlock≠some q/\C.base<=q:=λq x=>⟨(y q x).2,λQ=>f q x q (dT.lt S.t.ms.cs Q) rfl,λe=>f q x _ S.t.ms.bk.lt e.symm,λe=>f q x q (S.t.nr.own.lt q e).2 rfl,(rn.lt q x).1⟩;have Y:=G.side gR hR;refine⟨A,H,a++([((v,T,b):aA×TypeId×Nat)]:List NE),Y,U,(D.tr (Gb.new l)).tr (gR.mono λq x=>⟨(hR q x).2.2.2.2,λs=>f q x q (S.t.kp q s) rfl⟩), ?_,iX (iX W r (λ_ _=>id)) gR (λq x e=>f q e q (S.fo q x).2 rfl),(by rw[bD,F];rfl), ?_,λq x=> ?_,λi p q c o=> ?_⟩
 ·exact GM.gb (GM.gb V r id) gR (λe=>f mb e mb S.ml rfl)
 ·rw[bD,vO];exact R
 ·have K:g=q:=by simpa[Value.ownBlock]using x
  subst K;rcases N with e|e
  ·exact y g e
  ·refine⟨by rw[e];exact bV D.size l.size,tk.ms.cs.fz.none (by rw[e];exact l.size)⟩
 ·rcases bZ i a.length with u|u
  ·rw[bJ u]at c;exact P i p q c o
  ·rw[cD u]at c
   match E:i-a.length with
   |0=>
    rw[E]at c;cases c;have I:i=k:=by omega
    rw[I,s]at o;cases o;exact⟨rfl,J⟩
   |j+1=>rw[E]at c;have M:(none:Option NE)=some p:=c;cases M
end
theorem R6{d:bM}{L:aC}:∀{w:aD} {x:aC} {b:lQE},nZ d L w x=some b->b.length=w.length/\x.length=w.length/\∀(k:Nat) (a:aA) (c:Nat),w[k]? =some a->x[k]? =some c->∃t,b[k]? =some (a,t)/\cI d L 130 c=some t
 |[],[],_,h=>by cases h;exact⟨rfl,rfl,λk a c e=>by simp at e⟩
 |[],_::_,_,h=>by cases h
 |_::_,[],_,h=>by cases h
 |n::w,c::x,b,h=>by
  rw[nZ]at h
  cases f:cI d L 130 c with
  |none=>rw[f]at h;cases h
  |some t=>
   rw[f]at h;simp only at h
   cases g:nZ d L w x with
   |none=>rw[g]at h;cases h
   |some l=>
    rw[g]at h;cases h;have i:=R6 g;refine⟨by simp[i.1],by simp[i.2.1],λk a o j m=> ?_⟩
    cases k with
    |zero=>cases j;cases m;exact⟨t,rfl,f⟩
    |succ k=>obtain⟨r,p,q⟩:=i.2.2 k a o (by simpa using j) (by simpa using m);exact⟨r,by simpa using p,q⟩
theorem KH{w:World}{base b n:Nat}{e:TypeId}{v:Value}{c:aH}(h:w.ownsRow base e b v n c)(j:0<n):∃g x,v= .slice (some ⟨g,0,none⟩) n x:=by
 obtain⟨f,a⟩:=h;rcases a with⟨_,i⟩|⟨g,x,d,rfl,_⟩
 ·omega
 ·exact⟨g,x,rfl⟩
theorem Es{w:World}{base g n c:Nat}{e:TypeId}{b:aH}(h:w.ownsRow base e 1 (.slice (some ⟨g,0,none⟩) n c) n b){k:Nat}{u:Value}(x:b[k]? =some u):w.cell? ⟨g,k,none⟩=some u/\g<w.heap.size:=by
 have r:=h.lt g rfl;obtain⟨t,a⟩:=h;rcases a with⟨a,_⟩|⟨l,s,d,f,v,m,y,z,A,o⟩
 ·cases a
 ·have j:g=l:=by injection f with q;injection q with q;injection q
  subst j;rw[<-o]at x
  have p:k<n*1:=by have:=(aU.1 x).1;rw[gK]at this;omega
  rw[iC p]at x;have i:d[k]? =some u:=by simpa using x
  exact⟨by simp[World.cell?,m,i],r.2⟩
theorem kD.freeze{C:TC}{H:aB}{m:bM}{d:aI}{l:lQE}{w:World}{g:Nat}{o:Obj}(h:kD C H ca m d l nv vs w)(z:w.heap[g]? =some o)(A:H g=none)(y:g∉ca)(D:g≠C.tb)(E:nv.ownBlock≠some g):kD C (kJ H g o) ca m d l nv vs w:=by
 have ext:=jS (o:=o) A;have f:∀k,k≠g->H k=none->kJ H g o k=none:=λk x u=>by unfold kJ;rw[aN x];exact u
 obtain⟨s,n,r⟩:=h.env;exact⟨⟨h.ms.cs.more ext (QD h.ms.cs.fz z) (λa j=>f a (λe=>y (e▸j)) (h.ms.cs.off a j)),h.ms.bk,f _ (kU D) h.ms.ht,h.ms.hta⟩,⟨h.nr.len,h.nr.own,λi p q b c=>⟨(h.nr.is i p q b c).1,fP.onto (h.nr.is i p q b c).2 ext⟩,λk x=>⟨f k (λe=>E (e▸x)) (h.nr.off k x).1,(h.nr.off k x).2⟩,h.nr.few⟩,⟨s,n,λF t e=>by obtain⟨v,b,c⟩:=r F t e;exact⟨v,b,fP.onto c ext⟩⟩,h.mlo,h.tlo,h.clo,h.kp,h.nko⟩
def Zl(C:TC)(H:aB)(j:aC)(y:bM)(s:lQE)(n:Nat)(d:lQE)(w:World)(e:Ending)(f:World):Prop:=
 ∃(a h:aB) (x:aC) (r:aI) (t:Value) (u b:List NE) (g l c:Nat),e= .returned (.slice (some ⟨g,0,none⟩) n l)/\kD C h x y r s t u f/\MX H h j x w/\Gb C.own w f/\ke h x g b d/\b.length=n/\(∀k o,H k=some o->a k=some o)/\(∀k o,a k=some o->h k=some o)/\(∀k o,a k=some o->k<c)/\∀(i:Nat) (p:NE) q,b[i]? =some p->d[i]? =some q->∃m,fP c h x m p.v q.2
theorem yc{C:TC}{ad:Nat->Addr}{H H1:Nat->Option Obj}{ca ca1:List Nat}{σ1:bM}{nb:List (List UInt8×Et)}{nv1:Value}{vs1:List NE}{wS:World}{mb:Nat}{L:List Nat}{fv:Value}{xs:List Nat}{next:List (List UInt8×Et)}{n:Nat}{nx:Value}{d1:Nat->Nat}{w w':World}(S:Xb C ad H1 ca1 σ1 nb nv1 vs1 wS mb fv d1)(h:Vc C H1 ca1 σ1 nb nv1 vs1 wS mb L fv xs next n nx w')(hn:0<n)(hl:next.length=n)(mx:MX H H1 ca ca1 w)(gb:Gb C.own w wS):∃g cap,nx= .slice (some ⟨g,0,none⟩) n cap/\Zl C H ca σ1 nb n next w (.returned nx) w':=by
 obtain⟨Hk,dk,nk,tk,mxk,gbk,ra,rf,ln,rn,ro,hi⟩:=h;obtain⟨g,cap,rfl⟩:=KH rn (by omega);have hro:=ro g rfl;have hlt:=rn.lt g rfl;obtain⟨r1,r2⟩:=rn;rcases r2 with⟨r2,_⟩|⟨g',cap',cur,e1,h3,h4,h5,h6,h7,h8⟩
 ·cases r2
 have eg:g=g':=by injection e1 with q;injection q with q;injection q
 subst eg;have big:∀z,z<wS.heap.size->z≠g:=λz hz e=>by have:=hro.1;omega
 have tf:=tk.freeze h4 hro.2 (λhm=>big g (dT.lt S.t.ms.cs hm) rfl) (λe=>big _ S.t.ms.bk.lt e.symm) (λe=>big g (S.t.nr.own.lt g e).2 rfl);have ext:=jS (o:= .cells cur 403 (0,0)) hro.2;have mf:MX H1 (kJ Hk g (.cells cur 403 (0,0))) ca1 ca1 wS:=⟨λk o e=>ext k o (mxk.ext k o e),onto1_new mxk.new hro.1,List.prefix_refl _,λ_ h=>Or.inl h⟩;refine⟨g,cap,by rw[ln],H1,_,ca1,dk,nv1,vs1,nk,g,cap,wS.heap.size,by rw[ln],tf,mx.trans mf gb.size,gb.tr gbk,⟨⟨cur,iR,h8⟩,by rw[ln,hl],λi p q q1 q2=>⟨(hi i p q q1 q2).1,((hi i p q q1 q2).2.onto ext).er⟩⟩,ln,mx.ext,λk o e=>ext k o (mxk.ext k o e),λk o e=>lt_of_block (S.t.ms.cs.fz k o e),λi p q q1 q2=>(hi i p q q1 q2).2.onto ext⟩
theorem R8:(prog.info? 265).map (λi=>(i.zero,i.size,i.bytes))=some (some (.pointer none),1,8):=by kernel_rfl
structure Iv(H:aB)(gB:Nat)(ns:aD)(us:aH)(es:List Ex)(m:Nat):Prop where
 row:∃cur,H gB=some (.cells cur 203 (0,0))/\cur.toList.take (ns.length*2)=iE ns us
 lu:us.length=ns.length
 le:es.length=ns.length
 is:∀(i:Nat) (u:Value) (e:Ex),us[i]? =some u->es[i]? =some e->dI m H u e
theorem ak(h:World)(x:aA)(e w:Nat):∀i v,[Value.string (B x), .iface e (.pointer (some ⟨w,0,none⟩))][i]? =some v->(h.alloc (.cells #[.string (B x), .iface e (.pointer (some ⟨w,0,none⟩))] 403)).cell? ((⟨h.heap.size,0,none⟩:Addr).add i)=some v:=lN (bY h _)
theorem qh(x:aA)(e w:Nat):∀v,v∈[Value.string (B x), .iface e (.pointer (some ⟨w,0,none⟩))]->v.oneCell'=true:=λv h=>by
 rcases bH.1 h with rfl|h
 ·rfl
 ·rw[bF.1 h];rfl
theorem Eu{C:TC}{ad:Nat->Addr}{P:Ex->List (List UInt8×Et)->bM->Option (Sum Nat (bM×Nat))}(hP:∀K,ET {C with keep:=K} ad P){H:Nat->Option Obj}{ca:List Nat}{σ:bM}{d:Nat->Nat}{nb ahead:List (List UInt8×Et)}{nv:Value}{vs nws:List NE}{w:World}{ns:List (List UInt8)}{us:List Value}{es:List Ex}{m gB capB gA capA:Nat}{σ1:bM}{cs L:List Nat}{next:List (List UInt8×Et)}
  (hB:Iv H gB ns us es m) (hA:ke H ca gA nws ahead) (la:nws.length=ns.length) (h0:0<ns.length) (hn:ns.length<=1000) (i1:iY P nb ahead es σ=some (.inr (σ1,cs))) (i2:mV σ1 nb=some L) (i3:nZ σ1 L ns cs=some next) (h:kD C H ca σ d nb nv vs w) (hgl:rP C.base ad w):
  Calls prog 237 #[CP C.tb, .slice (some ⟨gB,0,none⟩) ns.length capB, .slice (some ⟨gA,0,none⟩) ns.length capA] w (Zl C H ca σ1 nb ns.length next w):=by
 have Q:=aS (And.intro hB (And.intro hA (And.intro la (And.intro hgl (And.intro hP h)))));have I1:=aS (show iY P nb ahead (es.drop 0) σ=some (.inr (σ1,cs.drop 0))from i1);have I2:=aS i2;have I3:=aS i3;obtain⟨i0,hi0,hz0,hz1,hz2⟩:=info_parts R8;obtain⟨nn,hnn⟩:∃nn,nn=ns.length:=⟨_,rfl⟩;have NN:=aS hnn;rw[<-hnn]at h0 hn⊢;obtain⟨h0,hn⟩:=And.intro h0 hn;clear hB hA la i1 i2 i3 h hgl hP hnn;unfold CP;go_enter func237,ntmps237;go_wp2_with fail
 go_loopg [7,16] (nn+1) (λgh x i wi=>∃(j:Nat) (σj:bM) (csj:List Nat),j<=nn/\i= .int .i64 j/\gh=nn-j+1/\Hid (csj=cs.take j/\csj.length=j)/\Hid (iY P nb ahead (es.drop j) σj=some (.inr (σ1,cs.drop j)))/\Hid (Ou C H ca nb w σj csj x wi))
 case atStart=>exact⟨0,σ,[],by omega,rfl,by omega,aS ⟨rfl,rfl⟩,I1,aS (Ou.start Q.out.2.2.2.2.2)⟩
 case round=>
  obtain⟨j,σj,csj,hj,rfl,hgj,HL,HJ,HF⟩:=hrel;by_cases hjl:j<nn
  ·have hjn:j<ns.length:=by rw[<-NN.out];exact hjl
   obtain⟨nm,hnm⟩:∃x,ns[j]? =some x:=⟨_,List.getElem?_eq_getElem hjn⟩;obtain⟨u,hu⟩:∃x,us[j]? =some x:=⟨_,List.getElem?_eq_getElem (by rw[Q.out.1.lu];exact hjn)⟩;have hje:j<es.length:=by rw[Q.out.1.le];exact hjn
   obtain⟨e,he⟩:∃x,es[j]? =some x:=⟨_,List.getElem?_eq_getElem hje⟩;have hpe:=Q.out.1.is j u e hu he
   have hd:es.drop j=e::es.drop (j+1):=by rw[List.drop_eq_getElem_cons hje];rw[List.getElem?_eq_getElem hje]at he;rw[Option.some.inj he]
   have hjj:=HJ.out;rw[hd,iY]at hjj
   cases ew:qK P e nb ahead σj with
   |none=>rw[ew]at hjj;cases hjj
   |some rw1=>
   rw[ew]at hjj
   cases rw1 with
   |inl q=>cases hjj
   |inr y=>
   simp only at hjj
   cases ef:iY P nb ahead (es.drop (j+1)) y.1 with
   |none=>rw[ef]at hjj;cases hjj
   |some rf=>
   rw[ef]at hjj
   cases rf with
   |inl q=>cases hjj
   |inr z=>
   have hz9:z.1=σ1/\cs.drop j=y.2::z.2:=by have:=Option.some.inj hjj;injection this with this;exact⟨congrArg Prod.fst this,(congrArg Prod.snd this).symm⟩
   have hjc:j<cs.length:=by
    rcases Nat.lt_or_ge j cs.length with hl|hl
    ·exact hl
    ·rw[List.drop_eq_nil_of_le hl]at hz9;cases hz9.2
   have hz8:=List.drop_eq_getElem_cons hjc
   have J2:=aS (show iY P nb ahead (es.drop (j+1)) y.1=some (.inr (σ1,cs.drop (j+1))) by
    rw[ef];have e1:=hz9.2.symm.trans hz8;injection e1 with e1 e2
    rw[<-e2,<-hz9.1])
   have L2:=aS (show csj++[y.2]=cs.take (j+1)/\(csj++[y.2]).length=j+1 by
    have e1:=hz9.2.symm.trans hz8;injection e1 with e1 e2;refine⟨?_,by rw[List.length_append,HL.out.2];rfl⟩
    rw[HL.out.1,e1,List.take_succ_eq_append_getElem hjc])
   obtain⟨cur,hb1,hb2⟩:=Q.out.1.row
   have hz:Fz H wr:=by obtain⟨H',ca',d',nv',vs',xs,t,mx,_⟩:=HF.out;exactλk o e=>t.ms.cs.fz k o (mx.ext k o e)
   obtain⟨k1,k2⟩:=IX hz hb1 hb2 hnm hu;have lB:=lt_of_block (hz _ _ hb1);obtain⟨Tu,bu,rfl⟩:=hpe.val;have gn:wr.grownBy (wr.alloc (.cells #[.string (B nm), .iface Tu (.pointer (some ⟨bu,0,none⟩))] 203)) none:=World.grownBy_alloc _ _ _;have CW:=aS (QW (capA:=capA) Q.out.2.2.2.2.1 HF.out Q.out.2.1 (by rw[Q.out.2.2.1];omega) hpe ew Q.out.2.2.2.1 gn);rw[Q.out.2.2.1,<-NN.out]at CW;clear hnm hu he hpe hd hjj ew ef hz9 hz8 hb1 hb2 hz gn hje hjn hjc HJ;unfold CP at CW;go_wp2_with fail;refine CW.out.mono ?_;rintro e9 w2 ⟨x,rfl,hm⟩;have gS:w2.grownBy (w2.alloc (.cells #[CP x] 265)) none:=World.grownBy_alloc _ _ _;obtain⟨xs,row2,hbs,APP⟩:=UF hm gS;have AP:=aS APP;have hcl:csj.length<=1000:=by rw[HL.out.2];omega
   have hnews:∀i v,[CP x][i]? =some v->(w2.alloc (.cells #[CP x] 265)).cell? ((⟨w2.heap.size,0,none⟩:Addr).add i)=some v:=World.news_of_block (heap_alloc_new w2 _);have hone:∀v,v∈[CP x]->v.oneCell'=true:=λv hv=>by rw[List.mem_singleton.1 hv];rfl
   clear hm CW APP gS;unfold CP at*;go_wp2_with (at_builtin;refine wpList_append_lies _ rfl (.tmp 20) (.tmp 26) 414 rfl C.base 265 i0 (.pointer none) 1 8 underlying414 hi0 hz0 hz1 hz2 rfl (by decide) _ _ _ rfl row2 ⟨w2.heap.size,0,none⟩ 1 1 [.pointer (some ⟨x,0,none⟩)] rfl rfl hnews hone (by decide) (by unfold maxLen;omega) (by omega) hbs (w2.heap.size+1) (by simp) ?_);intro g7 cap7 w7 hown7 hgrow7 hat7 _;have F7:=aS (AP.out g7 cap7 w7 hown7 hgrow7 (by simpa using hat7));clear hown7 hgrow7 hat7 AP row2 hbs hnews hone;go_wp2_with fail
   go_roundg (nn-(j+1)+1)
   case measure=>omega
   case rel=>exact⟨j+1,y.1,csj++[y.2],by omega,by go_num,rfl,L2,J2,F7⟩
  ·have hjn:j=nn:=by omega
   have hds:es.drop j=[]:=List.drop_eq_nil_of_le (by rw[Q.out.1.le,<-NN.out,hjn];exact Nat.le_refl _);have hjj:=HJ.out;rw[hds,iY]at hjj
   have hcs:σj=σ1/\csj=cs:=by have:=Option.some.inj hjj;injection this with this;refine⟨congrArg Prod.fst this, ?_⟩;have h2:[]=cs.drop j:=congrArg Prod.snd this;have h3:=List.take_append_drop j cs;rw[<-h2,List.append_nil]at h3;rw[HL.out.1,h3]
   obtain⟨rfl,rfl⟩:=hcs;obtain⟨H1,ca1,d1,nv1,vs1,xs,t1,mx1,g1,lx,hx,row,off⟩:=HF.out;obtain⟨gf,capf,hfv⟩:=KH row (by rw[HL.out.2];omega);rw[HL.out.2,hjn]at hfv;subst hfv;have CR:=aS (KG t1 I2.out);have Q1:=aS (And.intro t1 (And.intro mx1 (And.intro g1 (And.intro lx (And.intro hx (And.intro row off))))));have LC:=aS (HL.out.2.trans hjn);have NX:=aS (R6 I3.out);obtain⟨j0,hj0,hy0,hy1,hy2⟩:=info_parts ES;subst hjn;clear hds hjj t1 mx1 g1 lx hx row off HJ HF HL;unfold CP at CR;go_wp2_with fail;refine CR.out.mono ?_;rintro e wS ⟨mb,rfl,hm,r2,t2,g2⟩;have SO:=aS (show Xb C ad H1 ca1 σj nb nv1 vs1 wS mb (.slice (some ⟨gf,0,none⟩) j capf) d1 from⟨t2,hm,GM.lt r2,λq hq=>⟨(Q1.out.2.2.2.2.2.2 q hq).2.1,Nat.lt_of_lt_of_le (Q1.out.2.2.2.2.2.1.lt q hq).2 g2.size⟩,Q.out.2.2.2.1.gb (Q1.out.2.2.1.tr (g2.mono λk e=>Q1.out.1.clo k e))⟩);have G0:=aS (show Vc C H1 ca1 σj nb nv1 vs1 wS mb L (.slice (some ⟨gf,0,none⟩) j capf) xs next 0 (.slice none 0 0) wS from⟨H1,d1,[],t2,MX.refl _ _ _,Gb.refl _ _,r2,by rw[Q1.out.2.2.2.1];exact iX Q1.out.2.2.2.2.2.1 g2 (λq hq=>(Q1.out.2.2.2.2.2.2 q hq).2.1),rfl,World.ownsRow_nil _ _ _ _,(λq hq=>by cases hq),λi p q e=>by simp at e⟩);have GS:=aS (Q1.out.2.2.1.tr (g2.mono λk e=>Q1.out.1.clo k e));clear hm r2 t2 g2 CR;go_wp2_with fail
   go_loopg [11,33] (j+1) (λgh y i wi=>∃k:Nat,k<=j/\i= .int .i64 k/\gh=j-k+1/\Hid (Vc C H1 ca1 σj nb nv1 vs1 wS mb L (.slice (some ⟨gf,0,none⟩) j capf) xs next k y wi))
   case atStart=>exact⟨0,by omega,rfl,by omega,G0⟩
   case round=>
    obtain⟨k,hk,rfl,hgk,HG⟩:=hrel;by_cases hkl:k<j
    ·have hkn:k<ns.length:=by rw[<-NN.out];exact hkl
     obtain⟨nm,hnm⟩:∃x,ns[k]? =some x:=⟨_,List.getElem?_eq_getElem hkn⟩;obtain⟨u,hu⟩:∃x,us[k]? =some x:=⟨_,List.getElem?_eq_getElem (by rw[Q.out.1.lu];exact hkn)⟩;obtain⟨c,hc⟩:∃x,csj[k]? =some x:=⟨_,List.getElem?_eq_getElem (by rw[LC.out];exact hkl)⟩;obtain⟨x,hx⟩:∃x,xs[k]? =some x:=⟨_,List.getElem?_eq_getElem (by rw[Q1.out.2.2.2.1,LC.out];exact hkl)⟩;obtain⟨t,ht,hgen⟩:=NX.out.2.2 k nm c hnm hc;have ecx:=Q1.out.2.2.2.2.1 k c x hc hx;obtain⟨cur,hb1,hb2⟩:=Q.out.1.row
     have hz:Fz H wr:=by obtain⟨Hk,dk,nk,tk,mxk,_⟩:=HG.out;exactλq o e=>tk.ms.cs.fz q o (mxk.ext q o (Q1.out.2.1.ext q o e))
     obtain⟨k1,k2⟩:=IX hz hb1 hb2 hnm hu;have lB:=lt_of_block (hz _ _ hb1)
     have hfc:wr.cell? ⟨gf,k,none⟩=some (CP x)/\gf<wr.heap.size:=by
      obtain⟨Hk,dk,nk,tk,mxk,gbk,ra,rf,_⟩:=HG.out;have hxl:xs.length=j:=by rw[Q1.out.2.2.2.1,LC.out]
      rw[hxl]at rf;exact Es rf (by rw[List.getElem?_map,hx];rfl)
     obtain⟨Tu,bu,rfl⟩:∃T b,u= .iface T (.pointer (some ⟨b,0,none⟩)):=by obtain⟨e9,he9⟩:∃x,es[k]? =some x:=⟨_,List.getElem?_eq_getElem (by rw[Q.out.1.le];exact hkn)⟩;exact(Q.out.1.is k u e9 hu he9).val
     have gn:wr.grownBy (wr.alloc (.cells #[.string (B nm), .iface Tu (.pointer (some ⟨bu,0,none⟩))] 203)).drew none:=cZ (World.grownBy_alloc _ _ _);have CG:=aS (Ep SO.out HG.out gn ecx hgen);have HT:=aS ht
     have nq:∀q,u11.ownBlock=some q->q≠wr.heap.size/\q≠gf:=λq hq=>by obtain⟨Hk,dk,nk,tk,mxk,gbk,ra,rf,ln,rn,ro,_⟩:=HG.out;have h1:=(ro q hq).1;have h2:=(rn.lt q hq).2;have h3:=(SO.out.fo gf rfl).2;exact⟨by omega,by omega⟩
     have hw9:¬dT ca1 wr.heap.size:=λhm=>by obtain⟨Hk,dk,nk,tk,_⟩:=HG.out;have:=dT.lt tk.ms.cs hm;omega
     have hgf9:=(SO.out.fo gf rfl).1;obtain⟨hf1,hf2⟩:=hfc;have b0c:(wr.alloc (.cells #[.string (B nm), .iface Tu (.pointer (some ⟨bu,0,none⟩))] 203)).drew.cell? ⟨wr.heap.size,0,none⟩=some (.string (B nm)):=cU (w:=(wr.alloc (.cells #[.string (B nm), .iface Tu (.pointer (some ⟨bu,0,none⟩))] 203)).drew) (heap_alloc_new wr _) 0 rfl;have b1c:(wr.alloc (.cells #[.string (B nm), .iface Tu (.pointer (some ⟨bu,0,none⟩))] 203)).drew.cell? ⟨gf,k,none⟩=some (CP x):=(Gb.new (R:=λ_=>False) gn).cell hf1 hf2 id;have S2:=aS (And.intro b0c b1c);have NQ:=aS (And.intro nq (And.intro hw9 hgf9));clear hnm hu hc hx ht hgen ecx hb1 hb2 hz gn hkn b0c b1c nq hw9 hgf9;unfold CP at CG hf1 S2;go_wp2_with fail
     go_region_held3 (λwx=>wx.cell? ⟨wr.heap.size,0,none⟩=some (.string (B nm))/\wx.cell? ⟨gf,k,none⟩=some (.pointer (some ⟨x,0,none⟩))) (first|exact S2.out|exact S7.out|exact S6.out|exact S5.out|go_keep) (first
      |(go_at_call 127;refine CG.out.mono ?_;rintro e w5 ⟨T5,b5,rfl,g5,hm5⟩;have S5:=aS (And.intro (g5.cell S2.out.1 (by simp) NQ.out.2.1) (g5.cell S2.out.2 (by simp;omega) NQ.out.2.2));have gS:w5.grownBy (w5.alloc (.cells #[.string (B nm), .iface T5 (.pointer (some ⟨b5,0,none⟩))] 403)) none:=World.grownBy_alloc _ _ _;have lw5:=g5.size;have S6:=aS (And.intro ((Gb.new (R:=λ_=>False) gS).cell S5.out.1 (by simp at lw5;omega) id) ((Gb.new (R:=λ_=>False) gS).cell S5.out.2 (by simp at lw5;omega) id));obtain⟨nk,lnk,row2,hbs,APP⟩:=Er SO.out hm5 HT.out gS;have AP:=aS APP;have hcl:nk.length<=1000:=(by rw[lnk];omega);have hnews:=ak w5 nm T5 b5;have hone:=qh nm T5 b5;clear hm5 APP gS lnk g5)
      |(refine step_append_lies _ (by rfl) _ _ _ (by rfl) C.base 403 j0 _ 2 32 underlying261 hj0 hy0 hy1 hy2 rfl (by decide) _ _ _ (by rfl) row2 ⟨w5.heap.size,0,none⟩ 1 1 [Value.string (B nm), .iface T5 (.pointer (some ⟨b5,0,none⟩))] (by rfl) rfl hnews hone (by decide) (by unfold maxLen;omega) (by omega) hbs (w5.heap.size+1) (by simp) ?_;intro g7 cap7 w7 hown7 hgrow7 hat7 _;have F7:=aS (AP.out g7 cap7 w7 hown7 hgrow7 (by simpa using hat7));have g77:=Gb.of (R:=λq=>u11.ownBlock=some q) hgrow7 (λb e=>Or.inl e);have S7:=aS (And.intro (g77.cell S6.out.1 (by simp at lw5⊢;omega) (λe=>(NQ.out.1 _ e).1 rfl)) (g77.cell S6.out.2 (by simp at lw5⊢;omega) (λe=>(NQ.out.1 _ e).2 rfl)));clear hown7 hgrow7 hat7 g77))
     all_goals
      clear S2 S5 S6 S7 AP row2 hbs hnews hone;go_wp2_with fail
      go_roundg (j-(k+1)+1)
      case measure=>omega
      case rel=>exact⟨k+1,by omega,by go_num,rfl,F7⟩
    ·have hkj:k=j:=by omega
     subst hkj;obtain⟨g9,cap9,he9,hR9⟩:=yc SO.out HG.out h0 (by rw[NX.out.1,<-NN.out]) Q1.out.2.1 GS.out;have Q9:=aS hR9;subst he9;clear HG hR9;go_wp2;go_ret;exact Q9.out
theorem Ev{C:TC}{N:aF}(hP:∀K,ET {C with keep:=K} N P){H:aB}{G:bM}{d:aI}{l p:lQE}{e1:List NE}{w:World}{c:aD}{us:aH}{b:List Ex}{m gB gA capA:Nat}{q:Nat}
  (hB:Iv H gB c us b m) (hA:ke H ca gA e1 p) (la:e1.length=c.length) (O:0<c.length) (S:c.length<=1000) (i1:iY P l p b G=some (.inl q)) (h:kD C H ca G d l nv vs w) (h5:rP C.base N w):
  Calls prog 237 #[CP C.tb, .slice (some ⟨gB,0,none⟩) c.length capB, .slice (some ⟨gA,0,none⟩) c.length capA] w λe w'=>e=oF (N q)/\Gb C.own w w':=by
 have Q:=aS (aL hB (aL hA (aL la (aL h5 (aL hP h)))));have I1:=aS (show iY P l p (b.drop 0) G=some (.inl q)from i1);obtain⟨i0,e4,e6,e7,e8⟩:=oR R8;obtain⟨f,T⟩:∃f,f=c.length:=⟨_,rfl⟩;have M:=aS T;rw[<-T]at O S⊢;obtain⟨O,S⟩:=aL O S;clear hB hA la i1 h h5 hP T;unfold CP;go_enter func237,ntmps237;go_wp2_with fail
 go_loopg [7,16] (f+1) (λgh x i wi=>∃(j:Nat) (I:bM) (r:aC),j<=f/\i= .int .i64 j/\gh=f-j+1/\Hid (r.length=j)/\Hid (iY P l p (b.drop j) I=some (.inl q))/\Hid (Ou C H ca l w I r x wi))
 case atStart=>exact⟨0,G,[],by omega,rfl,by omega,aS rfl,I1,aS (Ou.start Q.2.2.2.2.2)⟩
 case round=>
  obtain⟨j,I,r,hj,rfl,w5,HL,J,HF⟩:=hrel;by_cases e5:j<f
  ·have s:j<c.length:=by rw[<-M.out];exact e5
   obtain⟨nm,h8⟩:∃x,c[j]? =some x:=⟨_,aP s⟩;obtain⟨u,W⟩:∃x,us[j]? =some x:=⟨_,aP (by rw[Q.1.lu];exact s)⟩;have F:j<b.length:=by rw[Q.1.le];exact s
   obtain⟨e,E⟩:∃x,b[j]? =some x:=⟨_,aP F⟩;have U:=Q.1.is j u e W E
   have hd:b.drop j=e::b.drop (j+1):=by rw[cO F];rw[aP F]at E;rw[aY E]
   have a:=J.out;rw[hd,iY]at a
   cases D:qK P e l p I with
   |none=>rw[D]at a;cases a
   |some w0=>
   rw[D]at a;have L:=aS a;clear a;obtain⟨w3,R,h3⟩:=Q.1.row
   have X:Fz H wr:=by obtain⟨H',w1,d',w6,w8,xs,t,mx,_⟩:=HF.out;exactλk o e=>t.ms.cs.fz k o (mx.ext k o e)
   obtain⟨k1,k2⟩:=IX X R h3 h8 W;have lB:=aT (X _ _ R);obtain⟨Tu,bu,rfl⟩:=U.val;have gn:wr.grownBy (wr.alloc (.cells #[.string (B nm), .iface Tu (.pointer (some ⟨bu,0,none⟩))] 203)) none:=aO _ _ _;have n:=aS (QW (capA:=capA) Q.2.2.2.2.1 HF.out Q.2.1 (by rw[Q.2.2.1];omega) U D Q.2.2.2.1 gn);rw[Q.2.2.1,<-M.out]at n;clear h8 W E U hd R h3 X gn F s J D;unfold CP at n;go_wp2_with fail
   cases w0 with
   |inl Y=>
    have V:Y=q:=by have:=aY L.out;injection this
    subst V;refine n.mono ?_;rintro e9 g ⟨rfl,g9⟩;have Q9:=aS g9;clear g9 n;unfold oF eQ;go_wp2;exact⟨rfl,rfl,Q9.out⟩
   |inr y=>
   have a:=L.out;simp only at a
   cases A:iY P l p (b.drop (j+1)) y.1 with
   |none=>rw[A]at a;cases a
   |some rf=>
   rw[A]at a
   cases rf with
   |inr z=>cases a
   |inl Y=>
   have V:Y=q:=by have:=aY a;injection this
   subst V;have J2:=aS A;have L2:=aS (show(r++[y.2]).length=j+1 by rw[bD,HL.out];rfl);clear a A L;refine n.mono ?_;rintro e9 g ⟨x,rfl,hm⟩;have gS:g.grownBy (g.alloc (.cells #[CP x] 265)) none:=aO _ _ _;obtain⟨xs,row2,h4,h1⟩:=UF hm gS;have Z:=aS h1;have w4:r.length<=1000:=by rw[HL.out];omega
   have h7:∀i v,[CP x][i]? =some v->(g.alloc (.cells #[CP x] 265)).cell? ((⟨g.heap.size,0,none⟩:Addr).add i)=some v:=lN (bY g _);have h9:∀v,v∈[CP x]->v.oneCell'=true:=λv hv=>by rw[bF.1 hv];rfl
   clear hm n h1 gS;unfold CP at*;go_wp2_with (at_builtin;refine jQ _ rfl (.tmp 20) (.tmp 26) 414 rfl C.base 265 i0 (.pointer none) 1 8 underlying414 e4 e6 e7 e8 rfl (by decide) _ _ _ rfl row2 ⟨g.heap.size,0,none⟩ 1 1 [.pointer (some ⟨x,0,none⟩)] rfl rfl h7 h9 (by decide) (by unfold maxLen;omega) (by omega) h4 (g.heap.size+1) (by simp) ?_);intro g7 e2 w7 e0 h6 h2 _;have F7:=aS (Z.out g7 e2 w7 e0 h6 (by simpa using h2));clear e0 h6 h2 Z row2 h4 h7 h9;go_wp2_with fail
   go_roundg (f-(j+1)+1)
   case measure=>omega
   case rel=>exact⟨j+1,y.1,r++[y.2],by omega,by go_num,rfl,L2,J2,F7⟩
  ·exfalso;have s:j=f:=by omega
   have e3:b.drop j=[]:=iW (by rw[Q.1.le,<-M.out,s];exact aV _);have a:=J.out;rw[e3,iY]at a;cases a
theorem Ew(w:World):(binOp .eql 127 .nilFunc .nilFunc).run prog w= .ok (.bool true) w:=by kernel_rfl
theorem Ey{C:TC}{H:aB}{c:bM}{d:aI}{a:lQE}{w:World}(h:kD C H ca c d a nv vs w)(x:C.each= .nilFunc)(v:Value)(i:Int):
  Calls prog 238 #[CP C.tb,v, .int .i64 i] w λe b=>(∃z,e= .returned z)/\b=w:=by
 have f:w.cell? ⟨C.tb,2,none⟩=some .nilFunc:=by have:=h.ms.bk;unfold TB TC.r at this;rw[x]at this;simp[World.cell?,this]
 have g:=h.ms.bk.lt;clear h x;have j:=Ew w;unfold CP;go_enter func238,ntmps238;go_wp2;refine eN (MW rfl _ _ _) rfl ?_;exact⟨⟨_,rfl⟩,rfl⟩
def Vd(C:TC)(H:aB)(e:aC)(l:bM)(d:lQE)(g:Value)(j:List NE)(a:World)(f:aD)(k:Nat)(b:Value)(w:World):Prop:=
 ∃(h:aB) (c:aI) (x:List NE),kD C h e l c d g j w/\MX H h e e a/\Gb C.own a w/\x.length=k/\w.ownsRow C.base 403 2 b x.length (gP x)/\(∀q,b.ownBlock=some q->a.heap.size<=q/\h q=none)/\∀(i:Nat) (p:NE) n,x[i]? =some p->f[i]? =some n->p.1=n/\ER h e p.v (vT [97])
theorem ye{C:TC}{H:Nat->Option Obj}{ca:List Nat}{σ:bM}{d:Nat->Nat}{nb:List (List UInt8×Et)}{nv:Value}{vs:List NE}{w0 w w1 w2:World}{ns:List (List UInt8)}{k:Nat}{nx:Value}{nm:List UInt8}{b:Nat}(S:kD C H ca σ d nb nv vs w0)(h:Vd C H ca σ nb nv vs w0 ns k nx w)(hk:ns[k]? =some nm)(g1:w.grownBy w1 none)(hb:w.heap.size<=b)(hb1:w1.heap[b]? =some (.cells #[.string (B [97])] 313 (0,0)))(g2:w1.grownBy w2 none):
  ∃nk:List NE,nk.length=k/\w2.ownsRow C.base 403 2 nx nk.length (gP nk)/\C.base<=w2.heap.size/\∀g cap w3,w3.ownsRow C.base 403 2 (.slice (some ⟨g,0,none⟩) (nk.length+1) cap) (nk.length+1) (gP nk++[.string (B nm), .iface 309 (.pointer (some ⟨b,0,none⟩))])->w2.grownBy w3 nx.ownBlock->(nx.ownBlock=some g\/g=w2.heap.size)->Vd C H ca σ nb nv vs w0 ns (k+1) (.slice (some ⟨g,0,none⟩) (nk.length+1) cap) w3:=by
 obtain⟨Hk,dk,nk,tk,mx,gb,ln,rn,ro,hi⟩:=h;have g12:=g1.trans g2;have gF:Gb (λ_=>False) w w2:=Gb.new g12;have rn2:=iX rn gF (λ_ _=>id);have t2:=tk.grown g12;have hb2:w2.heap[b]? =some (.cells #[.string (B [97])] 313 (0,0)):=(g2.block b (lt_of_block hb1) (by simp)).trans hb1;refine⟨nk,ln,rn2,t2.bs,λg cap w3 hown hgr hat=> ?_⟩;have gR:Gb (λq=>nx.ownBlock=some q) w2 w3:=Gb.of hgr (λb e=>Or.inl e);have big:∀q,nx.ownBlock=some q->∀z,z<w0.heap.size->z≠q:=λq hq z hz e=>by have:=(ro q hq).1;omega
 have nqb:∀q,nx.ownBlock=some q->q≠b:=λq hq e=>by have:=(rn.lt q hq).2;omega
 have hR:∀q,nx.ownBlock=some q->Hk q=none/\q∉ca/\q≠C.tb/\nv.ownBlock≠some q/\C.base<=q:=λq hq=>⟨(ro q hq).2,λhm=>big q hq q (dT.lt S.ms.cs hm) rfl,λe=>big q hq _ S.ms.bk.lt e.symm,λe=>big q hq q (S.nr.own.lt q e).2 rfl,(rn.lt q hq).1⟩;have t3:=t2.side gR hR;have hb3:w3.heap[b]? =some (.cells #[.string (B [97])] 313 (0,0)):=gR.at hb2 (λe=>nqb b e rfl);have hbn:Hk b=none:=tk.ms.cs.fz.none hb;have hsz:=gb.size;have tf:=t3.freeze hb3 hbn (λhm=>by have:=dT.lt S.ms.cs hm;omega) (λe=>by have:=S.ms.bk.lt;omega) (λe=>by have:=(S.nr.own.lt b e).2;omega);have ext:=jS (o:= .cells #[.string (B [97])] 313 (0,0)) hbn;have mf:MX H (kJ Hk b (.cells #[.string (B [97])] 313 (0,0))) ca ca w0:=⟨λk o e=>ext k o (mx.ext k o e),onto1_new mx.new (by omega),List.prefix_refl _,λ_ h=>Or.inl h⟩;refine⟨_,dk,nk++([((nm,309,b):List UInt8×TypeId×Nat)]:List NE),tf,mf,(gb.tr (Gb.new g12)).tr (gR.mono λq hq=>⟨(hR q hq).2.2.2.2,λhk=>big q hq q (S.kp q hk) rfl⟩),(by rw[List.length_append,ln];rfl), ?_,λq hq=> ?_,λi p n e1 e2=> ?_⟩
 ·rw[List.length_append,vO];exact hown
 ·have eq:g=q:=by simpa[Value.ownBlock]using hq
  subst eq;have no:g≠b->Hk g=none->kJ Hk b (.cells #[.string (B [97])] 313 (0,0)) g=none:=λh1 h2=>by unfold kJ;rw[if_neg h1];exact h2
  rcases hat with e|e
  ·exact⟨(ro g e).1,no (nqb g e) (ro g e).2⟩
  ·have h9:=lt_of_block hb2;exact⟨by rw[e];exact Nat.le_trans hsz g12.size,no (by omega) (tk.ms.cs.fz.none (by rw[e];exact g12.size))⟩
 ·rcases Nat.lt_or_ge i nk.length with hl|hl
  ·rw[List.getElem?_append_left hl]at e1;exact⟨(hi i p n e1 e2).1,fP.onto (hi i p n e1 e2).2 ext⟩
  ·rw[List.getElem?_append_right hl]at e1
   match hj:i-nk.length with
   |0=>
    rw[hj]at e1;cases e1;have ei:i=k:=by omega
    rw[ei,hk]at e2;cases e2;exact⟨rfl,1,b,Or.inr (Or.inl ⟨rfl,rfl,(show [(97:UInt8)].length<=300 by decide),Nat.zero_le _,rfl,iR⟩)⟩
   |j+1=>rw[hj]at e1;have h9:(none:Option NE)=some p:=e1;cases h9
theorem yf{C:TC}{H:Nat->Option Obj}{ca:List Nat}{σ:bM}{d:Nat->Nat}{nb:List (List UInt8×Et)}{nv:Value}{vs:List NE}{w0 w:World}{ns:List (List UInt8)}{nx:Value}(S:kD C H ca σ d nb nv vs w0)(h:Vd C H ca σ nb nv vs w0 ns ns.length nx w)(h0:0<ns.length):
  ∃g cap Hk dk nk,nx= .slice (some ⟨g,0,none⟩) ns.length cap/\kD C Hk ca σ dk nb nv vs w/\MX H Hk ca ca w0/\Gb C.own w0 w/\ke Hk ca g nk (ns.map λn=>(n,vT [97]))/\nk.length=ns.length:=by
 obtain⟨Hk,dk,nk,tk,mxk,gbk,ln,rn,ro,hi⟩:=h;obtain⟨g,cap,rfl⟩:=KH rn (by omega);have hro:=ro g rfl;obtain⟨r1,r2⟩:=rn;rcases r2 with⟨r2,_⟩|⟨g',cap',cur,e1,h3,h4,h5,h6,h7,h8⟩
 ·cases r2
 have eg:g=g':=by injection e1 with q;injection q with q;injection q
 subst eg;have big:∀z,z<w0.heap.size->z≠g:=λz hz e=>by have:=hro.1;omega
 have tf:=tk.freeze h4 hro.2 (λhm=>big g (dT.lt S.ms.cs hm) rfl) (λe=>big _ S.ms.bk.lt e.symm) (λe=>big g (S.nr.own.lt g e).2 rfl);have ext:=jS (o:= .cells cur 403 (0,0)) hro.2;refine⟨g,cap,_,dk,nk,by rw[ln],tf,⟨λk o e=>ext k o (mxk.ext k o e),onto1_new mxk.new hro.1,List.prefix_refl _,λ_ h=>Or.inl h⟩,gbk,⟨⟨cur,iR,h8⟩,by rw[ln,List.length_map],λi p q q1 q2=> ?_⟩,ln⟩;rw[List.getElem?_map]at q2
 cases en:ns[i]? with
 |none=>rw[en]at q2;cases q2
 |some n=>rw[en]at q2;cases q2;exact⟨(hi i p n q1 en).1,fP.onto (hi i p n q1 en).2 ext⟩
theorem Iv.mx{H a:aB}{g:aC}{w:World}{c:Nat}{d:aD}{f:aH}{b:List Ex}{m:Nat}(h:Iv H c d f b m)(x:MX H a ca g w):Iv a c d f b m:=by obtain⟨j,n,o⟩:=h.row;exact⟨⟨j,x.ext _ _ n,o⟩,h.lu,h.le,λi u e k l=>x.prep (h.is i u e k l)⟩
theorem ke.rowN{H:aB}{o:bM}{d:aI}{g cap:Nat}{x:List NE}{i:lQE}{w:World}(h:ke H ca g x i)(f:fY H ca o d w):Rh ca w (.slice (some ⟨g,0,none⟩) x.length cap) x:=by
 obtain⟨c,a,m⟩:=h.row;have b:=f.fz _ _ a;refine⟨g,cap,rfl,aT b,λn=> ?_,λj p e=> ?_⟩
 ·have:=f.off g n;rw[this]at a;cases a
 ·have r:=(aU.1 e).1;have q:=EP x j p e;rw[<-m,iC (by omega),iC (by omega)]at q;have k:c[j*2]? =some (.string (B p.1)):=by simpa using q.1
  have l:c[j*2+1]? =some p.v:=by simpa using q.2
  exact⟨by simp[World.cell?,b,k],by simp[World.cell?,b,l]⟩
def Zm(C:TC)(d:aF)(H:aB)(f:aC)(k:lQE)(n:Nat)(r:Sum Nat (bM×List (aA×Et)))(w:World)(e:Ending)(b:World):Prop:=match r with
 | .inl q=>e=oF (d q)/\Gb C.own w b
 | .inr x=>∃(h:aB) (a:aC) (j:aI) (l:Value) (m c:List NE) (g i:Nat),e= .returned (.slice (some ⟨g,0,none⟩) n i)/\kD C h a x.1 j k l m b/\MX H h f a w/\Gb C.own w b/\ke h a g c x.2/\c.length=n
def Yc(C:TC)(H:aB)(c:aC)(i:lQE)(n:Nat)(l:bM)(b:lQE)(a:World)(v:Value)(w:World):Prop:=
 ∃(h:aB) (e:aC) (f:aI) (j:Value) (k x:List NE) (g d:Nat),v= .slice (some ⟨g,0,none⟩) n d/\kD C h e l f i j k w/\MX H h c e a/\Gb C.own a w/\ke h e g x b/\x.length=n
theorem WU{C:TC}{ad:Nat->Addr}{P:Ex->List (List UInt8×Et)->bM->Option (Sum Nat (bM×Nat))}(hP:∀K,ET {C with keep:=K} ad P){H:Nat->Option Obj}{ca:List Nat}{σ:bM}{d:Nat->Nat}{nb:List (List UInt8×Et)}{nv:Value}{vs:List NE}{w:World}{ns:List (List UInt8)}{us:List Value}{es:List Ex}{m gB capB most:Nat}{r:Sum Nat (bM×List (List UInt8×Et))}
  (hB:Iv H gB ns us es m) (h0:0<ns.length) (hn:ns.length<=1000) (hm:C.most= .int .i64 (most:Int)) (hm9:most<=1000) (he:C.each= .nilFunc) (hr:l9 P ns es nb most (ns.map λn=>(n,vT [97])) σ=some r) (h:kD C H ca σ d nb nv vs w) (hgl:rP C.base ad w):
  Calls prog 209 #[CP C.tb, .slice (some ⟨gB,0,none⟩) ns.length capB] w (Zm C ad H ca nb ns.length r w):=by
 have Q:=aS (And.intro hB (And.intro hm (And.intro he (And.intro hgl (And.intro hP h)))));have HR:=aS hr;obtain⟨j0,hj0,hy0,hy1,hy2⟩:=info_parts ES;obtain⟨nn,hnn⟩:∃nn,nn=ns.length:=⟨_,rfl⟩;have NN:=aS hnn;rw[<-hnn]at h0 hn⊢;have N0:=aS (show Vd C H ca σ nb nv vs w ns 0 (.slice none 0 0) w from⟨H,d,[],h,MX.refl _ _ _,Gb.refl _ _,rfl,World.ownsRow_nil _ _ _ _,(λq hq=>by cases hq),λi p q e=>by simp at e⟩);clear hB hm he hr h hgl hP hnn;unfold CP;go_enter func209,ntmps209;go_wp2_with fail
 go_loopg [5,12] (nn+1) (λgh y i wi=>∃k:Nat,k<=nn/\i= .int .i64 k/\gh=nn-k+1/\Hid (Vd C H ca σ nb nv vs w ns k y wi))
 case atStart=>exact⟨0,by omega,rfl,by omega,N0⟩
 case round=>
  obtain⟨k,hk,rfl,hgk,HG⟩:=hrel;by_cases hkl:k<nn
  ·have hkn:k<ns.length:=by rw[<-NN.out];exact hkl
   obtain⟨nm,hnm⟩:∃x,ns[k]? =some x:=⟨_,List.getElem?_eq_getElem hkn⟩;obtain⟨u,hu⟩:∃x,us[k]? =some x:=⟨_,List.getElem?_eq_getElem (by rw[Q.out.1.lu];exact hkn)⟩;obtain⟨cur,hb1,hb2⟩:=Q.out.1.row
   have hz:Fz H wr:=by obtain⟨Hk,dk,nk,tk,mxk,_⟩:=HG.out;exactλq o e=>tk.ms.cs.fz q o (mxk.ext q o e)
   obtain⟨k1,k2⟩:=IX hz hb1 hb2 hnm hu;have lB:=lt_of_block (hz _ _ hb1)
   obtain⟨Tu,bu,rfl⟩:∃T b,u= .iface T (.pointer (some ⟨b,0,none⟩)):=by obtain⟨e9,he9⟩:∃x,es[k]? =some x:=⟨_,List.getElem?_eq_getElem (by rw[Q.out.1.le];exact hkn)⟩;exact(Q.out.1.is k u e9 hu he9).val
   have gn:wr.grownBy (wr.alloc (.cells #[.string (B nm), .iface Tu (.pointer (some ⟨bu,0,none⟩))] 203)).drew none:=cZ (World.grownBy_alloc _ _ _);have CG:=aS (Va (wr.alloc (.cells #[.string (B nm), .iface Tu (.pointer (some ⟨bu,0,none⟩))] 203)).drew);have b0c:(wr.alloc (.cells #[.string (B nm), .iface Tu (.pointer (some ⟨bu,0,none⟩))] 203)).drew.cell? ⟨wr.heap.size,0,none⟩=some (.string (B nm)):=cU (w:=(wr.alloc (.cells #[.string (B nm), .iface Tu (.pointer (some ⟨bu,0,none⟩))] 203)).drew) (heap_alloc_new wr _) 0 rfl
   have nq:∀q,u5.ownBlock=some q->q≠wr.heap.size:=λq hq=>by obtain⟨Hk,dk,nk,tk,mxk,gbk,ln,rn,ro,_⟩:=HG.out;have h2:=(rn.lt q hq).2;omega
   have S2:=aS b0c;have NQ:=aS (And.intro nq (And.intro hnm gn));clear hnm hu hb1 hb2 hz gn hkn b0c nq;go_wp2_with fail
   go_region_held3 (λwx=>wx.cell? ⟨wr.heap.size,0,none⟩=some (.string (B nm))) (first|exact S2.out|exact S7.out|exact S6.out|exact S5.out|go_keep) (first
    |(go_at_call 236;refine CG.out.mono ?_;rintro e w5 ⟨b5,rfl,hb5,hv5,g5⟩;have lw5:=g5.size;have S5:=aS ((Gb.new (R:=λ_=>False) g5).cell S2.out (by simp) id);have gS:w5.grownBy (w5.alloc (.cells #[.string (B nm), .iface 309 (.pointer (some ⟨b5,0,none⟩))] 403)) none:=World.grownBy_alloc _ _ _;have S6:=aS ((Gb.new (R:=λ_=>False) gS).cell S5.out (by simp at lw5;omega) id);obtain⟨nk,lnk,row2,hbs,APP⟩:=ye Q.out.2.2.2.2.2 HG.out NQ.out.2.1 (NQ.out.2.2.trans g5) (Nat.le_trans NQ.out.2.2.size hb5) hv5 gS;have AP:=aS APP;have hcl:nk.length<=1000:=(by rw[lnk];omega);have hnews:=ak w5 nm 309 b5;have hone:=qh nm 309 b5;clear APP gS lnk g5 hv5 hb5)
    |(refine step_append_lies _ (by rfl) _ _ _ (by rfl) C.base 403 j0 _ 2 32 underlying261 hj0 hy0 hy1 hy2 rfl (by decide) _ _ _ (by rfl) row2 ⟨w5.heap.size,0,none⟩ 1 1 [Value.string (B nm), .iface 309 (.pointer (some ⟨b5,0,none⟩))] (by rfl) rfl hnews hone (by decide) (by unfold maxLen;omega) (by omega) hbs (w5.heap.size+1) (by simp) ?_;intro g7 cap7 w7 hown7 hgrow7 hat7 _;have F7:=aS (AP.out g7 cap7 w7 hown7 hgrow7 (by simpa using hat7));have g77:=Gb.of (R:=λq=>u5.ownBlock=some q) hgrow7 (λb e=>Or.inl e);have S7:=aS (g77.cell S6.out (by simp at lw5⊢;omega) (λe=>(NQ.out.1 _ e) rfl));clear hown7 hgrow7 hat7 g77))
   all_goals
    clear S2 S5 S6 S7 AP row2 hbs hnews hone;go_wp2_with fail
    go_roundg (nn-(k+1)+1)
    case measure=>omega
    case rel=>exact⟨k+1,by omega,by go_num,rfl,F7⟩
  ·have hkn:k=ns.length:=by rw[<-NN.out];omega
   have hg9:=HG.out;rw[hkn]at hg9;obtain⟨g9,cap9,Hk,dk,nk,hv9,tk,mxk,gbk,ahk,lnk⟩:=yf Q.out.2.2.2.2.2 hg9 (by rw[<-NN.out];exact h0);rw[<-NN.out]at hv9 lnk hkn;have B0:=aS (show Yc C H ca nb nn σ (ns.map λn=>(n,vT [97])) w u5 wr from⟨Hk,ca,dk,nv,vs,nk,g9,cap9,hv9,tk,mxk,gbk,ahk,lnk⟩);subst hv9;subst hkn;clear tk mxk gbk ahk lnk hg9 HG N0;have hk0:0<k:=h0;go_wp2_with fail
   go_loopg [5,8] (most+1) (λgh y i wi=>∃(t:Nat) (ahead:List (List UInt8×Et)) (σj:bM),t<=most/\i= .int .i64 ((t+1:Nat):Int)/\gh=most-t+1/\Hid (l9 P ns es nb (most-t) ahead σj=some r)/\Hid (Yc C H ca nb k σj ahead w y wi))
   case atStart=>exact⟨0,_,σ,by omega,rfl,by omega,HR,B0⟩
   case round=>
    obtain⟨t,ahead,σj,ht,rfl,hgt,HJ,HF⟩:=hrel;obtain⟨Ha,caA,dA,nvA,vsA,nkA,gA,capA,rfl,tA,mxA,gbA,ahA,lnA⟩:=HF.out
    obtain⟨c1,lt1⟩:wr.cell? ⟨C.tb,1,none⟩=some (.int .i64 (most:Int))/\C.tb<wr.heap.size:=by have h9:=tA.ms.bk;unfold TB TC.r at h9;rw[Q.out.2.1]at h9;exact⟨by simp[World.cell?,h9],lt_of_block h9⟩
    have glA:=Q.out.2.2.2.1.gb gbA;by_cases htl:t<most
    ·have hle:((t+1:Nat):Int)<=(most:Int):=by omega
     have hjj:=HJ.out;rw[show most-t=(most-(t+1))+1 by omega,l9]at hjj
     cases er:rQ P ns es nb ahead σj with
     |none=>rw[er]at hjj;cases hjj
     |some rr=>
     rw[er]at hjj;unfold rQ at er
     cases ef:iY P nb ahead es σj with
     |none=>rw[ef]at er;cases er
     |some rf=>
     rw[ef]at er;have hlen:nkA.length=ns.length:=by rw[lnA,NN.out]
     cases rf with
     |inl q=>cases er;have hq:r= .inl q:=(Option.some.inj hjj).symm;subst hq;have CR:=aS (Ev (capB:=capB) (capA:=capA) Q.out.2.2.2.2.1 (Q.out.1.mx mxA) ahA hlen (by rw[<-NN.out];exact hk0) (by rw[<-NN.out];exact hn) ef tA glA);rw[<-NN.out]at CR;have GB:=aS gbA;clear tA mxA gbA ahA lnA glA hjj ef HJ HF hlen;unfold CP at CR;go_wp2_with fail;refine CR.out.mono ?_;rintro e w2 ⟨rfl,g2⟩;have Q9:=aS (GB.out.tr g2);clear g2 CR;unfold oF eQ;go_wp2;exact⟨rfl,rfl,Q9.out⟩
     |inr y=>
      simp only at er
      cases el:mV y.1 nb with
      |none=>rw[el]at er;cases er
      |some L=>
      rw[el]at er;simp only at er
      cases en:nZ y.1 L ns y.2 with
      |none=>rw[en]at er;cases er
      |some next=>
      rw[en]at er;cases er;simp only at hjj;have CR:=aS (Eu (capB:=capB) (capA:=capA) Q.out.2.2.2.2.1 (Q.out.1.mx mxA) ahA hlen (by rw[<-NN.out];exact hk0) (by rw[<-NN.out];exact hn) ef el en tA glA);rw[<-NN.out]at CR;have QA:=aS (And.intro mxA (And.intro gbA (And.intro ahA lnA)));have JJ:=aS hjj;have NL:=aS ((R6 en).1.trans NN.out.symm);clear tA mxA gbA ahA lnA glA hjj ef el en HJ HF hlen;unfold CP at CR;go_wp2_with fail;refine CR.out.mono ?_;rintro e w2 ⟨H0,H2,ca2,d2,nv2,vs2,nk2,g2,cap2,lo,rfl,t2,mx2,gb2,ah2,ln2,x01,x02,xlo,el2⟩;have CT:=aS (Ey t2 Q.out.2.2.1 (.slice (some ⟨g2,0,none⟩) k cap2) ((t+1:Nat):Int));have ahA2:=QA.out.2.2.1.mx mx2;have rA:=ahA2.rowN (cap:=capA) t2.ms.cs;have rB:=ah2.rowN (cap:=cap2) t2.ms.cs;rw[QA.out.2.2.2]at rA;rw[ln2]at rB
      cases eg:qL y.1 ahead next with
      |none=>have hjj:=JJ.out;rw[eg]at hjj;cases hjj
      |some b=>
      have hjj:=JJ.out;rw[eg]at hjj
      have CS:=aS (Ri (lo:=lo) x02 xlo rA rB ahA2.len ah2.len (by rw[<-ahA2.len,QA.out.2.2.2,<-ah2.len,ln2]) (by rw[ln2];exact hn) (λi p q e1 e2=>by
       obtain⟨m9,h9⟩:=(QA.out.2.2.1.is i p q e1 e2).2
       exact⟨m9,h9.ext (Nat.le_refl _) x01 mx2.pre _ _ _⟩) (λi p q e1 e2=>el2 i p q e1 e2) eg t2.ms.cs)
      have Q2:=aS (And.intro t2 (And.intro mx2 (And.intro gb2 (And.intro ah2 ln2))));have JK:=aS hjj;clear t2 mx2 gb2 ah2 ln2 x01 x02 xlo el2 CR ahA2 rA rB eg hjj JJ;unfold CP at CT;go_wp2_with fail;refine CT.out.mono ?_;rintro e w3 ⟨⟨z3,rfl⟩,rfl⟩;clear CT;go_wp2_with fail;refine CS.out.mono ?_;rintro e w4 ⟨rfl,c4,g4⟩;have T4:=aS (And.intro (Q2.out.1.cs c4 g4) (Q2.out.2.2.1.tr (g4.mono λk e=>Q2.out.1.clo k e)));clear c4 g4 CS
      cases b with
      |true=>have hq:r= .inr (y.1,next):=(Option.some.inj JK.out).symm;subst hq;have Q9:=aS (show Zm C ad H ca nb k (.inr (y.1,next)) w (.returned (.slice (some ⟨g2,0,none⟩) k cap2)) w4 from⟨H2,ca2,d2,nv2,vs2,nk2,g2,cap2,rfl,T4.out.1,QA.out.1.trans Q2.out.2.1 QA.out.2.1.size,QA.out.2.1.tr T4.out.2,Q2.out.2.2.2.1,Q2.out.2.2.2.2⟩);go_wp2;go_ret;exact Q9.out
      |false=>
       have J2:=aS (show l9 P ns es nb (most-(t+1)) next y.1=some r from JK.out);have B4:=aS (show Yc C H ca nb k y.1 next w (.slice (some ⟨g2,0,none⟩) k cap2) w4 from⟨H2,ca2,d2,nv2,vs2,nk2,g2,cap2,rfl,T4.out.1,QA.out.1.trans Q2.out.2.1 QA.out.2.1.size,QA.out.2.1.tr T4.out.2,Q2.out.2.2.2.1,Q2.out.2.2.2.2⟩);go_wp2_with fail
       go_roundg (most-(t+1)+1)
       case measure=>omega
       case rel=>exact⟨t+1,next,y.1,by omega,by go_num,rfl,J2,B4⟩
    ·have hte:t=most:=by omega
     have hnle:¬((t+1:Nat):Int)<=(most:Int):=by omega
     have hjj:=HJ.out;rw[hte,Nat.sub_self,l9]at hjj;have hq:r= .inl 5:=(Option.some.inj hjj).symm;subst hq;have hg5:=glA.g5;have Q9:=aS gbA;clear tA mxA gbA ahA lnA glA hjj HJ HF;unfold eQ at hg5;go_wp2;exact⟨rfl,by unfold oF eQ;rfl,Q9.out⟩
def kq(P:Ex->List (aA×Et)->bM->Option (Sum Nat (bM×Nat)))(p:aA)(v b:Ex)(h:lQE)(x:bM):Option (Sum Nat (bM×Nat)):=
 oG (P v h x) λe w=>match mV e h with
  |none=>none
  |some L=>match cI e L 130 w with
   |none=>none
   |some t=>qK P b h [(p,t)] e
def uX(P:Ex->List (aA×Et)->bM->Option (Sum Nat (bM×Nat)))(x:lQE)(d:Nat)(e:Ex)(w:lQE)(h:bM):Option (Sum Nat (bM×Nat)):=
 if e.op=bK then(match e.names with|[nm]=>qJ (IQ x nm w h)|_=>none)
 else if e.op=dO then(match e.names,e.kids with|[p],[b]=>Dq P p b w h|_,_=>none)
 else if e.op=xA then(match e.kids with|[a,b,c]=>Wz P a b c w h|_=>none)
 else if e.op=iP then(match e.names,e.kids with|[p],[v,b]=>kq P p v b w h|_,_=>none)
 else if e.op=gV then(match e.kids.getLast? with|some b=>if e.names.length<=1000 then Eb P d e.names e.kids.dropLast b w h else none|none=>none)
 else if e.op=oO then(match e.kids with|[a,b]=>KE P a b w h|_=>none)
 else if e.op=eS then(match e.kids with|[a,b]=>ZP P a b w h|_=>none)
 else if e.op=dS then qJ (CH (some ⟨nD,[],0,[]⟩) h)
 else none
def j7(h:lQE)(w:Nat):Nat->Ex->List (aA×Et)->bM->Option (Sum Nat (bM×Nat))
 |0,_,_,_=>none
 |f+1,e,nb,x=>uT (uX (j7 h w f) h w e nb x)
theorem yg{C:TC}{a:aF}{H:aB}{c:aC}{g:lQE}{w:World}{b:Nat}{r:Sum Nat (bM×Nat)}(x:Calls prog 205 #[CP C.tb, .pointer (some ⟨b,0,none⟩)] w (zE C a H c r g w)):
  Calls prog 171 #[CP C.tb, .iface 194 (.pointer (some ⟨b,0,none⟩))] w (zE C a H c r g w):=by
 have h:=aS x;have l:=vA b;have m:=y7 b;clear x;unfold CP at*
 cases r with
 |inl q=>go_enter func171,ntmps171;go_wp2_with fail;refine h.mono ?_;rintro e k ⟨rfl,d⟩;have j:=aS d;clear d h;unfold oF eQ;go_wp2;exact⟨rfl,rfl,j.out⟩
 |inr y=>go_enter func171,ntmps171;go_wp2_with fail;refine h.mono ?_;rintro e k f;have i:=aS f;obtain⟨_,_,_,n,_,_,rfl,_⟩:=f;clear h;unfold CP at*;go_wp2;go_ret;exact i.out
theorem Ez{C:TC}{a:aF}{H:aB}{c:aC}{g:lQE}{w:World}{b:Nat}{r:Sum Nat (bM×Nat)}(x:Calls prog 206 #[CP C.tb, .pointer (some ⟨b,0,none⟩)] w (zE C a H c r g w)):
  Calls prog 171 #[CP C.tb, .iface 197 (.pointer (some ⟨b,0,none⟩))] w (zE C a H c r g w):=by
 have h:=aS x;have l:=tN b;have m:=wY b;have n:=zS b;clear x;unfold CP at*
 cases r with
 |inl q=>go_enter func171,ntmps171;go_wp2_with fail;refine h.mono ?_;rintro e k ⟨rfl,d⟩;have j:=aS d;clear d h;unfold oF eQ;go_wp2;exact⟨rfl,rfl,j.out⟩
 |inr y=>go_enter func171,ntmps171;go_wp2_with fail;refine h.mono ?_;rintro e k f;have i:=aS f;obtain⟨_,_,_,o,_,_,rfl,_⟩:=f;clear h;unfold CP at*;go_wp2;go_ret;exact i.out
theorem yh{C:TC}{a:aF}{H:aB}{c:aC}{g:lQE}{w:World}{b:Nat}{r:Sum Nat (bM×Nat)}(x:Calls prog 207 #[CP C.tb, .pointer (some ⟨b,0,none⟩)] w (zE C a H c r g w)):
  Calls prog 171 #[CP C.tb, .iface 200 (.pointer (some ⟨b,0,none⟩))] w (zE C a H c r g w):=by
 have h:=aS x;have l:=rZ b;have m:=tO b;have n:=wZ b;have o:=tQ b;clear x;unfold CP at*
 cases r with
 |inl q=>go_enter func171,ntmps171;go_wp2_with fail;refine h.mono ?_;rintro e k ⟨rfl,d⟩;have j:=aS d;clear d h;unfold oF eQ;go_wp2;exact⟨rfl,rfl,j.out⟩
 |inr y=>go_enter func171,ntmps171;go_wp2_with fail;refine h.mono ?_;rintro e k f;have i:=aS f;obtain⟨_,_,_,p,_,_,rfl,_⟩:=f;clear h;unfold CP at*;go_wp2;go_ret;exact i.out
theorem aq{C:TC}{a:aF}{H:aB}{c:aC}{g:lQE}{w:World}{b:Nat}{r:Sum Nat (bM×Nat)}(x:Calls prog 210 #[CP C.tb, .pointer (some ⟨b,0,none⟩)] w (zE C a H c r g w)):
  Calls prog 171 #[CP C.tb, .iface 211 (.pointer (some ⟨b,0,none⟩))] w (zE C a H c r g w):=by
 have h:=aS x;have l:=rR b;have m:=t8 b;have n:=vB b;have o:=tC b;have p:=oS b;have s:=tS b;clear x;unfold CP at*
 cases r with
 |inl q=>go_enter func171,ntmps171;go_wp2_with fail;refine h.mono ?_;rintro e k ⟨rfl,d⟩;have j:=aS d;clear d h;unfold oF eQ;go_wp2;exact⟨rfl,rfl,j.out⟩
 |inr y=>go_enter func171,ntmps171;go_wp2_with fail;refine h.mono ?_;rintro e k f;have i:=aS f;obtain⟨_,_,_,t,_,_,rfl,_⟩:=f;clear h;unfold CP at*;go_wp2;go_ret;exact i.out
theorem R9{C:TC}{a:aF}(k:ET C a P){e:Ex}{v:Value}{m g cap n:Nat}{i:bM}{x:lQE}{r:Sum Nat (bM×Nat)}{H:aB}{d:aI}{f:List NE}{w:World}(p:dI m H v e)(q:P e (x++grp) i=some r)(l:rP C.base a w)(h:kD C H ca i d x nv vs w)(b:ke H ca g f grp)(c:f.length=n)(j:0<n)(o:x.length+grp.length<=1000):
  Calls prog 208 #[CP C.tb,v, .slice (some ⟨g,0,none⟩) n cap] w (zE C a H ca r x w):=by
 have:=uU (capm:=cap) k p q l h b.len (by rw[c];exact j) o (b.cells h.ms.cs.fz) b.is;rw[c]at this;exact this
theorem kt{C:TC}{f:aF}(l:∀K,ET {C with keep:=K} f P){e:Ex}{u:Value}{b m E:Nat}{x:aD}{us:aH}{D:List Ex}{R:bM}{a:lQE}{H:aB}{d:aI}{w:World}{S T:bM}{A:Nat}
  (o:H b=some (.cells #[dep, .slice (some ⟨E,0,none⟩) x.length capB,u] 210 (0,0))) (G:Iv H E x us D m) (q:dI m2 H u e) (k:0<x.length) (hn:x.length<=1000) (L:C.most= .int .i64 (most:Int)) (h1:most<=1000) (I:C.each= .nilFunc) (M:l9 P x D a most (x.map λn=>(n,vT [97])) R=some (.inr (S,grp))) (J:a.length+grp.length<=1000) (N:P e (a++grp) S=some (.inr (T,A))) (h:kD C H ca R d a nv vs w) (p:rP C.base f w):
  Calls prog 171 #[CP C.tb, .iface 206 (.pointer (some ⟨b,0,none⟩))] w (zE C f H ca (.inr (T,A)) a w):=by
 obtain⟨T0,b0,rfl⟩:=q.val;have c:=h.ms.cs.fz _ _ o;have k1:=cU c 1 rfl;have k2:=cU c 2 rfl;have h2:=aT c;have U:=aS (WU (capB:=capB) l G k hn L h1 I M h.drew (p.gb (Gb.refl _ w).drew));have Q:=aS (aL o (aL q (aL k (aL p l))));have X:=aS J;have Y:=aS N;have a0:=lV b;have a1:=mO b;have a2:=nL b;have a3:=mP b;have a4:=kV b;clear G q o L I M h p l c k J N;unfold CP at*;go_enter func171,ntmps171;go_wp2_with fail
 go_region_with (first
  |(go_at_call 209;refine U.mono ?_;rintro e9 w2 ⟨V,Z,d2,h6,h7,nk,g,cap,rfl,t,r,j,z,O⟩;have i:=t.ms.cs.fz _ _ (r.ext _ _ Q.1);have h5:=cU i 2 rfl;have h4:=aT i;have s:MX H V ca Z w:=r.low (aV _);have v:=aS (R9 (C:=C) (cap:=cap) (Q.2.2.2.2 C.keep) (s.prep Q.2.1) Y.out (Q.2.2.2.1.gb j.drewL) t z O Q.2.2.1 X.out);have y:=aS (aL s j.drewL);clear i t r j z O s;unfold CP at v)
  |(go_at_call 208;refine v.mono ?_;rintro e9 w3 F;have W:=aS (zE.low (H:=H) (ca:=ca) (w:=w) F y.1 y.2);obtain⟨_,_,_,x9,_,_,rfl,_⟩:=F;unfold CP at*))
 all_goals go_wp2
 all_goals go_ret
 all_goals exact W.out
theorem ld{C:TC}{c:aF}(g:∀K,ET {C with keep:=K} c P){e:Ex}{u:Value}{b m r:Nat}{x:aD}{G:aH}{o:List Ex}{z:bM}{l:lQE}{H:aB}{d:aI}{w:World}{q:Nat}
  (i:H b=some (.cells #[dep, .slice (some ⟨r,0,none⟩) x.length capB,u] 210 (0,0))) (s:Iv H r x G o m) (k:dI m2 H u e) (f:0<x.length) (F:x.length<=1000) (v:C.most= .int .i64 (most:Int)) (E:most<=1000) (t:C.each= .nilFunc) (y:l9 P x o l most (x.map λn=>(n,vT [97])) z=some (.inl q)) (h:kD C H ca z d l nv vs w) (j:rP C.base c w):
  Calls prog 171 #[CP C.tb, .iface 206 (.pointer (some ⟨b,0,none⟩))] w (zE C c H ca (.inl q) l w):=by
 obtain⟨L,T,rfl⟩:=k.val;have a:=h.ms.cs.fz _ _ i;have W:=cU a 1 rfl;have X:=cU a 2 rfl;have V:=aT a;have A:=aS (WU (capB:=capB) g s f F v E t y h.drew (j.gb (Gb.refl _ w).drew));have Q:=aS (aL i (aL k (aL f (aL j g))));have I:=aS True.intro;have J:=aS True.intro;have M:=lV b;have N:=mO b;have O:=nL b;have R:=mP b;have S:=kV b;clear s k i v t y h j g a f;unfold CP at*;go_enter func171,ntmps171;go_wp2_with fail
 go_region_with (go_at_call 209;refine A.mono ?_;rintro U Y ⟨rfl,p⟩;have D:=aS p.drewL;clear p;unfold oF eQ;refine B7 w ⟨rfl,rfl,D.out⟩ ?_)
 all_goals trivial
theorem lf{C:TC}{f:aF}(l:∀K,ET {C with keep:=K} f P){e:Ex}{u:Value}{b m E:Nat}{x:aD}{us:aH}{A:List Ex}{O:bM}{a:lQE}{H:aB}{d:aI}{w:World}{q:Nat}{R:bM}
  (o:H b=some (.cells #[dep, .slice (some ⟨E,0,none⟩) x.length capB,u] 210 (0,0))) (F:Iv H E x us A m) (r:dI m2 H u e) (k:0<x.length) (hn:x.length<=1000) (J:C.most= .int .i64 (most:Int)) (h1:most<=1000) (G:C.each= .nilFunc) (L:l9 P x A a most (x.map λn=>(n,vT [97])) O=some (.inr (R,grp))) (I:a.length+grp.length<=1000) (M:P e (a++grp) R=some (.inl q)) (h:kD C H ca O d a nv vs w) (p:rP C.base f w):
  Calls prog 171 #[CP C.tb, .iface 206 (.pointer (some ⟨b,0,none⟩))] w (zE C f H ca (.inl q) a w):=by
 obtain⟨T0,b0,rfl⟩:=r.val;have c:=h.ms.cs.fz _ _ o;have k1:=cU c 1 rfl;have k2:=cU c 2 rfl;have h2:=aT c;have S:=aS (WU (capB:=capB) l F k hn J h1 G L h.drew (p.gb (Gb.refl _ w).drew));have Q:=aS (aL o (aL r (aL k (aL p l))));have U:=aS I;have V:=aS M;have a0:=lV b;have a1:=mO b;have a2:=nL b;have a3:=mP b;have a4:=kV b;clear F r o J G L h p l c k I M;unfold CP at*;go_enter func171,ntmps171;go_wp2_with fail
 go_region_with (first
  |(go_at_call 209;refine S.mono ?_;rintro Z w2 ⟨T,Y,d2,h5,h6,nk,g,cap,rfl,v,s,j,z,N⟩;have i:=v.ms.cs.fz _ _ (s.ext _ _ Q.1);have h4:=cU i 2 rfl;have h3:=aT i;have t:MX H T ca Y w:=s.low (aV _);have y:=aS (R9 (C:=C) (cap:=cap) (Q.2.2.2.2 C.keep) (t.prep Q.2.1) V.out (Q.2.2.2.1.gb j.drewL) v z N Q.2.2.1 U.out);have X:=aS (aL t j.drewL);clear i v s j z N t;unfold CP at y)
  |(go_at_call 208;refine y.mono ?_;rintro Z w3 ⟨rfl,D⟩;have W:=aS (X.2.tr D);clear D;unfold oF eQ;refine B7 w ⟨rfl,rfl,W.out⟩ ?_))
 all_goals trivial
theorem kF{r:Option (Sum Nat (bM×Nat))}{k:bM->Nat->Option (Sum Nat (bM×Nat))}{z:Sum Nat (bM×Nat)}(h:oG r k=some z):(∃q,r=some (.inl q)/\z= .inl q)\/∃e c,r=some (.inr (e,c))/\k e c=some z:=by
 match r,h with
 |none,h=>cases h
 |some (.inl q),h=>exact aQ ⟨q,rfl,(aY h).symm⟩
 |some (.inr (e,c)),h=>exact aM ⟨e,c,rfl,h⟩
theorem jT{r:Option (bM×Nat)}{z:Sum Nat (bM×Nat)}(h:qJ r=some z):∃e c,r=some (e,c)/\z= .inr (e,c):=by
 match r,h with
 |none,h=>cases h
 |some (e,c),h=>exact⟨e,c,rfl,(aY h).symm⟩
theorem J3{a b:Nat}{w:bM}{k:bM->Option (Sum Nat (bM×Nat))}{z:Sum Nat (bM×Nat)}(h:zf a b w k=some z):(jK a b w=some none/\z= .inl 3)\/∃x,jK a b w=some (some x)/\k x=some z:=by
 unfold zf at h
 cases e:jK a b w with
 |none=>rw[e]at h;cases h
 |some o=>
  rw[e]at h
  cases o with
  |none=>exact aQ ⟨rfl,(aY h).symm⟩
  |some x=>exact aM ⟨x,rfl,h⟩
theorem jU{b:Ex}{e w:lQE}{x:bM}{z:Sum Nat (bM×Nat)}(h:qK P b e w x=some z):e.length+w.length<=1000/\P b (e++w) x=some z:=by
 unfold qK at h;split at h
 ·rename_i a;exact⟨a,h⟩
 ·cases h
theorem Rr{m:Nat}{H:aB}{e:Ex}{u v x:Value}(a:e.kids.length=3)(w:∀(i:Nat) (y:Ex) (z:Value),[u,v,x][i]? =some z->e.kids[i]? =some y->dI m H z y):∃y z t,e.kids=[y,z,t]/\dI m H u y/\dI m H v z/\dI m H x t:=by
 match h:e.kids,a with
 |[y,z,t],_=>exact⟨y,z,t,rfl,w 0 y u rfl (by rw[h];rfl),w 1 z v rfl (by rw[h];rfl),w 2 t x rfl (by rw[h];rfl)⟩
theorem Lm{C:TC}{Y:aF}{W:Nat}{P:Ex->List (aA×Et)->bM->Option (Sum Nat (bM×Nat))}(V:∀K,ET {C with keep:=K} Y P)(hm:C.most= .int .i64 (W:Int))(h7:W<=1000)(hE:C.each= .nilFunc)(e:Ex):Zh C Y (λe X σ=>uX P C.ge W e X σ) e:=by
 intro v m σ X r H ca d nv vs w S a h o;simp only[]at a;have D:ET C Y P:=V C.keep
 cases m with
 |zero=>exact absurd S id
 |succ m=>
 obtain⟨b,us,rfl,hn,hl,N⟩:=S;unfold uX at a;rcases hn with⟨j,t,F,G,h3,g⟩|⟨j,t,F,G,h3,g⟩|⟨j,t,u,F,G,rfl,g⟩|⟨j,u,v,y,F,rfl,g⟩|⟨j,t,u,v,F,G,rfl,g⟩|⟨j,w1,u,gv,F,G,h3,rfl,h5,h6⟩|⟨j,u,v,F,rfl,g⟩|⟨j,u,v,F,rfl,g⟩
 ·rw[aR j,F]at a;rw[j];obtain⟨w2,c,f,rfl⟩:=jT a;exact xh g f h
 ·rw[j,aN (by decide),aN (by decide),aN (by decide),aN (by decide),aN (by decide),aN (by decide),aN (by decide),aR rfl]at a;rw[j];obtain⟨w2,c,f,rfl⟩:=jT a;exact Dg f h
 ·obtain⟨y,J,S⟩:=Ol G N;rw[j,aN (by decide),aR rfl,F,J]at a;rw[j];simp only[]at a;unfold Dq at a;refine yg ?_;rcases kF a with⟨q,f,rfl⟩|⟨R,c0,f,a⟩
  ·obtain⟨_,_,_,k⟩:=jT f;cases k
  obtain⟨_,_,p,k⟩:=jT f;cases k;rcases kF a with⟨q,I,rfl⟩|⟨e0,c2,I,a⟩
  ·obtain⟨l,s⟩:=jU I;exact Rp D g S p l s h o
  ·obtain⟨l,s⟩:=jU I;obtain⟨e3,c3,M,rfl⟩:=jT a;exact Ro D g S p l s M h o
 ·obtain⟨y1,y2,y3,J,A,E,Q⟩:=Rr F N;rw[j,aN (by decide),aN (by decide),aR rfl,J]at a;rw[j];simp only[]at a;unfold Wz at a;refine Ez ?_;rcases kF a with⟨q,f,rfl⟩|⟨R,T,f,a⟩
  ·exact xm D g A E Q f h o
  rcases kF a with⟨q,p,rfl⟩|⟨e0,c2,p,a⟩
  ·obtain⟨_,_,_,k⟩:=jT p;cases k
  obtain⟨_,_,k,I⟩:=jT p;cases I;rcases J3 a with⟨l,rfl⟩|⟨e3,l,a⟩
  ·exact xn D g A E Q f k l h o
  rcases kF a with⟨q,s,rfl⟩|⟨w3,c4,s,a⟩
  ·exact xo D g A E Q f k l s h o
  rcases kF a with⟨q,M,rfl⟩|⟨w4,c5,M,a⟩
  ·exact xp D g A E Q f k l s M h o
  rcases J3 a with⟨O,rfl⟩|⟨w6,O,a⟩
  ·exact xq D g A E Q f k l s M O h o
  ·cases a;exact xl D g A E Q f k l s M O h o
 ·obtain⟨y1,y2,J,A,E⟩:=KD G N;rw[j,aN (by decide),aN (by decide),aN (by decide),aR rfl,F,J]at a;rw[j];simp only[]at a;unfold kq at a;refine yh ?_;rcases kF a with⟨q,f,rfl⟩|⟨R,T,f,a⟩
  ·exact Rk D g A f h o
  cases p:mV R X with
  |none=>rw[p]at a;cases a
  |some L=>
  rw[p]at a;simp only[]at a
  cases k:cI R L 130 T with
  |none=>rw[k]at a;cases a
  |some t9=>
  rw[k]at a;obtain⟨l,s⟩:=jU a
  cases r with
  |inl q=>exact Rm D g A E f p k l s h o
  |inr y=>exact Rl D g A E f p k l s h o
 ·rw[j,aN (by decide),aN (by decide),aN (by decide),aN (by decide),aR rfl]at a;rw[j];obtain⟨gB,w5,e6,rfl,e7,e8⟩:=h5;have e5:e.kids.length=e.names.length+1:=h3;have e9:e.kids.dropLast.length=e.names.length:=by rw[List.length_dropLast,e5];rfl
  obtain⟨Z,e4⟩:∃x,e.kids[e.names.length]? =some x:=⟨_,aP (by omega)⟩;have w0:e.kids.getLast? =some Z:=by rw[List.getLast?_eq_getElem?,e5];exact e4
  rw[w0]at a;simp only[]at a;split at a
  case isFalse=>cases a
  rename_i h8;have h9:dI m H u Z:=N e.names.length Z u (by rw[cD (by omega),G,Nat.sub_self];rfl) e4
  have gr:Iv H gB e.names w1 e.kids.dropLast m:=⟨⟨e6,e7,e8⟩,G,e9,λi x y e1 U=>by
   have hi:i<e.names.length:=by rw[<-G];exact(aU.1 e1).1
   refine N i y x (by rw[bJ (by rw[G];exact hi)];exact e1) ?_;rw[List.getElem?_dropLast]at U;split at U
   ·exact U
   ·cases U⟩
  unfold Eb at a
  cases f:l9 P e.names e.kids.dropLast X W (e.names.map λn=>(n,vT [97])) σ with
  |none=>rw[f]at a;cases a
  |some rg=>
  rw[f]at a
  cases rg with
  |inl q=>cases a;exact ld V h6 gr h9 F h8 hm h7 hE f h o
  |inr y=>
   obtain⟨l,s⟩:=jU a
   cases r with
   |inl q=>exact lf V h6 gr h9 F h8 hm h7 hE f l s h o
   |inr z=>exact kt V h6 gr h9 F h8 hm h7 hE f l s h o
 ·obtain⟨y1,y2,J,A,E⟩:=KD F N;rw[j,aN (by decide),aN (by decide),aN (by decide),aN (by decide),aN (by decide),aR rfl,J]at a;rw[j];simp only[]at a;unfold KE at a;refine aq ?_;rcases kF a with⟨q,f,rfl⟩|⟨R,T,f,a⟩
  ·exact Eh D g A E f h o
  rcases kF a with⟨q,p,rfl⟩|⟨e0,c2,p,a⟩
  ·exact Ei D g A E f p h o
  rcases kF a with⟨q,k,rfl⟩|⟨e3,c3,k,a⟩
  ·obtain⟨_,_,_,I⟩:=jT k;cases I
  obtain⟨_,_,I,l⟩:=jT k;cases l;rcases kF a with⟨q,l,rfl⟩|⟨w3,c4,l,a⟩
  ·obtain⟨_,_,_,s⟩:=jT l;cases s
  obtain⟨_,_,s,M⟩:=jT l;cases M;rcases J3 a with⟨O,rfl⟩|⟨w4,O,a⟩
  ·exact Ej D g A E f p I s O h o
  ·cases a;exact Eg D g A E f p I s O h o
 ·obtain⟨y1,y2,J,A,E⟩:=KD F N;rw[j,aN (by decide),aN (by decide),aN (by decide),aN (by decide),aN (by decide),aN (by decide),aR rfl,J]at a;rw[j];simp only[]at a;unfold ZP at a;rcases kF a with⟨q,f,rfl⟩|⟨R,T,f,a⟩
  ·exact af D g A E f h o
  rcases kF a with⟨q,p,rfl⟩|⟨e0,c2,p,a⟩
  ·exact ai D g A E f p h o
  obtain⟨e3,c3,k,rfl⟩:=jT a;exact ae D g A E f p k h o
theorem RE{x:aF}{h:Nat}(w:h<=1000):∀(f:Nat) (C:TC),C.most= .int .i64 (h:Int)->C.each= .nilFunc->ET C x (j7 C.ge h f)
 |0,_,_,_=>λ_ _ _ _ _ _ _ _ _ _ _ _ _ a _ _=>by cases a
 |f+1,C,hm,hE=>Qy (λe=>Lm (λK=>RE w f {C with keep:=K} hm hE) hm w hE e)
theorem rP.up{b:Nat}{c:aF}{w a:World}(h:rP b c w)(g:w.grownBy a none):rP a.heap.size c a:=by
 have l:=h.lo;have d:=h.le;have f:=h.lo2;have e:Gb (λ_=>False) w a:=Gb.new g;have j:=g.size;have x:∀k,k<10+1->k<w.heap.size:=λk i=>by omega
 exact⟨e.cell h.g3 (x _ (by decide)) id,e.cell h.g4 (x _ (by decide)) id,e.cell h.g5 (x _ (by decide)) id,e.cell h.g6 (x _ (by decide)) id,by omega,aV _,IV h.tab (e.block _ (aZ f d) id),by omega⟩
theorem WV(v:Value)(w:World):(Instr.typeAssert (.iface 257 v) 20 257 true).run prog w= .ok (.tuple #[v, .bool true]) w:=by kernel_rfl
theorem au(q:Nat)(a:Addr)(g:Value)(w:World)(b:w.cell? ⟨q,0,none⟩=some g)(c:w.frozen? ⟨q,0,none⟩=false)(p:q<w.heap.size):
  CallsD prog 126 #[.pointer (some ⟨q,0,none⟩)] (.panicking [{v:= .iface 257 (.agg #[eQ a]),recovered:=false}]) w λe f i=>
   e= .returned (.tuple #[])/\f= .panicking [{v:= .iface 257 (.agg #[eQ a]),recovered:=true}]/\i=(w.setCell ⟨q,0,none⟩ (eQ a)).alloc (.cells #[eQ a] 257):=by
 have j:=λx=>dP b x;have m:=λx=>sK b c x;have n:q≠w.heap.size:=by omega
 have o:w.heap.size≠q:=by omega
 refine xW func126 rfl λl k d=> ?_;have h:(#[Value.pointer (some ⟨q,0,none⟩)]++Array.replicate (Tryz.f126.ntmps-(#[Value.pointer (some ⟨q,0,none⟩)]:Array Value).size) undef)= #[Value.pointer (some ⟨q,0,none⟩),undef,undef,undef,undef,undef,undef,undef,undef,undef,undef,undef]:=rfl;rw[h];clear h;apply wpS_seq;apply MV;simp[wpOpsS,go_sem,recoverD,d,Exit.thenS];refine V8 ?_;have r:=WV;unfold eQ;go_wp2;refine⟨rfl,_,rfl, .tuple #[], ?_,rfl,rfl,rfl⟩;simp[results,results126]
theorem Ve{ad:aF}{H:aB}{e:Ex}{v:Value}{m q f P:Nat}{σ:bM}{c:Nat}{t:Et}{w:World}(Y:dI m H v e)(hz:Fz H w)(h6:GE H [] w q ge)(e0:most<=1000)(h7:rP w.heap.size ad w)(hr:j7 ge most f e [] ⟨[],[]⟩=some (.inr (σ,c)))(hg:cI σ [] P c=some t)(hn:Om P t=true):
  Calls prog 93 #[v, .map (some q), .agg #[.int .i64 (most:Int), .nilFunc]] w λe w'=>w.grownBy w' none/\∃u H',e= .returned (.tuple #[.agg #[u], .nilIface])/\ER H' [] u t/\Fz H' w':=by
 have e3:∀(fn:Fn) (first h2:Array Value) (w:World),(Instr.makeFunc fn first h2).run prog w= .ok (.func fn first h2) w:=λ_ _ _ _=>rfl;obtain⟨T0,b0,rfl⟩:=Y.val;have Q:=aS (aL Y (aL hz (aL h6 (aL hr (aL hg (aL hn (aL e0 h7)))))));clear Y hz h6 hr hg hn e0 h7
 go_enter_defers func93,ntmps93
 go_wp2_with fail;generalize y:(((w.alloc (.cells #[.int .i64 (most:Int), .nilFunc] 178)).alloc (.cells #[.nilIface] 174)).alloc (.cells #[.nilIface] 72))=x;have s3:x.heap.size=w.heap.size+1+1+1:=by rw[<-y];simp
 have j:w.grownBy x none:=by rw[<-y];exact(aO _ _ _).trans ((aO _ _ _).trans (aO _ _ _))
 have n1:x.heap[w.heap.size+1]? =some (.cells #[.nilIface] 174 (0,0)):=by rw[<-y,bQ _ _ _ (by simp)];exact dC _ _ _ (by simp)
 have n2:x.heap[w.heap.size+1+1]? =some (.cells #[.nilIface] 72 (0,0)):=by rw[<-y];exact dC _ _ _ (by simp)
 clear y;rw[<-s3];have z3:Fz H x:=Q.2.1.grown j;have t0:=kD.start (fuel:=(most:Int)) (each:= .nilFunc) z3 (Q.2.2.1.step (R:=λ_=>False) (MX.refl _ _ w) (Gb.new j) id);have T:rP x.heap.size ad (x.alloc (.cells #[.int .i64 0, .int .i64 (most:Int), .nilFunc, .map (some q), .slice none 0 0] 263)):=rP.gb (C:=⟨x.heap.size, .int .i64 (most:Int), .nilFunc,q,x.heap.size,ge,[]⟩) (Q.2.2.2.2.2.2.2.up j) (Gb.new (aO _ _ _));have K:=aS (RE Q.2.2.2.2.2.2.1 f ⟨x.heap.size, .int .i64 (most:Int), .nilFunc,q,x.heap.size,ge,[]⟩ rfl rfl e _ m ⟨[],[]⟩ [] (.inr (σ,c)) H [] (λ_=>0) _ _ _ Q.1 Q.2.2.2.1 t0 T);have G3:=aS T;clear t0 T;unfold CP at K;refine K.mono ?_;rintro e I ⟨H4,h0,d4,x4,e6,e7,rfl,h3,z,e1,b⟩
 have S:w.grownBy I none:=⟨b.os.trans j.os,b.tape.trans j.tape,b.output.trans j.output,by have:=b.size;simp at this;omega,λk n _=>by
  rw[b.block k (by simp;omega) (λe=>by have:=e.1;simp at this;omega),bQ _ _ _ (by omega),j.block k n (by simp)]⟩
 have d:I.heap[w.heap.size+1]? =some (.cells #[.nilIface] 174 (0,0)):=by rw[b.block _ (by simp;omega) (λe=>by have:=e.1;simp at this;omega),bQ _ _ _ (by omega)];exact n1
 have i:I.heap[w.heap.size+1+1]? =some (.cells #[.nilIface] 72 (0,0)):=by rw[b.block _ (by simp;omega) (λe=>by have:=e.1;simp at this;omega),bQ _ _ _ (by omega)];exact n2
 have W:∀k,k<x.heap.size->H k=none->H4 k=none:=λk n h=>e1.none (by simp;omega) h;have V:H (w.heap.size+1)=none/\H (w.heap.size+1+1)=none:=⟨Q.2.1.none (by omega),Q.2.1.none (by omega)⟩;have h4:=W _ (by omega) V.1;have h5:=W _ (by omega) V.2;have h8:∀k,dT h0 k->x.heap.size<=k:=λk n=>(z.clo k n).1;have HG:=aS (CX (lo:=0) (bv:= .map none) h3 Q.2.2.2.2.1 z.ms.cs ⟨aQ ⟨rfl,rfl⟩,(rP.gb (C:=⟨x.heap.size, .int .i64 (most:Int), .nilFunc,q,x.heap.size,ge,[]⟩) G3.out b).tabW z.clo,dG _⟩);have a:=aS (aL S (aL d (aL i (aL h4 (aL h5 h8)))));have e4:=S.size;have e5:=z.bs;clear h3 z e1 b S d i K n1 n2 j z3 W V h4 h5 h8;unfold CP at*;go_wp2_with fail;refine HG.mono ?_;rintro e p ⟨l,_,u,r,rfl,J,x5,y5,s⟩;have D:∀k,k<x.heap.size->¬dT h0 k:=λk n hm=>by have:=a.2.2.2.2.2 k hm;omega
 have d:p.heap[w.heap.size+1]? =some (.cells #[.nilIface] 174 (0,0)):=l.at a.2.1 (D _ (by omega));have i:p.heap[w.heap.size+1+1]? =some (.cells #[.nilIface] 72 (0,0)):=l.at a.2.2.1 (D _ (by omega))
 have gB:w.grownBy p none:=⟨l.os.trans a.1.os,l.tape.trans a.1.tape,l.output.trans a.1.output,by have:=l.size;omega,λk n _=>by
  rw[l.block k (by omega) (D k (by omega)),a.1.block k n (by simp)]⟩
 have X:∀k,k<I.heap.size->H4 k=none->r k=none:=λk n h=>by
  cases h9:r k with
  |none=>rfl
  |some o=>
   rcases y5 _ o h9 with U|U
   ·rw[h]at U;cases U
   ·omega
 have F:=X _ (aT a.2.1) a.2.2.2.1;have G:=X _ (aT a.2.2.1) a.2.2.2.2.1;obtain⟨L,N,_,rfl⟩:=oE s;obtain⟨m5,s⟩:=s;have A:ER r [] (.iface L (.pointer (some ⟨N,0,none⟩))) t:=⟨m5,UB P m5 _ t Q.2.2.2.2.2.1 s⟩;have a0:p.cell? ⟨w.heap.size+1,0,none⟩=some .nilIface:=cU d 0 rfl;have a1:p.cell? ⟨w.heap.size+1+1,0,none⟩=some .nilIface:=cU i 0 rfl;have u0:p.frozen? ⟨w.heap.size+1,0,none⟩=false:=ou d 0;have u1:p.frozen? ⟨w.heap.size+1+1,0,none⟩=false:=ou i 0;have M:=aS (aL gB (aL d (aL i (aL J (aL A (aL F G))))));clear l J x5 y5 s A d i gB D X F G HG a;go_wp2;refine tI (f:=126) (args:= #[.pointer (some ⟨w.heap.size+1+1,0,none⟩)]) (by simp) (by simp[go_sem]) ?_;refine(Ki ⟨w.heap.size+1+1,0,none⟩ _).mono ?_;rintro e u' Z ⟨rfl,rfl,E⟩;obtain⟨g,d,i,J,A,F,G⟩:=M.out
 have q1:Z.heap[w.heap.size+1]? =some (.cells #[.iface L (.pointer (some ⟨N,0,none⟩))] 174 (0,0)):=by rw[E,bO _ _ _ _ (by show w.heap.size+1≠w.heap.size+1+1;omega)];exact ox d _
 have q2:Z.heap[w.heap.size+1+1]? =some (.cells #[.nilIface] 72 (0,0)):=by rw[E];exact ox (by rw[bO _ _ _ _ (by show w.heap.size+1+1≠w.heap.size+1;omega)];exact i) _
 have q3:Fz r Z:=λk o e=>by rw[E,bO _ _ _ _ (show k≠w.heap.size+1+1 fromλO=>by rw[O,G]at e;cases e),bO _ _ _ _ (show k≠w.heap.size+1 fromλO=>by rw[O,F]at e;cases e)];exact J k o e
 have r1:=cU q1 0 rfl;have r2:=cU q2 0 rfl;refine⟨.tuple #[.agg #[.iface L (.pointer (some ⟨N,0,none⟩))], .nilIface], ?_, ?_,_,r,rfl,A,q3⟩
 ·simp[results,results93,go_sem,r1,r2]
 ·rw[E];exact YQ (YQ g (by omega) 0 _) (by omega) 0 _
theorem Vf{ad:aF}{H:aB}{e:Ex}{v:Value}{m i f:Nat}{q:Nat}{w:World}(p:dI m H v e)(F:Fz H w)(z:GE H [] w i ge)(D:most<=1000)(A:rP w.heap.size ad w)(E:j7 ge most f e [] ⟨[],[]⟩=some (.inl q)):
  Calls prog 93 #[v, .map (some i), .agg #[.int .i64 (most:Int), .nilFunc]] w λe L=>w.grownBy L none/\e= .returned (.tuple #[.agg #[.nilIface],eQ (ad q)])/\Fz H L:=by
 have Z:∀(u:Fn) (first t:Array Value) (w:World),(Instr.makeFunc u first t).run prog w= .ok (.func u first t) w:=λ_ _ _ _=>rfl;obtain⟨X,Y,rfl⟩:=p.val;have Q:=aS (aL p (aL F (aL z (aL E (aL D A)))));clear p F z E D A
 go_enter_defers func93,ntmps93
 go_wp2_with fail;generalize d:(((w.alloc (.cells #[.int .i64 (most:Int), .nilFunc] 178)).alloc (.cells #[.nilIface] 174)).alloc (.cells #[.nilIface] 72))=h;have W:h.heap.size=w.heap.size+1+1+1:=by rw[<-d];simp
 have x:w.grownBy h none:=by rw[<-d];exact(aO _ _ _).trans ((aO _ _ _).trans (aO _ _ _))
 have G:h.heap[w.heap.size+1]? =some (.cells #[.nilIface] 174 (0,0)):=by rw[<-d,bQ _ _ _ (by simp)];exact dC _ _ _ (by simp)
 have I:h.heap[w.heap.size+1+1]? =some (.cells #[.nilIface] 72 (0,0)):=by rw[<-d];exact dC _ _ _ (by simp)
 clear d;rw[<-W];have M:Fz H h:=Q.2.1.grown x;have J:=kD.start (fuel:=(most:Int)) (each:= .nilFunc) M (Q.2.2.1.step (R:=λ_=>False) (MX.refl _ _ w) (Gb.new x) id);have o:rP h.heap.size ad (h.alloc (.cells #[.int .i64 0, .int .i64 (most:Int), .nilFunc, .map (some i), .slice none 0 0] 263)):=rP.gb (C:=⟨h.heap.size, .int .i64 (most:Int), .nilFunc,i,h.heap.size,ge,[]⟩) (Q.2.2.2.2.2.up x) (Gb.new (aO _ _ _));have l:=aS (RE Q.2.2.2.2.1 f ⟨h.heap.size, .int .i64 (most:Int), .nilFunc,i,h.heap.size,ge,[]⟩ rfl rfl e _ m ⟨[],[]⟩ [] (.inl q) H [] (λ_=>0) _ _ _ Q.1 Q.2.2.2.1 J o);have N:=aS o;clear J o;unfold CP at l;refine l.mono ?_;rintro e c ⟨rfl,a⟩
 have j:w.grownBy c none:=⟨a.os.trans x.os,a.tape.trans x.tape,a.output.trans x.output,by have:=a.size;simp at this;omega,λk P _=>by
  rw[a.block k (by simp;omega) (λe=>by have:=e.1;simp at this;omega),bQ _ _ _ (by omega),x.block k P (by simp)]⟩
 have g:c.heap[w.heap.size+1]? =some (.cells #[.nilIface] 174 (0,0)):=by rw[a.block _ (by simp;omega) (λe=>by have:=e.1;simp at this;omega),bQ _ _ _ (by omega)];exact G
 have b:c.heap[w.heap.size+1+1]? =some (.cells #[.nilIface] 72 (0,0)):=by rw[a.block _ (by simp;omega) (λe=>by have:=e.1;simp at this;omega),bQ _ _ _ (by omega)];exact I
 have K:=aS (aL j (aL g b));clear a j g b G I x M l N;unfold oF;go_wp2;obtain⟨j,g,b⟩:=K.out;refine tI (f:=126) (args:= #[.pointer (some ⟨w.heap.size+1+1,0,none⟩)]) (by simp) (by simp[go_sem]) ?_;refine(au (w.heap.size+1+1) (ad q) .nilIface c (cU b 0 rfl) (ou b 0) (aT b)).mono ?_;rintro e u' s ⟨rfl,rfl,r⟩
 have y:w.grownBy s none:=by rw[r];have O:=YQ j (n:=w.heap.size+1+1) (by omega) 0 (eQ (ad q));exact O.trans (aO _ (.cells #[eQ (ad q)] 257) none)
 have S:s.heap[w.heap.size+1]? =some (.cells #[.nilIface] 174 (0,0)):=by rw[r];show((c.setCell ⟨w.heap.size+1+1,0,none⟩ (eQ (ad q))).alloc _).heap[w.heap.size+1]? =_;rw[bQ _ _ _ (by have:=aT g;simp;omega),bO _ _ _ _ (by show w.heap.size+1≠w.heap.size+1+1;omega)];exact g
 have T:s.heap[w.heap.size+1+1]? =some (.cells #[eQ (ad q)] 72 (0,0)):=by rw[r];show((c.setCell ⟨w.heap.size+1+1,0,none⟩ (eQ (ad q))).alloc _).heap[w.heap.size+1+1]? =_;rw[bQ _ _ _ (by have:=aT b;simp;omega)];exact ox b _
 have U:=cU S 0 rfl;have V:=cU T 0 rfl;refine⟨.tuple #[.agg #[.nilIface],eQ (ad q)], ?_,y,rfl,Q.2.1.grown y⟩;simp[results,results93,go_sem,U,V]
theorem Fa{s:aA}{σ:bM}{c:Nat}{t:Et}{s':Ds}{x:Ex}(hs:s.length<=300)(hx:JC s=some x){g:aK}(U:∀H j,ZZ H j ge (pQ ge 60))(h0:pQ ge 60 x []=some none)(p1:j7 ge most 60 x [] ⟨[],[]⟩=some (.inr (σ,c)))(p2:cI σ [] 130 c=some t)(p3:Om 130 t=true)(p4:fS ⟨[],[]⟩ 1 130 t (ze [])=some s')(h2:1<=most)(h3:most<=12){j:Nat}{w:World}(F:FM w j na g)(X:na.Nodup)(V:∀v,v<na.length->(g.getD v none).isSome=true)(Y:g.length=na.length)(T:na.length<=1000)(I:aj na g ge)
  (Z:∀W,(Instr.makeMap 169 (some (.int .i64 ((g.filter Option.isSome).length:Nat)))).run prog W= .ok (.map (some W.heap.size)) (W.alloc (.map #[] 0))) (ad:aF) (l:aE) (z:aG) (S:SW w ad l z) (h1:LW w):
  Calls prog 61 #[.string (B s), .map (some j), .int .i64 (most:Int), .nilFunc] w λe w'=>w.grownBy w' none/\e= .returned (.tuple #[.string (B s'.out), .nilIface]):=by
 have h4:(1:Int)<=(most:Int):=by omega
 have h5:(most:Int)<=12:=by omega
 have L:=aS (aL (rP.of S h1) U);have M:=aS (km hs hx w ad l z S);have N:=aS (λ(W:World) (Q:w.grownBy W none)=>EW na g ge W j (F.kept Q (by simp)) X V Y T I (Z W) ad l z (S.grown Q));have f:=aS (aL h0 (aL p1 (aL p2 (aL p3 p4))));clear S hx F X V Y T I Z h1 U h0 p1 p2 p3 p4;go_enter func61,ntmps61;go_wp2_with fail;refine M.mono ?_;rintro e w1 ⟨O,v,H1,m,rfl,z1,q⟩;have d:=aS (aL O (aL z1 q));obtain⟨T0,b0,rfl⟩:=q.val;clear O z1 q M;go_wp2_with fail;refine(N.out _ d.1).mono ?_;rintro e w2 ⟨o,b2,H2,rfl,C,R⟩;have A:=d.2.1.grown o;have D:=WS A C;have r:dI m (zi H1 H2) (.iface T0 (.pointer (some ⟨b0,0,none⟩))) x:=dI.ext (m:=0) ⟨qf,λk hk=>by omega⟩ m _ _ d.2.2;have p:=R.ext (qg A C);have CK:=aS (F4 (L.2 _ _) r f.1 (λy h=>by cases h) D p);have a:=aS (aL (d.1.trans o) (aL D (aL r p)));clear o C R A D r p N d;go_wp2_with fail;refine CK.mono ?_;rintro e w3 ⟨i,rfl⟩;have E:=aS (Ve (most:=most) (ad:=ad) a.2.2.1 (a.2.1.grown i) (a.2.2.2.grown i).ge (by omega) (L.1.up (a.1.trans i)) f.2.1 f.2.2.1 f.2.2.2.1);have J:=aS (a.1.trans i);clear i a CK;go_wp2_with fail;refine E.mono ?_;rintro e w4 ⟨P,u,H4,rfl,n,z4⟩;have b:w4.grownBy (w4.alloc (.cells #[u] 174)) none:=aO _ _ _;have G:=aS (oy n f.2.2.2.2 (z4.grown b));have K:=aS ((J.trans P).trans b);obtain⟨T4,b4,_,rfl⟩:=oE n;clear P b n z4 J E;go_wp2_with fail;refine G.mono ?_;rintro e w5 ⟨rfl,b⟩;have G5:=aS (K.trans b);clear b G K;go_wp2
 go_ret2
 exact⟨G5.out,rfl⟩
theorem Fb{s:aA}{q:Nat}{x:Ex}(hs:s.length<=300)(V:JC s=some x){g:aK}(N:∀H d,ZZ H d ge (pQ ge 60))(T:pQ ge 60 x []=some none)(X:j7 ge most 60 x [] ⟨[],[]⟩=some (.inl q))(h0:1<=most)(h1:most<=12){d:Nat}{w:World}(F:FM w d na g)(P:na.Nodup)(O:∀v,v<na.length->(g.getD v none).isSome=true)(Q:g.length=na.length)(M:na.length<=1000)(z:aj na g ge)
  (R:∀W,(Instr.makeMap 169 (some (.int .i64 ((g.filter Option.isSome).length:Nat)))).run prog W= .ok (.map (some W.heap.size)) (W.alloc (.map #[] 0))) (ad:aF) (f:aE) (o:aG) (S:SW w ad f o) (U:LW w):
  Calls prog 61 #[.string (B s), .map (some d), .int .i64 (most:Int), .nilFunc] w λe w'=>w.grownBy w' none/\e= .returned (.tuple #[.string (B []),eQ (ad q)]):=by
 have h2:(1:Int)<=(most:Int):=by omega
 have h3:(most:Int)<=12:=by omega
 have C:=aS (aL (rP.of S U) N);have E:=aS (km hs V w ad f o S);have G:=aS (λ(W:World) (K:w.grownBy W none)=>EW na g ge W d (F.kept K (by simp)) P O Q M z (R W) ad f o (S.grown K));have D:=aS (aL T X);clear S V F P O Q M z R U N T X;go_enter func61,ntmps61;go_wp2_with fail;refine E.mono ?_;rintro e w1 ⟨I,v,H1,m,rfl,Y,l⟩;have b:=aS (aL I (aL Y l));obtain⟨T0,b0,rfl⟩:=l.val;clear I Y l E;go_wp2_with fail;refine(G.out _ b.1).mono ?_;rintro e w2 ⟨i,b2,H2,rfl,r,L⟩;have p:=b.2.1.grown i;have t:=WS p r;have n:dI m (zi H1 H2) (.iface T0 (.pointer (some ⟨b0,0,none⟩))) x:=dI.ext (m:=0) ⟨qf,λk hk=>by omega⟩ m _ _ b.2.2;have j:=L.ext (qg p r);have CK:=aS (F4 (C.2 _ _) n D.1 (λy h=>by cases h) t j);have a:=aS (aL (b.1.trans i) (aL t (aL n j)));clear i r L p t n j G b;go_wp2_with fail;refine CK.mono ?_;rintro e w3 ⟨c,rfl⟩;have u:=aS (Vf (most:=most) (ad:=ad) a.2.2.1 (a.2.1.grown c) (a.2.2.2.grown c).ge (by omega) (C.1.up (a.1.trans c)) D.2);have A:=aS (a.1.trans c);clear c a CK;go_wp2_with fail;refine u.mono ?_;rintro e w4 ⟨J,rfl,_⟩;have Z:=aS (A.trans J);clear J u A;unfold eQ;go_wp2
 go_ret2
 exact⟨Z.trans (aO _ _ _),rfl⟩
theorem Fc{s:aA}{y:aA×Nat}{x:Ex}(hs:s.length<=300)(U:JC s=some x){g:aK}(L:∀H c,ZZ H c ge (pQ ge 60))(R:pQ ge 60 x []=some (some y))(V:y.1.length<=300)(h1:1<=most)(h2:most<=12){c:Nat}{w:World}(F:FM w c na g)(O:na.Nodup)(M:∀v,v<na.length->(g.getD v none).isSome=true)(P:g.length=na.length)(K:na.length<=1000)(z:aj na g ge)
  (Q:∀W,(Instr.makeMap 169 (some (.int .i64 ((g.filter Option.isSome).length:Nat)))).run prog W= .ok (.map (some W.heap.size)) (W.alloc (.map #[] 0))) (i:aF) (j:aE) (q:aG) (S:SW w i j q) (T:LW w):
  Calls prog 61 #[.string (B s), .map (some c), .int .i64 (most:Int), .nilFunc] w λe Y=>w.grownBy Y none/\∃b,e= .returned (.tuple #[.string (B []), .iface 135 (.pointer (some ⟨b,0,none⟩))])/\Y.heap[b]? =some (.cells #[.int .i64 (y.2:Int), .string (B y.1)] 148 (0,0))/\w.heap.size<=b:=by
 have h3:(1:Int)<=(most:Int):=by omega
 have h4:(most:Int)<=12:=by omega
 have h0:=aS (aL (rP.of S T) L);have C:=aS (km hs U w i j q S);have D:=aS (λ(W:World) (I:w.grownBy W none)=>EW na g ge W c (F.kept I (by simp)) O M P K z (Q W) i j q (S.grown I));have A:=aS (aL R V);clear S U F O M P K z Q T L R V;go_enter func61,ntmps61;go_wp2_with fail;refine C.mono ?_;rintro e w1 ⟨E,v,H1,m,rfl,Z,o⟩;have a:=aS (aL E (aL Z o));obtain⟨T0,b0,rfl⟩:=o.val;clear E Z o C;go_wp2_with fail;refine(D.out _ a.1).mono ?_;rintro e w2 ⟨l,b2,H2,rfl,t,J⟩;have r:=a.2.1.grown l;have u:=WS r t;have p:dI m (zi H1 H2) (.iface T0 (.pointer (some ⟨b0,0,none⟩))) x:=dI.ext (m:=0) ⟨qf,λk hk=>by omega⟩ m _ _ a.2.2;have n:=J.ext (qg r t);have CK:=aS (F4 (h0.2 _ _) p A.1 (λy9 h=>by cases h;exact A.2) u n);have d:=aS (aL (a.1.trans l) (aL u (aL p n)));clear l t J r u p n D a;go_wp2_with fail;refine CK.mono ?_;rintro e w3 ⟨G,b3,rfl,N,X⟩;have f:=aS (aL (d.1.trans G) (aL N (bV d.1.size X)));clear G N X d CK;go_wp2
 go_ret2
 exact⟨f.1,b3,rfl,f.2.1,f.2.2⟩
def KI(h:lQE)(e:Nat)(x:Ex):Option (Sum (Sum (aA×Nat) Nat) aA):=
 match pQ h 60 x []with
 |none=>none
 |some (some y)=>some (.inl (.inl y))
 |some none=>match j7 h e 60 x [] ⟨[],[]⟩with
  |none=>none
  |some (.inl q)=>some (.inl (.inr q))
  |some (.inr z)=>match cI z.1 [] 130 z.2 with
   |none=>none
   |some t=>if Om 130 t=true then(match fS ⟨[],[]⟩ 1 130 t (ze [])with
    |none=>none
    |some w=>some (.inr w.out))else none
def Xc(s:aA)(r:Sum (Sum (aA×Nat) Nat) aA):Bool:=decide (s.length<=300)&&match JC s with
 |none=>false
 |some x=>decide (KI fK 6 x=some r)
def qi(k:aA):Option Nat:=if k=nD\/k=eU then some 0 else if k=nF then some 1 else if k=eS\/k=dO then some 2 else none
structure ZW(σ:bM):Prop where
 len:σ.con.length=σ.rep.length
 rr:∀i r:Nat,σ.rep[i]? =some r->σ.rep[r]? =some r
 nd:∀r nd,σ.con.getD r none=some nd->qi nd.kind=some nd.kids.length/\∀k,k∈nd.kids->k=cT k.num/\k.num<σ.rep.length
def ZA(h:bM):Prop:=∃w:Nat->Nat,∀c e k,h.is c=some e->k∈e.kids->w (h.root k.num)<w (h.root c)
structure ZE(σ σ':bM):Prop where
 n:σ.rep.length<=σ'.rep.length
 r:∀a b,σ.root a=σ.root b->σ'.root a=σ'.root b
 i:∀c nd,σ.is c=some nd->∃nd',σ'.is c=some nd'/\nd'.kind=nd.kind/\(nd'.kids.map λk=>σ'.root k.num)=nd.kids.map λk=>σ'.root k.num
structure ZC(σ:bM)(W:Nat->Prop):Prop where
 r:∀a,W a↔W (σ.root a)
 k:∀c nd k,W c->σ.is c=some nd->k∈nd.kids->W k.num
def ZF(W:Nat->Prop)(h e:bM):Prop:=∀x,¬W x->e.root x=h.root x/\e.is x=h.is x
theorem ZF.refl(W:Nat->Prop)(h:bM):ZF W h h:=λ_ _=>⟨rfl,rfl⟩
theorem ZF.trans{W:Nat->Prop}{a b c:bM}(h:ZF W a b)(k:ZF W b c):ZF W a c:=λx e=>⟨(k x e).1.trans (h x e).1,(k x e).2.trans (h x e).2⟩
theorem oY{e:bM}{c:Nat}(h:e.rep.length<=c):e.root c=c:=by unfold bM.root;rw[aW,bW h];rfl
theorem yR{σ:bM}{c:Nat}(h:c<σ.rep.length):σ.rep[c]? =some (σ.root c):=by unfold bM.root;rw[aW,aP h];rfl
theorem ZW.lt{e:bM}(h:ZW e){c:Nat}(w:c<e.rep.length):e.root c<e.rep.length:=(aU.1 (h.rr _ _ (yR w))).1
theorem ZW.root{w:bM}(h:ZW w)(c:Nat):w.root (w.root c)=w.root c:=by
 rcases bZ c w.rep.length with e|e
 ·have:=yR (h.lt e);rw[h.rr _ _ (yR e)]at this;exact(aY this).symm
 ·rw[oY e,oY e]
theorem ZW.lt_iff{e:bM}(h:ZW e){c:Nat}:e.root c<e.rep.length↔c<e.rep.length:=by
 rcases bZ c e.rep.length with w|w
 ·exact⟨λ_=>w,λ_=>h.lt w⟩
 ·rw[oY w]
theorem ZW.is_ge{e:bM}(h:ZW e){c:Nat}(w:e.rep.length<=c):e.is c=none:=by unfold bM.is;rw[oY w,aW,bW (by rw[h.len];exact w)];rfl
theorem ZW.is_nd{x:bM}(h:ZW x){c:Nat}{w:Et}(e:x.is c=some w):qi w.kind=some w.kids.length/\∀k,k∈w.kids->k=cT k.num/\k.num<x.rep.length:=h.nd _ w e
theorem ZE.refl(h:bM):ZE h h:=⟨aV _,λ_ _ e=>e,λ_ w e=>⟨w,e,rfl,rfl⟩⟩
theorem ZE.kids{x w:bM}(h:ZE x w)(d:ZW x){l m:List Et}(e:(l.map λk=>x.root k.num)=m.map λk=>x.root k.num):(l.map λk=>w.root k.num)=m.map λk=>w.root k.num:=by
 have c:∀a,w.root a=w.root (x.root a):=λa=>h.r _ _ (d.root a).symm
 have b:∀l:List Et,(l.map λk=>w.root k.num)=(l.map λk=>x.root k.num).map w.root:=λl=>by rw[o9];exact dF λk _=>c k.num
 rw[b,b,e]
theorem ZE.trans{a b c:bM}(h:ZE a b)(k:ZE b c)(m:ZW b):ZE a c:=by refine⟨bV h.n k.n,λx y e=>k.r _ _ (h.r _ _ e),λx q e=> ?_⟩;obtain⟨o,w,d,f⟩:=h.i x q e;obtain⟨p,g,j,l⟩:=k.i x o w;exact⟨p,g,j.trans d,l.trans (k.kids m f)⟩
theorem RG{w g:Type}{f:w->g}:∀{l m:List w},l.map f=m.map f->∀{x},x∈l->∃y,y∈m/\f y=f x
 |[],_,_,_,h=>by cases h
 |a::l,[],e,_,_=>by simp at e
 |a::l,b::m,e,x,h=>by
  simp only[cG,mI]at e;rcases bH.1 h with rfl|h
  ·exact⟨b,bG,e.1.symm⟩
  ·obtain⟨y,c,d⟩:=RG e.2 h;exact⟨y,bE _ c,d⟩
theorem ZC.back{f w:bM}{W:Nat->Prop}(h:ZC w W)(g:ZW f)(e:ZE f w):ZC f W:=by
 have d:∀a b,w.root a=w.root b->W a->W b:=λa b e x=>by rw[h.r,<-e,<-h.r];exact x
 refine⟨λa=>⟨d _ _ (e.r _ _ (g.root a).symm),d _ _ (e.r _ _ (g.root a))⟩,λc p k n en o=> ?_⟩;obtain⟨q,j,_,l⟩:=e.i c p en;obtain⟨y,x,m⟩:=RG l.symm o;exact d _ _ m (h.k c q y n j x)
theorem ZC.more{b:bM}{W:Nat->Prop}(h:ZC b W)(d:ZW b):ZC b (λx=>W x\/b.rep.length<=x):=by
 refine⟨λa=> ?_,λc g k w en f=> ?_⟩
 ·have:=d.lt_iff (c:=a);rw[<-h.r a];constructor
  ·rintro(e|e)
   ·exact aQ e
   ·exact aM (by omega)
  ·rintro(e|e)
   ·exact aQ e
   ·exact aM (by omega)
 ·rcases w with w|w
  ·exact aQ (h.k c g k w en f)
  ·rw[d.is_ge w]at en;cases en
theorem jH(h:bM)(o:Option Et):(h.new o).rep.length=h.rep.length+1:=by simp[bM.new]
theorem qM(e:bM)(o:Option Et)(c:Nat):(e.new o).root c=e.root c:=by
 unfold bM.root bM.new;simp only[aW];rcases tJ c e.rep.length with h|h|h
 ·rw[bJ h]
 ·rw[h,eY,bW (aV _)];rfl
 ·rw[bW (by simp;omega),bW (by omega)]
theorem yS{w:bM}(e:ZW w)(o:Option Et)(c:Nat):(w.new o).is c=if c=w.rep.length then o else w.is c:=by
 unfold bM.is;rw[qM];unfold bM.new;simp only[aW];rcases tJ c w.rep.length with h|h|h
 ·have:=e.lt h;rw[aN (by omega),bJ (by rw[e.len];exact this)]
 ·rw[aR h,h,oY (aV _),<-e.len,eY];rfl
 ·rw[aN (by omega),oY (by omega),bW (by simp[e.len];omega),bW (by rw[e.len];omega)]
def zk(n:Nat)(o:Option Et):Prop:=∀h,o=some h->qi h.kind=some h.kids.length/\∀k,k∈h.kids->k=cT k.num/\k.num<n
theorem ZW.new{w:bM}(h:ZW w){o:Option Et}(g:zk w.rep.length o):ZW (w.new o):=by
 refine⟨by simp[bM.new,h.len],λi r e=> ?_,λr x e=> ?_⟩
 ·rcases bZ i w.rep.length with c|c
  ·simp only[bM.new]at e⊢;rw[bJ c]at e;have:=h.rr i r e;rw[bJ (aU.1 this).1];exact this
  ·have f:=(aU.1 e).1;rw[jH]at f;have:i=w.rep.length:=by omega
   subst this;simp only[bM.new,eY,dK]at e;subst e;simp only[bM.new,eY]
 ·have b:qi x.kind=some x.kids.length/\∀k,k∈x.kids->k=cT k.num/\k.num<w.rep.length:=by
   simp only[bM.new,aW]at e;rcases tJ r w.con.length with a|a|a
   ·rw[bJ a]at e;exact h.nd r x (by rw[aW];exact e)
   ·rw[a,eY]at e;exact g x e
   ·rw[bW (by simp;omega)]at e;cases e
  exact⟨b.1,λk d=>⟨(b.2 k d).1,by rw[jH];have:=(b.2 k d).2;omega⟩⟩
theorem ZE.new{w:bM}(h:ZW w)(o:Option Et):ZE w (w.new o):=by refine⟨by rw[jH];omega,λa b e=>by rw[qM,qM];exact e,λc x e=>⟨x, ?_,rfl,rfl⟩⟩;rw[yS h,aN,e];intro d;rw[h.is_ge (by omega)]at e;cases e
theorem ZF.new{w:bM}(h:ZW w)(o:Option Et){W:Nat->Prop}(a:∀x,w.rep.length<=x->W x):ZF W w (w.new o):=by intro x b;rw[qM,yS h,aN (λe=>b (a x (by omega)))];exact⟨rfl,rfl⟩
theorem ZC.new{x:bM}(h:ZW x){o:Option Et}{W:Nat->Prop}(d:ZC x W)(g:∀e k,o=some e->k∈e.kids->W k.num):ZC (x.new o) W:=by
 refine⟨λa=>by rw[qM];exact d.r a,λc e k f w b=> ?_⟩;rw[yS h]at w;split at w
 ·exact g e k w b
 ·exact d.k c e k f w b
theorem yT:∀{l:aC} {x:Nat},x∈l->x<=l.sum
 |a::l,x,h=>by
  rw[fG];rcases bH.1 h with rfl|h
  ·omega
  ·have:=yT h;omega
theorem ZA.new{e:bM}(h:ZW e)(j:ZA e){o:Option Et}(m:zk e.rep.length o):ZA (e.new o):=by
 obtain⟨i,n⟩:=j;refine⟨λx=>if x=e.rep.length then 1+((match o with|some d=>d.kids|none=>[]).map λk:Et=>i (e.root k.num)).sum else i x,λc d k w b=> ?_⟩;rw[yS h]at w;simp only[qM];split at w
 ·rename_i a;have g:=((m d w).2 k b).2;have l:=h.lt g;rw[aN (by omega),aR (by rw[a,oY (aV _)]),w];have:=yT (gH (f:=λk:Et=>i (e.root k.num)) b);simp only[]at this⊢;omega
 ·have g:=((h.is_nd w).2 k b).2;have l:=h.lt g
  have a:c<e.rep.length:=by
   rcases bZ c e.rep.length with a|a
   ·exact a
   ·rw[h.is_ge a]at w;cases w
  have:=h.lt a;rw[aN (by omega),aN (by omega)];exact n c d k w b
theorem nJ(h:bM)(a b:Nat):(h.link a b).rep.length=h.rep.length:=by simp[bM.link]
theorem nS{σ:bM}{a b:Nat}(x:a<σ.rep.length)(c:Nat):(σ.link a b).root c=if σ.root c=a then b else σ.root c:=by
 rcases bZ c σ.rep.length with h|h
 ·have e:=yR (σ:=σ.link a b) (c:=c) (by rw[nJ];exact h);have w:=yR h;simp only[bM.link,iH,w,jI,dK]at e;exact e.symm
 ·rw[oY (by rw[nJ];exact h),oY h,aN (by omega)]
theorem NV{σ:bM}{a b:Nat}(h:a<σ.rep.length)(c:Nat):(σ.link a b).is c=if σ.root c=a then σ.con.getD b none else σ.is c:=by unfold bM.is;rw[nS h];split<;>rfl
theorem ZW.link{w:bM}(h:ZW w){a b:Nat}(x:a<w.rep.length)(g:b<w.rep.length)(l:w.root b=b)(f:a≠b):ZW (w.link a b):=by
 refine⟨by rw[nJ];exact h.len,λi r e=> ?_,λr k e=> ?_⟩
 ·have c:i<w.rep.length:=by have:=(aU.1 e).1;rwa[nJ]at this
  rw[yR (by rw[nJ];exact c),nS x]at e;have e:=aY e
  have j:r<w.rep.length:=by
   rw[<-e];split
   ·exact g
   ·exact h.lt c
  rw[yR (by rw[nJ];exact j),nS x,<-e];split
  ·rw[l,aN (kU f)]
  ·rename_i d;rw[h.root,aN d]
 ·rw[nJ];exact h.nd r k e
theorem RH(h:bM)(b:Nat)(o:Option Et)(c:Nat):(h.put b o).root c=h.root c:=rfl
theorem Rs{w:bM}(h:ZW w){b:Nat}(a:b<w.rep.length)(o:Option Et)(c:Nat):(w.put b o).is c=if w.root c=b then o else w.is c:=by
 unfold bM.is;rw[RH];unfold bM.put;simp only[aW,mK];rw[h.len];by_cases e:b=w.root c
 ·rw[aR e,aR (by omega),aR e.symm];rfl
 ·rw[aN e,aN (λx=>e x.symm)]
theorem ZW.put{σ:bM}(h:ZW σ){b:Nat}{o:Option Et}(x:zk σ.rep.length o):ZW (σ.put b o):=by
 refine⟨by simp[bM.put,h.len],h.rr,λr w e=> ?_⟩;simp only[bM.put,aW,mK]at e;split at e
 ·split at e
  ·exact x w e
  ·cases e
 ·exact h.nd r w (by rw[aW];exact e)
def nR(h:bM):Nat:=(List.range h.rep.length).countP λi=>decide (h.root i=i)
theorem KL{p q:Nat->Bool}:∀{l:aC},(∀i,i∈l->q i=true->p i=true)->∀{a},a∈l->p a=true->q a=false->l.countP q<l.countP p
 |x::l,h,a,e,h1,h2=>by
  have c:l.countP q<=l.countP p:=List.countP_mono_left λi w=>h i (bE _ w);rw[List.countP_cons,List.countP_cons];rcases bH.1 e with rfl|e
  ·rw[aR h1,h2];simp only[o0,XL];omega
  ·have:=KL (λi w=>h i (bE _ w)) e h1 h2;have:=h x bG;by_cases b:q x=true
   ·rw[aR b,aR (this b)];omega
   ·rw[aN b];split<;>omega
theorem Ln{h:bM}{a b:Nat}(w:a<h.rep.length)(x:h.root a=a)(d:h.root b=b)(c:a≠b):nR (h.link a b)<nR h:=by
 unfold nR;rw[nJ];refine KL (λi g e=> ?_) (eV.2 w) (by simp[x]) (by simp[nS w,x];exact kU c);simp only[nS w,cX]at e⊢;split at e
 ·rename_i f;rw[<-e,d]
 ·exact e
theorem Ow(h:bM):nR h<=h.rep.length:=by have:=List.countP_le_length (p:=λi=>decide (h.root i=i)) (l:=List.range h.rep.length);rwa[XO]at this
structure ZJ(σ σ':bM)(a b:Nat):Prop where
 w:ZW σ'
 n:σ'.rep.length=σ.rep.length
 nr:nR σ'<=nR σ
 e:ZE σ σ'
 j:σ'.root a=σ'.root b
 f:∀W,ZC σ W->W a->W b->ZC σ' W/\ZF W σ σ'
def ZJs(e h:bM)(x w:List Et):Prop:=ZW h/\h.rep.length=e.rep.length/\nR h<=nR e/\ZE e h/\(x.map λk=>h.root k.num)=(w.map λk=>h.root k.num)/\∀W,ZC e W->(∀k,k∈x->W k.num)->(∀k,k∈w->W k.num)->ZC h W/\ZF W e h
theorem UJ{J:Nat->Nat->bM->Option (Option bM)}{N m:Nat}(v:∀a b x,ZW x->x.rep.length=N->a<N->b<N->nR x<=m->∃r,J a b x=some r/\∀c,r=some c->ZJ x c a b):
  ∀(i d:List Et) (x:bM),ZW x->x.rep.length=N->nR x<=m->i.length=d.length->(∀k,k∈i->k.num<N)->(∀k,k∈d->k.num<N)->∃r,hQ J i d x=some r/\∀c,r=some c->ZJs x c i d
 |[],[],x,q,o,hm,_,_,_=>⟨_,rfl,λc e=>by cases e;exact⟨q,rfl,aV _,ZE.refl _,rfl,λW p _ _=>⟨p,ZF.refl _ _⟩⟩⟩
 |[],b::d,x,_,_,_,l,_,_=>by simp at l
 |a::i,[],x,_,_,_,l,_,_=>by simp at l
 |a::i,b::d,x,q,o,hm,l,y,hb=>by
  obtain⟨r,e,h⟩:=v a.num b.num x q o (y a bG) (hb b bG) hm;rw[hQ,e]
  cases r with
  |none=>exact⟨_,rfl,λc e=>by cases e⟩
  |some A=>
   have z:=h A rfl;obtain⟨P,E,K⟩:=UJ v i d A z.w (z.n.trans o) (bV z.nr hm) (by simpa using l) (λk g=>y k (bE _ g)) (λk g=>hb k (bE _ g));refine⟨P,E,λc F=> ?_⟩;obtain⟨Q,M,O,s,L,H⟩:=K c F;refine⟨Q,M.trans z.n,bV O z.nr,z.e.trans s z.w, ?_,λW p t u=> ?_⟩
   ·rw[cG,cG,L,s.r _ _ z.j]
   ·obtain⟨C,G⟩:=z.f W p (t a bG) (u b bG);obtain⟨D,I⟩:=H W C (λk g=>t k (bE _ g)) (λk g=>u k (bE _ g));exact⟨D,G.trans I⟩
theorem Fd:∀(f a b:Nat) (σ:bM),ZW σ->a<σ.rep.length->b<σ.rep.length->nR σ<=f->∃r,jE (f+1) a b σ=some r/\∀A,r=some A->ZJ σ A a b:=by
 intro f
 induction f with
 |zero=>
  intro a b σ o Q X hm;exfalso
  have:0<nR σ:=by unfold nR;rw[List.countP_pos_iff];exact⟨σ.root a,eV.2 (o.lt Q),by simp[o.root]⟩
  omega
 |succ f ih=>
  intro a b σ o Q X hm;rw[jE];by_cases F:σ.root a=σ.root b
  ·rw[aR F];exact⟨_,rfl,λA e=>by cases e;exact⟨o,rfl,aV _,ZE.refl _,F,λW w _ _=>⟨w,ZF.refl _ _⟩⟩⟩
  ·rw[aN F];have K:=o.lt Q;have Y:=o.lt X;have M:=o.link K Y (o.root b) F;have nl:=Ln K (o.root a) (o.root b) F;have u:=nS (σ:=σ) (b:=σ.root b) K;have il:=NV (σ:=σ) (b:=σ.root b) K;have z:=nJ σ (σ.root a) (σ.root b)
   have R:(σ.link (σ.root a) (σ.root b)).root a=(σ.link (σ.root a) (σ.root b)).root b:=by rw[u,u,aR rfl,aN (kU F)]
   have S:∀x y,σ.root x=σ.root y->(σ.link (σ.root a) (σ.root b)).root x=(σ.link (σ.root a) (σ.root b)).root y:=λx y e=>by rw[u,u,e]
   have P:∀W,ZC σ W->W a->W b->∀x,W x↔W ((σ.link (σ.root a) (σ.root b)).root x):=λW w j p x=>by
    rw[u];split
    ·rename_i e;exact⟨λ_=>(w.r b).1 p,λ_=>by rw[w.r x,e,<-w.r a];exact j⟩
    ·exact w.r x
   have G:∀W,ZC σ W->W a->∀x,¬W x->σ.root x≠σ.root a:=λW w j x q e=>q (by rw[w.r x,e,<-w.r a];exact j);have h3:σ.con.getD (σ.root b) none=σ.is b:=rfl;rw[h3]at il
   cases C:σ.is a with
   |none=>
    refine⟨_,rfl,λA e=> ?_⟩;cases e;refine⟨M,z,jW nl,⟨by rw[z];omega,S,λc n e=>⟨n, ?_,rfl,rfl⟩⟩,R,λW w j p=>⟨⟨P W w j p,λc n k D d s=> ?_⟩,λx q=> ?_⟩⟩
    ·rw[il,aN,e];intro l;have:σ.is c=σ.is a:=by unfold bM.is;rw[l]
     rw[this,C]at e;cases e
    ·rw[il]at d;split at d
     ·exact w.k b n k p d s
     ·exact w.k c n k D d s
    ·rw[u,il,aN (G W w j x q),aN (G W w j x q)];exact⟨rfl,rfl⟩
   |some E=>
    simp only[]
    cases H:σ.is b with
    |none=>
     have ho:zk (σ.link (σ.root a) (σ.root b)).rep.length (some E):=λn e=>by cases e;rw[z];exact o.is_nd C
     have T:=Rs M (b:=σ.root b) (by rw[z];exact Y) (some E);refine⟨_,rfl,λA e=> ?_⟩;cases e
     have L:∀c,(σ.link (σ.root a) (σ.root b)).root c=σ.root b↔(σ.root c=σ.root a\/σ.root c=σ.root b):=λc=>by
      rw[u];split
      ·rename_i e;exact⟨λ_=>aQ e,λ_=>rfl⟩
      ·rename_i e;exact⟨λl=>aM l,λl=>l.resolve_left e⟩
     refine⟨M.put ho,z,jW nl,⟨Nat.le_of_eq z.symm,S,λc n e=> ?_⟩,R,λW w j p=>⟨⟨P W w j p,λc n k D d s=> ?_⟩,λx q=> ?_⟩⟩
     ·refine⟨n, ?_,rfl,rfl⟩;rw[T];split
      ·rename_i l;rcases(L c).1 l with t|t
       ·have:σ.is c=σ.is a:=by unfold bM.is;rw[t]
        rw[<-C,<-this,e]
       ·have:σ.is c=σ.is b:=by unfold bM.is;rw[t]
        rw[this,H]at e;cases e
      ·rename_i l;rw[il,aN (λt=>l ((L c).2 (aQ t))),e]
     ·rw[T]at d;split at d
      ·cases d;exact w.k a E k j C s
      ·rename_i l;rw[il,aN (λt=>l ((L c).2 (aQ t)))]at d;exact w.k c n k D d s
     ·have U:=G W w j x q;have V:σ.root x≠σ.root b:=λe=>q (by rw[w.r x,e,<-w.r b];exact p);rw[RH,u,T,aN U,aN (λt=>((L x).1 t).elim U V),il,aN U];exact⟨rfl,rfl⟩
    |some n=>
     simp only[];by_cases v:E.kind=n.kind
     ·rw[aR v];have Z:=o.is_nd C;have nb:=o.is_nd H
      have h4:E.kids.length=n.kids.length:=by have:=Z.1;rw[v,nb.1]at this;exact(aY this).symm
      obtain⟨r,e,h⟩:=UJ (J:=jE (f+1)) (N:=σ.rep.length) (m:=f) (λx y τ q1 q2 q3 q4 q5=>ih x y τ q1 (by omega) (by omega) q5) E.kids n.kids _ M z (by omega) h4 (λk v=>(Z.2 k v).2) (λk v=>(nb.2 k v).2);refine⟨r,e,λA er=> ?_⟩;obtain⟨w2,V,h5,I,j2,f2⟩:=h A er;refine⟨w2,V.trans z,by omega,⟨by omega,λx y e=>I.r _ _ (S x y e),λc nc O=> ?_⟩,I.r _ _ R,λW w j p=> ?_⟩
      ·by_cases l:σ.root c=σ.root a
       ·have:σ.is c=σ.is a:=by unfold bM.is;rw[l]
        rw[this,C]at O;cases O;obtain⟨n3,D,d,s⟩:=I.i c n (by rw[il,aR l,H]);exact⟨n3,D,d.trans v.symm,s.trans j2.symm⟩
       ·exact I.i c nc (by rw[il,aN l,O])
      ·have c1:ZC (σ.link (σ.root a) (σ.root b)) W:=⟨P W w j p,λc h0 k D d s=>by
        rw[il]at d;split at d
        ·exact w.k b h0 k p d s
        ·exact w.k c h0 k D d s⟩
       obtain⟨c2,f3⟩:=f2 W c1 (λk g=>w.k a E k j C g) (λk g=>w.k b n k p H g);refine⟨c2,λx q=> ?_⟩;have:=f3 x q;rw[u,il,aN (G W w j x q),aN (G W w j x q)]at this;exact this
     ·rw[aN v];exact⟨_,rfl,λA e=>by cases e⟩
theorem lg:∀(n:Nat) (l:aC),l.Nodup->(∀x,x∈l->x<n)->l.length<=n
 |0,[],_,_=>aV _
 |0,a::l,_,h=>absurd (h a bG) (Nat.not_lt_zero _)
 |n+1,l,w,h=>by
  have d:=lg n (l.filter λx=>decide (x≠n)) (w.filter _) (λx b=>by
   simp only[List.mem_filter,cX]at b;have:=h x b.1
   omega)
  have g:l.length<=(l.filter λx=>decide (x≠n)).length+1:=by
   clear h d
   induction l with
   |nil=>simp
   |cons a l f=>
    rw[xX]at w;by_cases e:a=n
    ·have:(l.filter λx=>decide (x≠n))=l:=List.filter_eq_self.2 λx b=>by simp only[cX];intro c;exact w.1 (by rw[e,<-c];exact b)
     rw[eh,aN (by simp[e]),this];simp
    ·rw[eh,aR (by simp[e])];have:=f w.2;simp only[bU];omega
  omega
structure lh(σ:bM)(far:List (Nat×Nat)):Prop where
 d:(far.map (·.1)).Nodup
 b:∀r v,dR far r=some v->r<σ.rep.length/\(v=1\/v=2)
def RK(h:bM)(e:List (Nat×Nat))(x:aI):Prop:=∀r w k,dR e r=some 2->h.con.getD r none=some w->k∈w.kids->dR e (h.root k.num)=some 2/\x (h.root k.num)<x r
theorem Fe{w x:Type}[DecidableEq w]:∀{l:List (w×x)} {a:w},a∈l.map (·.1)->∃b,dR l a=some b
 |l,a,h=>by
  cases e:dR l a with
  |none=>exact absurd h (rK.1 e)
  |some b=>exact⟨b,rfl⟩
theorem lh.len{w:bM}{e:List (Nat×Nat)}(h:lh w e):e.length<=w.rep.length:=by
 have:=lg w.rep.length (e.map (·.1)) h.d (λx c=>by
  obtain⟨v,a⟩:=Fe c
  exact(h.b x v a).1)
 rwa[fM]at this
theorem D4{e w:Type}[DecidableEq e]{a:e}{b:w}:∀{l:List (e×w)},dR l a=none->∀c,dR (l++[(a,b)]) c=if a=c then some b else dR l c:=by intro l h c;rw[<-oP b h,lY]
theorem lh.snoc{g:bM}{f:List (Nat×Nat)}(h:lh g f){r:Nat}(k:r<g.rep.length)(e:dR f r=none):lh g (f++[(r,1)]):=by
 refine⟨?_,λx v w=> ?_⟩
 ·rw[eR,jX];refine⟨h.d,by simp,λa j b i=> ?_⟩;simp only[cG,fE,bF]at i;subst i;intro c;subst c;exact rK.1 e j
 ·rw[D4 e]at w;split at w
  ·rename_i c;cases w;exact⟨c▸k,aQ rfl⟩
  ·exact h.b x v w
theorem lh.put{σ:bM}{a:List (Nat×Nat)}(h:lh σ a){r:Nat}(e:dR a r=some 1):lh σ (sI a r 2):=by
 refine⟨?_,λx v w=> ?_⟩
 ·rw[BM 2 (by rw[e];rfl)];exact h.d
 ·rw[lY]at w;split at w
  ·rename_i c;cases w;exact⟨c▸(h.b r 1 e).1,aM rfl⟩
  ·exact h.b x v w
structure LO(σ:bM)(far far':List (Nat×Nat)):Prop where
 o:lh σ far'
 k:∃ρ,RK σ far' ρ
 l:far.length<=far'.length
 t:∀r,dR far r=some 2->dR far' r=some 2
 w:∀r,dR far' r=some 1↔dR far r=some 1
theorem LO.trans{x:bM}{a b c:List (Nat×Nat)}(h:LO x a b)(k:LO x b c):LO x a c:=
 ⟨k.o,k.k,bV h.l k.l,λr e=>k.t r (h.t r e),λr=>(k.w r).trans (h.w r)⟩
theorem RJ{a:bM}{L:Nat->List (Nat×Nat)->Option (Option (List (Nat×Nat)))}{m:Nat}
  (n:∀c w,c<a.rep.length->lh a w->(∃i,RK a w i)->m<=w.length->∃r,L c w=some r/\∀x,r=some x->LO a w x/\dR x (a.root c)=some 2):
  ∀(d:List Et) (w:List (Nat×Nat)),(∀k,k∈d->k.num<a.rep.length)->lh a w->(∃i,RK a w i)->m<=w.length->∃r,gQ L d w=some r/\∀x,r=some x->LO a w x/\∀k,k∈d->dR x (a.root k.num)=some 2
 |[],w,_,g,b,_=>⟨_,rfl,λx e=>by cases e;exact⟨⟨g,b,aV _,λ_ e=>e,λ_=>Iff.rfl⟩,λk h=>by cases h⟩⟩
 |c::d,w,p,g,b,hm=>by
  obtain⟨r,e,h⟩:=n c.num w (p c bG) g b hm;rw[gQ,e]
  cases r with
  |none=>exact⟨_,rfl,λx e=>by cases e⟩
  |some j=>
   obtain⟨f,v⟩:=h j rfl;obtain⟨A,s,z⟩:=RJ n d j (λk b=>p k (bE _ b)) f.o f.k (bV hm f.l);refine⟨A,s,λx u=> ?_⟩;obtain⟨q,y⟩:=z x u;refine⟨f.trans q,λk b=> ?_⟩;rcases bH.1 b with rfl|b
   ·exact q.t _ v
   ·exact y k b
theorem lD(h:bM)(c:Nat):fH h (cT c)=match h.is c with|none=>[]|some nd=>nd.kids:=by unfold fH;exact aR rfl
theorem NW{h:bM}(L:ZW h):∀(f c:Nat) (a:List (Nat×Nat)),c<h.rep.length->lh h a->(∃H,RK h a H)->h.rep.length<f+a.length->∃r,jZ h f c a=some r/\∀j,r=some j->LO h a j/\dR j (h.root c)=some 2
 |0,c,a,_,A,_,D=>by have:=A.len;omega
 |f+1,c,a,T,A,g,D=>by
  rw[jZ]
  cases e:dR a (h.root c)with
  |some v=>
   rcases(A.b _ _ e).2 with rfl|rfl
   ·exact⟨_,rfl,λj e=>by cases e⟩
   ·exact⟨_,rfl,λj y=>by cases y;exact⟨⟨A,g,aV _,λ_ e=>e,λ_=>Iff.rfl⟩,e⟩⟩
  |none=>
   simp only[];obtain⟨H,V⟩:=g;have C:=λb=>D4 (b:=b) e;have Y:=A.snoc (L.lt T) e
   have X:RK h (a++[(h.root c,1)]) H:=λr E k q R S=>by
    rw[C]at q;split at q
    ·cases q
    ·obtain⟨d,u⟩:=V r E k q R S;rw[C,aN (λy=>by rw[<-y,e]at d;cases d)];exact⟨d,u⟩
   have U:∀k,k∈fH h (cT c)->k.num<h.rep.length:=λk g=>by
    rw[lD]at g
    cases I:h.is c with
    |none=>rw[I]at g;cases g
    |some E=>rw[I]at g;exact((L.is_nd I).2 k g).2
   obtain⟨r,O,q⟩:=RJ (m:=a.length+1) (λx P d u F G=>NW L f x P d u F (by omega)) (fH h (cT c)) _ U Y ⟨H,X⟩ (by simp);rw[O]
   cases r with
   |none=>exact⟨_,rfl,λj e=>by cases e⟩
   |some J=>
    obtain⟨s,Q⟩:=q J rfl;refine⟨_,rfl,λj y=> ?_⟩;cases y;have M:dR J (h.root c)=some 1:=(s.w _).2 (by rw[C,aR rfl]);obtain⟨N,W⟩:=s.k;refine⟨⟨s.o.put M,⟨λx=>if x=h.root c then 1+((fH h (cT c)).map λk:Et=>N (h.root k.num)).sum else N x,λr E k d u F=> ?_⟩, ?_,λr n=> ?_,λr=> ?_⟩,by rw[lY,aR rfl]⟩
    ·rw[lY]at d;have z:∀x,dR J x=some 2->x≠h.root c:=λx n i=>by rw[i,M]at n;cases n
     split at d
     ·rename_i n;subst n
      have D:k∈fH h (cT c):=by rw[lD];unfold bM.is;rw[u];exact F
      have K:=Q k D;simp only[];rw[lY,aN (kU (z _ K)),aN (z _ K),aR trivial];have:=yT (gH (f:=λk:Et=>N (h.root k.num)) D);exact⟨K,by omega⟩
     ·obtain⟨G,Z⟩:=W r E k d u F;simp only[];rw[lY,aN (kU (z _ G)),aN (z _ G),aN (z _ d)];exact⟨G,Z⟩
    ·rw[OX,M];have:=s.l;simp at this⊢;omega
    ·rw[lY];split
     ·rfl
     ·refine s.t r ?_;rw[C];split
      ·rename_i i p;exact absurd p i
      ·exact n
    ·rw[lY];split
     ·rename_i i;subst i;constructor
      ·intro p;cases p
      ·intro p;rw[e]at p;cases p
     ·rename_i i;rw[s.w,C,aN i]
structure ZQ(σ σ':bM)(a b:Nat):Prop where
 w:ZW σ'
 ac:ZA σ'
 n:σ'.rep.length=σ.rep.length
 e:ZE σ σ'
 j:σ'.root a=σ'.root b
 f:∀W,ZC σ W->W a->W b->ZC σ' W/\ZF W σ σ'
theorem Lo{d:bM}(G:ZW d)(N:ZA d){a b:Nat}(F:a<d.rep.length)(K:b<d.rep.length):∃r,jK a b d=some r/\∀t,r=some t->ZQ d t a b:=by
 obtain⟨r,e,h⟩:=Fd d.rep.length a b d G F K (Ow d);unfold jK;rw[e]
 cases r with
 |none=>exact⟨_,rfl,λt e=>by cases e⟩
 |some m=>
  have z:=h m rfl;obtain⟨S,I,L⟩:=NW z.w (d.rep.length+1) a [] (by rw[z.n];exact F) ⟨by simp,λr v e=>by cases e⟩ ⟨λ_=>0,λr q k e=>by cases e⟩ (by rw[z.n];simp);simp only[];rw[I]
  cases S with
  |none=>exact⟨_,rfl,λt e=>by cases e⟩
  |some i=>
   refine⟨_,rfl,λt J=> ?_⟩;cases J;obtain⟨l,g⟩:=L i rfl;refine⟨z.w, ?_,z.n,z.e,z.j,z.f⟩;obtain⟨T,R⟩:=N;obtain⟨C,H⟩:=l.k;have M:ZC m (λx=>dR i (m.root x)=some 2):=⟨λx=>by rw[z.w.root],λc q k y A s=>(H _ q k y A s).1⟩;obtain⟨_,E⟩:=z.f _ (M.back G z.e) g (by rw[<-z.j];exact g);refine⟨λx=>if dR i x=some 2 then C x else(i.map λp=>C p.1).sum+1+T x,λc q k y A=> ?_⟩;simp only[];by_cases u:dR i (m.root c)=some 2
   ·obtain⟨s,D⟩:=H _ q k u y A;rw[aR u,aR s];exact D
   ·rw[aN u];obtain⟨s,D⟩:=E c u;by_cases o:dR i (m.root k.num)=some 2
    ·rw[aR o]
     have O:C (m.root k.num)∈i.map λp=>C p.1:=by
      have:m.root k.num∈i.map (·.1):=D9 λh=>by rw[rK.2 h]at o;cases o
      obtain⟨p,P,Q⟩:=fF.1 this;exact fF.2 ⟨p,P,by simp only[Q]⟩
     have:=yT O;omega
    ·rw[aN o,s,(E k.num o).1];have:=R c q k (D▸y) A;omega
def KM(n:Nat):Nat->Et->Prop
 |0,_=>False
 |m+1,t=>(t=cT t.num/\t.num<n)\/(t=vT t.name/\t.name.length<=300)\/(qi t.kind=some t.kids.length/\∀k,k∈t.kids->KM n m k)
def oQ:Nat->Et->Nat
 |0,_=>1
 |m+1,t=>1+(t.kids.map (oQ m)).sum
def SD(S:Nat->Prop):Nat->Et->Prop
 |0,_=>True
 |m+1,t=>(t.kind=cM->S t.num)/\∀k,k∈t.kids->SD S m k
theorem SD.mono{S w:Nat->Prop}(h:∀x,S x->w x):∀{m:Nat} {t:Et},SD S m t->SD w m t
 |0,_,_=>trivial
 |_+1,_,k=>⟨λe=>h _ (k.1 e),λx a=>(k.2 x a).mono h⟩
theorem KM.mono{n n':Nat}(h:n<=n'):∀{m:Nat} {t:Et},KM n m t->KM n' m t
 |0,_,k=>k
 |_+1,_,Or.inl k=>Or.inl ⟨k.1,Nat.lt_of_lt_of_le k.2 h⟩
 |_+1,_,Or.inr (Or.inl k)=>Or.inr (Or.inl k)
 |_+1,_,Or.inr (Or.inr k)=>Or.inr (Or.inr ⟨k.1,λx hx=>(k.2 x hx).mono h⟩)
theorem aw{n c:Nat}(h:c<n)(m:Nat):KM n (m+1) (cT c):=aQ ⟨rfl,h⟩
theorem qY{k:aA}{j:Nat}(h:qi k=some j):k≠cM/\k≠[]:=by constructor<;>(rintro rfl;revert h;unfold qi;simp[nD,eU,nF,eS,dO,cM])
structure Ox(σ:bM)(L:aC):Prop where
 d:L.Nodup
 b:∀r,r∈L->r<σ.rep.length
theorem Ox.len{e:bM}{L:aC}(h:Ox e L):L.length<=e.rep.length:=lg _ _ h.d h.b
structure AO(σ:bM)(L L':aC):Prop where
 o:Ox σ L'
 s:∀r,r∈L->r∈L'
 l:L.length<=L'.length
 c:∀r nd k,r∈L'->r∉L->σ.con.getD r none=some nd->k∈nd.kids->σ.root k.num∈L'
theorem AO.refl{w:bM}{L:aC}(h:Ox w L):AO w L L:=⟨h,λ_ e=>e,aV _,λ_ _ _ x a=>absurd x a⟩
theorem AO.trans{w:bM}{a b c:aC}(h:AO w a b)(k:AO w b c):AO w a c:=by
 refine⟨k.o,λr e=>k.s r (h.s r e),bV h.l k.l,λr g x i j d f=> ?_⟩;by_cases e:r∈b
 ·exact k.s _ (h.c r g x e j d f)
 ·exact k.c r g x i e d f
theorem J4{e:bM}{A:Et->List Nat->Option (List Nat)}{m j:Nat}
  (i:∀t L,KM e.rep.length m t->Ox e L->j<=L.length->∃w,A t L=some w/\AO e L w/\SD (λx=>e.root x∈w) m t/\∀W,ZC e W->SD W m t->(∀r,r∈L->W r)->∀r,r∈w->W r):
  ∀(b:List Et) (L:aC),(∀t,t∈b->KM e.rep.length m t)->Ox e L->j<=L.length->∃w,kE A b L=some w/\AO e L w/\(∀t,t∈b->SD (λx=>e.root x∈w) m t)/\∀W,ZC e W->(∀t,t∈b->SD W m t)->(∀r,r∈L->W r)->∀r,r∈w->W r
 |[],L,_,d,_=>⟨L,rfl,AO.refl d,λt h=>(by cases h),λ_ _ _ h=>h⟩
 |t::b,L,ht,d,n=>by
  obtain⟨p,u,c,z,D⟩:=i t L (ht t bG) d n;obtain⟨q,v,f,C,E⟩:=J4 i b p (λx a=>ht x (bE _ a)) c.o (bV n c.l);refine⟨q,by rw[kE,u];exact v,c.trans f,λx a=> ?_,λW k g y=>E W k (λx a=>g x (bE _ a)) (D W k (g t bG) y)⟩;rcases bH.1 a with rfl|a
  ·exact z.mono λx a=>f.s _ a
  ·exact C x a
theorem Ff{n:bM}(A:ZW n):∀(f m:Nat) (t:Et) (L:aC),KM n.rep.length m t->Ox n L->n.rep.length+m+1<=f+L.length->
  ∃q,uZ n f t L=some q/\AO n L q/\SD (λx=>n.root x∈q) m t/\∀W,ZC n W->SD W m t->(∀r,r∈L->W r)->∀r,r∈q->W r
 |0,m,t,L,_,z,S=>by have:=z.len;omega
 |f+1,0,t,L,ht,_,_=>ht.elim
 |f+1,m+1,t,L,ht,z,S=>by
  rw[uZ];rcases ht with⟨u,F⟩|⟨u,F⟩|⟨u,F⟩
  ·have w:t.kind=cM:=by rw[u];rfl
   have E:t.kids=[]:=by rw[u];rfl
   rw[aR w];by_cases G:n.root t.num∈L
   ·rw[aR G];exact⟨L,rfl,AO.refl z,⟨λ_=>G,λk w=>by rw[E]at w;cases w⟩,λ_ _ _ h=>h⟩
   ·rw[aN G]
    have U:Ox n (L++[n.root t.num]):=⟨by
     rw[jX];refine⟨z.d,by simp,λa R b O=> ?_⟩;simp only[bF]at O;subst O;intro e;subst e
     exact G R,λr h=>by
     rcases cH.1 h with h|h
     ·exact z.b r h
     ·rw[bF.1 h];exact A.lt F⟩
    have K:fH n t=fH n (cT t.num):=by rw[<-u]
    have Q:∀k,k∈fH n t->KM n.rep.length 1 k:=λk w=>by
     rw[K,lD]at w
     cases y:n.is t.num with
     |none=>rw[y]at w;cases w
     |some H=>rw[y]at w;exact aQ ((A.is_nd y).2 k w)
    obtain⟨q,e,a,i,M⟩:=J4 (j:=L.length+1) (λt L p v C=>Ff A f 1 t L p v (by omega)) (fH n t) _ Q U (by simp);rw[e];have T:n.root t.num∈q:=a.s _ (by simp);refine⟨q,rfl,⟨a.o,λr h=>a.s r (kX _ h),bV (by simp) a.l,λr H k p v C I=> ?_⟩,⟨λ_=>T,λk w=>by rw[E]at w;cases w⟩,λW D p v=>M W D (λk w=>⟨λ_=> ?_,λx V=> ?_⟩) ?_⟩
    ·by_cases N:r=n.root t.num
     ·subst N
      have P:k∈fH n t:=by rw[K,lD];unfold bM.is;rw[C];exact I
      refine(i k P).1 ?_;rcases Q k P with⟨g,_⟩|⟨g,_⟩|⟨_,g⟩
      ·rw[g];rfl
      ·have J:=((A.nd _ _ C).2 k I).1;rw[J];rfl
      ·have J:=((A.nd _ _ C).2 k I).1;rw[J];rfl
     ·exact a.c r H k p (by simp[v,N]) C I
    ·rw[K,lD]at w
     cases y:n.is t.num with
     |none=>rw[y]at w;cases w
     |some H=>rw[y]at w;exact D.k _ H k (p.1 (by assumption)) y w
    ·trivial
    ·intro r h;rcases cH.1 h with h|h
     ·exact v r h
     ·rw[bF.1 h];exact(D.r _).1 (p.1 (by assumption))
  ·have w:t.kind=[]:=by rw[u];rfl
   have E:t.kids=[]:=by rw[u];rfl
   rw[aN (by rw[w];decide),E];exact⟨L,rfl,AO.refl z,⟨λe=>absurd (w.symm.trans e) (by decide),λk w=>by rw[E]at w;cases w⟩,λ_ _ _ h=>h⟩
  ·rw[aN (qY u).1];obtain⟨q,e,a,i,M⟩:=J4 (j:=L.length) (λt L p v C=>Ff A f m t L p v (by omega)) t.kids L F z (aV _);rw[e];exact⟨q,rfl,a,⟨λe=>absurd e (qY u).1,i⟩,λW D p v=>M W D p.2 v⟩
def ZN(n:Nat)(h:lQE):Prop:=∀p,p∈h->KM n 130 p.2/\oQ 130 p.2<=120
def WW(W:Nat->Prop)(h:lQE):Prop:=∀p,p∈h->SD W 130 p.2
theorem qk{w:bM}(q:ZW w){f:lQE}(v:ZN w.rep.length f):∃L,mV w f=some L/\ZC w (λx=>w.root x∈L)/\WW (λx=>w.root x∈L) f/\(∀r,r∈L->r<w.rep.length)/\∀W,ZC w W->WW W f->∀r,r∈L->W r:=by
 obtain⟨L,e,a,i,m⟩:=J4 (m:=130) (j:=0) (λt L l n s=>Ff q (w.rep.length+400) 130 t L l n (by omega)) (f.map (·.2)) [] (λt g=>by
  obtain⟨p,d,rfl⟩:=fF.1 g
  exact(v p d).1) ⟨by simp,λr h=>by cases h⟩ (dG _)
 refine⟨L,e,⟨λx=>by rw[q.root],λc y k l n s=>a.c _ y k l (by simp) n s⟩,λp d=>i _ (gH d),a.o.b,λW u h=>m W u (λt g=>by
  obtain⟨p,d,rfl⟩:=fF.1 g
  exact h p d) (λr h=>by cases h)⟩
def cSz(h:bM):Nat->Nat->Nat
 |0,_=>1
 |f+1,c=>1+((fH h (cT c)).map λk=>cSz h f k.num).sum
theorem ax{σ:bM}:∀(f:Nat) (t:Et) (l:Int),l+2<=f->0<=l->∃e,lP σ f t l=some e/\e<l
 |0,_,l,h,d=>by omega
 |f+1,t,l,h,d=>by
  rw[lP]
  have:∀(w:List Et) (j:Int),j<l->∃e,jF (lP σ f) w j=some e/\e<l:=by
   intro w
   induction w with
   |nil=>exactλj x=>⟨j,rfl,x⟩
   |cons a w g=>
    intro j x;rw[jF];by_cases b:j<0
    ·rw[aR b];exact⟨j,rfl,x⟩
    ·rw[aN b];obtain⟨i,c,k⟩:=ax f a j (by omega) (by omega);rw[c];exact g i (by omega)
  exact this _ _ (by omega)
theorem ql{x:bM}(o:ZW x):∀(f c:Nat) (l b:Int),lP x f (cT c) l=some b->0<=b->(cSz x f c:Int)+b=l
 |0,_,_,_,h,_=>by rw[lP]at h;cases h
 |f+1,c,l,b,h,s=>by
  rw[lP]at h
  have:∀(d:List Et) (j:Int),(∀k,k∈d->k=cT k.num)->jF (lP x f) d j=some b->(((d.map λk=>cSz x f k.num).sum:Nat):Int)+b=j:=by
   intro d
   induction d with
   |nil=>intro j _ e;rw[jF]at e;cases e;simp
   |cons a d r=>
    intro j n e;rw[jF]at e;by_cases m:j<0
    ·rw[aR m]at e;cases e;omega
    ·rw[aN m]at e
     cases g:lP x f a j with
     |none=>rw[g]at e;cases e
     |some p=>rw[g]at e;have q:=r p (λk w=>n k (bE _ w)) e;rw[n a bG]at g;have t:=ql o f a.num j p g (by omega);rw[cG,fG];omega
  have q:=this _ _ (λk w=>by
   rw[lD]at w
   cases i:x.is c with
   |none=>rw[i]at w;cases w
   |some nd=>rw[i]at w;exact((o.is_nd i).2 k w).1) h
  rw[cSz];omega
theorem Oy{σ:bM}(x:ZW σ)(c:Nat):∃b,JY σ (cT c)=some b/\(b=false->cSz σ 130 c<=120):=by
 obtain⟨l,e,_⟩:=ax (σ:=σ) 130 (cT c) 120 (by decide) (by decide);unfold JY;rw[e];refine⟨_,rfl,λh=> ?_⟩;have w:0<=l:=by simpa using h
 have:=ql x 130 c 120 l e w;omega
theorem ay{n:Nat}(h:n<9223372036854775807):(uR n).length<=300:=ZO (by omega)
theorem Fg{e:Type}{f g:e->Nat}:∀{l:List e},(∀x,x∈l->f x<=g x)->(l.map f).sum<=(l.map g).sum
 |[],_=>aV _
 |a::l,h=>by rw[cG,cG,fG,fG];have:=h a bG;have:=Fg λx w=>h x (bE a w);omega
theorem Fh{d o:Type}{F:d->Option o}:∀{l:List d},(∀x,x∈l->∃y,F x=some y)->∃c,kH F l=some c/\c.length=l.length/\∀y,y∈c->∃x,x∈l/\F x=some y
 |[],_=>⟨[],rfl,rfl,λy h=>by cases h⟩
 |a::l,h=>by
  obtain⟨b,e⟩:=h a bG;obtain⟨f,g,i,j⟩:=Fh λx n=>h x (bE a n);refine⟨b::f,by rw[kH,e,g],by simp[i],λy w=> ?_⟩;rcases bH.1 w with rfl|w
  ·exact⟨a,bG,e⟩
  ·obtain⟨x,k,m⟩:=j y w;exact⟨x,bE _ k,m⟩
theorem az{i j:Type}{F:i->Option j}{f:i->Nat}{g:j->Nat}:∀{l:List i} {w:List j},kH F l=some w->(∀x y,x∈l->F x=some y->g y<=f x)->(w.map g).sum<=(l.map f).sum
 |[],w,e,_=>by rw[kH]at e;cases e;simp
 |a::l,w,e,h=>by
  rw[kH]at e
  cases c:F a with
  |none=>rw[c]at e;cases e
  |some b=>
   rw[c]at e
   cases d:kH F l with
   |none=>rw[d]at e;cases e
   |some bs=>rw[d]at e;cases e;rw[cG,cG,fG,fG];have:=h a b bG c;have:=az d λx y k=>h x y (bE a k);omega
theorem UK{b a:bM}(z:ZW b)(v:ZW a)(E:a.rep.length<=9223372036854775806)(s:b.rep.length<=a.rep.length){L:aC}(D:∀r,r∈L->r<a.rep.length)(u:∀x,x<b.rep.length->a.root x∉L->a.is x=b.is x):
  ∀(f c:Nat),c<b.rep.length->cSz b f c<f->∃t,cI a L f c=some t/\KM a.rep.length f t/\oQ f t<=cSz b f c/\SD (λx=>x∈L) f t
 |0,c,_,h=>by omega
 |f+1,c,p,h=>by
  have I:=v.lt (aZ p s);rw[cI];by_cases i:a.root c∈L
  ·rw[aR i];refine⟨_,rfl,aw I f, ?_,⟨λ_=>i,λk w=>by cases w⟩⟩;rw[oQ,cSz];simp[cT]
  ·rw[aN i];have q:=u c p i
   cases e:b.is c with
   |none=>rw[q,e];simp only[];rw[aR (by omega)];refine⟨_,rfl,aM (aQ ⟨rfl,ay (by omega)⟩), ?_,⟨λe=>absurd (show([]:aA)=cM from e) (by decide),λk w=>by cases w⟩⟩;rw[oQ,cSz];simp[vT]
   |some nd=>
    rw[q,e];simp only[];have j:=z.is_nd e;have J:cSz b (f+1) c=1+(nd.kids.map λk=>cSz b f k.num).sum:=by rw[cSz,lD,e]
    have w:∀k,k∈nd.kids->∃t,cI a L f k.num=some t/\KM a.rep.length f t/\oQ f t<=cSz b f k.num/\SD (λx=>x∈L) f t:=λk w=>UK z v E s D u f k.num (j.2 k w).2 (by
     have:=yT (gH (f:=λk:Et=>cSz b f k.num) w)
     omega)
    obtain⟨N,o,H,K⟩:=Fh (F:=λk:Et=>cI a L f k.num) λk G=>(w k G).imp λ_ h=>h.1
    have A:∀y,y∈N->KM a.rep.length f y/\SD (λx=>x∈L) f y:=λy C=>by obtain⟨x,l,d⟩:=K y C;obtain⟨t,m,n,_,M⟩:=w x l;rw[m]at d;cases d;exact⟨n,M⟩
    rw[o];refine⟨_,rfl,aM (aM ⟨by rw[j.1,H],λk w=>(A k w).1⟩), ?_,⟨λe=>absurd e (qY j.1).1,λk w=>(A k w).2⟩⟩;rw[oQ,J]
    have:=az (f:=λk:Et=>cSz b f k.num) (g:=oQ f) o λx y l d=>by obtain⟨t,m,_,n,_⟩:=w x l;rw[m]at d;cases d;exact n
    exact Nat.add_le_add_left this 1
structure IZ(σ σ':bM)(g g':aJ)(s:Nat):Prop where
 w:ZW σ'
 ac:ZA σ'
 e:ZE σ σ'
 n:σ'.rep.length<=σ.rep.length+s
 gb:∀p,p∈g'->p.2<σ'.rep.length
 gl:g'.length<=g.length+s
theorem xQ{w x:Type}[DecidableEq w]:∀{l:List (w×x)} {a:w} {b:x},dR l a=some b->(a,b)∈l
 |[],_,_,h=>by cases h
 |p::l,a,b,h=>by
  rw[dR]at h;split at h
  ·rename_i e;cases h;subst e;exact bG
  ·exact bE _ (xQ h)
def Xd(e h:bM)(W:Nat->Prop):Prop:=ZC h W/\ZF W e h
theorem UL{I:Et->bM->List (aA×Nat)->Option (bM×List (aA×Nat)×Nat)}{m:Nat}
  (z:∀t a g,KM a.rep.length m t->ZW a->ZA a->(∀p,p∈g->p.2<a.rep.length)->g.length+oQ m t<=999->a.rep.length+oQ m t<=9223372036854775806->
   ∃f i c,I t a g=some (f,i,c)/\IZ a f g i (oQ m t)/\c<f.rep.length/\∀W,ZC a W->(∀x,a.rep.length<=x->W x)->SD W m t->(∀p,p∈g->W p.2)->Xd a f W/\W c/\∀p,p∈i->W p.2):
  ∀(b:List Et) (a:bM) (g:aJ),(∀t,t∈b->KM a.rep.length m t)->ZW a->ZA a->(∀p,p∈g->p.2<a.rep.length)->g.length+(b.map (oQ m)).sum<=999->a.rep.length+(b.map (oQ m)).sum<=9223372036854775806->
   ∃f i o,gL I b a g=some (f,i,o)/\IZ a f g i (b.map (oQ m)).sum/\o.length=b.length/\(∀k,k∈o->k=cT k.num/\k.num<f.rep.length)/\∀W,ZC a W->(∀x,a.rep.length<=x->W x)->(∀t,t∈b->SD W m t)->(∀p,p∈g->W p.2)->Xd a f W/\(∀k,k∈o->W k.num)/\∀p,p∈i->W p.2
 |[],a,g,_,u,r,s,_,_=>⟨a,g,[],rfl,⟨u,r,ZE.refl _,qU _ _,s,qU _ _⟩,rfl,λk h=>(by cases h),λW K _ _ h=>⟨⟨K,ZF.refl _ _⟩,λk h=>(by cases h),h⟩⟩
 |t::b,a,g,ht,u,r,s,h1,h2=>by
  rw[cG,fG]at h1 h2;obtain⟨X,F,c,A,d,L,D⟩:=z t a g (ht t bG) u r s (by omega) (by omega);have Z:=d.n;have n2:=d.gl;obtain⟨Y,G,o,C,l,N,M,E⟩:=UL z b X F (λx q=>(ht x (bE _ q)).mono d.e.n) d.w d.ac d.gb (by omega) (by omega);refine⟨Y,G,cT c::o,by rw[gL,A];simp only[];rw[C],⟨l.w,l.ac,d.e.trans l.e d.w, ?_,l.gb, ?_⟩,by simp[N],λk j=> ?_,λW J v y H=> ?_⟩
  ·have:=l.n;rw[cG,fG];omega
  ·have:=l.gl;rw[cG,fG];omega
  ·rcases bH.1 j with rfl|j
   ·exact⟨rfl,aZ L l.e.n⟩
   ·exact M k j
  ·obtain⟨⟨O,P⟩,Q,R⟩:=D W J v (y t bG) H;obtain⟨⟨S,T⟩,U,V⟩:=E W O (λx q=>v x (bV d.e.n q)) (λx q=>y x (bE _ q)) R;refine⟨⟨S,P.trans T⟩,λk j=> ?_,V⟩;rcases bH.1 j with rfl|j
   ·exact Q
   ·exact U k j
theorem WX(m:Nat)(t:Et):1<=oQ m t:=by
 cases m with
 |zero=>exact aV _
 |succ m=>rw[oQ];omega
theorem lj:∀(f m:Nat) (t:Et) (a:bM) (g:aJ),m<=f->KM a.rep.length m t->ZW a->ZA a->(∀p,p∈g->p.2<a.rep.length)->g.length+oQ m t<=999->a.rep.length+oQ m t<=9223372036854775806->
   ∃v y c,k7 f t a g=some (v,y,c)/\IZ a v g y (oQ m t)/\c<v.rep.length/\∀W,ZC a W->(∀x,a.rep.length<=x->W x)->SD W m t->(∀p,p∈g->W p.2)->Xd a v W/\W c/\∀p,p∈y->W p.2
 |_,0,_,_,_,_,h,_,_,_,_,_=>h.elim
 |0,m+1,_,_,_,h,_,_,_,_,_,_=>by omega
 |f+1,m+1,t,a,g,U,ht,d,s,q,h1,h2=>by
  have b:=WX (m+1) t;rw[k7];rcases ht with⟨l,u⟩|⟨l,u⟩|⟨l,u⟩
  ·have j:t.kind=cM:=by rw[l];rfl
   rw[aR j];exact⟨a,g,t.num,rfl,⟨d,s,ZE.refl _,qU _ _,q,qU _ _⟩,u,λW i _ J h=>⟨⟨i,ZF.refl _ _⟩,J.1 j,h⟩⟩
  ·have j:t.kind=[]:=by rw[l];rfl
   rw[aN (by rw[j];decide),aR j]
   cases e:dR g t.name with
   |some c=>exact⟨a,g,c,rfl,⟨d,s,ZE.refl _,qU _ _,q,qU _ _⟩,q _ (xQ e),λW i _ J h=>⟨⟨i,ZF.refl _ _⟩,h _ (xQ e),h⟩⟩
   |none=>
    simp only[];rw[aR ⟨dE (by omega),by omega⟩];have r:zk a.rep.length none:=λC e=>by cases e
    refine⟨_,_,_,rfl,⟨d.new r,ZA.new d s r,ZE.new d _,by rw[jH];omega,λp b=> ?_,by simp;omega⟩,by rw[jH];omega,λW i o _ A=>⟨⟨ZC.new d i (λC k e=>by cases e),ZF.new d _ o⟩,o _ (aV _),λp b=> ?_⟩⟩
    ·rw[jH];rcases cH.1 b with b|b
     ·have:=q p b;omega
     ·rw[bF.1 b];exact qS _
    ·rcases cH.1 b with b|b
     ·exact A p b
     ·rw[bF.1 b];exact o _ (aV _)
  ·rw[aN (qY l).1,aN (qY l).2];rw[oQ]at h1 h2;obtain⟨H,T,K,L,z,P,i,M⟩:=UL (λt a g D E F G R S=>lj f m t a g (by omega) D E F G R S) t.kids a g u d s q (by omega) (by omega);have V:=z.n;have X:=z.gl;rw[L];simp only[];rw[aR (show GY H=true from dE (by omega))]
   have r:zk H.rep.length (some ⟨t.kind,[],0,K⟩):=λC e=>by cases e;exact⟨by rw[l,P],i⟩
   refine⟨_,_,_,rfl,⟨z.w.new r,ZA.new z.w z.ac r,z.e.trans (ZE.new z.w _) z.w,by rw[jH,oQ];omega,λp b=>by rw[jH];have:=z.gb p b;omega,by rw[oQ];omega⟩,by rw[jH];omega,λW O o N A=> ?_⟩;obtain⟨⟨D,E⟩,F,G⟩:=M W O o N.2 A;have I:∀x,H.rep.length<=x->W x:=λx Q=>o x (bV z.e.n Q);exact⟨⟨ZC.new z.w D (λC k e j=>by cases e;exact F k j),E.trans (ZF.new z.w _ I)⟩,I _ (aV _),G⟩
theorem ZA.low{a:bM}(m:ZA a)(g:ZW a):∃w:Nat->Nat,(∀c b k,a.is c=some b->k∈b.kids->w (a.root k.num)<w (a.root c))/\∀c,w c<=a.rep.length:=by
 obtain⟨w,h⟩:=m;refine⟨λx=>(List.range a.rep.length).countP λi=>decide (w i<w x),λc b k d f=> ?_,λc=> ?_⟩
 ·have j:=h c b k d f;exact KL (λi _ e=>by simp only[cX]at e⊢;omega) (eV.2 (g.lt ((g.is_nd d).2 k f).2)) (by simpa using j) (by simp)
 ·have:=List.countP_le_length (p:=λi=>decide (w i<w c)) (l:=List.range a.rep.length);rwa[XO]at this
def Lp(n:Nat)(t:Et):Prop:=∃m,KM n m t
theorem lp{w:bM}(c:ZW w){t:Et}(h:Lp w.rep.length t):(dW w t=cT (dW w t).num/\(dW w t).num<w.rep.length)\/(dW w t=vT (dW w t).name/\t=dW w t)\/(qi (dW w t).kind=some (dW w t).kids.length/\∀k,k∈(dW w t).kids->Lp w.rep.length k):=by
 obtain⟨m,h⟩:=h
 cases m with
 |zero=>exact h.elim
 |succ m=>
  unfold dW;rcases h with⟨x,a⟩|⟨x,a⟩|⟨x,a⟩
  ·rw[aR (by rw[x];rfl)]
   cases e:w.is t.num with
   |none=>exact aQ ⟨rfl,c.lt a⟩
   |some nd=>have:=c.is_nd e;exact aM (aM ⟨this.1,λk b=>⟨1,aQ (this.2 k b)⟩⟩)
  ·rw[aN (by rw[x];exact(by decide:¬([]:aA)=cM))];exact aM (aQ ⟨x,rfl⟩)
  ·rw[aN (qY x).1];exact aM (aM ⟨x,λk b=>⟨m,a k b⟩⟩)
theorem UM{S:Et->Et->List aA->List aA->Option (Option (List aA×List aA))}{A B:Et->Prop}{s:Et->Nat}{N:Nat}
  (k:∀a b p q,A a->B b->p.length+s a<=N->q.length+s a<=N->∃r,S a b p q=some r/\∀c d,r=some (c,d)->c.length<=p.length+s a/\d.length<=q.length+s a):
  ∀(w f:List Et) (p q:aD),w.length=f.length->(∀a,a∈w->A a)->(∀b,b∈f->B b)->p.length+(w.map s).sum<=N->q.length+(w.map s).sum<=N->∃r,j6 S w f p q=some r/\∀c d,r=some (c,d)->c.length<=p.length+(w.map s).sum/\d.length<=q.length+(w.map s).sum
 |[],[],p,q,_,_,_,_,_=>⟨_,rfl,λc d e=>by cases e;simp⟩
 |[],b::f,_,_,h,_,_,_,_=>by simp at h
 |a::w,[],_,_,h,_,_,_,_=>by simp at h
 |a::w,b::f,p,q,u,i,j,v,y=>by
  rw[cG,fG]at v y;obtain⟨r,e,h⟩:=k a b p q (i a bG) (j b bG) (by omega) (by omega);rw[j6,e]
  match r,h with
  |none,_=>exact⟨_,rfl,λ_ _ e=>by cases e⟩
  |some (l,m),h=>obtain⟨C,D⟩:=h l m rfl;obtain⟨z,n,t⟩:=UM k w f l m (by simpa using u) (λx g=>i x (bE _ g)) (λx g=>j x (bE _ g)) (by omega) (by omega);refine⟨z,n,λc d o=> ?_⟩;obtain⟨E,F⟩:=t c d o;rw[cG,fG];omega
theorem bc{h:Type}[DecidableEq h](L:List h)(v:h):(jO L v).length<=L.length+1:=by
 unfold jO;split
 ·omega
 ·simp
theorem UN{h:bM}(j:ZW h){f:Nat}{a b:Et}{p q:aD}(n:Lp h.rep.length a)(o:Lp h.rep.length b)(u:p.length<=200)(v:q.length<=200)(s:Nat)(y:1<=s)
  (t:qi (dW h a).kind=some (dW h a).kids.length->(∀k,k∈(dW h a).kids->Lp h.rep.length k)->(dW h a).kids.length=(dW h b).kids.length->(∀k,k∈(dW h b).kids->Lp h.rep.length k)->
   ∃r,j6 (lL h f) (dW h a).kids (dW h b).kids p q=some r/\∀w x,r=some (w,x)->w.length<=p.length+s/\x.length<=q.length+s):
  ∃r,lL h (f+1) a b p q=some r/\∀w x,r=some (w,x)->w.length<=p.length+s/\x.length<=q.length+s:=by
 rw[lL];split
 ·split
  ·rw[aR ⟨u,v⟩];split
   ·refine⟨_,rfl,λw x e=> ?_⟩;cases e;have:=bc p (dW h a).name;have:=bc q (dW h b).name;omega
   ·exact⟨_,rfl,λ_ _ e=>by cases e⟩
  ·exact⟨_,rfl,λ_ _ e=>by cases e⟩
 ·rename_i i;split
  ·refine⟨_,rfl,λw x e=> ?_⟩;cases e;omega
  ·split
   ·rename_i g;rcases lp j n with⟨c,_⟩|⟨c,_⟩|⟨c,m⟩
    ·exact absurd (by rw[c];rfl) g.2
    ·exact absurd (by rw[c];rfl) i
    ·rcases lp j o with⟨d,_⟩|⟨d,_⟩|⟨d,l⟩
     ·exact absurd (by rw[g.1,d];rfl) g.2
     ·exact absurd (by rw[g.1,d];rfl) i
     ·refine t c m ?_ l;have:=c;rw[g.1,d]at this;exact(aY this).symm
   ·exact⟨_,rfl,λ_ _ e=>by cases e⟩
theorem UO{x:bM}(s:ZW x){t:aI}(D:∀c g k,x.is c=some g->k∈g.kids->t (x.root k.num)<t (x.root c)):∀(f c:Nat) (b:Et) (p q:aD),c<x.rep.length->Lp x.rep.length b->p.length<=199->q.length<=199->t (x.root c)<f->∃r,lL x f (cT c) b p q=some r/\∀i j,r=some (i,j)->i=p/\j=q
 |0,_,_,_,_,_,_,_,_,h=>by omega
 |f+1,c,b,p,q,M,hb,G,H,N=>by
  have v:dW x (cT c)=match x.is c with|none=>cT (x.root c)|some g=>g:=by unfold dW;exact aR rfl
  rw[lL];split
  ·rename_i w;exfalso;rw[v]at w
   cases e:x.is c with
   |none=>rw[e]at w;cases w
   |some g=>rw[e]at w;exact(qY (s.is_nd e).1).2 w
  ·split
   ·exact⟨_,rfl,λi j e=>by cases e;exact⟨rfl,rfl⟩⟩
   ·split
    ·rename_i O _ w
     cases e:x.is c with
     |none=>rw[v,e]at w;exact absurd rfl w.2
     |some g=>
      rw[v,e]at w⊢;simp only[]at w⊢;have o:=s.is_nd e;rcases lp s hb with⟨m,_⟩|⟨m,_⟩|⟨m,E⟩
      ·exact absurd (by rw[w.1,m];rfl) w.2
      ·exact absurd (by rw[w.1,m];rfl) (qY o.1).2
      ·have F:g.kids.length=(dW x b).kids.length:=by have:=o.1;rw[w.1,m]at this;exact(aY this).symm
       have:∀(l d:List Et),l.length=d.length->(∀k,k∈l->k=cT k.num/\k.num<x.rep.length/\t (x.root k.num)<f)->(∀k,k∈d->Lp x.rep.length k)->∃r,j6 (lL x f) l d p q=some r/\∀i j,r=some (i,j)->i=p/\j=q:=by
        intro l
        induction l with
        |nil=>
         intro d n _ _
         cases d with
         |nil=>exact⟨_,rfl,λi j e=>by cases e;exact⟨rfl,rfl⟩⟩
         |cons b d=>simp at n
        |cons a l I=>
         intro d n A C
         cases d with
         |nil=>simp at n
         |cons b d=>
          obtain⟨y,K,L⟩:=A a bG;obtain⟨r,z,u⟩:=UO s D f a.num b p q K (C b bG) G H L;rw[<-y]at z;rw[j6,z]
          match r,u with
          |none,_=>exact⟨_,rfl,λ_ _ e=>by cases e⟩
          |some (J,y),u=>obtain⟨rfl,rfl⟩:=u J y rfl;exact I d (by simpa using n) (λk w=>A k (bE _ w)) (λk w=>C k (bE _ w))
       exact this _ _ F (λk w=>⟨(o.2 k w).1,(o.2 k w).2,aZ (D c g k e w) (by omega)⟩) E
    ·exact⟨_,rfl,λ_ _ e=>by cases e⟩
theorem Fi{w:bM}(i:ZW w)(l:ZA w):∀(m f:Nat) (a b:Et) (p q:aD),KM w.rep.length m a->Lp w.rep.length b->p.length+oQ m a<=200->q.length+oQ m a<=200->w.rep.length+m<f->∃r,lL w f a b p q=some r/\∀d g,r=some (d,g)->d.length<=p.length+oQ m a/\g.length<=q.length+oQ m a
 |0,_,_,_,_,_,h,_,_,_,_=>h.elim
 |_+1,0,_,_,_,_,_,_,_,_,h=>by omega
 |m+1,f+1,a,b,p,q,y,hb,z,A,H=>by
  have n:=WX (m+1) a;rcases y with⟨x,c⟩|⟨x,c⟩|⟨x,c⟩
  ·obtain⟨I,u,v⟩:=l.low i;obtain⟨r,e,h⟩:=UO i u (f+1) a.num b p q c hb (by omega) (by omega) (by have:=v (w.root a.num);omega);rw[<-x]at e;exact⟨r,e,λd g j=>by obtain⟨rfl,rfl⟩:=h d g j;omega⟩
  ·have k:dW w a=a:=by unfold dW;exact aN (by rw[x];exact(by decide:¬([]:aA)=cM))
   refine UN i ⟨1,aM (aQ ⟨x,c⟩)⟩ hb (by omega) (by omega) _ n λo=> ?_;rw[k,x]at o;exact absurd rfl (qY o).2
  ·have k:dW w a=a:=by unfold dW;exact aN (qY x).1
   refine UN i ⟨m+1,aM (aM ⟨x,c⟩)⟩ hb (by omega) (by omega) _ n λ_ _ t C=> ?_;rw[k]at t⊢;rw[oQ]at z A⊢;obtain⟨r,e,h⟩:=UM (N:=200) (s:=oQ m) (λa b p q D E F G=>Fi i l m f a b p q D E F G (by omega)) a.kids (dW w b).kids p q t c C (by omega) (by omega);refine⟨r,e,λd g j=> ?_⟩;have:=h d g j;omega
end Go.Proofs.YtcdijppegfcoaaaGreatDoor
