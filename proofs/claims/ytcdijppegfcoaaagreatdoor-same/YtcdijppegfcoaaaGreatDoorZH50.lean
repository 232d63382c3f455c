import Derived.Test.YtcdijppegfcoaaaGreatDoorZH47
set_option linter.unusedSimpArgs false
namespace Go.Proofs.YtcdijppegfcoaaaGreatDoor
open Go.RowKit Tryz
variable{σ1:bM}{ge nb':List (aA×Et)}{most d:Nat}
def MU(a:aA):Prop:=a.length<=8/\a∉dL/\(∃c q,a=c::q/\low c=true)/\∀d,d∈a->eI d=true
def UP(a:aA):Prop:=a.length<=8/\(∃c q,a=c::q/\qO c=true)/\∀d,d∈a->qO d=true
def mG:Nat->Ex->Prop
 |0,_=>False
 |m+1,x=>
  (x.op=bK/\(∃a,x.names=[a]/\MU a)/\x.kids=[])\/
  (x.op=dS/\(∃a,x.names=[a]/\UP a)/\x.kids=[])\/
  (x.op=dO/\∃p b,x.names=[p]/\MU p/\x.kids=[b]/\mG m b)\/
  (x.op=xA/\∃a b c,x.names=[]/\x.kids=[a,b,c]/\mG m a/\mG m b/\mG m c)\/
  (x.op=iP/\∃p a b,x.names=[p]/\MU p/\x.kids=[a,b]/\mG m a/\mG m b)\/
  (x.op=gV/\∃h b,x.names≠[]/\x.names.Nodup/\(∀n,n∈x.names->MU n)/\x.kids=h++[b]/\h.length=x.names.length/\(∀e,e∈h->mG m e)/\mG m b)\/
  (x.op=oO/\∃a b,x.names=[]/\x.kids=[a,b]/\mG m a/\mG m b)\/
  (x.op=eS/\∃a b,x.names=[]/\x.kids=[a,b]/\mG m a/\mG m b)
def cW(h:Nat):Nat->Ex->Nat
 |0,_=>0
 |m+1,x=>
  if x.op=bK then 120 else if x.op=dS then 1
  else if x.op=gV then h*(x.kids.dropLast.map (cW h m)).sum+((x.kids.drop (x.kids.length-1)).map (cW h m)).sum
  else(if x.op=dO\/x.op=oO then 2 else if x.op=xA\/x.op=eS then 1 else 0)+(x.kids.map (cW h m)).sum
def cN:Nat->Ex->Nat
 |0,_=>0
 |m+1,x=>x.names.length+(x.kids.map (cN m)).sum
structure PZ(σ σ':bM)(nb:lQE)(cs:aC)(w:Nat):Prop where
 z:ZW σ'
 ac:ZA σ'
 e:ZE σ σ'
 n:σ'.rep.length<=σ.rep.length+w
 c:∀c,c∈cs->c<σ'.rep.length
 f:∀W,ZC σ W->(∀x,σ.rep.length<=x->W x)->WW W nb->Xd σ σ' W/\∀c,c∈cs->W c
theorem PZ.refl{e:bM}(a:ZW e)(w:ZA e)(b:lQE):PZ e e b [] 0:=
 ⟨a,w,ZE.refl _,aV _,λc h=>(by cases h),λW x _ _=>⟨⟨x,ZF.refl _ _⟩,λc h=>by cases h⟩⟩
theorem PZ.sub{m o:bM}{k:lQE}{a b:aC}{w l:Nat}(h:PZ m o k a w)(j:∀c,c∈b->c∈a)(p:w<=l):PZ m o k b l:=
 ⟨h.z,h.ac,h.e,bV h.n (by omega),λc x=>h.c c (j c x),λW d g i=>⟨(h.f W d g i).1,λc x=>(h.f W d g i).2 c (j c x)⟩⟩
theorem PZ.app{s t:bM}{b nbs:lQE}{d l:aC}{q r:Nat}(h:PZ s σ1 b d q)(D:∀W,ZC σ1 W->(∀x,σ1.rep.length<=x->W x)->WW W b->(∀c,c∈d->W c)->WW W nbs)(k:PZ σ1 t (b++nbs) l r):PZ s t b (l++d) (q+r):=by
 refine⟨k.z,k.ac,h.e.trans k.e h.z,by have:=h.n;have:=k.n;omega,λc w=> ?_,λW C m g=> ?_⟩
 ·rcases cH.1 w with w|w
  ·exact k.c c w
  ·exact aZ (h.c c w) k.e.n
 ·obtain⟨⟨i,u⟩,j⟩:=h.f W C m g;have o:∀x,σ1.rep.length<=x->W x:=λx E=>m x (bV h.e.n E)
  obtain⟨⟨v,y⟩,A⟩:=k.f W i o (λp a=>by
   rcases cH.1 a with a|a
   ·exact g p a
   ·exact D W i o g j p a)
  refine⟨⟨v,u.trans y⟩,λc w=> ?_⟩;rcases cH.1 w with w|w
  ·exact A c w
  ·exact j c w
theorem PZ.trans{c d:bM}{e:lQE}{w x:aC}{a b:Nat}(h:PZ c σ1 e w a)(k:PZ σ1 d e x b):PZ c d e (x++w) (a+b):=
 h.app (nbs:=[]) (λ_ _ _ _ _ p f=>by cases f) (by rw[KV];exact k)
theorem PZ.new{r:bM}{q:lQE}{i:aC}{w:Nat}(h:PZ r σ1 q i w){o:Option Et}(g:∀a,o=some a->qi a.kind=some a.kids.length/\∀k,k∈a.kids->k=cT k.num/\k.num∈i):PZ r (σ1.new o) q (σ1.rep.length::i) (w+1):=by
 have p:zk σ1.rep.length o:=λa e=>⟨(g a e).1,λk d=>⟨((g a e).2 k d).1,h.c _ ((g a e).2 k d).2⟩⟩;refine⟨h.z.new p,ZA.new h.z h.ac p,h.e.trans (ZE.new h.z _) h.z,by rw[jH];have:=h.n;omega,λc b=> ?_,λW u l v=> ?_⟩
 ·rw[jH];rcases bH.1 b with rfl|b
  ·omega
  ·have:=h.c c b;omega
 ·obtain⟨⟨s,t⟩,j⟩:=h.f W u l v;have m:∀x,σ1.rep.length<=x->W x:=λx y=>l x (bV h.e.n y);refine⟨⟨ZC.new h.z s (λa k e d=>j _ ((g a e).2 k d).2),t.trans (ZF.new h.z _ m)⟩,λc b=> ?_⟩;rcases bH.1 b with rfl|b
  ·exact m _ (aV _)
  ·exact j c b
theorem PZ.eq{l:bM}{k:lQE}{d:aC}{w:Nat}(h:PZ l σ1 k d w){a b:Nat}(i:a∈d)(j:b∈d):∃r,jK a b σ1=some r/\∀x,r=some x->PZ l x k d w/\x.rep.length=σ1.rep.length:=by obtain⟨r,e,C⟩:=Lo h.z h.ac (h.c a i) (h.c b j);refine⟨r,e,λx t=> ?_⟩;have q:=C x t;refine⟨⟨q.w,q.ac,h.e.trans q.e h.z,by rw[q.n];exact h.n,λc A=>by rw[q.n];exact h.c c A,λW u v y=> ?_⟩,q.n⟩;obtain⟨⟨m,o⟩,g⟩:=h.f W u v y;obtain⟨p,s⟩:=q.f W m (g a i) (g b j);exact⟨⟨p,o.trans s⟩,g⟩
def QZ(b:bM)(a:lQE)(x:aC)(w:Nat)(r:Option (Sum Nat (bM×Nat))):Prop:=∃h,r=some h/\∀e c,h= .inr (e,c)->PZ b e a (c::x) w
theorem QZ.and{b:bM}{a:lQE}{d f:aC}{w g:Nat}{r:Option (Sum Nat (bM×Nat))}{k:bM->Nat->Option (Sum Nat (bM×Nat))}(h:QZ b a d w r)(i:∀x c,PZ b x a (c::d) w->QZ b a f g (k x c)):QZ b a f g (oG r k):=by
 obtain⟨j,rfl,h⟩:=h
 match j,h with
 | .inl q,_=>exact⟨_,rfl,λ_ _ e=>by cases e⟩
 | .inr (x,c),h=>exact i x c (h x c rfl)
theorem QZ.of{b:bM}{d:lQE}{a:aC}{w:Nat}(h:PZ b σ1 d a w){o:Option Et}(f:∀x,o=some x->qi x.kind=some x.kids.length/\∀k,k∈x.kids->k=cT k.num/\k.num∈a)(g:b.rep.length+w<9223372036854775806):QZ b d a (w+1) (qJ (CH o σ1)):=by unfold CH;rw[aR (show GY σ1=true from dE (by have:=h.n;omega))];exact⟨_,rfl,λi c e=>by cases e;exact h.new f⟩
theorem QZ.eq{f j:bM}{d:lQE}{c g:aC}{w i a b:Nat}(h:PZ f j d c w)(l:a∈c)(m:b∈c){k:bM->Option (Sum Nat (bM×Nat))}(n:∀x,PZ f x d c w->QZ f d g i (k x)):QZ f d g i (zf a b j k):=by
 obtain⟨r,e,o⟩:=h.eq l m;unfold zf;rw[e]
 cases r with
 |none=>exact⟨_,rfl,λ_ _ e=>by cases e⟩
 |some x=>exact n x (o x rfl).1
theorem QZ.ret{b:bM}{a:lQE}{x:aC}{w c:Nat}(h:PZ b σ1 a (c::x) w):QZ b a x w (some (.inr (σ1,c))):=⟨_,rfl,λ_ _ e=>by cases e;exact h⟩
theorem QZ.sub{i:bM}{f:lQE}{b d:aC}{w g:Nat}{r:Option (Sum Nat (bM×Nat))}(h:QZ i f b w r)(k:∀c,c∈d->c∈b)(l:w<=g):QZ i f d g r:=by
 obtain⟨m,e,h⟩:=h;refine⟨m,e,λn c j=>(h n c j).sub (λx a=> ?_) l⟩;rcases bH.1 a with rfl|a
 ·exact bG
 ·exact bE _ (k x a)
def SC(l:List (List aA))(w:lQE):Prop:=∀e h,e∈l->h∈e->h∈w.map (·.1)
theorem SC.more{l:List (List aA)}{a nbs:lQE}{ns:aD}(h:SC l a)(b:∀e,e∈ns->e∈nbs.map (·.1)):SC (ns::l) (a++nbs):=λc e w x=>by
 rw[eR];rcases bH.1 w with rfl|w
 ·exact List.mem_append_right _ (b e x)
 ·exact kX _ (h c e w x)
theorem Rv{a:lQE}{l:List (List aA)}{b:lQE}(h:SC l b){x:aA}(w:kn a l x=true):∃t,xO b a x=some t/\((∃p,p∈b/\p.2=t)\/dR a x=some t):=by
 unfold xO
 cases e:b.reverse.find? (λp=>decide (p.1=x))with
 |some p=>exact⟨_,rfl,aQ ⟨p,by have:=List.mem_of_find?_eq_some e;simpa using this,rfl⟩⟩
 |none=>
  simp only[];unfold kn at w;rw[l8,List.any_eq_true]at w;rcases w with⟨i,d,f⟩|w
  ·obtain⟨p,g,c⟩:=fF.1 (h i x d (by simpa using f));have:=V9.1 e p (by simpa using g);simp[c]at this
  ·cases c:dR a x with
   |none=>rw[c]at w;cases w
   |some t=>exact⟨t,rfl,aM rfl⟩
theorem bh{W:Nat->Prop}:∀{m:Nat} {t:Et},KM 0 m t->SD W m t
 |0,_,h=>h.elim
 |m+1,t,h=>by
  rcases h with⟨_,h⟩|⟨w,_⟩|⟨w,a⟩
  ·omega
  ·refine⟨λe=> ?_,λk x=> ?_⟩
   ·rw[w]at e;exact absurd (show([]:aA)=cM from e) (by decide)
   ·rw[w]at x;cases x
  ·exact⟨λe=>absurd e (qY w).1,λk x=>bh (a k x)⟩
def Ye(h:lQE):Prop:=∀e t,dR h e=some t->KM 0 130 t/\oQ 130 t<=120
theorem Rw(i:Ye ge){l:List (List aA)}{g:lQE}(h:SC l g){d:aA}(K:d.length<=8)(D:kn ge l d=true){a:bM}(E:ZW a)(A:ZA a)(m:ZN a.rep.length g)(J:a.rep.length+120<=9223372036854775806):QZ a g [] 120 (qJ (IQ ge d g a)):=by
 obtain⟨t,e,f⟩:=Rv h D
 have k:KM a.rep.length 130 t/\oQ 130 t<=120/\∀W,WW W g->SD W 130 t:=by
  rcases f with⟨p,b,rfl⟩|f
  ·exact⟨(m p b).1,(m p b).2,λW y=>y p b⟩
  ·exact⟨(i d t f).1.mono (dG _),(i d t f).2,λW _=>bh (i d t f).1⟩
 obtain⟨L,I,c,o,z,C,r⟩:=lj 400 130 t a [] (by decide) k.1 E A (λp b=>by cases b) (by simp;omega) (by omega);unfold IQ;rw[aR (by omega),e];simp only[];rw[o];refine⟨_,rfl,λM H q=> ?_⟩;cases q;refine⟨z.w,z.ac,z.e,by have:=z.n;omega,λx j=> ?_,λW s u v=> ?_⟩
 ·rw[bF.1 j];exact C
 ·obtain⟨F,G,_⟩:=r W s u (k.2.2 W v) (λp b=>by cases b);exact⟨F,λx j=>by rw[bF.1 j];exact G⟩
theorem ZN.mono{n w:Nat}{x:lQE}(h:ZN n x)(a:n<=w):ZN w x:=λp e=>⟨(h p e).1.mono a,(h p e).2⟩
theorem ZN.app{n:Nat}{e nbs:lQE}(h:ZN n e)(k:ZN n nbs):ZN n (e++nbs):=λp w=>(cH.1 w).elim (h p) (k p)
def MA(b:lQE)(a:Nat)(P:Ex->List (aA×Et)->bM->Option (Sum Nat (bM×Nat)))(f:Nat)(x:Ex):Prop:=∀(l:List (List aA)) (e:lQE) (h:bM),pQ b f x l=some none->SC l e->ZW h->ZA h->ZN h.rep.length e->e.length+cN f x<=1000->h.rep.length+cW a f x<=9223372036854775806->
 ∃r,P x e h=some r/\∀w c,r= .inr (w,c)->PZ h w e [c] (cW a f x)/\cSz w 130 c<=120
theorem MA.q{P:Ex->List (aA×Et)->bM->Option (Sum Nat (bM×Nat))}{f:Nat}{x:Ex}(h:MA ge most P f x){l:List (List aA)}{a:lQE}{b:bM}{d:aC}{w:Nat}(o:pQ ge f x l=some none)(m:SC l a)(j:ZN b.rep.length a)(i:a.length+cN f x<=1000)(p:PZ b σ1 a d w)(t:b.rep.length+w+cW most f x<=9223372036854775806):QZ b a d (w+cW most f x) (P x a σ1):=by obtain⟨r,e,k⟩:=h l a σ1 o m p.z p.ac (j.mono p.e.n) i (by have:=p.n;omega);exact⟨r,e,λs c g=>p.trans (k s c g).1⟩
theorem MA.w{P:Ex->List (aA×Et)->bM->Option (Sum Nat (bM×Nat))}{f:Nat}{x:Ex}(h:MA ge most P f x){l:List (List aA)}{a b:lQE}{g:bM}{d:aC}{w:Nat}(s:pQ ge f x l=some none)(q:SC l (a++b))(m:ZN σ1.rep.length (a++b))(k:a.length+b.length+cN f x<=1000)(p:PZ g σ1 a d w)(j:∀W,ZC σ1 W->(∀x,σ1.rep.length<=x->W x)->WW W a->(∀c,c∈d->W c)->WW W b)(u:g.rep.length+w+cW most f x<=9223372036854775806):QZ g a d (w+cW most f x) (qK P x a b σ1):=by obtain⟨r,e,o⟩:=h l (a++b) σ1 s q p.z p.ac m (by rw[bD];exact k) (by have:=p.n;omega);unfold qK;rw[aR (by omega),e];exact⟨r,rfl,λt c i=>p.app j (o t c i).1⟩
def FD(e:bM)(w:lQE)(c:Nat):Prop:=∃h,ZW h/\ZE h e/\c<h.rep.length/\cSz h 130 c<=120/\∀W,ZC h W->(∀x,h.rep.length<=x->W x)->WW W w->ZF W h e
theorem qm{y:lQE}{t:Nat}{P:Ex->List (aA×Et)->bM->Option (Sum Nat (bM×Nat))}{f:Nat}{l:List (List aA)}{i b:lQE}(D:SC l (i++b)):
  ∀(g:List Ex) (a:bM),(∀e,e∈g->MA y t P f e/\pQ y f e l=some none/\i.length+b.length+cN f e<=1000)->ZW a->ZA a->ZN a.rep.length (i++b)->a.rep.length+(g.map (cW t f)).sum<=9223372036854775806->
   ∃r,iY P i b g a=some r/\∀k d,r= .inr (k,d)->PZ a k (i++b) d (g.map (cW t f)).sum/\d.length=g.length/\∀c,c∈d->FD k (i++b) c
 |[],a,_,s,p,_,_=>⟨_,rfl,λk d e=>by cases e;exact⟨PZ.refl s p _,rfl,λc h=>by cases h⟩⟩
 |e::g,a,A,s,p,C,hb=>by
  rw[cG,fG]at hb;obtain⟨I,J,K⟩:=A e bG;obtain⟨r,F,m⟩:=I l (i++b) a J D s p C (by rw[bD];exact K) (by omega);rw[iY];unfold qK;rw[aR (by omega),F]
  match r,m with
  | .inl q,_=>exact⟨_,rfl,λ_ _ e=>by cases e⟩
  | .inr (v,c),m=>
   obtain⟨j,R⟩:=m v c rfl;have U:=j.n;obtain⟨Q,G,o⟩:=qm D g v (λx w=>A x (bE _ w)) j.z j.ac (C.mono j.e.n) (by omega);simp only[];rw[G]
   match Q,o with
   | .inl q,_=>exact⟨_,rfl,λ_ _ e=>by cases e⟩
   | .inr (S,d),o=>
    obtain⟨u,L,E⟩:=o S d rfl;refine⟨_,rfl,λk T H=> ?_⟩;cases H;refine⟨(j.trans u).sub (λx w=> ?_) (by rw[cG,fG];exact aV _),by simp[L],λx w=> ?_⟩
    ·rcases bH.1 w with rfl|w
     ·exact List.mem_append_right _ bG
     ·exact kX _ w
    ·rcases bH.1 w with rfl|w
     ·exact⟨v,j.z,u.e,j.c _ bG,R,λW M N O=>(u.f W M N O).1.2⟩
     ·exact E x w
theorem Fl{d:bM}{L:aC}:∀(a:aD) (w:aC),w.length=a.length->(∀c,c∈w->∃t,cI d L 130 c=some t/\KM d.rep.length 130 t/\oQ 130 t<=120/\SD (λx=>x∈L) 130 t)->∃b,nZ d L a w=some b/\b.map (·.1)=a/\∀p,p∈b->KM d.rep.length 130 p.2/\oQ 130 p.2<=120/\SD (λx=>x∈L) 130 p.2
 |[],[],_,_=>⟨[],rfl,rfl,λp h=>by cases h⟩
 |[],c::w,h,_=>by simp at h
 |n::a,[],h,_=>by simp at h
 |n::a,c::w,l,h=>by
  obtain⟨t,e,i⟩:=h c bG;obtain⟨b,g,j,k⟩:=Fl a w (by simpa using l) (λx m=>h x (bE _ m));refine⟨(n,t)::b,by rw[nZ,e];simp only[];rw[g],by simp[j],λp f=> ?_⟩;rcases bH.1 f with rfl|f
  ·exact i
  ·exact k p f
def Xe(w:bM)(e h:lQE):Prop:=∀W,ZC w W->WW W e->WW W h
theorem WW.app{W:Nat->Prop}{e nbs:lQE}(h:WW W e)(k:WW W nbs):WW W (e++nbs):=λp w=>(cH.1 w).elim (h p) (k p)
theorem WW.mono{W V:Nat->Prop}{e:lQE}(h:WW W e)(k:∀x,W x->V x):WW V e:=λp w=>(h p w).mono k
theorem Ls{D:lQE}{u:Nat}{P:Ex->List (aA×Et)->bM->Option (Sum Nat (bM×Nat))}{f:Nat}{l:List (List aA)}{b d:lQE}{o:aD}{g:List Ex}{w:bM}(hs:SC l (b++d))(R:g.length=o.length)
  (he:∀e,e∈g->MA D u P f e/\pQ D f e l=some none/\b.length+d.length+cN f e<=1000) (H:ZW w) (U:ZA w) (F:ZN w.rep.length b) (hh:ZN w.rep.length d) (G:Xe w b d) (X:w.rep.length+(g.map (cW u f)).sum<=9223372036854775806):
  ∃r,rQ P o g b d w=some r/\∀a i,r= .inr (a,i)->PZ w a b [] (g.map (cW u f)).sum/\ZN a.rep.length i/\i.map (·.1)=o/\Xe a b i:=by
 obtain⟨r,e,h⟩:=qm hs g w he H U (F.app hh) X;unfold rQ;rw[e]
 match r,h with
 | .inl q,_=>exact⟨_,rfl,λ_ _ e=>by cases e⟩
 | .inr (a,cs),h=>
  obtain⟨p,hl,Z⟩:=h a cs rfl;simp only[];obtain⟨L,N,A,C,J,K⟩:=qk p.z (F.mono p.e.n);rw[N];simp only[];have hN:=p.n;have V:WW (λx=>a.root x∈L) d:=G _ (A.back H p.e) C
  have h0:∀c,c∈cs->∃t,cI a L 130 c=some t/\KM a.rep.length 130 t/\oQ 130 t<=120/\SD (λx=>x∈L) 130 t:=λc Y=>by obtain⟨h4,y,I,l1,s1,Q⟩:=Z c Y;have T:=(A.back y I).more y;have S:=Q _ T (λx m=>aM m) ((C.app V).mono λx m=>aQ m);obtain⟨t,t1,t2,t3,t4⟩:=UK y p.z (by omega) I.n J (λx m hr=>(S x (λh=>h.elim hr (λh=>by omega))).2) 130 c l1 (by omega);exact⟨t,t1,t2,bV t3 s1,t4⟩
  obtain⟨i,M,n1,v⟩:=Fl o cs (by rw[hl,R]) h0;rw[M];refine⟨_,rfl,λh5 nx O=> ?_⟩;cases O;refine⟨⟨p.z,p.ac,p.e,p.n,λc h=>(by cases h),λW j s E=>⟨(p.f W j s (E.app (G W j E))).1,λc h=>by cases h⟩⟩,λq k=>⟨(v q k).1,(v q k).2.1⟩,n1,λW j s q k=>(v q k).2.2.mono (K W j s)⟩
theorem qn{c:bM}(g:ZW c)(f:ZA c):∀(w a:lQE),w.length=a.length->ZN c.rep.length w->ZN c.rep.length a->∃b,qL c w a=some b
 |[],[],_,_,_=>⟨_,rfl⟩
 |[],y::a,h,_,_=>by simp at h
 |x::w,[],h,_,_=>by simp at h
 |x::w,y::a,h,h1,h2=>by
  obtain⟨r,e,_⟩:=Fi g f 130 (c.rep.length+400) x.2 y.2 [] [] (h1 x bG).1 ⟨130,(h2 y bG).1⟩ (by have:=(h1 x bG).2;simp;omega) (by have:=(h1 x bG).2;simp;omega) (by omega);rw[qL,e]
  cases r with
  |none=>exact⟨_,rfl⟩
  |some _=>exact qn g f w a (by simpa using h) (λp d=>h1 p (bE _ d)) (λp d=>h2 p (bE _ d))
theorem qo{E:lQE}{most:Nat}{P:Ex->List (aA×Et)->bM->Option (Sum Nat (bM×Nat))}{f:Nat}{l:List (List aA)}{a:lQE}{ns:aD}{j:List Ex}(K:SC l a)(F:j.length=ns.length)
  (t:∀e,e∈j->MA E most P f e/\pQ E f e (ns::l)=some none/\a.length+ns.length+cN f e<=1000):∀(k:Nat) (d:lQE) (o m:bM) (w:Nat),PZ o m a [] w->ZN m.rep.length a->ZN m.rep.length d->d.map (·.1)=ns->Xe m a d->o.rep.length+w+k*(j.map (cW most f)).sum<=9223372036854775806->
  ∃r,l9 P ns j a k d m=some r/\∀i g,r= .inr (i,g)->PZ o i a [] (w+k*(j.map (cW most f)).sum)/\ZN i.rep.length g/\g.map (·.1)=ns/\Xe i a g
 |0,_,_,_,_,_,_,_,_,_,_=>⟨_,rfl,λ_ _ e=>by cases e⟩
 |k+1,d,o,m,w,p,J,H,G,R,hb=>by
  have I:d.length=ns.length:=by rw[<-G,fM]
  have X:=p.n;rw[Nat.succ_mul]at hb;obtain⟨r,e,h⟩:=Ls (K.more (ns:=ns) (nbs:=d) (λY h=>by rw[G];exact h)) F (λx v=>⟨(t x v).1,(t x v).2.1,by rw[I];exact(t x v).2.2⟩) p.z p.ac J H R (by omega);rw[l9,e]
  match r,h with
  | .inl q,_=>exact⟨_,rfl,λ_ _ e=>by cases e⟩
  | .inr (C,g),h=>
   obtain⟨s,A,y,D⟩:=h C g rfl;simp only[];have M:PZ o C a [] (w+(j.map (cW most f)).sum):=(p.trans s).sub (λc h=>by cases h) (aV _);obtain⟨b,N⟩:=qn s.z s.ac d g (by rw[I,<-y,fM]) (H.mono s.e.n) A;rw[N]
   cases b with
   |true=>exact⟨_,rfl,λi L u=>by cases u;exact⟨M.sub (λc h=>by cases h) (by rw[Nat.succ_mul];omega),A,y,D⟩⟩
   |false=>obtain⟨W,O,Q⟩:=qo K F t k g o C _ M (J.mono s.e.n) A y D (by omega);refine⟨W,O,λi L u=> ?_⟩;obtain⟨S,T,U,V⟩:=Q i L u;exact⟨S.sub (λc h=>by cases h) (by rw[Nat.succ_mul];omega),T,U,V⟩
theorem Rx{f:bM}{d:lQE}{w:Nat}{r:Option (Sum Nat (bM×Nat))}(h:QZ f d [] w r):∃a,uT r=some a/\∀x c,a= .inr (x,c)->PZ f x d [c] w/\cSz x 130 c<=120:=by
 obtain⟨a,rfl,h⟩:=h;unfold uT
 match a,h with
 | .inl q,_=>exact⟨_,rfl,λ_ _ e=>by cases e⟩
 | .inr (x,c),h=>
  have p:=h x c rfl;obtain⟨b,e,i⟩:=Oy p.z c;simp only[oG];rw[e]
  cases b with
  |true=>exact⟨_,rfl,λ_ _ e=>by cases e⟩
  |false=>exact⟨_,rfl,λ_ _ g=>by cases g;exact⟨p,i rfl⟩⟩
theorem RL{a b:UR}(h:LY a b=none):a=none/\b=none:=by
 cases a with
 |none=>exact⟨rfl,h⟩
 |some x=>cases h
theorem bj{P:Ex->List (List aA)->Option UR}{l:List (List aA)}:∀{w:List Ex},ZY P w l=some none->∀e,e∈w->P e l=some none
 |[],_,_,h=>by cases h
 |a::w,h,e,b=>by
  rw[ZY]at h
  cases x:P a l with
  |none=>rw[x]at h;cases h
  |some u=>
   rw[x]at h
   cases u with
   |some y=>cases h
   |none=>
    rcases bH.1 b with rfl|b
    ·exact x
    ·exact bj h e b
theorem Yf{A B:Option UR}(h:(match A,B with|some r,some s=>some (LY r s)|_,_=>none)=some none):A=some none/\B=some none:=by
 cases A with
 |none=>cases h
 |some r=>
  cases B with
  |none=>cases h
  |some s=>obtain⟨rfl,rfl⟩:=RL (aY h);exact⟨rfl,rfl⟩
theorem un3{A B C:Option UR}(h:(match A,B,C with|some r,some s,some t=>some (LY r (LY s t))|_,_,_=>none)=some none):A=some none/\B=some none/\C=some none:=by
 cases A with
 |none=>cases h
 |some r=>
  cases B with
  |none=>cases h
  |some s=>
   cases C with
   |none=>cases h
   |some t=>obtain⟨rfl,e⟩:=RL (aY h);obtain⟨rfl,rfl⟩:=RL e;exact⟨rfl,rfl,rfl⟩
theorem Fm(c:Nat):oQ 130 (cT c)<=120:=by rw[oQ];simp[cT]
theorem Zn{n:Nat}{p:aA}{t:Et}(h:KM n 130 t/\oQ 130 t<=120):ZN n [(p,t)]:=λq e=>by rw[bF.1 e];exact h
theorem Zo{l:List (List aA)}{e:lQE}(h:SC l e)(p:aA)(t:Et):SC ([p]::l) (e++[(p,t)]):=h.more λw h=>by rw[bF.1 h];simp
theorem lr{M:lQE}(e0:Ye M)(most:Nat):∀(f:Nat) (x:Ex),mG f x->MA M most (j7 M most f) f x
 |0,_,h=>h.elim
 |f+1,x,hx=>by
  have y:=lr e0 most f;intro l nb σ g v hw Y u hl Z;have O:=PZ.refl hw Y nb;rw[j7];refine Rx ?_;rw[pQ,Ee]at g;unfold uX;rcases hx with⟨i,⟨a,s,R⟩,d⟩|⟨i,⟨a,s,R⟩,d⟩|⟨i,p,b,s,R,d,A⟩|⟨i,a,b,c,s,d,A,C,X⟩|⟨i,p,a,b,s,R,d,A,C⟩|⟨i,V,b,s,h7,R,d,A,C,X⟩|⟨i,a,b,s,d,A,C⟩|⟨i,a,b,s,d,A,C⟩
  ·have D:cW most (f+1) x=120:=by rw[cW,aR i]
   rw[aR i,s]at g⊢;simp only[]at g⊢;have h8:=R.1;rw[aR (by omega)]at g;rw[D]at Z⊢;refine Rw e0 v h8 ?_ hw Y u Z;by_cases j:kn M l a=true
   ·exact j
   ·rw[aN j]at g;cases g
  ·have D:cW most (f+1) x=0+1:=by rw[cW,i];rfl
   rw[i,aN (by decide),aN (by decide),aN (by decide),aN (by decide),aN (by decide),aN (by decide),aN (by decide),aR rfl];rw[D]at Z⊢;exact QZ.of O (λN e=>by cases e;exact⟨rfl,λk j=>by cases j⟩) (by omega)
  ·have D:cW most (f+1) x=2+cW most f b:=by rw[cW,i,d];rfl
   have S:cN (f+1) x=1+cN f b:=by rw[cN,s,d];rfl
   rw[i,aN (by decide),aR rfl,s,d]at g⊢;simp only[]at g⊢;unfold Dq;refine(QZ.of O (o:=none) (λN e=>by cases e) (by omega)).and λK c0 m=> ?_;refine((y b A).w g (Zo v p (cT c0)) ((u.mono m.e.n).app (Zn ⟨aw (m.c _ bG) _,Fm c0⟩)) (by simp;omega) m (λW _ _ _ hW q F=> ?_) (by omega)).and λh9 Q H=> ?_
   ·rw[bF.1 F];exact⟨λ_=>hW _ bG,λk j=>by cases j⟩
   ·exact(QZ.of H (λN e=>by
     cases e;refine⟨rfl,λk j=> ?_⟩;simp only[bH,cE,eK]at j;rcases j with rfl|rfl
     ·exact⟨rfl,by simp[cT]⟩
     ·exact⟨rfl,by simp[cT]⟩) (by omega)).sub (λc h=>by cases h) (by omega)
  ·have D:cW most (f+1) x=1+(cW most f a+(cW most f b+cW most f c)):=by rw[cW,i,d];rfl
   have S:cN (f+1) x=0+(cN f a+(cN f b+cN f c)):=by rw[cN,s,d];rfl
   rw[i,aN (by decide),aN (by decide),aR rfl,d]at g⊢;simp only[]at g⊢;obtain⟨I,J,u3⟩:=un3 g;unfold Wz;refine((y a A).q I v u (by omega) O (by omega)).and λK E m=> ?_;refine(QZ.of m (o:=some ⟨eU,[],0,[]⟩) (λN e=>by cases e;exact⟨rfl,λk j=>by cases j⟩) (by omega)).and λh9 Q H=> ?_;refine QZ.eq H (a:=E) (b:=Q) (by simp) (by simp) λe1 p3=> ?_;refine((y b C).q J v u (by omega) p3 (by omega)).and λe2 T p4=> ?_;refine((y c X).q u3 v u (by omega) p4 (by omega)).and λe3 c5 p5=> ?_;refine QZ.eq p5 (a:=T) (b:=c5) (by simp) (by simp) λe5 p6=> ?_;exact QZ.ret (p6.sub (λz hz=>by rw[bF.1 hz];simp) (by omega))
  ·have D:cW most (f+1) x=0+(cW most f a+cW most f b):=by rw[cW,i,d];rfl
   have S:cN (f+1) x=1+(cN f a+cN f b):=by rw[cN,s,d];rfl
   rw[i,aN (by decide),aN (by decide),aN (by decide),aR rfl,s,d]at g⊢;simp only[]at g⊢;obtain⟨I,J⟩:=Yf g;unfold kq;obtain⟨r,U,G⟩:=y a A l nb σ I v hw Y u (by omega) (by omega);rw[U]
   match r,G with
   | .inl q,_=>exact⟨_,rfl,λ_ _ e=>by cases e⟩
   | .inr (K,E),G=>obtain⟨m,s1⟩:=G K E rfl;simp only[oG];obtain⟨L,eL,g1,g2,g3,g4⟩:=qk m.z (u.mono m.e.n);obtain⟨t,t1,t2,t3,t4⟩:=UK m.z m.z (by have:=m.n;omega) (aV _) g3 (λ_ _ _=>rfl) 130 E (m.c _ bG) (by omega);rw[eL];simp only[];rw[t1];simp only[];refine((y b C).w J (Zo v p t) ((u.mono m.e.n).app (Zn ⟨t2,bV t3 s1⟩)) (by simp;omega) m (λW q1 _ q3 _ q F=> ?_) (by omega)).sub (λc h=>by cases h) (by omega);rw[bF.1 F];exact t4.mono (g4 W q1 q3)
  ·have hd:x.kids.dropLast=V:=by rw[d,O9]
   have D:cW most (f+1) x=most*(V.map (cW most f)).sum+cW most f b:=by rw[cW,i,aN (by decide),aN (by decide),aR rfl,hd,d,bD];simp
   have S:cN (f+1) x=x.names.length+((V.map (cN f)).sum+cN f b):=by rw[cN,d,eR,oH];simp
   rw[i,aN (by decide),aN (by decide),aN (by decide),aN (by decide),aR rfl]at g⊢
   have j:∀e,e∈x.kids->pQ M f e (x.names::l)=some none:=by
    split at g
    ·exact bj g
    ·cases g
   rw[d]at j;rw[hd,d,List.getLast?_concat];simp only[];rw[aR (by omega)];unfold Eb
   obtain⟨r,U,G⟩:=qo (most:=most) (P:=j7 M most f) (f:=f) v A (λe he=>⟨y e (C e he),j e (kX _ he),by
    have:=yT (gH (f:=cN f) he)
    omega⟩) most (x.names.map λn=>(n,vT [97])) σ σ 0 O u (λq F=>by
     obtain⟨n,_,rfl⟩:=fF.1 F
     exact⟨aM (aQ ⟨rfl,(by decide:([97]:aA).length<=300)⟩),(by decide:oQ 130 (vT [97])<=120)⟩) (by rw[o9];exact List.map_id _) (λW _ _ q F=>by
     obtain⟨n,_,rfl⟩:=fF.1 F
     exact⟨λe=>absurd (show([]:aA)=cM from e) (by decide),λk j=>by cases j⟩) (by omega)
   rw[U]
   match r,G with
   | .inl q,_=>exact⟨_,rfl,λ_ _ e=>by cases e⟩
   | .inr (K,next),G=>
    obtain⟨m,z1,n1,b1⟩:=G K next rfl;simp only[];have e4:next.length=x.names.length:=by rw[<-n1,fM]
    refine((y b X).w (j b (by simp)) (v.more λnm h=>by rw[n1];exact h) ((u.mono m.e.n).app z1) (by omega) m (λW q1 _ q3 _=>b1 W q1 q3) (by omega)).sub (λc h=>by cases h) (by omega)
  ·have D:cW most (f+1) x=2+(cW most f a+cW most f b):=by rw[cW,i,d];rfl
   have S:cN (f+1) x=0+(cN f a+cN f b):=by rw[cN,s,d];rfl
   rw[i,aN (by decide),aN (by decide),aN (by decide),aN (by decide),aN (by decide),aR rfl,d]at g⊢;simp only[]at g⊢;obtain⟨I,J⟩:=Yf g;unfold KE;refine((y a A).q I v u (by omega) O (by omega)).and λK E m=> ?_;refine((y b C).q J v u (by omega) m (by omega)).and λh9 Q H=> ?_;refine(QZ.of H (o:=none) (λN e=>by cases e) (by omega)).and λe1 c3 p3=> ?_
   refine(QZ.of p3 (o:=some ⟨dO,[],0,[cT Q,cT c3]⟩) (λN e=>by
     cases e;refine⟨rfl,λk j=> ?_⟩;simp only[bH,cE,eK]at j;rcases j with rfl|rfl
     ·exact⟨rfl,by simp[cT]⟩
     ·exact⟨rfl,by simp[cT]⟩) (by omega)).and λe2 T p4=> ?_
   refine QZ.eq p4 (a:=E) (b:=T) (by simp) (by simp) λe3 p5=> ?_;exact QZ.ret (p5.sub (λz hz=>by rw[bF.1 hz];simp) (by omega))
  ·have D:cW most (f+1) x=1+(cW most f a+cW most f b):=by rw[cW,i,d];rfl
   have S:cN (f+1) x=0+(cN f a+cN f b):=by rw[cN,s,d];rfl
   rw[i,aN (by decide),aN (by decide),aN (by decide),aN (by decide),aN (by decide),aN (by decide),aR rfl,d]at g⊢;simp only[]at g⊢;obtain⟨I,J⟩:=Yf g;unfold ZP;refine((y a A).q I v u (by omega) O (by omega)).and λK E m=> ?_;refine((y b C).q J v u (by omega) m (by omega)).and λh9 Q H=> ?_
   exact(QZ.of H (λN e=>by
     cases e;refine⟨rfl,λk j=> ?_⟩;simp only[bH,cE,eK]at j;rcases j with rfl|rfl
     ·exact⟨rfl,by simp[cT]⟩
     ·exact⟨rfl,by simp[cT]⟩) (by omega)).sub (λc h=>by cases h) (by omega)
theorem nT{T:List fI}{s:St}{w:aA}(h:(cL T s w).bad<0):s.bad<0/\(tk T s.k).is=w/\cL T s w=⟨s.k+1,s.bad⟩:=by
 by_cases e:fW T s w=true
 ·exact⟨(iS e).1,(iS e).2,by rw[cL,aR e]⟩
 ·exfalso;rw[cL,aN e]at h;simp only[]at h;split at h<;>omega
theorem Fo{e:aD}{n:aA}{p:Nat}{s:St}(h:(pX e n p s).bad<0):pX e n p s=s/\(s.bad<0->n∉e):=by
 unfold pX at h⊢;split at h
 ·simp only[]at h;omega
 ·rename_i w;rw[aN w];exact⟨rfl,λx a=>w ⟨a,x⟩⟩
def qp(T:List fI)(y:Ex)(k h:Nat):Prop:=(tk T k).is=eD\/(h=k+1/\y=⟨(tk T k).is,[(tk T k).s],[],(tk T k).pos⟩/\((tk T k).is=bK\/(tk T k).is=dS))
structure YR(T:List fI)(Y Z:Ex->Nat->Nat->Prop):Prop where
 leaf:∀k,(tk T k).is=bK\/(tk T k).is=dS->Y ⟨(tk T k).is,[(tk T k).s],[],(tk T k).pos⟩ k (k+1)
 br:∀x k k1,(tk T k).is=eD->Y x (k+1) k1->(tk T k1).is=eO->Y x k (k1+1)
 pair:∀x y k k1 k2,(tk T k).is=eD->Y x (k+1) k1->(tk T k1).is=iQ->Y y (k1+1) k2->(tk T k2).is=eO->Y ⟨eS,[],[x,y],(tk T k).pos⟩ k (k2+1)
 app:∀x y k k1 k2,Y x k k1->Y y k1 k2->qp T y k1 k2->Y ⟨oO,[],[x,y],x.pos⟩ k k2
 fn:∀b k k2,(tk T k).is=dO->(tk T (k+1)).is=bK->(tk T (k+2)).is=cV->Y b (k+3) k2->Y ⟨dO,[(tk T (k+1)).s],[b],(tk T k).pos⟩ k k2
 ite:∀c a b k k1 k2 k3,(tk T k).is=xA->Y c (k+1) k1->(tk T k1).is=pJ->Y a (k1+1) k2->(tk T k2).is=oN->Y b (k2+1) k3->Y ⟨xA,[],[c,a,b],(tk T k).pos⟩ k k3
 lt:∀a b k k1 k2,(tk T k).is=iP->(tk T (k+1)).is=bK->(tk T (k+2)).is=DS->Y a (k+3) k1->(tk T k1).is=BE->Y b (k1+1) k2->Y ⟨iP,[(tk T (k+1)).s],[a,b],(tk T k).pos⟩ k k2
 r1:∀a k k1,(tk T k).is=iP->(tk T (k+1)).is=gV->(tk T (k+2)).is=bK->(tk T (k+3)).is=DS->Y a (k+4) k1->Z ⟨gV,[(tk T (k+2)).s],[a],(tk T k).pos⟩ k k1
 r2:∀x a k k1 k2,Z x k k1->(tk T k1).is=zV->(tk T (k1+1)).is=bK->(tk T (k1+1)).s∉x.names->(tk T (k1+2)).is=DS->Y a (k1+3) k2->Z ⟨gV,x.names++[(tk T (k1+1)).s],x.kids++[a],x.pos⟩ k k2
 r3:∀x b k k1 k2,Z x k k1->(tk T k1).is=BE->Y b (k1+1) k2->Y ⟨gV,x.names,x.kids++[b],x.pos⟩ k k2
def EY(Y:Ex->Nat->Nat->Prop)(E:St->Option (Ex×St)):Prop:=∀s x h,E s=some (x,h)->h.bad<0->s.bad<0/\Y x s.k h.k
theorem Ry{T:List fI}{Y Z:Ex->Nat->Nat->Prop}(R:YR T Y Z){E:St->Option (Ex×St)}(g:EY Y E):EY (λy k p=>Y y k p/\qp T y k p) (kG E T):=by
 intro s x A h o;unfold kG at h;by_cases i:fW T s bK=true\/fW T s dS=true
 ·rw[aR i]at h;cases h;have j:s.bad<0/\((tk T s.k).is=bK\/(tk T s.k).is=dS):=i.elim (λh=>⟨(iS h).1,aQ (iS h).2⟩) (λh=>⟨(iS h).1,aM (iS h).2⟩);exact⟨j.1,R.leaf s.k j.2,aM ⟨rfl,rfl,j.2⟩⟩
 ·rw[aN i]at h
  cases a:E (cL T s eD)with
  |none=>rw[a]at h;cases h
  |some r=>
   obtain⟨y,q⟩:=r;rw[a]at h;simp only[]at h;by_cases c:fW T q iQ=true
   ·rw[aR c]at h
    cases f:E q.up with
    |none=>rw[f]at h;cases h
    |some r=>obtain⟨z,C⟩:=r;rw[f]at h;cases h;obtain⟨u,l,m⟩:=nT o;obtain⟨_,v⟩:=g _ _ _ f u;obtain⟨d,w⟩:=g _ _ _ a (iS c).1;obtain⟨b,e,n⟩:=nT d;rw[m];rw[n]at w;exact⟨b,R.pair y z _ _ _ e w (iS c).2 v l,aQ e⟩
   ·rw[aN c]at h;cases h;obtain⟨t,l,m⟩:=nT o;obtain⟨d,w⟩:=g _ _ _ a t;obtain⟨b,e,n⟩:=nT d;rw[m];rw[n]at w;exact⟨b,R.br x _ _ e w l,aQ e⟩
theorem Oz{T:List fI}{Y Z:Ex->Nat->Nat->Prop}(R:YR T Y Z){A:St->Option (Ex×St)}(a:EY (λy k c=>Y y k c/\qp T y k c) A)(k:Nat):∀(f:Nat) (x:Ex) (s:St) (y:Ex) (w:St),tD A T f x s=some (y,w)->w.bad<0->s.bad<0/\(Y x k s.k->Y y k w.k)
 |0,_,_,_,_,h,_=>by rw[tD]at h;cases h
 |f+1,x,s,y,w,h,hb=>by
  rw[tD]at h;split at h
  ·cases e:A s with
   |none=>rw[e]at h;cases h
   |some r=>obtain⟨z,i⟩:=r;rw[e]at h;obtain⟨d,q⟩:=Oz R a k f _ i y w h hb;obtain⟨b,l,j⟩:=a _ _ _ e d;exact⟨b,λg=>q (R.app x z _ _ _ g l j)⟩
  ·cases h;exact⟨hb,λh=>h⟩
theorem qq{T:List fI}{Y:Ex->Nat->Nat->Prop}{E:St->Option (Ex×St)}(m:EY Y E){x y:Ex}{s d:St}(h:pA E T x s=some (y,d))(n:d.bad<0):s.bad<0/\(tk T s.k).is=bK/\(tk T s.k).s∉x.names/\(tk T (s.k+1)).is=DS/\∃a,Y a (s.k+2) d.k/\y=⟨x.op,x.names++[(tk T s.k).s],x.kids++[a],x.pos⟩:=by
 unfold pA at h
 cases e:E (cL T (pX x.names (tk T s.k).s (tk T s.k).pos (cL T s bK)) DS)with
 |none=>rw[e]at h;cases h
 |some r=>obtain⟨a,q⟩:=r;rw[e]at h;cases h;obtain⟨l,j⟩:=m _ _ _ e n;obtain⟨w,c,f⟩:=nT l;obtain⟨g,o⟩:=Fo w;rw[g]at w c f;obtain⟨b,p,i⟩:=nT w;rw[g,f,i]at j;rw[i]at c;exact⟨b,p,o w,c,a,j,rfl⟩
theorem qr{T:List fI}{Y Z:Ex->Nat->Nat->Prop}(R:YR T Y Z){E:St->Option (Ex×St)}(g:EY Y E)(k:Nat):∀(f:Nat) (x:Ex) (s:St) (y:Ex) (w:St),kZ E T f x s=some (y,w)->w.bad<0->s.bad<0/\(x.op≠gV->y=x/\w=s)/\(x.op=gV->Z x k s.k->y.op=gV/\Z y k w.k)
 |0,_,_,_,_,h,_=>by rw[kZ]at h;cases h
 |f+1,x,s,y,w,h,hb=>by
  rw[kZ]at h;split at h
  ·rename_i i
   cases e:pA E T x s.up with
   |none=>rw[e]at h;cases h
   |some r=>obtain⟨z,j⟩:=r;rw[e]at h;obtain⟨l,_,q⟩:=qr R g k f z j y w h hb;obtain⟨b,n,o,p,a,t,rfl⟩:=qq g e l;refine⟨b,λm=>absurd i.1 m,λc d=>q c ?_⟩;have:=R.r2 x a k s.k j.k d (iS i.2).2 n o p t;rw[c];exact this
  ·cases h;exact⟨hb,λ_=>⟨rfl,rfl⟩,λc d=>⟨c,d⟩⟩
theorem Pa{T:List fI}{Y Z:Ex->Nat->Nat->Prop}(R:YR T Y Z):∀n,EY Y (fC T n)
 |0=>λs x V h _=>by rw[fC]at h;cases h
 |n+1=>λs x V h E=>by
  have d:=Pa R n;rw[fC]at h;split at h
  ·cases h;omega
  ·rename_i hn;have F:s.bad<0:=by omega
   split at h
   ·rename_i o
    cases e:fC T n (cL T (cL T s.up bK) cV)with
    |none=>rw[e]at h;cases h
    |some r=>obtain⟨b,s4⟩:=r;rw[e]at h;cases h;obtain⟨u,M⟩:=d _ _ _ e E;obtain⟨D,j,A⟩:=nT u;obtain⟨_,f,l⟩:=nT D;rw[A,l]at M;rw[l]at j;exact⟨F,R.fn b s.k _ (iS o).2 f j M⟩
   ·split at h
    ·rename_i o
     cases w:fC T n s.up with
     |none=>rw[w]at h;cases h
     |some r=>
      obtain⟨c,C⟩:=r;rw[w]at h;simp only[]at h
      cases g:fC T n (cL T C pJ)with
      |none=>rw[g]at h;cases h
      |some r=>
       obtain⟨a,J⟩:=r;rw[g]at h;simp only[]at h
       cases i:fC T n (cL T J oN)with
       |none=>rw[i]at h;cases h
       |some r=>obtain⟨b,W⟩:=r;rw[i]at h;cases h;obtain⟨N,p⟩:=d _ _ _ i E;obtain⟨I,j,A⟩:=nT N;obtain⟨H,L⟩:=d _ _ _ g I;obtain⟨u,f,l⟩:=nT H;obtain⟨D,X⟩:=d _ _ _ w u;rw[A]at p;rw[l]at L;exact⟨F,R.ite c a b _ _ _ _ (iS o).2 X f L j p⟩
    ·split at h
     ·rename_i o
      cases w:pA (fC T n) T ⟨if fW T s.up gV=true then gV else iP,[],[],(tk T s.k).pos⟩ (pW T s.up gV)with
      |none=>rw[w]at h;cases h
      |some r=>
       obtain⟨y,C⟩:=r;rw[w]at h;simp only[]at h
       cases g:kZ (fC T n) T (T.length+1) y C with
       |none=>rw[g]at h;cases h
       |some r=>
        obtain⟨z,J⟩:=r;rw[g]at h;simp only[]at h
        cases i:fC T n (cL T J BE)with
        |none=>rw[i]at h;cases h
        |some r=>
         obtain⟨b,W⟩:=r;rw[i]at h;cases h;obtain⟨I,p⟩:=d _ _ _ i E;obtain⟨H,j,A⟩:=nT I;obtain⟨u,O,P⟩:=qr R d s.k _ _ _ _ _ g H;obtain⟨_,f,l,G,a,t,m⟩:=qq d w u;rw[A]at p;refine⟨F, ?_⟩;by_cases v:fW T s.up gV=true
         ·rw[pW,aR v]at f l G t m;rw[aR v]at m;have U:=R.r1 a s.k C.k (iS o).2 (iS v).2 f G t;subst m;obtain⟨Q,S⟩:=P rfl U;rw[Q];exact R.r3 z b _ _ _ S j p
         ·rw[pW,aN v]at f l G t m;rw[aN v]at m;subst m;obtain⟨rfl,rfl⟩:=O (show iP≠gV by decide);exact R.lt a b _ _ _ (iS o).2 f G t j p
     ·cases w:kG (fC T n) T s with
      |none=>rw[w]at h;cases h
      |some r=>obtain⟨y,C⟩:=r;rw[w]at h;simp only[]at h;have K:=Ry R d;obtain⟨D,q⟩:=Oz R K s.k _ _ _ _ _ h E;obtain⟨_,t,_⟩:=K _ _ _ w D;exact⟨F,q t⟩
def FT:List Nat:=[0,120,123,242,245,364,367,486,489,608,611,730,733,852,855,974,977,1572,1590,2304,2322,3036,3054,3768,3786,4500,4518,5232,5250,5964,5982,9552,9660,13944,14052,18336,18444,22728,22836,27120,27228,31512,31620,35904,36012,57432,58080,83784,84432,110136,110784,136488,137136,162840,163488,189192,189840,215544,216192,344712,348600,502824,506712,660936,664824,819048,822936,977160,981048,1135272,1139160,1293384,1297272,2068392,2091720,3017064,3040392,3965736,3989064,4914408,4937736,5863080,5886408,6811752,6835080,7760424,7783752,12410472,12550440,18102504,18242472,23794536,23934504,29486568,29626536,35178600,35318568,40870632,41010600,46562664,46702632,74462952,75302760,108615144,109454952,142767336,143607144,176919528,177759336,211071720,211911528,245223912,246063720,279376104,280215912,446777832,451816680,651690984,656729832,856604136,861642984,1061517288,1066556136,1266430440,1271469288,1471343592,1476382440,1676256744,1681295592,2680667112,2710900200,3910146024,3940379112,5139624936,5169858024,6369103848,6399336936,7598582760,7628815848,8828061672,8858294760,10057540584,10087773672,16084002792,16265401320,23460876264,23642274792,30837749736,31019148264,38214623208,38396021736,45591496680,45772895208,52968370152,53149768680,60345243624,60526642152,96504016872,97592408040,140765257704,141853648872,185026498536,186114889704,229287739368,230376130536,273548980200,274637371368,317810221032,318898612200,362071461864,363159853032,579024101352,585554448360,844591546344,851121893352,1110158991336,1116689338344,1375726436328,1382256783336,1641293881320,1647824228328,1906861326312,1913391673320,2172428771304,2178959118312,3474144608232,3513326690280,5067549278184,5106731360232,6660953948136,6700136030184,8254358618088,8293540700136,9847763288040,9886945370088,11441167957992,11480350040040,13034572627944,13073754709992,20844867649512,21079960141800,30405295669224,30640388161512,39965723688936,40200816181224,49526151708648,49761244200936,59086579728360,59321672220648,68647007748072,68882100240360,78207435767784,78442528260072,125069205897192,126479760850920,182431774015464,183842328969192,239794342133736,241204897087464,297156910252008,298567465205736,354519478370280,355930033324008,411882046488552,413292601442280,469244614606824,470655169560552,750415235383272,758878565105640,1094590644092904,1103053973815272,1438766052802536,1447229382524904,1782941461512168,1791404791234536,2127116870221800,2135580199944168,2471292278931432,2479755608653800,2815467687641064,2823931017363432,4502491412299752,4553271390633960,6567543864557544,6618323842891752,8632596316815336,8683376295149544,10697648769073128,10748428747407336,12762701221330920,12813481199665128,14827753673588712,14878533651922920,16892806125846504,16943586104180712,27014948473798632,27319628343803880,39405263187345384,39709943057350632,51795577900892136,52100257770897384,64185892614438888,64490572484444136,76576207327985640,76880887197990888,88966522041532392,89271201911537640,101356836755079144,101661516625084392,162089690842791912,163917770062823400,236431579124072424,238259658344103912,310773467405352936,312601546625384424,385115355686633448,386943434906664936,459457243967913960,461285323187945448,533799132249194472,535627211469225960,608141020530474984,609969099750506472,972538145056751592,983506620376940520,1418589474744434664,1429557950064623592,1864640804432117736,1875609279752306664,2310692134119800808,2321660609439989736,2756743463807483880,2767711939127672808,3202794793495166952,3213763268815355880,3648846123182850024,3659814598503038952,5835228870340509672,5901039722261643240,8511536848466608104,8577347700387741672]
def MC(c:Nat):List Nat->List Nat->Bool
 |x::h,y::e=>Nat.ble (x+c) y&&MC c h e
 |[],_=>true
 |_,[]=>true
def Xf:List Nat->Bool
 |[]=>true
 |x::t=>MC (x+2) (FT.drop 1) (t.drop 1)&&Xf t
def Xg:List Nat->Bool
 |[]=>true
 |x::t=>MC (6*x) (FT.drop 1) (t.drop 13)&&Xg t
theorem Vh:Xf (FT.drop 1)=true:=by decide+kernel
theorem Vi:Xg (FT.drop 1)=true:=by decide+kernel
theorem Lt:MC 0 FT (FT.drop 1)=true:=by decide+kernel
theorem Rz:FT.length=301:=by decide+kernel
def FF(j:Nat):Nat:=FT.getD j 0
theorem MD{j:Nat}(h:j<=300):FT[j]? =some (FF j):=by unfold FF;rw[aW,aP (by rw[Rz];omega)];rfl
theorem WY{c:Nat}:∀{e w:aC},MC c e w=true->∀{j x y:Nat},e[j]? =some x->w[j]? =some y->x+c<=y
 |[],_,_,_,_,_,h,_=>by simp at h
 |_::_,[],_,_,_,_,_,h=>by simp at h
 |a::e,b::w,h,j,x,y,h1,h2=>by
  rw[MC,cY]at h
  cases j with
  |zero=>simp only[FJ,dK]at h1 h2;subst h1 h2;exact Nat.le_of_ble_eq_true h.1
  |succ j=>rw[nC]at h1 h2;exact WY h.2 h1 h2
theorem Pb:∀{l:aC},Xf l=true->∀{i x:Nat},l[i]? =some x->MC (x+2) (FT.drop 1) (l.drop (i+2))=true
 |[],_,_,_,h=>by simp at h
 |a::l,h,i,x,h1=>by
  rw[Xf,cY]at h
  cases i with
  |zero=>simp only[FJ,dK]at h1;subst h1;exact h.1
  |succ i=>rw[nC]at h1;exact Pb h.2 h1
theorem Pc:∀{l:aC},Xg l=true->∀{i x:Nat},l[i]? =some x->MC (6*x) (FT.drop 1) (l.drop (i+14))=true
 |[],_,_,_,h=>by simp at h
 |a::l,h,i,x,h1=>by
  rw[Xg,cY]at h
  cases i with
  |zero=>simp only[FJ,dK]at h1;subst h1;exact h.1
  |succ i=>rw[nC]at h1;exact Pc h.2 h1
theorem RM{i j:Nat}(w:1<=i)(a:1<=j)(h:i+j+1<=300):FF i+FF j+2<=FF (i+j+1):=by have e:=Pb Vh (i:=i-1) (x:=FF i) (by rw[eJ,show 1+(i-1)=i from by omega];exact MD (by omega));have:=WY e (j:=j-1) (x:=FF j) (y:=FF (i+j+1)) (by rw[eJ,show 1+(j-1)=j from by omega];exact MD (by omega)) (by rw[eJ,eJ,show 1+(i-1+2+(j-1))=i+j+1 from by omega];exact MD h);omega
theorem Vj{i j:Nat}(w:1<=i)(a:1<=j)(h:i+j+13<=300):6*FF i+FF j<=FF (i+j+13):=by have e:=Pc Vi (i:=i-1) (x:=FF i) (by rw[eJ,show 1+(i-1)=i from by omega];exact MD (by omega));have:=WY e (j:=j-1) (x:=FF j) (y:=FF (i+j+13)) (by rw[eJ,show 1+(j-1)=j from by omega];exact MD (by omega)) (by rw[eJ,eJ,show 1+(i-1+14+(j-1))=i+j+13 from by omega];exact MD h);omega
theorem Yg{i:Nat}(h:i+1<=300):FF i<=FF (i+1):=by have:=WY Lt (j:=i) (x:=FF i) (y:=FF (i+1)) (MD (by omega)) (by rw[eJ,qT 1 i];exact MD h);omega
theorem ym{i j:Nat}(h:i<=j)(w:j<=300):FF i<=FF j:=by
 induction j with
 |zero=>rw[kW.1 h];exact aV _
 |succ j x=>
  rcases bZ i (j+1)with e|e
  ·exact bV (x (by omega) (by omega)) (Yg w)
  ·rw[show i=j+1 from by omega];exact aV _
theorem Sa:FF 300<9223372036854775806:=by decide+kernel
theorem Yh:FF 1=120:=by decide+kernel
theorem Yi:FF 2=123:=by decide+kernel
theorem Vk:∀(m:Nat) (x:Ex),mG m x->mG (m+1) x/\(∀j,cW j (m+1) x=cW j m x)/\cN (m+1) x=cN m x
 |0,_,h=>h.elim
 |m+1,x,h=>by
  have f:=Vk m
  have n:(∀y,y∈x.kids->mG m y)->(∀j,cW j (m+2) x=cW j (m+1) x)/\cN (m+2) x=cN (m+1) x:=λw=>by
   refine⟨λj=> ?_, ?_⟩
   ·have r:x.kids.map (cW j (m+1))=x.kids.map (cW j m):=dF λy h=>(f y (w y h)).2.1 j;have s:x.kids.dropLast.map (cW j (m+1))=x.kids.dropLast.map (cW j m):=dF λy h=>(f y (w y ((List.dropLast_sublist _).subset h))).2.1 j;have t:(x.kids.drop (x.kids.length-1)).map (cW j (m+1))=(x.kids.drop (x.kids.length-1)).map (cW j m):=dF λy h=>(f y (w y (List.mem_of_mem_drop h))).2.1 j;rw[cW,cW,r,s,t]
   ·have r:x.kids.map (cN (m+1))=x.kids.map (cN m):=dF λy h=>(f y (w y h)).2.2;rw[cN,cN,r]
  rcases h with⟨g,i,d⟩|⟨g,i,d⟩|⟨g,p,b,i,o,d,k⟩|⟨g,a,b,c,i,d,k,l,q⟩|⟨g,p,a,b,i,o,d,k,l⟩|⟨g,u,b,i,v,o,d,k,l,q⟩|⟨g,a,b,i,d,k,l⟩|⟨g,a,b,i,d,k,l⟩
  ·exact⟨aQ ⟨g,i,d⟩,n λy w=>by rw[d]at w;cases w⟩
  ·exact⟨aM (aQ ⟨g,i,d⟩),n λy w=>by rw[d]at w;cases w⟩
  ·exact⟨aM (aM (aQ ⟨g,p,b,i,o,d,(f b k).1⟩)),n λy w=>by rw[d,bF]at w;rw[w];exact k⟩
  ·refine⟨aM (aM (aM (aQ ⟨g,a,b,c,i,d,(f a k).1,(f b l).1,(f c q).1⟩))),n λy w=> ?_⟩;rw[d]at w;simp only[bH,cE,eK]at w;rcases w with rfl|rfl|rfl<;>assumption
  ·refine⟨aM (aM (aM (aM (aQ ⟨g,p,a,b,i,o,d,(f a k).1,(f b l).1⟩)))),n λy w=> ?_⟩;rw[d]at w;simp only[bH,cE,eK]at w;rcases w with rfl|rfl<;>assumption
  ·refine⟨aM (aM (aM (aM (aM (aQ ⟨g,u,b,i,v,o,d,k,λe z=>(f e (l e z)).1,(f b q).1⟩))))),n λy w=> ?_⟩;rw[d]at w;rcases cH.1 w with w|w
   ·exact l y w
   ·rw[bF.1 w];exact q
  ·refine⟨aM (aM (aM (aM (aM (aM (aQ ⟨g,a,b,i,d,(f a k).1,(f b l).1⟩)))))),n λy w=> ?_⟩;rw[d]at w;simp only[bH,cE,eK]at w;rcases w with rfl|rfl<;>assumption
  ·refine⟨aM (aM (aM (aM (aM (aM (aM ⟨g,a,b,i,d,(f a k).1,(f b l).1⟩)))))),n λy w=> ?_⟩;rw[d]at w;simp only[bH,cE,eK]at w;rcases w with rfl|rfl<;>assumption
theorem F5{m:Nat}{x:Ex}(h:mG m x):∀{e:Nat},m<=e->mG e x/\(∀w,cW w e x=cW w m x)/\cN e x=cN m x:=by
 intro e
 induction e with
 |zero=>intro a;rw[kW.1 a]at h;exact h.elim
 |succ k c=>
  intro a;rcases bZ m (k+1)with b|b
  ·obtain⟨d,f,g⟩:=c (by omega);obtain⟨i,j,l⟩:=Vk k x d;exact⟨i,λw=>(j w).trans (f w),l.trans g⟩
  ·rw[show k+1=m from by omega];exact⟨h,λ_=>rfl,rfl⟩
def eP(T:List fI)(k:Nat):Nat:=(tk T k).pos+(tk T k).s.length
def wd(w:aA):Prop:=w=bK\/w∈dL
def al(T:List fI)(k:Nat):Prop:=wd (tk T k).is\/(tk T k).is=dS
structure LX(T:List fI):Prop where
 p:∀k,(tk T k).pos<=300
 a:∀k,wd (tk T k).is\/(tk T k).is=dS\/(tk T k).is=cV\/(∃c,(tk T k).is=[c]/\c∈qX)->eP T k<=(tk T (k+1)).pos
 b:∀k,wd (tk T k).is->al T (k+1)->eP T k<(tk T (k+1)).pos
 c:∀k,(tk T k).is=dS->(tk T (k+1)).is=dS->eP T k<(tk T (k+1)).pos
 nm:∀k,(tk T k).is=bK->MU (tk T k).s
 nu:∀k,(tk T k).is=dS->UP (tk T k).s
 kw:∀k,(tk T k).is∈dL->(tk T k).s=(tk T k).is
 ar:∀k,(tk T k).is=cV->(tk T k).s.length=2
 sg:∀k c,(tk T k).is=[c]->c∈qX->(tk T k).s.length=1
theorem lv{a:aA}(h:MU a):1<=a.length:=by obtain⟨c,q,e,_⟩:=h.2.2.1;rw[e];simp
theorem Fp{a:aA}(h:UP a):1<=a.length:=by obtain⟨c,q,e,_⟩:=h.2.1;rw[e];simp
def bg(T:List fI)(k:Nat):Prop:=al T k\/(tk T k).is=eD
def en(T:List fI)(k:Nat):Prop:=(tk T k).is=bK\/(tk T k).is=dS\/(tk T k).is=eO
def Yj(T:List fI)(k:Nat):Bool:=decide ((tk T k).is=bK)||decide ((tk T k).is∈dL)||decide ((tk T k).is=dS)
theorem qs{T:List fI}{k:Nat}:Yj T k=true↔al T k:=by unfold Yj al wd;simp only[l8,cX]
def cr(T:List fI)(k:Nat):Nat:=if Yj T k=true then 0 else 1
theorem bm{T:List fI}{k:Nat}(h:al T k):cr T k=0:=aR (qs.2 h)
theorem Fq{T:List fI}{k:Nat}(h:¬al T k):cr T k=1:=aN (λe=>h (qs.1 e))
theorem UQ{T:List fI}{k:Nat}(h:(tk T k).is=eD\/(tk T k).is=eO):cr T k=1:=Fq (λe=>by
 unfold al wd at e
 rcases h with h|h<;>rw[h]at e<;>exact absurd e (by decide))
def YW(T:List fI)(x:Ex)(k h:Nat):Prop:=k<h/\bg T k/\en T (h-1)/\∃m j,mG m x/\cN m x<=h-k/\1<=j/\(tk T k).pos+j+cr T k+cr T (h-1)<=eP T (h-1)/\cW 6 m x<=FF j/\((tk T (h-1)).is=dS->j+1<=300->cW 6 m x+122<=FF (j+1))
def Vl(T:List fI)(x:Ex)(k h:Nat):Prop:=k<h/\(tk T k).is=iP/\en T (h-1)/\x.op=gV/\x.names≠[]/\x.names.Nodup/\(∀n,n∈x.names->MU n)/\x.kids.length=x.names.length/\∃m j,(∀y,y∈x.kids->mG m y)/\x.names.length+(x.kids.map (cN m)).sum<=h-k/\1<=j/\(tk T k).pos+10+j<=eP T (h-1)/\(x.kids.map (cW 6 m)).sum<=FF j
theorem LX.next{T:List fI}(h:LX T){k:Nat}(w:en T (k-1))(x:0<k):eP T (k-1)<=(tk T k).pos:=by
 have:=h.a (k-1) (by
  rcases w with e|e|e
  ·exact aQ (aQ e)
  ·exact aM (aQ e)
  ·exact aM (aM (aM ⟨41,e,by decide⟩)))
 rwa[show k-1+1=k from by omega]at this
theorem LX.key{T:List fI}(h:LX T){k:Nat}{w:aA}(e:(tk T k).is=w)(d:w∈dL):(tk T k).pos+w.length<=(tk T (k+1)).pos/\(al T (k+1)->(tk T k).pos+w.length+1<=(tk T (k+1)).pos):=by
 have g:=h.kw k (by rw[e];exact d);have x:eP T k=(tk T k).pos+w.length:=by unfold eP;rw[g,e]
 have c:wd (tk T k).is:=aM (by rw[e];exact d);exact⟨by rw[<-x];exact h.a k (aQ c),λf=>by rw[<-x];exact h.b k c f⟩
theorem LX.sign{T:List fI}(h:LX T){k:Nat}{c:UInt8}(e:(tk T k).is=[c])(x:c∈qX):(tk T k).pos+1<=(tk T (k+1)).pos/\eP T k=(tk T k).pos+1:=by
 have w:eP T k=(tk T k).pos+1:=by unfold eP;rw[h.sg k c e x]
 exact⟨by rw[<-w];exact h.a k (aM (aM (aM ⟨c,e,x⟩))),w⟩
theorem LX.name{T:List fI}(h:LX T){k:Nat}(e:(tk T k).is=bK):(tk T k).pos+1<=(tk T (k+1)).pos:=by have:=h.a k (aQ (aQ e));have:=lv (h.nm k e);unfold eP at*;omega
theorem LX.gap{T:List fI}(h:LX T){k:Nat}{w:aA}(e:(tk T k).is=w)(b:w∈dL)(x:bg T (k+1)):(tk T k).pos+w.length+1<=(tk T (k+1)).pos+cr T (k+1):=by
 have a:=h.key e b;rcases x with x|x
 ·have:=a.2 x;omega
 ·rw[UQ (aQ x)];have:=a.1;omega
theorem NY{T:List fI}{k:Nat}(h:(tk T k).is=bK):al T k:=aQ (aQ h)
theorem yU{T:List fI}{k:Nat}{w:aA}(h:(tk T k).is=w)(e:w∈dL):al T k:=aQ (aM (by rw[h];exact e))
theorem WZ{x y:Ex}{h e:Nat}(g:mG h x)(i:mG e y):∃m,mG m x/\mG m y/\(∀q,cW q m x=cW q h x)/\(∀q,cW q m y=cW q e y)/\cN m x=cN h x/\cN m y=cN e y:=by obtain⟨w,a,b⟩:=F5 g (gI h e);obtain⟨c,d,f⟩:=F5 i (gJ h e);exact⟨_,w,c,a,d,b,f⟩
theorem Sb{T:List fI}(L:LX T)(k:Nat)(h:(tk T k).is=bK\/(tk T k).is=dS):YW T ⟨(tk T k).is,[(tk T k).s],[],(tk T k).pos⟩ k (k+1):=by
 refine⟨qS _, ?_, ?_,1,1, ?_, ?_,aV _, ?_, ?_, ?_⟩
 ·exact aQ (h.elim (λh=>aQ (aQ h)) aM)
 ·exact h.elim aQ (λh=>aM (aQ h))
 ·exact h.elim (λh=>aQ ⟨h,⟨_,rfl,L.nm k h⟩,rfl⟩) (λh=>aM (aQ ⟨h,⟨_,rfl,L.nu k h⟩,rfl⟩))
 ·simp[cN]
 ·rw[show k+1-1=k from rfl,bm (h.elim (λh=>aQ (aQ h)) aM)];unfold eP;rcases h with h|h
  ·have:=lv (L.nm k h);omega
  ·have:=Fp (L.nu k h);omega
 ·rw[Yh];rcases h with h|h
  ·rw[cW,aR h];exact aV _
  ·rw[cW];simp only[];rw[h,aN (by decide),aR rfl];decide
 ·intro e _;rw[show k+1-1=k from rfl]at e;rw[show 1+1=2 from rfl,Yi,cW];simp only[];rw[e,aN (by decide),aR rfl];decide
theorem Yk{T:List fI}(L:LX T){x:Ex}{k h:Nat}(a:(tk T k).is=eD)(g:YW T x (k+1) h)(w:(tk T h).is=eO):YW T x k (h+1):=by obtain⟨i,l,b,m,j,c,n,d,o,f,p⟩:=g;have r:=L.sign a (by decide);have s:=L.sign w (by decide);have q:=L.next b (by omega);refine⟨by omega,aM a,aM (aM w),m,j,c,by omega,d, ?_,f,λe=>absurd (w.symm.trans e) (by decide)⟩;rw[show h+1-1=h from rfl,UQ (aQ a),UQ (aM w)];omega
theorem Sc{T:List fI}(L:LX T){x y:Ex}{k b h:Nat}(a:(tk T k).is=eD)(t:YW T x (k+1) b)(u:(tk T b).is=iQ)(v:YW T y (b+1) h)(w:(tk T h).is=eO):YW T ⟨eS,[],[x,y],(tk T k).pos⟩ k (h+1):=by
 obtain⟨C,D,c,O,z,d,E,f,F,G,_⟩:=t;obtain⟨H,I,g,P,A,i,J,j,K,M,_⟩:=v;have S:=L.sign a (by decide);have U:=L.sign u (by decide);have V:=L.sign w (by decide);have Q:=L.next c (by omega);have R:=L.next g (by omega);have N:=L.p (h+1);obtain⟨m,l,n,o,q,r,s⟩:=WZ d i;refine⟨by omega,aM a,aM (aM w),m+1,z+A+1,aM (aM (aM (aM (aM (aM (aM ⟨rfl,x,y,rfl,rfl,l,n⟩)))))), ?_,by omega, ?_, ?_,λe=>absurd (w.symm.trans e) (by decide)⟩
 ·show 0+(cN m x+(cN m y+0))<=_;rw[r,s];omega
 ·rw[show h+1-1=h from rfl,UQ (aQ a),UQ (aM w)];omega
 ·have:=RM f j (by omega);show 1+(cW 6 m x+(cW 6 m y+0))<=_;rw[o,q];omega
theorem Vm{T:List fI}(L:LX T){x y:Ex}{k w f:Nat}(O:YW T x k w)(P:YW T y w f)(q:qp T y w f):YW T ⟨oO,[],[x,y],x.pos⟩ k f:=by
 obtain⟨Y,s,E,X,a,F,Z,t,a7,a8,G⟩:=O;obtain⟨b1,b2,o,n,d,u,b5,H,b7,b8,I⟩:=P;have n1:=L.next E (by omega);have n2:=L.next o (by omega);have hp:=L.p f;obtain⟨m,v,z,J,K,M,N⟩:=WZ F u
 have C:cN (m+1) ⟨oO,[],[x,y],x.pos⟩<=f-k:=by show 0+(cN m x+(cN m y+0))<=_;rw[M,N];omega
 have r:cW 6 (m+1) ⟨oO,[],[x,y],x.pos⟩=2+(cW 6 X x+cW 6 n y):=by rw[<-J,<-K];rfl
 have l:w-1+1=w:=by omega
 by_cases hg:(tk T w).pos+cr T (w-1)+cr T w<=eP T (w-1)
 ·have S:al T w:=D9 λh=>by have:cr T w=1:=Fq h;omega
  have U:al T (w-1):=D9 λh=>by have:cr T (w-1)=1:=Fq h;omega
  have D:(tk T (w-1)).is=dS:=by
   rcases U with h|h
   ·have:=L.b (w-1) h (by rw[l];exact S);rw[l]at this;omega
   ·exact h
  rcases q with q|⟨rfl,W,g|g⟩
  ·exfalso;have:cr T w=1:=UQ (aQ q);omega
  ·have V:cW 6 n y=120:=by
    cases n with
    |zero=>exact u.elim
    |succ n=>rw[cW,aR (by rw[W];exact g)]
   refine⟨by omega,s,o,m+1,a+d,aM (aM (aM (aM (aM (aM (aQ ⟨rfl,x,y,rfl,rfl,v,z⟩)))))),C,by omega, ?_, ?_,λe=>absurd (g.symm.trans e) (by decide)⟩
   ·omega
   ·rw[r,V];have A:=G D (by omega);have Q:=ym (i:=a+1) (j:=a+d) (by omega) (by omega);omega
  ·exfalso;have:=L.c (w-1) D (by rw[l];exact g);rw[l]at this;omega
 ·have A:=λh=>RM t H (i:=a) (j:=d) h;refine⟨by omega,s,o,m+1,a+d+1,aM (aM (aM (aM (aM (aM (aQ ⟨rfl,x,y,rfl,rfl,v,z⟩)))))),C,by omega,by omega, ?_,λe h=> ?_⟩
  ·have:=A (by omega);rw[r];omega
  ·rw[r];have Q:=I e (by omega);have R:=RM (i:=a) (j:=d+1) t (by omega) (by omega);rw[show a+(d+1)+1=a+d+1+1 from by omega]at R;omega
theorem Yl{T:List fI}(L:LX T){b:Ex}{k c:Nat}(w:(tk T k).is=dO)(x:(tk T (k+1)).is=bK)(g:(tk T (k+2)).is=cV)(u:YW T b (k+3) c):YW T ⟨dO,[(tk T (k+1)).s],[b],(tk T k).pos⟩ k c:=by
 obtain⟨C,D,f,m,j,n,E,o,F,G,q⟩:=u;have y:=(L.key w (by decide)).2 (NY x);have z:=L.name x;have d:=L.a (k+2) (aM (aM (aQ g)));have A:=L.ar _ g;have I:=L.next f (by omega);have H:=L.p c;rw[show dO.length=3 from rfl]at y;unfold eP at d;rw[A]at d;have r:k+2+1=k+3:=rfl;rw[r]at d;have t:k+1+1=k+2:=rfl;rw[t]at z
 have l:∀{i:Nat},1<=i->i+7<=300->FF i+2<=FF (i+7):=λ{i} v J=>by have:=RM (i:=i) (j:=6) v (by decide) (by omega);rw[show i+6+1=i+7 from rfl]at this;omega
 refine⟨by omega,aQ (yU w (by decide)),f,m+1,j+7,aM (aM (aQ ⟨rfl,_,b,rfl,L.nm _ x,rfl,n⟩)), ?_,by omega, ?_, ?_,λe h=> ?_⟩
 ·show 1+(cN m b+0)<=_;omega
 ·rw[bm (yU w (by decide))];omega
 ·show 2+(cW 6 m b+0)<=_;have:=l (i:=j) o (by omega);omega
 ·show 2+(cW 6 m b+0)+122<=_;have:=l (i:=j+1) (by omega) (by omega);have:=q e (by omega);rw[show j+7+1=j+1+7 from by omega];omega
theorem Vn{T:List fI}(L:LX T){c a b:Ex}{k l n o:Nat}(g:(tk T k).is=xA)(V:YW T c (k+1) l)(W:(tk T l).is=pJ)(X:YW T a (l+1) n)(Y:(tk T n).is=oN)(Z:YW T b (n+1) o):YW T ⟨xA,[],[c,a,b],(tk T k).pos⟩ k o:=by
 obtain⟨a1,A,C,m1,w,D,a5,q,a7,a8,_⟩:=V;obtain⟨b1,E,F,m2,x,G,b5,r,b7,b8,_⟩:=X;obtain⟨c1,H,s,f,d,I,c5,J,c7,c8,K⟩:=Z;have s1:=L.gap g (by decide) A;have s2:=L.gap W (by decide) E;have s3:=L.gap Y (by decide) H;rw[show xA.length=2 from rfl]at s1;rw[show pJ.length=4 from rfl]at s2;rw[show oN.length=4 from rfl]at s3;have n1:=L.next C (by omega);have n2:=L.next F (by omega);have n3:=L.next s (by omega);have hp:=L.p o;obtain⟨m,M,N,t,u,O,P⟩:=WZ D G;obtain⟨Q,v,R⟩:=F5 M (gI m f);obtain⟨S,y,U⟩:=F5 N (gI m f);obtain⟨i1,z,i3⟩:=F5 I (gJ m f);refine⟨by omega,aQ (yU g (by decide)),s,max m f+1,w+x+d+13,aM (aM (aM (aQ ⟨rfl,c,a,b,rfl,rfl,Q,S,i1⟩))), ?_,by omega, ?_, ?_,λe h=> ?_⟩
 ·show 0+(cN _ c+(cN _ a+(cN _ b+0)))<=_;rw[R,U,i3,O,P];omega
 ·rw[bm (yU g (by decide))];omega
 ·show 1+(cW 6 _ c+(cW 6 _ a+(cW 6 _ b+0)))<=_;rw[v,y,z,t,u];have q1:=RM (i:=w) (j:=x) q r (by omega);have q2:=RM (i:=w+x+1) (j:=d) (by omega) J (by omega);have q3:=ym (i:=w+x+1+d+1) (j:=w+x+d+13) (by omega) (by omega);omega
 ·show 1+(cW 6 _ c+(cW 6 _ a+(cW 6 _ b+0)))+122<=_;rw[v,y,z,t,u];have q0:=K e (by omega);have q1:=RM (i:=w) (j:=x) q r (by omega);have q2:=RM (i:=w+x+1) (j:=d+1) (by omega) (by omega) (by omega);have q3:=ym (i:=w+x+1+(d+1)+1) (j:=w+x+d+13+1) (by omega) (by omega);omega
theorem Ym{T:List fI}(L:LX T){a b:Ex}{k f g:Nat}(c:(tk T k).is=iP)(d:(tk T (k+1)).is=bK)(F:(tk T (k+2)).is=DS)(G:YW T a (k+3) f)(H:(tk T f).is=BE)(I:YW T b (f+1) g):YW T ⟨iP,[(tk T (k+1)).s],[a,b],(tk T k).pos⟩ k g:=by
 obtain⟨Q,R,r,m1,w,t,S,l,U,V,_⟩:=G;obtain⟨W,u,n,m2,x,v,X,y,Y,Z,z⟩:=I;have M:=(L.key c (by decide)).2 (NY d);have N:=L.name d;have O:=(L.sign F (by decide)).1;have P:=L.gap H (by decide) u;rw[show iP.length=3 from rfl]at M;rw[show BE.length=2 from rfl]at P;rw[show k+1+1=k+2 from rfl]at N;rw[show k+2+1=k+3 from rfl]at O;have n1:=L.next r (by omega);have n2:=L.next n (by omega);have hp:=L.p g;obtain⟨m,A,C,o,q,D,E⟩:=WZ t v;refine⟨by omega,aQ (yU c (by decide)),n,m+1,w+x+9,aM (aM (aM (aM (aQ ⟨rfl,_,a,b,rfl,L.nm _ d,rfl,A,C⟩)))), ?_,by omega, ?_, ?_,λe h=> ?_⟩
 ·show 1+(cN m a+(cN m b+0))<=_;rw[D,E];omega
 ·rw[bm (yU c (by decide))];omega
 ·show 0+(cW 6 m a+(cW 6 m b+0))<=_;rw[o,q];have J:=RM (i:=w) (j:=x) l y (by omega);have K:=ym (i:=w+x+1) (j:=w+x+9) (by omega) (by omega);omega
 ·show 0+(cW 6 m a+(cW 6 m b+0))+122<=_;rw[o,q];have q0:=z e (by omega);have J:=RM (i:=w) (j:=x+1) l (by omega) (by omega);have K:=ym (i:=w+(x+1)+1) (j:=w+x+9+1) (by omega) (by omega);omega
theorem Yn{T:List fI}(L:LX T){a:Ex}{k b:Nat}(w:(tk T k).is=iP)(x:(tk T (k+1)).is=gV)(h:(tk T (k+2)).is=bK)(g:(tk T (k+3)).is=DS)(i:YW T a (k+4) b):Vl T ⟨gV,[(tk T (k+2)).s],[a],(tk T k).pos⟩ k b:=by
 obtain⟨t,u,c,e,m,d,v,f,z,A,_⟩:=i;have o:=(L.key w (by decide)).2 (yU x (by decide));have p:=(L.key x (by decide)).2 (NY h);have q:=L.name h;have r:=(L.sign g (by decide)).1;rw[show iP.length=3 from rfl]at o;rw[show gV.length=3 from rfl,show k+1+1=k+2 from rfl]at p;rw[show k+2+1=k+3 from rfl]at q;rw[show k+3+1=k+4 from rfl]at r;refine⟨by omega,w,c,rfl,by simp,by simp,λn j=>by rw[bF.1 j];exact L.nm _ h,rfl,e,m,λy l=>by rw[bF.1 l];exact d, ?_,f,by omega, ?_⟩
 ·show 1+(cN e a+0)<=_;omega
 ·show cW 6 e a+0<=_;omega
theorem Yo{T:List fI}(L:LX T){x a:Ex}{k w m:Nat}(H:Vl T x k w)(I:(tk T w).is=zV)(f:(tk T (w+1)).is=bK)(J:(tk T (w+1)).s∉x.names)(K:(tk T (w+2)).is=DS)(M:YW T a (w+3) m):Vl T ⟨gV,x.names++[(tk T (w+1)).s],x.kids++[a],x.pos⟩ k m:=by
 obtain⟨V,v,z,Z,a5,A,C,D,b,r,E,W,u,X,Y⟩:=H;obtain⟨b1,b2,o,c,t,F,b5,G,b7,b8,_⟩:=M;have R:=(L.key I (by decide)).2 (NY f);have S:=L.name f;have U:=(L.sign K (by decide)).1;rw[show zV.length=3 from rfl]at R;rw[show w+1+1=w+2 from rfl]at S;rw[show w+2+1=w+3 from rfl]at U;have n1:=L.next z (by omega);have n2:=L.next o (by omega);have g:=L.p m;obtain⟨O,P,Q⟩:=F5 F (gJ b c);have l:∀y,y∈x.kids->mG (max b c) y/\(∀q,cW q (max b c) y=cW q b y)/\cN (max b c) y=cN b y:=λy h=>F5 (E y h) (gI b c);refine⟨by omega,v,o,rfl,by simp, ?_,λn d=> ?_,by simp[D],max b c,r+t+1,λy h=> ?_, ?_,by omega,by omega, ?_⟩
 ·show(x.names++_).Nodup;rw[jX];refine⟨A,by simp,λp g q N=> ?_⟩;rw[bF.1 N];intro e;rw[e]at g;exact J g
 ·rcases cH.1 d with d|d
  ·exact C n d
  ·rw[bF.1 d];exact L.nm _ f
 ·rcases cH.1 h with h|h
  ·exact(l y h).1
  ·rw[bF.1 h];exact O
 ·show(x.names++_).length+((x.kids++[a]).map _).sum<=_;rw[bD,eR,oH,dF λy h=>(l y h).2.2];simp only[bU,cB,cG,fE,fG,qQ];rw[Q];omega
 ·show((x.kids++[a]).map _).sum<=_;rw[eR,oH,dF λy h=>(l y h).2.1 6];simp only[cG,fE,fG,qQ];rw[P];have q1:=RM (i:=r) (j:=t) u G (by omega);omega
theorem Yp{T:List fI}(L:LX T){x b:Ex}{k l m:Nat}(I:Vl T x k l)(J:(tk T l).is=BE)(K:YW T b (l+1) m):YW T ⟨gV,x.names,x.kids++[b],x.pos⟩ k m:=by
 obtain⟨R,o,u,W,v,z,A,C,w,d,D,S,n,U,V⟩:=I;obtain⟨X,E,r,a,f,F,Y,G,Z,b8,H⟩:=K;have Q:=L.gap J (by decide) E;rw[show BE.length=2 from rfl]at Q;have n1:=L.next u (by omega);have n2:=L.next r (by omega);have hp:=L.p m;obtain⟨N,O,P⟩:=F5 F (gJ w a);have g:∀y,y∈x.kids->mG (max w a) y/\(∀q,cW q (max w a) y=cW q w y)/\cN (max w a) y=cN w y:=λy c=>F5 (D y c) (gI w a)
 have s:cW 6 (max w a+1) ⟨gV,x.names,x.kids++[b],x.pos⟩=6*(x.kids.map (cW 6 w)).sum+cW 6 a b:=by rw[cW];simp only[];rw[aN (by decide),aN (by decide),aR trivial,O9,bD];simp only[bU,cB,jJ,sS,List.drop_left,cG,fE,fG,qQ,XN];rw[O,dF λy c=>(g y c).2.1 6]
 refine⟨by omega,aQ (yU o (by decide)),r,max w a+1,d+f+13,aM (aM (aM (aM (aM (aQ ⟨rfl,x.kids,b,v,z,A,rfl,C,λe M=>(g e M).1,N⟩))))), ?_,by omega, ?_, ?_,λe h=> ?_⟩
 ·show x.names.length+((x.kids++[b]).map _).sum<=_;rw[eR,oH,dF λy c=>(g y c).2.2];simp only[cG,fE,fG,qQ];rw[P];omega
 ·rw[bm (yU o (by decide))];omega
 ·rw[s];have t:=Vj (i:=d) (j:=f) n G (by omega);omega
 ·rw[s];have q0:=H e (by omega);have t:=Vj (i:=d) (j:=f+1) n (by omega) (by omega);rw[show d+(f+1)+13=d+f+13+1 from by omega]at t;omega
theorem Fr{T:List fI}(L:LX T):YR T (YW T) (Vl T):=
 ⟨Sb L,λ_ _ _ h e w=>Yk L h e w,λ_ _ _ _ _ h e w x a=>Sc L h e w x a,λ_ _ _ _ _ h e w=>Vm L h e w,λ_ _ _ h e w x=>Yl L h e w x,λ_ _ _ _ _ _ _ h e w x a b=>Vn L h e w x a b,λ_ _ _ _ _ h e w x a b=>Ym L h e w x a b,λ_ _ _ h e w x a=>Yn L h e w x a,λ_ _ _ _ _ h e w x a b=>Yo L h e w x a b,λ_ _ _ _ _ h e w=>Yp L h e w⟩
theorem Fs{T:List fI}(L:LX T){n k:Nat}{x:Ex}{e:St}(h:fC T n ⟨k,-1⟩=some (x,e))(b:e.bad<0):∃m,mG m x/\cN m x<=e.k/\cW 6 m x<9223372036854775806:=by obtain⟨_,y⟩:=Pa (Fr L) n _ _ _ h b;obtain⟨c,d,w,m,j,a,f,g,l,o,_⟩:=y;have r:=L.next w (by omega);have q:=L.p e.k;have:=ym (i:=j) (j:=300) (by omega) (aV _);have:=Sa;exact⟨m,a,by omega,by omega⟩
structure TF(l:aA)(t:fI)(r:Nat):Prop where
 e:t.is≠eE->t.is≠dZ->t.pos+t.s.length=r/\t.pos<r
 w:wd t.is->(∀c,l[r]? =some c->eI c=false)/\∃c,l[t.pos]? =some c/\eI c=true
 u:t.is=dS->(∀c,l[r]? =some c->qO c=false)/\∃c,l[t.pos]? =some c/\qO c=true
 nm:t.is=bK->MU t.s
 nu:t.is=dS->UP t.s
 kw:t.is∈dL->t.s=t.is
 ar:t.is=cV->t.s.length=2
 sg:∀c,t.is=[c]->c∈qX->t.s.length=1
theorem yV{l:aA}{i k:Nat}(h:i<=k)(e:k<=l.length):(cut l i k).length=k-i/\∀m,m<k-i->(cut l i k)[m]? =l[i+m]? :=by refine⟨by rw[cut,qP,gK];omega,λm w=> ?_⟩;rw[cut,eJ,gD,aR (by omega)]
theorem qt{l:aA}{p:UInt8->Bool}{i:Nat}(g:i<=l.length):∀d,d∈cut l i (upto p l i)->p d=true:=λd f=>by obtain⟨w,x⟩:=kN p l i g;obtain⟨m,h⟩:=List.mem_iff_getElem?.1 f;have a:=(aU.1 h).1;rw[(yV w x).1]at a;rw[(yV w x).2 m a]at h;obtain⟨c,e,b⟩:=my p l i (i+m) (by omega) (by omega);rw[h]at e;rw[aY e];exact b
theorem US{l:aA}{i k:Nat}{c:UInt8}(h:i<k)(x:k<=l.length)(e:l[i]? =some c):∃q,cut l i k=c::q:=by
 have:=(yV (jW h) x).2 0 (by omega);rw[XN,e]at this
 cases w:cut l i k with
 |nil=>rw[w]at this;cases this
 |cons a q=>rw[w]at this;simp at this;rw[this];exact⟨q,rfl⟩
theorem qu{l:aA}{p:UInt8->Bool}{i:Nat}{c:UInt8}(e:l[i]? =some c)(x:p c=true):i<upto p l i:=by
 rcases bZ i (upto p l i)with h|h
 ·exact h
 ·have w:=(aU.1 e).1;have a:=(kN p l i (jW w)).1;have:=zU p l i c (by rw[show upto p l i=i from by omega];exact e);rw[x]at this;cases this
theorem D6:∀w,w∈dL->w≠bK/\w≠dS/\w≠eE/\w≠dZ/\w≠cV/\2<=w.length:=by decide
theorem F6{l:aA}{J r:Nat}{k:aA}(h:lO l J=(k,r)):fL dL l J=(⟨if(if(k=bK\/k=dS)/\r-J>8 then dZ else k)=bK/\cut l J r∈dL then cut l J r else(if(k=bK\/k=dS)/\r-J>8 then dZ else k),cut l J r,J⟩,r):=by unfold fL;rw[h]
theorem Vo{l:aA}{J:Nat}(o:J<=l.length){t:fI}{r:Nat}(h:fL dL l J=(t,r)):t.pos=J/\J<=r/\r<=l.length/\TF l t r:=by
 have b:∀k r,lO l J=(k,r)->_:=λk r b=>F6 b;unfold lO at b
 have A:∀t:fI,t.is=dZ\/t.is=eE->∀r,TF l t r:=λt z r=>by
  have n:¬(t.is∈dL):=λI=>by have:=D6 _ I;rcases z with e|e<;>rw[e]at this<;>exact absurd this (by decide)
  have y:∀w,w≠dZ->w≠eE->t.is≠w:=λw a m e=>z.elim (λh=>a (e.symm.trans h)) (λh=>m (e.symm.trans h));exact⟨λa m=>(z.elim m a).elim,λa=>(a.elim (y _ (by decide) (by decide)) n).elim,λa=>(y _ (by decide) (by decide) a).elim,λa=>(y _ (by decide) (by decide) a).elim,λa=>(y _ (by decide) (by decide) a).elim,λa=>(n a).elim,λa=>(y _ (by decide) (by decide) a).elim,λc a=>(z.elim (λh=>by rw[h]at a;cases a) (λh=>by rw[h]at a;cases a))⟩
 cases e:l[J]? with
 |none=>rw[e]at b;rw[b _ _ rfl,show(if(eE=bK\/eE=dS)/\J-J>8 then dZ else eE)=eE from aN (λx=>absurd x.1 (by decide)),aN (λx=>absurd x.1 (by decide))]at h;cases h;exact⟨rfl,aV _,o,A _ (aM rfl) _⟩
 |some c=>
  have M:=(aU.1 e).1;rw[e]at b;simp only[]at b;by_cases a:low c=true
  ·rw[aR a]at b;rw[b _ _ rfl]at h;have f:=kN eI l J o;have s:=qu (p:=eI) e (by unfold eI;rw[a];rfl);have g:=yV (l:=l) f.1 f.2;have E:=qt (p:=eI) o;obtain⟨q,F⟩:=US s f.2 e;by_cases u:upto eI l J-J>8
   ·rw[show(if(bK=bK\/bK=dS)/\upto eI l J-J>8 then dZ else bK)=dZ from aR ⟨aQ rfl,u⟩,aN (λx=>absurd x.1 (by decide))]at h;cases h;exact⟨rfl,f.1,f.2,A _ (aQ rfl) _⟩
   ·rw[show(if(bK=bK\/bK=dS)/\upto eI l J-J>8 then dZ else bK)=bK from aN (λx=>u x.2)]at h;by_cases n:cut l J (upto eI l J)∈dL
    ·rw[aR ⟨rfl,n⟩]at h;cases h;obtain⟨K,G,O,P,L,H⟩:=D6 _ n;refine⟨rfl,f.1,f.2,λ_ _=>⟨?_,s⟩,λ_=>⟨λd v=>zU eI l J d v,c,e,by unfold eI;rw[a];rfl⟩,λx=>(G x).elim,λx=>(K x).elim,λx=>(G x).elim,λ_=>rfl,λx=>(L x).elim,λd x=> ?_⟩
     ·show J+(cut l J _).length=_;rw[g.1];omega
     ·simp only[]at x;rw[x]at H;simp at H
    ·rw[aN (λx=>n x.2)]at h;cases h;refine⟨rfl,f.1,f.2,λ_ _=>⟨?_,s⟩,λ_=>⟨λd v=>zU eI l J d v,c,e,by unfold eI;rw[a];rfl⟩,λx=>absurd (show bK=dS from x) (by decide),λ_=>⟨?_,n,⟨c,q,F,a⟩,E⟩,λx=>absurd (show bK=dS from x) (by decide),λx=>absurd (show bK∈dL from x) (by decide),λx=>absurd (show bK=cV from x) (by decide),λd x=>absurd (eC List.length x) (by simp[bK])⟩
     ·show J+(cut l J _).length=_;rw[g.1];omega
     ·show(cut l J _).length<=8;rw[g.1];omega
  ·rw[aN a]at b;by_cases m:qO c=true
   ·rw[aR m]at b;rw[b _ _ rfl]at h;have f:=kN qO l J o;have s:=qu (p:=qO) e m;have g:=yV (l:=l) f.1 f.2;have E:=qt (p:=qO) o;obtain⟨q,F⟩:=US s f.2 e;by_cases u:upto qO l J-J>8
    ·rw[show(if(dS=bK\/dS=dS)/\upto qO l J-J>8 then dZ else dS)=dZ from aR ⟨aM rfl,u⟩,aN (λx=>absurd x.1 (by decide))]at h;cases h;exact⟨rfl,f.1,f.2,A _ (aQ rfl) _⟩
    ·rw[show(if(dS=bK\/dS=dS)/\upto qO l J-J>8 then dZ else dS)=dS from aN (λx=>u x.2),aN (λx=>absurd x.1 (by decide))]at h;cases h;refine⟨rfl,f.1,f.2,λ_ _=>⟨?_,s⟩,λx=>absurd (show wd dS from x) (by unfold wd;decide),λ_=>⟨λd v=>zU qO l J d v,c,e,m⟩,λx=>absurd (show dS=bK from x) (by decide),λ_=>⟨?_,⟨c,q,F,m⟩,E⟩,λx=>absurd (show dS∈dL from x) (by decide),λx=>absurd (show dS=cV from x) (by decide),λd x=>absurd (eC List.length x) (by simp[dS])⟩
     ·show J+(cut l J _).length=_;rw[g.1];omega
     ·show(cut l J _).length<=8;rw[g.1];omega
   ·rw[aN m]at b;by_cases C:c=45/\l[J+1]? =some 62
    ·rw[aR C]at b;rw[b _ _ rfl,show(if(cV=bK\/cV=dS)/\J+2-J>8 then dZ else cV)=cV from aN (λx=>absurd x.1 (by decide)),aN (λx=>absurd x.1 (by decide))]at h;cases h;have N:=(aU.1 C.2).1;have g:=(yV (l:=l) (i:=J) (k:=J+2) (by omega) (by omega)).1;refine⟨rfl,by omega,by omega,λ_ _=>⟨?_,by show J<J+2;omega⟩,λx=>absurd (show wd cV from x) (by unfold wd;decide),λx=>absurd (show cV=dS from x) (by decide),λx=>absurd (show cV=bK from x) (by decide),λx=>absurd (show cV=dS from x) (by decide),λx=>absurd (show cV∈dL from x) (by decide),λ_=> ?_,λd x=>absurd (eC List.length x) (by simp[cV])⟩
     ·show J+(cut l J _).length=_;rw[g];omega
     ·show(cut l J _).length=_;rw[g];omega
    ·rw[aN C]at b;by_cases D:c∈qX
     ·rw[aR D]at b
      have j:[c]≠bK/\[c]≠dS/\[c]≠cV/\¬([c]∈dL):=by
       have:∀d,d∈qX->[d]≠bK/\[d]≠dS/\[d]≠cV/\¬([d]∈dL):=by decide
       exact this c D
      rw[b _ _ rfl,show(if([c]=bK\/[c]=dS)/\J+1-J>8 then dZ else [c])=[c]from aN (λx=>x.1.elim j.1 j.2.1),aN (λx=>j.1 x.1)]at h;cases h;have g:=(yV (l:=l) (i:=J) (k:=J+1) (by omega) (by omega)).1;refine⟨rfl,by omega,by omega,λ_ _=>⟨?_,by show J<J+1;omega⟩,λx=>(x.elim j.1 j.2.2.2).elim,λx=>(j.2.1 x).elim,λx=>(j.1 x).elim,λx=>(j.2.1 x).elim,λx=>(j.2.2.2 x).elim,λx=>(j.2.2.1 x).elim,λd _ _=> ?_⟩
      ·show J+(cut l J _).length=_;rw[g];omega
      ·show(cut l J _).length=_;rw[g];omega
     ·rw[aN D]at b;rw[b _ _ rfl,show(if(dZ=bK\/dZ=dS)/\J-J>8 then dZ else dZ)=dZ from aN (λx=>absurd x.1 (by decide)),aN (λx=>absurd x.1 (by decide))]at h;cases h;exact⟨rfl,aV _,o,A _ (aQ rfl) _⟩
theorem X0{l:aA}(N:l.length<=300):∀(f i:Nat),i<=l.length->l.length-i<f->LX (iO dL l f i)/\i<=(tk (iO dL l f i) 0).pos/\(wd (tk (iO dL l f i) 0).is->∃c,l[(tk (iO dL l f i) 0).pos]? =some c/\eI c=true)/\((tk (iO dL l f i) 0).is=dS->∃c,l[(tk (iO dL l f i) 0).pos]? =some c/\qO c=true)
 |0,i,_,h=>by omega
 |f+1,i,M,T=>by
  have z:=kN mS l i M;obtain⟨t,r,E⟩:∃t r,fL dL l (upto mS l i)=(t,r):=⟨_,_,rfl⟩;obtain⟨v,R,J,F⟩:=Vo z.2 E;have H:∀k,tk ([]:List fI) k=⟨[],[],0⟩:=ic;rw[iO,E];simp only[];by_cases m:t.is=dZ\/t.is=eE
  ·rw[aR m];refine⟨?_,by rw[iB,v];exact z.1,by rw[iB];exactλh=>(F.w h).2,by rw[iB];exactλh=>(F.u h).2⟩;have o:∀w,w≠dZ->w≠eE->t.is≠w:=λw d g e=>m.elim (λh=>d (e.symm.trans h)) (λh=>g (e.symm.trans h));have C:¬(t.is∈dL):=λO=>by have:=D6 _ O;rcases m with e|e<;>rw[e]at this<;>exact absurd this (by decide)
   have G:¬wd t.is:=λh=>h.elim (o _ (by decide) (by decide)) C
   have j:∀k,(tk [t] k).is=t.is\/(tk [t] k).is=[]:=λk=>by
    cases k with
    |zero=>exact aQ (by rw[iB])
    |succ k=>exact aM (by rw[iT,H])
   have A:¬wd ([]:aA):=by unfold wd;decide
   have D:∀c,t.is≠[c]:=λc e=>m.elim (λh=>by rw[h]at e;cases e) (λh=>by rw[h]at e;cases e);refine⟨λk=> ?_,λk x=> ?_,λk x=> ?_,λk x=> ?_,λk x=> ?_,λk x=> ?_,λk x=> ?_,λk x=> ?_,λk c x=> ?_⟩
   ·cases k with
    |zero=>rw[iB,v];omega
    |succ k=>rw[iT,H];exact dG _
   ·exfalso;rcases j k with e|e<;>rw[e]at x
    ·rcases x with h|h|h|⟨c,h,_⟩
     ·exact G h
     ·exact o _ (by decide) (by decide) h
     ·exact o _ (by decide) (by decide) h
     ·exact D c h
    ·rcases x with h|h|h|⟨c,h,_⟩
     ·exact A h
     ·exact absurd h (by decide)
     ·exact absurd h (by decide)
     ·cases h
   ·exfalso;rcases j k with e|e<;>rw[e]at x
    ·exact G x
    ·exact A x
   ·exfalso;rcases j k with e|e<;>rw[e]at x
    ·exact o _ (by decide) (by decide) x
    ·exact absurd x (by decide)
   ·exfalso;rcases j k with e|e<;>rw[e]at x
    ·exact o _ (by decide) (by decide) x
    ·exact absurd x (by decide)
   ·exfalso;rcases j k with e|e<;>rw[e]at x
    ·exact o _ (by decide) (by decide) x
    ·exact absurd x (by decide)
   ·exfalso;rcases j k with e|e<;>rw[e]at x
    ·exact C x
    ·exact absurd x (by decide)
   ·exfalso;rcases j k with e|e<;>rw[e]at x
    ·exact o _ (by decide) (by decide) x
    ·exact absurd x (by decide)
   ·exfalso;rcases j k with e|e<;>rw[e]at x
    ·exact D c x
    ·cases x
  ·rw[aN m];obtain⟨K,S⟩:=F.e (λh=>m (aM h)) (λh=>m (aQ h));obtain⟨L,P,Q,I⟩:=X0 N f r J (by omega);have y:eP (t::iO dL l f r) 0=r:=by unfold eP;rw[iB];exact K
   refine⟨⟨λk=> ?_,λk x=> ?_,λk x q=> ?_,λk x n=> ?_,λk x=> ?_,λk x=> ?_,λk x=> ?_,λk x=> ?_,λk c x n=> ?_⟩,by rw[iB,v];exact z.1,by rw[iB];exactλh=>(F.w h).2,by rw[iB];exactλh=>(F.u h).2⟩
   all_goals cases k with
    |zero=> ?_
    |succ k=> ?_
   ·rw[iB,v];omega
   ·rw[iT];exact L.p k
   ·rw[y,iT];exact P
   ·rw[iT]at x⊢;unfold eP;rw[iT];exact L.a k x
   ·rw[y,iT];rw[iB]at x;unfold al at q;rw[iT]at q
    obtain⟨c,d,g⟩:∃c,l[(tk (iO dL l f r) 0).pos]? =some c/\eI c=true:=by
     rcases q with h|h
     ·exact Q h
     ·obtain⟨c,d,g⟩:=I h;exact⟨c,d,by unfold eI;rw[g,Bool.or_true]⟩
    rcases bZ r (tk (iO dL l f r) 0).pos with s|s
    ·exact s
    ·rw[show(tk (iO dL l f r) 0).pos=r from by omega]at d;rw[(F.w x).1 c d]at g;cases g
   ·rw[iT]at x⊢;unfold al at q;rw[iT]at q;unfold eP;rw[iT];exact L.b k x q
   ·rw[y,iT];rw[iB]at x;rw[iT]at n;obtain⟨c,d,g⟩:=I n;rcases bZ r (tk (iO dL l f r) 0).pos with s|s
    ·exact s
    ·rw[show(tk (iO dL l f r) 0).pos=r from by omega]at d;rw[(F.u x).1 c d]at g;cases g
   ·rw[iT]at x n⊢;unfold eP;rw[iT];exact L.c k x n
   ·rw[iB]at x⊢;exact F.nm x
   ·rw[iT]at x⊢;exact L.nm k x
   ·rw[iB]at x⊢;exact F.nu x
   ·rw[iT]at x⊢;exact L.nu k x
   ·rw[iB]at x⊢;exact F.kw x
   ·rw[iT]at x⊢;exact L.kw k x
   ·rw[iB]at x⊢;exact F.ar x
   ·rw[iT]at x⊢;exact L.ar k x
   ·rw[iB]at x⊢;exact F.sg c x n
   ·rw[iT]at x⊢;exact L.sg k c x n
def T8(a:aA):Nat:=a.foldl (λn c=>n*10+(c.toNat-48)) 0
theorem bt:∀(k n:Nat),n<k->T8 (Lib.decDigits n)=n
 |0,_,h=>by omega
 |k+1,n,h=>by
  rw[Lib.decDigits];split
  ·simp only[T8,fD,kY,zQ];omega
  ·have:=bt k (n/10) (by omega);unfold T8 at this⊢;rw[XM,this];simp only[fD,kY,zQ];omega
theorem yW(n:Nat):T8 (uR n)=n:=by rw[<-WM];exact bt (n+1) n (by omega)
theorem RN{a b:Nat}(h:uR a=uR b):a=b:=by rw[<-yW a,h,yW]
def yX(d:Nat)(a:aA):aA:=if a=uR (T8 a)then uR (T8 a+d)else a
theorem Lu(d n:Nat):yX d (uR n)=uR (n+d):=by unfold yX;rw[yW,aR rfl]
theorem qw{a:aA}(h:∀n,a≠uR n):yX d a=a:=aN (h _)
theorem NZ{a b:aA}(h:yX d a=yX d b):a=b:=by
 unfold yX at h;split at h<;>split at h
 ·rename_i e w;rw[e,w,show T8 a=T8 b from by have:=RN h;omega]
 ·rename_i e w;exact absurd (by rw[<-h,yW]) w
 ·rename_i e w;exact absurd (by rw[h,yW]) e
 ·exact h
def F2{h e:Type}(R:h->e->Prop):List h->List e->Prop
 |[],[]=>True
 |a::w,b::bs=>R a b/\F2 R w bs
 |_,_=>False
theorem F2.len{x c:Type}{R:x->c->Prop}:∀{w:List x} {e:List c},F2 R w e->e.length=w.length
 |[],[],_=>rfl
 |[],_::_,h=>h.elim
 |_::_,[],h=>h.elim
 |a::w,b::e,h=>by simp[F2.len h.2]
theorem F2.mono{x c:Type}{R S:x->c->Prop}(k:∀a b,R a b->S a b):∀{w:List x} {e:List c},F2 R w e->F2 S w e
 |[],[],_=>trivial
 |[],_::_,h=>h.elim
 |_::_,[],h=>h.elim
 |a::_as,b::_bs,h=>⟨k a b h.1,h.2.mono k⟩
theorem F2.map{w b e:Type}{R:w->b->Prop}(f:e->w)(g:e->b):∀{l:List e},(∀x,x∈l->R (f x) (g x))->F2 R (l.map f) (l.map g)
 |[],_=>trivial
 |a::_l,h=>⟨h a bG,F2.map f g λx c=>h x (bE _ c)⟩
theorem F2.app{b c:Type}{R:b->c->Prop}:∀{a w:List b} {e x:List c},F2 R a e->F2 R w x->F2 R (a++w) (e++x)
 |[],_,[],_,_,k=>k
 |[],_,_::_,_,h,_=>h.elim
 |_::_,_,[],_,h,_=>h.elim
 |_a::_as,_cs,_b::_bs,_ds,h,k=>⟨h.1,h.2.app k⟩
theorem F2.self{e:Type}{R:e->e->Prop}{l:List e}(h:∀x,x∈l->R x x):F2 R l l:=by have:=F2.map (R:=R) id id h;simpa using this
def xR(d:Nat)(k:Et):Et:=cT (k.num+d)
def Iw(d:Nat)(h:Et):Et:=⟨h.kind,h.name,h.num,h.kids.map (xR d)⟩
def kR(h e:bM):bM:=⟨h.rep++e.rep.map (·+h.rep.length),h.con++e.con.map (Option.map (Iw h.rep.length))⟩
structure ME(π:bM):Prop where
 len:π.con.length=π.rep.length
 lt:∀r,r∈π.rep->r<π.rep.length
theorem J5(h e:bM):(kR h e).rep.length=h.rep.length+e.rep.length:=by simp[kR]
theorem mN(h e:bM)(c:Nat):(kR h e).root (c+h.rep.length)=e.root c+h.rep.length:=by unfold bM.root kR;simp only[aW];rw[cD (by omega),sS,iH];cases e.rep[c]? <;>rfl
theorem KO{h:bM}(w:ME h)(e:bM)(c:Nat):(kR h e).is (c+h.rep.length)=(e.is c).map (Iw h.rep.length):=by unfold bM.is;rw[mN];unfold kR;simp only[aW];rw[cD (by rw[w.len];omega),w.len,sS,iH];cases e.con[e.root c]? <;>rfl
theorem X1{h:bM}(e:bM)(o:Option Et):kR h (e.new o)=(kR h e).new (o.map (Iw h.rep.length)):=by unfold kR bM.new;simp only[eR,jA,cG,fE,bD,fM,bM.mk.injEq,List.append_cancel_left_eq,mI,wR];omega
theorem Fv{e:bM}(x:ME e)(w:bM)(a b:Nat):kR e (w.link a b)=(kR e w).link (a+e.rep.length) (b+e.rep.length):=by
 unfold kR bM.link;simp only[eR,o9,bM.mk.injEq,wR];congr 1
 ·have:∀r,r∈e.rep->(if r=a+e.rep.length then b+e.rep.length else r)=r:=λr c=>aN (by have:=x.lt r c;omega);rw[dF this,List.map_id']
 ·apply dF;intro r _;simp only[Function.comp];by_cases h:r=a
  ·rw[aR h,aR (by omega)]
  ·rw[aN h,aN (by omega)]
theorem Lv{h:bM}(e:ME h)(w:bM)(c:Nat)(o:Option Et):kR h (w.put c o)=(kR h w).put (c+h.rep.length) (o.map (Iw h.rep.length)):=by unfold kR bM.put;simp only[bM.mk.injEq,true_and];rw[List.set_append_right _ _ (by rw[e.len];omega),e.len,sS,List.map_set]
def sR(d:Nat):Nat->Et->Et->Prop
 |0,_,_=>False
 |m+1,t,u=>(t=cT t.num/\u=cT (t.num+d))\/(t=vT t.name/\u=vT (yX d t.name))\/(t.kind≠cM/\t.kind≠[]/\u.kind=t.kind/\F2 (sR d m) t.kids u.kids)
def CK(e:bM):Prop:=∀r h,e.con.getD r none=some h->h.kind≠cM/\h.kind≠[]/\∀k,k∈h.kids->k=cT k.num
theorem CK.new{a:bM}(h:CK a){o:Option Et}(b:∀w,o=some w->w.kind≠cM/\w.kind≠[]/\∀k,k∈w.kids->k=cT k.num):CK (a.new o):=λr w e=>by
 simp only[bM.new,aW]at e;rcases tJ r a.con.length with x|x|x
 ·rw[bJ x]at e;exact h r w (by rw[aW];exact e)
 ·rw[x,eY]at e;exact b w e
 ·rw[bW (by simp;omega)]at e;cases e
theorem CK.put{σ:bM}(h:CK σ){c:Nat}{o:Option Et}(x:∀w,o=some w->w.kind≠cM/\w.kind≠[]/\∀k,k∈w.kids->k=cT k.num):CK (σ.put c o):=λr w e=>by
 simp only[bM.put,aW,mK]at e;split at e
 ·split at e
  ·exact x w e
  ·cases e
 ·exact h r w (by rw[aW];exact e)
theorem CK.kids{w:bM}(h:CK w){x:bM}(b:ME x)(c:Nat):fH (kR x w) (cT (c+x.rep.length))=(fH w (cT c)).map (xR x.rep.length)/\∀k,k∈fH w (cT c)->k=cT k.num:=by
 rw[lD,lD,KO b]
 cases e:w.is c with
 |none=>exact⟨rfl,λk a=>by cases a⟩
 |some nd=>exact⟨rfl,(h _ nd e).2.2⟩
theorem X2(d m c:Nat):sR d (m+1) (cT c) (cT (c+d)):=aQ ⟨rfl,rfl⟩
theorem qx{l:List Et}(h:∀k,k∈l->k=cT k.num):F2 (sR d 1) l (l.map (xR d)):=by have:=F2.map (R:=sR d 1) id (xR d) (l:=l) λk e=>aQ ⟨h k e,rfl⟩;simpa using this
theorem UT{J i:Nat->Nat->bM->Option (Option bM)}{w:bM}(k:∀a b c r d,J a b c=some r->i (a+w.rep.length) (b+w.rep.length) (kR w c)=some d->d=r.map (kR w)):
  ∀(f g:List Et) (c:bM) (r d:Option bM),hQ J f g c=some r->hQ i (f.map (xR w.rep.length)) (g.map (xR w.rep.length)) (kR w c)=some d->d=r.map (kR w)
 |[],[],c,r,d,h,x=>by rw[hQ]at h;simp only[fE,hQ]at x;cases h;cases x;rfl
 |[],_::_,_,_,_,h,_=>by rw[hQ]at h;cases h;simp;simp
 |_::_,[],_,_,_,h,_=>by rw[hQ]at h;cases h;simp;simp
 |a::f,b::g,c,r,d,h,x=>by
  rw[hQ]at h;simp only[cG,hQ]at x
  cases e:J a.num b.num c with
  |none=>rw[e]at h;cases h
  |some r1=>
   cases j:i (a.num+w.rep.length) (b.num+w.rep.length) (kR w c)with
   |none=>simp only[xR,cT,j]at x;cases x
   |some m=>
    have:=k _ _ _ _ _ e j;subst this;simp only[xR,cT,j]at x;rw[e]at h
    cases r1 with
    |none=>cases h;cases x;rfl
    |some l=>exact UT k f g l r d h x
theorem Fw{d:bM}(x:ME d):∀(f j a b:Nat) (w:bM) (r c:Option bM),jE f a b w=some r->jE j (a+d.rep.length) (b+d.rep.length) (kR d w)=some c->c=r.map (kR d)
 |0,_,_,_,_,_,_,h,_=>by rw[jE]at h;cases h
 |_+1,0,_,_,_,_,_,_,h=>by rw[jE]at h;cases h
 |f+1,j+1,a,b,w,r,c,h,e=>by
  rw[jE]at h e;rw[mN,mN,KO x,KO x,<-Fv x]at e;by_cases m:w.root a=w.root b
  ·rw[aR m]at h;rw[aR (by omega)]at e;cases h;cases e;rfl
  ·rw[aN m]at h;rw[aN (by omega)]at e
   cases i:w.is a with
   |none=>rw[i]at h e;cases h;cases e;rfl
   |some k=>
    cases l:w.is b with
    |none=>rw[i,l]at h e;cases h;cases e;simp only[jI];rw[Lv x];rfl
    |some nd=>
     rw[i,l]at h e;simp only[jI]at h e;by_cases g:k.kind=nd.kind
     ·rw[aR g]at h;rw[aR (show(Iw _ k).kind=(Iw _ nd).kind from g)]at e;exact UT (λa b w r c=>Fw x f j a b w r c) _ _ _ _ _ h e
     ·rw[aN g]at h;rw[aN (show¬(Iw _ k).kind=(Iw _ nd).kind from g)]at e;cases h;cases e;rfl
theorem RO{J:Nat->Nat->bM->Option (Option bM)}(f:∀a b w x,J a b w=some (some x)->CK w->CK x):∀(c d:List Et) (w x:bM),hQ J c d w=some (some x)->CK w->CK x
 |[],[],w,x,h,k=>by rw[hQ]at h;cases h;exact k
 |[],_::_,_,_,h,_=>by rw[hQ]at h;cases h;simp;simp
 |_::_,[],_,_,h,_=>by rw[hQ]at h;cases h;simp;simp
 |a::c,b::d,w,x,h,k=>by
  rw[hQ]at h
  cases e:J a.num b.num w with
  |none=>rw[e]at h;cases h
  |some r1=>
   rw[e]at h
   cases r1 with
   |none=>cases h
   |some g=>exact RO f c d g x h (f _ _ _ _ e k)
theorem qy:∀(f a b:Nat) (σ w:bM),jE f a b σ=some (some w)->CK σ->CK w
 |0,_,_,_,_,h,_=>by rw[jE]at h;cases h
 |f+1,a,b,σ,w,h,k=>by
  rw[jE]at h;split at h
  ·cases h;exact k
  ·cases x:σ.is a with
   |none=>rw[x]at h;cases h;exact k
   |some g=>
    cases c:σ.is b with
    |none=>rw[x,c]at h;cases h;exact CK.put (σ:=σ.link (σ.root a) (σ.root b)) k (λd e=>by cases e;exact k _ _ x)
    |some d=>
     rw[x,c]at h;simp only[]at h;split at h
     ·exact RO (λa b σ w=>qy f a b σ w) _ _ (σ.link (σ.root a) (σ.root b)) _ h k
     ·cases h
def bw(d:Nat)(h:List (Nat×Nat)):List (Nat×Nat):=h.map λp=>(p.1+d,p.2)
theorem bz(d:Nat):∀(h:List (Nat×Nat)) (r:Nat),dR (bw d h) (r+d)=dR h r
 |[],_=>rfl
 |p::l,r=>by
  have w:=bz d l r;show dR ((p.1+d,p.2)::bw d l) (r+d)=dR (p::l) r;rw[dR,dR,w];by_cases e:p.1=r
  ·rw[aR e,aR (by simp only[];omega)]
  ·rw[aN e,aN (by simp only[];omega)]
theorem cd(d:Nat):∀(h:List (Nat×Nat)) (r v:Nat),sI (bw d h) (r+d) v=bw d (sI h r v)
 |[],_,_=>rfl
 |p::l,r,v=>by
  have w:=cd d l r v;show sI ((p.1+d,p.2)::bw d l) (r+d) v=bw d (sI (p::l) r v);rw[sI,sI,w];by_cases e:p.1=r
  ·rw[aR e,aR (by simp only[];omega)];rfl
  ·rw[aN e,aN (by simp only[];omega)];rfl
theorem RP{L f:Nat->List (Nat×Nat)->Option (Option (List (Nat×Nat)))}{d:Nat}(i:∀c w r a,L c w=some r->f (c+d) (bw d w)=some a->a=r.map (bw d)):
  ∀(b:List Et) (w:List (Nat×Nat)) (r a:Option (List (Nat×Nat))),gQ L b w=some r->gQ f (b.map (xR d)) (bw d w)=some a->a=r.map (bw d)
 |[],w,r,a,h,x=>by rw[gQ]at h;simp only[fE,gQ]at x;cases h;cases x;rfl
 |c::b,w,r,a,h,x=>by
  rw[gQ]at h;simp only[cG,gQ]at x
  cases e:L c.num w with
  |none=>rw[e]at h;cases h
  |some r1=>
   cases g:f (c.num+d) (bw d w)with
   |none=>simp only[xR,cT,g]at x;cases x
   |some k=>
    have:=i _ _ _ _ e g;subst this;simp only[xR,cT,g]at x;rw[e]at h
    cases r1 with
    |none=>cases h;cases x;rfl
    |some j=>exact RP i b j r a h x
theorem qz{a:bM}(l:ME a){x:bM}(k:CK x):∀(f g c:Nat) (b:List (Nat×Nat)) (r d:Option (List (Nat×Nat))),jZ x f c b=some r->jZ (kR a x) g (c+a.rep.length) (bw a.rep.length b)=some d->d=r.map (bw a.rep.length)
 |0,_,_,_,_,_,h,_=>by rw[jZ]at h;cases h
 |_+1,0,_,_,_,_,_,h=>by rw[jZ]at h;cases h
 |f+1,g+1,c,b,r,d,h,w=>by
  rw[jZ]at h w;rw[mN,bz,(k.kids l c).1,show bw a.rep.length b++[(x.root c+a.rep.length,1)]=bw a.rep.length (b++[(x.root c,1)])from by simp[bw]]at w
  cases e:dR b (x.root c)with
  |some v=>
   rw[e]at h w
   match v,h,w with
   |1,h,w=>cases h;cases w;rfl
   |2,h,w=>cases h;cases w;rfl
   |0,h,_=>cases h
   |v+3,h,_=>cases h
  |none=>
   rw[e]at h w;simp only[]at h w
   cases i:gQ (jZ x f) (fH x (cT c)) (b++[(x.root c,1)])with
   |none=>rw[i]at h;cases h
   |some r1=>
    cases j:gQ (jZ (kR a x) g) ((fH x (cT c)).map (xR a.rep.length)) (bw a.rep.length (b++[(x.root c,1)]))with
    |none=>rw[j]at w;cases w
    |some r2=>
     have:=RP (λc b r d=>qz l k f g c b r d) _ _ _ _ i j;subst this;rw[i]at h;rw[j]at w
     cases r1 with
     |none=>cases h;cases w;rfl
     |some m=>cases h;cases w;simp only[jI];rw[cd]
theorem Lw{w:bM}(k:ME w){c:bM}(o:CK c){a b:Nat}{r l:Option bM}(h:jK a b c=some r)(x:jK (a+w.rep.length) (b+w.rep.length) (kR w c)=some l):l=r.map (kR w)/\∀m,r=some m->CK m:=by
 unfold jK at h x
 cases d:jE (c.rep.length+1) a b c with
 |none=>rw[d]at h;cases h
 |some r1=>
  cases f:jE ((kR w c).rep.length+1) (a+w.rep.length) (b+w.rep.length) (kR w c)with
  |none=>rw[f]at x;cases x
  |some r2=>
   have:=Fw k _ _ _ _ _ _ _ d f;subst this;rw[d]at h;rw[f]at x
   cases r1 with
   |none=>cases h;cases x;exact⟨rfl,λ_ e=>by cases e⟩
   |some n=>
    have j:=qy _ _ _ _ _ d o;simp only[jI]at h x
    cases g:jZ n (c.rep.length+1) a []with
    |none=>rw[g]at h;cases h
    |some r3=>
     cases i:jZ (kR w n) ((kR w c).rep.length+1) (a+w.rep.length) []with
     |none=>rw[i]at x;cases x
     |some p=>
      have:=qz k j _ _ _ [] _ _ g i;subst this;rw[g]at h;rw[i]at x
      cases r3 with
      |none=>cases h;cases x;exact⟨rfl,λ_ e=>by cases e⟩
      |some _=>cases h;cases x;exact⟨rfl,λ_ e=>by cases e;exact j⟩
theorem Fx{m:Nat}{t u:Et}(h:sR d (m+1) t u)(a:t.kind≠cM)(b:t.kind≠[]):u.kind=t.kind/\F2 (sR d m) t.kids u.kids:=by
 rcases h with⟨e,_⟩|⟨e,_⟩|⟨_,_,w,x⟩
 ·exact absurd (by rw[e];rfl) a
 ·exact absurd (by rw[e];rfl) b
 ·exact⟨w,x⟩
theorem J6{A c:Et->List Nat->Option (List Nat)}{d:Nat}{R:Et->Et->Prop}(g:∀t u L r x,R t u->A t L=some r->c u (L.map (·+d))=some x->x=r.map (·+d)):
  ∀(a b:List Et) (L r x:aC),F2 R a b->kE A a L=some r->kE c b (L.map (·+d))=some x->x=r.map (·+d)
 |[],[],L,r,x,_,h,w=>by rw[kE]at h w;cases h;cases w;rfl
 |[],_::_,_,_,_,h,_,_=>h.elim
 |_::_,[],_,_,_,h,_,_=>h.elim
 |t::a,u::b,L,r,x,hR,h,w=>by
  rw[kE]at h w
  cases e:A t L with
  |none=>rw[e]at h;cases h
  |some i=>
   cases f:c u (L.map (·+d))with
   |none=>rw[f]at w;cases w
   |some j=>have:=g _ _ _ _ _ hR.1 e f;subst this;rw[e]at h;rw[f]at w;exact J6 g a b i r x hR.2 h w
theorem J7{r:Nat}{L:aC}:r+d∈L.map (·+d)↔r∈L:=by simp only[fF];exact⟨λ⟨x,e,w⟩=>by rw[show r=x from by omega];exact e,λh=>⟨r,h,rfl⟩⟩
theorem Fy{x:bM}(k:ME x){b:bM}(i:CK b):∀(f g m:Nat) (t u:Et) (L r c:aC),sR x.rep.length m t u->uZ b f t L=some r->uZ (kR x b) g u (L.map (·+x.rep.length))=some c->c=r.map (·+x.rep.length)
 |0,_,_,_,_,_,_,_,_,h,_=>by rw[uZ]at h;cases h
 |_+1,0,_,_,_,_,_,_,_,_,h=>by rw[uZ]at h;cases h
 |_+1,_+1,0,_,_,_,_,_,h,_,_=>h.elim
 |f+1,g+1,m+1,t,u,L,r,c,hR,h,w=>by
  rw[uZ]at h w;rcases hR with⟨a,d⟩|⟨a,d⟩|⟨a,d,o,p⟩
  ·rw[aR (by rw[a];rfl)]at h;rw[aR (by rw[d];rfl)]at w;subst d;rw[show(cT (t.num+x.rep.length)).num=t.num+x.rep.length from rfl,mN]at w;by_cases j:b.root t.num∈L
   ·rw[aR j]at h;rw[aR (J7.2 j)]at w;cases h;cases w;rfl
   ·rw[aN j]at h;rw[aN (λe=>j (J7.1 e)),(i.kids k t.num).1,show L.map (·+x.rep.length)++[b.root t.num+x.rep.length]=(L++[b.root t.num]).map (·+x.rep.length)from by simp]at w;rw[show fH b t=fH b (cT t.num)from by rw[<-a]]at h;exact J6 (λt u L r c=>Fy k i f g 1 t u L r c) _ _ _ _ _ (qx (i.kids k t.num).2) h w
  ·have l:t.kids=[]:=by rw[a];rfl
   have n:u.kids=[]:=by rw[d];rfl
   rw[aN (by rw[a];exact(by decide:¬([]:aA)=cM)),l]at h;rw[aN (by rw[d];exact(by decide:¬([]:aA)=cM)),n]at w;cases h;cases w;rfl
  ·rw[aN a]at h;rw[aN (by rw[o];exact a)]at w;exact J6 (λt u L r c=>Fy k i f g m t u L r c) _ _ _ _ _ p h w
def O0(d:Nat)(h e:lQE):Prop:=F2 (λp q=>q.1=p.1/\∃m,sR d m p.2 q.2) h e
theorem re{w:bM}(f:ME w){x:bM}(c:CK x){e:lQE}(d:O0 w.rep.length e nb'){L a:aC}(h:mV x e=some L)(b:mV (kR w x) nb'=some a):a=L.map (·+w.rep.length):=by
 have:∀{e nb':lQE},O0 w.rep.length e nb'->F2 (λt u=>∃m,sR w.rep.length m t u) (e.map (·.2)) (nb'.map (·.2)):=by
  intro e
  induction e with
  |nil=>intro nb' h;cases nb' with|nil=>trivial|cons _ _=>exact h.elim
  |cons p e g=>intro nb' h;cases nb' with|nil=>exact h.elim|cons q nb'=>exact⟨h.1.2,g h.2⟩
 exact J6 (λt u L r i ⟨m,hR⟩=>Fy f c _ _ m t u L r i hR) _ _ [] _ _ (this d) h b
theorem Ga{F x:Et->Option Et}{d:Nat}{R:Et->Et->Prop}:∀{l:List Et},(∀k y c,k∈l->F k=some y->x (xR d k)=some c->R y c)->∀{f g:List Et},kH F l=some f->kH x (l.map (xR d))=some g->F2 R f g
 |[],_,f,g,h,w=>by rw[kH]at h;simp only[fE,kH]at w;cases h;cases w;trivial
 |a::l,hF,f,g,h,w=>by
  rw[kH]at h;simp only[cG,kH]at w
  cases e:F a with
  |none=>rw[e]at h;cases h
  |some b=>
   cases i:x (xR d a)with
   |none=>rw[i]at w;cases w
   |some n=>
    rw[e]at h;rw[i]at w;simp only[]at h w
    cases j:kH F l with
    |none=>rw[j]at h;cases h
    |some bs=>
     cases m:kH x (l.map (xR d))with
     |none=>rw[m]at w;cases w
     |some p=>rw[j]at h;rw[m]at w;cases h;cases w;exact⟨hF a b n bG e i,Ga (λk y c o=>hF k y c (bE _ o)) j m⟩
theorem rh{x:bM}(m:ME x){a:bM}(j:CK a){L:aC}:∀(f b c:Nat) (t u:Et),cI a L f c=some t->cI (kR x a) (L.map (·+x.rep.length)) b (c+x.rep.length)=some u->sR x.rep.length f t u
 |0,_,_,_,_,h,_=>by rw[cI]at h;cases h
 |_+1,0,_,_,_,_,h=>by rw[cI]at h;cases h
 |f+1,b+1,c,t,u,h,w=>by
  rw[cI]at h w;rw[mN,KO m]at w;by_cases d:a.root c∈L
  ·rw[aR d]at h;rw[aR (J7.2 d)]at w;cases h;cases w;exact X2 _ _ _
  ·rw[aN d]at h;rw[aN (λe=>d (J7.1 e))]at w
   cases e:a.is c with
   |none=>
    rw[e]at h w;simp only[oJ]at h w;split at h
    ·split at w
     ·cases h;cases w;refine aM (aQ ⟨rfl, ?_⟩);show vT _=vT (yX _ (uR _));rw[Lu,show a.root c+x.rep.length+1=a.root c+1+x.rep.length from by omega]
     ·cases w
    ·cases h
   |some nd=>
    rw[e]at h w;simp only[jI]at h w;have l:=j _ nd e
    cases g:kH (λk:Et=>cI a L f k.num) nd.kids with
    |none=>rw[g]at h;cases h
    |some q=>
     cases i:kH (λk:Et=>cI (kR x a) (L.map (·+x.rep.length)) b k.num) (Iw x.rep.length nd).kids with
     |none=>rw[i]at w;cases w
     |some r=>rw[g]at h;rw[i]at w;cases h;cases w;exact aM (aM ⟨l.1,l.2.1,rfl,Ga (λk y p _ n o=>rh m j f b k.num y p n o) g i⟩)
def zl(d:Nat)(g:aJ):List (aA×Nat):=g.map λp=>(yX d p.1,p.2+d)
theorem cf(d:Nat):∀(g:aJ) (a:aA),dR (zl d g) (yX d a)=(dR g a).map (·+d)
 |[],_=>rfl
 |p::l,a=>by
  have w:=cf d l a;show dR ((yX d p.1,p.2+d)::zl d l) (yX d a)=_;rw[dR,dR,w];by_cases e:p.1=a
  ·rw[aR e,aR (by rw[e])];rfl
  ·rw[aN e,aN (λh=>e (NZ h))]
theorem UU{I i:Et->bM->List (aA×Nat)->Option (bM×List (aA×Nat)×Nat)}{w:bM}{R:Et->Et->Prop}
  (s:∀t u a g r b,R t u->CK a->I t a g=some r->i u (kR w a) (zl w.rep.length g)=some b->b=(kR w r.1,zl w.rep.length r.2.1,r.2.2+w.rep.length)/\CK r.1):
  ∀(d f:List Et) (a:bM) (g:aJ) (r b:bM×List (aA×Nat)×List Et),F2 R d f->CK a->gL I d a g=some r->gL i f (kR w a) (zl w.rep.length g)=some b->b=(kR w r.1,zl w.rep.length r.2.1,r.2.2.map (xR w.rep.length))/\CK r.1/\∀k,k∈r.2.2->k=cT k.num
 |[],[],a,g,r,b,_,o,h,x=>by rw[gL]at h x;cases h;cases x;exact⟨rfl,o,λk h=>by cases h⟩
 |[],_::_,_,_,_,_,h,_,_,_=>h.elim
 |_::_,[],_,_,_,_,h,_,_,_=>h.elim
 |t::d,u::f,a,g,r,b,hR,o,h,x=>by
  rw[gL]at h x
  cases e:I t a g with
  |none=>rw[e]at h;cases h
  |some r1=>
   cases j:i u (kR w a) (zl w.rep.length g)with
   |none=>rw[j]at x;cases x
   |some F=>
    obtain⟨q,n,c⟩:=r1;obtain⟨v,y⟩:=s _ _ _ _ _ _ hR.1 o e j;subst v;rw[e]at h;rw[j]at x;simp only[]at h x
    cases l:gL I d q n with
    |none=>rw[l]at h;cases h
    |some r2=>
     cases m:gL i f (kR w q) (zl w.rep.length n)with
     |none=>rw[m]at x;cases x
     |some G=>
      obtain⟨H,E,D⟩:=r2;obtain⟨z,A,C⟩:=UU s d f q n _ _ hR.2 y l m;subst z;rw[l]at h;rw[m]at x;cases h;cases x;refine⟨rfl,A,λk p=> ?_⟩;rcases bH.1 p with rfl|p
      ·rfl
      ·exact C k p
theorem Gc{x:bM}:∀(f j m:Nat) (t u:Et) (a:bM) (g:aJ) (r i:bM×List (aA×Nat)×Nat),sR x.rep.length m t u->CK a->k7 f t a g=some r->k7 j u (kR x a) (zl x.rep.length g)=some i->i=(kR x r.1,zl x.rep.length r.2.1,r.2.2+x.rep.length)/\CK r.1
 |0,_,_,_,_,_,_,_,_,_,_,h,_=>by rw[k7]at h;cases h
 |_+1,0,_,_,_,_,_,_,_,_,_,_,h=>by rw[k7]at h;cases h
 |_+1,_+1,0,_,_,_,_,_,_,h,_,_,_=>h.elim
 |f+1,j+1,m+1,t,u,a,g,r,i,hR,k,h,w=>by
  rw[k7]at h w;rcases hR with⟨d,b⟩|⟨d,b⟩|⟨d,b,o,s⟩
  ·rw[aR (by rw[d];rfl)]at h;rw[aR (by rw[b];rfl)]at w;subst b;cases h;cases w;exact⟨rfl,k⟩
  ·have v:¬t.kind=cM:=by rw[d];exact(by decide:¬([]:aA)=cM)
   have y:¬u.kind=cM:=by rw[b];exact(by decide:¬([]:aA)=cM)
   rw[aN v,aR (by rw[d];rfl)]at h;rw[aN y,aR (by rw[b];rfl)]at w;subst b;rw[show(vT (yX x.rep.length t.name)).name=yX x.rep.length t.name from rfl,cf]at w
   cases e:dR g t.name with
   |some c=>rw[e]at h w;cases h;cases w;exact⟨rfl,k⟩
   |none=>
    rw[e]at h w;simp only[oJ]at h w;split at h
    ·split at w
     ·cases h;cases w;refine⟨?_,k.new (λz e=>by cases e)⟩;rw[show kR x (a.new none)=(kR x a).new none from X1 a none,J5];simp[zl,qT]
     ·cases w
    ·cases h
  ·rw[aN d,aN b]at h;rw[aN (by rw[o];exact d),aN (by rw[o];exact b)]at w
   cases l:gL (k7 f) t.kids a g with
   |none=>rw[l]at h;cases h
   |some r1=>
    cases n:gL (k7 j) u.kids (kR x a) (zl x.rep.length g)with
    |none=>rw[n]at w;cases w
    |some r2=>
     obtain⟨p,E,q⟩:=r1;obtain⟨A,C,D⟩:=UU (λt u a g r i=>Gc f j m t u a g r i) _ _ _ _ _ _ s k l n;subst A;rw[l]at h;rw[n]at w;simp only[]at h w;split at h
     ·split at w
      ·cases h;cases w;refine⟨?_,C.new (λz e=>by cases e;exact⟨d,b,D⟩)⟩;rw[show kR x (p.new (some ⟨t.kind,[],0,q⟩))=(kR x p).new (some ⟨t.kind,[],0,q.map (xR x.rep.length)⟩)from X1 p _,J5,o];simp[qT]
      ·cases w
     ·cases h
theorem Gd{w:bM}(d:ME w){e:bM}(b:CK e):∀(f c:Nat) (l:Int),lP (kR w e) f (cT (c+w.rep.length)) l=lP e f (cT c) l
 |0,_,_=>rfl
 |f+1,c,l=>by
  rw[lP,lP,(b.kids d c).1]
  have:∀(x:List Et) (j:Int),(∀k,k∈x->k=cT k.num)->jF (lP (kR w e) f) (x.map (xR w.rep.length)) j=jF (lP e f) x j:=by
   intro x
   induction x with
   |nil=>exactλ_ _=>rfl
   |cons a x i=>
    intro j h
    rw[cG,jF,jF,show lP (kR w e) f (xR w.rep.length a) j=lP e f a j from by
     have:=Gd d b f a.num j;rw[<-h a bG]at this
     exact this]
    split
    ·rfl
    ·cases lP e f a j with
     |none=>rfl
     |some l=>exact i l λk g=>h k (bE _ g)
  exact this _ _ (b.kids d c).2
theorem Vp{h:bM}(x:ME h){e:bM}(w:CK e)(c:Nat):JY (kR h e) (cT (c+h.rep.length))=JY e (cT c):=by unfold JY;rw[Gd x w]
theorem J8{d:Nat}:∀{m:Nat} {t u:Et},sR d m t u->u.kind=t.kind
 |0,_,_,h=>h.elim
 |m+1,t,u,h=>by
  rcases h with⟨e,w⟩|⟨e,w⟩|⟨_,_,x,_⟩
  ·rw[e,w];rfl
  ·rw[e,w];rfl
  ·exact x
theorem Pd{x:bM}(g:ME x){a:bM}(f:CK a):∀{m:Nat} {t u:Et},sR x.rep.length m t u->∃i,sR x.rep.length i (dW a t) (dW (kR x a) u)
 |0,_,_,h=>h.elim
 |m+1,t,u,h=>by
  have c:=J8 h;unfold dW;by_cases w:t.kind=cM
  ·rw[aR w,aR (by rw[c];exact w)]
   have:u.num=t.num+x.rep.length:=by
    rcases h with⟨_,d⟩|⟨b,_⟩|⟨b,_⟩
    ·rw[d];rfl
    ·rw[b]at w;exact absurd (show([]:aA)=cM from w) (by decide)
    ·exact absurd w b
   rw[this,KO g,mN]
   cases e:a.is t.num with
   |none=>exact⟨1,X2 _ _ _⟩
   |some nd=>have:=f _ nd e;exact⟨2,aM (aM ⟨this.1,this.2.1,rfl,qx this.2.2⟩)⟩
  ·rw[aN w,aN (by rw[c];exact w)];exact⟨m+1,h⟩
theorem X4(d:Nat)(v:aA):∀(L:aD),(L.map (yX d)).idxOf (yX d v)=L.idxOf v
 |[]=>rfl
 |a::L=>by
  rw[cG,oI,oI,X4 d v L];by_cases e:a=v
  ·rw[e];simp
  ·have:(yX d a==yX d v)=false:=by rw[dV];exactλh=>e (NZ h)
   rw[this,show(a==v)=false from by rw[dV];exact e]
theorem ri(d:Nat)(L:aD)(v:aA):jO (L.map (yX d)) (yX d v)=(jO L v).map (yX d):=by
 unfold jO;by_cases e:v∈L
 ·rw[aR e,aR (gH e)]
 ·rw[aN e,aN (λh=>by
   obtain⟨x,w,a⟩:=fF.1 h
   exact e (NZ a▸w))]
  simp
def Yq(d:Nat)(x:List aA×List aA):List aA×List aA:=(x.1.map (yX d),x.2.map (yX d))
theorem UW{S l:Et->Et->List aA->List aA->Option (Option (List aA×List aA))}{d:Nat}{R:Et->Et->Prop}
  (n:∀a c b f p q r x,R a c->R b f->S a b p q=some r->l c f (p.map (yX d)) (q.map (yX d))=some x->x=r.map (Yq d)):
  ∀(g i j k:List Et) (p q:aD) (r x:Option (List aA×List aA)),F2 R g i->F2 R j k->j6 S g j p q=some r->j6 l i k (p.map (yX d)) (q.map (yX d))=some x->x=r.map (Yq d)
 |[],[],[],[],p,q,r,x,_,_,h,w=>by rw[j6]at h w;cases h;cases w;rfl
 |[],_::_,_,_,_,_,_,_,h,_,_,_=>h.elim
 |_::_,[],_,_,_,_,_,_,h,_,_,_=>h.elim
 |_,_,[],_::_,_,_,_,_,_,h,_,_=>h.elim
 |_,_,_::_,[],_,_,_,_,_,h,_,_=>h.elim
 |[],[],b::j,f::k,_,_,_,_,_,_,h,_=>by rw[j6]at h;cases h;simp;simp
 |a::g,c::i,[],[],_,_,_,_,_,_,h,_=>by rw[j6]at h;cases h;simp;simp
 |a::g,c::i,b::j,f::k,p,q,r,x,h1,h2,h,w=>by
  rw[j6]at h w
  cases e:S a b p q with
  |none=>rw[e]at h;cases h
  |some r1=>
   cases m:l c f (p.map (yX d)) (q.map (yX d))with
   |none=>rw[m]at w;cases w
   |some t=>
    have:=n _ _ _ _ _ _ _ _ h1.1 h2.1 e m;subst this;rw[e]at h;rw[m]at w
    match r1,h,w with
    |none,h,w=>cases h;cases w;rfl
    |some (o,s),h,w=>exact UW n g i j k o s r x h1.2 h2.2 h w
theorem Ge{c:bM}(G:ME c){d:bM}(E:CK d):∀(f D:Nat) (a o b s:Et) (p q:aD) (r y:Option (List aA×List aA)),(∃m,sR c.rep.length m a o)->(∃m,sR c.rep.length m b s)->lL d f a b p q=some r->lL (kR c d) D o s (p.map (yX c.rep.length)) (q.map (yX c.rep.length))=some y->y=r.map (Yq c.rep.length)
 |0,_,_,_,_,_,_,_,_,_,_,_,h,_=>by rw[lL]at h;cases h
 |_+1,0,_,_,_,_,_,_,_,_,_,_,_,h=>by rw[lL]at h;cases h
 |f+1,D+1,a,o,b,s,p,q,r,y,⟨U,h1⟩,⟨V,h2⟩,h,w=>by
  obtain⟨K,z⟩:=Pd G E h1;obtain⟨L,A⟩:=Pd G E h2;have Q:=J8 z;have S:=J8 A;rw[lL]at h w;rw[Q,S,fM,fM]at w
  have M:∀{n:Nat} {t u:Et},sR c.rep.length n t u->t.kind=[]->u.name=yX c.rep.length t.name:=λ{n t u} g e=>by
   cases n with
   |zero=>exact g.elim
   |succ n=>
    rcases g with⟨j,_⟩|⟨_,k⟩|⟨_,k,_⟩
    ·rw[j]at e;exact absurd (show cM=[]from e) (by decide)
    ·rw[k];rfl
    ·exact absurd e k
  have C:∀{n:Nat} {t u:Et},sR c.rep.length n t u->t.kind=cM->u.num=t.num+c.rep.length:=λ{n t u} g e=>by
   cases n with
   |zero=>exact g.elim
   |succ n=>
    rcases g with⟨_,k⟩|⟨j,_⟩|⟨j,_⟩
    ·rw[k];rfl
    ·rw[j]at e;exact absurd (show([]:aA)=cM from e) (by decide)
    ·exact absurd e j
  by_cases v:(dW d a).kind=[]
  ·rw[aR v]at h w;by_cases H:(dW d b).kind=[]
   ·rw[aR H]at h w;rw[M z v,M A H,ri,ri,X4,X4]at w;split at h
    ·rename_i P;rw[aR P]at w;split at h
     ·rename_i F;rw[aR F]at w;cases h;cases w;rfl
     ·rename_i F;rw[aN F]at w;cases h;cases w;rfl
    ·cases h
   ·rw[aN H]at h w;cases h;cases w;rfl
  ·rw[aN v]at h w;have I:=J8 h1;have J:=J8 h2;by_cases i:a.kind=cM/\b.kind=cM/\d.root a.num=d.root b.num
   ·rw[aR i]at h;rw[aR ⟨by rw[I];exact i.1,by rw[J];exact i.2.1,by rw[C h1 i.1,C h2 i.2.1,mN,mN,i.2.2]⟩]at w;cases h;cases w;rfl
   ·rw[aN i]at h
    rw[aN (λx=>i (by
     have j:a.kind=cM:=by rw[<-I];exact x.1
     have k:b.kind=cM:=by rw[<-J];exact x.2.1
     have T:=x.2.2;rw[C h1 j,C h2 k,mN,mN]at T
     exact⟨j,k,by omega⟩))]at w
    by_cases l:(dW d a).kind=(dW d b).kind/\(dW d a).kind≠cM
    ·rw[aR l]at h w;have N:(dW d b).kind≠cM:=by rw[<-l.1];exact l.2
     have O:(dW d b).kind≠[]:=by rw[<-l.1];exact v
     cases K with
     |zero=>exact z.elim
     |succ K=>
      cases L with
      |zero=>exact A.elim
      |succ L=>exact UW (R:=λt u=>∃m,sR c.rep.length m t u) (λa o b s p q r y=>Ge G E f D a o b s p q r y) _ _ _ _ _ _ _ _ ((Fx z l.2 v).2.mono λ_ _ h=>⟨_,h⟩) ((Fx A N O).2.mono λ_ _ h=>⟨_,h⟩) h w
    ·rw[aN l]at h w;cases h;cases w;rfl
theorem rk{c:bM}(m:ME c){a:bM}(l:CK a):∀{g i j k:lQE} {b d:Bool},O0 c.rep.length g i->O0 c.rep.length j k->qL a g j=some b->qL (kR c a) i k=some d->d=b
 |[],[],[],[],_,_,_,_,h,w=>by rw[qL]at h w;cases h;cases w;rfl
 |[],_::_,_,_,_,_,h,_,_,_=>h.elim
 |_::_,[],_,_,_,_,h,_,_,_=>h.elim
 |_,_,[],_::_,_,_,_,h,_,_=>h.elim
 |_,_,_::_,[],_,_,_,h,_,_=>h.elim
 |[],[],_::_,_::_,_,_,_,_,h,_=>by rw[qL]at h;cases h;simp;simp
 |_::_,_::_,[],[],_,_,_,_,h,_=>by rw[qL]at h;cases h;simp;simp
 |x::g,n::i,y::j,o::k,b,d,h1,h2,h,w=>by
  rw[qL]at h w
  cases e:lL a (a.rep.length+400) x.2 y.2 [] []with
  |none=>rw[e]at h;cases h
  |some r=>
   cases f:lL (kR c a) ((kR c a).rep.length+400) n.2 o.2 [] []with
   |none=>rw[f]at w;cases w
   |some p=>
    have:=Ge m l _ _ _ _ _ _ [] [] _ _ h1.1.2 h2.1.2 e f;subst this;rw[e]at h;rw[f]at w
    cases r with
    |none=>cases h;cases w;rfl
    |some _=>exact rk m l h1.2 h2.2 h w
def xE:Nat->Ex->Ex->Prop
 |0,_,_=>False
 |m+1,x,y=>y.op=x.op/\y.names=x.names/\F2 (xE m) x.kids y.kids
def XE(x y:Ex):Prop:=∃m,xE m x y
theorem XE.kids{x y:Ex}(h:XE x y):y.op=x.op/\y.names=x.names/\F2 XE x.kids y.kids:=by
 obtain⟨m,h⟩:=h
 cases m with
 |zero=>exact h.elim
 |succ m=>exact⟨h.1,h.2.1,h.2.2.mono λ_ _ k=>⟨m,k⟩⟩
def pR(e:bM)(r h:Sum Nat (bM×Nat)):Prop:=match r with
 | .inl q=>h= .inl q
 | .inr x=>h= .inr (kR e x.1,x.2+e.rep.length)/\CK x.1
def PS(h:bM)(P d:Ex->List (aA×Et)->bM->Option (Sum Nat (bM×Nat))):Prop:=∀x c w a e r b,XE x c->O0 h.rep.length w a->CK e->P x w e=some r->d c a (kR h e)=some b->pR h r b
theorem vP{x:bM}{A f:Option (Sum Nat (bM×Nat))}{k g:bM->Nat->Option (Sum Nat (bM×Nat))}{z d:Sum Nat (bM×Nat)}(h:oG A k=some z)(e:oG f g=some d)(w:∀r b,A=some r->f=some b->pR x r b)(l:∀a c,CK a->k a c=some z->g (kR x a) (c+x.rep.length)=some d->pR x z d):pR x z d:=by
 match A,f,h,e,w with
 |none,_,h,_,_=>cases h
 |some _,none,_,e,_=>cases e
 |some (.inl q),some b,h,e,w=>have:=w _ _ rfl rfl;simp only[pR]at this;subst this;cases h;cases e;rfl
 |some (.inr (a,c)),some b,h,e,w=>have:=w _ _ rfl rfl;obtain⟨i,j⟩:=this;subst i;exact l a c j h e
theorem ly{x:bM}{a:bM}(c:CK a){o:Option Et}(d:∀w,o=some w->w.kind≠cM/\w.kind≠[]/\∀k,k∈w.kids->k=cT k.num){z b:Sum Nat (bM×Nat)}(h:qJ (CH o a)=some z)(e:qJ (CH (o.map (Iw x.rep.length)) (kR x a))=some b):pR x z b:=by
 unfold CH at h e;split at h
 ·split at e
  ·cases h;cases e;refine⟨?_,c.new d⟩;simp only[];rw[X1,J5,qT]
  ·cases e
 ·cases h
theorem Sd{w:bM}(o:ME w){d:bM}(m:CK d){a b:Nat}{k i:bM->Option (Sum Nat (bM×Nat))}{z f:Sum Nat (bM×Nat)}(h:zf a b d k=some z)(x:zf (a+w.rep.length) (b+w.rep.length) (kR w d) i=some f)(n:∀c,CK c->k c=some z->i (kR w c)=some f->pR w z f):pR w z f:=by
 unfold zf at h x
 cases e:jK a b d with
 |none=>rw[e]at h;cases h
 |some r=>
  cases g:jK (a+w.rep.length) (b+w.rep.length) (kR w d)with
  |none=>rw[g]at x;cases x
  |some p=>
   obtain⟨j,l⟩:=Lw o m e g;subst j;rw[e]at h;rw[g]at x
   cases r with
   |none=>cases h;cases x;rfl
   |some c=>exact n c (l c rfl) h x
theorem F2.rev{x c:Type}{R:x->c->Prop}:∀{e:List x} {w:List c},F2 R e w->F2 R e.reverse w.reverse
 |[],[],_=>trivial
 |[],_::_,h=>h.elim
 |_::_,[],h=>h.elim
 |a::e,b::w,h=>by rw[List.reverse_cons,List.reverse_cons];exact(F2.rev h.2).app ⟨h.1,trivial⟩
theorem rm{d:Nat}{nm:aA}:∀{w x:lQE},O0 d w x->(w.find? (λp=>decide (p.1=nm))=none/\x.find? (λp=>decide (p.1=nm))=none)\/∃p q,w.find? (λp=>decide (p.1=nm))=some p/\x.find? (λp=>decide (p.1=nm))=some q/\∃m,sR d m p.2 q.2
 |[],[],_=>aQ ⟨rfl,rfl⟩
 |[],_::_,h=>h.elim
 |_::_,[],h=>h.elim
 |a::w,b::x,h=>by
  by_cases e:a.1=nm
  ·exact aM ⟨a,b,by simp[e],by simp[h.1.1,e],h.1.2⟩
  ·have:=rm (nm:=nm) h.2;rw[sP,sP,show decide (a.1=nm)=false from by simp[e],show decide (b.1=nm)=false from by simp[h.1.1,e]];exact this
def GS(d:Nat)(h:lQE):Prop:=∀e t,dR h e=some t->∃m,sR d m t t
theorem Se{b:bM}(u:GS b.rep.length ge){nm:aA}{d:lQE}(A:O0 b.rep.length d nb'){c:bM}(s:CK c){z n:Sum Nat (bM×Nat)}(h:qJ (IQ ge nm d c)=some z)(e:qJ (IQ ge nm nb' (kR b c))=some n):pR b z n:=by
 unfold IQ at h e;split at h
 ·rename_i v;rw[aR v]at e
  have y:∀t a,xO d ge nm=some t->xO nb' ge nm=some a->∃m,sR b.rep.length m t a:=λt a w x=>by
   unfold xO at w x;rcases rm (nm:=nm) (F2.rev A)with⟨k,l⟩|⟨p,q,k,l,o⟩
   ·rw[k]at w;rw[l]at x;simp only[]at w x;rw[w]at x;cases x;exact u nm t w
   ·rw[k]at w;rw[l]at x;cases w;cases x;exact o
  cases f:xO d ge nm with
  |none=>rw[f]at h;cases h
  |some t=>
   cases g:xO nb' ge nm with
   |none=>rw[g]at e;cases e
   |some a=>
    obtain⟨m,hR⟩:=y t a f g;rw[f]at h;rw[g]at e;simp only[]at h e
    cases i:k7 400 t c []with
    |none=>rw[i]at h;cases h
    |some r=>
     cases j:k7 400 a (kR b c) []with
     |none=>rw[j]at e;cases e
     |some C=>obtain⟨w,x⟩:=Gc 400 400 m t a c [] r C hR s i j;subst w;rw[i]at h;rw[j]at e;cases h;cases e;exact⟨rfl,x⟩
 ·cases h
theorem O0.app{e w x:lQE}(h:O0 d e nb')(k:O0 d w x):O0 d (e++w) (nb'++x):=F2.app h k
theorem O0.one{m:Nat}{p:aA}{t u:Et}(h:sR d m t u):O0 d [(p,t)] [(p,u)]:=⟨⟨rfl,m,h⟩,trivial⟩
theorem rp{a:bM}{P k:Ex->List (aA×Et)->bM->Option (Sum Nat (bM×Nat))}(z:PS a P k){n o l m:lQE}(C:O0 a.rep.length n o)(A:O0 a.rep.length l m):
  ∀(g i:List Ex) (b:bM) (r j:Sum Nat (bM×List Nat)),F2 XE g i->CK b->iY P n l g b=some r->iY k o m i (kR a b)=some j->match r with| .inl q=>j= .inl q| .inr x=>j= .inr (kR a x.1,x.2.map (·+a.rep.length))/\CK x.1
 |[],[],b,r,j,_,v,h,w=>by rw[iY]at h w;cases h;cases w;exact⟨rfl,v⟩
 |[],_::_,_,_,_,h,_,_,_=>h.elim
 |_::_,[],_,_,_,h,_,_,_=>h.elim
 |e::g,D::i,b,r,j,hE,v,h,w=>by
  rw[iY]at h w
  cases p:qK P e n l b with
  |none=>rw[p]at h;cases h
  |some r1=>
   cases s:qK k D o m (kR a b)with
   |none=>rw[s]at w;cases w
   |some r2=>
    have f:=z _ _ _ _ _ _ _ hE.1 (C.app A) v (jU p).2 (jU s).2;rw[p]at h;rw[s]at w
    match r1,f,h with
    | .inl q,f,h=>simp only[pR]at f;subst f;cases h;cases w;rfl
    | .inr (y,c),⟨f,E⟩,h=>
     subst f;simp only[]at h w
     cases t:iY P n l g y with
     |none=>rw[t]at h;cases h
     |some r3=>
      cases u:iY k o m i (kR a y)with
      |none=>rw[u]at w;cases w
      |some G=>
       have d:=rp z C A g i y r3 G hE.2 E t u;rw[t]at h;rw[u]at w
       match r3,d,h with
       | .inl q,d,h=>simp only[]at d;subst d;cases h;cases w;rfl
       | .inr (H,cs),⟨d,F⟩,h=>subst d;cases h;cases w;exact⟨rfl,F⟩
theorem Gf{w:bM}(m:ME w){x:bM}(k:CK x){L:aC}:∀{b:aD} {a:aC} {l d:lQE},nZ x L b a=some l->nZ (kR w x) (L.map (·+w.rep.length)) b (a.map (·+w.rep.length))=some d->O0 w.rep.length l d
 |[],[],l,d,h,e=>by rw[nZ]at h;simp only[fE,nZ]at e;cases h;cases e;trivial
 |[],_::_,_,_,h,_=>by rw[nZ]at h;cases h;simp;simp
 |_::_,[],_,_,h,_=>by rw[nZ]at h;cases h;simp;simp
 |n::b,c::a,l,d,h,e=>by
  rw[nZ]at h;simp only[cG,nZ]at e
  cases f:cI x L 130 c with
  |none=>rw[f]at h;cases h
  |some t=>
   cases g:cI (kR w x) (L.map (·+w.rep.length)) 130 (c+w.rep.length)with
   |none=>rw[g]at e;cases e
   |some r=>
    have o:=rh m k _ _ _ _ _ f g;rw[f]at h;rw[g]at e;simp only[]at h e
    cases i:nZ x L b a with
    |none=>rw[i]at h;cases h
    |some p=>
     cases j:nZ (kR w x) (L.map (·+w.rep.length)) b (a.map (·+w.rep.length))with
     |none=>rw[j]at e;cases e
     |some q=>rw[i]at h;rw[j]at e;cases h;cases e;exact⟨⟨rfl,_,o⟩,Gf m k i j⟩
def gR(w:bM)(r e:Sum Nat (bM×List (aA×Et))):Prop:=match r with
 | .inl q=>e= .inl q
 | .inr x=>∃h,e= .inr (kR w x.1,h)/\O0 w.rep.length x.2 h/\CK x.1
theorem Lx{w:bM}(z:ME w){P j:Ex->List (aA×Et)->bM->Option (Sum Nat (bM×Nat))}(E:PS w P j){d f k m:lQE}(y:O0 w.rep.length d f)(F:O0 w.rep.length k m){g:aD}{b c:List Ex}(C:F2 XE b c){a:bM}(G:CK a){r A:Sum Nat (bM×List (aA×Et))}(h:rQ P g b d k a=some r)(e:rQ j g c f m (kR w a)=some A):gR w r A:=by
 unfold rQ at h e
 cases n:iY P d k b a with
 |none=>rw[n]at h;cases h
 |some r1=>
  cases o:iY j f m c (kR w a)with
  |none=>rw[o]at e;cases e
  |some r2=>
   have x:=rp E y F b c a r1 r2 C G n o;rw[n]at h;rw[o]at e
   match r1,x,h with
   | .inl q,x,h=>simp only[]at x;subst x;cases h;cases e;rfl
   | .inr (i,cs),⟨x,v⟩,h=>
    subst x;simp only[]at h e
    cases p:mV i d with
    |none=>rw[p]at h;cases h
    |some L=>
     cases s:mV (kR w i) f with
     |none=>rw[s]at e;cases e
     |some I=>
      have D:=re z v y p s;subst D;rw[p]at h;rw[s]at e;simp only[]at h e
      cases t:nZ i L g cs with
      |none=>rw[t]at h;cases h
      |some l=>
       cases u:nZ (kR w i) (L.map (·+w.rep.length)) g (cs.map (·+w.rep.length))with
       |none=>rw[u]at e;cases e
       |some H=>rw[t]at h;rw[u]at e;cases h;cases e;exact⟨H,rfl,Gf z v t u,v⟩
theorem rq{w:bM}(v:ME w){P i:Ex->List (aA×Et)->bM->Option (Sum Nat (bM×Nat))}(E:PS w P i){z A:lQE}(G:O0 w.rep.length z A){f:aD}{p s:List Ex}(D:F2 XE p s):∀(k:Nat) (c d:lQE) (a:bM) (r g:Sum Nat (bM×List (aA×Et))),O0 w.rep.length c d->CK a->l9 P f p z k c a=some r->l9 i f s A k d (kR w a)=some g->gR w r g
 |0,_,_,_,_,_,_,_,h,e=>by rw[l9]at h e;cases h;cases e;rfl
 |k+1,c,d,a,r,g,F,I,h,e=>by
  rw[l9]at h e
  cases j:rQ P f p z c a with
  |none=>rw[j]at h;cases h
  |some r1=>
   cases m:rQ i f s A d (kR w a)with
   |none=>rw[m]at e;cases e
   |some r2=>
    have x:=Lx v E G F D I j m;rw[j]at h;rw[m]at e
    match r1,x,h with
    | .inl q,x,h=>simp only[gR]at x;subst x;cases h;cases e;rfl
    | .inr (C,l),⟨y,x,u,t⟩,h=>
     subst x;simp only[]at h e
     cases n:qL C c l with
     |none=>rw[n]at h;cases h
     |some b=>
      cases o:qL (kR w C) d y with
      |none=>rw[o]at e;cases e
      |some H=>
       have:=rk v t F u n o;subst this;rw[n]at h;rw[o]at e
       cases H with
       |true=>cases h;cases e;exact⟨y,rfl,u,t⟩
       |false=>exact rq v E G D k l y C r g u t h e
theorem F2.i1{e w:Type}{R:e->w->Prop}{a:e}{l:List w}(h:F2 R [a] l):∃x,l=[x]/\R a x:=by
 match l,h with
 |[x],h=>exact⟨x,rfl,h.1⟩
 |[],h=>exact h.elim
 |_::_::_,h=>exact h.2.elim
theorem F2.i2{w c:Type}{R:w->c->Prop}{a b:w}{l:List c}(h:F2 R [a,b] l):∃x y,l=[x,y]/\R a x/\R b y:=by
 match l,h with
 |[],h=>exact h.elim
 |x::l,h=>obtain⟨y,e,d⟩:=F2.i1 h.2;exact⟨x,y,by rw[e],h.1,d⟩
theorem F2.i3{w d:Type}{R:w->d->Prop}{a b c:w}{l:List d}(h:F2 R [a,b,c] l):∃x y z,l=[x,y,z]/\R a x/\R b y/\R c z:=by
 match l,h with
 |[],h=>exact h.elim
 |x::l,h=>obtain⟨y,z,e,f,g⟩:=F2.i2 h.2;exact⟨x,y,z,by rw[e],h.1,f,g⟩
theorem F2.snoc{d f:Type}{R:d->f->Prop}:∀{us:List d} {b:d} {l:List f},F2 R (us++[b]) l->∃w y,l=w++[y]/\F2 R us w/\R b y
 |[],b,l,h=>by obtain⟨y,e,c⟩:=F2.i1 h;exact⟨[],y,e,trivial,c⟩
 |a::us,b,l,h=>by
  match l,h with
  |[],h=>exact h.elim
  |x::l,h=>obtain⟨w,y,e,c,g⟩:=F2.snoc (us:=us) h.2;exact⟨x::w,y,by rw[e];rfl,⟨h.1,c⟩,g⟩
theorem lz{o:aA}(x:o≠cM)(c:o≠[])(a b:Nat):∀h,some (⟨o,[],0,[cT a,cT b]⟩:Et)=some h->h.kind≠cM/\h.kind≠[]/\∀k,k∈h.kids->k=cT k.num:=λh e=>by cases e;refine⟨x,c,λk w=> ?_⟩;simp only[bH,cE,eK]at w;rcases w with rfl|rfl<;>rfl
theorem Gg{o:aA}(w:o≠cM)(x:o≠[]):∀h,some (⟨o,[],0,[]⟩:Et)=some h->h.kind≠cM/\h.kind≠[]/\∀k,k∈h.kids->k=cT k.num:=λh e=>by cases e;exact⟨w,x,λk a=>by cases a⟩
theorem Sf{v:bM}(G:ME v)(hg:GS v.rep.length ge){P J:Ex->List (aA×Et)->bM->Option (Sum Nat (bM×Nat))}(k:PS v P J):PS v (uX P ge most) (uX J ge most):=by
 intro x x' nb h9 X r j hx g z h w;obtain⟨ho,hm,f⟩:=hx.kids;unfold uX at h w;rw[ho,hm]at w;by_cases Z:x.op=bK
 ·rw[aR Z]at h w
  match en:x.names,h,w with
  |[nm],h,w=>exact Se hg g z h w
  |[],h,_=>cases h
  |_::_::_,h,_=>cases h
 rw[aN Z]at h w;by_cases h1:x.op=dO
 ·rw[aR h1]at h w
  match en:x.names,E:x.kids,f,h,w with
  |[p],[b],f,h,w=>obtain⟨H,s,u⟩:=F2.i1 f;rw[s]at w;simp only[]at h w;unfold Dq at h w;refine vP h w (λr j q d=>ly z (o:=none) (λnd e=>by cases e) q d) λy D i h w=> ?_;refine vP h w (λr j q d=>k _ _ _ _ _ _ _ u (g.app (O0.one (m:=1) (X2 _ _ _))) i (jU q).2 (jU d).2) λY M C h w=> ?_;exact ly C (lz (by decide) (by decide) _ _) h w
  |[],_,_,h,_=>cases h
  |_::_::_,_,_,h,_=>cases h
  |[_],[],_,h,_=>cases h
  |[_],_::_::_,_,h,_=>cases h
 rw[aN h1]at h w;by_cases h2:x.op=xA
 ·rw[aR h2]at h w
  match E:x.kids,f,h,w with
  |[a,b,c],f,h,w=>obtain⟨K,H,c',s,A,u,e8⟩:=F2.i3 f;rw[s]at w;simp only[]at h w;unfold Wz at h w;refine vP h w (λr j q d=>k _ _ _ _ _ _ _ A g z q d) λy D i h w=> ?_;refine vP h w (λr j q d=>ly i (Gg (o:=eU) (by decide) (by decide)) q d) λY M C h w=> ?_;refine Sd G C h w λw1 U h w=> ?_;refine vP h w (λr j q d=>k _ _ _ _ _ _ _ u g U q d) λw2 c4 V h w=> ?_;refine vP h w (λr j q d=>k _ _ _ _ _ _ _ e8 g V q d) λw3 c5 W h w=> ?_;refine Sd G W h w λw4 e7 h w=> ?_;cases h;cases w;exact⟨rfl,e7⟩
  |[],_,h,_=>cases h
  |[_],_,h,_=>cases h
  |[_,_],_,h,_=>cases h
  |_::_::_::_::_,_,h,_=>cases h
 rw[aN h2]at h w;by_cases h3:x.op=iP
 ·rw[aR h3]at h w
  match en:x.names,E:x.kids,f,h,w with
  |[p],[a,b],f,h,w=>
   obtain⟨K,H,s,A,u⟩:=F2.i2 f;rw[s]at w;simp only[]at h w;unfold kq at h w;refine vP h w (λr j q d=>k _ _ _ _ _ _ _ A g z q d) λy D i h w=> ?_
   cases Q:mV y nb with
   |none=>rw[Q]at h;cases h
   |some L=>
    cases R:mV (kR v y) h9 with
    |none=>rw[R]at w;cases w
    |some L'=>
     have hL:=re G i g Q R;subst hL;rw[Q]at h;rw[R]at w;simp only[]at h w
     cases S:cI y L 130 D with
     |none=>rw[S]at h;cases h
     |some t=>
      cases T:cI (kR v y) (L.map (·+v.rep.length)) 130 (D+v.rep.length)with
      |none=>rw[T]at w;cases w
      |some t'=>rw[S]at h;rw[T]at w;exact k _ _ _ _ _ _ _ u (g.app (O0.one (rh G i _ _ _ _ _ S T))) i (jU h).2 (jU w).2
  |[],_,_,h,_=>cases h
  |_::_::_,_,_,h,_=>cases h
  |[_],[],_,h,_=>cases h
  |[_],[_],_,h,_=>cases h
  |[_],_::_::_::_,_,h,_=>cases h
 rw[aN h3]at h w;by_cases h4:x.op=gV
 ·rw[aR h4]at h w
  cases F:x.kids.getLast? with
  |none=>rw[F]at h;cases h
  |some b=>
   have E:x.kids=x.kids.dropLast++[b]:=by
    have h8:x.kids≠[]:=λe=>by rw[e]at F;cases F
    rw[List.getLast?_eq_some_getLast h8]at F;rw[<-aY F];exact(ub h8).symm
   rw[E]at f;obtain⟨vs,H,s,w0,u⟩:=F2.snoc f;rw[F]at h;rw[s,List.getLast?_concat,O9]at w;simp only[]at h w;split at h
   ·rename_i hl;rw[aR hl]at w;unfold Eb at h w
    cases N:l9 P x.names x.kids.dropLast nb most (x.names.map λn=>(n,vT [97])) X with
    |none=>rw[N]at h;cases h
    |some r1=>
     cases O:l9 J x.names vs h9 most (x.names.map λn=>(n,vT [97])) (kR v X)with
     |none=>rw[O]at w;cases w
     |some r2=>
      have hA:O0 v.rep.length (x.names.map λn=>(n,vT [97])) (x.names.map λn=>(n,vT [97])):=F2.map _ _ λn _=>⟨rfl,1,aM (aQ ⟨rfl,by
       rw[show yX v.rep.length (vT [97]).name=[97]from qw λn e=> ?_];have:=eC T8 e;rw[yW]at this;have e0:n=49:=this.symm;subst e0
       exact absurd e (by decide)⟩)⟩
      have I:=rq G k g w0 most _ _ X r1 r2 hA z N O;rw[N]at h;rw[O]at w
      match r1,I,h with
      | .inl q,I,h=>simp only[gR]at I;subst I;cases h;cases w;rfl
      | .inr (y,l),⟨l',hr,e9,i⟩,h=>subst hr;exact k _ _ _ _ _ _ _ u (g.app e9) i (jU h).2 (jU w).2
   ·cases h
 rw[aN h4]at h w;by_cases h5:x.op=oO
 ·rw[aR h5]at h w
  match E:x.kids,f,h,w with
  |[a,b],f,h,w=>obtain⟨K,H,s,A,u⟩:=F2.i2 f;rw[s]at w;simp only[]at h w;unfold KE at h w;refine vP h w (λr j q d=>k _ _ _ _ _ _ _ A g z q d) λy D i h w=> ?_;refine vP h w (λr j q d=>k _ _ _ _ _ _ _ u g i q d) λY M C h w=> ?_;refine vP h w (λr j q d=>ly C (o:=none) (λnd e=>by cases e) q d) λw1 c3 U h w=> ?_;refine vP h w (λr j q d=>ly U (lz (o:=dO) (by decide) (by decide) _ _) q d) λw2 c4 V h w=> ?_;refine Sd G V h w λw3 W h w=> ?_;cases h;cases w;exact⟨rfl,W⟩
  |[],_,h,_=>cases h
  |[_],_,h,_=>cases h
  |_::_::_::_,_,h,_=>cases h
 rw[aN h5]at h w;by_cases h6:x.op=eS
 ·rw[aR h6]at h w
  match E:x.kids,f,h,w with
  |[a,b],f,h,w=>obtain⟨K,H,s,A,u⟩:=F2.i2 f;rw[s]at w;simp only[]at h w;unfold ZP at h w;refine vP h w (λr j q d=>k _ _ _ _ _ _ _ A g z q d) λy D i h w=> ?_;refine vP h w (λr j q d=>k _ _ _ _ _ _ _ u g i q d) λY M C h w=> ?_;exact ly C (lz (o:=eS) (by decide) (by decide) _ _) h w
  |[],_,h,_=>cases h
  |[_],_,h,_=>cases h
  |_::_::_::_,_,h,_=>cases h
 rw[aN h6]at h w;by_cases h7:x.op=dS
 ·rw[aR h7]at h w;exact ly z (Gg (o:=nD) (by decide) (by decide)) h w
 ·rw[aN h7]at h;cases h
theorem mc{i:bM}(d:ME i){c:lQE}(k:GS i.rep.length c)(most:Nat):∀f a,PS i (j7 c most f) (j7 c most a)
 |0,_=>λx n l m o r g _ _ _ h _=>by rw[j7]at h;cases h
 |_+1,0=>λx n l m o r g _ _ _ _ h=>by rw[j7]at h;cases h
 |f+1,a+1=>λx n l m o r g u t s h w=>by
  have v:=Sf d k (most:=most) (mc d k most f a);rw[j7]at h w;unfold uT at h w;refine vP h w (λr g q y=>v _ _ _ _ _ _ _ u t s q y) λz p j h w=> ?_;rw[Vp d j]at w
  cases e:JY z (cT p)with
  |none=>rw[e]at h;cases h
  |some b=>
   rw[e]at h w
   cases b with
   |true=>cases h;cases w;rfl
   |false=>cases h;cases w;exact⟨rfl,j⟩
end Go.Proofs.YtcdijppegfcoaaaGreatDoor
