import Derived.Test.YtcdijppegfcoaaaGreatDoorZH50
set_option linter.unusedSimpArgs false
namespace Go.Proofs.YtcdijppegfcoaaaGreatDoor
open Go.RowKit Tryz
variable{T:List fI}{F:Nat}
def Pe(u:UR):Prop:=∀y,u=some y->y.1.length<=300
theorem RQ{a b:UR}(h:Pe a)(e:Pe b):Pe (LY a b):=by
 cases a with
 |none=>exact e
 |some x=>exact h
theorem rt{P:Ex->List (List aA)->Option UR}{l:List (List aA)}:∀{w:List Ex},(∀e,e∈w->∃u,P e l=some u/\Pe u)->∃u,ZY P w l=some u/\Pe u
 |[],_=>⟨none,rfl,λy h=>by cases h⟩
 |e::w,h=>by
  obtain⟨u,a,b⟩:=h e bG;rw[ZY,a]
  cases u with
  |some y=>exact⟨_,rfl,b⟩
  |none=>exact rt λx c=>h x (bE _ c)
theorem KP(D:lQE):∀(f:Nat) (x:Ex) (l:List (List aA)),mG f x->cN f x<=300->∃u,pQ D f x l=some u/\Pe u
 |0,_,_,h,_=>h.elim
 |f+1,x,l,h,J=>by
  have i:=KP D f;rw[pQ,Ee];rcases h with⟨d,⟨a,g,s⟩,w⟩|⟨d,⟨a,g,s⟩,w⟩|⟨d,p,b,g,s,w,j⟩|⟨d,a,b,c,g,w,j,k,v⟩|⟨d,p,a,b,g,s,w,j,k⟩|⟨d,F,b,g,H,s,w,j,k,v⟩|⟨d,a,b,g,w,j,k⟩|⟨d,a,b,g,w,j,k⟩
  ·have I:=s.1;rw[aR d,g];simp only[];rw[aR (by omega)];refine⟨_,rfl,λy z=> ?_⟩;split at z
   ·cases z
   ·cases z;simp only[];omega
  ·rw[d,aN (by decide),aN (by decide),aN (by decide),aN (by decide),aN (by decide),aN (by decide),aN (by decide),aR rfl];exact⟨_,rfl,λy h=>by cases h⟩
  ·have t:cN (f+1) x=1+cN f b:=by rw[cN,g,w];rfl
   rw[d,aN (by decide),aR rfl,g,w];exact i b _ j (by omega)
  ·have t:cN (f+1) x=0+(cN f a+(cN f b+cN f c)):=by rw[cN,g,w];rfl
   rw[d,aN (by decide),aN (by decide),aR rfl,w];simp only[];obtain⟨A,m,q⟩:=i a l j (by omega);obtain⟨C,n,r⟩:=i b l k (by omega);obtain⟨K,E,G⟩:=i c l v (by omega);rw[m,n,E];exact⟨_,rfl,RQ q (RQ r G)⟩
  ·have t:cN (f+1) x=1+(cN f a+cN f b):=by rw[cN,g,w];rfl
   rw[d,aN (by decide),aN (by decide),aN (by decide),aR rfl,g,w];simp only[];obtain⟨A,m,q⟩:=i a l j (by omega);obtain⟨C,n,r⟩:=i b ([p]::l) k (by omega);rw[m,n];exact⟨_,rfl,RQ q r⟩
  ·have t:cN (f+1) x=x.names.length+((F.map (cN f)).sum+cN f b):=by rw[cN,w,eR,oH];simp
   rw[d,aN (by decide),aN (by decide),aN (by decide),aN (by decide),aR rfl,aR (by omega)];refine rt λe o=> ?_;rw[w]at o;rcases cH.1 o with o|o
   ·have:=yT (gH (f:=cN f) o);exact i e _ (k e o) (by omega)
   ·rw[bF.1 o];exact i b _ v (by omega)
  ·have t:cN (f+1) x=0+(cN f a+cN f b):=by rw[cN,g,w];rfl
   rw[d,aN (by decide),aN (by decide),aN (by decide),aN (by decide),aN (by decide),aR rfl,w];simp only[];obtain⟨A,m,q⟩:=i a l j (by omega);obtain⟨C,n,r⟩:=i b l k (by omega);rw[m,n];exact⟨_,rfl,RQ q r⟩
  ·have t:cN (f+1) x=0+(cN f a+cN f b):=by rw[cN,g,w];rfl
   rw[d,aN (by decide),aN (by decide),aN (by decide),aN (by decide),aN (by decide),aN (by decide),aR rfl,w];simp only[];obtain⟨A,m,q⟩:=i a l j (by omega);obtain⟨C,n,r⟩:=i b l k (by omega);rw[m,n];exact⟨_,rfl,RQ q r⟩
def uS(u v:UR):Prop:=u.map (·.1)=v.map (·.1)
theorem Gh{a b c d:UR}(h:uS a c)(k:uS b d):uS (LY a b) (LY c d):=by
 cases a with
 |none=>cases c with|none=>exact k|some x=>cases h
 |some y=>cases c with|none=>cases h|some x=>exact h
def Zp(P w:Ex->List (List aA)->Option UR):Prop:=∀x e l u h,XE x e->P x l=some u->w e l=some h->uS u h
theorem Pf{P a:Ex->List (List aA)->Option UR}(i:Zp P a){l:List (List aA)}:∀{d f:List Ex} {u x:UR},F2 XE d f->ZY P d l=some u->ZY a f l=some x->uS u x
 |[],[],u,x,_,h,w=>by rw[ZY]at h w;cases h;cases w;rfl
 |[],_::_,_,_,h,_,_=>h.elim
 |_::_,[],_,_,h,_,_=>h.elim
 |e::d,k::f,u,x,hE,h,w=>by
  rw[ZY]at h w
  cases b:P e l with
  |none=>rw[b]at h;cases h
  |some v=>
   cases c:a k l with
   |none=>rw[c]at w;cases w
   |some j=>
    have g:=i _ _ _ _ _ hE.1 b c;rw[b]at h;rw[c]at w
    cases v with
    |none=>
     cases j with
     |none=>exact Pf i hE.2 h w
     |some y=>cases g
    |some y=>
     cases j with
     |none=>cases g
     |some m=>cases h;cases w;exact g
theorem Gi{A B w x:Option UR}{u b:UR}(h:(match A,B with|some r,some s=>some (LY r s)|_,_=>none)=some u)(a:(match w,x with|some r,some s=>some (LY r s)|_,_=>none)=some b)(c:∀r e,A=some r->w=some e->uS r e)(d:∀r e,B=some r->x=some e->uS r e):uS u b:=by
 cases A with
 |none=>cases h
 |some r=>cases B with
  |none=>cases h
  |some s=>cases w with
   |none=>cases a
   |some e=>cases x with
    |none=>cases a
    |some f=>cases h;cases a;exact Gh (c _ _ rfl rfl) (d _ _ rfl rfl)
theorem Vq(i:lQE):∀f m,Zp (pQ i f) (pQ i m)
 |0,_=>λx Q l u P _ h _=>by rw[pQ]at h;cases h
 |_+1,0=>λx Q l u P _ _ h=>by rw[pQ]at h;cases h
 |f+1,m+1=>λx Q l u P V h e=>by
  have d:=Vq i f m;obtain⟨U,T,w⟩:=V.kids;rw[pQ,Ee]at h e;rw[U,T]at e;by_cases H:x.op=bK
  ·rw[aR H]at h e
   match en:x.names,h,e with
   |[nm],h,e=>
    simp only[]at h e;split at h
    ·rename_i G;rw[aR G]at e;split at h
     ·rename_i F;rw[aR F]at e;cases h;cases e;rfl
     ·rename_i F;rw[aN F]at e;cases h;cases e;rfl
    ·cases h
   |[],h,_=>cases h
   |_::_::_,h,_=>cases h
  rw[aN H]at h e;by_cases I:x.op=dO
  ·rw[aR I]at h e
   match en:x.names,C:x.kids,w,h,e with
   |[p],[b],w,h,e=>obtain⟨o,g,j⟩:=F2.i1 w;rw[g]at e;exact d _ _ _ _ _ j h e
   |[],_,_,h,_=>cases h
   |_::_::_,_,_,h,_=>cases h
   |[_],[],_,h,_=>cases h
   |[_],_::_::_,_,h,_=>cases h
  rw[aN I]at h e;by_cases J:x.op=xA
  ·rw[aR J]at h e
   match C:x.kids,w,h,e with
   |[a,b,c],w,h,e=>
    obtain⟨y,o,R,g,k,j,S⟩:=F2.i3 w;rw[g]at e;simp only[]at h e
    cases q:pQ i f a l with
    |none=>rw[q]at h;cases h
    |some r=>
     cases z:pQ i f b l with
     |none=>rw[q,z]at h;cases h
     |some s=>
      cases D:pQ i f c l with
      |none=>rw[q,z,D]at h;cases h
      |some t=>
       cases v:pQ i m y l with
       |none=>rw[v]at e;cases e
       |some n=>
        cases A:pQ i m o l with
        |none=>rw[v,A]at e;cases e
        |some W=>
         cases E:pQ i m R l with
         |none=>rw[v,A,E]at e;cases e
         |some X=>rw[q,z,D]at h;rw[v,A,E]at e;cases h;cases e;exact Gh (d _ _ _ _ _ k q v) (Gh (d _ _ _ _ _ j z A) (d _ _ _ _ _ S D E))
   |[],_,h,_=>cases h
   |[_],_,h,_=>cases h
   |[_,_],_,h,_=>cases h
   |_::_::_::_::_,_,h,_=>cases h
  rw[aN J]at h e;by_cases K:x.op=iP
  ·rw[aR K]at h e
   match en:x.names,C:x.kids,w,h,e with
   |[p],[a,b],w,h,e=>obtain⟨y,o,g,k,j⟩:=F2.i2 w;rw[g]at e;exact Gi h e (λr n=>d _ _ _ _ _ k) (λr n=>d _ _ _ _ _ j)
   |[],_,_,h,_=>cases h
   |_::_::_,_,_,h,_=>cases h
   |[_],[],_,h,_=>cases h
   |[_],[_],_,h,_=>cases h
   |[_],_::_::_::_,_,h,_=>cases h
  rw[aN K]at h e;by_cases L:x.op=gV
  ·rw[aR L]at h e;split at h
   ·rename_i G;rw[aR G]at e;exact Pf d w h e
   ·cases h
  rw[aN L]at h e;by_cases M:x.op=oO
  ·rw[aR M]at h e
   match C:x.kids,w,h,e with
   |[a,b],w,h,e=>obtain⟨y,o,g,k,j⟩:=F2.i2 w;rw[g]at e;exact Gi h e (λr n=>d _ _ _ _ _ k) (λr n=>d _ _ _ _ _ j)
   |[],_,h,_=>cases h
   |[_],_,h,_=>cases h
   |_::_::_::_,_,h,_=>cases h
  rw[aN M]at h e;by_cases N:x.op=eS
  ·rw[aR N]at h e
   match C:x.kids,w,h,e with
   |[a,b],w,h,e=>obtain⟨y,o,g,k,j⟩:=F2.i2 w;rw[g]at e;exact Gi h e (λr n=>d _ _ _ _ _ k) (λr n=>d _ _ _ _ _ j)
   |[],_,h,_=>cases h
   |[_],_,h,_=>cases h
   |_::_::_::_,_,h,_=>cases h
  rw[aN N]at h e;by_cases O:x.op=dS
  ·rw[aR O]at h e;cases h;cases e;rfl
  ·rw[aN O]at h;cases h
def il(r:Option (Sum Nat (bM×Nat))):Prop:=∀q,r=some (.inl q)->q<8
theorem qN{r:Option (Sum Nat (bM×Nat))}{k:bM->Nat->Option (Sum Nat (bM×Nat))}(h:il r)(b:∀x c,il (k x c)):il (oG r k):=λq e=>by
 rcases kF e with⟨d,a,w⟩|⟨x,c,_,w⟩
 ·cases w;exact h _ a
 ·exact b x c q w
theorem vQ(r:Option (bM×Nat)):il (qJ r):=λq e=>by obtain⟨_,_,_,h⟩:=jT e;cases h
theorem Gj{a b:Nat}{w:bM}{k:bM->Option (Sum Nat (bM×Nat))}(x:∀w,il (k w)):il (zf a b w k):=λq e=>by
 rcases J3 e with⟨_,h⟩|⟨c,_,h⟩
 ·cases h;decide
 ·exact x c q h
theorem nU:il none:=λq e=>by cases e
theorem me(x:bM×Nat):il (some (.inr x)):=λq e=>by cases e
theorem O1{P:Ex->List (aA×Et)->bM->Option (Sum Nat (bM×Nat))}(x:∀e h w,il (P e h w))(b:Ex)(h a:lQE)(w:bM):il (qK P b h a w):=λq e=>x _ _ _ q (jU e).2
theorem cg{P:Ex->List (aA×Et)->bM->Option (Sum Nat (bM×Nat))}(g:∀e w a,il (P e w a))(w d:lQE):∀(f:List Ex) (a:bM) (q:Nat),iY P w d f a=some (.inl q)->q<8
 |[],a,q,h=>by rw[iY]at h;cases h
 |e::f,a,q,h=>by
  rw[iY]at h
  cases b:qK P e w d a with
  |none=>rw[b]at h;cases h
  |some r=>
   rw[b]at h
   match r,b,h with
   | .inl i,b,h=>cases h;exact O1 g _ _ _ _ _ b
   | .inr x,_,h=>
    simp only[]at h
    cases c:iY P w d f x.1 with
    |none=>rw[c]at h;cases h
    |some r2=>
     rw[c]at h
     match r2,c,h with
     | .inl i,c,h=>cases h;exact cg g w d f _ _ c
     | .inr y,_,h=>cases h
theorem Gk{P:Ex->List (aA×Et)->bM->Option (Sum Nat (bM×Nat))}(j:∀e w b,il (P e w b)){i:aD}{d:List Ex}{w c:lQE}{b:bM}{q:Nat}(h:rQ P i d w c b=some (.inl q)):q<8:=by
 unfold rQ at h
 cases a:iY P w c d b with
 |none=>rw[a]at h;cases h
 |some r=>
  rw[a]at h
  match r,a,h with
  | .inl k,a,h=>cases h;exact cg j w c d _ _ a
  | .inr x,_,h=>
   simp only[]at h
   cases f:mV x.1 w with
   |none=>rw[f]at h;cases h
   |some L=>
    rw[f]at h;simp only[]at h
    cases g:nZ x.1 L i x.2 with
    |none=>rw[g]at h;cases h
    |some l=>rw[g]at h;cases h
theorem cj{P:Ex->List (aA×Et)->bM->Option (Sum Nat (bM×Nat))}(i:∀e d a,il (P e d a)){j:aD}{g:List Ex}{d:lQE}:∀(k:Nat) (c:lQE) (a:bM) (q:Nat),l9 P j g d k c a=some (.inl q)->q<8
 |0,_,_,q,h=>by rw[l9]at h;cases h;decide
 |k+1,c,a,q,h=>by
  rw[l9]at h
  cases w:rQ P j g d c a with
  |none=>rw[w]at h;cases h
  |some r=>
   rw[w]at h
   match r,w,h with
   | .inl l,w,h=>cases h;exact Gk i w
   | .inr x,_,h=>
    simp only[]at h
    cases f:qL x.1 c x.2 with
    |none=>rw[f]at h;cases h
    |some b=>
     rw[f]at h
     cases b with
     |true=>cases h
     |false=>exact cj i k x.2 x.1 q h
theorem rx(a:lQE)(b:Nat):∀(f:Nat) (e:Ex) (d:lQE) (x:bM),il (j7 a b f e d x)
 |0,_,_,_=>nU
 |f+1,e,d,x=>by
  have w:=rx a b f;rw[j7];unfold uT;refine qN ?_ λx c=> ?_
  ·unfold uX;split
   ·split
    ·exact vQ _
    ·exact nU
   split
   ·split
    ·exact qN (vQ _) λ_ _=>qN (O1 w _ _ _ _) λ_ _=>vQ _
    ·exact nU
   split
   ·split
    ·exact qN (w _ _ _) λ_ _=>qN (vQ _) λ_ _=>Gj λ_=>qN (w _ _ _) λ_ _=>qN (w _ _ _) λ_ _=>Gj λ_=>me _
    ·exact nU
   split
   ·split
    ·refine qN (w _ _ _) λx c=> ?_;split
     ·exact nU
     ·split
      ·exact nU
      ·exact O1 w _ _ _ _
    ·exact nU
   split
   ·split
    ·split
     ·intro q h;unfold Eb at h;split at h
      ·cases h
      ·rename_i i g;cases h;exact cj w _ _ _ _ g
      ·exact O1 w _ _ _ _ q h
     ·exact nU
    ·exact nU
   split
   ·split
    ·exact qN (w _ _ _) λ_ _=>qN (w _ _ _) λ_ _=>qN (vQ _) λ_ _=>qN (vQ _) λ_ _=>Gj λ_=>me _
    ·exact nU
   split
   ·split
    ·exact qN (w _ _ _) λ_ _=>qN (w _ _ _) λ_ _=>vQ _
    ·exact nU
   split
   ·exact vQ _
   ·exact nU
  ·split
   ·exact nU
   ·intro q h;cases h;decide
   ·exact me _
def gT:Nat->Et->Prop
 |0,_=>False
 |m+1,t=>(t=vT t.name/\t.name.length<=300)\/(qi t.kind=some t.kids.length/\t=⟨t.kind,[],0,t.kids⟩/\∀k,k∈t.kids->gT m k)
theorem J9{w:bM}(i:ZW w)(s:w.rep.length<=9223372036854775806):∀(f c:Nat) (t:Et),c<w.rep.length->cI w [] f c=some t->gT f t
 |0,_,_,_,h=>by rw[cI]at h;cases h
 |f+1,c,t,u,h=>by
  rw[cI,aN (by simp)]at h
  cases e:w.is c with
  |none=>rw[e]at h;simp only[]at h;have:=i.lt u;rw[aR (by omega)]at h;cases h;exact aQ ⟨rfl,ay (by omega)⟩
  |some nd=>
   rw[e]at h;simp only[]at h;have r:=i.is_nd e
   cases d:kH (λk:Et=>cI w [] f k.num) nd.kids with
   |none=>rw[d]at h;cases h
   |some z=>
    rw[d]at h;cases h
    have:∀(l x:List Et),(∀k,k∈l->k.num<w.rep.length)->kH (λk:Et=>cI w [] f k.num) l=some x->x.length=l.length/\∀y,y∈x->gT f y:=by
     intro l
     induction l with
     |nil=>intro x _ h;rw[kH]at h;cases h;exact⟨rfl,λy h=>by cases h⟩
     |cons a l v=>
      intro x q h;rw[kH]at h
      cases m:cI w [] f a.num with
      |none=>rw[m]at h;cases h
      |some b=>
       rw[m]at h;simp only[]at h
       cases n:kH (λk:Et=>cI w [] f k.num) l with
       |none=>rw[n]at h;cases h
       |some bs=>
        rw[n]at h;cases h;obtain⟨o,p⟩:=v bs (λk g=>q k (bE _ g)) n;refine⟨by simp[o],λy j=> ?_⟩;rcases bH.1 j with rfl|j
        ·exact J9 i s f a.num _ (q a bG) m
        ·exact p y j
    obtain⟨o,p⟩:=this _ _ (λk g=>(r.2 k g).2) d;exact aM ⟨by rw[r.1];exact eC some o.symm,rfl,p⟩
def sO(F:Et->List aA->Ty×List aA):List Et->List aA->List Ty×List aA
 |[],h=>([],h)
 |t::e,h=>((F t h).1::(sO F e (F t h).2).1,(sO F e (F t h).2).2)
def UY:Nat->Et->List aA->Ty×List aA
 |0,_,h=>(⟨[],0,[]⟩,h)
 |m+1,t,h=>if t.kind=[]then(⟨[],(pU h t.name).1,[]⟩,(pU h t.name).2)else(⟨t.kind,0,(sO (UY m) t.kids h).1⟩,(sO (UY m) t.kids h).2)
def Gl:Nat->Et->aA->Prop
 |0,_,_=>False
 |m+1,t,a=>(t.kind=[]/\t.name=a)\/∃k,k∈t.kids/\Gl m k a
structure TE(m:Nat)(t:Et)(ns:aD)(x:Ty)(ns':aD):Prop where
 p:ns<+:ns'
 d:ns'.Nodup
 ok:dJ ns'.length m x
 q:∀n2,ns'<+:n2->qe n2 m x=t
 sz:cC m x=oQ m t
 v:cQ m x (List.range ns.length)=List.range ns'.length
 o:∀a,a∈ns'->a∈ns\/Gl m t a
theorem dJ.more{N f:Nat}(h:N<=f):∀{m:Nat} {x:Ty},dJ N m x->dJ f m x
 |0,_,k=>k
 |m+1,x,k=>by
  rcases k with⟨e,c,w⟩|k|⟨e,c,a,w,d⟩|⟨e,c,a,b,w,d,g⟩
  ·exact aQ ⟨e,by omega,w⟩
  ·exact aM (aQ k)
  ·exact aM (aM (aQ ⟨e,c,a,w,d.more h⟩))
  ·exact aM (aM (aM ⟨e,c,a,b,w,d.more h,g.more h⟩))
theorem ck{m:Nat}(j:∀t e,gT m t->e.Nodup->TE m t e (UY m t e).1 (UY m t e).2):∀(w:List Et) (e:aD),(∀t,t∈w->gT m t)->e.Nodup->
  e<+:(sO (UY m) w e).2/\(sO (UY m) w e).2.Nodup/\(sO (UY m) w e).1.length=w.length/\(∀x,x∈(sO (UY m) w e).1->dJ (sO (UY m) w e).2.length m x)/\(∀f,(sO (UY m) w e).2<+:f->(sO (UY m) w e).1.map (qe f m)=w)/\(sO (UY m) w e).1.map (cC m)=w.map (oQ m)/\(sO (UY m) w e).1.foldl (λl x=>cQ m x l) (List.range e.length)=List.range (sO (UY m) w e).2.length/\∀a,a∈(sO (UY m) w e).2->a∈e\/∃k,k∈w/\Gl m k a
 |[],e,_,g=>⟨dD _,g,rfl,λx h=>(by cases h),λ_ _=>rfl,rfl,rfl,λa h=>aQ h⟩
 |t::w,e,ht,g=>by
  have b:=j t e (ht t bG) g;obtain⟨i,u,y,z,A,C,D,E⟩:=ck j w (UY m t e).2 (λx c=>ht x (bE _ c)) b.d;simp only[sO];refine⟨b.p.trans i,u,by simp[y],λx c=> ?_,λf n=> ?_, ?_, ?_,λa s=> ?_⟩
  ·rcases bH.1 c with rfl|c
   ·exact b.ok.more i.length_le
   ·exact z x c
  ·rw[cG,b.q f (i.trans n),A f n]
  ·rw[cG,cG,b.sz,C]
  ·rw[fD,b.v,D]
  ·rcases E a s with h|⟨k,h,r⟩
   ·rcases b.o a h with h|h
    ·exact aQ h
    ·exact aM ⟨t,bG,h⟩
   ·exact aM ⟨k,bE _ h,r⟩
theorem Pg:∀(m:Nat) (t:Et) (x:aD),gT m t->x.Nodup->TE m t x (UY m t x).1 (UY m t x).2
 |0,_,_,h,_=>h.elim
 |m+1,t,x,h,l=>by
  rw[UY];rcases h with⟨w,g⟩|⟨w,g,z⟩
  ·have v:t.kind=[]:=by rw[w];rfl
   have C:t.kids=[]:=by rw[w];rfl
   have y:oQ (m+1) t=1:=by rw[oQ,C];rfl
   rw[aR v];unfold pU;by_cases i:t.name∈x
   ·rw[aR i];have d:x.idxOf t.name<x.length:=List.idxOf_lt_length_iff.2 i;refine⟨dD _,l,aQ ⟨rfl,d,rfl⟩,λs f=> ?_,y.symm, ?_,λa h=>aQ h⟩
    ·rw[qe,aR rfl];simp only[];rw[GV f d,aW,aP d,List.getElem_idxOf d];exact w.symm
    ·simp only[cQ];rw[aR trivial,aR (eV.2 d)]
   ·rw[aN i];refine⟨iN _ _, ?_,aQ ⟨rfl,by simp,rfl⟩,λs f=> ?_,y.symm, ?_,λa h=> ?_⟩
    ·rw[jX];refine⟨l,by simp,λa j b A=> ?_⟩;rw[bF.1 A];intro e;subst e;exact i j
    ·rw[qe,aR rfl];simp only[];rw[GV f (by simp),aW,eY];exact w.symm
    ·simp only[cQ];rw[aR trivial,aN (by simp),bD,List.length_singleton,mH]
    ·rcases cH.1 h with h|h
     ·exact aQ h
     ·rw[bF.1 h];exact aM (aQ ⟨v,rfl⟩)
  ·have n:=qY w;rw[aN n.2];obtain⟨D,E,F,c,G,H,I,J⟩:=ck (Pg m) t.kids x z l;generalize K:sO (UY m) t.kids x=r at*;obtain⟨u,L⟩:=r;simp only[]at*;refine⟨D,E, ?_,λs f=> ?_, ?_, ?_,λa j=> ?_⟩
   ·unfold qi at w;rw[<-F]at w;by_cases o:t.kind=nD\/t.kind=eU
    ·rw[aR o]at w
     match u,w with
     |[],_=>exact aM (aQ ⟨o,rfl,rfl⟩)
     |_::_,w=>simp at w
    ·rw[aN o]at w;by_cases p:t.kind=nF
     ·rw[aR p]at w
      match u,w,c with
      |[a],_,c=>exact aM (aM (aQ ⟨p,rfl,a,rfl,c a (by simp)⟩))
      |[],w,_=>simp at w
      |_::_::_,w,_=>simp at w
     ·rw[aN p]at w;by_cases q:t.kind=eS\/t.kind=dO
      ·rw[aR q]at w
       match u,w,c with
       |[a,b],_,c=>exact aM (aM (aM ⟨q,rfl,a,b,rfl,c a (by simp),c b (by simp)⟩))
       |[],w,_=>simp at w
       |[_],w,_=>simp at w
       |_::_::_::_,w,_=>simp at w
      ·rw[aN q]at w;cases w
   ·rw[qe];simp only[];rw[aN n.2,G s f];exact g.symm
   ·rw[cC,oQ];simp only[];rw[H]
   ·rw[cQ];simp only[];rw[aN n.2,I]
   ·rcases J a j with h|⟨k,h,g⟩
    ·exact aQ h
    ·exact aM (aM ⟨k,h,g⟩)
theorem Sg{m:Nat}{t:Et}(h:gT m t):∃x e,TE m t [] x e:=⟨_,_,Pg m t [] h zv⟩
theorem Si:∀(m:Nat) (t:Et),gT m t->Om m t=true
 |0,_,h=>h.elim
 |m+1,t,h=>by
  rw[Om,cY,lS];rcases h with⟨e,x⟩|⟨e,x,a⟩
  ·refine⟨dE (by rw[e];exact(by decide:¬([]:aA)=cM)),λk w=> ?_⟩;rw[e]at w;cases w
  ·exact⟨dE (qY e).1,λk w=>Si m k (a k w)⟩
structure SX(σ σ':bM):Prop where
 l:σ.con.length=σ.rep.length
 r:σ.rep<+:σ'.rep
 c:σ.con<+:σ'.con
theorem SX.trans{a b c:bM}(h:SX a b)(k:SX b c):SX a c:=⟨h.l,h.r.trans k.r,h.c.trans k.c⟩
theorem SX.refl{e:bM}(h:ZW e):SX e e:=⟨h.len,dD _,dD _⟩
theorem SX.new{e:bM}(h:ZW e)(o:Option Et):SX e (e.new o):=⟨h.len,iN _ _,iN _ _⟩
theorem SX.root{e w:bM}(h:SX e w){c:Nat}(x:c<e.rep.length):w.root c=e.root c:=by obtain⟨r,a⟩:=h.r;unfold bM.root;rw[<-a,aW,aW,bJ x]
theorem SX.is{e x:bM}(h:SX e x)(b:ZW e){c:Nat}(w:c<e.rep.length):x.is c=e.is c:=by unfold bM.is;rw[h.root w];obtain⟨r,a⟩:=h.c;rw[<-a,aW,aW,bJ (by rw[h.l];exact b.lt w)]
def rn(g:aJ):Nat->Et->Et
 |0,t=>t
 |m+1,t=>if t.kind=[]then vT (uR ((dR g t.name).getD 0+1))else⟨t.kind,[],0,t.kids.map (rn g m)⟩
structure GX(σ:bM)(g:aJ):Prop where
 n:∀a k,dR g a=some k->k<σ.rep.length/\σ.root k=k/\σ.is k=none
 i:∀a b k,dR g a=some k->dR g b=some k->a=b
theorem GX.up{b c:bM}{g:aJ}(h:GX b g)(j:ZW b)(x:SX b c):GX c g:=
 ⟨λa k e=>by
  obtain⟨w,d,f⟩:=h.n a k e
  exact⟨aZ w x.r.length_le,by rw[x.root w];exact d,by rw[x.is j w];exact f⟩,h.i⟩
def Zq(g h:aJ):Prop:=∀a k,dR g a=some k->dR h a=some k
theorem Ph{g x:aJ}(h:Zq g x):∀(m:Nat) (t:Et),(∀a,Gl m t a->(dR g a).isSome=true)->rn x m t=rn g m t
 |0,_,_=>rfl
 |m+1,t,b=>by
  rw[rn,rn];split
  ·rename_i w;have:=b t.name (aQ ⟨w,rfl⟩)
   cases e:dR g t.name with
   |none=>rw[e]at this;cases this
   |some k=>rw[h _ _ e]
  ·rw[dF λk w=>Ph h m k λa c=>b a (aM ⟨k,w,c⟩)]
structure IG(σ σ':bM)(g g':aJ):Prop where
 w:ZW σ'
 x:SX σ σ'
 gx:GX σ' g'
 le:Zq g g'
 lo:∀a k,dR g' a=some k->dR g a=some k\/σ.rep.length<=k
theorem UZ{I:Et->bM->List (aA×Nat)->Option (bM×List (aA×Nat)×Nat)}{m:Nat}
  (D:∀t b g f d c,gT m t->ZW b->GX b g->I t b g=some (f,d,c)->IG b f g d/\c<f.rep.length/\(∀a,Gl m t a->(dR d a).isSome=true)/\∀i,SX f i->ZW i->i.rep.length<=9223372036854775806->cI i [] m c=some (rn d m t)):
  ∀(l:List Et) (b:bM) (g:aJ) (f:bM) (d:aJ) (n:List Et),(∀t,t∈l->gT m t)->ZW b->GX b g->gL I l b g=some (f,d,n)->IG b f g d/\n.length=l.length/\(∀k,k∈n->k=cT k.num/\k.num<f.rep.length)/\(∀t,t∈l->∀a,Gl m t a->(dR d a).isSome=true)/\∀i,SX f i->ZW i->i.rep.length<=9223372036854775806->kH (λk:Et=>cI i [] m k.num) n=some (l.map (rn d m))
 |[],b,g,f,d,n,_,s,y,h=>by rw[gL]at h;cases h;exact⟨⟨s,SX.refl s,y,λ_ _ e=>e,λ_ _ e=>aQ e⟩,rfl,λk h=>(by cases h),λt h=>(by cases h),λ_ _ _ _=>rfl⟩
 |t::l,b,g,f,d,n,ht,s,y,h=>by
  rw[gL]at h
  cases u:I t b g with
  |none=>rw[u]at h;cases h
  |some r=>
   obtain⟨A,p,c⟩:=r;rw[u]at h;simp only[]at h;obtain⟨o,L,F,Q⟩:=D t b g A p c (ht t bG) s y u
   cases v:gL I l A p with
   |none=>rw[v]at h;cases h
   |some r=>
    obtain⟨i,T,S⟩:=r;rw[v]at h;cases h;obtain⟨j,N,M,O,R⟩:=UZ D l A p _ _ _ (λx q=>ht x (bE _ q)) o.w o.gx v
    have P:∀a,(dR p a).isSome=true->(dR d a).isSome=true:=λa h=>by
     cases e:dR p a with
     |none=>rw[e]at h;cases h
     |some k=>rw[j.le a k e];rfl
    refine⟨⟨j.w,o.x.trans j.x,j.gx,λa k e=>j.le a k (o.le a k e),λa k e=>(j.lo a k e).elim (λh=>o.lo a k h) (λh=>aM (bV o.x.r.length_le h))⟩,by simp[N],λk z=> ?_,λx q a E=> ?_,λC G H J=> ?_⟩
    ·rcases bH.1 z with rfl|z
     ·exact⟨rfl,aZ L j.x.r.length_le⟩
     ·exact M k z
    ·rcases bH.1 q with rfl|q
     ·exact P a (F a E)
     ·exact O x q a E
    ·have K:=Q C (j.x.trans G) H J;rw[<-Ph j.le m t F]at K;rw[kH,show cI C [] m (cT c).num=_ from K,R C G H J];rfl
theorem mg:∀(f m:Nat) (t:Et) (d:bM) (g:aJ) (l:bM) (j:aJ) (c:Nat),gT m t->ZW d->GX d g->k7 f t d g=some (l,j,c)->IG d l g j/\c<l.rep.length/\(∀a,Gl m t a->(dR j a).isSome=true)/\∀o,SX l o->ZW o->o.rep.length<=9223372036854775806->cI o [] m c=some (rn j m t)
 |0,_,_,_,_,_,_,_,_,_,_,h=>by rw[k7]at h;cases h
 |_+1,0,_,_,_,_,_,_,h,_,_,_=>h.elim
 |f+1,m+1,t,d,g,l,j,c,ht,s,u,h=>by
  rw[k7]at h;rcases ht with⟨C,U⟩|⟨C,U,V⟩
  ·have v:t.kind=[]:=by rw[C];rfl
   have W:t.kids=[]:=by rw[C];rfl
   have X:¬t.kind=cM:=by rw[v];decide
   rw[aN X,aR v]at h
   have M:∀(l:bM) (j:aJ) (c:Nat),ZW l->GX l j->dR j t.name=some c->∀o,SX l o->ZW o->o.rep.length<=9223372036854775806->cI o [] (m+1) c=some (rn j (m+1) t):=λl j c F J G o K q5 q6=>by obtain⟨Q,r2,r3⟩:=J.n _ _ G;have:=K.r.length_le;rw[cI,aN (by simp),K.is F Q,r3];simp only[];rw[K.root Q,r2,aR (by omega),rn,aR v,G];rfl
   have P:∀a,Gl (m+1) t a->a=t.name:=λa p=>by
    rcases p with⟨_,p⟩|⟨k,O,_⟩
    ·exact p.symm
    ·rw[W]at O;cases O
   cases e:dR g t.name with
   |some k=>rw[e]at h;cases h;exact⟨⟨s,SX.refl s,u,λ_ _ e=>e,λ_ _ e=>aQ e⟩,(u.n _ _ e).1,λa p=>by rw[P a p,e];rfl,M d g c s u e⟩
   |none=>
    rw[e]at h;simp only[]at h;split at h
    ·cases h;have I:zk d.rep.length none:=λZ e=>by cases e
     have D:=s.new I;have y:∀c,dR (g++[(t.name,d.rep.length)]) c=if t.name=c then some d.rep.length else dR g c:=D4 e
     have N:GX (d.new none) (g++[(t.name,d.rep.length)]):=by
      refine⟨λa k h=> ?_,λa b k h z=> ?_⟩
      ·rw[y]at h;split at h
       ·cases h;exact⟨by rw[jH];omega,by rw[qM,oY (aV _)],by rw[yS s,aR rfl]⟩
       ·exact(u.up s (SX.new s none)).n a k h
      ·rw[y]at h z;split at h
       ·rename_i A;split at z
        ·rename_i H;rw[<-A,H]
        ·cases h;have:=(u.n _ _ z).1;omega
       ·split at z
        ·cases z;have:=(u.n _ _ h).1;omega
        ·exact u.i a b k h z
     refine⟨⟨D,SX.new s none,N,λa k h=> ?_,λa k h=> ?_⟩,by rw[jH];omega,λa p=>by rw[P a p,y,aR rfl];rfl,M _ _ _ D N (by rw[y,aR rfl])⟩
     ·rw[y,aN (λH=>by rw[<-H,e]at h;cases h)];exact h
     ·rw[y]at h;split at h
      ·cases h;exact aM (aV _)
      ·exact aQ h
    ·cases h
  ·have E:=qY C;rw[aN E.1,aN E.2]at h
   cases A:gL (k7 f) t.kids d g with
   |none=>rw[A]at h;cases h
   |some r=>
    obtain⟨R,T,L⟩:=r;rw[A]at h;simp only[]at h;obtain⟨q,Y,S,o1,x1⟩:=UZ (λt d g l j c=>mg f m t d g l j c) t.kids d g R T L V s u A;split at h
    ·cases h
     have I:zk R.rep.length (some ⟨t.kind,[],0,L⟩):=λZ e=>by cases e;exact⟨by rw[C,Y],S⟩
     have D:=q.w.new I;refine⟨⟨D,q.x.trans (SX.new q.w _),q.gx.up q.w (SX.new q.w _),q.le,q.lo⟩,by rw[jH];omega,λa p=> ?_,λo F J G=> ?_⟩
     ·rcases p with⟨v,_⟩|⟨k,v,p⟩
      ·exact absurd v E.2
      ·exact o1 k v a p
     ·rw[cI,aN (by simp),F.is D (by rw[jH];omega),yS q.w,aR rfl];simp only[];rw[x1 o ((SX.new q.w _).trans F) J G,rn,aN E.2]
    ·cases h
def Gm(g:aJ)(h:aD):List aA:=h.map λa=>uR ((dR g a).getD 0+1)
theorem Pj{g:aJ}{c:aD}:∀(m:Nat) (x:Ty),dJ c.length m x->rn g m (qe c m x)=qe (Gm g c) m x
 |0,_,h=>h.elim
 |m+1,x,h=>by
  have o:x.kind=[]->x.var<c.length->rn g (m+1) (qe c (m+1) x)=qe (Gm g c) (m+1) x:=λf n=>by rw[qe,aR f,qe,aR f,rn,aR (show(vT (c.getD x.var [])).kind=[]from rfl)];show vT _=vT _;unfold Gm;rw[aW,aW,iH,aP n];rfl
  have k:x.kind≠[]->(∀y,y∈x.kids->dJ c.length m y)->rn g (m+1) (qe c (m+1) x)=qe (Gm g c) (m+1) x:=λf w=>by rw[qe,aN f,qe,aN f,rn];simp only[];rw[aN f,o9,dF λy h=> ?_];exact Pj m y (w y h)
  rcases h with⟨d,j,i⟩|⟨d,j,i⟩|⟨d,j,a,i,l⟩|⟨d,j,a,b,i,l,p⟩
  ·exact o d j
  ·exact k (by rcases d with e|e<;>rw[e]<;>decide) (λy w=>by rw[i]at w;cases w)
  ·exact k (by rw[d];decide) (λy w=>by rw[i,bF]at w;rw[w];exact l)
  ·refine k (by rcases d with e|e<;>rw[e]<;>decide) (λy w=> ?_);rw[i]at w;simp only[bH,cE,eK]at w;rcases w with rfl|rfl<;>assumption
theorem Gp{q:bM}{g:aJ}(n:GX q g){h:aD}(d:h.Nodup)(f:∀a,a∈h->(dR g a).isSome=true):(Gm g h).Nodup:=by
 unfold Gm
 induction h with
 |nil=>exact zv
 |cons a h p=>
  rw[xX]at d;rw[cG,xX];refine⟨λo=> ?_,p d.2 λb w=>f b (bE _ w)⟩;obtain⟨b,w,e⟩:=fF.1 o;have e:=RN e;have l:=f a bG;have m:=f b (bE _ w)
  cases x:dR g a with
  |none=>rw[x]at l;cases l
  |some k=>
   cases c:dR g b with
   |none=>rw[c]at m;cases m
   |some j=>
    rw[x,c]at e;have:j=k:=by simpa using e
    subst this;exact d.1 (n.i a b j x c▸w)
def Sj(t:fI):aA×aA:=(t.is,t.s)
def PX(l:aA)(i j:Nat)(h:List (aA×aA)):Prop:=∃e:List fI,e.map Sj=h/\∀f,iO dL l (f+h.length) i=e++iO dL l f j
theorem PX.app{l:aA}{i j k:Nat}{a b:List (aA×aA)}(h:PX l i j a)(e:PX l j k b):PX l i k (a++b):=by obtain⟨g,w,x⟩:=h;obtain⟨m,c,d⟩:=e;refine⟨g++m,by rw[eR,w,c],λf=> ?_⟩;rw[bD,show f+(a.length+b.length)=(f+b.length)+a.length from by omega,x,d,jA]
theorem PX.one{l:aA}{i e:Nat}{t:fI}(w:upto mS l i=i)(b:fL dL l i=(t,e))(a:t.is≠dZ)(x:t.is≠eE):PX l i e [Sj t]:=by refine⟨[t],rfl,λf=> ?_⟩;show iO dL l (f+1) i=_;rw[iO,w,b];simp only;rw[aN (λh=>h.elim a x)];rfl
theorem PX.blank{l:aA}{i j:Nat}{r:aA}{k:aA×aA}{e:List (aA×aA)}(h:l.drop i=32::r)(a:PX l (i+1) j (k::e)):PX l i j (k::e):=by
 obtain⟨c,w,x⟩:=a;refine⟨c,w,λf=> ?_⟩;rw[<-x f];show iO dL l (f+e.length+1) i=iO dL l (f+e.length+1) (i+1)
 have b:upto mS l i=upto mS l (i+1):=by unfold upto run;rw[h,(gO h).2.1];simp[mS];omega
 rw[iO,iO,b]
def Pk(r:aA):Prop:=∀c h,r=c::h->eI c=false
theorem cw{c:UInt8}{r:aA}(h:eI c=false):Pk (c::r):=λd w e=>by cases e;exact h
theorem Ly:Pk []:=λc r e=>by cases e
theorem Lz{p:UInt8->Bool}(w:∀c,p c=true->eI c=true):∀(u r:aA),(∀c,c∈u->p c=true)->Pk r->run p (u++r)=u.length
 |[],r,_,hr=>by
  cases r with
  |nil=>rfl
  |cons c r=>
   have:p c=false:=by
    cases e:p c with
    |false=>rfl
    |true=>exact absurd (w c e) (by rw[hr c r rfl];decide)
   simp[run,this]
 |c::u,r,a,hr=>by have b:p c=true:=a c (by simp);have h:=Lz w u r (λx d=>a x (bE _ d)) hr;unfold run at h⊢;simp[b,h]
theorem Gq{c:UInt8}(h:eI c=true):mS c=false:=by unfold eI low qO at h;unfold mS;simp only[l8,cX]at h;simp only[O8,dV];constructor<;>(intro e;subst e;simp at h)
theorem ry{l:aA}{i:Nat}{c:UInt8}{r:aA}(h:l.drop i=c::r)(w:c∈qX):PX l i (i+1) [([c],[c])]:=by
 have f:=(gO h).1
 have j:mS c=false/\low c=false/\qO c=false/\c≠45/\[c]≠bK/\[c]≠dS/\[c]≠dZ/\[c]≠eE:=by
  have:∀d,d∈qX->mS d=false/\low d=false/\qO d=false/\d≠45/\[d]≠bK/\[d]≠dS/\[d]≠dZ/\[d]≠eE:=by decide
  exact this c w
 obtain⟨k,m,n,o,b,p,q,s⟩:=j
 have g:lO l i=([c],i+1):=by unfold lO;rw[f];simp only[];rw[aN (by rw[m];decide),aN (by rw[n];decide),aN (λe=>o e.1),aR w]
 have a:=F6 g;rw[show(if([c]=bK\/[c]=dS)/\i+1-i>8 then dZ else [c])=[c]from aN (λx=>x.1.elim b p),aN (λx=>b x.1),show cut l i (i+1)=[c]from AZ (u:=[c]) (r:=r) h]at a;exact PX.one (pO mS h k) a q s
theorem Gr{l:aA}{i:Nat}{r:aA}(h:l.drop i=45::62::r):PX l i (i+2) [(cV,cV)]:=by
 have w:=(gO h).1;have a:=(gO (gO h).2.1).1
 have b:lO l i=(cV,i+2):=by unfold lO;rw[w];simp only[];rw[aN (by decide),aN (by decide),aR ⟨trivial,a⟩]
 have e:=F6 b;rw[show(if(cV=bK\/cV=dS)/\i+2-i>8 then dZ else cV)=cV from aN (λx=>absurd x.1 (by decide)),aN (λx=>absurd x.1 (by decide)),show cut l i (i+2)=cV from AZ (u:=[45,62]) (r:=r) h]at e;exact PX.one (pO mS h (by decide)) e (show cV≠dZ by decide) (show cV≠eE by decide)
theorem Ma{l:aA}{i:Nat}{u r:aA}(h:l.drop i=u++r)(j:MU u)(g:Pk r):PX l i (i+u.length) [(bK,u)]:=by
 obtain⟨m,f,⟨c,q,e,d⟩,a⟩:=j;have w:l.drop i=c::(q++r):=by rw[h,e];rfl
 have k:lO l i=(bK,i+u.length):=by unfold lO;rw[(gO w).1];simp only[];rw[aR d];unfold upto;rw[h,Lz (λ_ h=>h) u r a g]
 have b:=F6 k;rw[show(if(bK=bK\/bK=dS)/\i+u.length-i>8 then dZ else bK)=bK from aN (λx=>by omega),AZ h,aN (λx=>f x.2)]at b;exact PX.one (pO mS w (Gq (a c (by rw[e];simp)))) b (show bK≠dZ by decide) (show bK≠eE by decide)
theorem Sk{l:aA}{i:Nat}{u r:aA}(h:l.drop i=u++r)(k:UP u)(j:Pk r):PX l i (i+u.length) [(dS,u)]:=by
 obtain⟨n,⟨c,q,e,w⟩,f⟩:=k;have a:l.drop i=c::(q++r):=by rw[h,e];rfl
 have b:∀c,qO c=true->eI c=true:=λc h=>by unfold eI;rw[h,Bool.or_true]
 have g:low c=false:=by unfold qO at w;unfold low;simp only[cX]at w;simp only[FG];omega
 have m:lO l i=(dS,i+u.length):=by unfold lO;rw[(gO a).1];simp only[];rw[aN (by rw[g];decide),aR w];unfold upto;rw[h,Lz b u r f j]
 have d:=F6 m;rw[show(if(dS=bK\/dS=dS)/\i+u.length-i>8 then dZ else dS)=dS from aN (λx=>by omega),aN (λx=>absurd x.1 (by decide)),AZ h]at d;exact PX.one (pO mS a (Gq (b c w))) d (show dS≠dZ by decide) (show dS≠eE by decide)
theorem rz:∀w,w∈dL->w.length<=8/\(∀c,c∈w->low c=true)/\w≠[]:=by decide
theorem Sl{l:aA}{i:Nat}{u r:aA}(h:l.drop i=u++r)(e:u∈dL)(b:Pk r):PX l i (i+u.length) [(u,u)]:=by
 obtain⟨j,w,m⟩:=rz u e;obtain⟨o,p,d,f,s,t⟩:=D6 u e;have a:∀c,c∈u->eI c=true:=λc h=>by unfold eI;rw[w c h];rfl
 match u,m,h,e,j,w,a,d,f,b with
 |c::q,_,h,e,j,w,a,d,f,b=>
  have g:l.drop i=c::(q++r):=h
  have n:lO l i=(bK,i+(c::q).length):=by unfold lO;rw[(gO g).1];simp only[];rw[aR (w c (by simp))];unfold upto;rw[h,Lz (λ_ h=>h) (c::q) r a b]
  have k:=F6 n;rw[show(if(bK=bK\/bK=dS)/\i+(c::q).length-i>8 then dZ else bK)=bK from aN (λx=>by omega),AZ h,aR ⟨rfl,e⟩]at k;exact PX.one (pO mS g (Gq (a c (by simp)))) k f d
def kk(w:aA):aA×aA:=(w,w)
def T9(b:Bool)(t:List (aA×aA)):List (aA×aA):=if b=true then [kk eD]++t++[kk eO]else t
def jP(h:Nat->aA)(e:Nat->List (aA×aA)):Nat->List (aA×aA)
 |0=>[]
 |j+1=>jP h e j++((if 0<j then [kk zV]else [])++([(bK,h j),kk DS]++e j))
def mZ(F:Ex->List (aA×aA))(x:Ex)(j:Nat):List (aA×aA):=match x.kids[j]? with|some y=>F y|none=>[]
def DO(x:Ex)(j:Nat):aA:=match x.kids[j]? with|some y=>y.op|none=>[]
def xk:Nat->Ex->List (aA×aA)
 |0,_=>[]
 |m+1,x=>
  if x.op=bK\/x.op=dS then [(x.op,lU x.names 0)]
  else if x.op=dO then [kk dO,(bK,lU x.names 0),kk cV]++mZ (xk m) x 0
  else if x.op=eS then [kk eD]++mZ (xk m) x 0++[kk iQ]++mZ (xk m) x 1++[kk eO]
  else if x.op=xA then [kk xA]++mZ (xk m) x 0++[kk pJ]++mZ (xk m) x 1++[kk oN]++mZ (xk m) x 2
  else if x.op=oO then T9 (XI (DO x 0)) (mZ (xk m) x 0)++T9 (uk (DO x 1)) (mZ (xk m) x 1)
  else [kk iP]++(if x.op=gV then [kk gV]else [])++jP (lU x.names) (mZ (xk m) x) x.names.length++[kk BE]++mZ (xk m) x x.names.length
structure TP(u:aA)(ks:List (aA×aA)):Prop where
 ne:ks≠[]
 le:ks.length<=u.length
 px:∀l i r,l.drop i=u++r->Pk r->PX l i (i+u.length) ks
theorem TP.app{u v:aA}{a b:List (aA×aA)}(h:TP u a)(k:TP v b)(d:∀r,Pk (v++r)):TP (u++v) (a++b):=by refine⟨by simp[h.ne],by have:=h.le;have:=k.le;simp only[bD];omega,λl i r e c=> ?_⟩;have w:=h.px l i (v++r) (by rw[e,jA]) (d r);have x:=k.px l (i+u.length) r (xL (by rw[e,jA])) c;have:=w.app x;rwa[show i+u.length+v.length=i+(u++v).length from by rw[bD];omega]at this
theorem TP.blank{u:aA}{a:List (aA×aA)}(h:TP u a):TP (32::u) a:=by
 refine⟨h.ne,Nat.le_succ_of_le h.le,λl i r e x=> ?_⟩
 match a,h with
 |[],h=>exact absurd rfl h.ne
 |k::b,h=>have w:=h.px l (i+1) r (gO e).2.1 x;rw[show i+(32::u).length=i+1+u.length from by simp;omega];exact w.blank e
theorem TP.sign{c:UInt8}(w:c∈qX){v:aA}{b:List (aA×aA)}(k:TP v b):TP (c::v) (([c],[c])::b):=by refine⟨by simp,vU k.le,λl i r e x=> ?_⟩;have h:=(ry e w).app (k.px l (i+1) r (gO e).2.1 x);rw[show i+(c::v).length=i+1+v.length from by simp;omega];exact h
theorem TP.end{c:UInt8}(h:c∈qX):TP [c] [([c],[c])]:=⟨by simp,aV _,λ_ _ _ e _=>ry e h⟩
theorem O2{u:aA}(h:MU u):TP u [(bK,u)]:=⟨by simp,lv h,λ_ _ _ e w=>Ma e h w⟩
theorem Sm{u:aA}(h:UP u):TP u [(dS,u)]:=⟨by simp,Fp h,λ_ _ _ e w=>Sk e h w⟩
theorem wO{u:aA}(h:u∈dL):TP u [kk u]:=⟨by simp,qZ.2 (rz u h).2.2,λ_ _ _ e w=>Sl e h w⟩
theorem Gs:TP [45,62] [kk cV]:=⟨by simp,by decide,λ_ _ _ e _=>Gr e⟩
theorem TP.sp{u v:aA}{a b:List (aA×aA)}(h:TP u a)(k:TP v b):TP (u++32::v) (a++b):=h.app k.blank λ_=>cw (by decide)
theorem TP.to{u:aA}{a:List (aA×aA)}(h:TP u a){c:UInt8}{v:aA}{b:List (aA×aA)}(k:TP (c::v) b)(e:eI c=false):TP (u++c::v) (a++b):=h.app k λ_=>cw e
theorem sa{b:Bool}{u:aA}{a:List (aA×aA)}(h:TP u a):TP (oA b u) (T9 b a):=by
 unfold oA T9;split
 ·have:=TP.sign (c:=40) (by decide) (h.to (TP.end (c:=41) (by decide)) (by decide));simpa[nX,nY,kk,eD,eO]using this
 ·exact h
theorem Vr{b:Bool}{a:List (aA×aA)}(h:a≠[]):T9 b a≠[]:=by
 unfold T9;split
 ·simp
 ·exact h
def mY(F:Ex->aA)(x:Ex)(j:Nat):aA:=match x.kids[j]? with|some y=>F y|none=>[]
theorem D7(m:Nat)(x:Ex):cP (m+1) x=if x.op=bK\/x.op=dS then lU x.names 0
  else if x.op=dO then XW++lU x.names 0++zX++mY (cP m) x 0
  else if x.op=eS then nX++mY (cP m) x 0++zY++mY (cP m) x 1++nY
  else if x.op=xA then Ob++mY (cP m) x 0++L4++mY (cP m) x 1++L8++mY (cP m) x 2
  else if x.op=oO then oA (XI (DO x 0)) (mY (cP m) x 0)++Oc++oA (uk (DO x 1)) (mY (cP m) x 1)
  else oU x.op++j8 (lU x.names) (mY (cP m) x) x.names.length++nj++mY (cP m) x x.names.length:=rfl
theorem sb{nm:Nat->aA}{ts:Nat->aA}{ks:Nat->List (aA×aA)}:∀(j:Nat),0<j->(∀i,i<j->MU (nm i)/\TP (ts i) (ks i))->TP (j8 nm ts j) (jP nm ks j)
 |0,h,_=>by omega
 |j+1,_,h=>by
  obtain⟨x,a⟩:=h j (by omega)
  have w:TP (nm j++SK++ts j) ([(bK,nm j),kk DS]++ks j):=by have:=(O2 x).sp (TP.sign (c:=61) (by decide) a.blank);simpa[SK,kk,DS]using this
  rw[j8,jP];by_cases e:0<j
  ·rw[aR e,aR e];have:=(sb j e λi b=>h i (by omega)).sp ((wO (u:=zV) (by decide)).sp w);simpa[SJ,zV]using this
  ·rw[aN e,aN e];have:j=0:=by omega
   subst this;exact w
theorem Sn{l:aD}{j:Nat}(h:j<l.length):lU l j∈l:=by unfold lU;rw[aP h];exact vS h
theorem yn:∀(m:Nat) (x:Ex),mG m x->TP (cP m x) (xk m x)
 |0,_,h=>h.elim
 |m+1,x,h=>by
  have g:=yn m;rw[D7,xk];rcases h with⟨w,⟨a,f,k⟩,d⟩|⟨w,⟨a,f,k⟩,d⟩|⟨w,p,b,f,k,d,j⟩|⟨w,a,b,c,f,d,j,l,o⟩|⟨w,p,a,b,f,k,d,j,l⟩|⟨w,r,b,f,E,k,d,j,l,o⟩|⟨w,a,b,f,d,j,l⟩|⟨w,a,b,f,d,j,l⟩
  ·rw[aR (aQ w),aR (aQ w),w,f];exact O2 k
  ·rw[aR (aM w),aR (aM w),w,f];exact Sm k
  ·rw[w,aN (by decide),aR rfl,aN (by decide),aR rfl,f];unfold mY mZ;rw[d];have:=(wO (u:=dO) (by decide)).sp ((O2 k).sp (Gs.sp (g b j)));simpa[lU,XW,zX,dO]using this
  ·rw[w,aN (by decide),aN (by decide),aN (by decide),aR rfl,aN (by decide),aN (by decide),aN (by decide),aR rfl];unfold mY mZ;rw[d];have:=(wO (u:=xA) (by decide)).sp ((g a j).sp ((wO (u:=pJ) (by decide)).sp ((g b l).sp ((wO (u:=oN) (by decide)).sp (g c o)))));simpa[Ob,L4,L8,xA,pJ,oN]using this
  ·rw[w,aN (by decide),aN (by decide),aN (by decide),aN (by decide),aN (by decide),aN (by decide),aN (by decide),aN (by decide),aN (by decide),aN (by decide),f];unfold mY mZ;rw[d];have:=(wO (u:=iP) (by decide)).sp ((O2 k).sp (TP.sign (c:=61) (by decide) ((g a j).sp ((wO (u:=BE) (by decide)).sp (g b l))).blank));have e:(if iP=gV then [kk gV]else [])=[]:=aN (by decide);have n:(if iP=gV then VI else [])=[]:=aN (by decide);unfold oU;rw[e,n];simpa[j8,jP,lU,MJ,SK,nj,iP,BE,kk,DS]using this
  ·rw[w,aN (by decide),aN (by decide),aN (by decide),aN (by decide),aN (by decide),aN (by decide),aN (by decide),aN (by decide),aN (by decide),aN (by decide),aR rfl];have A:x.names.length=r.length:=j.symm;have C:0<x.names.length:=qZ.2 f
   have t:∀i,i<x.names.length->∃y,x.kids[i]? =some y/\mG m y:=λi q=>by rw[d,bJ (by omega)];exact⟨r[i],aP (by omega),l _ (vS _)⟩
   have s:=sb (nm:=lU x.names) (ts:=mY (cP m) x) (ks:=mZ (xk m) x) x.names.length C λi q=>by obtain⟨y,e,D⟩:=t i q;refine⟨k _ (Sn q), ?_⟩;unfold mY mZ;rw[e];exact g y D
   have v:x.kids[x.names.length]? =some b:=by rw[d,A,eY]
   have z:TP (mY (cP m) x x.names.length) (mZ (xk m) x x.names.length):=by unfold mY mZ;rw[v];exact g b o
   have:=(wO (u:=iP) (by decide)).sp ((wO (u:=gV) (by decide)).sp (s.sp ((wO (u:=BE) (by decide)).sp z)));have n:(if gV=gV then VI else [])=VI:=aR rfl;simpa[oU,n,MJ,VI,nj,iP,gV,BE]using this
  ·rw[w,aN (by decide),aN (by decide),aN (by decide),aN (by decide),aR rfl,aN (by decide),aN (by decide),aN (by decide),aN (by decide),aR rfl];unfold mY mZ;rw[d];have:=(sa (b:=XI (DO x 0)) (g a j)).sp (sa (b:=uk (DO x 1)) (g b l));simpa[Oc]using this
  ·rw[w,aN (by decide),aN (by decide),aR rfl,aN (by decide),aN (by decide),aR rfl];unfold mY mZ;rw[d];have:=TP.sign (c:=40) (by decide) ((g a j).to (TP.sign (c:=44) (by decide) (((g b l).to (TP.end (c:=41) (by decide)) (by decide)).blank)) (by decide));simpa[nX,zY,nY,kk,eD,iQ,eO]using this
def KX(T:List fI)(k:Nat)(h:List (aA×aA)):Prop:=∀(m:Nat) p,h[m]? =some p->Sj (tk T (k+m))=p
theorem KX.left{k:Nat}{a b:List (aA×aA)}(h:KX T k (a++b)):KX T k a:=λm p e=>h m p (by
 rw[bJ (aU.1 e).1];exact e)
theorem KX.right{k:Nat}{a b:List (aA×aA)}(h:KX T k (a++b)):KX T (k+a.length) b:=λm p e=>by have:=h (a.length+m) p (by rw[cD (by omega),Nat.add_sub_cancel_left];exact e);rwa[<-rX]at this
theorem KX.head{k:Nat}{p:aA×aA}{e:List (aA×aA)}(h:KX T k (p::e)):(tk T k).is=p.1/\(tk T k).s=p.2:=by have:=h 0 p rfl;rw[XN]at this;rw[<-this];exact⟨rfl,rfl⟩
theorem KX.tail{k:Nat}{p:aA×aA}{e:List (aA×aA)}(h:KX T k (p::e)):KX T (k+1) e:=KX.right (a:=[p]) h
theorem DP{k:Nat}{v:aA}(h:(tk T k).is=v)(w:aA):fW T ⟨k,-1⟩ w=decide (v=w):=by
 unfold fW;rw[h];by_cases e:v=w
 ·simp[e]
 ·simp[e]
def V0(T:List fI)(k:Nat):Prop:=(tk T k).is≠bK/\(tk T k).is≠dS/\(tk T k).is≠eD
theorem oZ{k:Nat}{w:aA}(h:(tk T k).is=w)(e:w≠bK/\w≠dS/\w≠eD):V0 T k:=by unfold V0;rw[h];exact e
def RD(T:List fI)(m F:Nat):Prop:=∀x k,mG m x->KX T k (xk m x)->V0 T (k+(xk m x).length)->(xk m x).length+1<=F->(xk m x).length<=T.length->∃y,fC T F ⟨k,-1⟩=some (y,⟨k+(xk m x).length,-1⟩)/\xE m x y
theorem sc{m:Nat}(hR:RD T m F){x:Ex}{k:Nat}(g:mG m x)(a:KX T k ([kk eD]++xk m x++[kk eO]))(d:(xk m x).length+1<=F)(f:(xk m x).length<=T.length):∃y,kG (fC T F) T ⟨k,-1⟩=some (y,⟨k+([kk eD]++xk m x++[kk eO]).length,-1⟩)/\xE m x y:=by
 have b:=a.left.left.head;have j:KX T (k+1) (xk m x):=a.left.right;have h:=a.right.head;simp only[bD,bU,cB]at h⊢;have c:k+(0+1+(xk m x).length)=k+1+(xk m x).length:=by omega
 rw[c]at h;obtain⟨y,e,i⟩:=hR x (k+1) g j (oZ h.1 (by decide)) d f;refine⟨y, ?_,i⟩;unfold kG;rw[aN (by rw[DP b.1,DP b.1];decide),i7 (w:=eD) b.1,e];simp only[];rw[aN (by rw[DP h.1];decide),i7 (w:=eO) h.1];simp only[dK,gU,true_and,St.mk.injEq,wR];omega
theorem sd{m:Nat}(hR:RD T m F){a b:Ex}{k:Nat}(n:mG m a)(o:mG m b)(h:KX T k ([kk eD]++xk m a++[kk iQ]++xk m b++[kk eO]))(t:(xk m a).length+(xk m b).length+1<=F)(u:(xk m a).length+(xk m b).length<=T.length):∃y z p,kG (fC T F) T ⟨k,-1⟩=some (⟨eS,[],[y,z],p⟩,⟨k+([kk eD]++xk m a++[kk iQ]++xk m b++[kk eO]).length,-1⟩)/\xE m a y/\xE m b z:=by
 have c:=h.left.left.left.left.head;have s:KX T (k+1) (xk m a):=h.left.left.left.right;have e:=h.left.left.right.head;have d:=h.left.right;have x:=h.right.head;simp only[bD,bU,cB]at e d x⊢;have i:k+(0+1+(xk m a).length)=k+1+(xk m a).length:=by omega
 have j:k+(0+1+(xk m a).length+(0+1))=k+1+(xk m a).length+1:=by omega
 have l:k+(0+1+(xk m a).length+(0+1)+(xk m b).length)=k+1+(xk m a).length+1+(xk m b).length:=by omega
 rw[i]at e;rw[j]at d;rw[l]at x;obtain⟨y,f,q⟩:=hR a (k+1) n s (oZ e.1 (by decide)) (by omega) (by omega);obtain⟨z,g,r⟩:=hR b _ o d (oZ x.1 (by decide)) (by omega) (by omega);refine⟨y,z,(tk T k).pos, ?_,q,r⟩;unfold kG;rw[aN (by rw[DP c.1,DP c.1];decide),i7 (w:=eD) c.1,f];simp only[];rw[aR (by rw[DP e.1];decide)];show(match fC T F ⟨k+1+(xk m a).length+1,-1⟩with|none=>none|some (y',s2)=>some (_,cL T s2 eO))=_;rw[g];simp only[];rw[i7 (w:=eO) x.1];simp only[dK,gU,true_and,St.mk.injEq,wR];omega
def zm(o:aA):Prop:=o=bK\/o=dS\/o=eS\/o=oO
theorem Gt{m:Nat}{x:Ex}(h:mG m x):(XI x.op=true/\¬zm x.op)\/(XI x.op=false/\zm x.op):=by
 cases m with
 |zero=>exact h.elim
 |succ m=>
  rcases h with h|h|h|h|h|h|h|h<;>rw[h.1]
  ·exact aM ⟨by decide,aQ rfl⟩
  ·exact aM ⟨by decide,aM (aQ rfl)⟩
  ·exact aQ ⟨by decide,by unfold zm;decide⟩
  ·exact aQ ⟨by decide,by unfold zm;decide⟩
  ·exact aQ ⟨by decide,by unfold zm;decide⟩
  ·exact aQ ⟨by decide,by unfold zm;decide⟩
  ·exact aM ⟨by decide,aM (aM (aM rfl))⟩
  ·exact aM ⟨by decide,aM (aM (aQ rfl))⟩
def Vs(T:List fI)(k:Nat):Prop:=(tk T k).is=bK\/(tk T k).is=dS\/(tk T k).is=eD
theorem Mb{m:Nat}{x:Ex}{p:Nat}(h:x.kids=[]):xE (m+1) x ⟨x.op,x.names,[],p⟩:=⟨rfl,rfl,by rw[h];trivial⟩
theorem X6{m:Nat}{x:Ex}{k:Nat}(w:x.op=bK\/x.op=dS){a:aA}(c:x.names=[a])(d:x.kids=[])(b:KX T k (xk (m+1) x)):∃y,kG (fC T F) T ⟨k,-1⟩=some (y,⟨k+(xk (m+1) x).length,-1⟩)/\xE (m+1) x y/\Vs T k:=by
 rw[xk,aR w,c]at b⊢;have e:=b.head;refine⟨⟨x.op,[a],[],(tk T k).pos⟩, ?_, ?_,w.elim (λh=>aQ (e.1.trans h)) (λh=>aM (aQ (e.1.trans h)))⟩
 ·unfold kG;rw[aR (by rw[DP e.1,DP e.1];simpa using w)];simp only[];rw[e.1,e.2];rfl
 ·have:=Mb (m:=m) (x:=x) (p:=(tk T k).pos) d;rw[c]at this;exact this
theorem se{T:List fI}{F:Nat}:∀(m:Nat),(∀j,j<m->RD T j F)->∀(x:Ex) (k:Nat),mG m x->zm x.op->KX T k (xk m x)->(xk m x).length<=F->(xk m x).length<=T.length->∃r q n y,kG (fC T F) T ⟨k,-1⟩=some (r,q)/\n<(xk m x).length/\(∀f,tD (kG (fC T F) T) T (f+n) r q=tD (kG (fC T F) T) T f y ⟨k+(xk m x).length,-1⟩)/\xE m x y/\Vs T k
 |0,_,_,_,h,_,_,_,_=>h.elim
 |m+1,hR,x,k,Y,u,C,hF,g=>by
  have M:∀a,(x.op=bK\/x.op=dS)->x.names=[a]->x.kids=[]->∃r q n y,kG (fC T F) T ⟨k,-1⟩=some (r,q)/\n<(xk (m+1) x).length/\(∀f,tD (kG (fC T F) T) T (f+n) r q=tD (kG (fC T F) T) T f y ⟨k+(xk (m+1) x).length,-1⟩)/\xE (m+1) x y/\Vs T k:=λa w v q3=>by obtain⟨y,e,I,K⟩:=X6 (F:=F) w v q3 C;exact⟨y,_,0,y,e,by rw[xk,aR w];simp,λf=>rfl,I,K⟩
  rcases Y with⟨i,⟨a,A,V⟩,s⟩|⟨i,⟨a,A,V⟩,s⟩|⟨i,_⟩|⟨i,_⟩|⟨i,_⟩|⟨i,_⟩|⟨i,a,b,A,s,H,E⟩|⟨i,a,b,A,s,H,E⟩
  ·exact M a (aQ i) A s
  ·exact M a (aM i) A s
  ·rw[i]at u;exact absurd u (by unfold zm;decide)
  ·rw[i]at u;exact absurd u (by unfold zm;decide)
  ·rw[i]at u;exact absurd u (by unfold zm;decide)
  ·rw[i]at u;exact absurd u (by unfold zm;decide)
  ·have Q:xk (m+1) x=T9 (XI a.op) (xk m a)++T9 (uk b.op) (xk m b):=by rw[xk,i,aN (by decide),aN (by decide),aN (by decide),aN (by decide),aR rfl];unfold DO mZ;rw[s];rfl
   rw[Q]at C hF g⊢;rw[bD]at hF g;have L:=hR m (by omega)
   obtain⟨r,q,n,N,O,hn,W,Z,K⟩:∃r q n y,kG (fC T F) T ⟨k,-1⟩=some (r,q)/\n<(T9 (XI a.op) (xk m a)).length/\(∀f,tD (kG (fC T F) T) T (f+n) r q=tD (kG (fC T F) T) T f y ⟨k+(T9 (XI a.op) (xk m a)).length,-1⟩)/\xE m a y/\Vs T k:=by
    have t:=C.left;rcases Gt H with⟨w,v⟩|⟨w,v⟩
    ·rw[w]at t hF g⊢;unfold T9 at t hF g⊢;rw[aR rfl]at t hF g⊢;simp only[bD,bU,cB]at hF g;obtain⟨y,e,I⟩:=sc L H t (by omega) (by omega);exact⟨y,_,0,y,e,by simp,λf=>rfl,I,aM (aM t.left.left.head.1)⟩
    ·rw[w]at t hF g⊢;unfold T9 at t hF g⊢;rw[aN (by decide)]at t hF g⊢;exact se m (λj hj=>hR j (by omega)) a k H v t (by omega) (by omega)
   obtain⟨yb,P,h6,X⟩:∃y,kG (fC T F) T ⟨k+(T9 (XI a.op) (xk m a)).length,-1⟩=some (y,⟨k+(T9 (XI a.op) (xk m a)).length+(T9 (uk b.op) (xk m b)).length,-1⟩)/\xE m b y/\Vs T (k+(T9 (XI a.op) (xk m a)).length):=by
    have o:=C.right;generalize k+(T9 (XI a.op) (xk m a)).length=k1 at o⊢;by_cases w:uk b.op=true
    ·rw[w]at o hF g⊢;unfold T9 at o hF g⊢;rw[aR rfl]at o⊢;rw[aR (show true=true from rfl)]at hF g;simp only[bD,bU,cB]at hF g;obtain⟨y,e,I⟩:=sc L E o (by omega) (by omega);exact⟨y,e,I,aM (aM o.left.left.head.1)⟩
    ·unfold T9 at o hF g⊢;rw[aN w]at o⊢;rw[aN w]at hF g
     cases m with
     |zero=>exact E.elim
     |succ m=>
      rcases E with⟨l,⟨c,G,R⟩,D⟩|⟨l,⟨c,G,R⟩,D⟩|⟨l,_⟩|⟨l,_⟩|⟨l,_⟩|⟨l,_⟩|⟨l,_⟩|⟨l,c,d,G,D,S,U⟩
      ·exact X6 (aQ l) G D o
      ·exact X6 (aM l) G D o
      ·rw[l]at w;exact absurd (by decide) w
      ·rw[l]at w;exact absurd (by decide) w
      ·rw[l]at w;exact absurd (by decide) w
      ·rw[l]at w;exact absurd (by decide) w
      ·rw[l]at w;exact absurd (by decide) w
      ·have J:xk (m+1) b=[kk eD]++xk m c++[kk iQ]++xk m d++[kk eO]:=by rw[xk,l,aN (by decide),aN (by decide),aR rfl];unfold mZ;rw[D];rfl
       rw[J]at o hF g⊢;simp only[bD,bU,cB]at hF g;obtain⟨y,z,p,e,w,v⟩:=sd (hR m (by omega)) S U o (by omega) (by omega);refine⟨_,e,⟨l.symm,G.symm, ?_⟩,aM (aM o.left.left.left.left.head.1)⟩;rw[D];exact⟨w,v,trivial⟩
   refine⟨r,q,n+1,⟨oO,[],[N,yb],N.pos⟩,O, ?_,λf=> ?_,⟨i.symm,A.symm,by rw[s];exact⟨Z,h6,trivial⟩⟩,K⟩
   ·rw[bD];have:0<(T9 (uk b.op) (xk m b)).length:=qZ.2 (Vr (yn m b E).ne);omega
   ·rw[<-rX,Nat.add_right_comm,W,tD,aR (by
     rcases X with h|h|h
     ·exact aQ (by rw[DP h];decide)
     ·exact aM (aQ (by rw[DP h];decide))
     ·exact aM (aM (by rw[DP h];decide))),P]
    simp only[];rw[bD,rX]
  ·have J:xk (m+1) x=[kk eD]++xk m a++[kk iQ]++xk m b++[kk eO]:=by rw[xk,i,aN (by decide),aN (by decide),aR rfl];unfold mZ;rw[s];rfl
   rw[J]at C hF g⊢;simp only[bD,bU,cB]at hF g;obtain⟨y,z,p,e,w,v⟩:=sd (hR m (by omega)) H E C (by omega) (by omega);refine⟨_,_,0,_,e,by simp,λf=>rfl,⟨i.symm,A.symm, ?_⟩,aM (aM C.left.left.left.left.head.1)⟩;rw[s];exact⟨w,v,trivial⟩
theorem D8(e:Nat->aA)(w:Nat->List (aA×aA)){j n:Nat}(h:j<=n):jP e w j<+:jP e w n:=by
 induction n with
 |zero=>rw[kW.1 h];exact dD _
 |succ n a=>
  rcases bZ j (n+1)with x|x
  ·exact(a (by omega)).trans (iN _ _)
  ·rw[show j=n+1 from by omega];exact dD _
theorem KX.pre{k:Nat}{a b:List (aA×aA)}(h:KX T k b)(p:a<+:b):KX T k a:=by obtain⟨r,rfl⟩:=p;exact h.left
theorem RU{m k:Nat}{a x:Ex}{d:aA}(hR:RD T m F)(j:mG m a)(b:KX T k ([(bK,d),kk DS]++xk m a))(l:d∉x.names)(n:V0 T (k+2+(xk m a).length))(g:(xk m a).length+1<=F)(i:(xk m a).length<=T.length):∃y,pA (fC T F) T x ⟨k,-1⟩=some (⟨x.op,x.names++[d],x.kids++[y],x.pos⟩,⟨k+2+(xk m a).length,-1⟩)/\xE m a y:=by
 have c:=b.left.head;have p:=b.left.tail.head;have q:KX T (k+2) (xk m a):=b.right;obtain⟨y,e,o⟩:=hR a (k+2) j q n g i;refine⟨y, ?_,o⟩;unfold pA
 have f:pX x.names (tk T k).s (tk T k).pos (cL T ⟨k,-1⟩ bK)=⟨k+1,-1⟩:=by rw[i7 (w:=bK) c.1,pX,aN (λh=>l (by have:=h.1;rw[c.2]at this;exact this))]
 simp only[];rw[f,i7 (w:=DS) p.1,e];simp only[];rw[c.2]
theorem F2.two{e w:Type}{R:e->w->Prop}{x:List e}{c:List w}{a:e}{b:w}(h:F2 R x c)(k:R a b):F2 R (x++[a]) (c++[b]):=h.app ⟨k,trivial⟩
theorem cx{T:List fI}{m F k:Nat}(hR:RD T m F){w:aD}(r:w.Nodup){b:List Ex}(s:b.length=w.length)(E:∀e,e∈b->mG m e){a:Nat->List (aA×aA)}(o:∀j e,b[j]? =some e->a j=xk m e)(n:KX T k (jP (lU w) a w.length))(l:(tk T (k+(jP (lU w) a w.length).length)).is=BE)(H:(jP (lU w) a w.length).length<=F)(I:(jP (lU w) a w.length).length<=T.length):
  ∀(d j f:Nat) (x:Ex),j+d=w.length->0<j->d<f->x.op=gV->x.names=w.take j->F2 (xE m) (b.take j) x.kids->∃y,kZ (fC T F) T f x ⟨k+(jP (lU w) a j).length,-1⟩=some (y,⟨k+(jP (lU w) a w.length).length,-1⟩)/\y.op=gV/\y.names=w/\F2 (xE m) b y.kids
 |_,_,0,_,_,_,h,_,_,_=>by omega
 |0,j,f+1,x,K,q,J,i,c,g=>by
  have:j=w.length:=by omega
  subst this;rw[kZ,aN (λh=>by rw[DP l]at h;exact absurd h.2 (by decide))];rw[kK]at c;rw[<-s,kK]at g;exact⟨x,rfl,i,c,g⟩
 |d+1,j,f+1,x,K,q,J,i,c,g=>by
  have u:j<w.length:=by omega
  have G:=D8 (lU w) a (show j+1<=w.length from u);have Q:=G.length_le;have p:jP (lU w) a (j+1)=jP (lU w) a j++([kk zV]++([(bK,lU w j),kk DS]++a j)):=by rw[jP,aR q]
  have z:KX T (k+(jP (lU w) a j).length) ([kk zV]++([(bK,lU w j),kk DS]++a j)):=by have:=n.pre G;rw[p]at this;exact this.right
  have t:b[j]? =some b[j]:=aP (by omega)
  have C:(jP (lU w) a (j+1)).length=(jP (lU w) a j).length+3+(xk m b[j]).length:=by rw[p,o j _ t];simp only[bD,bU,cB];omega
  have L:lU w j=w[j]:=by unfold lU;rw[aP u];rfl
  have D:w.take (j+1)=w.take j++[lU w j]:=by rw[L,DQ]
  have M:lU w j∉x.names:=by rw[c];have:=(List.take_sublist (j+1) w).nodup r;rw[D,jX]at this;exactλh=>this.2.2 _ h _ (by simp) rfl
  have N:V0 T (k+(jP (lU w) a (j+1)).length):=by
   rcases bZ (j+1) w.length with h|h
   ·have P:=D8 (lU w) a (show j+1+1<=w.length from h);have:=n.pre P;rw[jP,aR (by omega)]at this;exact oZ this.right.left.head.1 (by unfold kk;decide)
   ·rw[show j+1=w.length from by omega];exact oZ l (by decide)
  rw[kZ,aR ⟨i,by rw[DP (v:=zV) z.left.head.1];decide⟩];have A:=z.right;rw[o j _ t]at A
  obtain⟨y,e,O⟩:=RU (x:=x) hR (E _ (vS _)) A M (by
   rw[show k+(jP (lU w) a j).length+[kk zV].length+2+(xk m b[j]).length=k+(jP (lU w) a (j+1)).length from by rw[C];simp only[bU,cB];omega]
   exact N) (by omega) (by omega)
  rw[show(St.up ⟨k+(jP (lU w) a j).length,-1⟩)=⟨k+(jP (lU w) a j).length+[kk zV].length,-1⟩from rfl,e];simp only[];rw[show k+(jP (lU w) a j).length+[kk zV].length+2+(xk m b[j]).length=k+(jP (lU w) a (j+1)).length from by rw[C];simp only[bU,cB];omega];refine cx hR r s E o n l H I d (j+1) f ⟨x.op,x.names++[lU w j],x.kids++[y],x.pos⟩ (by omega) (by omega) (by omega) i ?_ ?_
  ·show x.names++_=_;rw[c,D]
  ·show F2 _ _ (x.kids++[y]);rw[<-DQ (by omega:j<b.length)];exact g.two O
theorem O3(T:List fI):∀(m F:Nat),RD T m F:=by
 intro m
 induction m using Nat.strongRecOn with
 |_ m w2=>
 intro F x k hx d i H A
 cases m with
 |zero=>exact hx.elim
 |succ m=>
 cases F with
 |zero=>omega
 |succ F=>
 have D:=w2 m (by omega);have S:¬((0:Int)<=(-1:Int)):=by decide
 have W:zm x.op->∃y,fC T (F+1) ⟨k,-1⟩=some (y,⟨k+(xk (m+1) x).length,-1⟩)/\xE (m+1) x y:=λho=>by
  obtain⟨y0,s1,n,y,Y,hn,h8,C,hb⟩:=se (m+1) (λj hj=>w2 j hj F) x k hx ho d (by omega) A;refine⟨y, ?_,C⟩
  have e2:∀w,w=dO\/w=xA\/w=iP->¬fW T ⟨k,-1⟩ w=true:=λw hw h=>by rcases hb with g|g|g<;>rw[DP g]at h<;>rcases hw with rfl|rfl|rfl<;>exact absurd h (by decide)
  rw[fC,aN S,aN (e2 _ (aQ rfl)),aN (e2 _ (aM (aQ rfl))),aN (e2 _ (aM (aM rfl))),Y];simp only[]
  rw[show T.length+1=(T.length-n+1)+n from by omega,h8,tD,aN (by
   rintro(h|h|h)
   ·exact i.1 (iS h).2
   ·exact i.2.1 (iS h).2
   ·exact i.2.2 (iS h).2)]
 rcases hx with⟨f,_⟩|⟨f,_⟩|⟨f,p,b,u,h2,s,G⟩|⟨f,a,b,c,u,s,G,M,h6⟩|⟨f,p,a,b,u,h2,s,G,M⟩|⟨f,r,b,u,h7,h2,s,G,M,h6⟩|⟨f,_⟩|⟨f,_⟩
 ·exact W (aQ f)
 ·exact W (aM (aQ f))
 ·have L:xk (m+1) x=[kk dO,(bK,p),kk cV]++xk m b:=by rw[xk,f,aN (by decide),aR rfl,u];unfold mZ;rw[s];rfl
  rw[L]at d i H A⊢;simp only[bD,bU,cB]at i H A⊢;have t:=d.left.head;have E:=d.left.tail.head;have o:=d.left.tail.tail.head;have e0:k+(0+1+1+1+(xk m b).length)=k+3+(xk m b).length:=by omega
  rw[e0]at i⊢;obtain⟨y,e,C⟩:=D F b (k+3) G d.right i (by omega) (by omega);refine⟨⟨dO,[p],[y],(tk T k).pos⟩, ?_,⟨f.symm,u.symm,by rw[s];exact⟨C,trivial⟩⟩⟩;rw[fC,aN S,aR (by rw[DP (v:=dO) t.1];decide),show(St.up ⟨k,-1⟩)=⟨k+1,-1⟩from rfl,i7 (w:=bK) E.1,i7 (w:=cV) o.1,e];simp only[];rw[E.2]
 ·have L:xk (m+1) x=[kk xA]++xk m a++[kk pJ]++xk m b++[kk oN]++xk m c:=by rw[xk,f,aN (by decide),aN (by decide),aN (by decide),aR rfl];unfold mZ;rw[s];rfl
  rw[L]at d i H A⊢;have t:=d.left.left.left.left.left.head;have E:KX T (k+1) (xk m a):=d.left.left.left.left.right;have o:=d.left.left.left.right.head;have q:=d.left.left.right;have I:=d.left.right.head;have O:=d.right;simp only[bD,bU,cB]at o q I O i H A⊢;have Z:k+(0+1+(xk m a).length)=k+1+(xk m a).length:=by omega
  have Q:k+(0+1+(xk m a).length+(0+1))=k+1+(xk m a).length+1:=by omega
  have R:k+(0+1+(xk m a).length+(0+1)+(xk m b).length)=k+1+(xk m a).length+1+(xk m b).length:=by omega
  have e6:k+(0+1+(xk m a).length+(0+1)+(xk m b).length+(0+1))=k+1+(xk m a).length+1+(xk m b).length+1:=by omega
  have e7:k+(0+1+(xk m a).length+(0+1)+(xk m b).length+(0+1)+(xk m c).length)=k+1+(xk m a).length+1+(xk m b).length+1+(xk m c).length:=by omega
  rw[Z]at o;rw[Q]at q;rw[R]at I;rw[e6]at O;rw[e7]at i⊢;obtain⟨y,V,C⟩:=D F a _ G E (oZ o.1 (by unfold kk;decide)) (by omega) (by omega);obtain⟨z,K,hz⟩:=D F b _ M q (oZ I.1 (by unfold kk;decide)) (by omega) (by omega);obtain⟨v,q3,hv⟩:=D F c _ h6 O i (by omega) (by omega);refine⟨⟨xA,[],[y,z,v],(tk T k).pos⟩, ?_,⟨f.symm,u.symm,by rw[s];exact⟨C,hz,hv,trivial⟩⟩⟩;rw[fC,aN S,aN (by rw[DP (v:=xA) t.1];decide),aR (by rw[DP (v:=xA) t.1];decide),show(St.up ⟨k,-1⟩)=⟨k+1,-1⟩from rfl,V];simp only[];rw[i7 (w:=pJ) o.1,K];simp only[];rw[i7 (w:=oN) I.1,q3]
 ·have L:xk (m+1) x=[kk iP]++([(bK,p),kk DS]++xk m a)++[kk BE]++xk m b:=by rw[xk,f,aN (by decide),aN (by decide),aN (by decide),aN (by decide),aN (by decide),aN (by decide),u];unfold mZ;rw[s];simp[jP,lU]
  rw[L]at d i H A⊢;have t:=d.left.left.left.head;have E:KX T (k+1) ([(bK,p),kk DS]++xk m a):=d.left.left.right;have o:=d.left.right.head;have q:=d.right;simp only[bD,bU,cB]at o q i H A⊢;have Z:k+(0+1+(0+1+1+(xk m a).length))=k+1+2+(xk m a).length:=by omega
  have Q:k+(0+1+(0+1+1+(xk m a).length)+(0+1))=k+1+2+(xk m a).length+1:=by omega
  have R:k+(0+1+(0+1+1+(xk m a).length)+(0+1)+(xk m b).length)=k+1+2+(xk m a).length+1+(xk m b).length:=by omega
  rw[Z]at o;rw[Q]at q;rw[R]at i⊢;obtain⟨y,V,C⟩:=RU (x:=⟨iP,[],[],(tk T k).pos⟩) (D F) G E (by simp) (oZ o.1 (by unfold kk;decide)) (by omega) (by omega);obtain⟨z,K,hz⟩:=D F b _ M q i (by omega) (by omega);have U:fW T ⟨k+1,-1⟩ gV=false:=by rw[DP (v:=bK) E.left.head.1];decide
  refine⟨⟨iP,[p],[y,z],(tk T k).pos⟩, ?_,⟨f.symm,u.symm,by rw[s];exact⟨C,hz,trivial⟩⟩⟩;rw[fC,aN S,aN (by rw[DP (v:=iP) t.1];decide),aN (by rw[DP (v:=iP) t.1];decide),aR (by rw[DP (v:=iP) t.1];decide),show(St.up ⟨k,-1⟩)=⟨k+1,-1⟩from rfl,pW,aN (by rw[U];decide),aN (by rw[U];decide),V];simp only[];rw[kZ,aN (λh=>absurd h.1 (by decide:¬iP=gV))];simp only[];rw[i7 (w:=BE) o.1,K];rfl
 ·have w0:0<x.names.length:=qZ.2 u
  have w1:∀j e,r[j]? =some e->mZ (xk m) x j=xk m e:=λj e he=>by unfold mZ;rw[s,bJ (aU.1 he).1,he]
  have w3:mZ (xk m) x x.names.length=xk m b:=by unfold mZ;rw[s,<-G,eY]
  have L:xk (m+1) x=[kk iP,kk gV]++jP (lU x.names) (mZ (xk m) x) x.names.length++[kk BE]++xk m b:=by rw[xk,f,aN (by decide),aN (by decide),aN (by decide),aN (by decide),aN (by decide),aR rfl,w3];rfl
  rw[L]at d i H A⊢;have t:=d.left.left.left.head;have E:=d.left.left.left.tail.head;have o:KX T (k+2) (jP (lU x.names) (mZ (xk m) x) x.names.length):=d.left.left.right;have q:=d.left.right.head;have I:=d.right;simp only[bD,bU,cB]at q I i H A⊢;generalize N:(jP (lU x.names) (mZ (xk m) x) x.names.length).length=J at*;have Q:k+(0+1+1+J)=k+2+J:=by omega
  have R:k+(0+1+1+J+(0+1))=k+2+J+1:=by omega
  have e6:k+(0+1+1+J+(0+1)+(xk m b).length)=k+2+J+1+(xk m b).length:=by omega
  rw[Q]at q;rw[R]at I;rw[e6]at i⊢;have e8:r[0]? =some r[0]:=aP (by omega)
  have P:jP (lU x.names) (mZ (xk m) x) 1=[(bK,lU x.names 0),kk DS]++xk m r[0]:=by rw[jP,jP,aN (by decide),w1 0 _ e8];rfl
  have p1:=D8 (lU x.names) (mZ (xk m) x) (show 1<=x.names.length from w0);have O:=o.pre p1;rw[P]at O;have e9:=p1.length_le;rw[N,P]at e9;simp only[bD,bU,cB]at e9
  have w4:V0 T (k+2+2+(xk m r[0]).length):=by
   rcases bZ 1 x.names.length with h|h
   ·have p2:=D8 (lU x.names) (mZ (xk m) x) (show 1+1<=x.names.length from h);have:=o.pre p2;rw[jP,aR (by decide)]at this;have X:=this.right.left.head.1;rw[P]at X;simp only[bD,bU,cB]at X;rw[show k+2+(0+1+1+(xk m r[0]).length)=k+2+2+(xk m r[0]).length from by omega]at X;exact oZ X (by unfold kk;decide)
   ·have Y:x.names.length=1:=by omega
    rw[Y,P]at N;simp only[bD,bU,cB]at N;rw[show k+2+2+(xk m r[0]).length=k+2+J from by omega];exact oZ q.1 (by unfold kk;decide)
  obtain⟨y,V,C⟩:=RU (x:=⟨gV,[],[],(tk T k).pos⟩) (D F) (M _ (vS _)) O (by simp) w4 (by omega) (by omega)
  obtain⟨z,K,g1,g2,g3⟩:=cx (D F) h7 G M w1 o (by rw[N];exact q.1) (by omega) (by omega) (x.names.length-1) 1 (T.length+1) ⟨gV,[lU x.names 0],[y],(tk T k).pos⟩ (by omega) (by decide) (by
   have:x.names.length<=J:=by
    rw[<-N]
    have hb:∀j,j<=(jP (lU x.names) (mZ (xk m) x) j).length:=λj=>by
     induction j with
     |zero=>exact dG _
     |succ j w5=>rw[jP,bD,bD,bD];simp only[bU,cB];omega
    exact hb _
   omega) rfl (by
   rw[show x.names.take 1=[lU x.names 0]from ?_]
   match hn:x.names,w0 with
   |a::l,_=>rfl) (by
   rw[show r.take 1=[r[0]]from by rw[List.take_one];simp[List.head?_eq_getElem?,e8]]
   exact⟨C,trivial⟩)
  rw[P,N]at K;simp only[bD,bU,cB]at K;rw[show k+2+(0+1+1+(xk m r[0]).length)=k+2+2+(xk m r[0]).length from by omega]at K;obtain⟨v,q3,hv⟩:=D F b _ h6 I i (by omega) (by omega);have U:fW T ⟨k+1,-1⟩ gV=true:=by rw[DP (v:=gV) E.1];decide
  refine⟨⟨z.op,z.names,z.kids++[v],z.pos⟩, ?_,⟨g1.trans f.symm,g2,by rw[s];exact g3.two hv⟩⟩;rw[fC,aN S,aN (by rw[DP (v:=iP) t.1];decide),aN (by rw[DP (v:=iP) t.1];decide),aR (by rw[DP (v:=iP) t.1];decide),show(St.up ⟨k,-1⟩)=⟨k+1,-1⟩from rfl,pW,aR U,aR U];simp only[];rw[show k+1+1=k+2 from rfl,V];simp only[oL];rw[K];simp only[];rw[i7 (w:=BE) q.1,q3]
 ·exact W (aM (aM (aM f)))
 ·exact W (aM (aM (aQ f)))
theorem XE.all{P:Ex->Ex->Prop}(e:∀x y,y.op=x.op->y.names=x.names->F2 P x.kids y.kids->P x y):∀(m:Nat) (x y:Ex),xE m x y->P x y
 |0,_,_,h=>h.elim
 |m+1,x,y,h=>e x y h.1 h.2.1 (h.2.2.mono λa b k=>XE.all e m a b k)
theorem F2.get{x c:Type}{R:x->c->Prop}:∀{e:List x} {w:List c},F2 R e w->∀(i:Nat),(e[i]? =none/\w[i]? =none)\/∃a b,e[i]? =some a/\w[i]? =some b/\R a b
 |[],[],_,i=>aQ ⟨by simp,by simp⟩
 |[],_::_,h,_=>h.elim
 |_::_,[],h,_=>h.elim
 |a::e,b::w,h,i=>by
  cases i with
  |zero=>exact aM ⟨a,b,rfl,rfl,h.1⟩
  |succ i=>simpa using F2.get h.2 i
theorem mh{x y:Ex}(h:XE x y):∀n,cP n y=cP n x:=by
 obtain⟨m,h⟩:=h;refine(XE.all (P:=λx y=>y.op=x.op/\∀n,cP n y=cP n x) (λx y f k d=>⟨f,λn=> ?_⟩) m x y h).2
 cases n with
 |zero=>rfl
 |succ n=>
  have g:mY (cP n) y=mY (cP n) x:=funext λj=>by
   unfold mY;rcases d.get j with⟨e,w⟩|⟨a,b,e,w,c⟩
   ·rw[e,w]
   ·rw[e,w];exact c.2 n
  have i:DO y=DO x:=funext λj=>by
   unfold DO;rcases d.get j with⟨e,w⟩|⟨a,b,e,w,c⟩
   ·rw[e,w]
   ·rw[e,w];exact c.1
  rw[D7,D7,f,k,g,i]
theorem V1{x y:Ex}(h:XE x y):∀n,cA n y=cA n x:=by
 obtain⟨m,h⟩:=h;refine XE.all (P:=λx y=>∀n,cA n y=cA n x) (λx y _ _ c n=> ?_) m x y h
 cases n with
 |zero=>rfl
 |succ n=>
  have:∀{w e:List Ex},F2 (λx y=>∀n,cA n y=cA n x) w e->e.map (cA n)=w.map (cA n):=by
   intro w
   induction w with
   |nil=>intro e h;cases e with|nil=>rfl|cons _ _=>exact h.elim
   |cons a w d=>intro e h;cases e with|nil=>exact h.elim|cons b e=>rw[cG,cG,d h.2,h.1 n]
  rw[cA,cA,this c]
theorem F2.mem{f g:Type}{R:f->g->Prop}:∀{w:List f} {x:List g},F2 R w x->∀{b},b∈x->∃a,a∈w/\R a b
 |[],[],_,_,h=>by cases h
 |[],_::_,h,_,_=>h.elim
 |_::_,[],h,_,_=>h.elim
 |a::w,b::x,h,c,e=>by
  rcases bH.1 e with rfl|e
  ·exact⟨a,bG,h.1⟩
  ·obtain⟨d,i,j⟩:=h.2.mem e;exact⟨d,bE _ i,j⟩
theorem Mc{x y:Ex}(h:XE x y):∀n,mG n x->mG n y:=by
 obtain⟨m,h⟩:=h;refine XE.all (P:=λx y=>∀n,mG n x->mG n y) (λx y q l w n C=> ?_) m x y h
 cases n with
 |zero=>exact C
 |succ n=>
  rcases C with⟨d,f,g⟩|⟨d,f,g⟩|⟨d,p,b,f,t,g,j⟩|⟨d,a,b,c,f,g,j,o,u⟩|⟨d,p,a,b,f,t,g,j,o⟩|⟨d,L,b,f,F,t,g,j,o,u⟩|⟨d,a,b,f,g,j,o⟩|⟨d,a,b,f,g,j,o⟩
  ·rw[g]at w;refine aQ ⟨q.trans d,by rw[l];exact f, ?_⟩;cases v:y.kids with|nil=>rfl|cons _ _=>rw[v]at w;exact w.elim
  ·rw[g]at w;refine aM (aQ ⟨q.trans d,by rw[l];exact f, ?_⟩);cases v:y.kids with|nil=>rfl|cons _ _=>rw[v]at w;exact w.elim
  ·rw[g]at w;obtain⟨i,e,k⟩:=w.i1;exact aM (aM (aQ ⟨q.trans d,p,i,by rw[l];exact f,t,e,k _ j⟩))
  ·rw[g]at w;obtain⟨r,i,D,e,s,k,G⟩:=w.i3;exact aM (aM (aM (aQ ⟨q.trans d,r,i,D,by rw[l];exact f,e,s _ j,k _ o,G _ u⟩)))
  ·rw[g]at w;obtain⟨r,i,e,s,k⟩:=w.i2;exact aM (aM (aM (aM (aQ ⟨q.trans d,p,r,i,by rw[l];exact f,t,e,s _ j,k _ o⟩))))
  ·rw[g]at w;obtain⟨E,i,e,A,k⟩:=w.snoc;refine aM (aM (aM (aM (aM (aQ ⟨q.trans d,E,i,by rw[l];exact f,by rw[l];exact F,by rw[l];exact t,e,by rw[A.len,l];exact j,λz H=> ?_,k _ u⟩)))));obtain⟨K,I,J⟩:=A.mem H;exact J _ (o K I)
  ·rw[g]at w;obtain⟨r,i,e,s,k⟩:=w.i2;exact aM (aM (aM (aM (aM (aM (aQ ⟨q.trans d,r,i,by rw[l];exact f,e,s _ j,k _ o⟩))))))
  ·rw[g]at w;obtain⟨r,i,e,s,k⟩:=w.i2;exact aM (aM (aM (aM (aM (aM (aM ⟨q.trans d,r,i,by rw[l];exact f,e,s _ j,k _ o⟩))))))
theorem rW:∀(m:Nat) (x:Ex),mG m x->yO m x=true
 |0,_,h=>h.elim
 |m+1,x,h=>by
  rw[yO,cY,lS];rcases h with⟨d,⟨a,f,j⟩,w⟩|⟨d,⟨a,f,j⟩,w⟩|⟨d,p,b,f,j,w,g⟩|⟨d,a,b,c,f,w,g,i,k⟩|⟨d,p,a,b,f,j,w,g,i⟩|⟨d,l,b,f,n,j,w,g,i,k⟩|⟨d,a,b,f,w,g,i⟩|⟨d,a,b,f,w,g,i⟩
  ·exact⟨by simp[d,f],λy e=>by rw[w]at e;cases e⟩
  ·exact⟨by simp[d,f],λy e=>by rw[w]at e;cases e⟩
  ·exact⟨by simp[d,f,w],λy e=>by rw[w,bF]at e;rw[e];exact rW m b g⟩
  ·refine⟨by simp[d,w],λy e=> ?_⟩;rw[w]at e;simp only[bH,cE,eK]at e;rcases e with rfl|rfl|rfl<;>exact rW m _ (by assumption)
  ·refine⟨by simp[d,f,w],λy e=> ?_⟩;rw[w]at e;simp only[bH,cE,eK]at e;rcases e with rfl|rfl<;>exact rW m _ (by assumption)
  ·refine⟨by simp[d,w,g,qZ.2 f],λy e=> ?_⟩;rw[w]at e;rcases cH.1 e with e|e
   ·exact rW m y (i y e)
   ·rw[bF.1 e];exact rW m b k
  ·refine⟨by simp[d,w],λy e=> ?_⟩;rw[w]at e;simp only[bH,cE,eK]at e;rcases e with rfl|rfl<;>exact rW m _ (by assumption)
  ·refine⟨by simp[d,w],λy e=> ?_⟩;rw[w]at e;simp only[bH,cE,eK]at e;rcases e with rfl|rfl<;>exact rW m _ (by assumption)
theorem xS:∀(n m:Nat) (x:Ex),mG m x->yO n x=true->mG n x
 |0,_,_,_,h=>by rw[yO]at h;cases h
 |_+1,0,_,h,_=>h.elim
 |n+1,m+1,x,h,q=>by
  rw[yO,cY,lS]at q;have g:=q.2;rcases h with⟨d,f,w⟩|⟨d,f,w⟩|⟨d,p,b,f,k,w,i⟩|⟨d,a,b,c,f,w,i,j,l⟩|⟨d,p,a,b,f,k,w,i,j⟩|⟨d,r,b,f,s,k,w,i,j,l⟩|⟨d,a,b,f,w,i,j⟩|⟨d,a,b,f,w,i,j⟩
  ·exact aQ ⟨d,f,w⟩
  ·exact aM (aQ ⟨d,f,w⟩)
  ·exact aM (aM (aQ ⟨d,p,b,f,k,w,xS n m b i (g b (by rw[w];simp))⟩))
  ·exact aM (aM (aM (aQ ⟨d,a,b,c,f,w,xS n m a i (g a (by rw[w];simp)),xS n m b j (g b (by rw[w];simp)),xS n m c l (g c (by rw[w];simp))⟩)))
  ·exact aM (aM (aM (aM (aQ ⟨d,p,a,b,f,k,w,xS n m a i (g a (by rw[w];simp)),xS n m b j (g b (by rw[w];simp))⟩))))
  ·exact aM (aM (aM (aM (aM (aQ ⟨d,r,b,f,s,k,w,i,λe o=>xS n m e (j e o) (g e (by rw[w];exact kX _ o)),xS n m b l (g b (by rw[w];simp))⟩)))))
  ·exact aM (aM (aM (aM (aM (aM (aQ ⟨d,a,b,f,w,xS n m a i (g a (by rw[w];simp)),xS n m b j (g b (by rw[w];simp))⟩))))))
  ·exact aM (aM (aM (aM (aM (aM (aM ⟨d,a,b,f,w,xS n m a i (g a (by rw[w];simp)),xS n m b j (g b (by rw[w];simp))⟩))))))
structure XG(x:Ex):Prop where
 ok:mG 60 x
 n:cN 60 x<=300
 w:cW 6 60 x<9223372036854775806
theorem sf(h:aD)(l:aA):∀(f i:Nat),(iO h l f i).length<=f
 |0,_=>by rw[iO];exact aV _
 |f+1,i=>by
  rw[iO];split
  ·simp
  ·have:=sf h l f (fL h l (upto mS l i)).2;simp only[bU];omega
theorem So(l:aA):(B l).data.toList=l:=by simp[B]
theorem BA(l:aA):dU dL (B l)=iO dL l (l.length+1) 0:=by unfold dU;rw[So,dY]
theorem F8{s:aA}{x:Ex}(l:s.length<=300)(h:JC s=some x):XG x/\cA 60 x<=40:=by
 unfold JC at h;rw[BA]at h;have L:=(X0 l (s.length+1) 0 (dG _) (by omega)).1;have t:=sf dL s (s.length+1) 0;generalize iO dL s (s.length+1) 0=T at*
 cases e:fC T (s.length+2) ⟨0,-1⟩with
 |none=>rw[e]at h;cases h
 |some r=>
  obtain⟨y,w⟩:=r;rw[e]at h;simp only[]at h;split at h
  ·rename_i b;cases h;simp only[cY,cX]at b;obtain⟨⟨g,i⟩,j⟩:=b;obtain⟨f,a,_⟩:=nT g;obtain⟨m,d,z,n⟩:=Fs L e f
   have q:w.k<T.length:=by
    rcases bZ w.k T.length with h|h
    ·exact h
    ·rw[show tk T w.k=⟨[],[],0⟩from by unfold tk;rw[aW,bW h];rfl]at a;exact absurd a (by decide)
   have c:=xS 60 m x d i;obtain⟨_,o,u⟩:=F5 c (gI 60 m);obtain⟨_,p,v⟩:=F5 d (gJ 60 m);exact⟨⟨c,by omega,by rw[<-o,p];exact n⟩,j⟩
  ·cases h
theorem yo(l:aA)(f:Nat):iO dL l (f+1) l.length=[⟨eE,[],l.length⟩]:=by
 have e:=kN mS l l.length (aV _)
 have h:lO l l.length=(eE,l.length):=by unfold lO;rw[bW (aV _)]
 rw[iO,show upto mS l l.length=l.length from by omega,F6 h];rw[show(if(eE=bK\/eE=dS)/\l.length-l.length>8 then dZ else eE)=eE from aN (λx=>absurd x.1 (by decide)),show(if eE=bK/\cut l l.length l.length∈dL then cut l l.length l.length else eE)=eE from aN (λx=>absurd x.1 (by decide))];simp only[];rw[aR (aM trivial)];have:cut l l.length l.length=[]:=by simp[cut]
 rw[this]
theorem Gu{t:aA}{w:List (aA×aA)}(h:TP t w):KX (iO dL t (t.length+1) 0) 0 w/\(tk (iO dL t (t.length+1) 0) w.length).is=eE/\(iO dL t (t.length+1) 0).length=w.length+1:=by
 obtain⟨f,a,b⟩:=h.px t 0 [] (by simp) Ly;rw[jJ]at b;have g:=h.le;have c:=b (t.length-w.length+1);rw[show t.length-w.length+1+w.length=t.length+1 from by omega,yo]at c;have d:f.length=w.length:=by rw[<-a,fM]
 rw[c];refine⟨λm p e=> ?_, ?_,by simp[d]⟩
 ·rw[jJ];have i:=(aU.1 e).1;unfold tk;rw[aW,bJ (by omega)];rw[<-a,iH]at e
  cases x:f[m]? with
  |none=>rw[x]at e;cases e
  |some q=>rw[x]at e;simpa using e
 ·unfold tk;rw[aW,<-d,eY];rfl
theorem Me{t:aA}{x y:Ex}{n:Nat}(e:fC (iO dL t (t.length+1) 0) (t.length+2) ⟨0,-1⟩=some (y,⟨n,-1⟩))(c:mG 60 x)(a:cA 60 x<=40)(h:XE x y)(b:(tk (iO dL t (t.length+1) 0) n).is=eE):JC t=some y:=by unfold JC;rw[BA,e];simp only[];rw[aR];simp only[cY,cX];refine⟨⟨?_,rW 60 y (Mc h 60 c)⟩,by rw[V1 h];exact a⟩;rw[i7 (w:=eE) b];exact(by decide:(-1:Int)<0)
theorem cy{x:Ex}(w:mG 60 x)(d:cA 60 x<=40):∃y,JC (cP 60 x)=some y/\XE x y:=by have h:=yn 60 x w;obtain⟨c,a,f⟩:=Gu h;have g:=h.le;obtain⟨y,e,b⟩:=O3 (iO dL (cP 60 x) ((cP 60 x).length+1) 0) 60 ((cP 60 x).length+2) x 0 w c (by rw[jJ];exact oZ a (by decide)) (by omega) (by omega);rw[jJ]at e;exact⟨y,Me e w d ⟨60,b⟩ a,⟨60,b⟩⟩
def Vt:Nat->Et->Bool
 |0,_=>false
 |m+1,t=>(decide (t.kind=[])&&decide (t.num=0)&&t.kids.isEmpty&&decide (t.name.length<=300)&&decide (t.name≠uR (T8 t.name)))||(decide (qi t.kind=some t.kids.length)&&t.kids.all (Vt m))
theorem si(d:Nat):∀(m:Nat) (t:Et),Vt m t=true->KM 0 m t/\sR d m t t
 |0,_,h=>by rw[Vt]at h;cases h
 |m+1,t,h=>by
  rw[Vt,l8]at h;rcases h with h|h
  ·simp only[cY,cX]at h;obtain⟨⟨⟨⟨w,x⟩,b⟩,c⟩,f⟩:=h
   have e:t=vT t.name:=by cases t;simp only[]at w x b;simp[vT,w,x,List.isEmpty_iff.1 b]
   exact⟨aM (aQ ⟨e,c⟩),aM (aQ ⟨e,by rw[qw (λn g=>f (by rw[g,yW]))];exact e⟩)⟩
  ·simp only[cY,cX,lS]at h;obtain⟨w,x⟩:=h;exact⟨aM (aM ⟨w,λk a=>(si d m k (x k a)).1⟩),aM (aM ⟨(qY w).1,(qY w).2,rfl,F2.self λk a=>(si d m k (x k a)).2⟩)⟩
theorem Gv:fK.all (λp=>Vt 130 p.2&&decide (oQ 130 p.2<=120))=true:=by decide+kernel
theorem sj:Ye fK:=λe t h=>by have:=lS.1 Gv _ (xQ h);rw[cY,cX]at this;exact⟨(si 0 130 t this.1).1,this.2⟩
theorem Gw(d:Nat):GS d fK:=λe t h=>by have:=lS.1 Gv _ (xQ h);rw[cY]at this;exact⟨130,(si d 130 t this.1).2⟩
theorem RV{w:bM}:∀(f c:Nat) (t:Et),cI w [] f c=some t->cSz w f c=oQ f t
 |0,_,_,h=>by rw[cI]at h;cases h
 |f+1,c,t,h=>by
  rw[cI,aN (by simp)]at h;rw[cSz,lD]
  cases e:w.is c with
  |none=>
   rw[e]at h;simp only[]at h;split at h
   ·cases h;rfl
   ·cases h
  |some nd=>
   rw[e]at h;simp only[]at h
   cases d:kH (λk:Et=>cI w [] f k.num) nd.kids with
   |none=>rw[d]at h;cases h
   |some m=>
    rw[d]at h;cases h;rw[oQ];simp only[]
    have:∀(l x:List Et),kH (λk:Et=>cI w [] f k.num) l=some x->l.map (λk=>cSz w f k.num)=x.map (oQ f):=by
     intro l
     induction l with
     |nil=>intro x h;rw[kH]at h;cases h;rfl
     |cons a l j=>
      intro x h;rw[kH]at h
      cases g:cI w [] f a.num with
      |none=>rw[g]at h;cases h
      |some b=>
       rw[g]at h;simp only[]at h
       cases i:kH (λk:Et=>cI w [] f k.num) l with
       |none=>rw[i]at h;cases h
       |some bs=>rw[i]at h;cases h;rw[cG,cG,j bs i,RV f _ _ g]
    rw[this _ _ d]
theorem X7(h:bM)(f c:Nat):1<=cSz h f c:=by
 cases f with
 |zero=>exact aV _
 |succ f=>rw[cSz];omega
theorem cz{e:bM}(i:ZW e):∀(f c:Nat) (l:Int),(cSz e f c:Int)<=l->l+2<=f->lP e f (cT c) l=some (l-cSz e f c)
 |0,c,l,h,h2=>by have:=X7 e 0 c;omega
 |f+1,c,l,h,h2=>by
  rw[lP];rw[cSz]at h⊢
  have w:∀k,k∈fH e (cT c)->k=cT k.num:=λk w=>by
   rw[lD]at w
   cases b:e.is c with
   |none=>rw[b]at w;cases w
   |some nd=>rw[b]at w;exact((i.is_nd b).2 k w).1
  have:∀(x:List Et) (j:Int),(∀k,k∈x->k=cT k.num)->(((x.map λk=>cSz e f k.num).sum:Nat):Int)<=j->j<l->jF (lP e f) x j=some (j-((x.map λk=>cSz e f k.num).sum:Nat)):=by
   intro x
   induction x with
   |nil=>intro j _ _ _;rw[jF];simp
   |cons a x n=>intro j g m o;rw[cG,fG]at m⊢;rw[jF,aN (by omega)];have d:=cz i f a.num j (by omega) (by omega);rw[<-g a bG]at d;rw[d];simp only[];rw[n _ (λk w=>g k (bE _ w)) (by omega) (by have:=X7 e f a.num;omega)];congr 1;omega
  rw[this _ _ w (by omega) (by omega)];congr 1;omega
theorem Mf{e:bM}(w:ZW e){c:Nat}(h:cSz e 130 c<=120):JY e (cT c)=some false:=by unfold JY;rw[cz w 130 c 120 (by omega) (by decide)];simp only[dK,FG];omega
theorem Gx:∀{m:Nat} {t:Et},gT m t->gT (m+1) t
 |0,_,h=>h.elim
 |_+1,_,Or.inl h=>Or.inl h
 |_+1,_,Or.inr h=>Or.inr ⟨h.1,h.2.1,λk hk=>Gx (h.2.2 k hk)⟩
theorem sk{m e:Nat}{t:Et}(h:gT m t)(x:m<=e):gT e t:=by
 induction e with
 |zero=>rw[kW.1 x]at h;exact h
 |succ k a=>
  rcases bZ m (k+1)with w|w
  ·exact Gx (a (by omega))
  ·rw[show k+1=m from by omega];exact h
theorem mi:∀(m n:Nat) (t:Et),gT m t->oQ m t<=n->gT n t
 |0,_,_,h,_=>h.elim
 |m+1,0,t,_,h=>by have:=WX (m+1) t;omega
 |m+1,n+1,t,h,b=>by
  rcases h with h|⟨w,x,a⟩
  ·exact aQ h
  ·rw[oQ]at b;exact aM ⟨w,x,λk e=>mi m n k (a k e) (by have:=yT (gH (f:=oQ m) e);omega)⟩
theorem Gy:∀{m:Nat} {t:Et},gT m t->oQ (m+1) t=oQ m t
 |0,_,h=>h.elim
 |m+1,t,h=>by
  rw[oQ,oQ]
  have:∀k,k∈t.kids->oQ (m+1) k=oQ m k:=λk e=>by
   rcases h with h|h
   ·rw[h.1]at e;cases e
   ·exact Gy (h.2.2 k e)
  rw[dF this]
theorem RW{m e:Nat}{t:Et}(h:gT m t)(x:m<=e):oQ e t=oQ m t:=by
 induction e with
 |zero=>rw[kW.1 x]at h;exact h.elim
 |succ k a=>
  rcases bZ m (k+1)with w|w
  ·rw[Gy (sk h (by omega)),a (by omega)]
  ·rw[show k+1=m from by omega]
theorem X9{N:Nat}(w:aD):∀{m:Nat} {x:Ty},dJ N m x->qe w (m+1) x=qe w m x
 |0,_,h=>h.elim
 |m+1,x,h=>by
  rw[qe,qe];split
  ·rfl
  ·rename_i f
   have:∀y,y∈x.kids->qe w (m+1) y=qe w m y:=λy e=>by
    rcases h with⟨g,_⟩|⟨_,_,c⟩|⟨_,_,a,c,d⟩|⟨_,_,a,b,c,d,i⟩
    ·exact absurd g f
    ·rw[c]at e;cases e
    ·rw[c,bF]at e;rw[e];exact X9 w d
    ·rw[c]at e;simp only[bH,cE,eK]at e;rcases e with rfl|rfl
     ·exact X9 w d
     ·exact X9 w i
   rw[dF this]
theorem BC{N:Nat}(w:aD){m e:Nat}{x:Ty}(h:dJ N m x)(b:m<=e):qe w e x=qe w m x:=by
 induction e with
 |zero=>rw[kW.1 b]at h;exact h.elim
 |succ k c=>
  rcases bZ m (k+1)with a|a
  ·rw[X9 w (h.le (show m<=k by omega)),c (by omega)]
  ·rw[show k+1=m from by omega]
theorem Pl{d:Nat}{g:aD}:∀(m f:Nat) (x:Ty) (u:Et),dJ g.length m x->sR d f (qe g m x) u->gT f u->u=qe (g.map (yX d)) m x
 |0,_,_,_,h,_,_=>h.elim
 |_+1,0,_,_,_,h,_=>h.elim
 |m+1,f+1,x,u,ok,hR,E=>by
  have G:x.kind=[]->x.var<g.length->u=qe (g.map (yX d)) (m+1) x:=λj F=>by
   rw[qe,aR j]at hR⊢;rcases hR with⟨p,_⟩|⟨_,n⟩|⟨_,n,_⟩
   ·exact absurd (eC Et.kind p) (by show¬([]:aA)=cM;decide)
   ·rw[n];show vT _=vT _;rw[aW,aW,iH,aP F];rfl
   ·exact absurd rfl n
  have s:x.kind≠[]->x.kind≠cM->(∀y,y∈x.kids->dJ g.length m y)->u=qe (g.map (yX d)) (m+1) x:=λj D w=>by
   rw[qe,aN j]at hR⊢;obtain⟨q,v⟩:=Fx hR D j;simp only[]at q v;rcases E with⟨z,_⟩|⟨_,A,C⟩
   ·rw[z]at q;exact absurd q.symm j
   ·have:∀(l:List Ty) (i:List Et),(∀y,y∈l->dJ g.length m y)->(∀k,k∈i->gT f k)->F2 (sR d f) (l.map (qe g m)) i->i=l.map (qe (g.map (yX d)) m):=by
     intro l
     induction l with
     |nil=>intro i _ _ h;cases i with|nil=>rfl|cons _ _=>exact h.elim
     |cons a l H=>
      intro i p n r
      cases i with
      |nil=>exact r.elim
      |cons b i=>rw[cG,<-H i (λy w=>p y (bE _ w)) (λk j=>n k (bE _ j)) r.2,<-Pl m f a b (p a bG) r.1 (n b bG)]
    rw[A,q,this x.kids u.kids w C v]
  rcases ok with⟨c,I,_⟩|⟨c,_,o⟩|⟨c,_,a,o,t⟩|⟨c,_,a,b,o,t,J⟩
  ·exact G c I
  ·exact s (by rcases c with e|e<;>rw[e]<;>decide) (by rcases c with e|e<;>rw[e]<;>decide) (λy w=>by rw[o]at w;cases w)
  ·exact s (by rw[c];decide) (by rw[c];decide) (λy w=>by rw[o,bF]at w;rw[w];exact t)
  ·refine s (by rcases c with e|e<;>rw[e]<;>decide) (by rcases c with e|e<;>rw[e]<;>decide) (λy w=> ?_);rw[o]at w;simp only[bH,cE,eK]at w;rcases w with rfl|rfl<;>assumption
theorem yq{d:Nat}{w:aD}(h:w.Nodup):(w.map (yX d)).Nodup:=by
 induction w with
 |nil=>exact zv
 |cons a w f=>rw[xX]at h;rw[cG,xX];refine⟨λc=> ?_,f h.2⟩;obtain⟨b,x,e⟩:=fF.1 c;exact h.1 (NZ e▸x)
def Zr:Prop:=∀(e:aD) (m:Nat) (h:Ty),e.Nodup->m<=130->dJ e.length m h->cC m h<=120->∃w,fS ⟨[],[]⟩ 1 130 (qe e m h) (ze [])=some w/\w.out=fJ m h
theorem RX{N:Nat}(i:aD):∀(m:Nat) (x:Ty),dJ N m x->oQ m (qe i m x)=cC m x
 |0,_,h=>h.elim
 |m+1,x,h=>by
  have j:x.kind≠[]->(∀y,y∈x.kids->dJ N m y)->oQ (m+1) (qe i (m+1) x)=cC (m+1) x:=λl w=>by rw[qe,aN l,oQ,cC];simp only[];rw[o9,dF (f:=oQ m∘qe i m) (g:=cC m) λy h=>RX i m y (w y h)]
  rcases h with⟨c,n,d⟩|⟨c,_,d⟩|⟨c,_,a,d,k⟩|⟨c,_,a,b,d,k,o⟩
  ·rw[qe,aR c,oQ,cC,d];rfl
  ·exact j (by rcases c with e|e<;>rw[e]<;>decide) (λy w=>by rw[d]at w;cases w)
  ·exact j (by rw[c];decide) (λy w=>by rw[d,bF]at w;rw[w];exact k)
  ·refine j (by rcases c with e|e<;>rw[e]<;>decide) (λy w=> ?_);rw[d]at w;simp only[bH,cE,eK]at w;rcases w with rfl|rfl<;>assumption
structure Ht(σ:bM)(c:Nat)(ns:aD)(ty:Ty):Prop where
 z:ZW σ
 n:σ.rep.length<=9223372036854775806
 lt:c<σ.rep.length
 g:∀m,121<=m->cI σ [] m c=some (qe ns m ty)
 d:ns.Nodup
 ok:dJ ns.length 121 ty
 s:cC 121 ty<=120
 v:cQ 121 ty []=List.range ns.length
theorem Ht.small{x:bM}{c:Nat}{e:aD}{w:Ty}(h:Ht x c e w):JY x (cT c)=some false:=by refine Mf h.z ?_;rw[RV 130 c _ (h.g 130 (by decide)),RX e 130 w (h.ok.le (by decide))];have a:=RX e 130 w (h.ok.le (show 121<=130 by decide));have b:=h.g 121 (by decide);rw[<-a,BC e h.ok (show 121<=130 by decide),RW (m:=121) (J9 h.z h.n _ _ _ h.lt b) (by decide),RX e 121 w h.ok];exact h.s
theorem Vu{w:bM}(g:ZW w)(o:w.rep.length<=9223372036854775806){c:Nat}(p:c<w.rep.length)(G:cSz w 130 c<=120):∃i s,Ht w c i s:=by
 have V:∀f,cSz w 130 c=cSz w f c->121<=f->∃t,cI w [] f c=some t:=λf e E=>by obtain⟨t,h,_⟩:=UK g g o (aV _) (L:=[]) (λr h=>by cases h) (λ_ _ _=>rfl) f c p (by omega);exact⟨t,h⟩
 obtain⟨t,z,_⟩:=UK g g o (aV _) (L:=[]) (λr h=>by cases h) (λ_ _ _=>rfl) 130 c p (by omega);have O:=J9 g o _ _ _ p z;have H:oQ 130 t<=120:=by rw[<-RV _ _ _ z];exact G
 have P:gT 120 t:=mi 130 120 t O H;have F:gT 121 t:=Gx P;obtain⟨s,i,T⟩:=Sg F;have K:t=qe i 121 s:=(T.q i (dD _)).symm
 have I:∀(f c:Nat) (t:Et),cI w [] f c=some t->cI w [] (f+1) c=some t:=by
  intro f
  induction f with
  |zero=>intro c t h;rw[cI]at h;cases h
  |succ f x=>
   intro c t h;rw[cI,aN (by simp)]at h⊢
   cases e:w.is c with
   |none=>rw[e]at h;exact h
   |some nd=>
    rw[e]at h;simp only[]at h⊢
    cases y:kH (λk:Et=>cI w [] f k.num) nd.kids with
    |none=>rw[y]at h;cases h
    |some Z=>
     rw[y]at h
     have:∀(l u:List Et),kH (λk:Et=>cI w [] f k.num) l=some u->kH (λk:Et=>cI w [] (f+1) k.num) l=some u:=by
      intro l
      induction l with
      |nil=>intro u h;exact h
      |cons a l U=>
       intro u h;rw[kH]at h⊢
       cases A:cI w [] f a.num with
       |none=>rw[A]at h;cases h
       |some b=>
        rw[A]at h;rw[x _ _ A];simp only[]at h⊢
        cases C:kH (λk:Et=>cI w [] f k.num) l with
        |none=>rw[C]at h;cases h
        |some bs=>rw[C]at h;rw[U _ C];exact h
     rw[this _ _ y];exact h
 have low:cI w [] 121 c=some t:=by
  have S:cSz w 121 c=cSz w 130 c:=by
   have X:∀(f c:Nat),cSz w f c<f->cSz w (f+1) c=cSz w f c:=by
    intro f
    induction f with
    |zero=>intro c h;omega
    |succ f x=>intro c h;rw[cSz]at h⊢;rw[show cSz w (f+1) c=1+((fH w (cT c)).map λk=>cSz w f k.num).sum from rfl];congr 2;refine dF λk Q=>x _ ?_;have:=yT (gH (f:=λk:Et=>cSz w f k.num) Q);omega
   have W:∀(n f c:Nat),cSz w (f+n) c<=120->121<=f->cSz w f c=cSz w (f+n) c:=by
    have J:∀(f c:Nat),cSz w f c<=cSz w (f+1) c:=by
     intro f
     induction f with
     |zero=>intro c;exact X7 w 1 c
     |succ f x=>intro c;rw[cSz,cSz];exact Nat.add_le_add_left (Fg λk _=>x k.num) 1
    intro n
    induction n with
    |zero=>intro f c _ _;rfl
    |succ n x=>intro f c h E;have M:=J (f+n) c;rw[rX]at M;have N:=x f c (by omega) E;rw[N,<-rX,X (f+n) c (by omega)]
   exact W 9 121 c G (by decide)
  obtain⟨Y,D⟩:=V 121 S.symm (by decide)
  have:∀n,cI w [] (121+n) c=some Y:=by
   intro n
   induction n with
   |zero=>exact D
   |succ n x=>exact I _ _ _ x
  have j:=this 9;rw[show 121+9=130 from rfl,z]at j;rw[j];exact D
 refine⟨i,s,⟨g,o,p,λm R=> ?_,T.d,T.ok, ?_,T.v⟩⟩
 ·have:∀n,cI w [] (121+n) c=some t:=by
   intro n
   induction n with
   |zero=>exact low
   |succ n x=>exact I _ _ _ x
  have j:=this (m-121);rw[show 121+(m-121)=m from by omega]at j;rw[j,K,BC i T.ok R]
 ·rw[T.sz,<-RW F (show 121<=130 by decide)];exact H
structure OT(x:Ex)(ns:aD)(ty:Ty):Prop where
 un:pQ fK 60 x []=some none
 r:∃σ c,j7 fK 6 60 x [] ⟨[],[]⟩=some (.inr (σ,c))/\Ht σ c ns ty/\CK σ/\ZA σ
def OU(x:Ex):Prop:=∃y,pQ fK 60 x []=some (some y)/\y.1.length<=300
def OF(x:Ex)(q:Nat):Prop:=pQ fK 60 x []=some none/\j7 fK 6 60 x [] ⟨[],[]⟩=some (.inl q)/\q<8
theorem Sp:ZW ⟨[],[]⟩:=⟨rfl,λi r e=>by simp at e,λr h e=>by simp at e⟩
theorem Sq:ZA ⟨[],[]⟩:=⟨λ_=>0,λc h k e=>by simp[bM.is]at e⟩
theorem Gz:CK ⟨[],[]⟩:=λr h e=>by simp at e
theorem yY:ME ⟨[],[]⟩:=⟨rfl,λr h=>by cases h⟩
theorem BD{f:Nat}{x:Ex}(d:mG f x)(w:cN f x<=1000)(b:cW 6 f x<=9223372036854775806)(a:pQ fK f x []=some none):∃r,j7 fK 6 f x [] ⟨[],[]⟩=some r/\∀e c,r= .inr (e,c)->PZ ⟨[],[]⟩ e [] [c] (cW 6 f x)/\cSz e 130 c<=120:=
 lr sj 6 f x d [] [] ⟨[],[]⟩ a (λi g h=>by cases h) Sp Sq (λp h=>by cases h) (by simpa using w) (by simpa using b)
theorem sl{f:Nat}{x:Ex}(q:mG f x){n:bM}{c:Nat}(h:j7 fK 6 f x [] ⟨[],[]⟩=some (.inr (n,c))):CK n:=by
 have o:XE x x:=⟨f,by
  have:∀(m:Nat) (x:Ex),mG m x->xE m x x:=by
   intro m
   induction m with
   |zero=>intro x h;exact h
   |succ m r=>
    intro x h;refine⟨rfl,rfl,F2.self λy e=>r y ?_⟩;rcases h with⟨d,g,w⟩|⟨d,g,w⟩|⟨d,p,b,g,k,w,i⟩|⟨d,a,b,c,g,w,i,j,l⟩|⟨d,p,a,b,g,k,w,i,j⟩|⟨d,s,b,g,t,k,w,i,j,l⟩|⟨d,a,b,g,w,i,j⟩|⟨d,a,b,g,w,i,j⟩<;>rw[w]at e
    ·cases e
    ·cases e
    ·rw[bF.1 e];exact i
    ·simp only[bH,cE,eK]at e;rcases e with rfl|rfl|rfl<;>assumption
    ·simp only[bH,cE,eK]at e;rcases e with rfl|rfl<;>assumption
    ·rcases cH.1 e with e|e
     ·exact j y e
     ·rw[bF.1 e];exact l
    ·simp only[bH,cE,eK]at e;rcases e with rfl|rfl<;>assumption
    ·simp only[bH,cE,eK]at e;rcases e with rfl|rfl<;>assumption
  exact this f x q⟩
 exact(mc yY (Gw 0) 6 f f x x [] [] ⟨[],[]⟩ _ _ o trivial Gz h h).2
theorem V2{x:Ex}(h:XG x):OU x\/(∃q,OF x q)\/∃d f,OT x d f:=by
 obtain⟨u,e,k⟩:=KP fK 60 x [] h.ok h.n;have m:=h.n;have o:=h.w
 cases u with
 |some y=>exact aQ ⟨y,e,k y rfl⟩
 |none=>
  obtain⟨r,a,b⟩:=BD h.ok (by omega) (by omega) e
  match r,a,b with
  | .inl q,a,_=>exact aM (aQ ⟨q,e,a,rx fK 6 60 x [] ⟨[],[]⟩ q a⟩)
  | .inr (g,c),a,b=>obtain⟨p,j⟩:=b g c rfl;have i:=p.n;obtain⟨d,f,l⟩:=Vu p.z (by simp at i;omega) (p.c c bG) j;exact aM (aM ⟨d,f,⟨e,g,c,a,l,sl h.ok a,p.ac⟩⟩)
theorem Hb(i:Zr){x:Ex}{b:aD}{f:Ty}(h:OT x b f):KI fK 6 x=some (.inr (fJ 121 f)):=by obtain⟨m,c,e,w,_⟩:=h.r;have a:=w.g 130 (by decide);rw[BC b w.ok (show 121<=130 by decide)]at a;obtain⟨l,j,k⟩:=i b 121 f w.d (by decide) w.ok w.s;unfold KI;rw[h.un];simp only[];rw[e];simp only[];rw[a];simp only[];rw[aR (Si 130 _ (J9 w.z w.n _ _ _ w.lt a)),j];simp only[];rw[k]
theorem Hc{x:Ex}{q:Nat}(h:OF x q):KI fK 6 x=some (.inl (.inr q)):=by unfold KI;rw[h.1];simp only[];rw[h.2.1]
theorem Hd{x:Ex}{y:aA×Nat}(h:pQ fK 60 x []=some (some y)):KI fK 6 x=some (.inl (.inl y)):=by unfold KI;rw[h]
theorem Pm{h:bM}(x:ME h){e:bM}(w:CK e):∀(f c:Nat),cSz (kR h e) f (c+h.rep.length)=cSz e f c
 |0,_=>rfl
 |f+1,c=>by rw[cSz,cSz,(w.kids x c).1,o9];congr 2;exact dF λk _=>Pm x w f k.num
theorem Ht.size{a:bM}{c:Nat}{w:aD}{x:Ty}(h:Ht a c w x){m:Nat}(e:121<=m):cSz a m c<=120:=by rw[RV m c _ (h.g m e),BC w h.ok e,RW (m:=121) (J9 h.z h.n _ _ _ h.lt (h.g 121 (by decide))) e,RX w 121 x h.ok];exact h.s
theorem RY{e:bM}(l:ME e){w:bM}(k:CK w){c:Nat}{n:aD}{j:Ty}(h:Ht w c n j)(x:ZW (kR e w))(a:(kR e w).rep.length<=9223372036854775806):Ht (kR e w) (c+e.rep.length) (n.map (yX e.rep.length)) j:=by
 have b:c+e.rep.length<(kR e w).rep.length:=by rw[J5];have:=h.lt;omega
 refine⟨x,a,b,λm f=> ?_,yq h.d,by rw[fM];exact h.ok,h.s,by rw[fM];exact h.v⟩;obtain⟨u,i,_⟩:=UK x x a (aV _) (L:=[]) (λr h=>by cases h) (λ_ _ _=>rfl) m _ b (by rw[Pm l k];have:=h.size f;omega);have o:=rh l k (L:=[]) m m c _ u (h.g m f) i;rw[i,Pl m m j u (h.ok.le f) o (J9 x a _ _ _ b i)]
theorem MF{x y:Ex}(h:XE x y){f a:Nat}{u w:UR}(e:pQ fK f x []=some u)(b:pQ fK a y []=some w):(u=none↔w=none):=by
 have:=Vq fK f a x y [] u w h e b
 cases u with
 |none=>cases w with|none=>exact Iff.rfl|some _=>cases this
 |some _=>cases w with|none=>cases this|some _=>exact⟨λh=>(by cases h),λh=>by cases h⟩
theorem KQ{w:bM}(g:ME w){x y:Ex}(h:XE x y){f b:Nat}{r a:Sum Nat (bM×Nat)}(e:j7 fK 6 f x [] ⟨[],[]⟩=some r)(c:j7 fK 6 b y [] w=some a):pR w r a:=by
 have d:kR w ⟨[],[]⟩=w:=by unfold kR;simp
 exact mc g (Gw _) 6 f b x y [] [] ⟨[],[]⟩ r a h trivial Gz e (by rw[d];exact c)
theorem Sr{x y:Ex}(b:XG y)(h:XE x y)(d:OU x):OU y:=by
 obtain⟨v,e,_⟩:=d;obtain⟨u,a,c⟩:=KP fK 60 y [] b.ok b.n;have:=MF h e a
 cases u with
 |none=>exact absurd (this.2 rfl) (by simp)
 |some w=>exact⟨w,a,c w rfl⟩
theorem sm{x y:Ex}(b:mG 60 y)(a:cN 60 y<=300)(h:XE x y)(e:pQ fK 60 x []=some none):pQ fK 60 y []=some none:=by obtain⟨u,w,c⟩:=KP fK 60 y [] b a;have:=MF h e w;rw[w,this.1 rfl]
theorem Ss{x y:Ex}(a:XG y)(h:XE x y){q:Nat}(b:OF x q):OF y q:=by have c:=sm a.ok a.n h b.1;have d:=a.n;have f:=a.w;obtain⟨r,e,_⟩:=BD a.ok (by omega) (by omega) c;have:=KQ yY h b.2.1 e;simp only[pR]at this;rw[this]at e;exact⟨c,e,b.2.2⟩
theorem Mg{x y:Ex}(a:XG y)(h:XE x y){o:aD}{f:Ty}(d:OT x o f):∃m,OT y m f:=by have b:=sm a.ok a.n h d.un;have t:=a.n;have u:=a.w;obtain⟨r,e,k⟩:=BD a.ok (by omega) (by omega) b;obtain⟨v,c,g,l,i,s⟩:=d.r;have:=KQ yY h g e;obtain⟨q,_⟩:=this;subst q;obtain⟨p,_⟩:=k _ _ rfl;have j:=p.n;exact⟨_,b,_,_,e,RY yY i l p.z (by simp at j;omega),sl a.ok e,p.ac⟩
theorem Pn:∀(m:Nat) (t:Et),gT m t->KM 0 m t
 |0,_,h=>h
 |_+1,_,Or.inl h=>Or.inr (Or.inl h)
 |m+1,_,Or.inr h=>Or.inr (Or.inr ⟨h.1,λk hk=>Pn m k (h.2.2 k hk)⟩)
def zZ:aA:=[122]
theorem He(e:aD):∀(m:Nat) (x:Ty) (l:aC) (v:Nat),v∈cQ m x l->v∈l\/Gl m (qe e m x) (e.getD v [])
 |0,_,_,_,h=>aQ h
 |m+1,x,l,v,h=>by
  rw[cQ]at h;rw[qe];by_cases b:x.kind=[]
  ·rw[aR b]at h;rw[aR b];split at h
   ·exact aQ h
   ·rcases cH.1 h with h|h
    ·exact aQ h
    ·rw[bF.1 h];exact aM (aQ ⟨rfl,rfl⟩)
  ·rw[aN b]at h;rw[aN b]
   have:∀(w:List Ty) (l:aC),v∈w.foldl (λl x=>cQ m x l) l->v∈l\/∃k,k∈w/\Gl m (qe e m k) (e.getD v []):=by
    intro w
    induction w with
    |nil=>intro l h;exact aQ h
    |cons a w f=>
     intro l h;rw[fD]at h;rcases f _ h with h|⟨k,c,d⟩
     ·rcases He e m a l v h with h|h
      ·exact aQ h
      ·exact aM ⟨a,bG,h⟩
     ·exact aM ⟨k,bE _ c,d⟩
   rcases this _ _ h with h|⟨k,c,d⟩
   ·exact aQ h
   ·exact aM (aM ⟨qe e m k,gH c,d⟩)
theorem Mh{e:aD}{w:Ty}{m:Nat}(h:cQ m w []=List.range e.length)(a:aA)(b:a∈e):Gl m (qe e m w) a:=by
 obtain⟨i,x,rfl⟩:=jM.1 b;rcases He e m w [] i (by rw[h];exact eV.2 x)with q|q
 ·cases q
 ·rw[aW,aP x]at q;exact q
theorem XA(g:aJ)(h:aD):(Gm g h).length=h.length:=by simp[Gm]
theorem Hf{i:bM}(v:ZW i)(N:ZA i)(V:i.rep.length+120<=9223372036854775806){c:aD}{d:Ty}(Q:c.Nodup)(ok:dJ c.length 121 d)(D:cC 121 d<=120)(q:gT 121 (qe c 121 d))(G:cQ 121 d []=List.range c.length){A:Ex}(K:A.op=bK)(L:A.names=[zZ])(f:Nat):
  ∃g l y,j7 fK 6 (f+1) A [(zZ,qe c 121 d)] i=some (.inr (g,l))/\SX i g/\ZW g/\ZA g/\g.rep.length<=i.rep.length+120/\(∀j,SX g j->ZW j->j.rep.length<=9223372036854775806->Ht j l y d)/\(∀a,a∈y->∃k,a=uR (k+1)/\i.rep.length<=k/\k<g.rep.length)/\y.length=c.length:=by
 have W:oQ 130 (qe c 121 d)<=120:=by rw[RW q (by decide),RX c 121 d ok];exact D
 have R:=sk q (show 121<=130 by decide);obtain⟨g,o,l,e,z,P,_⟩:=lj 400 130 (qe c 121 d) i [] (by decide) ((Pn 130 _ R).mono (dG _)) v N (λp h=>by cases h) (by simp;omega) (by omega);have C:GX i []:=⟨λa k h=>(by cases h),λa b k h=>by cases h⟩;obtain⟨s,_,U,_⟩:=mg 400 121 (qe c 121 d) i [] g o l q v C e;have X:=z.n;have E:∀a,a∈c->(dR o a).isSome=true:=λa h=>U a (Mh G a h)
 have F:∀j,SX g j->ZW j->j.rep.length<=9223372036854775806->Ht j l (Gm o c) d:=λj H I J=>by refine⟨I,J,aZ P H.r.length_le,λm u=> ?_,Gp s.gx Q E,by rw[XA];exact ok,D,by rw[XA];exact G⟩;have S:=sk q u;obtain⟨_,_,_,x⟩:=mg 400 m (qe c 121 d) i [] g o l S v C e;rw[x j H I J,<-BC c ok u,Pj m d (ok.le u)]
 have M:=F g (SX.refl z.w) z.w (by omega);refine⟨g,l,Gm o c, ?_,s.x,z.w,z.ac,by omega,F,λa h=> ?_,XA o c⟩
 ·rw[j7];unfold uX;rw[aR K,L];simp only[];have T:xO [(zZ,qe c 121 d)] fK zZ=some (qe c 121 d):=by unfold xO;simp
  unfold IQ;rw[aR (by decide),T];simp only[];rw[e];unfold uT;simp only[qJ,oG];rw[M.small]
 ·unfold Gm at h;obtain⟨b,O,rfl⟩:=fF.1 h;have:=E b O
  cases t:dR o b with
  |none=>rw[t]at this;cases this
  |some k=>
   refine⟨k,rfl, ?_,(s.gx.n b k t).1⟩;rcases s.lo b k t with h|h
   ·cases h
   ·exact h
theorem Hg{x:bM}{c:Nat}{e:aD}{w:Ty}(h:Ht x c e w):gT 121 (qe e 121 w):=J9 h.z h.n _ _ _ h.lt (h.g 121 (by decide))
structure XB(x y b:Ex):Prop where
 g:XG y
 op:y.op=iP
 nm:y.names=[zZ]
 k:∃x2,y.kids=[x2,b]/\XE x x2
theorem XB.parts{x y b:Ex}(h:XB x y b):∃w,y.kids=[w,b]/\XE x w/\mG 59 w/\mG 59 b/\cN 59 w<=300/\cN 59 b<=300/\cW 6 60 y=cW 6 59 w+cW 6 59 b:=by
 obtain⟨w,d,l⟩:=h.k;have s:cN 60 y=1+(cN 59 w+cN 59 b):=by rw[cN,h.nm,d];rfl
 have r:cW 6 60 y=0+(cW 6 59 w+cW 6 59 b):=by rw[cW,h.op,d];rfl
 have q:=h.g.n;rcases h.g.ok with⟨e,_⟩|⟨e,_⟩|⟨e,_⟩|⟨e,_⟩|⟨e,p,a,c,m,o,f,i,j⟩|⟨e,_⟩|⟨e,_⟩|⟨e,_⟩
 all_goals first
  |(rw[h.op]at e;exact absurd e (by decide))
  |skip
 rw[d]at f;simp only[mI,wR]at f;obtain⟨rfl,rfl⟩:=f;exact⟨w,d,l,i,j,by omega,by omega,by omega⟩
theorem mj{x y b:Ex}(h:XB x y b)(c:pQ fK 59 b [[zZ]]=some none):∃w,y.kids=[w,b]/\XE x w/\∃u,pQ fK 59 w []=some u/\Pe u/\pQ fK 60 y []=some u:=by obtain⟨w,a,d,i,k,g,j,_⟩:=h.parts;obtain⟨u,e,f⟩:=KP fK 59 w [] i g;refine⟨w,a,d,u,e,f, ?_⟩;rw[pQ,Ee,h.op,aN (by decide),aN (by decide),aN (by decide),aR rfl,h.nm,a];simp only[];rw[e,c];cases u<;>rfl
theorem Vv{x y b:Ex}(h:XB x y b)(d:pQ fK 59 b [[zZ]]=some none)(i:OU x):OU y:=by
 obtain⟨v,e,_⟩:=i;obtain⟨k,j,f,u,a,g,c⟩:=mj h d;have:=MF f e a
 cases u with
 |none=>exact absurd (this.2 rfl) (by simp)
 |some w=>exact⟨w,c,g w rfl⟩
theorem da{y h b:Ex}(x:y.op=iP)(w:y.names=[zZ])(e:y.kids=[h,b]):j7 fK 6 60 y [] ⟨[],[]⟩=uT (kq (j7 fK 6 59) zZ h b [] ⟨[],[]⟩):=by rw[j7];unfold uX;rw[x,aN (by decide),aN (by decide),aN (by decide),aR rfl,w,e]
theorem Vw{x y b:Ex}(h:XB x y b)(k:pQ fK 59 b [[zZ]]=some none){q:Nat}(c:OF x q):OF y q:=by obtain⟨z,i,f,u,d,o,j⟩:=mj h k;have l:u=none:=(MF f c.1 d).1 rfl;subst l;obtain⟨A,a,_,m,v,s,t,n⟩:=h.parts;rw[i]at a;simp only[mI,wR]at a;subst a;have p:=h.g.w;obtain⟨r,e,_⟩:=BD m (by omega) (by omega) d;have:=KQ yY f c.2.1 e;simp only[pR]at this;rw[this]at e;refine⟨j, ?_,c.2.2⟩;rw[da h.op h.nm i];unfold kq;rw[e];rfl
theorem sn{x y b:Ex}(h:XB x y b)(A:pQ fK 59 b [[zZ]]=some none){q:aD}{j:Ty}(o:OT x q j):pQ fK 60 y []=some none/\∃d s a,Ht d s a j/\ZA d/\d.rep.length+cW 6 59 b<=9223372036854775806/\a.length=q.length/\j7 fK 6 60 y [] ⟨[],[]⟩=uT (j7 fK 6 59 b [(zZ,qe a 121 j)] d):=by obtain⟨R,m,l,u,k,N,t⟩:=mj h A;have H:u=none:=(MF l o.un k).1 rfl;subst H;obtain⟨S,f,_,I,Q,a,P,M⟩:=h.parts;rw[m]at f;simp only[mI,wR]at f;subst f;have O:=h.g.w;obtain⟨r,e,E⟩:=BD I (by omega) (by omega) k;obtain⟨T,c,v,G,C,L⟩:=o.r;obtain⟨J,_⟩:=KQ yY l v e;subst J;obtain⟨p,_⟩:=E _ _ rfl;have D:=p.n;simp only[cB,jJ]at D;have i:=RY yY C G p.z (by omega);refine⟨t,_,_,_,i,p.ac,by omega,by rw[fM], ?_⟩;rw[da h.op h.nm m];unfold kq;rw[e];simp only[oG];have F:∀K,mV K []=some []:=λ_=>rfl;rw[F];simp only[];rw[i.g 130 (by decide),BC _ i.ok (show 121<=130 by decide)];simp only[];unfold qK;rw[aR (by simp)];rfl
theorem Po{x:bM}(h:ZW x):CK x:=λr w e=>⟨(qY (h.nd r w e).1).1,(qY (h.nd r w e).1).2,λk a=>((h.nd r w e).2 k a).1⟩
theorem Hh{h:Ex}(e:h.op=bK)(w:h.names=[zZ])(f:Nat):pQ fK (f+1) h [[zZ]]=some none:=by rw[pQ,Ee,aR e,w];simp only[];rw[aR (by decide),aR (by decide)]
theorem Vx{x y a:Ex}(h:XB x y a)(b:a.op=bK)(g:a.names=[zZ]){r:aD}{j:Ty}(q:OT x r j):∃c,OT y c j:=by
 obtain⟨p,E,t,D,w,n,u,_,o⟩:=sn h (Hh b g 58) q;have A:cW 6 59 a=120:=by rw[cW,aR b]
 obtain⟨k,m,c,e,_,f,l,C,H,_,_⟩:=Hf w.z n (by omega) w.d w.ok w.s (Hg w) w.v b g 58;have i:=H k (SX.refl f) f (by omega);refine⟨c,p,k,m, ?_,i,Po f,l⟩;rw[o,e];unfold uT;simp only[oG];rw[i.small]
def SE(N:Nat):Nat->Ty->Ty
 |0,x=>x
 |m+1,x=>if x.kind=[]then⟨[],x.var+N,[]⟩else⟨x.kind,x.var,x.kids.map (SE N m)⟩
theorem KS{K N:Nat}:∀(m:Nat) (x:Ty),dJ K m x->dJ (K+N) m (SE N m x)
 |0,_,h=>h
 |m+1,x,h=>by
  rw[SE];rcases h with⟨w,c,d⟩|⟨w,c,d⟩|⟨w,c,a,d,f⟩|⟨w,c,a,b,d,f,g⟩
  ·rw[aR w];exact aQ ⟨rfl,by simp only[];omega,rfl⟩
  ·rw[aN (by rcases w with e|e<;>rw[e]<;>decide)];exact aM (aQ ⟨w,c,by rw[d];rfl⟩)
  ·rw[aN (by rw[w];decide)];exact aM (aM (aQ ⟨w,c,_,by rw[d];rfl,KS m a f⟩))
  ·rw[aN (by rcases w with e|e<;>rw[e]<;>decide)];exact aM (aM (aM ⟨w,c,_,_,by rw[d];rfl,KS m a f,KS m b g⟩))
theorem RZ{K m:Nat}{x:Ty}(h:dJ K (m+1) x)(d:x.kind≠[]):∀y,y∈x.kids->dJ K m y:=λy e=>by
 rcases h with⟨f,_⟩|⟨_,_,w⟩|⟨_,_,a,w,c⟩|⟨_,_,a,b,w,c,g⟩
 ·exact absurd f d
 ·rw[w]at e;cases e
 ·rw[w,bF]at e;rw[e];exact c
 ·rw[w]at e;simp only[bH,cE,eK]at e;rcases e with rfl|rfl<;>assumption
theorem Hj(a w:aD):∀(m:Nat) (x:Ty),dJ w.length m x->qe (a++w) m (SE a.length m x)=qe w m x
 |0,_,h=>h.elim
 |m+1,x,h=>by
  rw[SE];by_cases e:x.kind=[]
  ·rw[aR e,qe,aR rfl,qe,aR e];simp only[];rw[aW,aW,cD (by omega),sS]
  ·rw[aN e,qe,qe,aN e];simp only[];rw[aN e,o9,dF (f:=qe (a++w) m∘SE a.length m) (g:=qe w m) λy b=>Hj a w m y (RZ h e y b)]
theorem Hl(b c:aD):∀(m:Nat) (x:Ty),dJ b.length m x->qe (b++c) m x=qe b m x
 |0,_,h=>h.elim
 |m+1,x,h=>by
  rw[qe,qe];by_cases w:x.kind=[]
  ·rw[aR w,aR w];rcases h with⟨_,f,_⟩|⟨a,_⟩|⟨a,_⟩|⟨a,_⟩
   ·rw[aW,aW,bJ f]
   ·rcases a with e|e<;>rw[e]at w<;>exact absurd w (by decide)
   ·rw[a]at w;exact absurd w (by decide)
   ·rcases a with e|e<;>rw[e]at w<;>exact absurd w (by decide)
  ·rw[aN w,aN w,dF λy d=>Hl b c m y (RZ h w y d)]
theorem dc{N:Nat}:∀(m:Nat) (x:Ty) (l:aC),(∃K,dJ K m x)->cQ m (SE N m x) (List.range N++l.map (·+N))=List.range N++(cQ m x l).map (·+N)
 |0,_,_,⟨_,h⟩=>h.elim
 |m+1,x,l,⟨K,h⟩=>by
  rw[SE];by_cases e:x.kind=[]
  ·rw[aR e,cQ,cQ,aR rfl,aR e];simp only[]
   have d:(x.var+N∈List.range N++l.map (·+N))↔x.var∈l:=by rw[cH,J7];refine⟨λh=>h.elim (λh=>by have:=eV.1 h;omega) id,aM⟩
   by_cases b:x.var∈l
   ·rw[aR b,aR (d.2 b)]
   ·rw[aN b,aN (λh=>b (d.1 h))];simp
  ·rw[aN e,cQ,cQ];simp only[];rw[aN e,aN e]
   have:∀(w:List Ty) (l:aC),(∀y,y∈w->∃K,dJ K m y)->(w.map (SE N m)).foldl (λl x=>cQ m x l) (List.range N++l.map (·+N))=List.range N++(w.foldl (λl x=>cQ m x l) l).map (·+N):=by
    intro w
    induction w with
    |nil=>intro l _;rfl
    |cons a w f=>intro l h;rw[cG,fD,fD,dc m a l (h a bG),f _ λy c=>h y (bE _ c)]
   exact this _ _ λy c=>⟨K,RZ h e y c⟩
def JD(N:Nat)(h:Ty):Ty:=⟨eS,0,[h,SE N 121 h]⟩
theorem F9{N:Nat}{e:Ty}(h:dJ N 121 e):dJ (N+N) 122 (JD N e):=aM (aM (aM ⟨aQ rfl,rfl,_,_,rfl,dJ.more (by omega) h,KS 121 e h⟩))
theorem JB{N:Nat}{e:Ty}(h:dJ N 121 e)(w:cQ 121 e []=List.range N):cQ 122 (JD N e) []=List.range (N+N):=by show([e,SE N 121 e]:List Ty).foldl (λl x=>cQ 121 x l) []=_;rw[fD,fD,kY,w];have:=dc (N:=N) 121 e [] ⟨N,h⟩;simp only[fE,KV]at this;rw[this,w,List.range_add];congr 1;apply dF;intro a _;omega
theorem Su{x y b F G:Ex}(h:XB x y b)(L:b.op=eS)(_h1:b.names=[])(r:b.kids=[F,G])(H:F.op=bK)(S:F.names=[zZ])(I:G.op=bK)(T:G.names=[zZ]){l:aD}{f:Ty}(hx:OT x l f):
  OF y 4\/(pQ fK 60 y []=some none/\cC 122 (JD l.length f)<=120/\∃A c w,j7 fK 6 60 y [] ⟨[],[]⟩=some (.inr (A,c))/\ZW A/\A.rep.length<=9223372036854775806/\c<A.rep.length/\cI A [] 130 c=some (qe w 122 (JD l.length f))/\w.Nodup/\w.length=l.length+l.length):=by
 have h9:pQ fK 59 b [[zZ]]=some none:=by rw[pQ,Ee,L,aN (by decide),aN (by decide),aN (by decide),aN (by decide),aN (by decide),aN (by decide),aR rfl,r];simp only[];rw[Hh H S 57,Hh I T 57];rfl
 obtain⟨Y,e7,c1,n1,n,N,U,P,W⟩:=sn h h9 hx
 have hc:cW 6 59 b=1+(120+120):=by rw[cW,L,r];show 1+(cW 6 58 F+(cW 6 58 G+0))=_;rw[cW,aR H,cW,aR I]
 obtain⟨e8,p,w,J,x2,w2,a2,l2,Q,e5,Z⟩:=Hf n.z N (by omega) n.d n.ok n.s (Hg n) n.v H S 57;obtain⟨o,q,i,e3,x3,t,a3,l3,R,e6,e4⟩:=Hf w2 a2 (by omega) n.d n.ok n.s (Hg n) n.v I T 57;have D:=Q o x3 t (by omega);have E:=R o (SX.refl t) t (by omega)
 have ho:zk o.rep.length (some ⟨eS,[],0,[cT p,cT q]⟩):=λnd e=>by
  cases e;refine⟨rfl,λk r=> ?_⟩;simp only[bH,cE,eK]at r;rcases r with rfl|rfl
  ·exact⟨rfl,D.lt⟩
  ·exact⟨rfl,E.lt⟩
 have u:=t.new ho;have x4:=SX.new t (some ⟨eS,[],0,[cT p,cT q]⟩);have C:(o.new (some ⟨eS,[],0,[cT p,cT q]⟩)).rep.length<=9223372036854775806:=by rw[jH];omega
 have h4:=Q _ (x3.trans x4) u C;have h5:=R _ x4 u C
 have X:j7 fK 6 59 b [(zZ,qe n1 121 f)] e7=uT (some (.inr (o.new (some ⟨eS,[],0,[cT p,cT q]⟩),o.rep.length))):=by rw[j7];unfold uX;rw[L,aN (by decide),aN (by decide),aN (by decide),aN (by decide),aN (by decide),aN (by decide),aR rfl,r];simp only[];unfold ZP;rw[J];simp only[oG];rw[e3];simp only[];unfold CH;rw[aR (show GY o=true from dE (by omega))];rfl
 have O:cI (o.new (some ⟨eS,[],0,[cT p,cT q]⟩)) [] 130 o.rep.length=some (qe (w++i) 122 (JD l.length f)):=by
  rw[cI,aN (by simp),yS t,aR rfl];simp only[kH];rw[show(cT p).num=p from rfl,show(cT q).num=q from rfl,h4.g 129 (by decide),h5.g 129 (by decide)];simp only[];rw[BC w D.ok (show 121<=129 by decide),BC i E.ok (show 121<=129 by decide)];have e1:qe (w++i) 121 f=qe w 121 f:=Hl w i 121 f D.ok
  have J:qe (w++i) 121 (SE l.length 121 f)=qe i 121 f:=by have:=Hj w i 121 f E.ok;rwa[Z,P]at this
  have e0:qe (w++i) 122 (JD l.length f)=⟨eS,[],0,[qe (w++i) 121 f,qe (w++i) 121 (SE l.length 121 f)]⟩:=by unfold JD;rw[qe,aN (show¬eS=[] by decide)];rfl
  rw[e0,e1,J]
 have h7:(w++i).Nodup:=by rw[jX];refine⟨D.d,E.d,λa N b U e=> ?_⟩;obtain⟨k,q1,_,q3⟩:=e5 a N;obtain⟨j,r1,r2,_⟩:=e6 b U;rw[q1,r1]at e;have:=RN e;omega
 have V:(w++i).length=l.length+l.length:=by rw[bD,Z,e4,P]
 obtain⟨bg,K,h6⟩:=Oy u o.rep.length
 cases bg with
 |true=>refine aQ ⟨Y, ?_,by decide⟩;rw[W,X];unfold uT;simp only[oG];rw[K]
 |false=>
  have h8:dJ (w++i).length 122 (JD l.length f):=by rw[V];refine F9 ?_;have:=n.ok;rwa[P]at this
  refine aM ⟨Y, ?_,_,_,w++i, ?_,u,C,by rw[jH];omega,O,h7,V⟩
  ·have M:=h6 rfl;rw[RV _ _ _ O]at M;have h2:=J9 u C _ _ _ (by rw[jH];omega) O
   have h3:oQ 130 (qe (w++i) 122 (JD l.length f))=cC 122 (JD l.length f):=by rw[RW (m:=122) (sk (mi 130 120 _ h2 M) (by decide)) (by decide),RX _ 122 _ h8]
   rw[<-h3];exact M
  ·rw[W,X];unfold uT;simp only[oG];rw[K];simp only[];rw[K]
theorem dd{x:bM}(A:ZW x){g:aI}(K:∀c p k,x.is c=some p->k∈p.kids->g (x.root k.num)<g (x.root c)):∀(f c:Nat) (d:List (Nat×Nat)),c<x.rep.length->lh x d->(∃g,RK x d g)->x.rep.length<f+d.length->(∀r,dR d r=some 1->g (x.root c)<g r)->jZ x f c d≠some none
 |0,_,_,_,_,_,_,_,h=>by rw[jZ]at h;cases h
 |f+1,c,d,P,J,D,E,n,h=>by
  rw[jZ]at h
  cases e:dR d (x.root c)with
  |some v=>
   rw[e]at h;rcases(J.b _ _ e).2 with rfl|rfl
   ·have:=n _ e;omega
   ·cases h
  |none=>
   rw[e]at h;simp only[]at h
   have Q:∀k,k∈fH x (cT c)->k.num<x.rep.length/\g (x.root k.num)<g (x.root c):=λk m=>by
    rw[lD]at m
    cases t:x.is c with
    |none=>rw[t]at m;cases m
    |some p=>rw[t]at m;exact⟨((A.is_nd t).2 k m).2,K c p k t m⟩
   have G:=λb=>D4 (b:=b) e;have U:=J.snoc (A.lt P) e;obtain⟨L,S⟩:=D
   have T:RK x (d++[(x.root c,1)]) L:=λr p k i u y=>by
    rw[G]at i;split at i
    ·cases i
    ·obtain⟨H,V⟩:=S r p k i u y;rw[G,aN (λN=>by rw[<-N,e]at H;cases H)];exact⟨H,V⟩
   have M:∀(s:List Et) (d:List (Nat×Nat)),(∀k,k∈s->k.num<x.rep.length/\g (x.root k.num)<g (x.root c))->lh x d->(∃g,RK x d g)->x.rep.length<f+d.length->(∀r,dR d r=some 1->g (x.root c)<=g r)->gQ (jZ x f) s d≠some none:=by
    intro s
    induction s with
    |nil=>intro d _ _ _ _ _ h;rw[gQ]at h;cases h
    |cons a s R=>
     intro d z i u E y h;rw[gQ]at h;obtain⟨r,j,q⟩:=NW A f a.num d (z a bG).1 i u E;rw[j]at h
     cases r with
     |none=>exact dd A K f a.num d (z a bG).1 i u E (λr n=>aZ (z a bG).2 (y r n)) j
     |some I=>have C:=(q I rfl).1;exact R I (λk D=>z k (bE _ D)) C.o C.k (by have:=C.l;omega) (λr n=>y r ((C.w r).1 n)) h
   cases j:gQ (jZ x f) (fH x (cT c)) (d++[(x.root c,1)])with
   |none=>rw[j]at h;cases h
   |some r=>
    rw[j]at h
    cases r with
    |some _=>cases h
    |none=>
     refine M _ _ Q U ⟨L,T⟩ (by simp;omega) (λr F=> ?_) j;rw[G]at F;split at F
     ·rename_i O;rw[O];exact aV _
     ·exact jW (n r F)
def π1:bM:=⟨[0,1],[none,some ⟨dO,[],0,[cT 0,cT 0]⟩]⟩
theorem sq:ME π1:=⟨rfl,by decide⟩
theorem Hm{h e:Ex}(b:h.op=dO)(c:h.names=[zZ])(d:h.kids=[e])(w:e.op=bK)(x:e.names=[zZ]):j7 fK 6 59 h [] ⟨[],[]⟩=some (.inr (π1,1)):=by
 have f:j7 fK 6 58 e [(zZ,cT 0)] ⟨[0],[none]⟩=some (.inr (⟨[0],[none]⟩,0)):=by rw[j7];unfold uX;rw[aR w,x];rfl
 rw[j7];unfold uX;rw[b,aN (by decide),aR rfl,c,d];simp only[];unfold Dq;have a:qJ (CH none ⟨[],[]⟩)=some (.inr (⟨[0],[none]⟩,0)):=rfl;rw[a];simp only[oG];unfold qK;rw[aR (by decide)];rw[show([]:lQE)++[(zZ,cT 0)]=[(zZ,cT 0)]from rfl,f];rfl
theorem de{σ τ:bM}{S:Nat->Prop}(d:∀x,S x->τ.root x=σ.root x/\τ.is x=σ.is x/\∀w k,σ.is x=some w->k∈w.kids->S k.num):∀(f x:Nat),S x->cI τ [] f x=cI σ [] f x
 |0,_,_=>rfl
 |f+1,x,m=>by
  obtain⟨g,i,j⟩:=d x m;have c:¬σ.root x∈([]:aC):=by simp
  rw[cI,cI,g,i,aN c,aN c]
  cases e:σ.is x with
  |none=>rfl
  |some w=>
   simp only[]
   have:∀(l:List Et),(∀k,k∈l->S k.num)->kH (λk:Et=>cI τ [] f k.num) l=kH (λk:Et=>cI σ [] f k.num) l:=by
    intro l
    induction l with
    |nil=>intro _;rfl
    |cons a l n=>intro h;rw[kH,kH,de d f a.num (h a bG),n λk b=>h k (bE _ b)]
   rw[this _ λk b=>j w k e b]
def Hn(h:aI)(n r:Nat)(y:Nat):Nat:=if y=n then h r else if y=n+1 then h r+1 else h y
theorem Ho(h:aI)(n r:Nat):Hn h n r n=h r:=aR rfl
theorem Vy(h:aI)(n r:Nat):Hn h n r (n+1)=h r+1:=by unfold Hn;rw[aN (by omega),aR rfl]
theorem Hp(e:aI){n r y:Nat}(h:y<n):Hn e n r y=e y:=by unfold Hn;rw[aN (by omega),aN (by omega)]
theorem Mi{b h:bM}(p:ZW b){g:aI}(H:∀c w k,b.is c=some w->k∈w.kids->g (b.root k.num)<g (b.root c))(E:∀x w k,2<=x->b.is x=some w->k∈w.kids->2<=k.num){c n f:Nat}(D:2<=c)(N:c<n)(F:f=b.root c)
  (z:∀x,2<=x->x<n->b.root x≠f->h.root x=b.root x/\h.is x=b.is x) (t:∀x,2<=x->x<n->b.root x=f->h.root x=n/\h.is x=b.is c) (K:h.root 0=n/\h.is 0=b.is c) (L:h.root 1=n+1/\h.is 1=some ⟨dO,[],0,[cT c,cT n]⟩) (A:h.root n=n/\h.is n=b.is c) (M:h.root (n+1)=n+1/\h.is (n+1)=some ⟨dO,[],0,[cT c,cT n]⟩) (O:∀x,n+1<x->h.is x=none) (v:b.rep.length=n):
  ∀x w k,h.is x=some w->k∈w.kids->Hn g n f (h.root k.num)<Hn g n f (h.root x):=by
 have u:∀x w k,h.is x=some w->k∈w.kids->h.is x=b.is c->h.root x=n->Hn g n f (h.root k.num)<Hn g n f (h.root x):=λx w k a d q r=>by rw[q]at a;have l:=H c w k a d;rw[<-F]at l;have i:=((p.is_nd a).2 k d).2;have s:=p.lt i;rw[v]at i s;rw[r,Ho,(z k.num (E c w k D a d) i (λe=>by rw[e]at l;exact Nat.lt_irrefl _ l)).1,Hp g s];exact l
 have C:∀x w k,h.is x=some w->k∈w.kids->h.is x=some ⟨dO,[],0,[cT c,cT n]⟩->h.root x=n+1->Hn g n f (h.root k.num)<Hn g n f (h.root x):=λx w k a d q r=>by
  rw[q]at a;cases a
  have o:h.root k.num=n:=by
   simp only[bH,cE,eK]at d;rcases d with rfl|rfl
   ·exact(t c D N F.symm).1
   ·exact A.1
  rw[o,r,Ho,Vy];exact qS _
 intro x w k a d;rcases bZ x 2 with m|m
 ·match x,m,a with
  |0,_,a=>exact u 0 w k a d K.2 K.1
  |1,_,a=>exact C 1 w k a d L.2 L.1
 ·rcases tJ x n with j|j|j
  ·by_cases y:b.root x=f
   ·exact u x w k a d (t x m j y).2 (t x m j y).1
   ·obtain⟨q,r⟩:=z x m j y;rw[r]at a;have l:=H x w k a d;have i:=((p.is_nd a).2 k d).2;have s:=p.lt i;have I:=p.lt (c:=x) (by rw[v];exact j);have J:=E x w k m a d;rw[v]at i s I;rw[q,Hp g I];by_cases o:b.root k.num=f
    ·rw[(t k.num J i o).1,Ho,<-o];exact l
    ·rw[(z k.num J i o).1,Hp g s];exact l
  ·subst j;exact u _ w k a d A.2 A.1
  ·rcases bZ (n+1) x with G|G
   ·rw[O x G]at a;cases a
   ·have:x=n+1:=by omega
    subst this;exact C _ w k a d M.2 M.1
theorem Sv{σ:bM}(hw:ZW σ){n c r2:Nat}(l4:σ.rep.length=n+2)(P:σ.root 0=0)(r1:σ.root 1=1)(rn:σ.root n=n)(T:σ.root (n+1)=n+1)(S:σ.root c=r2)(j:2<=r2)(hr:r2<n)(i0:σ.is 0=none)(i1:σ.is 1=some ⟨dO,[],0,[cT 0,cT 0]⟩)(i2:σ.is n=none)(D:σ.is (n+1)=some ⟨dO,[],0,[cT c,cT n]⟩):
  ∃f,jE (n+2+1) 1 (n+1) σ=some (some f)/\∀x,(σ.root x=r2\/σ.root x=0\/σ.root x=n->f.root x=n/\f.is x=σ.is c)/\(σ.root x=1->f.root x=n+1/\f.is x=some ⟨dO,[],0,[cT c,cT n]⟩)/\(σ.root x≠r2->σ.root x≠0->σ.root x≠n->σ.root x≠1->f.root x=σ.root x/\f.is x=σ.is x):=by
 have n1:¬(1:Nat)=n+1:=by omega
 have H:¬r2=1:=by omega
 have I:¬(0:Nat)=r2:=by omega
 have u:¬n=1:=by omega
 have v:¬n=0:=by omega
 have J:¬r2=n:=by omega
 have K:¬n+1=0:=by omega
 have L:¬n+1=r2:=by omega
 have n9:¬n+1=n:=by omega
 have t:0<σ.rep.length:=by omega
 have A:1<σ.rep.length:=by omega
 have q:r2<σ.rep.length:=by omega
 have l:=nS (σ:=σ) (a:=1) (b:=n+1) A;have r:=NV (σ:=σ) (a:=1) (b:=n+1) A;have l5:=nJ σ 1 (n+1);have C:(σ.link 1 (n+1)).con=σ.con:=rfl;generalize h3:σ.link 1 (n+1)=d at*;rw[<-l5]at t q;have m:=nS (σ:=d) (a:=0) (b:=r2) t;have s:=NV (σ:=d) (a:=0) (b:=r2) t;have l6:=nJ d 0 r2;have V:(d.link 0 r2).con=d.con:=rfl;have y:d.root 0=0:=by rw[l,P,aN (by decide)]
 have e0:d.root c=r2:=by rw[l,S,aN H]
 have h4:d.is 0=none:=by rw[r,P,aN (by decide),i0]
 have W:jE (n+2) 0 c d=some (some (d.link 0 r2)):=by rw[jE,y,e0,aN I,h4]
 generalize e3:d.link 0 r2=w at*;rw[<-l6]at q;have z:=nS (σ:=w) (a:=r2) (b:=n) q;have F:=NV (σ:=w) (a:=r2) (b:=n) q;have Q:d.root n=n:=by rw[l,rn,aN u]
 have e2:w.root 0=r2:=by rw[m,y,aR rfl]
 have R:w.root n=n:=by rw[m,Q,aN v]
 have h8:σ.con.getD r2 none=σ.is c:=by unfold bM.is;rw[S]
 have h7:w.is 0=σ.is c:=by rw[s,y,aR rfl,C,h8]
 have E:w.is n=none:=by rw[s,Q,aN v,r,rn,aN u,i2]
 have G:w.con.getD n none=none:=by have:=E;unfold bM.is at this;rwa[R]at this
 obtain⟨f,X,p,o⟩:∃f,jE (n+2) 0 n w=some (some f)/\(∀x,f.root x=if w.root x=r2 then n else w.root x)/\∀x,f.is x=if w.root x=r2\/w.root x=n then σ.is c else w.is x:=by
  rw[jE,e2,R,aN J,h7]
  cases ec:σ.is c with
  |none=>
   refine⟨_,rfl,z,λx=> ?_⟩;rw[F,G];by_cases i:w.root x=r2
   ·rw[aR i,aR (aQ i)]
   ·rw[aN i];by_cases j:w.root x=n
    ·rw[aR (aM j)];unfold bM.is;rw[j,G]
    ·rw[aN (λh=>h.elim i j)]
  |some U=>
   simp only[];rw[E]
   have Z:(w.link r2 n).con.length=n+2:=by show w.con.length=_;rw[V,C,hw.len,l4]
   have h0:∀x,((w.link r2 n).put n (some U)).is x=if(w.link r2 n).root x=n then some U else(w.link r2 n).is x:=λx=>by
    unfold bM.is;rw[RH];unfold bM.put;simp only[aW,mK];by_cases e:n=(w.link r2 n).root x
    ·rw[aR e,aR (by rw[Z];exact Nat.lt_succ_of_lt (qS n)),aR e.symm];rfl
    ·rw[aN e,aN (λh=>e h.symm)]
   refine⟨_,rfl,z,λx=> ?_⟩;rw[h0,z,F];by_cases i:w.root x=r2
   ·rw[aR i,aR rfl,aR (aQ i)]
   ·rw[aN i];by_cases j:w.root x=n
    ·rw[aR j,aR (aM j)]
    ·rw[aN j,aN i,aN (λh=>h.elim i j)]
 refine⟨f, ?_,λx=>⟨λh=> ?_,λh=> ?_,λM N q3 O=> ?_⟩⟩
 ·rw[jE,r1,T,aN n1,i1,D];simp only[];rw[aR trivial,h3,hQ,show jE (n+2) (cT 0).num (cT c).num d=some (some w)from W];simp only[];rw[hQ,show jE (n+2) (cT 0).num (cT n).num w=some (some f)from X];rfl
 ·rcases h with h|h|h
  ·have g:d.root x=r2:=by rw[l,h,aN H]
   have k:w.root x=r2:=by rw[m,g,aN (λe=>I e.symm)]
   rw[p,o,k,aR rfl,aR (aQ rfl)];exact⟨rfl,rfl⟩
  ·have g:d.root x=0:=by rw[l,h,aN (by decide)]
   have k:w.root x=r2:=by rw[m,g,aR rfl]
   rw[p,o,k,aR rfl,aR (aQ rfl)];exact⟨rfl,rfl⟩
  ·have g:d.root x=n:=by rw[l,h,aN u]
   have k:w.root x=n:=by rw[m,g,aN v]
   rw[p,o,k,aN (λe=>J e.symm),aR (aM rfl)];exact⟨rfl,rfl⟩
 ·have g:d.root x=n+1:=by rw[l,h,aR rfl]
  have k:w.root x=n+1:=by rw[m,g,aN K]
  have Y:σ.con.getD (n+1) none=some ⟨dO,[],0,[cT c,cT n]⟩:=by have:=D;unfold bM.is at this;rwa[T]at this
  rw[p,o,k,aN L,aN (λh=>h.elim L n9),s,g,aN K,r,h,aR rfl,Y];exact⟨rfl,rfl⟩
 ·have g:d.root x=σ.root x:=by rw[l,aN O]
  have k:w.root x=σ.root x:=by rw[m,g,aN N]
  rw[p,o,k,aN M,aN (λh=>h.elim M q3),s,g,aN N,r,aN O];exact⟨rfl,rfl⟩
theorem Mj{σ τ:bM}(C:ZW σ){t:aI}(M:∀c f k,σ.is c=some f->k∈f.kids->t (σ.root k.num)<t (σ.root c))(K:∀x f k,2<=x->σ.is x=some f->k∈f.kids->2<=k.num){c n:Nat}(R:2<=c)(L:σ.rep.length=n)(h0:∀x,2<=x->x<n->σ.root x≠σ.root c->τ.root x=σ.root x/\τ.is x=σ.is x)(I:τ.root n=n/\τ.is n=σ.is c)(O:ZW τ)(u:τ.rep.length<=9223372036854775806)(z:n<τ.rep.length){D:aD}{j:Ty}(b:Ht σ c D j):∃Y,Ht τ n Y j:=by
 have P:=de (σ:=σ) (τ:=τ) (S:=λx=>2<=x/\x<n/\t (σ.root x)<t (σ.root c)) λx ⟨N,q2,E⟩=>by obtain⟨Z,o2⟩:=h0 x N q2 (λe=>by rw[e]at E;exact Nat.lt_irrefl _ E);refine⟨Z,o2,λf k F G=>⟨K x f k N F G, ?_,Nat.lt_trans (M x f k F G) E⟩⟩;rw[<-L];exact((C.is_nd F).2 k G).2
 cases i:σ.is c with
 |none=>
  have q:=b.g 121 (by decide);have U:=C.lt b.lt;have Q:=b.n;rw[show(121:Nat)=120+1 from rfl,cI,aN (by simp),i]at q;simp only[]at q;rw[aR (aZ U Q)]at q
  have w:j.kind=[]:=by
   have:=aY q;rw[qe]at this;by_cases w:j.kind=[]
   ·exact w
   ·rw[aN w]at this;exact absurd (eC Et.kind this).symm w
  have V:j.kids=[]:=by
   rcases b.ok with⟨_,k2,X⟩|⟨p,_⟩|⟨p,_⟩|⟨p,_⟩
   ·exact X
   ·rcases p with e|e<;>rw[e]at w<;>exact absurd w (by decide)
   ·rw[p]at w;exact absurd w (by decide)
   ·rcases p with e|e<;>rw[e]at w<;>exact absurd w (by decide)
  have r:=b.v;rw[show(121:Nat)=120+1 from rfl,cQ,aR w,aN (by simp)]at r
  have T:D.length=1:=by have:=eC List.length r;simpa using this.symm
  rw[T]at r;have A:j.var=0:=by simpa using r
  refine⟨[uR (n+1)],⟨O,u,z,λm o=> ?_,by simp,aQ ⟨w,by rw[A];simp,V⟩,b.s, ?_⟩⟩
  ·match m,o with
   |m+1,_=>rw[cI,aN (by simp),I.1,I.2,i];simp only[];rw[aR (aZ z u),qe,aR w,A];rfl
  ·rw[show(121:Nat)=120+1 from rfl,cQ,aR w,aN (by simp),A];rfl
 |some H=>
  refine⟨D,⟨O,u,z,λm o=> ?_,b.d,b.ok,b.s,b.v⟩⟩
  match m,o with
  |m+1,o=>
   have J:=b.g (m+1) o;rw[cI,aN (by simp),i]at J;rw[cI,aN (by simp),I.2,i,<-J];simp only[]
   have:∀(l:List Et),(∀k,k∈l->k∈H.kids)->kH (λk:Et=>cI τ [] m k.num) l=kH (λk:Et=>cI σ [] m k.num) l:=by
    intro l
    induction l with
    |nil=>intro _;rfl
    |cons a l W=>intro h;have y:=h a bG;rw[kH,kH,P m a.num ⟨K c H a R i y,by rw[<-L];exact((C.is_nd i).2 a y).2,M c H a i y⟩,W λk w=>h k (bE _ w)]
   rw[this _ λk w=>w]
theorem Mk{a:bM}(g:ZW a)(ha:ZA a)(hb:a.rep.length+2<=9223372036854775806)(O:a.root 0=0)(P:a.root 1=1)(i0:a.is 0=none)(i1:a.is 1=some ⟨dO,[],0,[cT 0,cT 0]⟩)(J:∀x,2<=x->2<=a.root x)(F:∀x m k,2<=x->a.is x=some m->k∈m.kids->2<=k.num){c:Nat}(t:2<=c){ns:aD}{R:Ty}(K:Ht a c ns R):
  ∃b z,jK 1 (a.rep.length+1) ((a.new none).new (some ⟨dO,[],0,[cT c,cT a.rep.length]⟩))=some (some b)/\Ht b a.rep.length z R/\ZA b:=by
 have u:=K.lt;have h6:zk a.rep.length none:=λm e=>by cases e
 have S:=g.new h6;have l3:=jH a none
 have h7:zk (a.new none).rep.length (some ⟨dO,[],0,[cT c,cT a.rep.length]⟩):=λm e=>by
  cases e;refine⟨rfl,λk E=> ?_⟩;simp only[bH,cE,eK]at E;rcases E with rfl|rfl
  ·exact⟨rfl,by show c<_;omega⟩
  ·exact⟨rfl,by show a.rep.length<_;omega⟩
 have T:=S.new h7;have y:((a.new none).new (some ⟨dO,[],0,[cT c,cT a.rep.length]⟩)).rep.length=a.rep.length+2:=by rw[jH,jH]
 have d:∀x,((a.new none).new (some ⟨dO,[],0,[cT c,cT a.rep.length]⟩)).root x=a.root x:=λx=>by rw[qM,qM]
 have j:∀x,((a.new none).new (some ⟨dO,[],0,[cT c,cT a.rep.length]⟩)).is x=if x=a.rep.length+1 then some ⟨dO,[],0,[cT c,cT a.rep.length]⟩else if x=a.rep.length then none else a.is x:=λx=>by rw[yS S,yS g,l3]
 generalize (a.new none).new (some ⟨dO,[],0,[cT c,cT a.rep.length]⟩)=p at*;have Q:a.root a.rep.length=a.rep.length:=oY (aV _);have i:a.root (a.rep.length+1)=a.rep.length+1:=oY (mu _);have e0:=g.lt u;have h9:=J c t;have l:∀x,x<a.rep.length->p.is x=a.is x:=λx hx=>by rw[j,aN (by omega),aN (by omega)]
 generalize H:a.rep.length=n at*;obtain⟨b,A,f⟩:=Sv (c:=c) (r2:=a.root c) T y (by rw[d,O]) (by rw[d,P]) (by rw[d,Q]) (by rw[d,i]) (d c) h9 e0 (by rw[l 0 (by omega),i0]) (by rw[l 1 (by omega),i1]) (by rw[j,aN (by omega),aR rfl]) (by rw[j,aR rfl]);rw[l c u]at f;obtain⟨rj,q,D⟩:=Fd (n+2) 1 (n+1) p T (by omega) (by omega) (by have:=Ow p;omega);rw[A]at q;have o:=D b (aY q).symm;have e4:b.rep.length=n+2:=by rw[o.n,y]
 have N:∀x,2<=x->x<n->a.root x≠a.root c->b.root x=a.root x/\b.is x=a.is x:=λx X Y s=>by have h4:=g.lt (c:=x) (by omega);have h5:=J x X;have:=(f x).2.2 (by rw[d];exact s) (by rw[d];omega) (by rw[d];omega) (by rw[d];omega);rwa[d,l x Y]at this
 have h8:∀x,2<=x->x<n->a.root x=a.root c->b.root x=n/\b.is x=a.is c:=λx _ _ s=>(f x).1 (aQ (by rw[d];exact s));have V:b.root n=n/\b.is n=a.is c:=(f n).1 (aM (aM (by rw[d,Q])));have e1:b.root 0=n/\b.is 0=a.is c:=(f 0).1 (aM (aQ (by rw[d,O])));have e2:b.root 1=n+1/\b.is 1=some ⟨dO,[],0,[cT c,cT n]⟩:=(f 1).2.1 (by rw[d,P])
 have e3:b.root (n+1)=n+1/\b.is (n+1)=some ⟨dO,[],0,[cT c,cT n]⟩:=by have:=(f (n+1)).2.2 (by rw[d,i];omega) (by rw[d,i];omega) (by rw[d,i];omega) (by rw[d,i];omega);rwa[d,i,j,aR rfl]at this
 clear f j l d q D;obtain⟨U,L⟩:=ha;have I:=Mi g L F t u rfl N h8 e1 e2 V e3 (λx hx=>o.w.is_ge (by omega)) H
 have W:jK 1 (n+1) p=some (some b):=by
  unfold jK;rw[y,A];simp only[];have C:lh b []:=⟨by simp,λr v e=>by cases e⟩;have M:∃U,RK b [] U:=⟨λ_=>0,λr m k e=>by cases e⟩;have G:b.rep.length<n+2+1+([]:List (Nat×Nat)).length:=by simp;omega
  obtain⟨r,e,_⟩:=NW o.w (n+2+1) 1 [] (by omega) C M G;have h0:=dd o.w I (n+2+1) 1 [] (by omega) C M G (λr h=>by cases h);rw[e]
  cases r with
  |none=>exact absurd e h0
  |some _=>rfl
 obtain⟨z,Z⟩:=Mj g L F t H N V o.w (by omega) (by omega) K;exact⟨b,z,W,Z,⟨_,I⟩⟩
structure Vz(x y:Ex):Prop where
 g:XG y
 op:y.op=oO
 nm:y.names=[]
 k:∃f2 x2 z2,y.kids=[f2,x2]/\XE x x2/\f2.op=dO/\f2.names=[zZ]/\f2.kids=[z2]/\z2.op=bK/\z2.names=[zZ]
theorem S8{x y:Ex}(h:Vz x y):∃b w f,y.kids=[b,w]/\XE x w/\b.op=dO/\b.names=[zZ]/\b.kids=[f]/\f.op=bK/\f.names=[zZ]/\mG 59 w/\cN 59 w<=300/\cW 6 60 y=124+cW 6 59 w/\∃u,pQ fK 59 w []=some u/\Pe u/\pQ fK 60 y []=some u:=by
 obtain⟨b,w,f,i,v,j,p,l,o,r⟩:=h.k;have H:cW 6 58 f=120:=by rw[cW,aR o]
 have G:cN 60 y=0+(cN 59 b+cN 59 w):=by rw[cN,h.nm,i];rfl
 have F:cW 6 59 b=2+cW 6 58 f:=by rw[cW,j,l];rfl
 have E:cW 6 60 y=2+(cW 6 59 b+cW 6 59 w):=by rw[cW,h.op,i];rfl
 have D:=h.g.n
 have q:mG 59 w:=by
  rcases h.g.ok with⟨d,_⟩|⟨d,_⟩|⟨d,_⟩|⟨d,_⟩|⟨d,_⟩|⟨d,_⟩|⟨d,a,c,A,m,C,t⟩|⟨d,_⟩
  all_goals first
   |(rw[h.op]at d;exact absurd d (by decide))
   |skip
  rw[i]at m;simp only[mI,wR]at m;obtain⟨_,rfl⟩:=m;exact t
 obtain⟨u,e,z⟩:=KP fK 59 w [] q (by omega);refine⟨b,w,f,i,v,j,p,l,o,r,q,by omega,by omega,u,e,z, ?_⟩
 have s:pQ fK 59 b []=some none:=by rw[pQ,Ee,j,aN (by decide),aR rfl,p,l];exact Hh o r 57
 rw[pQ,Ee,h.op,aN (by decide),aN (by decide),aN (by decide),aN (by decide),aN (by decide),aR rfl,i];simp only[];rw[s,e];rfl
theorem Yr{x y:Ex}(h:Vz x y)(f:OU x):OU y:=by
 obtain⟨v,e,_⟩:=f;obtain⟨j,p,s,m,c,g,i,k,q,r,o,n,l,u,a,d,b⟩:=S8 h;have:=MF c e a
 cases u with
 |none=>exact absurd (this.2 rfl) (by simp)
 |some w=>exact⟨w,b,d w rfl⟩
theorem Wa:ZW π1:=by
 refine⟨rfl,λi r e=> ?_,λr w e=> ?_⟩
 ·match i,e with
  |0,e=>cases e;rfl
  |1,e=>cases e;rfl
  |i+2,e=>simp[π1]at e
 ·match r,e with
  |0,e=>cases e
  |1,e=>cases e;refine⟨rfl,λk h=> ?_⟩;simp only[bH,cE,eK]at h;rcases h with rfl|rfl<;>exact⟨rfl,by decide⟩
  |r+2,e=>simp[π1]at e
theorem Ys(c:Nat):π1.is c=if c=1 then some ⟨dO,[],0,[cT 0,cT 0]⟩else none:=by
 match c with
 |0=>rfl
 |1=>rfl
 |c+2=>exact Wa.is_ge (by show 2<=c+2;omega)
theorem Yt:ZA π1:=⟨λx=>x,λc a k h e=>by
 rw[Ys]at h;split at h
 ·rename_i w;subst w;cases h;simp only[bH,cE,eK]at e;rcases e with rfl|rfl<;>decide
 ·cases h⟩
theorem V3{f:Nat}{x:Ex}(d:mG f x)(w:cN f x<=1000)(b:2+cW 6 f x<=9223372036854775806)(a:pQ fK f x []=some none):∃r,j7 fK 6 f x [] π1=some r/\∀e c,r= .inr (e,c)->PZ π1 e [] [c] (cW 6 f x)/\cSz e 130 c<=120:=
 lr sj 6 f x d [] [] π1 a (λi g h=>by cases h) Wa Yt (λp h=>by cases h) (by simpa using w) b
theorem Yu{x y:Ex}(h:Vz x y){q:Nat}(a:OF x q):OF y q:=by obtain⟨p,A,C,k,c,f,i,j,n,o,m,z,s,u,b,t,d⟩:=S8 h;have l:u=none:=(MF c a.1 b).1 rfl;subst l;have v:=h.g.w;obtain⟨r,e,_⟩:=V3 m (by omega) (by omega) b;have:=KQ sq c a.2.1 e;simp only[pR]at this;rw[this]at e;refine⟨d, ?_,a.2.2⟩;rw[j7];unfold uX;rw[h.op,aN (by decide),aN (by decide),aN (by decide),aN (by decide),aN (by decide),aR rfl,k];simp only[];unfold KE;rw[Hm f i j n o];simp only[oG];rw[e];rfl
theorem Yv{x y:Ex}(h:Vz x y){R:aD}{s:Ty}(d:OT x R s):∃o,OT y o s:=by
 obtain⟨W,x2,z2,J,l,C,D,E,T,U,S,o,Y,u,i,Z,t⟩:=S8 h;have O:u=none:=(MF l d.un i).1 rfl;subst O;have hw:=h.g.w;obtain⟨r,e,M⟩:=V3 S (by omega) (by omega) i;obtain⟨a,c,v,N,I,X⟩:=d.r;obtain⟨q,_⟩:=KQ sq l v e;simp only[]at q;subst q;obtain⟨p,_⟩:=M _ _ rfl;have L:=p.n;have b:π1.rep.length=2:=rfl;rw[b]at L;have m:=RY sq I N p.z (by omega);rw[b]at m e p;have K:=J5 π1 a;rw[b]at K
 obtain⟨V,Q,A,f,H⟩:=Mk p.z p.ac (by omega) (by
  unfold bM.root kR π1;rfl) (by unfold bM.root kR π1;rfl) (by unfold bM.is bM.root kR π1;rfl) (by unfold bM.is bM.root kR π1;rfl) (λx d=>by
  have:=mN π1 a (x-2);rw[b,show x-2+2=x from by omega]at this
  omega) (λx nd k d F G=>by
  have:=KO sq a (x-2);rw[b,show x-2+2=x from by omega,F]at this
  cases j:a.is (x-2)with
  |none=>rw[j]at this;cases this
  |some n9=>
   rw[j]at this;cases this;obtain⟨P,_,rfl⟩:=fF.1 G;show 2<=P.num+2
   omega) (c:=c+2) (by omega) m
 refine⟨Q,t,V,(kR π1 a).rep.length, ?_,f,Po f.z,H⟩;rw[j7];unfold uX;rw[h.op,aN (by decide),aN (by decide),aN (by decide),aN (by decide),aN (by decide),aR rfl,J];simp only[];unfold KE;rw[Hm C D E T U];simp only[oG];rw[e];simp only[];unfold CH;rw[aR (show GY (kR π1 a)=true from dE (by omega))];simp only[qJ];rw[aR (show GY ((kR π1 a).new none)=true from dE (by rw[jH];omega))];simp only[jH];unfold zf;rw[A];unfold uT;simp only[oG];rw[f.small]
end Go.Proofs.YtcdijppegfcoaaaGreatDoor
