import Derived.Test.YtcdijppegfcoaaaGreatDoorZH11
set_option linter.unusedSimpArgs false
namespace Go.Proofs.YtcdijppegfcoaaaGreatDoor
open Go.RowKit Tryz
variable{v:Value}
structure VT(n rb:Nat)(w w':World):Prop where
 os:w'.os=w.os
 tape:w'.tape=w.tape
 output:w'.output=w.output
 size:w.heap.size<=w'.heap.size
 block:∀k,k<n->k≠rb->w'.heap[k]? =w.heap[k]?
theorem VT.of{n e:Nat}{a b:World}(h:gX e a b)(c:n<=a.heap.size):VT n e a b:=
 ⟨h.os,h.tape,h.output,h.size,λk x w=>h.block k (by omega) (by simp;exact w)⟩
theorem AJ{w b:World}{base e a n:Nat}{c:aH}(h:w.ownsRow base e a v n c)(m:∀k,some k=v.ownBlock->b.heap[k]? =w.heap[k]?):b.ownsRow base e a v n c:=by
 obtain⟨i,x⟩:=h;refine⟨i, ?_⟩;rcases x with x|⟨g,d,f,rfl,j,l,r⟩
 ·exact aQ x
 ·exact aM ⟨g,d,f,rfl,j,by rw[m g rfl];exact l,r⟩
theorem IB(w:World)(a:Value)(t:TypeId):∀(j:Nat) (u:Value),[a][j]? =some u->(w.alloc (.cells #[a] t)).cell? (Addr.add ⟨w.heap.size,0,none⟩ j)=some u:=by
 intro j u h
 match j,h with
 |0,h=>simp at h;subst h;simp[Addr.add]
theorem NF(l:aA):∀u,u∈[Value.string (B l)]->u.oneCell'=true:=by intro u h;simp only[bH,cE,eK]at h;subst h;rfl
theorem P9:(prog.info? 9).map (λi=>(i.zero,i.size,i.bytes))=some (some (.string (B [])),1,16):=by kernel_rfl
theorem sJ{w:World}{base:Nat}{a:aD}(h:w.ownsRow base 9 1 v a.length (pS a)):
  ∃b g,v= .slice b a.length g/\∀j,j<a.length->∃x,b=some ⟨x,0,none⟩/\base<=x/\x<w.heap.size/\w.cell? ⟨x,j,none⟩=some (.string (B (a.getD j []))):=by
 obtain⟨_,k⟩:=h;rcases k with⟨rfl,i⟩|⟨x,f,n,rfl,l,c,_,_,_,m⟩
 ·exact⟨none,0,by rw[i],λj d=>by omega⟩
 ·refine⟨some ⟨x,0,none⟩,f,rfl,λj d=>⟨x,rfl,l,aT c, ?_⟩⟩;have e:(pS a)[j]? =some (.string (B (a.getD j []))):=by simp[pS,List.getD,d]
  rw[<-m,gD,aR (by omega)]at e;simp only[World.cell?,c];simpa using e
theorem LF(n:Nat)(t:Ty)(l:aC):l.length<=(cQ n t l).length:=(tX n t l).length_le
def qe(h:aD):Nat->Ty->Et
 |0,_=>vT []
 |m+1,x=>if x.kind=[]then vT (h.getD x.var [])else⟨x.kind,[],0,x.kids.map (qe h m)⟩
theorem gG.et{g:aD}{H:aB}{k:aC}:∀(m:Nat) (v:Value) (x:Ty),gG g m H v x->fP 0 H k m v (qe g m x)
 |0,_,_,h=>h
 |m+1,v,x,h=>by
  obtain⟨b,h⟩:=h;refine⟨b, ?_⟩;rw[qe];rcases h with⟨e,f,w,d,i⟩|⟨e,f,w,d⟩|⟨e,a,u,f,w,d,i⟩|⟨e,a,c,u,z,f,w,d,i,j⟩|⟨e,a,c,u,z,f,w,d,i,j⟩
  ·rw[aR e];exact aM (aQ ⟨rfl,rfl,w.2,dG _,d,i⟩)
  ·rw[aN (by rcases e with e|e<;>rw[e]<;>decide)];exact aM (aM (aQ ⟨e,by show x.kids.map _=[];rw[f];rfl,w,d⟩))
  ·rw[aN (by rw[e];decide)];exact aM (aM (aM (aQ ⟨e,dG _,qe g m a,u,by show x.kids.map _=_;rw[f];rfl,w,d,gG.et m u a i⟩)))
  ·rw[aN (by rw[e];decide)];exact aM (aM (aM (aM (aQ ⟨e,dG _,qe g m a,qe g m c,u,z,by show x.kids.map _=_;rw[f];rfl,w,d,gG.et m u a i,gG.et m z c j⟩))))
  ·rw[aN (by rw[e];decide)];exact aM (aM (aM (aM (aM ⟨e,dG _,qe g m a,qe g m c,u,z,by show x.kids.map _=_;rw[f];rfl,w,d,gG.et m u a i,gG.et m z c j⟩))))
theorem AK{x:aA}{s:Ds}(e:s.out.length+x.length<=100000)(h:s.steps.length<100000):qE x 0 0 s=some ⟨s.steps++[(x,0,0)],s.out++x,s.stands,s.L,s.O⟩:=by unfold qE;rw[aR ⟨aV _,by omega,by omega,h⟩];simp
structure Dn(s s':Ds)(x:aA)(L:aD)(n:Nat):Prop where
 out:s'.out=s.out++x
 L:s'.L=L
 O:s'.O=s.O
 stands:s'.stands=s.stands
 steps:s'.steps.length<=s.steps.length+n
theorem Dn.trans{s w a:Ds}{x y:aA}{b e:aD}{n m:Nat}(h:Dn s w x b n)(k:Dn w a y e m):Dn s a (x++y) e (n+m):=
 ⟨by rw[k.out,h.out,jA],k.L,k.O.trans h.O,k.stands.trans h.stands,by have:=h.steps;have:=k.steps;omega⟩
theorem Dn.word{s e:Ds}{x:aA}{w:aD}{n:Nat}(h:Dn s e x w n)(y:aA)(b:s.out.length+x.length+y.length<=100000)(c:s.steps.length+n<100000):
  ∃a,jV y (some e)=some a/\Dn s a (x++y) w (n+1):=by
 refine⟨_,AK (by rw[h.out,bD];omega) (by have:=h.steps;omega), ?_,h.L,h.O,h.stands, ?_⟩
 ·show e.out++y=_;rw[h.out,jA]
 ·simp;have:=h.steps;omega
theorem Dn.zero(s:Ds):Dn s s [] s.L 0:=⟨by simp,rfl,rfl,rfl,by omega⟩
theorem VU{σ:bM}{ns:aD}{N:Nat}:∀{m:Nat} {x:Ty},dJ N m x->dW σ (qe ns m x)=qe ns m x/\(qe ns m x).kind=x.kind/\(qe ns m x).kind≠cM
 |0,_,h=>absurd h id
 |m+1,x,h=>by
  have w:(qe ns (m+1) x).kind=x.kind:=by
   rw[qe];split
   ·rename_i e;rw[e];rfl
   ·rfl
  have a:(qe ns (m+1) x).kind≠cM:=by rw[w];rcases h with⟨e,_⟩|⟨e|e,_⟩|⟨e,_⟩|⟨e|e,_⟩<;>rw[e]<;>decide
  exact⟨by unfold dW;rw[aN a],w,a⟩
theorem YN{e:aD}(w:e.Nodup){i j:Nat}(x:i<e.length)(c:j<e.length)(h:e.getD i []=e.getD j []):i=j:=by
 have d:e.getD i []=e[i]:=by simp[List.getD,x]
 have f:e.getD j []=e[j]:=by simp[List.getD,c]
 rw[d,f]at h;have a:=w.idxOf_getElem i x;have b:=w.idxOf_getElem j c;rw[h]at a;omega
theorem VV{w:aD}(d:w.Nodup){l:aC}{v:Nat}(j:v<w.length)(b:∀y,y∈l->y<w.length):(w.getD v []∈l.map (λi=>w.getD i [])↔v∈l)/\(l.map (λi=>w.getD i [])).idxOf (w.getD v [])=l.idxOf v:=by
 have g:∀i,i<w.length->(w.getD i []=w.getD v []↔i=v):=λi f=>⟨λe=>YN d f j e,λe=>by rw[e]⟩
 induction l with
 |nil=>simp
 |cons a l o=>
  obtain⟨m,n⟩:=o (λy k=>b y (bE _ k));have x:=g a (b a (by simp));constructor
  ·rw[cG,bH,bH,m];constructor
   ·rintro(e|e)
    ·exact aQ (x.1 e.symm).symm
    ·exact aM e
   ·rintro(e|e)
    ·exact aQ (by rw[e])
    ·exact aM e
  ·rw[cG,oI,oI,n];by_cases e:a=v
   ·simp[e]
   ·have c:¬w.getD a []=w.getD v []:=λh=>e (x.1 h);rw[ua c,ua e]
theorem Bi{w:aD}(c:w.Nodup){l:aC}{v:Nat}(b:v<w.length)(a:∀y,y∈l->y<w.length):
  jO (l.map λi=>w.getD i []) (w.getD v [])=(if v∈l then l else l++[v]).map (λi=>w.getD i [])/\(jO (l.map λi=>w.getD i []) (w.getD v [])).idxOf (w.getD v [])=(if v∈l then l else l++[v]).idxOf v:=by
 have d:jO (l.map λi=>w.getD i []) (w.getD v [])=(if v∈l then l else l++[v]).map (λi=>w.getD i []):=by
  unfold jO;by_cases h:v∈l
  ·rw[aR ((VV c b a).1.2 h),aR h]
  ·rw[aN (λe=>h ((VV c b a).1.1 e)),aN h,eR];rfl
 refine⟨d, ?_⟩;rw[d]
 exact(VV c b (λy x=>by
  split at x
  ·exact a y x
  ·rcases cH.1 x with x|x
   ·exact a y x
   ·rw[bF.1 x];exact b)).2
theorem qF(σ:bM){ns:aD}(p:ns.Nodup):∀(m:Nat) (x:Ty) (l:aC) (s:Ds) (F:Nat),dJ ns.length m x->m<=F->s.L=l.map (λi=>ns.getD i [])->(cQ m x l).length<=200->(∀y,y∈l->y<ns.length)->
  s.out.length+(tY m x l).1.length<=100000->s.steps.length+7*cC m x<=100000->
  ∃D,fS σ 1 F (qe ns m x) s=some D/\Dn s D (tY m x l).1 ((cQ m x l).map λi=>ns.getD i []) (7*cC m x)
 |0,_,_,_,_,h,_,_,_,_,_,_=>absurd h id
 |m+1,x,l,s,0,_,hF,_,_,_,_,_=>by omega
 |m+1,x,l,s,F+1,ok,hF,u,z,C,j,S=>by
  obtain⟨n1,T,U⟩:=VU (σ:=σ) (ns:=ns) ok;have h0:=LF (m+1) x l;rw[fS,aN U];unfold E8;rw[n1,T];rcases ok with⟨d,P,b⟩|⟨d,P,b⟩|⟨d,P,a,b,q⟩|⟨d,P,a,c,b,q,Y⟩
  ·have e:tY (m+1) x l=(fQ ((if x.var∈l then l else l++[x.var]).idxOf x.var),if x.var∈l then l else l++[x.var]):=by rw[tY,aR d]
   have o:cQ (m+1) x l=if x.var∈l then l else l++[x.var]:=by rw[cQ,aR d]
   have en:(qe ns (m+1) x).name=ns.getD x.var []:=by rw[qe,aR d];rfl
   rw[aR d,en,e,o];rw[e]at j;unfold Jm;obtain⟨o1,o2⟩:=Bi p P C;rw[aN (by decide),aR (by rw[u,fM];omega),u,o2];have v:cC (m+1) x=1:=by rw[cC,b];rfl
   rw[v]at S⊢;refine⟨_,AK j (by show s.steps.length<_;omega),rfl, ?_,rfl,rfl,by simp⟩;exact o1
  ·have f:x.kind≠[]:=by rcases d with d|d<;>rw[d]<;>decide
   have e:tY (m+1) x l=(x.kind,l):=by rw[tY,aN f,b]
   have o:cQ (m+1) x l=l:=by rw[cQ,aN f,b];rfl
   have I:(qe ns (m+1) x).kids=[]:=by rw[qe,aN f,b];rfl
   rw[aN f,aN (by rw[<-T];exact U),I,e,o];rw[e]at j;have v:cC (m+1) x=1:=by rw[cC,b];rfl
   rw[v]at S⊢;exact⟨_,AK j (by omega),rfl,u,rfl,rfl,by simp⟩
  ·have f:x.kind≠[]:=by rw[d];decide
   have e:tY (m+1) x l=([91]++(tY m a l).1++[93],(tY m a l).2):=by rw[tY,aN f,b]
   have o:cQ (m+1) x l=cQ m a l:=by rw[cQ,aN f,b];rfl
   have I:(qe ns (m+1) x).kids=[qe ns m a]:=by rw[qe,aN f,b];rfl
   have v:cC (m+1) x=1+cC m a:=by rw[cC,b];simp
   rw[aN f,aN (by rw[<-T];exact U),I,e,o];rw[e]at j;simp only[bD,bU,cB]at j;rw[o]at z;rw[v]at S⊢;obtain⟨r,K,g⟩:=(Dn.zero s).word [91] (by simp;omega) (by omega);have G:=g.out;have e2:=g.steps;obtain⟨Z,A,t⟩:=qF σ p m a l r F q (by omega) (g.L.trans u) z C (by rw[G];simp;omega) (by omega);obtain⟨J,M,k⟩:=(g.trans t).word [93] (by simp;omega) (by omega);refine⟨J, ?_, ?_,k.L,k.O,k.stands,by have:=k.steps;omega⟩
   ·show jV [93] (wE (fS σ 1 F) (qe ns m a) (jV [91] (some s)))=_;rw[K];show jV [93] (fS σ 1 F (qe ns m a) r)=_;rw[A];exact M
   ·simp[k.out]
  ·have f:x.kind≠[]:=by rcases d with d|d<;>rw[d]<;>decide
   have o:cQ (m+1) x l=cQ m c (cQ m a l):=by rw[cQ,aN f,b];rfl
   have I:(qe ns (m+1) x).kids=[qe ns m a,qe ns m c]:=by rw[qe,aN f,b];rfl
   have v:cC (m+1) x=1+(cC m a+cC m c):=by rw[cC,b];simp
   have gv:(tY m a l).2=cQ m a l:=by rw[FZ (L:=cQ m a l) m a l q (dD _)]
   rw[o]at z;have X:(cQ m a l).length<=200:=bV (LF m c _) z;have W:=BH m a l q C;rw[v]at S⊢;rw[aN f,aN (by rw[<-T];exact U),I,o];by_cases Q:x.kind=dO
   ·have e:tY (m+1) x l=((if a.kind=dO then [40]++(tY m a l).1++[41]else(tY m a l).1)++[32,45,62,32]++(tY m c (cQ m a l)).1,(tY m c (tY m a l).2).2):=by rw[tY,aN f,b];show(if x.kind=dO then _ else _,_)=_;rw[aR Q,gv]
    rw[e]at j⊢;obtain⟨a1,a2,a3⟩:=VU (σ:=σ) (ns:=ns) q;show∃D,(if x.kind=dO then _ else _)=some D/\_;rw[aR Q];unfold LD;rw[a1,a2];by_cases R:a.kind=dO
    ·rw[aR R]at j⊢;rw[aR R];simp only[bD,bU,cB]at j;obtain⟨r,K,g⟩:=(Dn.zero s).word [40] (by simp;omega) (by omega);have G:=g.out;have e2:=g.steps;obtain⟨Z,A,t⟩:=qF σ p m a l r F q (by omega) (g.L.trans u) X C (by rw[G];simp;omega) (by omega);obtain⟨J,M,k⟩:=(g.trans t).word [41] (by simp;omega) (by omega);obtain⟨s4,w4,n⟩:=k.word [32,45,62,32] (by simp;omega) (by omega);have H:=n.out;have e6:=n.steps;obtain⟨V,N,E⟩:=qF σ p m c (cQ m a l) s4 F Y (by omega) n.L z W (by rw[H];simp;omega) (by omega);have w:=n.trans E;refine⟨V, ?_,by simp[w.out],w.L,w.O,w.stands,by have:=w.steps;omega⟩;rw[K];show wE _ _ (jV _ (jV _ (fS σ 1 F (qe ns m a) r)))=_;rw[A,M,w4];exact N
    ·rw[aN R]at j⊢;rw[aN R];simp only[bD,bU,cB]at j;obtain⟨Z,A,t⟩:=qF σ p m a l s F q (by omega) u X C (by omega) (by omega);obtain⟨s4,w4,n⟩:=t.word [32,45,62,32] (by simp;omega) (by omega);have H:=n.out;have e6:=n.steps;obtain⟨V,N,E⟩:=qF σ p m c (cQ m a l) s4 F Y (by omega) n.L z W (by rw[H];simp;omega) (by omega);have w:=n.trans E;refine⟨V, ?_,by simp[w.out],w.L,w.O,w.stands,by have:=w.steps;omega⟩;show wE _ _ (jV _ (fS σ 1 F (qe ns m a) s))=_;rw[A,w4];exact N
   ·have e:tY (m+1) x l=([40]++(tY m a l).1++[44,32]++(tY m c (cQ m a l)).1++[41],(tY m c (tY m a l).2).2):=by rw[tY,aN f,b];show(if x.kind=dO then _ else _,_)=_;rw[aN Q,gv]
    rw[e]at j⊢;show∃D,(if x.kind=dO then _ else _)=some D/\_;rw[aN Q];simp only[bD,bU,cB]at j;obtain⟨r,K,g⟩:=(Dn.zero s).word [40] (by simp;omega) (by omega);have G:=g.out;have e2:=g.steps;obtain⟨Z,A,t⟩:=qF σ p m a l r F q (by omega) (g.L.trans u) X C (by rw[G];simp;omega) (by omega);obtain⟨J,M,k⟩:=(g.trans t).word [44,32] (by simp;omega) (by omega);have H:=k.out;have e6:=k.steps;obtain⟨V,N,E⟩:=qF σ p m c (cQ m a l) J F Y (by omega) k.L z W (by rw[H];simp;omega) (by omega);obtain⟨s6,w6,w⟩:=(k.trans E).word [41] (by simp;omega) (by omega);refine⟨s6, ?_,by simp[w.out],w.L,w.O,w.stands,by have:=w.steps;omega⟩;rw[K];show jV _ (wE _ _ (jV _ (fS σ 1 F (qe ns m a) r)))=_;rw[A,M];show jV _ (fS σ 1 F (qe ns m c) J)=_;rw[N];exact w6
theorem pM(σ:bM){ns:aD}{N:Nat}:∀(m:Nat) (x:Ty) (s:Ds) (F:Nat),dJ N m x->m<=F->s.out.length+(cJ m ns x).length<=100000->s.steps.length+7*cC m x<=100000->
  ∃r,fS σ 0 F (qe ns m x) s=some r/\Dn s r (cJ m ns x) s.L (7*cC m x)
 |0,_,_,_,h,_,_,_=>absurd h id
 |m+1,x,s,0,_,hF,_,_=>by omega
 |m+1,x,s,F+1,ok,hF,g,H=>by
  obtain⟨X,I,J⟩:=VU (σ:=σ) (ns:=ns) ok;rw[fS,aN J];unfold E8;rw[X,I];rcases ok with⟨b,M,f⟩|⟨b,M,f⟩|⟨b,M,a,f,q⟩|⟨b,M,a,c,f,q,P⟩
  ·have e:cJ (m+1) ns x=ns.getD x.var []:=by rw[cJ,aR b]
   have en:(qe ns (m+1) x).name=ns.getD x.var []:=by rw[qe,aR b];rfl
   rw[aR b,en,e];rw[e]at g;unfold Jm;rw[aR rfl];have o:cC (m+1) x=1:=by rw[cC,f];rfl
   rw[o]at H⊢;exact⟨_,AK g (by omega),rfl,rfl,rfl,rfl,by simp⟩
  ·have j:x.kind≠[]:=by rcases b with b|b<;>rw[b]<;>decide
   have e:cJ (m+1) ns x=x.kind:=by rw[cJ,aN j,f]
   have y:(qe ns (m+1) x).kids=[]:=by rw[qe,aN j,f];rfl
   rw[aN j,aN (by rw[<-I];exact J),y,e];rw[e]at g;have o:cC (m+1) x=1:=by rw[cC,f];rfl
   rw[o]at H⊢;exact⟨_,AK g (by omega),rfl,rfl,rfl,rfl,by simp⟩
  ·have j:x.kind≠[]:=by rw[b];decide
   have e:cJ (m+1) ns x=[91]++cJ m ns a++[93]:=by rw[cJ,aN j,f]
   have y:(qe ns (m+1) x).kids=[qe ns m a]:=by rw[qe,aN j,f];rfl
   have o:cC (m+1) x=1+cC m a:=by rw[cC,f];simp
   rw[aN j,aN (by rw[<-I];exact J),y,e];rw[e]at g;simp only[bD,bU,cB]at g;rw[o]at H⊢;obtain⟨l,A,d⟩:=(Dn.zero s).word [91] (by simp;omega) (by omega);have u:=d.out;have T:=d.steps;obtain⟨Q,p,n⟩:=pM σ (ns:=ns) m a l F q (by omega) (by rw[u];simp;omega) (by omega);obtain⟨z,C,i⟩:=(d.trans n).word [93] (by simp;omega) (by omega);refine⟨z, ?_, ?_,i.L.trans d.L,i.O,i.stands,by have:=i.steps;omega⟩
   ·show jV [93] (wE (fS σ 0 F) (qe ns m a) (jV [91] (some s)))=_;rw[A];show jV [93] (fS σ 0 F (qe ns m a) l)=_;rw[p];exact C
   ·simp[i.out]
  ·have j:x.kind≠[]:=by rcases b with b|b<;>rw[b]<;>decide
   have y:(qe ns (m+1) x).kids=[qe ns m a,qe ns m c]:=by rw[qe,aN j,f];rfl
   have o:cC (m+1) x=1+(cC m a+cC m c):=by rw[cC,f];simp
   rw[o]at H⊢;rw[aN j,aN (by rw[<-I];exact J),y];by_cases E:x.kind=dO
   ·have e:cJ (m+1) ns x=(if a.kind=dO then [40]++cJ m ns a++[41]else cJ m ns a)++[32,45,62,32]++cJ m ns c:=by rw[cJ,aN j,f];show(if x.kind=dO then _ else _)=_;rw[aR E]
    rw[e]at g⊢;obtain⟨V,W,a3⟩:=VU (σ:=σ) (ns:=ns) q;show∃r,(if x.kind=dO then _ else _)=some r/\_;rw[aR E];unfold LD;rw[V,W];by_cases G:a.kind=dO
    ·rw[aR G]at g⊢;rw[aR G];simp only[bD,bU,cB]at g;obtain⟨l,A,d⟩:=(Dn.zero s).word [40] (by simp;omega) (by omega);have u:=d.out;have T:=d.steps;obtain⟨Q,p,n⟩:=pM σ (ns:=ns) m a l F q (by omega) (by rw[u];simp;omega) (by omega);obtain⟨z,C,i⟩:=(d.trans n).word [41] (by simp;omega) (by omega);obtain⟨R,S,k⟩:=i.word [32,45,62,32] (by simp;omega) (by omega);have v:=k.out;have U:=k.steps;obtain⟨K,D,t⟩:=pM σ (ns:=ns) m c R F P (by omega) (by rw[v];simp;omega) (by omega);have w:=k.trans t;refine⟨K, ?_,by simp[w.out],(w.L.trans k.L).trans d.L,w.O,w.stands,by have:=w.steps;omega⟩;rw[A];show wE _ _ (jV _ (jV _ (fS σ 0 F (qe ns m a) l)))=_;rw[p,C,S];exact D
    ·rw[aN G]at g⊢;rw[aN G];simp only[bD,bU,cB]at g;obtain⟨Q,p,n⟩:=pM σ (ns:=ns) m a s F q (by omega) (by omega) (by omega);obtain⟨R,S,k⟩:=n.word [32,45,62,32] (by simp;omega) (by omega);have v:=k.out;have U:=k.steps;obtain⟨K,D,t⟩:=pM σ (ns:=ns) m c R F P (by omega) (by rw[v];simp;omega) (by omega);have w:=k.trans t;refine⟨K, ?_,by simp[w.out],w.L.trans k.L,w.O,w.stands,by have:=w.steps;omega⟩;show wE _ _ (jV _ (fS σ 0 F (qe ns m a) s))=_;rw[p,S];exact D
   ·have e:cJ (m+1) ns x=[40]++cJ m ns a++[44,32]++cJ m ns c++[41]:=by rw[cJ,aN j,f];show(if x.kind=dO then _ else _)=_;rw[aN E]
    rw[e]at g⊢;show∃r,(if x.kind=dO then _ else _)=some r/\_;rw[aN E];simp only[bD,bU,cB]at g;obtain⟨l,A,d⟩:=(Dn.zero s).word [40] (by simp;omega) (by omega);have u:=d.out;have T:=d.steps;obtain⟨Q,p,n⟩:=pM σ (ns:=ns) m a l F q (by omega) (by rw[u];simp;omega) (by omega);obtain⟨z,C,i⟩:=(d.trans n).word [44,32] (by simp;omega) (by omega);have v:=i.out;have U:=i.steps;obtain⟨K,D,t⟩:=pM σ (ns:=ns) m c z F P (by omega) (by rw[v];simp;omega) (by omega);obtain⟨Y,Z,w⟩:=(i.trans t).word [41] (by simp;omega) (by omega);refine⟨Y, ?_,by simp[w.out],((w.L.trans i.L).trans d.L),w.O,w.stands,by have:=w.steps;omega⟩;rw[A];show jV _ (wE _ _ (jV _ (fS σ 0 F (qe ns m a) l)))=_;rw[p,C];show jV _ (fS σ 0 F (qe ns m c) z)=_;rw[D];exact Z
theorem dB{w e:World}{b i:Nat}(h:w.cell? ⟨b,i,none⟩=some v)(c:b<w.heap.size)(x:w.grownBy e none):e.cell? ⟨b,i,none⟩=some v:=by rw[bT (a:=⟨b,i,none⟩) (x.block b c (by simp))];exact h
end Go.Proofs.YtcdijppegfcoaaaGreatDoor
