import Derived.Test.YtcdijppegfcoaaaGreatDoorZH07
import Derived.Test.YtcdijppegfcoaaaGreatDoorZH06
set_option maxRecDepth 100000
set_option maxHeartbeats 4000000
set_option linter.unusedSimpArgs false
namespace Go.Proofs.YtcdijppegfcoaaaGreatDoor
open Go.RowKit Tryz
variable{b j rb:Nat}{H':Nat->Option Obj}{T:List fI}{st:St}{s:ByteArray}
def lU(l:aD)(j:Nat):aA:=(l[j]?).getD []
def cP:Nat->Ex->aA
 |0,_=>[]
 |m+1,x=>
  let k:=λj=>match x.kids[j]? with|some y=>cP m y|none=>[]
  let o:=λj=>match x.kids[j]? with|some y=>y.op|none=>[]
  if x.op=bK\/x.op=dS then lU x.names 0
  else if x.op=dO then XW++lU x.names 0++zX++k 0
  else if x.op=eS then nX++k 0++zY++k 1++nY
  else if x.op=xA then Ob++k 0++L4++k 1++L8++k 2
  else if x.op=oO then oA (XI (o 0)) (k 0)++Oc++oA (uk (o 1)) (k 1)
  else oU x.op++j8 (lU x.names) k x.names.length++nj++k x.names.length
def qD:Nat->Ex->Prop
 |0,_=>False
 |m+1,x=>(((x.op=bK\/x.op=dS)/\x.names.length=1)\/(x.op=dO/\x.names.length=1/\x.kids.length=1)\/(x.op=eS/\x.kids.length=2)\/(x.op=xA/\x.kids.length=3)\/(x.op=oO/\x.kids.length=2)\/
   ((x.op=iP\/x.op=gV)/\0<x.names.length/\x.kids.length=x.names.length+1))/\∀y,y∈x.kids->qD m y
theorem An(h e:Nat->aA)(j:Nat):j<=(j8 h e j).length:=by
 induction j with
 |zero=>exact dG _
 |succ j w=>have:=LA h e j;omega
theorem np(b:Bool)(t:aA):t.length<=(oA b t).length:=by
 unfold oA;split
 ·simp[nX,nY];omega
 ·exact aV _
def sE(m:Nat)(x:Ex)(j:Nat):aA:=match x.kids[j]? with|some y=>cP m y|none=>[]
def Je(x:Ex)(j:Nat):aA:=match x.kids[j]? with|some y=>y.op|none=>[]
def VM(x:Ex)(k:Nat->aA):aA:=
 if x.op=bK\/x.op=dS then lU x.names 0
 else if x.op=dO then XW++lU x.names 0++zX++k 0
 else if x.op=eS then nX++k 0++zY++k 1++nY
 else if x.op=xA then Ob++k 0++L4++k 1++L8++k 2
 else if x.op=oO then oA (XI (Je x 0)) (k 0)++Oc++oA (uk (Je x 1)) (k 1)
 else oU x.op++j8 (lU x.names) k x.names.length++nj++k x.names.length
theorem sF(m:Nat)(x:Ex):cP (m+1) x=VM x (sE m x):=rfl
theorem rJ:∀(m:Nat) (x:Ex),qD m x->qD (m+1) x/\cP (m+1) x=cP m x/\cA (m+1) x=cA m x
 |0,_,h=>absurd h id
 |m+1,x,h=>by
  have a:=λy (w:y∈x.kids)=>rJ m y (h.2 y w);refine⟨⟨h.1,λy w=>(a y w).1⟩, ?_, ?_⟩
  ·rw[sF,sF];congr 1;funext j;unfold sE
   cases e:x.kids[j]? with
   |none=>rfl
   |some y=>exact(a y (cK e)).2.1
  ·show j4 (x.kids.map (cA (m+1)))+1=j4 (x.kids.map (cA m))+1;rw[dF (λy w=>(a y w).2.2)]
theorem DZ:∀(m:Nat) (x:Ex),qD m x->Small m x->Small (m+1) x
 |0,_,h,_=>absurd h id
 |m+1,_,h,e=>⟨e.1,e.2.1,λy w=>DZ m y (h.2 y w) (e.2.2 y w)⟩
structure pD(m:Nat)(x:Ex)(c:Nat):Prop where
 shape:qD m x
 text:(cP m x).length+8<=16*c
 deep:cA m x<=c
 small:Small m x
theorem pD.up{m:Nat}{x:Ex}{c:Nat}(h:pD m x c):pD (m+1) x c:=by obtain⟨e,w,a⟩:=rJ m x h.shape;exact⟨e,by rw[w];exact h.text,by rw[a];exact h.deep,DZ m x h.shape h.small⟩
theorem pD.le{m e:Nat}{x:Ex}{c:Nat}(h:pD m x c)(w:m<=e):pD e x c:=by
 induction e with
 |zero=>rw[kW.1 w]at h;exact h
 |succ k a=>
  rcases bZ m (k+1)with d|b
  ·exact(a (by omega)).up
  ·rw[show k+1=m from by omega];exact h
theorem pD.more{m:Nat}{x:Ex}{c e:Nat}(h:pD m x c)(w:c<=e):pD m x e:=
 ⟨h.shape,by have:=h.text;omega,bV h.deep w,h.small⟩
theorem pD.pos{m:Nat}{x:Ex}{c:Nat}(h:pD m x c):0<c:=by have:=h.text;omega
theorem uo(w e:aA)(p:Nat)(x:w=bK\/w=dS)(a:e.length<=8):pD 1 ⟨w,[e],[],p⟩ 1:=by refine⟨⟨aQ ⟨x,rfl⟩,λy h=>by cases h⟩, ?_,by simp[cA,j4],⟨by simp,by simp,λy h=>by cases h⟩⟩;rw[sF,VM,aR x];show e.length+8<=16;omega
theorem Ao{m:Nat}{b:Ex}{c:Nat}(w:aA)(p:Nat)(a:w.length<=8)(h:pD m b c):pD (m+1) ⟨dO,[w],[b],p⟩ (c+3):=by
 refine⟨⟨aM (aQ ⟨rfl,rfl,rfl⟩),λy x=>by rw[bF.1 x];exact h.shape⟩, ?_, ?_,⟨by simp,by simp,λy x=>by rw[bF.1 x];exact h.small⟩⟩
 ·have e:cP (m+1) ⟨dO,[w],[b],p⟩=XW++w++zX++cP m b:=rfl;rw[e];have:=h.text;simp only[bD,XW,zX,bU,cB];omega
 ·have:=h.deep;simp only[cA,cG,fE,j4,fD,kY];omega
theorem Jf{m:Nat}{a b c:Ex}{i k:Nat}(p:Nat)(h:pD m a i)(x:pD m b j)(d:pD m c k):pD (m+1) ⟨xA,[],[a,b,c],p⟩ (i+j+k+3):=by
 refine⟨⟨aM (aM (aM (aQ ⟨rfl,rfl⟩))),λy w=> ?_⟩, ?_, ?_,⟨by simp,by simp,λy w=> ?_⟩⟩
 ·simp only[bH,cE,eK]at w;rcases w with rfl|rfl|rfl
  ·exact h.shape
  ·exact x.shape
  ·exact d.shape
 ·have e:cP (m+1) ⟨xA,[],[a,b,c],p⟩=Ob++cP m a++L4++cP m b++L8++cP m c:=rfl;rw[e];have:=h.text;have:=x.text;have:=d.text;simp only[bD,Ob,L4,L8,bU,cB];omega
 ·have:=h.deep;have:=x.deep;have:=d.deep;simp only[cA,cG,fE,j4,fD,kY];omega
 ·simp only[bH,cE,eK]at w;rcases w with rfl|rfl|rfl
  ·exact h.small
  ·exact x.small
  ·exact d.small
theorem uq{m:Nat}{a b:Ex}{i:Nat}(p:Nat)(h:pD m a i)(x:pD m b j):pD (m+1) ⟨eS,[],[a,b],p⟩ (i+j+3):=by
 refine⟨⟨aM (aM (aQ ⟨rfl,rfl⟩)),λy w=> ?_⟩, ?_, ?_,⟨by simp,by simp,λy w=> ?_⟩⟩
 ·simp only[bH,cE,eK]at w;rcases w with rfl|rfl
  ·exact h.shape
  ·exact x.shape
 ·have e:cP (m+1) ⟨eS,[],[a,b],p⟩=nX++cP m a++zY++cP m b++nY:=rfl;rw[e];have:=h.text;have:=x.text;simp only[bD,nX,zY,nY,bU,cB];omega
 ·have:=h.deep;have:=x.deep;simp only[cA,cG,fE,j4,fD,kY];omega
 ·simp only[bH,cE,eK]at w;rcases w with rfl|rfl
  ·exact h.small
  ·exact x.small
theorem Ap{m:Nat}{a b:Ex}{i:Nat}(p:Nat)(h:pD m a i)(w:pD m b j):pD (m+1) ⟨oO,[],[a,b],p⟩ (i+j):=by
 refine⟨⟨aM (aM (aM (aM (aQ ⟨rfl,rfl⟩)))),λy x=> ?_⟩, ?_, ?_,⟨by simp,by simp,λy x=> ?_⟩⟩
 ·simp only[bH,cE,eK]at x;rcases x with rfl|rfl
  ·exact h.shape
  ·exact w.shape
 ·have e:cP (m+1) ⟨oO,[],[a,b],p⟩=oA (XI a.op) (cP m a)++Oc++oA (uk b.op) (cP m b):=rfl;rw[e];have:=h.text;have:=w.text;have:=YI (XI a.op) (cP m a);have:=YI (uk b.op) (cP m b);simp only[bD,Oc,bU,cB];omega
 ·have:=h.deep;have:=w.deep;have:=h.pos;have:=w.pos;simp only[cA,cG,fE,j4,fD,kY];omega
 ·simp only[bH,cE,eK]at x;rcases x with rfl|rfl
  ·exact h.small
  ·exact w.small
theorem tE{e nm' w ts':Nat->aA}(N:Nat)(h:∀j,j<N->e j=nm' j/\w j=ts' j):j8 e w N=j8 nm' ts' N:=by
 induction N with
 |zero=>rfl
 |succ N x=>rw[j8,j8,x (λj a=>h j (by omega)),(h N (by omega)).1,(h N (by omega)).2]
structure AG(m:Nat)(x:Ex)(c:Nat):Prop where
 op:x.op=iP\/x.op=gV
 len:x.kids.length=x.names.length
 nlen:x.names.length<=c
 kids:∀y,y∈x.kids->qD m y/\cA m y<=c/\Small m y
 text:(j8 (lU x.names) (sE m x) x.names.length).length<=16*c
theorem AG.up{m:Nat}{x:Ex}{c:Nat}(h:AG m x c):AG (m+1) x c:=by
 refine⟨h.op,h.len,h.nlen,λy g=> ?_, ?_⟩
 ·obtain⟨w,d,f⟩:=h.kids y g;obtain⟨a,i,b⟩:=rJ m y w;exact⟨a,by rw[b];exact d,DZ m y w f⟩
 ·rw[tE (nm':=lU x.names) (ts':=sE m x) _ (λj _=>⟨rfl, ?_⟩)]
  ·exact h.text
  ·unfold sE
   cases e:x.kids[j]? with
   |none=>rfl
   |some y=>exact(rJ m y (h.kids y (cK e)).1).2.1
theorem AG.le{m e:Nat}{x:Ex}{c:Nat}(h:AG m x c)(w:m<=e):AG e x c:=by
 induction e with
 |zero=>rw[kW.1 w]at h;exact h
 |succ k a=>
  rcases bZ m (k+1)with d|b
  ·exact(a (by omega)).up
  ·rw[show k+1=m from by omega];exact h
theorem Jg(l:aD)(a:aA)(h:j<l.length):lU (l++[a]) j=lU l j:=by rw[lU,lU,bJ h]
theorem Jh(l:aD)(a:aA):lU (l++[a]) l.length=a:=by simp[lU]
theorem AG.add{m:Nat}{x b:Ex}{c d:Nat}(h:AG m x c)(w:aA)(p:w.length<=8)(f:pD m b d):AG m ⟨x.op,x.names++[w],x.kids++[b],x.pos⟩ (c+d+2):=by
 refine⟨h.op, ?_, ?_,λy l=> ?_, ?_⟩
 ·show(x.kids++[b]).length=(x.names++[w]).length;simp[h.len]
 ·show(x.names++[w]).length<=_;have:=h.nlen;simp only[bD,bU,cB];omega
 ·have a:y∈x.kids++[b]:=l;rcases cH.1 a with a|a
  ·obtain⟨i,n,k⟩:=h.kids y a;exact⟨i,by omega,k⟩
  ·rw[bF.1 a];exact⟨f.shape,by have:=f.deep;omega,f.small⟩
 ·show(j8 (lU (x.names++[w])) (sE m ⟨x.op,x.names++[w],x.kids++[b],x.pos⟩) (x.names++[w]).length).length<=_;rw[bD,List.length_singleton,j8,Jh];rw[tE (nm':=lU x.names) (ts':=sE m x) x.names.length (λj g=>⟨Jg _ _ g, ?_⟩)]
  ·have e:sE m ⟨x.op,x.names++[w],x.kids++[b],x.pos⟩ x.names.length=cP m b:=by simp[sE,<-h.len]
   rw[e];have:=h.text;have:=f.text;have o:(if 0<x.names.length then SJ else []).length<=5:=by split<;>simp[SJ]
   simp only[bD,SK,bU,cB];omega
  ·simp only[sE];rw[bJ (by rw[h.len];exact g)]
theorem AG.done{m:Nat}{x b:Ex}{c d:Nat}(h:AG m x c)(q:0<x.names.length)(g:pD m b d)(C:c+d<=1000):pD (m+1) ⟨x.op,x.names,x.kids++[b],x.pos⟩ (c+d+2):=by
 have f:x.op≠bK/\x.op≠dS/\x.op≠dO/\x.op≠eS/\x.op≠xA/\x.op≠oO:=by rcases h.op with p|p<;>rw[p]<;>decide
 have i:∀y,y∈x.kids++[b]->qD m y/\cA m y<=c+d/\Small m y:=λy w=>by
  rcases cH.1 w with w|w
  ·obtain⟨k,n,r⟩:=h.kids y w;exact⟨k,by omega,r⟩
  ·rw[bF.1 w];exact⟨g.shape,by have:=g.deep;omega,g.small⟩
 have F:=h.nlen;refine⟨⟨aM (aM (aM (aM (aM ⟨h.op,q, ?_⟩)))),λy w=>(i y w).1⟩, ?_, ?_,⟨?_, ?_,λy w=>(i y w).2.2⟩⟩
 ·show(x.kids++[b]).length=x.names.length+1;simp[h.len]
 ·rw[sF,VM];rw[aN (λe=>e.elim f.1 f.2.1),aN f.2.2.1,aN f.2.2.2.1,aN f.2.2.2.2.1,aN f.2.2.2.2.2];show(oU x.op++j8 (lU x.names) (sE m ⟨x.op,x.names,x.kids++[b],x.pos⟩) x.names.length++nj++sE m ⟨x.op,x.names,x.kids++[b],x.pos⟩ x.names.length).length+8<=_;rw[tE (nm':=lU x.names) (ts':=sE m x) x.names.length (λj t=>⟨rfl, ?_⟩)]
  ·have e:sE m ⟨x.op,x.names,x.kids++[b],x.pos⟩ x.names.length=cP m b:=by simp[sE,<-h.len]
   rw[e];have:=h.text;have:=g.text;have D:(oU x.op).length<=8:=by unfold oU;split<;>simp[MJ,VI]
   simp only[bD,nj,bU,cB];omega
  ·simp only[sE];rw[bJ (by rw[h.len];exact t)]
 ·have E:j4 ((x.kids++[b]).map (cA m))<=c+d:=by
   have u:∀(l:aC) (B:Nat),(∀a,a∈l->a<=B)->j4 l<=B:=λl B o=>by
    induction l with
    |nil=>simp[j4]
    |cons a l A=>unfold j4;rw[fD,BF];have k:=o a (bG ..);have n:=A (λz v=>o z (bE _ v));unfold j4 at n;omega
   refine u _ _ (λa s=> ?_);obtain⟨y,w,rfl⟩:=fF.1 s;exact(i y w).2.1
  show j4 ((x.kids++[b]).map (cA m))+1<=_;omega
 ·show(x.kids++[b]).length<=1000000;simp only[bD,bU,cB,h.len];omega
 ·show x.names.length<=1000000;omega
def pT(h:aA):TypeId:=
 if h=bK then 186 else if h=dS then 191 else if h=dO then 194 else if h=xA then 197
 else if h=iP then 200 else if h=gV then 206 else if h=oO then 211 else 214
def Aq(t:TypeId):Prop:=t=186\/t=191\/t=194\/t=197\/t=200\/t=206\/t=211\/t=214
theorem Tx(h:aA):Aq (pT h):=by
 unfold pT Aq
 repeat' split
 all_goals simp
def iE:List aA->List Value->List Value
 |n::h,u::e=> .string (B n)::u::iE h e
 |_,_=>[]
def Ji(H:aB)(x:Value)(h:aD)(a:aH):Prop:=
 ∃g w e,x= .slice (some ⟨g,0,none⟩) h.length w/\H g=some (.cells e 203 (0,0))/\e.toList.take (h.length*2)=iE h a
def OS(H:aB)(e:Ex)(w:aH)(h:Nat)(b:Nat):Prop:=
 (e.op=bK/\∃t,e.names=[t]/\e.kids.length=0/\w=[]/\H b=some (.cells #[.int .i64 (h:Int), .string (B t), .int .i64 (e.pos:Int)] 190 (0,0)))\/
 (e.op=dS/\∃t,e.names=[t]/\e.kids.length=0/\w=[]/\H b=some (.cells #[.int .i64 (h:Int), .string (B t)] 193 (0,0)))\/
 (e.op=dO/\∃t u,e.names=[t]/\e.kids.length=1/\w=[u]/\H b=some (.cells #[.int .i64 (h:Int), .string (B t),u] 196 (0,0)))\/
 (e.op=xA/\∃u v x,e.kids.length=3/\w=[u,v,x]/\H b=some (.cells #[.int .i64 (h:Int),u,v,x] 199 (0,0)))\/
 (e.op=iP/\∃t u v,e.names=[t]/\e.kids.length=2/\w=[u,v]/\H b=some (.cells #[.int .i64 (h:Int), .string (B t),u,v] 205 (0,0)))\/
 (e.op=gV/\∃a u c,0<e.names.length/\a.length=e.names.length/\e.kids.length=e.names.length+1/\w=a++[u]/\Ji H c e.names a/\H b=some (.cells #[.int .i64 (h:Int),c,u] 210 (0,0)))\/
 (e.op=oO/\∃u v,e.kids.length=2/\w=[u,v]/\H b=some (.cells #[.int .i64 (h:Int),u,v] 213 (0,0)))\/
 (e.op=eS/\∃u v,e.kids.length=2/\w=[u,v]/\H b=some (.cells #[.int .i64 (h:Int),u,v] 216 (0,0)))
def dI:Nat->(Nat->Option Obj)->Value->Ex->Prop
 |0,_,_,_=>False
 |n+1,H,v,e=>∃b h,v= .iface (pT e.op) (.pointer (some ⟨b,0,none⟩))/\OS H e h (cA (n+1) e) b/\h.length=e.kids.length/\
   ∀(i:Nat) (y:Ex) (u:Value),h[i]? =some u->e.kids[i]? =some y->dI n H u y
theorem Ji.ext{m:Nat}{H:aB}{w:Value}{x:aD}{a:aH}(h:Ji H w x a)(e:zW m H H'):Ji H' w x a:=by obtain⟨g,b,c,d,f,i⟩:=h;exact⟨g,b,c,d,e.1 _ _ f,i⟩
theorem OS.ext{m:Nat}{H:aB}{x:Ex}{i:aH}{d:Nat}(h:OS H x i d b)(e:zW m H H'):OS H' x i d b:=by
 rcases h with⟨w,t,a,c,g,f⟩|⟨w,t,a,c,g,f⟩|⟨w,t,u,a,c,g,f⟩|⟨w,u,v,y,a,c,f⟩|⟨w,t,u,v,a,c,g,f⟩|⟨w,n,u,j,a,c,g,f,k,l⟩|⟨w,u,v,a,c,f⟩|⟨w,u,v,a,c,f⟩
 ·exact aQ ⟨w,t,a,c,g,e.1 _ _ f⟩
 ·exact aM (aQ ⟨w,t,a,c,g,e.1 _ _ f⟩)
 ·exact aM (aM (aQ ⟨w,t,u,a,c,g,e.1 _ _ f⟩))
 ·exact aM (aM (aM (aQ ⟨w,u,v,y,a,c,e.1 _ _ f⟩)))
 ·exact aM (aM (aM (aM (aQ ⟨w,t,u,v,a,c,g,e.1 _ _ f⟩))))
 ·exact aM (aM (aM (aM (aM (aQ ⟨w,n,u,j,a,c,g,f,k.ext e,e.1 _ _ l⟩)))))
 ·exact aM (aM (aM (aM (aM (aM (aQ ⟨w,u,v,a,c,e.1 _ _ f⟩))))))
 ·exact aM (aM (aM (aM (aM (aM (aM ⟨w,u,v,a,c,e.1 _ _ f⟩))))))
theorem dI.ext{m:Nat}{H w:aB}(e:zW m H w):∀(n:Nat) (v:Value) (x:Ex),dI n H v x->dI n w v x
 |0,_,_,h=>h
 |n+1,v,x,h=>by obtain⟨b,k,a,c,d,f⟩:=h;exact⟨b,k,a,c.ext e,d,λi y u g j=>dI.ext e n u y (f i y u g j)⟩
theorem dI.shape{H:aB}:∀(n:Nat) (v:Value) (x:Ex),dI n H v x->qD n x
 |0,_,_,h=>h
 |n+1,v,x,h=>by
  obtain⟨b,g,e,a,c,d⟩:=h;refine⟨?_,λy f=> ?_⟩
  ·rcases a with⟨w,t,e,a,c,_⟩|⟨w,t,e,a,c,_⟩|⟨w,t,u,e,a,c,_⟩|⟨w,u,v,y,e,a,_⟩|⟨w,t,u,v,e,a,c,_⟩|⟨w,l,u,j,e,a,c,_⟩|⟨w,u,v,e,a,_⟩|⟨w,u,v,e,a,_⟩
   ·exact aQ ⟨aQ w,by rw[e];rfl⟩
   ·exact aQ ⟨aM w,by rw[e];rfl⟩
   ·exact aM (aQ ⟨w,by rw[e];rfl,a⟩)
   ·exact aM (aM (aM (aQ ⟨w,e⟩)))
   ·exact aM (aM (aM (aM (aM ⟨aQ w,by rw[e];simp,by rw[e,a];rfl⟩))))
   ·exact aM (aM (aM (aM (aM ⟨aM w,e,c⟩))))
   ·exact aM (aM (aM (aM (aQ ⟨w,e⟩))))
   ·exact aM (aM (aQ ⟨w,e⟩))
  ·obtain⟨i,k,rfl⟩:=jM.1 f;exact dI.shape n _ _ (d i _ (g[i]'(by omega)) (aP _) (aP _))
theorem dI.up{H:aB}:∀(n:Nat) (v:Value) (x:Ex),dI n H v x->dI (n+1) H v x
 |0,_,_,h=>absurd h id
 |n+1,v,x,h=>by have g:=(rJ _ _ (dI.shape _ _ _ h)).2.2;obtain⟨b,j,e,w,a,c⟩:=h;exact⟨b,j,e,by rw[g];exact w,a,λi y u d f=>dI.up n u y (c i y u d f)⟩
theorem dI.le{H:aB}{n m:Nat}{v:Value}{x:Ex}(h:dI n H v x)(e:n<=m):dI m H v x:=by
 induction m with
 |zero=>rw[kW.1 e]at h;exact h
 |succ m w=>
  rcases bZ n (m+1)with b|a
  ·exact dI.up m v x (w (by omega))
  ·rw[show m+1=n from by omega];exact h
theorem mE{n m:Nat}{x:Ex}(h:qD n x)(a:n<=m):cA m x=cA n x:=by
 have w:∀k,qD (n+k) x/\cA (n+k) x=cA n x:=by
  intro k
  induction k with
  |zero=>exact⟨h,rfl⟩
  |succ k e=>have:=rJ _ _ e.1;exact⟨this.1,this.2.2.trans e.2⟩
 have:=(w (m-n)).2;rw[show n+(m-n)=m from by omega]at this;exact this
def Jj(w:World)(v:Value)(d:Nat):Prop:=∃t b,Aq t/\v= .iface t (.pointer (some ⟨b,0,none⟩))/\b<w.heap.size/\w.cell? ⟨b,0,none⟩=some (.int .i64 (d:Int))
theorem OS.first{H:aB}{x:Ex}{f:aH}{d:Nat}(h:OS H x f d b){w:World}(c:Fz H w):b<w.heap.size/\w.cell? ⟨b,0,none⟩=some (.int .i64 (d:Int)):=by
 rcases h with⟨_,t,_,_,_,e⟩|⟨_,t,_,_,_,e⟩|⟨_,t,u,_,_,_,e⟩|⟨_,u,v,y,_,_,e⟩|⟨_,t,u,v,_,_,_,e⟩|⟨_,i,u,g,_,_,_,_,_,e⟩|⟨_,u,v,_,_,e⟩|⟨_,u,v,_,_,e⟩<;>
 ·have a:=c _ _ e;exact⟨aT a,by simp[World.cell?,a]⟩
theorem dI.dat{H:aB}{n:Nat}{v:Value}{x:Ex}{w:World}(h:dI n H v x)(f:Fz H w):Jj w v (cA n x):=by
 cases n with
 |zero=>exact absurd h id
 |succ n=>obtain⟨b,g,e,a,_⟩:=h;obtain⟨c,d⟩:=a.first f;exact⟨_,b,Tx _,e,c,d⟩
theorem Jj.grown{w c:World}{v:Value}{d:Nat}(h:Jj w v d)(x:w.grownBy c none):Jj c v d:=by obtain⟨t,b,f,g,e,i⟩:=h;refine⟨t,b,f,g,aZ e x.size, ?_⟩;rw[bT (a:=⟨b,0,none⟩) (x.block b e (by simp))];exact i
@[reducible] def sG(h:TypeId):Prop:=∀(b:Nat) (w:World),(Go.method 567 h (.pointer (some ⟨b,0,none⟩)) "Depth").run prog w=(do let v<-loadVar 188 ⟨b,0,none⟩;pure (289,v):Sem (FuncId×Value)).run prog w
theorem fw:sG 186:=λ_ _=>by kernel_rfl
theorem VN:sG 191:=λ_ _=>by kernel_rfl
theorem ur:sG 194:=λ_ _=>by kernel_rfl
theorem Ar:sG 197:=λ_ _=>by kernel_rfl
theorem uv:sG 200:=λ_ _=>by kernel_rfl
theorem VO:sG 206:=λ_ _=>by kernel_rfl
theorem YJ:sG 211:=λ_ _=>by kernel_rfl
theorem fx:sG 214:=λ_ _=>by kernel_rfl
theorem uw{w e:World}{o:Obj}(h:(w.alloc o).grownBy e none)(v:Value):w.grownBy (e.setCell ⟨w.heap.size,0,none⟩ v) none:=
 ⟨h.os,h.tape,h.output,by have:=h.size;simp[World.setCell]at this⊢;omega,λk x _=>by
  rw[bO _ _ _ _ (by show k≠w.heap.size;omega),h.block k (by simp;omega) (by simp),bQ _ _ _ x]⟩
theorem pL(b:Nat)(d:Nat)(w:World)(h:w.cell? ⟨b,0,none⟩=some (.int .i64 (d:Int))):(do let v<-loadVar 188 ⟨b,0,none⟩;pure (289,v):Sem (FuncId×Value)).run prog w= .ok (289, .agg #[.int .i64 (d:Int)]) w:=by simp[go_sem,h]
theorem OV{t:TypeId}(e:Aq t)(b d:Nat)(w:World)(h:w.cell? ⟨b,0,none⟩=some (.int .i64 (d:Int))):(Go.method 567 t (.pointer (some ⟨b,0,none⟩)) "Depth").run prog w= .ok (289, .agg #[.int .i64 (d:Int)]) w:=by
 rcases e with rfl|rfl|rfl|rfl|rfl|rfl|rfl|rfl
 ·rw[fw];exact pL b d w h
 ·rw[VN];exact pL b d w h
 ·rw[ur];exact pL b d w h
 ·rw[Ar];exact pL b d w h
 ·rw[uv];exact pL b d w h
 ·rw[VO];exact pL b d w h
 ·rw[YJ];exact pL b d w h
 ·rw[fx];exact pL b d w h
theorem VP(d:Nat)(w:World):Calls prog 289 #[.agg #[.int .i64 (d:Int)]] w λe h=>e= .returned (.int .i64 (d:Int))/\h=w.alloc (.cells #[.int .i64 (d:Int)] 188):=by go_enter func289,ntmps289;go_wp2;go_ret;exact⟨rfl,rfl⟩
theorem yE(w:World)(r:Option Addr)(F:Nat)(x:aH)(h:aC)(R:h.length=x.length)(V:x.length<=1000)(p:∀(i:Nat) (u:Value),x[i]? =some u->∃g,r=some ⟨g,0,none⟩/\g<w.heap.size/\w.cell? ⟨g,i,none⟩=some u)(n:∀(i:Nat) (u:Value) (d:Nat),x[i]? =some u->h[i]? =some d->Jj w u d)(N:j4 h<=1000):
  Calls prog 178 #[.slice r x.length F] w λe C=>e= .returned (.agg #[.int .i64 ((j4 h+1:Nat):Int)])/\w.grownBy C none:=by
 go_enter func178,ntmps178;go_wp2_with fail
 go_loopg [3,8] (x.length+1) (λq m i f=>∃j:Nat,j<=x.length/\i= .int .i64 j/\q=x.length-j+1/\m= .int .i64 ((j4 (h.take j):Nat):Int)/\(w.alloc (.cells #[.int .i64 0] 188)).grownBy f none)
 case atStart=>exact⟨0,by omega,rfl,by omega,rfl,bC _ _⟩
 case round=>
  obtain⟨j,P,rfl,W,rfl,c⟩:=hrel;by_cases T:j<x.length
  ·obtain⟨u,A⟩:∃u,x[j]? =some u:=⟨x[j],aP _⟩;obtain⟨d,s⟩:∃d,h[j]? =some d:=⟨h[j]'(by omega),aP _⟩;have o:=(aO w (.cells #[.int .i64 0] 188) none).trans c;obtain⟨g,rfl,I,H⟩:=p j u A;rw[<-bT (a:=⟨g,j,none⟩) (o.block g I (by simp))]at H;obtain⟨t,b,K,rfl,O,G⟩:=(n j u d A s).grown o
   have z:j4 (h.take (j+1))=max (j4 (h.take j)) d:=by rw[iI,s];exact JI _ _
   have X:=uh h (j+1);have y:((max (j4 (h.take j)) d:Nat):Int)=max ((j4 (h.take j):Nat):Int) (d:Int):=by omega
   have Q:(j:Int)<(x.length:Int):=by omega
   have k:=aS c;have D:=aS z;have L:=aS y;clear c o p n z y;have U:=OV K b d _ G;go_wp2_with (go_at_call 289;refine(VP d _).mono ?_;rintro e C ⟨rfl,rfl⟩)
   all_goals
    go_roundg (x.length-(j+1)+1)
    case measure=>omega
    case rel=>exact⟨j+1,by omega,by go_num,rfl,by rw[D.out];congr 1;omega,k.trans (aO _ _ _)⟩
  ·have J:j=x.length:=by omega
   subst J;rw[iV (by omega)]at*;have k:=aS c;have S:((j4 h:Nat):Int)<=1000:=by omega
   rename World=>f
   have l:f.heap[w.heap.size]? =some (.cells #[.int .i64 0] 188 (0,0)):=by rw[c.block w.heap.size (by simp) (by simp)];exact bY _ _
   have Y:=aT l;have E:f.cell? ⟨w.heap.size,0,none⟩=some (.int .i64 0):=by simp[World.cell?,l]
   have M:f.frozen? ⟨w.heap.size,0,none⟩=false:=by simp[World.frozen?,l]
   clear c p n;go_wp2;refine eN (v:= .agg #[.int .i64 ((j4 h+1:Nat):Int)]) (by simp[results,results178,go_sem,E]) rfl ?_;exact⟨rfl,uw k.out _⟩
theorem nt(w:World):Calls prog 178 #[.slice none 0 0] w λe x=>e= .returned (.agg #[.int .i64 1])/\w.grownBy x none:=
 yE w none 0 [] [] rfl (by simp) (λi u h=>by simp at h) (λi u d h=>by simp at h) (by simp[j4])
def zJ(w x:World)(c:Nat)(s:ByteArray)(T:List fI)(H:aB)(d:Nat)(h:St)(e:Ending)(b:Ex):Prop:=
 gX c w x/\((∃v a m,e= .returned v/\sX dL x c s T h/\Fz a x/\zW w.heap.size H a/\dI m a v b/\cA m b+d<=h.k)\/(0<=h.bad/\FY x e h.bad))
def VQ(T:List fI)(n:Nat):Prop:=∀(w:World) (h:Nat) (s:ByteArray) (H:aB) (x:St) (a:Ex) (b:St),fC T n x=some (a,b)->sX dL w h s T x->Fz H w->H h=none->
 Calls prog 96 #[A5 h] w λe c=>zJ w c h s T H x.k b e a
theorem iA{x:aA}(h:0<=st.bad):cL T st x=st:=by unfold cL;rw[aN (by simp[fW];intro e;omega),aN (by omega)]
theorem jR{T:List fI}{n:Nat}{w:St}{x:Ex}{a:St}(h:0<=w.bad)(e:fC T n w=some (x,a)):a=w:=by
 cases n with
 |zero=>simp[fC]at e
 |succ n=>rw[fC,aR h]at e;cases e;rfl
theorem Px{x:aA}:st.k<=(cL T st x).k:=by
 unfold cL;split
 ·show st.k<=st.k+1;omega
 ·exact aV _
theorem lX{x:aA}(h:(cL T st x).bad<0):(cL T st x).k=st.k+1:=by
 unfold cL at h⊢;split
 ·rfl
 ·rename_i e;rw[aN e]at h;simp only at h;split at h
  ·omega
  ·omega
theorem uG{w:World}{H:aB}(a:Fz H w)(e:Ex)(x:aH)(n:Nat)(o:Obj)(d:x.length=e.kids.length)(f:∀(i:Nat) (y:Ex) (u:Value),x[i]? =some u->e.kids[i]? =some y->dI n H u y)
  (g:∀h,zW w.heap.size H h->h w.heap.size=some o->OS h e x (cA (n+1) e) w.heap.size):
  ∃h,Fz h (w.alloc o)/\zW w.heap.size H h/\dI (n+1) h (.iface (pT e.op) (.pointer (some ⟨w.heap.size,0,none⟩))) e:=by
 have j:H w.heap.size=none:=a.none (aV _);have ext:zW w.heap.size H (Fz.more H w.heap.size o):=(zW.refl _ _).add (aV _) j;refine⟨Fz.more H w.heap.size o,(a.alloc _).add (bY _ _),ext,w.heap.size,x,rfl,g _ ext (Fz.more_same _ _ _),d,λi y u b c=>dI.ext ext _ _ _ (f i y u b c)⟩
theorem Fz.grown{H:aB}{w x:World}(h:Fz H w)(a:w.grownBy x Option.none):Fz H x:=λk o e=>by rw[a.block k (h.lt e) (by simp)];exact h k o e
theorem zW.from{n m:Nat}{H:aB}(h:zW m H H')(w:n<=m):zW n H H':=⟨h.1,λk e=>h.2 k (by omega)⟩
theorem mL{m:Nat}{H:aB}{v:Value}{x:Ex}(h:dI m H v x):0<cA m x:=by
 cases m with
 |zero=>exact absurd h id
 |succ m=>show 0<j4 _+1;omega
theorem Tz(T:List fI)(n:Nat)(hl:T.length<=400)(Y:VQ T n)(w:World)(x:Nat)(s:ByteArray)(H:aB)(a:St)(y:Ex)(N:St)(p:Nat)
  (hs:fC T n (cL T (cL T a bK) cV)=some (y,N)) (h:sX dL w x s T a) (hz:Fz H w) (Z:H x=none):
  Calls prog 133 #[A5 x] w λe w'=>zJ w w' x s T H a.k N e ⟨dO,[(tk T a.k).s],[y],p⟩:=by
 have h6:=h.lt;have HP:=aS (h.alloc (.cells #[.pointer (some ⟨x,0,none⟩)] 182));have HZ:=aS hz;have HE:=aS Y;have I:=aS hs;have Q:=aS ((gX.refl x w).alloc (.cells #[.pointer (some ⟨x,0,none⟩)] 182));clear h hz Y hs;unfold A5;go_enter func133,ntmps133;go_wp2_with fail;refine(Aj _ x s T a HP.out).mono ?_;rintro e O ⟨o,(⟨rfl,p1⟩|⟨c,b,rfl,l⟩)⟩
 ·have V:O.cell? ⟨w.heap.size,0,none⟩=some (.pointer (some ⟨x,0,none⟩)):=by rw[eB o (by simp) (by omega)];simp[go_sem]
  have h0:w.heap.size<O.heap.size:=by have:=o.size;simp at this;omega
  have S:=aS p1;have R:=aS (Q.trans o);clear p1 o;go_wp2_with fail;refine(rE dL gZ _ x s T (cL T a bK) cV S.out (aM (by decide))).mono ?_;rintro e P ⟨q,(⟨rfl,p2⟩|⟨c,b,rfl,l⟩)⟩
  ·have b2:P.cell? ⟨w.heap.size,0,none⟩=some (.pointer (some ⟨x,0,none⟩)):=by rw[eB q h0 (by omega)];exact V
   have e0:O.heap.size<=P.heap.size:=q.size;have U:=aS p2;have J:=aS (R.trans q);clear p2 q V;go_wp2_with fail;refine(HE.out _ x s H _ y N I.out U.out (HZ.kept J.out Z) Z).mono ?_;rintro e F ⟨C,(⟨v,H3,m,rfl,M,G,j,D,d3⟩|⟨c,b,rfl,l⟩)⟩
   ·obtain⟨E,t,h9,rfl,h3,h4⟩:=D.dat G;have P3:=aS M;have K3:=aS (J.trans C);have Z3:=aS G;have E3:=aS j;have R3:=aS D;have D3:=aS d3;have h5:=M.klt;have W:=D.dat (w:=F.alloc (.cells #[.iface E (.pointer (some ⟨t,0,none⟩))] 130)) (G.alloc _);have DA:=aS W;have e2:P.heap.size<=F.heap.size:=C.size;have h7:=lX S.neg;have h8:=lX U.neg;clear M C G j D W b2;go_wp2_with fail;refine(yE _ (some ⟨F.heap.size,0,none⟩) 1 [.iface E (.pointer (some ⟨t,0,none⟩))] [cA m y] rfl (by simp) ?_ ?_ ?_).mono ?_
    ·intro i u f
     cases i with
     |zero=>simp at f;subst f;exact⟨_,rfl,by simp,by simp[go_sem]⟩
     |succ i=>simp at f
    ·intro i u d f L
     cases i with
     |zero=>simp at f L;subst f L;exact DA.out
     |succ i=>simp at f
    ·simp[j4];omega
    rintro e w4 ⟨rfl,X⟩;have r:=aS X;clear X;go_wp2;go_ret
    obtain⟨H5,z5,x5,r5⟩:=uG (w:=w4) (H:=H3) ((Z3.alloc _).grown r.out) ⟨dO,[(tk T a.k).s],[y],p⟩ [.iface E (.pointer (some ⟨t,0,none⟩))] m (.cells #[.int .i64 ((cA (m+1) ⟨dO,[(tk T a.k).s],[y],p⟩:Nat):Int), .string (B (tk T a.k).s), .iface E (.pointer (some ⟨t,0,none⟩))] 196) rfl
     (λi z u K A=>by
      cases i with
      |zero=>simp at K A;subst K A;exact R3.out
      |succ i=>simp at K)
     (λH' _ A=>aM (aM (aQ ⟨rfl,_,_,rfl,rfl,rfl,A⟩)))
    have e1:F.heap.size<=w4.heap.size:=by have:=r.size;simp at this;omega
    refine⟨((K3.alloc _).trans (gX.of0 x r.out)).alloc _,aQ ⟨_,H5,m+1,rfl,((P3.alloc _).grown r.out).alloc _,z5,(E3.from (by omega)).trans x5 (by omega),r5, ?_⟩⟩;have L:cA (m+1) ⟨dO,[(tk T a.k).s],[y],p⟩=cA m y+1:=by simp[cA,j4]
    have:=D3.out;omega
   ·unfold eA;go_wp2;exact⟨rfl,J.trans C,aM ⟨c,b,rfl,l⟩⟩
  ·have g:=jR c I.out;unfold eA;go_wp2;exact⟨rfl,R.trans q,aM ⟨by rw[g];exact c,b,rfl,by rw[g];exact l⟩⟩
 ·have j:cL T (cL T a bK) cV=cL T a bK:=iA c;have g:=jR (by rw[j];exact c) I.out;rw[j]at g;unfold eA;go_wp2;exact⟨rfl,Q.trans o,aM ⟨by rw[g];exact c,b,rfl,by rw[g];exact l⟩⟩
theorem Xk{w:World}{t:TypeId}{a b c:Value}:∀(i:Nat) (u:Value),[a,b,c][i]? =some u->∃g,some (⟨w.heap.size,0,none⟩:Addr)=some ⟨g,0,none⟩/\g<(w.alloc (.cells #[a,b,c] t)).heap.size/\(w.alloc (.cells #[a,b,c] t)).cell? ⟨g,i,none⟩=some u:=by
 intro i u h
 match i,h with
 |0,h=>simp at h;subst h;exact⟨_,rfl,by simp,by simp[go_sem]⟩
 |1,h=>simp at h;subst h;exact⟨_,rfl,by simp,by simp[go_sem]⟩
 |2,h=>simp at h;subst h;exact⟨_,rfl,by simp,by simp[go_sem]⟩
 |i+3,h=>simp at h
theorem row2{w:World}{t:TypeId}{a b:Value}:∀(i:Nat) (u:Value),[a,b][i]? =some u->∃g,some (⟨w.heap.size,0,none⟩:Addr)=some ⟨g,0,none⟩/\g<(w.alloc (.cells #[a,b] t)).heap.size/\(w.alloc (.cells #[a,b] t)).cell? ⟨g,i,none⟩=some u:=by
 intro i u h
 match i,h with
 |0,h=>simp at h;subst h;exact⟨_,rfl,by simp,by simp[go_sem]⟩
 |1,h=>simp at h;subst h;exact⟨_,rfl,by simp,by simp[go_sem]⟩
 |i+2,h=>simp at h
theorem Xl{p:Value->Nat->Prop}{a b c:Value}{x y z:Nat}(w:p a x)(f:p b y)(g:p c z):∀(i:Nat) (u:Value) (d:Nat),[a,b,c][i]? =some u->[x,y,z][i]? =some d->p u d:=by
 intro i u d h e
 match i,h,e with
 |0,h,e=>simp at h e;subst h e;exact w
 |1,h,e=>simp at h e;subst h e;exact f
 |2,h,e=>simp at h e;subst h e;exact g
 |i+3,h,e=>simp at h
theorem Py{p:Value->Nat->Prop}{a b:Value}{x y:Nat}(w:p a x)(c:p b y):∀(i:Nat) (u:Value) (d:Nat),[a,b][i]? =some u->[x,y][i]? =some d->p u d:=by
 intro i u d h e
 match i,h,e with
 |0,h,e=>simp at h e;subst h e;exact w
 |1,h,e=>simp at h e;subst h e;exact c
 |i+2,h,e=>simp at h
theorem Ua{p:Value->Ex->Prop}{a b c:Value}{x y z:Ex}(w:p a x)(d:p b y)(f:p c z):∀(i:Nat) (q:Ex) (u:Value),[a,b,c][i]? =some u->[x,y,z][i]? =some q->p u q:=by
 intro i q u h e
 match i,h,e with
 |0,h,e=>simp at h e;subst h e;exact w
 |1,h,e=>simp at h e;subst h e;exact d
 |2,h,e=>simp at h e;subst h e;exact f
 |i+3,h,e=>simp at h
theorem As{p:Value->Ex->Prop}{a b:Value}{x y:Ex}(w:p a x)(c:p b y):∀(i:Nat) (q:Ex) (u:Value),[a,b][i]? =some u->[x,y][i]? =some q->p u q:=by
 intro i q u h e
 match i,h,e with
 |0,h,e=>simp at h e;subst h e;exact w
 |1,h,e=>simp at h e;subst h e;exact c
 |i+2,h,e=>simp at h
theorem Au(T:List fI)(n:Nat)(hl:T.length<=400)(hE:VQ T n)(w:World)(a:Nat)(s:ByteArray)(H:aB)(I:St)(x y z:Ex)(l g o:St)(p:Nat)
  (hx:fC T n I=some (x,l)) (X:fC T n (cL T l pJ)=some (y,g)) (W:fC T n (cL T g oN)=some (z,o)) (h:sX dL w a s T I) (hz:Fz H w) (hr:H a=none):
  Calls prog 134 #[A5 a] w λe w'=>zJ w w' a s T H I.k o e ⟨xA,[],[x,y,z],p⟩:=by
 have w0:=h.lt;have HP:=aS (h.alloc (.cells #[.pointer (some ⟨a,0,none⟩)] 182));have HZ:=aS (hz.alloc (.cells #[.pointer (some ⟨a,0,none⟩)] 182));have R:=aS hE;have HX:=aS hx;have HY:=aS X;have HW:=aS W;have K0:=aS ((gX.refl a w).alloc (.cells #[.pointer (some ⟨a,0,none⟩)] 182));have P:0<=(cL T g oN).bad->o=cL T g oN:=λc=>jR c W
 have h4:0<=(cL T l pJ).bad->o=cL T l pJ:=λc=>by have m:=jR c X;have e2:cL T g oN=g:=iA (by rw[m];exact c);rw[e2]at P;rw[P (by rw[m];exact c),m]
 have F1:=aS h4;have F2:=aS P;clear h hz hE hx X W h4 P;unfold A5;go_enter func134,ntmps134;go_wp2_with fail;refine(R.out _ a s H I x l HX.out HP.out HZ.out hr).mono ?_;rintro e w1 ⟨E,(⟨v1,H1,m1,rfl,p1,z1,m,Z,d1⟩|⟨c,b,rfl,j⟩)⟩
 case inr=>have i:cL T l pJ=l:=iA c;have f:=F1.out (by rw[i];exact c);rw[i]at f;unfold eA;go_wp2;exact⟨rfl,K0.trans E,aM ⟨by rw[f];exact c,b,rfl,by rw[f];exact j⟩⟩
 case inl=>
 obtain⟨J,A,w9,rfl,h7,e0⟩:=Z.dat z1
 have h0:w1.cell? ⟨w.heap.size,0,none⟩=some (.pointer (some ⟨a,0,none⟩)):=by rw[eB E (by simp) (by omega)];simp[go_sem]
 have e8:w.heap.size<w1.heap.size:=by have:=E.size;simp at this;omega
 have V:H1 a=none:=by rw[m.2 a (by simp;omega)];exact hr
 have P1:=aS p1;have K1:=aS (K0.trans E);have Z1:=aS z1;have E1:=aS (m.from (n:=w.heap.size) (by simp));have S:=aS Z;have D1:=aS d1;clear p1 E z1 m Z d1 h7 e0;go_wp2_with fail;refine(rE dL gZ _ a s T l pJ P1.out (aQ (by decide))).mono ?_;rintro e w2 ⟨r,(⟨rfl,p2⟩|⟨c,b,rfl,j⟩)⟩
 case inr=>have f:=F1.out c;unfold eA;go_wp2;exact⟨rfl,K1.trans r,aM ⟨by rw[f];exact c,b,rfl,by rw[f];exact j⟩⟩
 case inl=>
 have h1:w2.cell? ⟨w.heap.size,0,none⟩=some (.pointer (some ⟨a,0,none⟩)):=by rw[eB r e8 (by omega)];exact h0
 have x2:w1.heap.size<=w2.heap.size:=r.size;have P2:=aS p2;have K2:=aS (K1.trans r);have Z2:=aS (Z1.kept r V);clear p2 r h0;go_wp2_with fail;refine(R.out _ a s H1 _ y g HY.out P2.out Z2.out V).mono ?_;rintro e w3 ⟨F,(⟨v2,H3,m2,rfl,p3,z3,i,r3,d3⟩|⟨c,b,rfl,j⟩)⟩
 case inr=>have i:cL T g oN=g:=iA c;have f:=F2.out (by rw[i];exact c);rw[i]at f;unfold eA;go_wp2;exact⟨rfl,K2.trans F,aM ⟨by rw[f];exact c,b,rfl,by rw[f];exact j⟩⟩
 case inl=>
 obtain⟨K,C,x0,rfl,h8,e6⟩:=r3.dat z3
 have h3:w3.cell? ⟨w.heap.size,0,none⟩=some (.pointer (some ⟨a,0,none⟩)):=by rw[eB F (by omega) (by omega)];exact h1
 have x3:w2.heap.size<=w3.heap.size:=F.size;have h5:H3 a=none:=by rw[i.2 a (by omega)];exact V
 have P3:=aS p3;have K3:=aS (K2.trans F);have Z3:=aS z3;have E3:=aS (i.from (n:=w.heap.size) (by omega));have U:=aS r3;have D3:=aS d3;clear p3 F z3 i r3 d3 h8 e6 h1;go_wp2_with fail;refine(rE dL gZ _ a s T g oN P3.out (aQ (by decide))).mono ?_;rintro e w4 ⟨t,(⟨rfl,p4⟩|⟨c,b,rfl,j⟩)⟩
 case inr=>have f:=F2.out c;unfold eA;go_wp2;exact⟨rfl,K3.trans t,aM ⟨by rw[f];exact c,b,rfl,by rw[f];exact j⟩⟩
 case inl=>
 have h6:w4.cell? ⟨w.heap.size,0,none⟩=some (.pointer (some ⟨a,0,none⟩)):=by rw[eB t (by omega) (by omega)];exact h3
 have x4:w3.heap.size<=w4.heap.size:=t.size;have P4:=aS p4;have K4:=aS (K3.trans t);have Z4:=aS (Z3.kept t h5);clear p4 t h3;go_wp2_with fail;refine(R.out _ a s H3 _ z o HW.out P4.out Z4.out h5).mono ?_;rintro e w5 ⟨Q,(⟨v3,v,m3,rfl,Y,z5,O,G,d5⟩|⟨c,b,rfl,j⟩)⟩
 case inr=>unfold eA;go_wp2;exact⟨rfl,K4.trans Q,aM ⟨c,b,rfl,j⟩⟩
 case inl=>
 obtain⟨L,D,x1,rfl,h9,e7⟩:=G.dat z5;have x5:w4.heap.size<=w5.heap.size:=Q.size;have w7:=lX P2.neg;have w8:=lX P4.neg;have e9:=Y.klt;obtain⟨M,hM⟩:∃M,M=max m1 (max m2 m3):=⟨_,rfl⟩;have RA:Hid (dI M v (.iface J (.pointer (some ⟨A,0,none⟩))) x):=(dI.ext O _ _ _ (dI.ext E3.out _ _ _ S.out)).le (by omega);have RB:Hid (dI M v (.iface K (.pointer (some ⟨C,0,none⟩))) y):=(dI.ext O _ _ _ U.out).le (by omega);have RC:Hid (dI M v (.iface L (.pointer (some ⟨D,0,none⟩))) z):=G.le (by omega);have q1:cA M x=cA m1 x:=mE (dI.shape _ _ _ S.out) (by omega);have q2:cA M y=cA m2 y:=mE (dI.shape _ _ _ U.out) (by omega);have q3:cA M z=cA m3 z:=mE (dI.shape _ _ _ G) (by omega)
 have D5:=aS (show max (cA M x) (max (cA M y) (cA M z))+1+I.k<=o.k/\o.k<T.length by
  have:=D1.out;have:=D3.out;have:=mL S.out;have:=mL U.out;have:=mL G
  omega)
 have ZA:=aS (z5.alloc (.cells #[(.iface J (.pointer (some ⟨A,0,none⟩))),(.iface K (.pointer (some ⟨C,0,none⟩))),(.iface L (.pointer (some ⟨D,0,none⟩)))] 130));have P5:=aS Y;have K5:=aS (K4.trans Q);have E5:=aS (((E1.trans E3.out (aV _)).trans (O.from (n:=w.heap.size) (by omega)) (aV _)));clear Y Q z5 O G d5 h9 e7 h6 hM q1 q2 q3;go_wp2_with fail;refine(yE _ (some ⟨w5.heap.size,0,none⟩) 3 [(.iface J (.pointer (some ⟨A,0,none⟩))),(.iface K (.pointer (some ⟨C,0,none⟩))),(.iface L (.pointer (some ⟨D,0,none⟩)))] [cA M x,cA M y,cA M z] rfl (by simp) Xk (Xl (p:=λu d=>Jj _ u d) (RA.out.dat ZA.out) (RB.out.dat ZA.out) (RC.out.dat ZA.out)) (by have:=D5.out;simp[j4];omega)).mono ?_;rintro e w6 ⟨rfl,g6⟩;have N:=aS g6;clear g6;go_wp2;go_ret
 obtain⟨H7,z7,x7,r7⟩:=uG (w:=w6) (H:=v) (ZA.grown N.out) ⟨xA,[],[x,y,z],p⟩ [(.iface J (.pointer (some ⟨A,0,none⟩))),(.iface K (.pointer (some ⟨C,0,none⟩))),(.iface L (.pointer (some ⟨D,0,none⟩)))] M (.cells #[.int .i64 ((cA (M+1) ⟨xA,[],[x,y,z],p⟩:Nat):Int),(.iface J (.pointer (some ⟨A,0,none⟩))),(.iface K (.pointer (some ⟨C,0,none⟩))),(.iface L (.pointer (some ⟨D,0,none⟩)))] 199) rfl
  (Ua (p:=λu q=>dI M v u q) RA.out RB.out RC.out)
  (λH' _ h2=>aM (aM (aM (aQ ⟨rfl,_,_,_,rfl,rfl,h2⟩))))
 have x6:w5.heap.size<=w6.heap.size:=by have:=N.size;simp at this;omega
 refine⟨((K5.alloc _).trans (gX.of0 a N.out)).alloc _,aQ ⟨_,H7,M+1,rfl,((P5.alloc _).grown N.out).alloc _,z7,E5.trans x7 (by omega),r7, ?_⟩⟩;have hd:cA (M+1) ⟨xA,[],[x,y,z],p⟩=max (cA M x) (max (cA M y) (cA M z))+1:=by simp[cA,j4]
 have:=D5.out;omega
theorem Ub{w:World}{p q:Value}{t:TypeId}(h:w.heap[b]? =some (.cells #[p,q] t (0,0))):w.cell? ⟨b,0,none⟩=some p/\w.cell? ⟨b,1,none⟩=some q:=by simp[World.cell?,h]
def Xm(w x:World)(d:Nat)(s:ByteArray)(T:List fI)(H:aB)(f h:St)(e:Ending)(c:Ex):Prop:=
 gX d w x/\((∃t b a m,Aq t/\e= .returned (.agg #[.string (B (tk T f.k).s),(.iface t (.pointer (some ⟨b,0,none⟩)))])/\sX dL x d s T h/\Fz a x/\zW w.heap.size H a/\dI m a (.iface t (.pointer (some ⟨b,0,none⟩))) c/\cA m c+f.k+2<=h.k)\/(0<=h.bad/\FY x e h.bad))
theorem gX.setNew{w e:World}(h:gX rb w e)(c:w.heap.size<=b)(i:Nat)(v:Value):gX rb w (e.setCell ⟨b,i,none⟩ v):=
 ⟨h.os,h.tape,h.output,by have:=h.size;simp[World.setCell]at this⊢;omega,λk x a=>by rw[bO _ _ _ _ (by show k≠b;omega)];exact h.block k x a⟩
theorem sX.set{e:aD}{w:World}(h:sX e w rb s T st)(f:b≠rb)(i:Nat)(v:Value):sX e (w.setCell ⟨b,i,none⟩ v) rb s T st:=by obtain⟨x,⟨J,a,c⟩,d⟩:=h;exact⟨x,⟨J,a,by unfold XH;rw[bO _ _ _ _ (by show rb≠b;omega)];exact c⟩,d⟩
theorem fy(T:List fI)(n:Nat)(R:VQ T n)(w:World)(x:Nat)(s:ByteArray)(H:aB)(d:St)(y:Ex)(F:St)
  (U:fC T n (cL T (cL T d bK) DS)=some (y,F)) (h:sX dL w x s T d) (D:Fz H w) (C:H x=none):
  Calls prog 179 #[A5 x] w λe w'=>Xm w w' x s T H d F e y:=by
 have h5:=h.lt;have h3:H (w.heap.size+1)=none:=D.none (by omega);have HP:=aS ((h.alloc (.cells #[.pointer (some ⟨x,0,none⟩)] 182)).alloc (.cells #[.string (B []), .nilIface] 203));have HZ:=aS ((D.alloc (.cells #[.pointer (some ⟨x,0,none⟩)] 182)).alloc (.cells #[.string (B []), .nilIface] 203));have Z:=aS R;have z:=aS U;have J:=aS (((gX.refl x w).alloc (.cells #[.pointer (some ⟨x,0,none⟩)] 182)).alloc (.cells #[.string (B []), .nilIface] 203));clear h D R U;unfold A5;go_enter func179,ntmps179;go_wp2_with fail;refine(Aj _ x s T d HP.out).mono ?_;rintro e u ⟨i,(⟨rfl,V⟩|⟨c,b,rfl,l⟩)⟩
 case inr=>have a:cL T (cL T d bK) DS=cL T d bK:=iA c;have g:=jR (by rw[a];exact c) z.out;rw[a]at g;unfold eA;go_wp2;exact⟨rfl,J.trans i,aM ⟨by rw[g];exact c,b,rfl,by rw[g];exact l⟩⟩
 case inl=>
 have P:u.cell? ⟨w.heap.size,0,none⟩=some (.pointer (some ⟨x,0,none⟩)):=by rw[eB i (by simp;omega) (by omega)];exact dP (by simp[go_sem]) _
 have E:u.heap[w.heap.size+1]? =some (.cells #[.string (B []), .nilIface] 203 (0,0)):=by rw[i.block _ (by simp) (by simp;omega)];exact dC _ _ _ (by simp)
 have h8:w.heap.size+1<u.heap.size:=aT E;have M:=aS V;have K:=aS (J.trans i);have Z1:=aS (HZ.kept i C);clear V i;go_wp2_with fail;refine(rE dL gZ _ x s T (cL T d bK) DS M.out (aM (by decide))).mono ?_;rintro e G ⟨f,(⟨rfl,W⟩|⟨c,b,rfl,l⟩)⟩
 case inr=>have g:=jR c z.out;unfold eA;go_wp2;exact⟨rfl,K.trans f,aM ⟨by rw[g];exact c,b,rfl,by rw[g];exact l⟩⟩
 case inl=>
 have h0:G.cell? ⟨w.heap.size,0,none⟩=some (.pointer (some ⟨x,0,none⟩)):=by rw[eB f (by omega) (by omega)];exact P
 have X:G.heap[w.heap.size+1]? =some (.cells #[.string (B []), .nilIface] 203 (0,0)):=by rw[f.block _ (by omega) (by simp;omega)];exact E
 have h9:u.heap.size<=G.heap.size:=f.size;have N:=aS W;have L:=aS (K.trans f);have Z2:=aS (Z1.kept f C);clear W f P E;go_wp2_with fail;refine(Z.out _ x s H _ y F z.out N.out Z2.out C).mono ?_;rintro e q ⟨j,(⟨v1,I,m,rfl,t,r,a,o,A⟩|⟨c,b,rfl,l⟩)⟩
 case inr=>unfold eA;go_wp2;exact⟨rfl,L.trans j,aM ⟨c,b,rfl,l⟩⟩
 case inl=>
 obtain⟨Y,O,h4,rfl,h1,h2⟩:=o.dat r
 have p:q.heap[w.heap.size+1]? =some (.cells #[.string (B []), .nilIface] 203 (0,0)):=by rw[j.block _ (by omega) (by simp;omega)];exact X
 have c0:q.cell? ⟨w.heap.size+1,0,none⟩=some (.string (B [])):=by simp[World.cell?,p]
 have c1:q.cell? ⟨w.heap.size+1,1,none⟩=some .nilIface:=by simp[World.cell?,p]
 have f0:q.frozen? ⟨w.heap.size+1,0,none⟩=false:=by simp[World.frozen?,p]
 have f1:q.frozen? ⟨w.heap.size+1,1,none⟩=false:=by simp[World.frozen?,p]
 have S:I (w.heap.size+1)=none:=by rw[a.2 _ (by omega)];exact h3
 have h6:=lX M.neg;have h7:=lX N.neg;have Q:=aS (aL t (aL (L.trans j) (aL r (aL (a.from (n:=w.heap.size) (by omega)) (aL o A)))));clear t j r a o A h0 X p h1 h2;go_wp2;refine eN (v:= .agg #[.string (B (tk T d.k).s),(.iface Y (.pointer (some ⟨O,0,none⟩)))]) (by simp[results,results179,go_sem,c0,c1]) rfl ?_;obtain⟨t,j,r,a,o,A⟩:=Q.out;refine⟨(j.setNew (by omega) _ _).setNew (by omega) _ _,aQ ⟨Y,O,I,m,h4,rfl,(t.set (by omega) _ _).set (by omega) _ _,(r.set S _ _).set S _ _,a,o,by omega⟩⟩
theorem Uc(T:List fI)(n:Nat)(hl:T.length<=400)(hE:VQ T n)(w:World)(c:Nat)(s:ByteArray)(H:aB)(a:St)(x y:Ex)(l C:St)(p:Nat)
  (hx:fC T n (cL T (cL T a bK) DS)=some (x,l)) (R:fC T n (cL T l BE)=some (y,C)) (h:sX dL w c s T a) (hz:Fz H w) (hr:H c=none):
  Calls prog 136 #[A5 c] w λe V=>zJ w V c s T H a.k C e ⟨iP,[(tk T a.k).s],[x,y],p⟩:=by
 have e2:=h.lt;have HP:=aS (h.alloc (.cells #[.pointer (some ⟨c,0,none⟩)] 182));have HZ:=aS (hz.alloc (.cells #[.pointer (some ⟨c,0,none⟩)] 182));have Y:=aS hE;have HX:=aS hx;have HW:=aS R;have Z:=aS ((gX.refl c w).alloc (.cells #[.pointer (some ⟨c,0,none⟩)] 182));have F2:=aS (show 0<=(cL T l BE).bad->C=cL T l BE fromλi=>jR i R);clear h hz hE hx R;unfold A5;go_enter func136,ntmps136;go_wp2_with fail;refine(fy T n Y.out _ c s H a x l HX.out HP.out HZ.out hr).mono ?_;rintro e m ⟨E,(⟨g,f,X,m1,e6,rfl,p1,z1,P,r1,d1⟩|⟨i,b,rfl,D⟩)⟩
 case inr=>have v:cL T l BE=l:=iA i;have z:=F2.out (by rw[v];exact i);rw[v]at z;unfold eA;go_wp2;exact⟨rfl,Z.trans E,aM ⟨by rw[z];exact i,b,rfl,by rw[z];exact D⟩⟩
 case inl=>
 have h0:(m.alloc (.cells #[.string (B (tk T a.k).s),(.iface g (.pointer (some ⟨f,0,none⟩)))] 203)).cell? ⟨w.heap.size,0,none⟩=some (.pointer (some ⟨c,0,none⟩)):=by refine dP ?_ _;rw[eB E (by simp) (by omega)];simp[go_sem]
 have e8:w.heap.size<m.heap.size:=by have:=E.size;simp at this;omega
 have h1:X c=none:=by rw[P.2 c (by simp;omega)];exact hr
 have P1:=aS (p1.alloc (.cells #[.string (B (tk T a.k).s),(.iface g (.pointer (some ⟨f,0,none⟩)))] 203));have K1:=aS ((Z.trans E).alloc (.cells #[.string (B (tk T a.k).s),(.iface g (.pointer (some ⟨f,0,none⟩)))] 203));have Z1:=aS (z1.alloc (.cells #[.string (B (tk T a.k).s),(.iface g (.pointer (some ⟨f,0,none⟩)))] 203));have E1:=aS (P.from (n:=w.heap.size) (by simp));have O:=aS r1;have D1:=aS d1;clear p1 E z1 P r1 d1;go_wp2_with fail;refine(rE dL gZ _ c s T l BE P1.out (aQ (by decide))).mono ?_;rintro e L ⟨A,(⟨rfl,p2⟩|⟨i,b,rfl,D⟩)⟩
 case inr=>have z:=F2.out i;unfold eA;go_wp2;exact⟨rfl,K1.trans A,aM ⟨by rw[z];exact i,b,rfl,by rw[z];exact D⟩⟩
 case inl=>
 have h4:L.cell? ⟨w.heap.size,0,none⟩=some (.pointer (some ⟨c,0,none⟩)):=by rw[eB A (by simp;omega) (by omega)];exact h0
 have U:L.heap[m.heap.size]? =some (.cells #[.string (B (tk T a.k).s),(.iface g (.pointer (some ⟨f,0,none⟩)))] 203 (0,0)):=by rw[A.block _ (by simp) (by simp;omega)];exact bY _ _
 have e9:m.heap.size<L.heap.size:=aT U;have P2:=aS p2;have K2:=aS (K1.trans A);have Z2:=aS (Z1.kept A h1);clear p2 A h0;go_wp2_with fail;refine(Y.out _ c s X _ y C HW.out P2.out Z2.out h1).mono ?_;rintro e j ⟨F,(⟨v2,K,m2,rfl,S,N,v,G,d3⟩|⟨i,b,rfl,D⟩)⟩
 case inr=>unfold eA;go_wp2;exact⟨rfl,K2.trans F,aM ⟨i,b,rfl,D⟩⟩
 case inl=>
 obtain⟨r,o,e7,rfl,h5,h6⟩:=G.dat N
 have I:j.heap[m.heap.size]? =some (.cells #[.string (B (tk T a.k).s),(.iface g (.pointer (some ⟨f,0,none⟩)))] 203 (0,0)):=by rw[F.block _ (by omega) (by simp;omega)];exact U
 have w0:L.heap.size<=j.heap.size:=F.size;have e5:=lX P2.neg;have e0:=S.klt;obtain⟨M,hM⟩:∃M,M=max m1 m2:=⟨_,rfl⟩;have RA:Hid (dI M K (.iface g (.pointer (some ⟨f,0,none⟩))) x):=(dI.ext v _ _ _ O.out).le (by omega);have RB:Hid (dI M K (.iface r (.pointer (some ⟨o,0,none⟩))) y):=G.le (by omega);have q1:cA M x=cA m1 x:=mE (dI.shape _ _ _ O.out) (by omega);have q2:cA M y=cA m2 y:=mE (dI.shape _ _ _ G) (by omega)
 have W:=aS (show max (cA M x) (cA M y)+1+a.k<=C.k/\C.k<T.length by
  have:=D1.out;have:=mL O.out;have:=mL G
  omega)
 have ZA:=aS (N.alloc (.cells #[(.iface g (.pointer (some ⟨f,0,none⟩))),(.iface r (.pointer (some ⟨o,0,none⟩)))] 130));have Z3:=aS N;have P5:=aS S;have K5:=aS (K2.trans F);have E5:=aS ((E1.trans (v.from (n:=w.heap.size) (by omega)) (aV _)));have c0:j.cell? ⟨m.heap.size,0,none⟩=some (.string (B (tk T a.k).s)):=by simp[World.cell?,I]
 have c1:j.cell? ⟨m.heap.size,1,none⟩=some (.iface g (.pointer (some ⟨f,0,none⟩))):=by simp[World.cell?,I]
 have h7:=aT I;have a0:=λx=>dP c0 x;have a1:=λx=>dP c1 x;have h3:=aS I
 have AB:Hid (Calls prog 178 #[.slice (some ⟨j.heap.size,0,none⟩) 2 2] (j.alloc (.cells #[(.iface g (.pointer (some ⟨f,0,none⟩))),(.iface r (.pointer (some ⟨o,0,none⟩)))] 130)).drew λe V=>e= .returned (.agg #[.int .i64 ((j4 [cA M x,cA M y]+1:Nat):Int)])/\(j.alloc (.cells #[(.iface g (.pointer (some ⟨f,0,none⟩))),(.iface r (.pointer (some ⟨o,0,none⟩)))] 130)).drew.grownBy V none):=
  yE _ (some ⟨j.heap.size,0,none⟩) 2 [(.iface g (.pointer (some ⟨f,0,none⟩))),(.iface r (.pointer (some ⟨o,0,none⟩)))] [cA M x,cA M y] rfl (by simp) (row2 (w:=j) (t:=130)) (Py (p:=λu d=>Jj _ u d) (RA.out.dat ZA.drew) (RB.out.dat ZA.drew)) (by have:=W.out;simp[j4];omega)
 clear S F N v G d3 h5 h6 h4 U hM q1 q2 I;go_wp2_with fail
 go_region_with (go_at_call 178;refine AB.out.mono ?_;rintro e w6 ⟨rfl,Q⟩;have cc:=Ub ((Q.block m.heap.size (by simp;omega) (by simp)).trans ((bQ _ _ _ h7).trans h3.out));have J:=aS Q;clear Q;obtain⟨h8,h9⟩:=cc)
 all_goals
  go_wp2;go_ret
  obtain⟨H7,z7,x7,r7⟩:=uG (w:=w6) (H:=K) (ZA.drew.grown J.out) ⟨iP,[(tk T a.k).s],[x,y],p⟩ [(.iface g (.pointer (some ⟨f,0,none⟩))),(.iface r (.pointer (some ⟨o,0,none⟩)))] M (.cells #[.int .i64 ((cA (M+1) ⟨iP,[(tk T a.k).s],[x,y],p⟩:Nat):Int), .string (B (tk T a.k).s),(.iface g (.pointer (some ⟨f,0,none⟩))),(.iface r (.pointer (some ⟨o,0,none⟩)))] 205) rfl
   (As (p:=λu q=>dI M K u q) RA.out RB.out)
   (λH' _ h2=>aM (aM (aM (aM (aQ ⟨rfl,_,_,_,rfl,rfl,rfl,h2⟩)))))
  have w4:j.heap.size<=w6.heap.size:=by have:=J.size;simp at this;omega
  refine⟨((K5.alloc _).drew.trans (gX.of0 c J.out)).alloc _,aQ ⟨_,H7,M+1,rfl,((P5.alloc _).drew.grown J.out).alloc _,z7,E5.trans x7 (by omega),r7, ?_⟩⟩;have hd:cA (M+1) ⟨iP,[(tk T a.k).s],[x,y],p⟩=max (cA M x) (cA M y)+1:=by simp[cA,j4]
  have:=W.out;omega
theorem vJ{x:aA}(h:0<=st.bad):fW T st x=false:=by simp only[fW,Bool.and_eq_false_iff,FG];exact aQ (by omega)
theorem YK(T:List fI)(n:Nat)(hl:T.length<=400)(hE:VQ T n)(w:World)(a:Nat)(s:ByteArray)(H:aB)(J:St)(x:Ex)(g:St)(ex:Ex)(h3:St)(p:Nat)
  (hx:fC T n J=some (x,g)) (hy:(if fW T g iQ=true then match fC T n g.up with
    |none=>none
    |some (y,D)=>some (⟨eS,[],[x,y],p⟩,cL T D eO)
   else some (x,cL T g eO))=some (ex,h3)) (h:sX dL w a s T J) (hz:Fz H w) (hr:H a=none):
  Calls prog 222 #[A5 a] w λe w'=>zJ w w' a s T H J.k h3 e ex:=by
 have e7:=h.lt;have HP:=aS (h.alloc (.cells #[.pointer (some ⟨a,0,none⟩)] 182));have HZ:=aS (hz.alloc (.cells #[.pointer (some ⟨a,0,none⟩)] 182));have HE:=aS hE;have HX:=aS hx;have V:=aS hy;have K0:=aS ((gX.refl a w).alloc (.cells #[.pointer (some ⟨a,0,none⟩)] 182));clear h hz hE hx hy;unfold A5;go_enter func222,ntmps222;go_wp2_with fail;refine(HE.out _ a s H J x g HX.out HP.out HZ.out hr).mono ?_;rintro e w1 ⟨F,(⟨v1,U,m1,rfl,p1,z1,Y,r1,d1⟩|⟨f,b,rfl,o⟩)⟩
 case inr=>have c:=V.out;rw[aN (by rw[vJ f];decide),iA f]at c;cases c;unfold eA;go_wp2;exact⟨rfl,K0.trans F,aM ⟨f,b,rfl,o⟩⟩
 case inl=>
 obtain⟨r,l,e8,rfl,h6,h8⟩:=r1.dat z1
 have h0:w1.cell? ⟨w.heap.size,0,none⟩=some (.pointer (some ⟨a,0,none⟩)):=by rw[eB F (by simp) (by omega)];simp[go_sem]
 have e2:w.heap.size<w1.heap.size:=by have:=F.size;simp at this;omega
 have P:U a=none:=by rw[Y.2 a (by simp;omega)];exact hr
 have P1:=aS p1;have K1:=aS (K0.trans F);have Z1:=aS z1;have E1:=aS (Y.from (n:=w.heap.size) (by simp));have N:=aS r1;have D1:=aS d1;clear p1 F z1 Y r1 d1 h6 h8;go_wp2_with fail;refine(oT dL gZ _ a s T g iQ P1.out (aM (by decide))).mono ?_;rintro e w2 ⟨rfl,i,G⟩
 have h1:w2.cell? ⟨w.heap.size,0,none⟩=some (.pointer (some ⟨a,0,none⟩)):=by rw[eB G e2 (by omega)];exact h0
 have w0:w1.heap.size<=w2.heap.size:=G.size;have P2:=aS i;have L:=aS (K1.trans G);have Z2:=aS (Z1.kept G P);clear i G h0
 cases A:fW T g iQ with
 |false=>
  have i:=P2.out;rw[nO A]at i;have W:=aS i;have c:=V.out;rw[aN (by rw[A];decide)]at c;cases c;clear A i;go_wp2_with fail;refine(rE dL gZ _ a s T g eO W.out (aM (by decide))).mono ?_;rintro e S ⟨j,(⟨rfl,C⟩|⟨f,b,rfl,o⟩)⟩
  case inr=>unfold eA;go_wp2;exact⟨rfl,L.trans j,aM ⟨f,b,rfl,o⟩⟩
  case inl=>have Q:=aS (aL C j);have hn:=lX C.neg;clear C j;go_wp2;go_ret;refine⟨L.trans Q.2,aQ ⟨_,U,m1,rfl,Q.1,Z2.kept Q.2 P,E1.out,N.out, ?_⟩⟩;have:=D1.out;omega
 |true=>
  have i:=P2.out;rw[jN A]at i;have W:=aS i;have c:=V.out;rw[aR A]at c
  cases O:fC T n g.up with
  |none=>rw[O]at c;cases c
  |some q=>
  obtain⟨y,D⟩:=q;rw[O]at c;cases c;have h4:=aS O;clear A i O;go_wp2_with fail;refine(HE.out _ a s U _ y D h4.out W.out Z2.out P).mono ?_;rintro e S ⟨j,(⟨v2,E,m2,rfl,C,z3,Z,r3,d3⟩|⟨f,b,rfl,o⟩)⟩
  case inr=>unfold eA;go_wp2;exact⟨rfl,L.trans j,aM ⟨by rw[iA f];exact f,b,rfl,by rw[iA f];exact o⟩⟩
  case inl=>
  obtain⟨v,m,e9,rfl,h7,h9⟩:=r3.dat z3
  have h5:S.cell? ⟨w.heap.size,0,none⟩=some (.pointer (some ⟨a,0,none⟩)):=by rw[eB j (by omega) (by omega)];exact h1
  have w5:w2.heap.size<=S.heap.size:=j.size;have e0:E a=none:=by rw[Z.2 a (by omega)];exact P
  have P3:=aS C;have K3:=aS (L.trans j);have Z3:=aS z3;have E3:=aS (Z.from (n:=w.heap.size) (by omega));have X:=aS r3;have D3:=aS d3;clear C j z3 Z r3 d3 h7 h9 h1;go_wp2_with fail;refine(rE dL gZ _ a s T D eO P3.out (aM (by decide))).mono ?_;rintro e z ⟨I,(⟨rfl,R⟩|⟨f,b,rfl,o⟩)⟩
  case inr=>unfold eA;go_wp2;exact⟨rfl,K3.trans I,aM ⟨f,b,rfl,o⟩⟩
  case inl=>
  have w7:S.heap.size<=z.heap.size:=I.size;have hn:=lX R.neg;have e6:=R.klt;obtain⟨M,hM⟩:∃M,M=max m1 m2:=⟨_,rfl⟩;have RA:Hid (dI M E (.iface r (.pointer (some ⟨l,0,none⟩))) x):=(dI.ext E3.out _ _ _ N.out).le (by omega);have RB:Hid (dI M E (.iface v (.pointer (some ⟨m,0,none⟩))) y):=X.le (by omega);have q1:cA M x=cA m1 x:=mE (dI.shape _ _ _ N.out) (by omega);have q2:cA M y=cA m2 y:=mE (dI.shape _ _ _ X.out) (by omega)
  have D5:=aS (show max (cA M x) (cA M y)+1+J.k<=(cL T D eO).k/\(cL T D eO).k<T.length by
   have:=D1.out;have:=D3.out;have:=mL N.out;have:=mL X.out;have e5:g.up.k=g.k+1:=rfl
   omega)
  have ZA:=aS ((Z3.kept I e0).alloc (.cells #[(.iface r (.pointer (some ⟨l,0,none⟩))),(.iface v (.pointer (some ⟨m,0,none⟩)))] 130));have P5:=aS R;have K5:=aS (K3.trans I);have E5:=aS (E1.trans E3.out (aV _));clear R I h5 hM q1 q2
  have AB:Hid (Calls prog 178 #[.slice (some ⟨z.heap.size,0,none⟩) 2 2] (z.alloc (.cells #[(.iface r (.pointer (some ⟨l,0,none⟩))),(.iface v (.pointer (some ⟨m,0,none⟩)))] 130)) λe w'=>e= .returned (.agg #[.int .i64 ((j4 [cA M x,cA M y]+1:Nat):Int)])/\(z.alloc (.cells #[(.iface r (.pointer (some ⟨l,0,none⟩))),(.iface v (.pointer (some ⟨m,0,none⟩)))] 130)).grownBy w' none):=
   yE _ (some ⟨z.heap.size,0,none⟩) 2 [(.iface r (.pointer (some ⟨l,0,none⟩))),(.iface v (.pointer (some ⟨m,0,none⟩)))] [cA M x,cA M y] rfl (by simp) (row2 (w:=z) (t:=130)) (Py (p:=λu d=>Jj _ u d) (RA.out.dat ZA.out) (RB.out.dat ZA.out)) (by have:=D5.out;simp[j4];omega)
  go_wp2_with fail;refine AB.out.mono ?_;rintro e w6 ⟨rfl,g6⟩;have K:=aS g6;clear g6;go_wp2;go_ret
  obtain⟨H7,z7,x7,r7⟩:=uG (w:=w6) (H:=E) (ZA.grown K.out) ⟨eS,[],[x,y],p⟩ [(.iface r (.pointer (some ⟨l,0,none⟩))),(.iface v (.pointer (some ⟨m,0,none⟩)))] M (.cells #[.int .i64 ((cA (M+1) ⟨eS,[],[x,y],p⟩:Nat):Int),(.iface r (.pointer (some ⟨l,0,none⟩))),(.iface v (.pointer (some ⟨m,0,none⟩)))] 216) rfl
   (As (p:=λu q=>dI M E u q) RA.out RB.out)
   (λH' _ h2=>aM (aM (aM (aM (aM (aM (aM ⟨rfl,_,_,rfl,rfl,h2⟩)))))))
  have w8:z.heap.size<=w6.heap.size:=by have:=K.size;simp at this;omega
  refine⟨((K5.alloc _).trans (gX.of0 a K.out)).alloc _,aQ ⟨_,H7,M+1,rfl,((P5.alloc _).grown K.out).alloc _,z7,E5.trans x7 (by omega),r7, ?_⟩⟩;have hd:cA (M+1) ⟨eS,[],[x,y],p⟩=max (cA M x) (cA M y)+1:=by simp[cA,j4]
  have:=D5.out;omega
theorem XH.grown{w e:World}{J:Nat}(h:XH w rb s J)(x:w.grownBy e none):XH e rb s J:=by unfold XH;rw[x.block rb (aT h) (by simp)];exact h
theorem YL{w x:World}{H:aB}(k:gX rb w x)(q:sX dL x rb s T st.up)(z:Fz H x)(e h:aA)(p:Nat)(a:Obj)
  (f:(e=bK/\a= .cells #[.int .i64 1, .string (B h), .int .i64 (p:Int)] 190)\/(e=dS/\a= .cells #[.int .i64 1, .string (B h)] 193)):
  zJ w (x.alloc a) rb s T H st.k st.up (.returned (.iface (pT e) (.pointer (some ⟨x.heap.size,0,none⟩)))) ⟨e,[h],[],p⟩:=by
 obtain⟨c,l,j,g⟩:=uG z ⟨e,[h],[],p⟩ [] 0 a rfl (λi y u d=>by simp at d) (λm _ b=>by
  rcases f with⟨rfl,rfl⟩|⟨rfl,rfl⟩
  ·exact aQ ⟨rfl,h,rfl,rfl,rfl,b⟩
  ·exact aM (aQ ⟨rfl,h,rfl,rfl,rfl,b⟩))
 refine⟨k.alloc _,aQ ⟨_,c,1,rfl,q.alloc _,l,(j.from k.size),g, ?_⟩⟩;show cA 1 _+st.k<=st.k+1;simp[cA,j4];omega
theorem nP:ui fN:=by intro x h;simp only[fN,bH,cE,eK]at h;rcases h with rfl|rfl<;>exact⟨_,_,rfl,by decide,by decide,by decide,by decide,by decide,by decide⟩
def Zs(t:TypeId):Prop:=t=309\/t=346\/t=349\/t=361\/t=291
def gG(h:aD):Nat->(Nat->Option Obj)->Value->Ty->Prop
 |0,_,_,_=>False
 |n+1,H,v,t=>∃b,
  (t.kind=[]/\t.kids=[]/\(t.var<h.length/\(h.getD t.var []).length<=300)/\v= .iface 309 (.pointer (some ⟨b,0,none⟩))/\H b=some (.cells #[.string (B (h.getD t.var []))] 313 (0,0)))\/
  ((t.kind=nD\/t.kind=eU)/\t.kids=[]/\v= .iface 346 (.pointer (some ⟨b,0,none⟩))/\H b=some (.cells #[.string (B t.kind)] 348 (0,0)))\/
  (t.kind=nF/\∃a u,t.kids=[a]/\v= .iface 349 (.pointer (some ⟨b,0,none⟩))/\H b=some (.cells #[u] 351 (0,0))/\gG h n H u a)\/
  (t.kind=eS/\∃a c u z,t.kids=[a,c]/\v= .iface 361 (.pointer (some ⟨b,0,none⟩))/\H b=some (.cells #[u,z] 384 (0,0))/\gG h n H u a/\gG h n H z c)\/
  (t.kind=dO/\∃a c u z,t.kids=[a,c]/\v= .iface 291 (.pointer (some ⟨b,0,none⟩))/\H b=some (.cells #[u,z] 293 (0,0))/\gG h n H u a/\gG h n H z c)
theorem gG.ext{l:aD}{m:Nat}{H k:aB}(e:zW m H k):∀(n:Nat) (v:Value) (x:Ty),gG l n H v x->gG l n k v x
 |0,_,_,h=>h
 |n+1,v,x,h=>by
  obtain⟨b,h⟩:=h;refine⟨b, ?_⟩;rcases h with⟨w,d,f,g,i⟩|⟨w,d,f,g⟩|⟨w,a,u,d,f,g,i⟩|⟨w,a,c,u,z,d,f,g,i,j⟩|⟨w,a,c,u,z,d,f,g,i,j⟩
  ·exact aQ ⟨w,d,f,g,e.1 _ _ i⟩
  ·exact aM (aQ ⟨w,d,f,e.1 _ _ g⟩)
  ·exact aM (aM (aQ ⟨w,a,u,d,f,e.1 _ _ g,gG.ext e n u a i⟩))
  ·exact aM (aM (aM (aQ ⟨w,a,c,u,z,d,f,e.1 _ _ g,gG.ext e n u a i,gG.ext e n z c j⟩)))
  ·exact aM (aM (aM (aM ⟨w,a,c,u,z,d,f,e.1 _ _ g,gG.ext e n u a i,gG.ext e n z c j⟩)))
theorem gG.up{j:aD}{H:aB}:∀(n:Nat) (v:Value) (x:Ty),gG j n H v x->gG j (n+1) H v x
 |0,_,_,h=>absurd h id
 |n+1,v,x,h=>by
  obtain⟨b,h⟩:=h;refine⟨b, ?_⟩;rcases h with h|h|⟨e,a,u,w,d,f,g⟩|⟨e,a,c,u,z,w,d,f,g,i⟩|⟨e,a,c,u,z,w,d,f,g,i⟩
  ·exact aQ h
  ·exact aM (aQ h)
  ·exact aM (aM (aQ ⟨e,a,u,w,d,f,gG.up n u a g⟩))
  ·exact aM (aM (aM (aQ ⟨e,a,c,u,z,w,d,f,gG.up n u a g,gG.up n z c i⟩)))
  ·exact aM (aM (aM (aM ⟨e,a,c,u,z,w,d,f,gG.up n u a g,gG.up n z c i⟩)))
theorem gG.le{e:aD}{H:aB}{n m:Nat}{v:Value}{x:Ty}(h:gG e n H v x)(w:n<=m):gG e m H v x:=by
 induction m with
 |zero=>rw[kW.1 w]at h;exact h
 |succ m a=>
  rcases bZ n (m+1)with c|b
  ·exact gG.up m v x (a (by omega))
  ·rw[show m+1=n from by omega];exact h
theorem GV{e w:aD}(h:e<+:w){i:Nat}(x:i<e.length):w.getD i []=e.getD i []:=by obtain⟨r,rfl⟩:=h;simp[List.getD,bJ x]
theorem gG.wide{k l:aD}(w:k<+:l){H:aB}:∀(n:Nat) (v:Value) (x:Ty),gG k n H v x->gG l n H v x
 |0,_,_,h=>h
 |n+1,v,x,h=>by
  obtain⟨b,h⟩:=h;refine⟨b, ?_⟩;rcases h with⟨d,f,e,g,i⟩|h|⟨d,a,u,f,e,g,i⟩|⟨d,a,c,u,z,f,e,g,i,j⟩|⟨d,a,c,u,z,f,e,g,i,j⟩
  ·exact aQ ⟨d,f,⟨aZ e.1 w.length_le,by rw[GV w e.1];exact e.2⟩,g,by rw[GV w e.1];exact i⟩
  ·exact aM (aQ h)
  ·exact aM (aM (aQ ⟨d,a,u,f,e,g,gG.wide w n u a i⟩))
  ·exact aM (aM (aM (aQ ⟨d,a,c,u,z,f,e,g,gG.wide w n u a i,gG.wide w n z c j⟩)))
  ·exact aM (aM (aM (aM ⟨d,a,c,u,z,f,e,g,gG.wide w n u a i,gG.wide w n z c j⟩)))
theorem gG.val{l:aD}{H:aB}{n:Nat}{v:Value}{x:Ty}{w:World}(h:gG l n H v x)(f:Fz H w):∃t b,Zs t/\v= .iface t (.pointer (some ⟨b,0,none⟩))/\b<w.heap.size:=by
 cases n with
 |zero=>exact absurd h id
 |succ n=>
  obtain⟨b,h⟩:=h;rcases h with⟨g,i,d,e,j⟩|⟨g,i,d,e⟩|⟨g,a,u,i,d,e,j⟩|⟨g,a,c,u,z,i,d,e,j,k⟩|⟨g,a,c,u,z,i,d,e,j,k⟩
  ·exact⟨_,b,aQ rfl,e,f.lt j⟩
  ·exact⟨_,b,aM (aQ rfl),d,f.lt e⟩
  ·exact⟨_,b,aM (aM (aQ rfl)),d,f.lt e⟩
  ·exact⟨_,b,aM (aM (aM (aQ rfl))),d,f.lt e⟩
  ·exact⟨_,b,aM (aM (aM (aM rfl))),d,f.lt e⟩
theorem TI{w:World}{H:aB}(e:Fz H w)(C:Array Value)(t:TypeId):∃h,Fz h (w.alloc (.cells C t))/\zW w.heap.size H h/\h w.heap.size=some (.cells C t (0,0)):=by have x:H w.heap.size=none:=e.none (aV _);exact⟨_,(e.alloc _).add (bY _ _),(zW.refl _ _).add (aV _) x,Fz.more_same _ _ _⟩
theorem nw(e:aD)(n:aA):(pU e n).1<(pU e n).2.length/\(pU e n).2.getD (pU e n).1 []=n/\e<+:(pU e n).2:=by
 unfold pU;split
 ·rename_i h;have w:=iG h;refine⟨w, ?_,dD _⟩;simp[List.getD,aP w]
 ·exact⟨by simp,by simp[List.getD],iN _ _⟩
theorem Jk{A:List aA->St->Option (Ty×List aA×St)}(a:∀w s t x c,A w s=some (t,x,c)->w<+:x)(w:aD)(s:St)(t:Ty)(x:aD)(c:St)
  (h:lT A T w s=some (t,x,c)):w<+:x:=by
 unfold lT at h;split at h
 ·cases h;exact dD _
 ·split at h
  ·cases h;exact dD _
  ·split at h
   ·cases e:A w s.up with
    |none=>rw[e]at h;cases h
    |some q=>obtain⟨i,d,f⟩:=q;rw[e]at h;cases h;exact a _ _ _ _ _ e
   ·split at h
    ·cases e:A w s.up with
     |none=>rw[e]at h;cases h
     |some q=>
      obtain⟨i,d,f⟩:=q;rw[e]at h;simp only at h;split at h
      ·cases b:A d f.up with
       |none=>rw[b]at h;cases h
       |some g=>obtain⟨l,j,k⟩:=g;rw[b]at h;cases h;exact(a _ _ _ _ _ e).trans (a _ _ _ _ _ b)
      ·cases h;exact a _ _ _ _ _ e
    ·cases h;exact(nw _ _).2.2
theorem N6{T:List fI}:∀(n:Nat) (w:aD) (s:St) (t:Ty) (a:aD) (d:St),iK T n w s=some (t,a,d)->w<+:a
 |0,_,_,_,_,_,h=>by cases h
 |n+1,w,s,t,a,d,h=>by
  rw[iK]at h
  cases e:lT (iK T n) T w s with
  |none=>rw[e]at h;cases h
  |some q=>
   obtain⟨i,b,f⟩:=q;rw[e]at h;simp only at h;have c:=Jk (N6 n) w s i b f e;split at h
   ·cases x:iK T n b f.up with
    |none=>rw[x]at h;cases h
    |some g=>obtain⟨l,j,k⟩:=g;rw[x]at h;cases h;exact c.trans (N6 n _ _ _ _ _ x)
   ·cases h;exact c
def Jl(w h:World)(b:Nat)(s:ByteArray)(T:List fI)(H:aB)(c:aD)(a:St)(e:Ending)(t:Ty):Prop:=
 gX b w h/\((∃v x m,e= .returned v/\sX fN h b s T a/\Fz x h/\zW w.heap.size H x/\gG c m x v t)\/(0<=a.bad/\FY h e a.bad))
def Ud(T:List fI)(n:Nat):Prop:=∀(w:World) (h:Nat) (s:ByteArray) (H:aB) (c:aD) (a:St) (t:Ty) (x:aD) (b:St),iK T n c a=some (t,x,b)->sX fN w h s T a->Fz H w->H h=none->
 Calls prog 110 #[A5 h] w λe d=>Jl w d h s T H x b e t
def Zc(T:List fI)(n:Nat):Prop:=∀(w:World) (h:Nat) (s:ByteArray) (H:aB) (c:aD) (a:St) (t:Ty) (x:aD) (b:St),lT (iK T n) T c a=some (t,x,b)->sX fN w h s T a->Fz H w->H h=none->
 Calls prog 142 #[A5 h] w λe d=>Jl w d h s T H x b e t
structure Gb(R:Nat->Prop)(w w':World):Prop where
 os:w'.os=w.os
 tape:w'.tape=w.tape
 output:w'.output=w.output
 size:w.heap.size<=w'.heap.size
 block:∀k,k<w.heap.size->¬R k->w'.heap[k]? =w.heap[k]?
theorem Gb.refl(R:Nat->Prop)(w:World):Gb R w w:=⟨rfl,rfl,rfl,aV _,λ_ _ _=>rfl⟩
theorem Gb.trans{R R':Nat->Prop}{w b c:World}(h:Gb R w b)(k:Gb R' b c)(hR:∀i,R' i->R i\/w.heap.size<=i):Gb R w c:=
 ⟨k.os.trans h.os,k.tape.trans h.tape,k.output.trans h.output,bV h.size k.size,λi x a=>by
  rw[k.block i (aZ x h.size) (λe=>by rcases hR i e with e|e;exact a e;omega),h.block i x a]⟩
theorem Gb.tr{R:Nat->Prop}{w x a:World}(h:Gb R w x)(k:Gb R x a):Gb R w a:=h.trans k λ_ e=>aQ e
theorem Gb.mono{R R':Nat->Prop}{w x:World}(h:Gb R w x)(hR:∀i,R i->R' i):Gb R' w x:=⟨h.os,h.tape,h.output,h.size,λk a b=>h.block k a λe=>b (hR k e)⟩
theorem Gb.drew{R:Nat->Prop}{w e:World}(h:Gb R w e):Gb R w e.drew:=⟨h.os,h.tape,h.output,h.size,h.block⟩
theorem Gb.of{R:Nat->Prop}{w x:World}{r:Option Nat}(h:w.grownBy x r)(hR:∀b,r=some b->R b\/w.heap.size<=b):Gb R w x:=
 ⟨h.os,h.tape,h.output,h.size,λk a c=>h.block k a (λe=>by rcases hR k e.symm with e|e;exact c e;omega)⟩
theorem Gb.new{R:Nat->Prop}{w x:World}(h:w.grownBy x none):Gb R w x:=Gb.of h (λb e=>by cases e)
theorem Gb.alloc{R:Nat->Prop}{w e:World}(h:Gb R w e)(o:Obj):Gb R w (e.alloc o):=h.tr (Gb.new (aO _ _ _))
theorem Gb.set{R:Nat->Prop}{w x:World}(h:Gb R w x)(a:R b\/w.heap.size<=b)(i:Nat)(v:Value):Gb R w (x.setCell ⟨b,i,none⟩ v):=by refine h.trans (R':=λk=>k=b) ⟨rfl,rfl,rfl,by simp[World.setCell],λk d c=>bO _ _ _ _ c⟩ (λk e=>by rw[e];exact a)
theorem Gb.cell{R:Nat->Prop}{w e:World}(h:Gb R w e){i:Nat}{v:Value}(x:w.cell? ⟨b,i,none⟩=some v)(c:b<w.heap.size)(d:¬R b):e.cell? ⟨b,i,none⟩=some v:=by rw[bT (a:=⟨b,i,none⟩) (h.block b c d)];exact x
theorem Gb.at{R:Nat->Prop}{w x:World}(h:Gb R w x){o:Obj}(e:w.heap[b]? =some o)(a:¬R b):x.heap[b]? =some o:=by rw[h.block b (aT e) a];exact e
theorem Fz.gb{H:aB}{R:Nat->Prop}{w x:World}(h:Fz H w)(g:Gb R w x)(a:∀k o,H k=some o->¬R k):Fz H x:=λk o e=>g.at (h k o e) (a k o e)
structure Et where
 kind:aA
 name:aA
 num:Nat
 kids:List Et
@[reducible] def lQE:=List (aA×Et)
def cM:aA:=[99]
def cT(k:Nat):Et:=⟨cM,[],k,[]⟩
structure bM where
 rep:List Nat
 con:List (Option Et)
def bM.root(h:bM)(c:Nat):Nat:=h.rep.getD c c
def bM.is(h:bM)(c:Nat):Option Et:=h.con.getD (h.root c) none
def fH(h:bM)(t:Et):List Et:=if t.kind=cM then(match h.is t.num with|none=>[]|some nd=>nd.kids)else t.kids
def dW(h:bM)(t:Et):Et:=if t.kind=cM then(match h.is t.num with|none=>cT (h.root t.num)|some nd=>nd)else t
def fP(h:Nat)(H:aB)(e:aC):Nat->Value->Et->Prop
 |0,_,_=>False
 |n+1,v,t=>∃b,
  (t.kind=cM/\t.kids=[]/\e[t.num]? =some b/\v= .iface 265 (.pointer (some ⟨b,0,none⟩)))\/
  (t.kind=[]/\t.kids=[]/\t.name.length<=300/\h<=b/\v= .iface 309 (.pointer (some ⟨b,0,none⟩))/\H b=some (.cells #[.string (B t.name)] 313 (0,0)))\/
  ((t.kind=nD\/t.kind=eU)/\t.kids=[]/\v= .iface 346 (.pointer (some ⟨b,0,none⟩))/\H b=some (.cells #[.string (B t.kind)] 348 (0,0)))\/
  (t.kind=nF/\h<=b/\∃a u,t.kids=[a]/\v= .iface 349 (.pointer (some ⟨b,0,none⟩))/\H b=some (.cells #[u] 351 (0,0))/\fP h H e n u a)\/
  (t.kind=eS/\h<=b/\∃a c u z,t.kids=[a,c]/\v= .iface 361 (.pointer (some ⟨b,0,none⟩))/\H b=some (.cells #[u,z] 384 (0,0))/\fP h H e n u a/\fP h H e n z c)\/
  (t.kind=dO/\h<=b/\∃a c u z,t.kids=[a,c]/\v= .iface 291 (.pointer (some ⟨b,0,none⟩))/\H b=some (.cells #[u,z] 293 (0,0))/\fP h H e n u a/\fP h H e n z c)
theorem jD{w x:aC}(h:w<+:x){i:Nat}(e:w[i]? =some b):x[i]? =some b:=by obtain⟨r,rfl⟩:=h;rw[bJ (aU.1 e).1];exact e
theorem fP.ext{y A:Nat}{H q:aB}{r s:aC}(l:A<=y)(e:∀k o,H k=some o->q k=some o)(j:r<+:s):∀(n:Nat) (v:Value) (t:Et),fP y H r n v t->fP A q s n v t
 |0,_,_,h=>h
 |n+1,v,x,h=>by
  obtain⟨b,h⟩:=h;refine⟨b, ?_⟩;rcases h with⟨w,d,f,g⟩|⟨w,d,f,m,g,i⟩|⟨w,d,f,g⟩|⟨w,m,a,u,d,f,g,i⟩|⟨w,m,a,c,u,z,d,f,g,i,p⟩|⟨w,m,a,c,u,z,d,f,g,i,p⟩
  ·exact aQ ⟨w,d,jD j f,g⟩
  ·exact aM (aQ ⟨w,d,f,by omega,g,e _ _ i⟩)
  ·exact aM (aM (aQ ⟨w,d,f,e _ _ g⟩))
  ·exact aM (aM (aM (aQ ⟨w,by omega,a,u,d,f,e _ _ g,fP.ext l e j n u a i⟩)))
  ·exact aM (aM (aM (aM (aQ ⟨w,by omega,a,c,u,z,d,f,e _ _ g,fP.ext l e j n u a i,fP.ext l e j n z c p⟩))))
  ·exact aM (aM (aM (aM (aM ⟨w,by omega,a,c,u,z,d,f,e _ _ g,fP.ext l e j n u a i,fP.ext l e j n z c p⟩))))
theorem fP.up{l:Nat}{H:aB}{k:aC}:∀(n:Nat) (v:Value) (x:Et),fP l H k n v x->fP l H k (n+1) v x
 |0,_,_,h=>absurd h id
 |n+1,v,x,h=>by
  obtain⟨b,h⟩:=h;refine⟨b, ?_⟩;rcases h with h|h|h|⟨w,e,a,u,d,f,g,i⟩|⟨w,e,a,c,u,z,d,f,g,i,j⟩|⟨w,e,a,c,u,z,d,f,g,i,j⟩
  ·exact aQ h
  ·exact aM (aQ h)
  ·exact aM (aM (aQ h))
  ·exact aM (aM (aM (aQ ⟨w,e,a,u,d,f,g,fP.up n u a i⟩)))
  ·exact aM (aM (aM (aM (aQ ⟨w,e,a,c,u,z,d,f,g,fP.up n u a i,fP.up n z c j⟩))))
  ·exact aM (aM (aM (aM (aM ⟨w,e,a,c,u,z,d,f,g,fP.up n u a i,fP.up n z c j⟩))))
theorem fP.le{w:Nat}{H:aB}{e:aC}{n m:Nat}{v:Value}{x:Et}(h:fP w H e n v x)(a:n<=m):fP w H e m v x:=by
 induction m with
 |zero=>rw[kW.1 a]at h;exact h
 |succ m b=>
  rcases bZ n (m+1)with d|c
  ·exact fP.up m v x (b (by omega))
  ·rw[show m+1=n from by omega];exact h
def dz(t:TypeId):Prop:=t=265\/t=309\/t=346\/t=349\/t=361\/t=291
theorem fP.val{l:Nat}{H:aB}{j:aC}{n:Nat}{v:Value}{x:Et}(h:fP l H j n v x):∃t b,dz t/\v= .iface t (.pointer (some ⟨b,0,none⟩)):=by
 cases n with
 |zero=>exact absurd h id
 |succ n=>
  obtain⟨b,h⟩:=h;rcases h with⟨d,f,e,w⟩|⟨d,f,e,g,w,i⟩|⟨d,f,e,w⟩|⟨d,g,a,u,f,e,w,i⟩|⟨d,g,a,c,u,z,f,e,w,i,k⟩|⟨d,g,a,c,u,z,f,e,w,i,k⟩
  ·exact⟨_,b,aQ rfl,w⟩
  ·exact⟨_,b,aM (aQ rfl),w⟩
  ·exact⟨_,b,aM (aM (aQ rfl)),e⟩
  ·exact⟨_,b,aM (aM (aM (aQ rfl))),e⟩
  ·exact⟨_,b,aM (aM (aM (aM (aQ rfl)))),e⟩
  ·exact⟨_,b,aM (aM (aM (aM (aM rfl)))),e⟩
def zK(H:aB)(e:aC)(o:Option Et)(v:Value):Prop:=
 (o=none/\v= .nilIface)\/∃h,o=some h/\h.kind≠[]/\h.kind≠cM/\(∀k,k∈h.kids->k.kind=cM)/\fP 0 H e 2 v h
def CV(H:aB)(e:aC)(h:bM)(d:aI)(i:Nat)(v:Value):Prop:=
 (h.rep[i]? =some i/\zK H e (h.con.getD i none) v)\/
 ∃j c b,h.rep[i]? =some c/\c≠i/\h.rep[j]? =some c/\e[j]? =some b/\v= .iface 265 (.pointer (some ⟨b,0,none⟩))/\(j=c\/d j<d i)
def sH(i:Nat)(v:Value):Obj:= .cells #[.int .i64 ((i:Int)+1),v] 354 (0,0)
structure fY(H:aB)(ca:aC)(σ:bM)(d:aI)(w:World):Prop where
 fz:Fz H w
 len:ca.length=σ.rep.length
 lenc:σ.con.length=σ.rep.length
 nd:ca.Nodup
 off:∀a,a∈ca->H a=none
 few:σ.rep.length<=9223372036854775806
 rr:∀(i c:Nat),σ.rep[i]? =some c->σ.rep[c]? =some c
 blk:∀(i a:Nat),ca[i]? =some a->∃v,w.heap[a]? =some (sH i v)/\CV H ca σ d i v
theorem fY.root_get{H:aB}{c:aC}{x:bM}{d:aI}{w:World}(h:fY H c x d w){i a:Nat}(e:c[i]? =some a):∃b,x.rep[i]? =some (x.root i)/\c[x.root i]? =some b:=by
 have g:i<x.rep.length:=by rw[<-h.len];exact(aU.1 e).1
 have f:x.rep[i]? =some (x.root i):=by unfold bM.root;rw[aP g];simp[List.getD,aP g]
 have j:=h.rr i _ f;have k:x.root i<c.length:=by rw[h.len];exact(aU.1 j).1
 exact⟨c[x.root i],f,aP k⟩
theorem fY.gb{H:aB}{x:aC}{c:bM}{d:aI}{R:Nat->Prop}{w b:World}(h:fY H x c d w)(g:Gb R w b)(l:∀a,a∈x->¬R a)(m:∀k o,H k=some o->¬R k):fY H x c d b:=
 ⟨h.fz.gb g m,h.len,h.lenc,h.nd,h.off,h.few,h.rr,λi a e=>by
  obtain⟨v,f,j⟩:=h.blk i a e
  exact⟨v,g.at f (l a (cK e)),j⟩⟩
theorem fY.short{H:aB}{f:aC}{k:bM}{d:aI}{w:World}(h:fY H f k d w){i c a:Nat}(g:f[i]? =some a)(l:k.rep[i]? =some c)(s:c≠i)(q:f[c]? =some b):
  fY H f k d (w.setCell ⟨a,1,none⟩ (.iface 265 (.pointer (some ⟨b,0,none⟩)))):=by
 refine⟨h.fz.set (h.off a (cK g)) 1 _,h.len,h.lenc,h.nd,h.off,h.few,h.rr,λj x e=> ?_⟩;obtain⟨v,m,r⟩:=h.blk j x e;by_cases n:j=i
 ·subst n;rw[e]at g;cases g;refine⟨_, ?_,aM ⟨c,c,b,l,s,h.rr _ _ l,q,rfl,aQ rfl⟩⟩;simp[World.setCell,dN,m,sH]
 ·refine⟨v, ?_,r⟩;rw[bO _ _ _ _ (λo=>n ?_)]
  ·exact m
  ·have p:x=a:=o;subst p;exact(iJ (aU.1 e).1 h.nd).1 (e.trans g.symm)
theorem Pz(w:World):∀(d:Nat),d<10->Calls prog 188 #[.int .i64 (d:Int)] w λe x=>e= .returned (.string (B [UInt8.ofNat (48+d)]))/\x=w
 |0,_=>by go_enter func188,ntmps188;go_wp2;go_ret;exact⟨rfl,rfl⟩
 |1,_=>by go_enter func188,ntmps188;go_wp2;go_ret;exact⟨rfl,rfl⟩
 |2,_=>by go_enter func188,ntmps188;go_wp2;go_ret;exact⟨rfl,rfl⟩
 |3,_=>by go_enter func188,ntmps188;go_wp2;go_ret;exact⟨rfl,rfl⟩
 |4,_=>by go_enter func188,ntmps188;go_wp2;go_ret;exact⟨rfl,rfl⟩
 |5,_=>by go_enter func188,ntmps188;go_wp2;go_ret;exact⟨rfl,rfl⟩
 |6,_=>by go_enter func188,ntmps188;go_wp2;go_ret;exact⟨rfl,rfl⟩
 |7,_=>by go_enter func188,ntmps188;go_wp2;go_ret;exact⟨rfl,rfl⟩
 |8,_=>by go_enter func188,ntmps188;go_wp2;go_ret;exact⟨rfl,rfl⟩
 |9,_=>by go_enter func188,ntmps188;go_wp2;go_ret;exact⟨rfl,rfl⟩
 |n+10,h=>by omega
theorem gc(r:Nat)(h:r<128):Utf8.encode (r:Int)=B [UInt8.ofNat r]:=by
 have e:Utf8.valid (r:Int)=true:=by unfold Utf8.valid;simp;omega
 unfold Utf8.encode;simp only[e,if_true,Int.toNat_natCast];rw[aR h];rfl
theorem Oe(w:World)(n:Nat)(l:n<260):
  Calls prog 147 #[.int .i64 (n:Int)] w λe j=>e= .returned (.string (B (fQ n)))/\j=w:=by
 have f:n%26<26:=JE _ (by omega);have d:=gc (97+n%26) (by omega);have x:((97+n%26:Nat):Int)=97+(n:Int)%26:=by omega
 rw[x]at d;obtain⟨b,h⟩:∃b,b=UInt8.ofNat (97+n%26):=⟨_,rfl⟩;rw[<-h]at d;have k:(n:Int).tmod 26=(n:Int)%26:=Int.tmod_eq_emod_of_nonneg (by omega);have m:(n:Int).tdiv 26=((n/26:Nat):Int):=by rw[Int.tdiv_eq_ediv_of_nonneg (by omega)];omega
 have o:0<=(n:Int)%26:=by omega
 have p:(n:Int)%26<26:=by omega
 by_cases c:25<n
 ·have e:fQ n=[b]++[UInt8.ofNat (48+n/26)]:=by unfold fQ;rw[aR c,h]
  rw[e];have i:¬(n:Int)<26:=by omega
  have g:=aS (Pz w (n/26) (by omega));generalize UInt8.ofNat (48+n/26)=a at*;clear h x e f;have q:(B [b]).size=1:=rfl;have r:(B [a]).size=1:=rfl;go_enter func147,ntmps147;go_wp2_with (go_at_call 188;refine g.mono ?_;rintro e s ⟨rfl,rfl⟩);go_ret;refine⟨?_,rfl⟩;show Ending.returned (.string (B [b]++B [a]))=_;rw[dQ];rfl
 ·have e:fQ n=[b]:=by unfold fQ;rw[aN c,h];rfl
  rw[e];have i:(n:Int)<26:=by omega
  clear h x e f;go_enter func147,ntmps147;go_wp2;go_ret;exact⟨rfl,rfl⟩
end Go.Proofs.YtcdijppegfcoaaaGreatDoor
