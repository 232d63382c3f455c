import Derived.Test.YtcdijppegfcoaaaGreatDoorZH10
import Derived.Lib.ItoaNum
import Derived.Laws.EntriesVeiled
set_option maxRecDepth 100000
set_option maxHeartbeats 2000000
set_option linter.defProp false
set_option linter.unusedSimpArgs false
namespace Go.Proofs.YtcdijppegfcoaaaGreatDoor
open Go.RowKit Tryz
def mv:=@Lib.decDigits_two
variable{i:Nat}{v:Value}{H:Nat->Option Obj}{ca:List Nat}{d:Nat->Nat}
def bM.new(h:bM)(o:Option Et):bM:=⟨h.rep++[h.rep.length],h.con++[o]⟩
def bM.link(h:bM)(e w:Nat):bM:=⟨h.rep.map λr=>if r=e then w else r,h.con⟩
def bM.put(σ:bM)(c:Nat)(o:Option Et):bM:=⟨σ.rep,σ.con.set c o⟩
def hQ(J:Nat->Nat->bM->Option (Option bM)):List Et->List Et->bM->Option (Option bM)
 |a::e,b::bs,h=>match J a.num b.num h with
  |some (some w)=>hQ J e bs w
  |r=>r
 |[],[],h=>some (some h)
 |_,_,_=>none
def jE:Nat->Nat->Nat->bM->Option (Option bM)
 |0,_,_,_=>none
 |f+1,a,b,h=>
  if h.root a=h.root b then some (some h)
  else match h.is a with
   |none=>some (some (h.link (h.root a) (h.root b)))
   |some e=>match h.is b with
    |none=>some (some ((h.link (h.root a) (h.root b)).put (h.root b) (some e)))
    |some nd=>if e.kind=nd.kind then hQ (jE f) e.kids nd.kids (h.link (h.root a) (h.root b))else some none
def gQ(L:Nat->List (Nat×Nat)->Option (Option (List (Nat×Nat)))):List Et->List (Nat×Nat)->Option (Option (List (Nat×Nat)))
 |[],h=>some (some h)
 |c::cs,h=>match L c.num h with
  |some (some h)=>gQ L cs h
  |r=>r
def jZ(e:bM):Nat->Nat->List (Nat×Nat)->Option (Option (List (Nat×Nat)))
 |0,_,_=>none
 |f+1,c,h=>match dR h (e.root c)with
  |some 1=>some none
  |some 2=>some (some h)
  |some _=>none
  |none=>match gQ (jZ e f) (fH e (cT c)) (h++[(e.root c,1)])with
   |some (some h)=>some (some (sI h (e.root c) 2))
   |r=>r
def jK(a b:Nat)(h:bM):Option (Option bM):=match jE (h.rep.length+1) a b h with
 |some (some e)=>match jZ e (h.rep.length+1) a []with
  |some (some _)=>some (some e)
  |some none=>some none
  |none=>none
 |r=>r
def kE(A:Et->List Nat->Option (List Nat)):List Et->List Nat->Option (List Nat)
 |[],L=>some L
 |t::h,L=>match A t L with
  |none=>none
  |some L=>kE A h L
def uZ(h:bM):Nat->Et->List Nat->Option (List Nat)
 |0,_,_=>none
 |f+1,t,L=>if t.kind=cM then(if h.root t.num∈L then some L else kE (uZ h f) (fH h t) (L++[h.root t.num]))else kE (uZ h f) t.kids L
def kH{h e:Type}(F:h->Option e):List h->Option (List e)
 |[]=>some []
 |a::w=>match F a with
  |none=>none
  |some b=>match kH F w with
   |none=>none
   |some bs=>some (b::bs)
def vT(n:aA):Et:=⟨[],n,0,[]⟩
def gL(I:Et->bM->List (aA×Nat)->Option (bM×List (aA×Nat)×Nat)):List Et->bM->List (aA×Nat)->Option (bM×List (aA×Nat)×List Et)
 |[],h,g=>some (h,g,[])
 |t::e,h,g=>match I t h g with
  |none=>none
  |some (w,g1,c)=>match gL I e w g1 with
   |none=>none
   |some (x,g2,cs)=>some (x,g2,cT c::cs)
def GY(h:bM):Bool:=decide (h.rep.length<9223372036854775806)
def k7:Nat->Et->bM->List (aA×Nat)->Option (bM×List (aA×Nat)×Nat)
 |0,_,_,_=>none
 |f+1,t,h,g=>
  if t.kind=cM then some (h,g,t.num)
  else if t.kind=[]then match dR g t.name with
   |some c=>some (h,g,c)
   |none=>if GY h=true/\g.length<1000 then some (h.new none,g++[(t.name,h.rep.length)],h.rep.length)else none
  else match gL (k7 f) t.kids h g with
   |none=>none
   |some (e,g1,cs)=>if GY e=true then some (e.new (some ⟨t.kind,[],0,cs⟩),g1,e.rep.length)else none
def jF(R:Et->Int->Option Int):List Et->Int->Option Int
 |[],l=>some l
 |t::h,l=>if l<0 then some l else match R t l with
  |none=>none
  |some l=>jF R h l
def lP(h:bM):Nat->Et->Int->Option Int
 |0,_,_=>none
 |f+1,t,left=>jF (lP h f) (fH h t) (left-1)
def jO{h:Type}[DecidableEq h](L:List h)(v:h):List h:=if v∈L then L else L++[v]
def j6(S:Et->Et->List aA->List aA->Option (Option (List aA×List aA))):List Et->List Et->List aA->List aA->Option (Option (List aA×List aA))
 |a::h,b::bs,p,q=>match S a b p q with
  |some (some (p,q))=>j6 S h bs p q
  |r=>r
 |[],[],p,q=>some (some (p,q))
 |_,_,_,_=>none
def lL(h:bM):Nat->Et->Et->List aA->List aA->Option (Option (List aA×List aA))
 |0,_,_,_,_=>none
 |f+1,a,b,p,q=>
  if(dW h a).kind=[]then
   if(dW h b).kind=[]then
    if p.length<=200/\q.length<=200 then
     if(jO p (dW h a).name).idxOf (dW h a).name=(jO q (dW h b).name).idxOf (dW h b).name then some (some (jO p (dW h a).name,jO q (dW h b).name))else some none
    else none
   else some none
  else if a.kind=cM/\b.kind=cM/\h.root a.num=h.root b.num then some (some (p,q))
  else if(dW h a).kind=(dW h b).kind/\(dW h a).kind≠cM then j6 (lL h f) (dW h a).kids (dW h b).kids p q
  else some none
structure Ds where
 steps:List (aA×Nat×Nat)
 out:aA
 stands:List (Nat×Nat×Nat)
 L:List aA
 O:List Nat
def qE(x:aA)(f t:Nat)(s:Ds):Option Ds:=
 if f<=t/\t<=s.out.length+x.length/\s.out.length+x.length+(t-f)<=100000/\s.steps.length<100000 then
  some ⟨s.steps++[(x,f,t)],s.out++x++((s.out++x).drop f).take (t-f),s.stands,s.L,s.O⟩
 else none
def Jm(h:Nat)(n:aA)(s:Ds):Option Ds:=
 if h=0 then qE n 0 0 s
 else if s.L.length<=200 then qE (fQ ((jO s.L n).idxOf n)) 0 0 ⟨s.steps,s.out,s.stands,jO s.L n,s.O⟩
 else none
def Ue(h:Nat)(c:Nat)(s:Ds):Option Ds:=
 if h=2/\s.O.length<=200 then qE ([95]++fQ ((jO s.O c).idxOf c)) 0 0 ⟨s.steps,s.out,s.stands,s.L,jO s.O c⟩else none
def jV(x:aA)(s:Option Ds):Option Ds:=match s with
 |none=>none
 |some s=>qE x 0 0 s
def wE(A:Et->Ds->Option Ds)(t:Et)(s:Option Ds):Option Ds:=match s with
 |none=>none
 |some s=>A t s
def LD(A:Et->Ds->Option Ds)(h:bM)(t:Et)(s:Option Ds):Option Ds:=
 if(dW h t).kind=dO then jV [41] (wE A t (jV [40] s))else wE A t s
def E8(A:Et->Ds->Option Ds)(h:bM)(e:Nat)(t:Et)(s:Ds):Option Ds:=
 if(dW h t).kind=[]then Jm e (dW h t).name s
 else if(dW h t).kind=cM then Ue e (dW h t).num s
 else match(dW h t).kids with
  |[]=>qE (dW h t).kind 0 0 s
  |[a]=>jV [93] (wE A a (jV [91] (some s)))
  |[a,b]=>if(dW h t).kind=dO then wE A b (jV [32,45,62,32] (LD A h a (some s)))else jV [41] (wE A b (jV [44,32] (wE A a (jV [40] (some s)))))
  |_=>none
def Ax(r n:Nat)(s:Option Ds):Option Ds:=match s with
 |none=>none
 |some s=>match dR s.stands r with
  |some _=>none
  |none=>if s.stands.length<100000 then some ⟨s.steps,s.out,s.stands++[(r,n,s.out.length)],s.L,s.O⟩else none
def fS(h:bM)(e:Nat):Nat->Et->Ds->Option Ds
 |0,_,_=>none
 |f+1,t,s=>
  if t.kind=cM then match dR s.stands (h.root t.num)with
   |some (a,b)=>qE [] a b s
   |none=>Ax (h.root t.num) s.out.length (E8 (fS h e f) h e t s)
  else E8 (fS h e f) h e t s
def ze(O:aC):Ds:=⟨[],[],[],[],O⟩
theorem gj(w:World):(Instr.typeAssert .nilIface 156 265 true).run prog w= .ok (.tuple #[.pointer none, .bool false]) w:=by kernel_rfl
def CP(b:Nat):Value:= .pointer (some ⟨b,0,none⟩)
def CI(b:Nat):Value:= .iface 265 (.pointer (some ⟨b,0,none⟩))
def dT(h:aC)(k:Nat):Prop:=k∈h
theorem fZ{w:World}{a:Nat}(h:w.heap[a]? =some (sH i v)):w.cell? ⟨a,0,none⟩=some (.int .i64 ((i:Int)+1))/\w.cell? ⟨a,1,none⟩=some v/\w.frozen? ⟨a,0,none⟩=false/\w.frozen? ⟨a,1,none⟩=false:=by simp[World.cell?,World.frozen?,h,sH]
theorem Ay(a i:Nat)(w:World)(h:w.heap[a]? =some (sH i .nilIface)):Calls prog 185 #[CP a] w λe x=>e= .returned (CP a)/\x=w:=by obtain⟨b,c,_,_⟩:=fZ h;have d:=gj w;clear h;unfold CP;go_enter func185,ntmps185;go_wp2;go_ret;exact⟨rfl,rfl⟩
theorem BN(a i b:Nat)(t:TypeId)(w:World)(h:w.heap[a]? =some (sH i (.iface t (.pointer (some ⟨b,0,none⟩)))))(f:(Instr.typeAssert (.iface t (.pointer (some ⟨b,0,none⟩))) 156 265 true).run prog w= .ok (.tuple #[.pointer none, .bool false]) w):
  Calls prog 185 #[CP a] w λe x=>e= .returned (CP a)/\x=w:=by
 obtain⟨c,d,_,_⟩:=fZ h;clear h;unfold CP;go_enter func185,ntmps185;go_wp2;go_ret;exact⟨rfl,rfl⟩
theorem TJ{o:Option Et}{a:Nat}{w:World}(h:w.heap[a]? =some (sH i v))(g:zK H ca o v):Calls prog 185 #[CP a] w λe j=>e= .returned (CP a)/\j=w:=by
 rcases g with⟨_,rfl⟩|⟨k,_,c,d,_,b,f⟩
 ·exact Ay a i w h
 ·rcases f with⟨x,_⟩|⟨x,_⟩|⟨_,_,rfl,_⟩|⟨_,_,_,_,_,rfl,_⟩|⟨_,_,_,_,_,_,_,rfl,_⟩|⟨_,_,_,_,_,_,_,rfl,_⟩
  ·exact absurd x d
  ·exact absurd x c
  ·exact BN a i b _ w h (pV b w)
  ·exact BN a i b _ w h (pF b w)
  ·exact BN a i b _ w h (pG b w)
  ·exact BN a i b _ w h (nK b w)
def Az(h:aC)(a:bM)(w e:World):Prop:=∀(j x:Nat),a.rep[j]? =some j->h[j]? =some x->e.heap[x]? =w.heap[x]?
theorem Az.refl(h:aC)(e:bM)(w:World):Az h e w w:=λ_ _ _ _=>rfl
def Xn(H:aB)(h:aC)(a:bM)(d:aI)(i:Nat)(w:World)(e:Ending)(x:World):Prop:=∃b,e= .returned (CP b)/\h[a.root i]? =some b/\fY H h a d x/\Gb (dT h) w x/\Az h a w x
theorem uy{l:bM}{j a b:Nat}{w:World}(m:fY H ca l d w)(h:ca[i]? =some a)(f:l.root i≠i)(k:l.root j=l.root i)(t:w.heap[a]? =some (sH i (CI b)))
  (u:Calls prog 185 #[CP b] w (Xn H ca l d j w)):Calls prog 185 #[CP a] w (Xn H ca l d i w):=by
 obtain⟨C,r,_,_⟩:=fZ t;have I:=mB b w;have y:=aS u;have Q:=aS (aL m (aL h (aL f k)));unfold CI at r;unfold CP at*;clear u m h f k t;go_enter func185,ntmps185;go_wp2_with fail;refine y.mono ?_;rintro e K ⟨A,rfl,g,c,o,p⟩;obtain⟨m,h,f,k⟩:=Q.out;obtain⟨J,v,_⟩:=c.blk i a h;obtain⟨_,L,_,G⟩:=fZ v;have z:=aS (aL g (aL c (aL o p)));clear g c o p v m h f k C r;unfold CP;go_wp2;go_ret;obtain⟨g,c,o,p⟩:=z.out;obtain⟨m,h,f,k⟩:=Q.out;rw[k]at g;obtain⟨_,s,_⟩:=c.root_get h
 exact⟨A,rfl,g,c.short h s f g,o.set (aQ (cK h)) 1 _,λj x q n=>by
  rw[bO _ _ _ _ (λD=> ?_)]
  ·exact p j x q n
  ·have E:x=a:=D;rw[E]at n;have F:j=i:=(iJ (aU.1 n).1 c.nd).1 (n.trans h.symm);rw[F,s]at q
   exact f (aY q)⟩
theorem jG{H:aB}{l:aC}{A:bM}{d:aI}:∀(n i a:Nat) (w:World),d i<n->l[i]? =some a->fY H l A d w->Calls prog 185 #[CP a] w (Xn H l A d i w)
 |0,_,_,_,h,_,_=>by omega
 |n+1,i,a,w,h,g,x=>by
  obtain⟨v,t,C⟩:=x.blk i a g;obtain⟨_,r,_⟩:=x.root_get g;rcases C with⟨f,o⟩|⟨j,c,b,f,o,y,k,rfl,z⟩
  ·rw[r]at f;refine(TJ t o).mono ?_;rintro e F ⟨rfl,rfl⟩;exact⟨a,rfl,by rw[aY f];exact g,x,Gb.refl _ _,Az.refl _ _ _⟩
  ·rw[r]at f;have p:=aY f;obtain⟨_,s,_⟩:=x.root_get k;rw[y]at s;have q:=aY s;refine uy x g (by rw[p];exact o) (by rw[<-q,p]) t ?_;rcases z with rfl|z
   ·obtain⟨I,E,D⟩:=x.blk j b k;rcases D with⟨_,m⟩|⟨_,G,_,u,m,_⟩
    ·refine(TJ E m).mono ?_;rintro e F ⟨rfl,rfl⟩;exact⟨b,rfl,by rw[<-q];exact k,x,Gb.refl _ _,Az.refl _ _ _⟩
    ·rw[y]at u;exact absurd (aY u).symm m
   ·exact jG n j b w (by omega) k x
theorem fY.root_val{e:bM}{w:World}(h:fY H ca e d w){b:Nat}(k:i<ca.length)(c:ca[e.root i]? =some b):∃v,w.heap[b]? =some (sH (e.root i) v)/\zK H ca (e.is i) v:=by
 obtain⟨v,l,j⟩:=h.blk _ b c;refine⟨v,l, ?_⟩;obtain⟨_,f,_⟩:=h.root_get (aP k);have g:=h.rr _ _ f;rcases j with⟨_,x⟩|⟨_,m,_,a,x,_⟩
 ·exact x
 ·rw[g]at a;exact absurd (aY a).symm x
theorem BO(h:bM)(i:Nat):dW h (cT i)=(match h.is i with|none=>cT (h.root i)|some nd=>nd):=by unfold dW;rw[aR (show(cT i).kind=cM from rfl)];rfl
def ny(H:aB)(h:aC)(a:bM)(d:aI)(v:Value)(w:World)(e:Ending)(x:World):Prop:=e= .returned v/\fY H h a d x/\Gb (dT h) w x
theorem BP{t:TypeId}(b:Nat)(w:World)(x:(Instr.typeAssert (.iface t (.pointer (some ⟨b,0,none⟩))) 156 265 true).run prog w= .ok (.tuple #[.pointer none, .bool false]) w):
  Calls prog 223 #[.iface t (.pointer (some ⟨b,0,none⟩))] w λe h=>e= .returned (.iface t (.pointer (some ⟨b,0,none⟩)))/\h=w:=by
 go_enter func223,ntmps223;go_wp2;go_ret;exact⟨rfl,rfl⟩
theorem Ba{s:bM}(i a:Nat)(w:World)(g:ca[i]? =some a)(b:fY H ca s d w):∃v,fP 0 H ca 2 v (dW s (cT i))/\Calls prog 223 #[CI a] w (ny H ca s d v w):=by
 obtain⟨t,o,f⟩:=b.root_get g;have p:=(aU.1 g).1;obtain⟨E,q,y⟩:=b.root_val p f;have n:=aS (jG (d i+1) i a w (by omega) g b);have J:=mB a w;have x:=aS (aL f (aL q (b.rr _ _ o)));unfold CI;unfold CP at n;rcases y with⟨m,rfl⟩|⟨K,m,A,C,D,r⟩
 ·refine⟨CI t,⟨t,aQ ?_⟩, ?_⟩
  ·rw[BO,m];exact⟨rfl,rfl,f,rfl⟩
  clear g b o f q p m;unfold CI;go_enter func223,ntmps223;go_wp2_with fail;refine n.mono ?_;rintro e F ⟨u,rfl,h,j,k,l⟩;obtain rfl:=aY (x.1.symm.trans h);have G:=(fZ ((l _ _ x.2.2 h).trans x.2.1)).2.1;have c:=aS (aL j k);clear h j k l;unfold CP;go_wp2;go_ret;exact⟨rfl,c.1,c.2⟩
 ·refine⟨E,by rw[BO,m];exact r, ?_⟩;obtain⟨L,I,z,rfl⟩:=r.val;clear g b o f q p m A C D r;rcases z with rfl|rfl|rfl|rfl|rfl|rfl
  all_goals
   go_enter func223,ntmps223;go_wp2_with fail;refine n.mono ?_;rintro e F ⟨u,rfl,h,j,k,l⟩;obtain rfl:=aY (x.1.symm.trans h);have G:=(fZ ((l _ _ x.2.2 h).trans x.2.1)).2.1;have c:=aS (aL j k);clear h j k l;unfold CP;go_wp2;go_ret;exact⟨rfl,c.1,c.2⟩
theorem Jn{i:bM}{q m:Nat}{t:Et}{w:World}(h:fP q H ca (m+2) v t)(s:fY H ca i d w):∃g,fP (if t.kind=cM then 0 else q) H ca (m+2) g (dW i t)/\(t.kind≠cM->g=v)/\Calls prog 223 #[v] w (ny H ca i d g w):=by
 have A:=h;obtain⟨b,h⟩:=h
 have l:∀(r:TypeId),v= .iface r (.pointer (some ⟨b,0,none⟩))->t.kind≠cM->(Instr.typeAssert (.iface r (.pointer (some ⟨b,0,none⟩))) 156 265 true).run prog w= .ok (.tuple #[.pointer none, .bool false]) w->
   ∃g,fP (if t.kind=cM then 0 else q) H ca (m+2) g (dW i t)/\(t.kind≠cM->g=v)/\Calls prog 223 #[v] w (ny H ca i d g w):=λr D n C=>by
  have en:dW i t=t:=by unfold dW;rw[aN n]
  rw[en,aN n];refine⟨v,A,λ_=>rfl, ?_⟩;subst D;refine(BP b w C).mono ?_;rintro e G ⟨rfl,rfl⟩;exact⟨rfl,s,Gb.refl _ _⟩
 rcases h with⟨x,k,f,j⟩|⟨x,k,f,o,j,p⟩|⟨x,k,f,j⟩|⟨x,o,a,u,k,f,j,p⟩|⟨x,o,a,c,u,z,k,f,j,p,y⟩|⟨x,o,a,c,u,z,k,f,j,p,y⟩
 ·have en:dW i t=dW i (cT t.num):=by unfold dW;rw[aR x,aR (show(cT t.num).kind=cM from rfl)];rfl
  rw[en,aR x];obtain⟨g,E,F⟩:=Ba t.num b w f s;subst j;exact⟨g,E.le (by omega),λn=>absurd x n,F⟩
 ·exact l _ j (by rw[x];decide) (r8 b w)
 ·exact l _ f (by rcases x with x|x<;>rw[x]<;>decide) (pV b w)
 ·exact l _ f (by rw[x];decide) (pF b w)
 ·exact l _ f (by rw[x];decide) (pG b w)
 ·exact l _ f (by rw[x];decide) (nK b w)
structure AB where
 kb:Nat
 nb:Nat
 cb:Nat
 mb:Nat
def qV(h:Nat):Value:= .func (.func 187) #[] #[.pointer (some ⟨h,0,none⟩)]
def Jo(a:AB):Value:= .func (.func 146) #[] #[.pointer (some ⟨a.kb,0,none⟩), .pointer (some ⟨a.nb,0,none⟩)]
structure VR(w:World)(a:AB)(L:aD):Prop where
 mrk:w.heap[a.kb]? =some (.cells #[.string (B [])] 9 (0,0))
 nf:w.heap[a.nb]? =some (.cells #[qV a.cb] 300 (0,0))
 blk:w.heap[a.cb]? =some (.cells #[.map (some a.mb)] 358 (0,0))
 mp:MP w a.mb L
theorem VR.ne{w:World}{a:AB}{L:aD}(h:VR w a L):a.cb≠a.mb/\a.kb≠a.mb/\a.nb≠a.mb:=by
 obtain⟨c,b,x⟩:=h.mp.isMap;refine⟨λe=> ?_,λe=> ?_,λe=> ?_⟩
 ·have:=h.blk;rw[e,x]at this;cases this
 ·have:=h.mrk;rw[e,x]at this;cases this
 ·have:=h.nf;rw[e,x]at this;cases this
theorem VR.over{w x:World}{a:AB}{L b:aD}(h:VR w a L)(e:w.grownBy x (some a.mb))(c:MP x a.mb b):VR x a b:=
 ⟨by rw[e.block _ (aT h.mrk) (by simp;exact h.ne.2.1)];exact h.mrk,by rw[e.block _ (aT h.nf) (by simp;exact h.ne.2.2)];exact h.nf,by rw[e.block _ (aT h.blk) (by simp;exact h.ne.1)];exact h.blk,c⟩
def JS(L:aD)(h:aA):List aA:=if h∈L then L else L++[h]
theorem Uf(w:World)(a:AB)(x:aA)(L:aD)(c:x.length<=300)(h:VR w a L)(o:L.length<=200):
  Calls prog 187 #[.string (B x), .pointer (some ⟨a.cb,0,none⟩)] w λe l=>e= .returned (.int .i64 ((JS L x).idxOf x:Nat))/\VR l a (JS L x)/\w.grownBy l (some a.mb):=by
 have n:w.cell? ⟨a.cb,0,none⟩=some (.map (some a.mb)):=by simp[World.cell?,h.blk]
 have H:=aS h;by_cases b:x∈L
 ·have e:JS L x=L:=by unfold JS;rw[aR b]
  rw[e];have i:=h.mp.look_in c b;obtain⟨k,g⟩:∃k,k=L.idxOf x:=⟨_,rfl⟩;rw[<-g]at i⊢;clear h b e g;go_enter func187,ntmps187;go_wp2;go_ret;exact⟨rfl,H.out,bC _ _⟩
 ·have e:JS L x=L++[x]:=by unfold JS;rw[aN b]
  rw[e];have i:=h.mp.look_out c b;have p:=λm=>MP.len h.mp m;obtain⟨r,q,j,d⟩:=MP.store h.mp c b (by omega);have f:(L++[x]).idxOf x=L.length:=by rw[mJ,aN b];simp
  rw[f];have Q:=aS (aL j d);clear h b e f j d;go_enter func187,ntmps187;go_wp2;go_ret;exact⟨rfl,H.over Q.2 Q.1,Q.2⟩
theorem Ug(w:World)(a:AB)(x:aA)(L:aD)(p:x.length<=300)(h:VR w a L)(m:L.length<=200):
  Calls prog 146 #[.string (B x), .pointer (some ⟨a.kb,0,none⟩), .pointer (some ⟨a.nb,0,none⟩)] w λe q=>e= .returned (.string (B (fQ ((JS L x).idxOf x))))/\VR q a (JS L x)/\w.grownBy q (some a.mb):=by
 have t:w.cell? ⟨a.kb,0,none⟩=some (.string (B [])):=by simp[World.cell?,h.mrk]
 have u:w.cell? ⟨a.nb,0,none⟩=some (.func (.func 187) #[] #[.pointer (some ⟨a.cb,0,none⟩)]):=by simp[World.cell?,h.nf,qV]
 have j:(JS L x).idxOf x<=200:=by
  unfold JS;split
  ·rename_i k;have:=iG k;omega
  ·rename_i k;rw[mJ,aN k];simp;omega
 have i:=aS (Uf w.drew a x L p ⟨h.mrk,h.nf,h.blk,h.mp⟩ m);obtain⟨g,n⟩:∃g,g=JS L x:=⟨_,rfl⟩;rw[<-n]at i j⊢;obtain⟨d,o⟩:∃d,d=g.idxOf x:=⟨_,rfl⟩;rw[<-o]at i j⊢;have r:=aS (λw=>Oe w d (by omega))
 have y:(B (fQ d)).size<=1000:=by rw[dY];unfold fQ;split<;>simp
 have z:(B ([]:aA)).size=0:=rfl;have W:=aS (show∀f,VR f a g->f.cell? ⟨a.kb,0,none⟩=some (.string (B []))fromλf c=>by simp[World.cell?,c.mrk]);clear h m n o j p;go_enter func146,ntmps146;go_wp2_with fail
 go_region_with (first
  |(go_at_call 187;refine i.mono ?_;rintro e f ⟨rfl,c,l⟩;have v:=W.out f c;have s:=aS c;have b:=aS l;clear c l)
  |(go_at_call 147;refine(r.out _).mono ?_;rintro e A ⟨rfl,rfl⟩))
 all_goals
  go_wp2;go_ret;refine⟨?_,s.out,⟨b.os,b.tape,b.output,b.size,b.block⟩⟩;show Ending.returned (.string (B []++B (fQ d)))=_;rw[dQ];rfl
def Zt(w x:World)(e:Ending):Prop:=∃a h,e= .returned (qV a)/\x.heap[a]? =some (.cells #[.map (some h)] 358 (0,0))/\MP x h []/\w.grownBy x none/\w.heap.size<=h
theorem JT(w:World):Calls prog 145 #[] w λe a=>Zt w a e:=by have c:= @run_makeMap prog;have b:∀(x:Fn) (first h:Array Value) (w:World),(Instr.makeFunc x first h).run prog w= .ok (.func x first h) w:=λ_ _ _ _=>rfl;go_enter func145,ntmps145;go_wp2;go_ret;refine⟨w.heap.size+1,w.heap.size,rfl,dC _ _ _ (by simp),(MP.new w).kept (aO _ _ none) (by simp),(aO _ _ _).trans (aO _ _ _),aV _⟩
def Zu(w h:World)(e:Ending):Prop:=∃a,e= .returned (Jo a)/\VR h a []/\w.grownBy h none/\w.heap.size<=a.mb
theorem uz(w:World):Calls prog 113 #[.string (B [])] w λe n=>Zu w n e:=by
 have o:∀(i:Fn) (first f:Array Value) (w:World),(Instr.makeFunc i first f).run prog w= .ok (.func i first f) w:=λ_ _ _ _=>rfl;have j:(w.alloc (.cells #[.string (B [])] 9)).heap[w.heap.size]? =some (.cells #[.string (B [])] 9 (0,0)):=dC _ _ _ rfl;have l:=aS j;clear j;go_enter func113,ntmps113;go_wp2_with fail;refine(JT _).mono ?_;rintro e d ⟨g,k,rfl,x,b,h,c⟩;have Q:=aS (aL x (aL b (aL h c)));have p:w.heap.size+1<=d.heap.size:=by have:=h.size;simpa using this
 clear x b h c;unfold qV;go_wp2;go_ret;obtain⟨x,b,h,c⟩:=Q.out;have m:=(h.block w.heap.size (by simp) (by simp)).trans l.out;have a:=aO d (.cells #[qV g] 300) none;refine⟨⟨w.heap.size,d.heap.size,g,k⟩,rfl,⟨(a.block w.heap.size (by omega) (by simp)).trans m,dC _ _ _ rfl,(a.block _ (aT x) (by simp)).trans x,b.kept a (by simp)⟩,((aO _ _ _).trans h).trans a, ?_⟩;simp at c;show w.heap.size<=k;omega
end Go.Proofs.YtcdijppegfcoaaaGreatDoor
