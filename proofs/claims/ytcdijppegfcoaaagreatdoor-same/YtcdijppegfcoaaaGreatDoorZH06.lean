import Derived.Test.YtcdijppegfcoaaaGreatDoorZH00
import Derived.Deep.CutBlock
import Derived.Lib.Bytealg
import Derived.Deep.RegionHeld3
import Derived.Deep.RegionLaw
import Derived.Deep.AppendLies
import Derived.Deep.DeepCutAuto
set_option maxRecDepth 100000
set_option maxHeartbeats 4000000
set_option linter.defProp false
set_option linter.unusedSimpArgs false
namespace Go.Proofs.YtcdijppegfcoaaaGreatDoor
open Go.RowKit Tryz
def jQ:=@wpList_append_lies
def lN:=@World.news_of_block
def yw:=@step_append_lies
variable{w':World}{k:Nat}
def mD(l:aA)(J:Nat):Nat:=
 if(lO l J).1=eE then 0
 else if(lO l J).1=bK then(if(lO l J).2-J>8 then 1 else 2)
 else if(lO l J).1=dS then(if(lO l J).2-J>8 then 1 else 3)
 else if(lO l J).1=dZ then 1 else 4
def kQ(l:aA)(J:Nat):aA:=if mD l J<2 then []else cut l J (lO l J).2
theorem pY(l:aA)(J K:Nat)(h:J<=K)(e:K<=l.length):(cut l J K).length=K-J:=by unfold cut;simp;omega
theorem OH(l:aA)(J K:Nat)(w:J<K)(x:K<=l.length)(c:UInt8)(h:l[J]? =some c):∃r,cut l J K=c::r:=by
 unfold cut;refine⟨((l.take K).drop (J+1)), ?_⟩;rw[cO (by simp;omega)];congr 1;have e:J<l.length:=by omega
 rw[aP e]at h;simpa using h
theorem Jb(c:UInt8)(h:low c=true):qO c=false:=by unfold low qO at*;simp at h⊢;omega
theorem Jc(p:UInt8->Bool)(c:UInt8)(l:aA)(h:p c=true):0<run p (c::l):=by simp[run,h]
theorem XZ(p:UInt8->Bool)(l:aA)(J:Nat)(c:UInt8)(w:l[J]? =some c)(h:p c=true):J<upto p l J:=by
 unfold upto
 have a:J<l.length:=by
  rcases bZ J l.length with x|x
  ·exact x
  ·rw[bW x]at w;cases w
 have e:l.drop J=c::l.drop (J+1):=by rw[cO a];congr 1;rw[aP a]at w;simpa using w
 rw[e];have:=Jc p c (l.drop (J+1)) h;omega
theorem JL(l:aA)(J:Nat)(h:J<=l.length):
  (lO l J=(eE,J)/\J=l.length)\/
  (∃c r K,lO l J=(bK,K)/\J<K/\K<=l.length/\cut l J K=c::r/\low c=true)\/
  (∃c r K,lO l J=(dS,K)/\J<K/\K<=l.length/\cut l J K=c::r/\qO c=true)\/
  (lO l J=(cV,J+2)/\J+2<=l.length/\cut l J (J+2)=cV)\/
  (∃c,c∈qX/\lO l J=([c],J+1)/\J+1<=l.length/\cut l J (J+1)=[c])\/
  (lO l J=(dZ,J)/\J<l.length):=by
 cases e:l[J]? with
 |none=>
  have:l.length<=J:=by simpa using e
  exact aQ ⟨by simp[lO,e],by omega⟩
 |some c=>
  have i:J<l.length:=by
   rcases bZ J l.length with x|x
   ·exact x
   ·rw[bW x]at e;cases e
  by_cases b:low c=true
  ·have j:=XZ eI l J c e (by simp[eI,b]);have w:=(kN eI l J h).2;obtain⟨r,g⟩:=OH l J _ j w c e;exact aM (aQ ⟨c,r,_,by simp[lO,e,b],j,w,g,b⟩)
  by_cases d:qO c=true
  ·have j:=XZ qO l J c e d;have w:=(kN qO l J h).2;obtain⟨r,g⟩:=OH l J _ j w c e;exact aM (aM (aQ ⟨c,r,_,by simp[lO,e,b,d],j,w,g,d⟩))
  by_cases f:c=45/\l[J+1]? =some 62
  ·have o:J+1<l.length:=by
    rcases bZ (J+1) l.length with x|x
    ·exact x
    ·rw[bW x]at f;cases f.2
   refine aM (aM (aM (aQ ⟨by unfold lO;rw[e];simp only;rw[aN b,aN d,aR f],by omega, ?_⟩)));obtain⟨n,k⟩:=f;subst n;unfold cut cV;rw[aP i]at e;rw[aP o]at k;rw[cO (by simp;omega),cO (by simp;omega)];simp at e k;simp[e,k]
  by_cases m:c∈qX
  ·obtain⟨r,g⟩:=OH l J (J+1) (by omega) i c e;have w:=pY l J (J+1) (by omega) i;rw[g]at w
   have:r=[]:=by
    cases r with
    |nil=>rfl
    |cons a r=>simp at w
   exact aM (aM (aM (aM (aQ ⟨c,m,by simp[lO,e,b,d,f,m],i,by rw[g,this]⟩))))
  ·exact aM (aM (aM (aM (aM ⟨by simp[lO,e,b,d,f,m],i⟩))))
def ui(h:aD):Prop:=∀x,x∈h->∃c r,x=c::r/\low c=true/\x.length<=8/\x≠bK/\x≠dS/\x≠eE/\x≠dZ
def fm:List aA:=[[45,62],[61],[40],[41],[44],[91],[93]]
theorem xB:∀x,x∈fm->∃c r,x=c::r/\low c=false/\qO c=false:=by intro x h;simp only[fm,bH,cE,eK]at h;rcases h with rfl|rfl|rfl|rfl|rfl|rfl|rfl<;>exact⟨_,_,rfl,by decide,by decide⟩
theorem mz:∀c,c∈qX->[c]∈fm/\low c=false/\qO c=false/\[c]≠eE/\[c]≠bK/\[c]≠dS/\[c]≠dZ/\[c]≠cV:=by decide
theorem A0:∀x,x∈fm->x≠eE/\x≠bK/\x≠dS/\x≠dZ:=by decide
structure Tv(kw:aD)(l:aA)(J:Nat):Prop where
 pos:(fL kw l J).1.pos=J
 theEnd:mD l J=0↔(fL kw l J).1.is=eE
 num:mD l J=3↔(fL kw l J).1.is=dS
 name:mD l J=2/\kQ l J∉kw↔(fL kw l J).1.is=bK
 word:∀x,x∈kw->(kQ l J=x↔(fL kw l J).1.is=x)
 sign:∀x,x∈fm->(kQ l J=x↔(fL kw l J).1.is=x)
 real:(fL kw l J).1.is≠dZ->(fL kw l J).1.is≠eE->kQ l J=(fL kw l J).1.s/\(fL kw l J).2=J+(kQ l J).length/\J<(fL kw l J).2/\(fL kw l J).2<=l.length
 small:mD l J<=4
 short:(kQ l J).length<=8
 isWord:mD l J=2->∃c r,kQ l J=c::r/\low c=true
 notWord:mD l J≠2->∀x,kQ l J=x->(∀c r,x=c::r->low c=false)
theorem s9(m:aD)(u:ui m)(l:aA)(J:Nat)(h:J<=l.length):Tv m l J:=by
 rcases JL l J h with⟨e,_⟩|⟨c,r,K,e,n,i,o,s⟩|⟨c,r,K,e,n,i,o,s⟩|⟨e,n,i⟩|⟨c,H,e,n,i⟩|⟨e,n⟩
 ·have k:mD l J=0:=by simp[mD,e]
  have t:kQ l J=[]:=by simp[kQ,k]
  have w:fL m l J=(⟨eE,cut l J J,J⟩,J):=by simp[fL,e,eE,bK,dS]
  refine⟨by rw[w],by simp[k,w],by rw[k,w];simp[eE,dS],by rw[k,w];simp[eE,bK], ?_, ?_,by rw[w];simp,by omega,by rw[t];simp,by rw[k];simp,by rw[t];rintro _ x rfl c r e;cases e⟩
  ·intro x b;obtain⟨c,r,g,_,_,_,_,f,_⟩:=u x b;rw[t,w];constructor
   ·intro a;rw[g]at a;cases a
   ·intro a;exact absurd a.symm f
  ·intro x b;obtain⟨c,r,g,_⟩:=xB x b;rw[t,w];constructor
   ·intro a;rw[g]at a;cases a
   ·intro a;exact absurd a.symm (A0 x b).1
 ·have z:=pY l J K (by omega) i;rw[o]at z;by_cases y:K-J>8
  ·have k:mD l J=1:=by simp[mD,e,eE,bK];omega
   have t:kQ l J=[]:=by simp[kQ,k]
   have w:fL m l J=(⟨dZ,cut l J K,J⟩,K):=by have p:8<K-J:=y;simp[fL,e,p,dZ,bK]
   refine⟨by rw[w],by rw[k,w];simp[eE,dZ],by rw[k,w];simp[dZ,dS],by rw[k,w];simp[dZ,bK], ?_, ?_,by rw[w];simp,by omega,by rw[t];simp,by rw[k];simp,by rw[t];rintro _ x rfl c r e;cases e⟩
   ·intro x b;obtain⟨c,r,g,_,_,_,_,_,f⟩:=u x b;rw[t,w];constructor
    ·intro a;rw[g]at a;cases a
    ·intro a;exact absurd a.symm f
   ·intro x b;obtain⟨c,r,g,_⟩:=xB x b;rw[t,w];constructor
    ·intro a;rw[g]at a;cases a
    ·intro a;exact absurd a.symm (A0 x b).2.2.2
  ·have k:mD l J=2:=by simp[mD,e,eE,bK];omega
   have t:kQ l J=c::r:=by simp[kQ,k,e,o]
   have p:¬8<K-J:=y;by_cases v:c::r∈m
   ·have w:fL m l J=(⟨c::r,c::r,J⟩,K):=by simp[fL,e,p,o,v]
    obtain⟨_,_,_,_,_,D,E,N,R⟩:=u _ v;refine⟨by rw[w],by rw[k,w];simp;exact N,by rw[k,w];simp;exact E,by rw[t,w];simp[v];exact D, ?_, ?_, ?_,by omega,by rw[t];omega,λ_=>⟨c,r,t,s⟩,λj=>absurd k j⟩
    ·intro x _;rw[t,w]
    ·intro x _;rw[t,w]
    ·intro _ _;rw[t,w];exact⟨rfl,by dsimp only;omega,n,i⟩
   ·have w:fL m l J=(⟨bK,c::r,J⟩,K):=by simp[fL,e,p,o,v]
    refine⟨by rw[w],by rw[k,w];simp[eE,bK],by rw[k,w];simp[bK,dS],by rw[t,w,k];simp[v], ?_, ?_, ?_,by omega,by rw[t];omega,λ_=>⟨c,r,t,s⟩,λj=>absurd k j⟩
    ·intro x b;obtain⟨_,_,_,_,_,D,_⟩:=u _ b;rw[t,w];exact⟨λa=>absurd (a▸b) v,λa=>absurd a.symm D⟩
    ·intro x b;obtain⟨d,q,g,a,_⟩:=xB x b;rw[t,w];constructor
     ·intro f;rw[g]at f;cases f;rw[s]at a;cases a
     ·intro f;exact absurd f.symm (A0 x b).2.1
    ·intro _ _;rw[t,w];exact⟨rfl,by dsimp only;omega,n,i⟩
 ·have z:=pY l J K (by omega) i;rw[o]at z;by_cases y:K-J>8
  ·have k:mD l J=1:=by simp[mD,e,eE,bK,dS];omega
   have t:kQ l J=[]:=by simp[kQ,k]
   have w:fL m l J=(⟨dZ,cut l J K,J⟩,K):=by have p:8<K-J:=y;simp[fL,e,p,dZ,bK]
   refine⟨by rw[w],by rw[k,w];simp[eE,dZ],by rw[k,w];simp[dZ,dS],by rw[k,w];simp[dZ,bK], ?_, ?_,by rw[w];simp,by omega,by rw[t];simp,by rw[k];simp,by rw[t];rintro _ x rfl c r e;cases e⟩
   ·intro x b;obtain⟨c,r,g,_,_,_,_,_,f⟩:=u x b;rw[t,w];constructor
    ·intro a;rw[g]at a;cases a
    ·intro a;exact absurd a.symm f
   ·intro x b;obtain⟨c,r,g,_⟩:=xB x b;rw[t,w];constructor
    ·intro a;rw[g]at a;cases a
    ·intro a;exact absurd a.symm (A0 x b).2.2.2
  ·have k:mD l J=3:=by simp[mD,e,eE,bK,dS];omega
   have t:kQ l J=c::r:=by simp[kQ,k,e,o]
   have p:¬8<K-J:=y
   have w:fL m l J=(⟨dS,c::r,J⟩,K):=by simp[fL,e,p,o,dS,bK]
   have F:low c=false:=by
    cases I:low c with
    |false=>rfl
    |true=>rw[Jb c I]at s;cases s
   refine⟨by rw[w],by rw[k,w];simp[eE,dS],by rw[k,w];simp,by rw[w,k];simp[dS,bK], ?_, ?_, ?_,by omega,by rw[t];omega,(λj=>by rw[k]at j;cases j), ?_⟩
   ·intro x b;obtain⟨d,q,g,a,_,_,E,_⟩:=u _ b;rw[t,w];constructor
    ·intro f;rw[g]at f;cases f;rw[F]at a;cases a
    ·intro f;exact absurd f.symm E
   ·intro x b;obtain⟨d,q,g,_,a⟩:=xB x b;rw[t,w];constructor
    ·intro f;rw[g]at f;cases f;rw[s]at a;cases a
    ·intro f;exact absurd f.symm (A0 x b).2.2.1
   ·intro _ _;rw[t,w];exact⟨rfl,by dsimp only;omega,n,i⟩
   ·rw[t];rintro _ x rfl c' r' e';cases e';exact F
 ·have k:mD l J=4:=by simp[mD,e,eE,bK,dS,dZ,cV]
  have t:kQ l J=cV:=by simp[kQ,k,e,i]
  have w:fL m l J=(⟨cV,cV,J⟩,J+2):=by simp[fL,e,i,cV,bK,dS]
  refine⟨by rw[w],by rw[k,w];simp[eE,cV],by rw[k,w];simp[cV,dS],by rw[k,w];simp[cV,bK], ?_, ?_, ?_,by omega,by rw[t];simp[cV],(λj=>by rw[k]at j;cases j), ?_⟩
  ·intro x b;rw[t,w]
  ·intro x b;rw[t,w]
  ·intro _ _;rw[t,w];exact⟨rfl,rfl,by dsimp only;omega,n⟩
  ·rw[t];rintro _ x rfl c' r' e';cases e';decide
 ·obtain⟨O,L,P,G,A,C,M,Q⟩:=mz c H;have k:mD l J=4:=by simp[mD,e,G,A,C,M]
  have t:kQ l J=[c]:=by simp[kQ,k,e,i]
  have w:fL m l J=(⟨[c],[c],J⟩,J+1):=by simp[fL,e,i,A,C]
  refine⟨by rw[w],by rw[k,w];simp[G],by rw[k,w];simp[C],by rw[k,w];simp[A], ?_, ?_, ?_,by omega,by rw[t];simp,(λj=>by rw[k]at j;cases j), ?_⟩
  ·intro x b;rw[t,w]
  ·intro x b;rw[t,w]
  ·intro _ _;rw[t,w];exact⟨rfl,rfl,by dsimp only;omega,n⟩
  ·rw[t];rintro _ x rfl c' r' e';cases e';exact L
 ·have k:mD l J=1:=by simp[mD,e,eE,bK,dS,dZ]
  have t:kQ l J=[]:=by simp[kQ,k]
  have w:fL m l J=(⟨dZ,cut l J J,J⟩,J):=by simp[fL,e,dZ,bK,dS]
  refine⟨by rw[w],by rw[k,w];simp[eE,dZ],by rw[k,w];simp[dZ,dS],by rw[k,w];simp[dZ,bK], ?_, ?_,by rw[w];simp,by omega,by rw[t];simp,by rw[k];simp,by rw[t];rintro _ x rfl c r e;cases e⟩
  ·intro x b;obtain⟨c,r,g,_,_,_,_,_,f⟩:=u x b;rw[t,w];constructor
   ·intro a;rw[g]at a;cases a
   ·intro a;exact absurd a.symm f
  ·intro x b;obtain⟨c,r,g,_⟩:=xB x b;rw[t,w];constructor
   ·intro a;rw[g]at a;cases a
   ·intro a;exact absurd a.symm (A0 x b).2.2.2
theorem Y0(n:Int)(w:World):Calls prog 173 #[.int .u8 n] w λe a=>e= .returned (.bool (decide (n=32\/n=10)))/\a=w:=by
 by_cases h:n=32
 ·subst h;go_enter func173,ntmps173;go_wp2;go_ret;exact⟨rfl,rfl⟩
 ·have b:(n==32)=false:=by simp[h]
  by_cases x:n=10
  ·subst x;go_enter func173,ntmps173;go_wp2;go_ret;exact⟨rfl,rfl⟩
  ·have c:(n==10)=false:=by simp[x]
   go_enter func173,ntmps173;go_wp2;go_ret;exact⟨by simp[h,x],rfl⟩
theorem VE(n:Int)(w:World):Calls prog 212 #[.int .u8 n] w λe a=>e= .returned (.bool (decide (97<=n/\n<=122)))/\a=w:=by
 by_cases h:97<=n<;>by_cases x:n<=122<;>
 ·go_enter func212,ntmps212;go_wp2;go_ret;exact⟨by simp[h,x],rfl⟩
theorem Y1(n:Int)(w:World):Calls prog 215 #[.int .u8 n] w λe a=>e= .returned (.bool (decide (48<=n/\n<=57)))/\a=w:=by
 by_cases h:48<=n<;>by_cases x:n<=57<;>
 ·go_enter func215,ntmps215;go_wp2;go_ret;exact⟨by simp[h,x],rfl⟩
theorem Y2(c:UInt8)(w:World):Calls prog 173 #[.int .u8 (c.toNat:Int)] w λe x=>e= .returned (.bool (mS c))/\x=w:=by
 refine(Y0 _ w).mono ?_;rintro e x ⟨rfl,rfl⟩;refine⟨?_,rfl⟩
 have h:decide ((c.toNat:Int)=32\/(c.toNat:Int)=10)=mS c:=by unfold mS;rw[Bool.eq_iff_iff];simp only[cX,l8,sQ,<-UInt8.toNat_inj];show _↔c.toNat=32\/c.toNat=10;omega
 rw[h]
theorem pK(c:UInt8)(w:World):Calls prog 212 #[.int .u8 (c.toNat:Int)] w λe x=>e= .returned (.bool (low c))/\x=w:=by
 refine(VE _ w).mono ?_;rintro e x ⟨rfl,rfl⟩;refine⟨?_,rfl⟩
 have h:decide (97<=(c.toNat:Int)/\(c.toNat:Int)<=122)=low c:=by unfold low;rw[decide_eq_decide];omega
 rw[h]
theorem sC(c:UInt8)(w:World):Calls prog 215 #[.int .u8 (c.toNat:Int)] w λe x=>e= .returned (.bool (qO c))/\x=w:=by
 refine(Y1 _ w).mono ?_;rintro e x ⟨rfl,rfl⟩;refine⟨?_,rfl⟩
 have h:decide (48<=(c.toNat:Int)/\(c.toNat:Int)<=57)=qO c:=by unfold qO;rw[decide_eq_decide];omega
 rw[h]
theorem TD(c:UInt8)(w:World):Calls prog 214 #[.int .u8 (c.toNat:Int)] w λe h=>e= .returned (.bool (eI c))/\h=w:=by
 cases x:low c<;>cases a:qO c<;>
 ·go_enter func214,ntmps214;go_wp2_with (first|(go_at_call 212;refine(pK _ _).mono ?_;rintro e h ⟨rfl,rfl⟩;rw[x])|(go_at_call 215;refine(sC _ _).mono ?_;rintro e h ⟨rfl,rfl⟩;rw[a]));go_wp2;go_ret;exact⟨by simp[eI,x,a],rfl⟩
theorem TG(s:ByteArray)(u:s.size<=300)(w:World):Calls prog 172 #[.string s, .func (.func 173) #[] #[]] w λe a=>e= .returned (.int .i64 ((run mS s.data.toList:Nat):Int))/\a=w:=by
 have o:s.data.toList.length=s.size:=by rw[eH];rfl
 obtain⟨R,hR⟩:∃R,R=run mS s.data.toList:=⟨_,rfl⟩;have j:=OE mS s.data.toList;rw[<-hR,o]at j;rw[<-hR];have b:=aS hR;clear hR;go_enter func172,ntmps172;go_wp2_with fail
 go_loopg [5] (R+1) (λg i p=>∃q:Nat,q<=R/\i= .int .i64 q/\g=R-q+1/\p=w)
 case atStart=>exact⟨0,by omega,rfl,by omega,rfl⟩
 case round=>
  obtain⟨q,t,rfl,r,rfl⟩:=hrel;by_cases m:q<R
  ·have x:q<s.size:=by omega
   have f:(q:Int)<(s.size:Int):=by omega
   obtain⟨c,h,d⟩:=OG mS s.data.toList q (by rw[<-b.out];exact m);rw[p9 s q x]at h
   have l:mS s[q]=true:=by simp only[dK]at h;rw[h];exact d
   clear h d;go_wp2_with (go_at_call 173;refine(Y2 _ _).mono ?_;rintro e a ⟨rfl,rfl⟩;rw[l])
   go_roundg (R-(q+1)+1)
   case measure=>omega
   case rel=>exact⟨q+1,by omega,by go_num,rfl,rfl⟩
  ·have n:q=R:=by omega
   subst n;by_cases x:q<s.size
   ·have k:mS s[q]=false:=FU mS s.data.toList s[q] (by rw[<-b.out];exact p9 s q x);have f:(q:Int)<(s.size:Int):=by omega
    go_wp2_with (go_at_call 173;refine(Y2 _ _).mono ?_;rintro e a ⟨rfl,rfl⟩;rw[k]);go_wp2;go_ret;exact⟨rfl,rfl⟩
   ·have f:¬(q:Int)<(s.size:Int):=by omega
    go_wp2;go_ret;exact⟨rfl,rfl⟩
theorem TH(s:ByteArray)(u:s.size<=300)(w:World):Calls prog 172 #[.string s, .func (.func 215) #[] #[]] w λe a=>e= .returned (.int .i64 ((run qO s.data.toList:Nat):Int))/\a=w:=by
 have o:s.data.toList.length=s.size:=by rw[eH];rfl
 obtain⟨R,hR⟩:∃R,R=run qO s.data.toList:=⟨_,rfl⟩;have j:=OE qO s.data.toList;rw[<-hR,o]at j;rw[<-hR];have b:=aS hR;clear hR;go_enter func172,ntmps172;go_wp2_with fail
 go_loopg [5] (R+1) (λg i p=>∃q:Nat,q<=R/\i= .int .i64 q/\g=R-q+1/\p=w)
 case atStart=>exact⟨0,by omega,rfl,by omega,rfl⟩
 case round=>
  obtain⟨q,t,rfl,r,rfl⟩:=hrel;by_cases m:q<R
  ·have x:q<s.size:=by omega
   have f:(q:Int)<(s.size:Int):=by omega
   obtain⟨c,h,d⟩:=OG qO s.data.toList q (by rw[<-b.out];exact m);rw[p9 s q x]at h
   have l:qO s[q]=true:=by simp only[dK]at h;rw[h];exact d
   clear h d;go_wp2_with (go_at_call 215;refine(sC _ _).mono ?_;rintro e a ⟨rfl,rfl⟩;rw[l])
   go_roundg (R-(q+1)+1)
   case measure=>omega
   case rel=>exact⟨q+1,by omega,by go_num,rfl,rfl⟩
  ·have n:q=R:=by omega
   subst n;by_cases x:q<s.size
   ·have k:qO s[q]=false:=FU qO s.data.toList s[q] (by rw[<-b.out];exact p9 s q x);have f:(q:Int)<(s.size:Int):=by omega
    go_wp2_with (go_at_call 215;refine(sC _ _).mono ?_;rintro e a ⟨rfl,rfl⟩;rw[k]);go_wp2;go_ret;exact⟨rfl,rfl⟩
   ·have f:¬(q:Int)<(s.size:Int):=by omega
    go_wp2;go_ret;exact⟨rfl,rfl⟩
theorem OI(s:ByteArray)(u:s.size<=300)(w:World):Calls prog 172 #[.string s, .func (.func 214) #[] #[]] w λe a=>e= .returned (.int .i64 ((run eI s.data.toList:Nat):Int))/\a=w:=by
 have o:s.data.toList.length=s.size:=by rw[eH];rfl
 obtain⟨R,hR⟩:∃R,R=run eI s.data.toList:=⟨_,rfl⟩;have j:=OE eI s.data.toList;rw[<-hR,o]at j;rw[<-hR];have b:=aS hR;clear hR;go_enter func172,ntmps172;go_wp2_with fail
 go_loopg [5] (R+1) (λg i p=>∃q:Nat,q<=R/\i= .int .i64 q/\g=R-q+1/\p=w)
 case atStart=>exact⟨0,by omega,rfl,by omega,rfl⟩
 case round=>
  obtain⟨q,t,rfl,r,rfl⟩:=hrel;by_cases m:q<R
  ·have x:q<s.size:=by omega
   have f:(q:Int)<(s.size:Int):=by omega
   obtain⟨c,h,d⟩:=OG eI s.data.toList q (by rw[<-b.out];exact m);rw[p9 s q x]at h
   have l:eI s[q]=true:=by simp only[dK]at h;rw[h];exact d
   clear h d;go_wp2_with (go_at_call 214;refine(TD _ _).mono ?_;rintro e a ⟨rfl,rfl⟩;rw[l])
   go_roundg (R-(q+1)+1)
   case measure=>omega
   case rel=>exact⟨q+1,by omega,by go_num,rfl,rfl⟩
  ·have n:q=R:=by omega
   subst n;by_cases x:q<s.size
   ·have k:eI s[q]=false:=FU eI s.data.toList s[q] (by rw[<-b.out];exact p9 s q x);have f:(q:Int)<(s.size:Int):=by omega
    go_wp2_with (go_at_call 214;refine(TD _ _).mono ?_;rintro e a ⟨rfl,rfl⟩;rw[k]);go_wp2;go_ret;exact⟨rfl,rfl⟩
   ·have f:¬(q:Int)<(s.size:Int):=by omega
    go_wp2;go_ret;exact⟨rfl,rfl⟩
theorem DT(s:ByteArray)(c:s.size<=300)(w:World):Calls prog 240 #[.string s, .string (B cV)] w λe b=>e= .returned (.bool (decide (2<=s.size)&&(s.data.toList.take 2==cV)))/\b=w:=by
 by_cases h:2<=s.size
 ·have a:(2:Int)<=(s.size:Int):=by omega
  go_enter func240,ntmps240;go_wp2;go_ret;refine⟨?_,rfl⟩
  have x:(s.extract 0 (B cV).size).toList=s.data.toList.take 2:=by rw[N5,iZ];simp[cut,B,cV,ByteArray.size]
  show Ending.returned (.bool ((s.extract 0 (B cV).size).toList==(B cV).toList))=_;rw[x,iZ];simp[h]
 ·have a:¬(2:Int)<=(s.size:Int):=by omega
  go_enter func240,ntmps240;go_wp2;go_ret;exact⟨rfl,rfl⟩
theorem ng(s:ByteArray)(c:Int)(w:World):Calls prog 241 #[.string s, .int .u8 c] w λe h=>e= .returned (.int .i64 (Lib.indexByte s.data.toList c.toNat.toUInt8))/\h=w:=by go_enter func241,ntmps241;go_wp2;rw[fX func249 (by kernel_rfl) (by kernel_rfl) (by kernel_rfl) (e:=Extern.BytealgIndexByte.indexByte) (by kernel_rfl),Lib.run_indexByteString];simp only[Result.andThen];rw[Oper.upon_value];go_wp2;go_ret;exact⟨rfl,rfl⟩
theorem fp(c:UInt8):∀l:aA,(0:Int)<=Lib.indexByte l c↔c∈l
 |[]=>by simp[Lib.indexByte]
 |b::l=>by
  have f:=fp c l;have g:=Lib.indexByte_ge l c;simp only[Lib.indexByte,bH];by_cases h:b=c
  ·simp[h]
  ·have x:(b==c)=false:=by simp[h]
   have a:¬c=b:=λe=>h e.symm;rw[x];simp only[o0,XL,a,false_or];rw[<-f];by_cases w:Lib.indexByte l c= -1
   ·simp[w]
   ·have d:(Lib.indexByte l c== -1)=false:=by simp[w]
    rw[d];simp only[o0,XL];omega
theorem DU(s:ByteArray)(c:0<s.size):(decide (2<=s.size)&&(s.data.toList.take 2==cV))=true↔∃e:1<s.size,s[0]=45/\s[1]=62:=by
 have x:s.data.toList[0]? =some s[0]:=p9 s 0 c;constructor
 ·intro h;simp only[cY,cX,sQ]at h;have e:1<s.size:=by omega
  have w:s.data.toList[1]? =some s[1]:=p9 s 1 e;refine⟨e, ?_, ?_⟩
  ·have:=eC (λl=>l[0]?) h.2;simp only[gD]at this;rw[aR (by omega),x]at this;simpa[cV]using this
  ·have:=eC (λl=>l[1]?) h.2;simp only[gD]at this;rw[aR (by omega),w]at this;simpa[cV]using this
 ·rintro⟨e,a,b⟩;have w:s.data.toList[1]? =some s[1]:=p9 s 1 e;simp only[cY,cX,sQ];refine⟨by omega, ?_⟩;refine List.ext_getElem? λi=> ?_;rw[gD]
  match i with
  |0=>rw[aR (by omega),x,a];rfl
  |1=>rw[aR (by omega),w,b];rfl
  |i+2=>rw[aN (by omega)];rfl
theorem FW(c:UInt8):((c.toNat:Int).toNat).toUInt8=c:=by simp
theorem Y4(s:ByteArray)(g:0<s.size)(i:s.size<=300)(w:World):Calls prog 174 #[.string s] w λe x=>e= .returned (.tuple #[.int .i64 ((mD s.data.toList 0:Nat):Int), .int .i64 (((kQ s.data.toList 0).length:Nat):Int)])/\x=w:=by
 have D:s.data.toList.length=s.size:=by rw[eH];rfl
 cases b:low s[0]with
 |true=>
  have a:=Aa s 0 g b;have p:=kN eI s.data.toList 0 (by omega);have f:upto eI s.data.toList 0=run eI s.data.toList:=by simp[upto]
  rw[f]at a p;have d:=pY s.data.toList 0 (run eI s.data.toList) (by omega) (by omega);by_cases u:8<run eI s.data.toList
  ·have k:mD s.data.toList 0=1:=by simp[mD,a,eE,bK];omega
   have t:kQ s.data.toList 0=[]:=by simp[kQ,k]
   have o:(8:Int)<((run eI s.data.toList:Nat):Int):=by omega
   rw[k,t];go_enter func174,ntmps174;go_wp2_with (first|(go_at_call 212;refine(pK _ _).mono ?_;rintro e x ⟨rfl,rfl⟩;rw[b])|(go_at_call 172;refine(OI _ i _).mono ?_;rintro e x ⟨rfl,rfl⟩)|go_in)
   go_ret2
   exact⟨rfl,rfl⟩
  ·have k:mD s.data.toList 0=2:=by simp[mD,a,eE,bK];omega
   have t:(kQ s.data.toList 0).length=run eI s.data.toList:=by simp[kQ,k,a,d]
   have o:¬(8:Int)<((run eI s.data.toList:Nat):Int):=by omega
   rw[k,t];go_enter func174,ntmps174;go_wp2_with (first|(go_at_call 212;refine(pK _ _).mono ?_;rintro e x ⟨rfl,rfl⟩;rw[b])|(go_at_call 172;refine(OI _ i _).mono ?_;rintro e x ⟨rfl,rfl⟩)|go_in)
   go_ret2
   exact⟨rfl,rfl⟩
 |false=>
  cases c:qO s[0]with
  |true=>
   have a:=Iz s 0 g b c;have p:=kN qO s.data.toList 0 (by omega);have f:upto qO s.data.toList 0=run qO s.data.toList:=by simp[upto]
   rw[f]at a p;have d:=pY s.data.toList 0 (run qO s.data.toList) (by omega) (by omega);by_cases u:8<run qO s.data.toList
   ·have k:mD s.data.toList 0=1:=by simp[mD,a,eE,bK,dS];omega
    have t:kQ s.data.toList 0=[]:=by simp[kQ,k]
    have o:(8:Int)<((run qO s.data.toList:Nat):Int):=by omega
    rw[k,t];go_enter func174,ntmps174;go_wp2_with (first|(go_at_call 212;refine(pK _ _).mono ?_;rintro e x ⟨rfl,rfl⟩;rw[b])|(go_at_call 215;refine(sC _ _).mono ?_;rintro e x ⟨rfl,rfl⟩;rw[c])|(go_at_call 172;refine(TH _ i _).mono ?_;rintro e x ⟨rfl,rfl⟩)|go_in)
    go_ret2
    exact⟨rfl,rfl⟩
   ·have k:mD s.data.toList 0=3:=by simp[mD,a,eE,bK,dS];omega
    have t:(kQ s.data.toList 0).length=run qO s.data.toList:=by simp[kQ,k,a,d]
    have o:¬(8:Int)<((run qO s.data.toList:Nat):Int):=by omega
    rw[k,t];go_enter func174,ntmps174;go_wp2_with (first|(go_at_call 212;refine(pK _ _).mono ?_;rintro e x ⟨rfl,rfl⟩;rw[b])|(go_at_call 215;refine(sC _ _).mono ?_;rintro e x ⟨rfl,rfl⟩;rw[c])|(go_at_call 172;refine(TH _ i _).mono ?_;rintro e x ⟨rfl,rfl⟩)|go_in)
    go_ret2
    exact⟨rfl,rfl⟩
  |false=>
   by_cases j:(decide (2<=s.size)&&(s.data.toList.take 2==cV))=true
   ·have a:lO s.data.toList 0=(cV,2):=by obtain⟨m,n,f⟩:=(DU s g).1 j;exact ue s 0 g m b c n f
    have k:mD s.data.toList 0=4:=by simp[mD,a,eE,bK,dS,dZ,cV]
    have d:=pY s.data.toList 0 2 (by omega) (by obtain⟨m,_⟩:=(DU s g).1 j;omega);have t:(kQ s.data.toList 0).length=2:=by simp[kQ,k,a,d]
    rw[k,t];go_enter func174,ntmps174;go_wp2_with (first|(go_at_call 212;refine(pK _ _).mono ?_;rintro e x ⟨rfl,rfl⟩;rw[b])|(go_at_call 215;refine(sC _ _).mono ?_;rintro e x ⟨rfl,rfl⟩;rw[c])|(go_at_call 240;refine(DT _ i _).mono ?_;rintro e x ⟨rfl,rfl⟩;rw[j])|go_in)
    go_ret2
    exact⟨rfl,rfl⟩
   ·have q:(decide (2<=s.size)&&(s.data.toList.take 2==cV))=false:=by simpa using j
    have r:=uf s 0 g b c (λn m f=>j ((DU s g).2 ⟨m,n,f⟩));by_cases l:s[0]∈qX
    ·have a:lO s.data.toList 0=([s[0]],1):=by rw[r,aR l]
     obtain⟨E,F,G,y,z,A,C,H⟩:=mz s[0] l;have k:mD s.data.toList 0=4:=by simp[mD,a,y,z,A,C]
     have d:=pY s.data.toList 0 1 (by omega) (by omega);have t:(kQ s.data.toList 0).length=1:=by simp[kQ,k,a,d]
     have v:(0:Int)<=Lib.indexByte [61,40,41,44,91,93] s[0]:=(fp s[0] qX).2 l;rw[k,t];go_enter func174,ntmps174;go_wp2_with (first|(go_at_call 212;refine(pK _ _).mono ?_;rintro e x ⟨rfl,rfl⟩;rw[b])|(go_at_call 215;refine(sC _ _).mono ?_;rintro e x ⟨rfl,rfl⟩;rw[c])|(go_at_call 240;refine(DT _ i _).mono ?_;rintro e x ⟨rfl,rfl⟩;rw[q])|(go_at_call 241;refine(ng _ _ _).mono ?_;rintro e x ⟨rfl,rfl⟩;rw[FW])|go_in)
     go_ret2
     exact⟨rfl,rfl⟩
    ·have a:lO s.data.toList 0=(dZ,0):=by rw[r,aN l]
     have k:mD s.data.toList 0=1:=by simp[mD,a,eE,bK,dS,dZ]
     have t:kQ s.data.toList 0=[]:=by simp[kQ,k]
     have v:¬(0:Int)<=Lib.indexByte [61,40,41,44,91,93] s[0]:=λh=>l ((fp s[0] qX).1 h);rw[k,t];go_enter func174,ntmps174;go_wp2_with (first|(go_at_call 212;refine(pK _ _).mono ?_;rintro e x ⟨rfl,rfl⟩;rw[b])|(go_at_call 215;refine(sC _ _).mono ?_;rintro e x ⟨rfl,rfl⟩;rw[c])|(go_at_call 240;refine(DT _ i _).mono ?_;rintro e x ⟨rfl,rfl⟩;rw[q])|(go_at_call 241;refine(ng _ _ _).mono ?_;rintro e x ⟨rfl,rfl⟩;rw[FW])|go_in)
     go_ret2
     exact⟨rfl,rfl⟩
theorem JM(s:ByteArray)(i:Nat)(h:i<=s.size):(s.extract i s.size).data.toList=s.data.toList.drop i/\(s.extract i s.size).size=s.size-i:=by
 have e:=N5 s i s.size;have w:s.data.toList.length=s.size:=by rw[eH];rfl
 constructor
 ·rw[e];show cut s.data.toList i s.size=_;unfold cut;rw[iV (by omega)]
 ·rw[ByteArray.size_extract];omega
theorem YA(l:aA)(J:Nat):lO (l.drop J) 0=((lO l J).1,(lO l J).2-J):=by
 have h:(l.drop J)[0]? =l[J]? :=by rw[eJ];simp
 have e:(l.drop J)[0+1]? =l[J+1]? :=by rw[eJ]
 unfold lO;rw[h,e]
 cases l[J]? with
 |none=>simp
 |some c=>
  dsimp only;split
  ·simp[upto]
  split
  ·simp[upto]
  split
  ·simp
  split
  ·simp
  ·simp
theorem YB(l:aA)(J:Nat):mD (l.drop J) 0=mD l J:=by unfold mD;rw[YA];simp
theorem Ag(l:aA)(J:Nat)(h:J<=(lO l J).2):kQ (l.drop J) 0=kQ l J:=by
 unfold kQ;rw[YB,YA];split
 ·rfl
 ·unfold cut;dsimp only;rw[zo,List.take_drop];congr 2;omega
def VF(k:Nat)(t:aA)(p:Nat):Value:= .agg #[.int .i64 (k:Int), .string (B t), .int .i64 (p:Int)]
theorem FX(s:ByteArray)(i:Nat)(f:i<=s.size)(C:s.size<=300)(w:World):Calls prog 130 #[.string s, .int .i64 (i:Int)] w λe h=>e= .returned (VF (mD s.data.toList (upto mS s.data.toList i)) (kQ s.data.toList (upto mS s.data.toList i)) (upto mS s.data.toList i))/\w.grownBy h none:=by
 have m:s.data.toList.length=s.size:=by rw[eH];rfl
 obtain⟨J,x⟩:∃J,J=upto mS s.data.toList i:=⟨_,rfl⟩;have a:=kN mS s.data.toList i (by omega)
 have g:run mS (s.extract i s.size).data.toList=J-i:=by rw[(JM s i f).1,x];simp[upto]
 rw[<-x]at a⊢;rw[m]at a;obtain⟨o,d⟩:=a;have D:=(JM s i f).2;have q:(i:Int)+((J-i:Nat):Int)=(J:Int):=by omega
 have b:=Ab s J d;clear x;by_cases r:J=s.size
 ·have k:mD s.data.toList J=0:=by rw[mD,Iy s J (by omega)];simp
  have t:kQ s.data.toList J=[]:=by simp[kQ,k]
  rw[k,t];go_enter func130,ntmps130;go_wp2_with (first|(go_at_call 172;refine(TG _ (by omega) _).mono ?_;rintro e h ⟨rfl,rfl⟩;rw[g]));refine eN (v:=VF 0 [] J) (by simp[results,results130,go_sem];rw[show(i:Int)+((s.size-i:Nat):Int)=(J:Int)from by omega];rfl) rfl ?_;exact⟨rfl,aO _ _ _⟩
 ·have p:J<s.size:=by omega
  have A:((J:Int)==(s.size:Int))=false:=by simp;omega
  have c:=JM s J d;have l:mD (s.extract J s.size).data.toList 0=mD s.data.toList J:=by rw[c.1];exact YB _ _
  have n:kQ (s.extract J s.size).data.toList 0=kQ s.data.toList J:=by rw[c.1];exact Ag _ _ b.1
  have y:(kQ s.data.toList J).length<=s.size-J:=by
   unfold kQ;split
   ·simp
   ·rw[pY _ _ _ b.1 (by omega)];omega
  have F:s.extract J (J+(kQ s.data.toList J).length)=B (kQ s.data.toList J):=by
   rw[N5];congr 1;unfold kQ;split
   ·simp[cut]
   ·rw[pY _ _ _ b.1 (by omega)];congr 1;omega
  generalize u:mD s.data.toList J=kk at*;generalize E:kQ s.data.toList J=j at*;have z:(J:Int)+(j.length:Int)<=(s.size:Int):=by omega
  go_enter func130,ntmps130;go_wp2_with (first|(go_at_call 172;refine(TG _ (by omega) _).mono ?_;rintro e h ⟨rfl,rfl⟩;rw[g])|(go_at_call 174;refine(Y4 _ (by omega) (by omega) _).mono ?_;rintro e h ⟨rfl,rfl⟩;rw[l,n]));refine eN (v:=VF kk j J) ?_ rfl ?_
  ·simp[results,results130,go_sem];rfl
  exact⟨rfl,aO _ _ _⟩
def Wf(T:List fI):Prop:=0<T.length/\∀k,k<T.length->((tk T k).is=dZ\/(tk T k).is=eE↔k+1=T.length)
theorem Wf.up{T:List fI}(h:Wf T){s:St}{x:aA}(c:s.k<T.length)(w:fW T s x=true)(a:x≠dZ)(b:x≠eE):s.k+1<T.length:=by
 have e:(tk T s.k).is=x:=by simp only[fW,cY,sQ]at w;exact w.2
 rcases bZ (s.k+1) T.length with d|f
 ·exact d
 ·have:=(h.2 s.k c).2 (by omega);rw[e]at this;exact absurd this (by simp[a,b])
theorem Wf.need{T:List fI}(h:Wf T){s:St}{x:aA}(e:s.k<T.length)(w:x≠dZ)(a:x≠eE):(cL T s x).k<T.length:=by
 unfold cL;split
 ·rename_i b;exact h.up e b w a
 ·exact e
theorem eB{e:Nat}{w:World}(h:gX e w w'){b o:Nat}(x:b<w.heap.size)(c:b≠e):w'.cell? ⟨b,o,none⟩=w.cell? ⟨b,o,none⟩:=
 bT (a:=⟨b,o,none⟩) (h.block b x (by simp;exact c))
def At(h:aD)(l:aA)(T:List fI)(k J:Nat):Prop:=
 J<=l.length/\∃f,l.length<=J+f/\T.drop k=if(fL h l J).1.is=dZ\/(fL h l J).1.is=eE then [(fL h l J).1]else(fL h l J).1::iO h l f (fL h l J).2
theorem At.start(h:aD)(l:aA):At h l (iO h l (l.length+1) 0) 0 (upto mS l 0):=by refine⟨(kN mS l 0 (by omega)).2,l.length,by omega, ?_⟩;rw[zo,iO]
theorem At.cons{e:aD}{l:aA}{T:List fI}{J:Nat}(h:At e l T k J):∃r,T.drop k=(fL e l J).1::r:=by
 obtain⟨_,f,_,w⟩:=h;rw[w];split
 ·exact⟨_,rfl⟩
 ·exact⟨_,rfl⟩
theorem At.lt{x:aD}{l:aA}{T:List fI}{J:Nat}(h:At x l T k J):k<T.length:=by
 obtain⟨r,w⟩:=h.cons;rcases bZ k T.length with e|e
 ·exact e
 ·rw[iW e]at w;cases w
theorem At.tk{e:aD}{l:aA}{T:List fI}{J:Nat}(h:At e l T k J):tk T k=(fL e l J).1:=by
 obtain⟨r,w⟩:=h.cons;have:(T.drop k)[0]? =some (fL e l J).1:=by rw[w];rfl
 rw[eJ]at this;simp only[XN]at this;unfold Proofs.YtcdijppegfcoaaaGreatDoor.tk;rw[aW,this];rfl
theorem At.next{e:aD}(i:ui e){l:aA}{T:List fI}{J:Nat}(h:At e l T k J)(w:(Proofs.YtcdijppegfcoaaaGreatDoor.tk T k).is≠dZ)(x:(Proofs.YtcdijppegfcoaaaGreatDoor.tk T k).is≠eE):
  At e l T (k+1) (upto mS l (J+(kQ l J).length))/\J+(kQ l J).length<=l.length:=by
 have j:=h.tk;have g:=s9 e i l J h.1;rw[j]at w x;obtain⟨q,n,o,b⟩:=g.real w x;obtain⟨_,f,p,a⟩:=h;rw[aN (by simp[w,x])]at a;rw[n]at a o b;have m:=kN mS l (J+(kQ l J).length) b;refine⟨⟨m.2,f-1,by omega, ?_⟩,b⟩;have d:T.drop (k+1)=(T.drop k).drop 1:=by rw[zq]
 rw[d,a];obtain⟨c,rfl⟩:∃c,f=c+1:=⟨f-1,by omega⟩;rw[List.drop_succ_cons,zo,iO];rfl
def XH(w:World)(h:Nat)(s:ByteArray)(J:Nat):Prop:=
 w.heap[h]? =some (.cells #[.string s, .int .i64 ((mD s.data.toList J:Nat):Int), .string (B (kQ s.data.toList J)), .int .i64 (J:Int)] 274 (0,0))
theorem sT{w:World}{b:Nat}{p q r s:Value}{t:TypeId}(h:w.heap[b]? =some (.cells #[p,q,r,s] t (0,0))):
  w.cell? ⟨b,0,none⟩=some p/\w.cell? ⟨b,1,none⟩=some q/\w.cell? ⟨b,2,none⟩=some r/\w.cell? ⟨b,3,none⟩=some s/\w.frozen? ⟨b,1,none⟩=false/\w.frozen? ⟨b,2,none⟩=false/\w.frozen? ⟨b,3,none⟩=false:=by
 simp[World.cell?,World.frozen?,h]
theorem Ah{w:World}{b:Nat}{p q r s:Value}{t:TypeId}(h:w.heap[b]? =some (.cells #[p,q,r,s] t (0,0)))(x y z:Value):
  (((w.setCell ⟨b,1,none⟩ x).setCell ⟨b,2,none⟩ y).setCell ⟨b,3,none⟩ z).heap[b]? =some (.cells #[p,x,y,z] t (0,0)):=by
 simp[World.setCell,dN,h]
theorem gX.of0{w:World}(x:Nat)(h:w.grownBy w' none):gX x w w':=⟨h.os,h.tape,h.output,h.size,λi e _=>h.block i e (by simp)⟩
theorem Ai(k:Nat)(t:aA)(p:Nat)(b:t.length<=300)(a:p<=300)(w:World):
  Calls prog 218 #[VF k t p] w λe h=>e= .returned (.int .i64 ((p+t.length:Nat):Int))/\h=w.alloc (.cells #[.int .i64 (k:Int), .string (B t), .int .i64 (p:Int)] 271):=by
 have x:(B t).size=t.length:=by simp[B,ByteArray.size]
 unfold VF;go_enter func218,ntmps218;go_wp2;go_ret;exact⟨by rw[Int.natCast_add];rfl,rfl⟩
theorem OJ(w:World)(a:Nat)(s:ByteArray)(J:Nat)(p:s.size<=300)(h:XH w a s J)(m:J+(kQ s.data.toList J).length<=s.size):
  Calls prog 175 #[.pointer (some ⟨a,0,none⟩)] w λe g=>e= .returned (.string (B (kQ s.data.toList J)))/\XH g a s (upto mS s.data.toList (J+(kQ s.data.toList J).length))/\gX a w g:=by
 have o:=aT h;generalize n:mD s.data.toList J=kk at*;generalize q:kQ s.data.toList J=f at*;have c:w.heap[a]? =some (.cells #[.string s, .int .i64 (kk:Int), .string (B f), .int .i64 (J:Int)] 274 (0,0)):=by rw[<-n,<-q];exact h
 obtain⟨l,u,v,y,z,A,C⟩:=sT c;have t:=λx=>dP l x;have k:=aS c;clear h c;go_enter func175,ntmps175;go_wp2_with fail
 go_region_with (first|(go_at_call 130;refine(FX s (J+f.length) m p _).mono ?_;rintro e H ⟨rfl,d⟩;dsimp only[VF];have b:=(d.block a (by simp;omega) (by simp)).trans ((bQ _ _ _ o).trans k.out);have r:=sT b;have i:=aS b;have j:=aS d;obtain⟨_,_,_,_,D,E,F⟩:=r;clear b d)|(go_at_call 218;refine(Ai kk f J (by omega) (by omega) _).mono ?_;rintro e G ⟨rfl,rfl⟩))
 all_goals
  go_wp2;go_ret;exact⟨rfl,Ah i.out _ _ _,(((((((gX.refl a w).alloc _).drew).trans (gX.of0 a j.out)).setCell _ _).setCell _ _).setCell _ _)⟩
def dL:List aA:=[dO,iP,gV,zV,BE,xA,pJ,oN]
theorem gZ:ui dL:=by intro x h;simp only[dL,bH,cE,eK]at h;rcases h with rfl|rfl|rfl|rfl|rfl|rfl|rfl|rfl<;>exact⟨_,_,rfl,by decide,by decide,by decide,by decide,by decide,by decide⟩
structure sX(kw:aD)(w:World)(rb:Nat)(s:ByteArray)(T:List fI)(st:St):Prop where
 neg:st.bad<0
 place:∃J,At kw s.data.toList T st.k J/\XH w rb s J
 size:s.size<=300
theorem sX.lt{a:aD}{w:World}{e:Nat}{s:ByteArray}{T:List fI}{b:St}(h:sX a w e s T b):e<w.heap.size:=by obtain⟨J,_,x⟩:=h.place;exact aT x
theorem sX.klt{a:aD}{w:World}{b:Nat}{s:ByteArray}{T:List fI}{e:St}(h:sX a w b s T e):e.k<T.length:=by obtain⟨J,x,_⟩:=h.place;exact x.lt
theorem sX.grown{x:aD}{w:World}{e:Nat}{s:ByteArray}{T:List fI}{a:St}(h:sX x w e s T a)(g:w.grownBy w' none):sX x w' e s T a:=by have i:=h.lt;obtain⟨b,⟨J,c,d⟩,f⟩:=h;exact⟨b,⟨J,c,by unfold XH;rw[g.block e i (by simp)];exact d⟩,f⟩
theorem sX.alloc{e:aD}{w:World}{x:Nat}{s:ByteArray}{T:List fI}{st:St}(h:sX e w x s T st)(o:Obj):sX e (w.alloc o) x s T st:=h.grown (aO _ _ _)
theorem sX.drew{e:aD}{w:World}{x:Nat}{s:ByteArray}{T:List fI}{a:St}(h:sX e w x s T a):sX e w.drew x s T a:=⟨h.neg,h.place,h.size⟩
def eA(b:Nat):Ending:= .panicked [{v:= .iface 268 (.agg #[.iface 134 (.pointer (some ⟨b,0,none⟩))]),recovered:=false}]
def FY(h:World)(e:Ending)(p:Int):Prop:=∃b,e=eA b/\h.heap[b]? =some (.cells #[.int .i64 p] 145 (0,0))
theorem A4(w:World)(x:Nat)(s:ByteArray)(J:Nat)(h:XH w x s J):
  Calls prog 131 #[.pointer (some ⟨x,0,none⟩)] w λe a=>FY a e J/\w.grownBy a none:=by
 have k:=aT h;obtain⟨b,c,d,f,g,i,j⟩:=sT h;go_enter func131,ntmps131;go_wp2;exact⟨rfl,⟨_,rfl,bY _ _⟩,aO _ _ _⟩
theorem fq(t x:aA):((B t).toList==(B x).toList)=decide (t=x):=by rw[iZ,iZ];by_cases h:t=x<;>simp[h]
theorem oT(g:aD)(n:ui g)(w:World)(i:Nat)(s:ByteArray)(T:List fI)(d:St)(x:aA)(h:sX g w i s T d)(a:x∈g\/x∈fm):
  Calls prog 132 #[.pointer (some ⟨i,0,none⟩), .string (B x)] w λe u=>e= .returned (.bool (fW T d x))/\sX g u i s T (pW T d x)/\gX i w u:=by
 obtain⟨p,⟨J,m,r⟩,t⟩:=h;have I:s.data.toList.length=s.size:=by rw[eH];rfl
 have l:=s9 g n s.data.toList J m.1
 have f:kQ s.data.toList J=x↔(tk T d.k).is=x:=by
  rw[m.tk];rcases a with a|a
  ·exact l.word x a
  ·exact l.sign x a
 obtain⟨N,O,G,P,Q,R,S⟩:=sT r;have y:=aS r;have v:=aS m;have M:=aS l;clear r m l;by_cases b:kQ s.data.toList J=x
 ·have c:fW T d x=true:=by simp[fW,p,f.1 b]
  have o:x≠dZ/\x≠eE:=by
   rcases a with a|a
   ·obtain⟨_,_,_,_,_,_,_,K,L⟩:=n x a;exact⟨L,K⟩
   ·exact⟨(A0 x a).2.2.2,(A0 x a).1⟩
  have q:=v.next n (by rw[f.1 b];exact o.1) (by rw[f.1 b];exact o.2);have D:=aS (OJ w i s J t y.out (by rw[<-I];exact q.2));have C:=aS q;rw[b]at G;have H:((B x).toList==(B x).toList)=true:=by simp
  rw[c];have j:=aS c;clear q f b c o;go_enter func132,ntmps132;go_wp2_with (go_at_call 175;refine D.mono ?_;rintro e u ⟨rfl,z,A⟩;have E:=aS z;have F:=aS A;clear z A);go_ret;refine⟨rfl,⟨?_,⟨_, ?_,E.out⟩,t⟩,F.out⟩
  ·unfold pW;rw[aR j.out];exact p
  ·unfold pW;rw[aR j.out];exact C.1
 ·have c:fW T d x=false:=by have:¬(tk T d.k).is=x:=λe=>b (f.2 e);simp[fW,this]
  have H:((B (kQ s.data.toList J)).toList==(B x).toList)=false:=by rw[fq];simp[b]
  rw[c];have j:=aS c;clear f c;go_enter func132,ntmps132;go_wp2;go_ret;refine⟨rfl, ?_,gX.refl _ _⟩;unfold pW;rw[aN (by rw[j.out];decide)];exact⟨p,⟨J,v.out,y.out⟩,t⟩
def Tw(c:aD)(w x:World)(a:Nat)(s:ByteArray)(T:List fI)(h:St)(e:Ending)(b:Prop):Prop:=
 gX a w x/\((b/\sX c x a s T h)\/(0<=h.bad/\FY x e h.bad))
theorem VG{T:List fI}{s:St}{x:aA}(h:fW T s x=true):(tk T s.k).is=x:=by simp only[fW,cY,sQ]at h;exact h.2
theorem sD{T:List fI}{e:St}{x:aA}(h:fW T e x=true):cL T e x=pW T e x:=by unfold cL pW;rw[aR h,aR h]
theorem yA{T:List fI}{e:St}{x:aA}(w:e.bad<0)(h:fW T e x=false):cL T e x=⟨e.k,((tk T e.k).pos:Int)⟩:=by unfold cL;rw[aN (by rw[h];decide),aR w]
theorem nO{T:List fI}{e:St}{x:aA}(h:fW T e x=false):pW T e x=e:=by unfold pW;rw[aN (by rw[h];decide)]
theorem jN{T:List fI}{e:St}{x:aA}(h:fW T e x=true):pW T e x=e.up:=by unfold pW;rw[aR h];rfl
theorem rE(a:aD)(t:ui a)(w:World)(c:Nat)(s:ByteArray)(T:List fI)(d:St)(x:aA)(h:sX a w c s T d)(F:x∈a\/x∈fm):
  Calls prog 177 #[.pointer (some ⟨c,0,none⟩), .string (B x)] w λe m=>Tw a w m c s T (cL T d x) e (e= .returned (.tuple #[])):=by
 have E:=h.neg;have l:=aS (oT a t w c s T d x h F);clear h
 cases f:fW T d x with
 |true=>
  rw[f]at l;have j:=aS f;clear f;go_enter func177,ntmps177;go_wp2_with (go_at_call 132;refine l.mono ?_;rintro e m ⟨rfl,g,i⟩;have n:=aS g;have o:=aS i;clear g i)
  first|go_end0|skip
  exact⟨o.out,aQ ⟨rfl,by rw[sD j.out];exact n.out⟩⟩
 |false=>
  rw[f]at l;have j:=aS f;clear f;go_enter func177,ntmps177;go_wp2_with (go_at_call 132;refine l.mono ?_;rintro e m ⟨rfl,g,i⟩;have n:=aS g;have o:=aS i;clear g i);have z:sX a m c s T d:=by have:=n.out;rw[nO j.out]at this;exact this
  obtain⟨J,p,v⟩:=z.place;have y:=p.tk;have u:=(s9 a t s.data.toList J p.1).pos;refine(A4 _ c s J v).mono ?_;rintro e G ⟨⟨b,rfl,q⟩,r⟩;have A:=aS q;have C:=aS r;have D:=aS (show((tk T d.k).pos:Int)=(J:Int) by rw[y,u]);clear q r y u p v z;unfold eA;go_wp2;refine⟨rfl,o.trans (gX.of0 c C.out),aM ?_⟩;rw[yA E j.out];refine⟨by simp,b,rfl, ?_⟩;show G.heap[b]? =some (Obj.cells #[Value.int .i64 ((tk T d.k).pos:Int)] _ (0,0));rw[D.out];exact A.out
theorem vC(t:aA)(w:World):Calls prog 166 #[.string (B t)] w λe l=>e= .returned (.bool (decide (t∈dL)))/\l=w:=by
 by_cases h:t∈dL
 ·have a:=h;simp only[dL,bH,cE,eK]at a;have x:decide (t∈dL)=true:=by simp[h]
  rw[x];clear h x;rcases a with rfl|rfl|rfl|rfl|rfl|rfl|rfl|rfl<;>
  ·unfold B;go_enter func166,ntmps166;go_wp2;go_ret;exact⟨rfl,rfl⟩
 ·have x:decide (t∈dL)=false:=by simp[h]
  rw[x];simp only[dL,bH,cE,eK,not_or]at h;obtain⟨b,c,d,f,g,i,j,k⟩:=h;have m:((B t).toList==[102,117,110])=false:=by rw[iZ];exact dV.2 b
  have n:((B t).toList==[108,101,116])=false:=by rw[iZ];exact dV.2 c
  have o:((B t).toList==[114,101,99])=false:=by rw[iZ];exact dV.2 d
  have p:((B t).toList==[97,110,100])=false:=by rw[iZ];exact dV.2 f
  have q:((B t).toList==[105,110])=false:=by rw[iZ];exact dV.2 g
  have r:((B t).toList==[105,102])=false:=by rw[iZ];exact dV.2 i
  have s:((B t).toList==[116,104,101,110])=false:=by rw[iZ];exact dV.2 j
  have u:((B t).toList==[101,108,115,101])=false:=by rw[iZ];exact dV.2 k
  clear b c d f g i j k;go_enter func166,ntmps166;go_wp2;go_ret;exact⟨rfl,rfl⟩
def A5(h:Nat):Value:= .agg #[.pointer (some ⟨h,0,none⟩)]
theorem OL(w:World)(q:Nat)(s:ByteArray)(T:List fI)(c:St)(h:sX dL w q s T c):
  Calls prog 219 #[A5 q] w λe l=>e= .returned (.bool (fW T c bK))/\w.grownBy l none:=by
 obtain⟨z,⟨J,g,j⟩,F⟩:=h;have o:=s9 dL gZ s.data.toList J g.1;have b:=o.name;rw[<-g.tk]at b;have D:=aT j;obtain⟨r,m,n,t,u,v,y⟩:=sT j;have A:=λx=>dP m x;have C:=λx=>dP n x;clear r m n t u v y;generalize mD s.data.toList J=kk at*;generalize kQ s.data.toList J=f at*;clear j g o;unfold A5;by_cases p:kk=2
 ·subst p;by_cases d:f∈dL
  ·have a:fW T c bK=false:=by have:¬(tk T c.k).is=bK:=λe=>(b.2 e).2 d;simp[fW,this]
   rw[a];have i:decide (f∈dL)=true:=by simp[d]
   clear b a d;go_enter func219,ntmps219;go_wp2_with (go_at_call 166;refine(vC f _).mono ?_;rintro e l ⟨rfl,rfl⟩;rw[i]);go_ret;exact⟨rfl,aO _ _ _⟩
  ·have a:fW T c bK=true:=by simp[fW,z,b.1 ⟨rfl,d⟩]
   rw[a];have i:decide (f∈dL)=false:=by simp[d]
   clear b a d;go_enter func219,ntmps219;go_wp2_with (go_at_call 166;refine(vC f _).mono ?_;rintro e l ⟨rfl,rfl⟩;rw[i]);go_ret;exact⟨rfl,aO _ _ _⟩
 ·have a:fW T c bK=false:=by have:¬(tk T c.k).is=bK:=λe=>p (b.2 e).1;simp[fW,this]
  rw[a];have E:((kk:Int)==2)=false:=by simp;omega
  clear b a;go_enter func219,ntmps219;go_wp2;go_ret;exact⟨rfl,aO _ _ _⟩
theorem Aj(w:World)(x:Nat)(s:ByteArray)(T:List fI)(d:St)(h:sX dL w x s T d):
  Calls prog 176 #[A5 x] w λe A=>Tw dL w A x s T (cL T d bK) e (e= .returned (.string (B (tk T d.k).s))):=by
 have t:=h.neg;have P:=h.lt;have v:=h.size;have M:s.data.toList.length=s.size:=by rw[eH];rfl
 have g:=aS (h.alloc (.cells #[.pointer (some ⟨x,0,none⟩)] 182));clear h;unfold A5;go_enter func176,ntmps176;go_wp2_with fail;refine(OL _ x s T d g.out).mono ?_;rintro e p ⟨rfl,f⟩
 have O:p.cell? ⟨w.heap.size,0,none⟩=some (.pointer (some ⟨x,0,none⟩)):=by rw[bT (a:=⟨w.heap.size,0,none⟩) (f.block w.heap.size (by simp) (by simp))];simp[go_sem]
 have L:=g.grown f;have q:=aS (((gX.refl x w).alloc (.cells #[.pointer (some ⟨x,0,none⟩)] 182)).trans (gX.of0 x f));clear f g;obtain⟨_,⟨J,c,n⟩,_⟩:=L;have m:=s9 dL gZ s.data.toList J c.1
 cases i:fW T d bK with
 |true=>
  have j:=(VG i);have o:=c.next gZ (by rw[j];decide) (by rw[j];decide);have u:=m.real (by rw[<-c.tk,j];decide) (by rw[<-c.tk,j];decide);have H:=aS (OJ p x s J v n (by rw[<-M];exact o.2));have E:=aS o.1;have C:=aS (show kQ s.data.toList J=(tk T d.k).s by rw[c.tk];exact u.1);have l:=aS i;clear o u c n m i j;go_wp2_with (go_at_call 175;refine H.mono ?_;rintro e A ⟨rfl,y,z⟩;have I:=aS y;have K:=aS z;clear y z);go_ret;refine⟨q.trans K.out,aQ ⟨?_, ?_⟩⟩
  ·show Ending.returned (.string (B (kQ s.data.toList J)))=_;rw[C.out]
  ·rw[sD l.out,jN l.out];exact⟨t,⟨_,E.out,I.out⟩,v⟩
 |false=>have l:=aS i;have F:=aS (show((tk T d.k).pos:Int)=(J:Int) by rw[c.tk,m.pos]);have G:=aS (A4 p x s J n);clear c n m i;go_wp2_with fail;refine G.mono ?_;rintro e N ⟨⟨b,rfl,r⟩,f⟩;have g:=aS r;have D:=aS f;clear r f;unfold eA;go_wp2;refine⟨rfl,q.trans (gX.of0 x D.out),aM ?_⟩;rw[yA t l.out];refine⟨by simp,b,rfl, ?_⟩;show N.heap[b]? =some (Obj.cells #[Value.int .i64 ((tk T d.k).pos:Int)] _ (0,0));rw[F.out];exact g.out
def zB(T:List fI)(t:St):Bool:=fW T t bK||(fW T t dS||fW T t eD)
theorem Ak(w:World)(g:Nat)(s:ByteArray)(T:List fI)(x:St)(h:sX dL w g s T x):
  Calls prog 182 #[A5 g] w λe G=>e= .returned (.bool (zB T x))/\w.grownBy G none:=by
 have t:=h.neg;have M:=h.lt;have l:=aS (h.alloc (.cells #[.pointer (some ⟨g,0,none⟩)] 182));clear h;unfold A5;go_enter func182,ntmps182;go_wp2_with fail;refine(OL _ g s T x l.out).mono ?_;rintro e H ⟨rfl,j⟩
 have L:H.cell? ⟨w.heap.size,0,none⟩=some (.pointer (some ⟨g,0,none⟩)):=by rw[bT (a:=⟨w.heap.size,0,none⟩) (j.block w.heap.size (by simp) (by simp))];simp[go_sem]
 have F:=l.grown j;have i:=aS ((aO w (.cells #[.pointer (some ⟨g,0,none⟩)] 182) none).trans j);clear j l;obtain⟨_,⟨J,n,v⟩,_⟩:=F;have m:=s9 dL gZ s.data.toList J n.1;have c:=m.num;have d:=m.sign eD (by decide);rw[<-n.tk]at c d;obtain⟨y,I,K,z,A,C,D⟩:=sT v;clear n v m y z A C D;generalize mD s.data.toList J=kk at*;generalize kQ s.data.toList J=q at*
 cases r:fW T x bK with
 |true=>
  have b:zB T x=true:=by simp[zB,r]
  go_wp2;go_ret;exact⟨by rw[b];rfl,i.out⟩
 |false=>
  by_cases o:kk=3
  ·have b:zB T x=true:=by simp[zB,fW,t,c.1 o]
   subst o;clear c d;go_wp2;go_ret;exact⟨by rw[b];rfl,i.out⟩
  ·have N:((kk:Int)==3)=false:=by simp;omega
   have p:fW T x dS=false:=by have:¬(tk T x.k).is=dS:=λe=>o (c.2 e);simp[fW,this]
   by_cases f:q=eD
   ·have b:zB T x=true:=by simp[zB,fW,t,d.1 f]
    have E:((B q).toList==[40])=true:=by rw[iZ,f];rfl
    clear c d p f;go_wp2;go_ret;exact⟨by rw[b];rfl,i.out⟩
   ·have u:fW T x eD=false:=by have:¬(tk T x.k).is=eD:=λe=>f (d.2 e);simp[fW,this]
    have b:zB T x=false:=by simp[zB,r,p,u]
    have E:((B q).toList==[40])=false:=by rw[iZ];exact dV.2 f
    clear c d p u f;go_wp2;go_ret;exact⟨by rw[b];rfl,i.out⟩
def nD:aA:=[105,110,116]
def eU:aA:=[98,111,111,108]
def ft:aA:=[91]
def yx:aA:=[93]
def nF:aA:=[108,105,115,116]
def fN:List aA:=[nD,eU]
structure Ty where
 kind:aA
 var:Nat
 kids:List Ty
def pU(h:aD)(n:aA):Nat×List aA:=if n∈h then(h.idxOf n,h)else(h.length,h++[n])
def lT(A:List aA->St->Option (Ty×List aA×St))(T:List fI)(h:aD)(s:St):Option (Ty×List aA×St):=
 if fW T s nD=true then some (⟨nD,0,[]⟩,h,s.up)
 else if fW T s eU=true then some (⟨eU,0,[]⟩,h,s.up)
 else if fW T s ft=true then match A h s.up with
  |none=>none
  |some (t,n1,e)=>some (⟨nF,0,[t]⟩,n1,cL T e yx)
 else if fW T s eD=true then match A h s.up with
  |none=>none
  |some (t,n1,e)=>
   if fW T e iQ=true then match A n1 e.up with
    |none=>none
    |some (u,n2,w)=>some (⟨eS,0,[t,u]⟩,n2,cL T w eO)
   else some (t,n1,cL T e eO)
 else some (⟨[],(pU h (tk T s.k).s).1,[]⟩,(pU h (tk T s.k).s).2,cL T s bK)
def iK(T:List fI):Nat->List aA->St->Option (Ty×List aA×St)
 |0,_,_=>none
 |n+1,e,s=>match lT (iK T n) T e s with
  |none=>none
  |some (t,n1,h)=>
   if fW T h cV=true then match iK T n n1 h.up with
    |none=>none
    |some (u,n2,w)=>some (⟨dO,0,[t,u]⟩,n2,w)
   else some (t,n1,h)
def cC:Nat->Ty->Nat
 |0,_=>0
 |n+1,t=>1+(t.kids.map (cC n)).sum
def cQ:Nat->Ty->List Nat->List Nat
 |0,_,l=>l
 |n+1,t,l=>if t.kind=[]then(if t.var∈l then l else l++[t.var])else t.kids.foldl (λl x=>cQ n x l) l
def cJ:Nat->List aA->Ty->aA
 |0,_,_=>[]
 |n+1,h,t=>
  if t.kind=[]then h.getD t.var []
  else match t.kids with
   |[a]=>[91]++cJ n h a++[93]
   |[a,b]=>if t.kind=dO then(if a.kind=dO then [40]++cJ n h a++[41]else cJ n h a)++[32,45,62,32]++cJ n h b
     else [40]++cJ n h a++[44,32]++cJ n h b++[41]
   |_=>t.kind
def Pv:Nat->(Nat->Option Obj)->Nat->Ty->Prop
 |0,_,_,_=>False
 |n+1,H,b,t=>∃e h,H b=some (.cells #[.string (B t.kind), .int .i64 (t.var:Int),e] 103 (0,0))/\Xi H 33 e (Xj h)/\
   h.length=t.kids.length/\∀(i:Nat) (x:Ty) (c:Nat),h[i]? =some c->t.kids[i]? =some x->Pv n H c x
theorem YC(l:aC)(j:Nat):(l.take j).sum<=l.sum:=by
 conv=>rhs;rw[<-p8 j l,oH]
 omega
theorem tV{T:List fI}{s:St}{k:aA}(h:fW T s k=true):s.bad<0:=by unfold fW at h;simp at h;exact h.1
theorem j5(T:List fI)(s:St)(k:aA):s.k<=(cL T s k).k/\(cL T s k).k<=s.k+1/\((cL T s k).bad<0->s.bad<0/\(cL T s k).k=s.k+1):=by
 unfold cL;by_cases h:fW T s k=true
 ·rw[aR h];exact⟨by simp,by simp,λ_=>⟨tV h,rfl⟩⟩
 ·rw[aN h];refine⟨by simp,by simp,λw=> ?_⟩;exfalso;by_cases e:s.bad<0
  ·simp only[aR e]at w;omega
  ·simp only[aN e]at w;exact e w
theorem YD(e:aD)(n:aA):e.length<=(pU e n).2.length/\(pU e n).2.length<=e.length+1/\(pU e n).1<(pU e n).2.length:=by
 unfold pU;by_cases h:n∈e
 ·rw[aR h];exact⟨aV _,by simp,iG h⟩
 ·rw[aN h];simp
def Al(e:aD)(s:St)(w:aD)(h:St):Prop:=
 s.k<=h.k/\e.length<=w.length/\w.length+s.k<=e.length+h.k+1/\(h.bad<0->w.length+s.k<=e.length+h.k/\s.k<h.k)
theorem YE{A:List aA->St->Option (Ty×List aA×St)}{T:List fI}(n:∀w s t f g,s.bad<0->A w s=some (t,f,g)->Al w s f g){w:aD}{s:St}{t:Ty}{f:aD}{g:St}(C:s.bad<0)
  (h:lT A T w s=some (t,f,g)):Al w s f g:=by
 unfold lT at h;by_cases q:fW T s nD=true
 ·rw[aR q]at h;cases h;exact⟨by simp[St.up],by simp,by simp[St.up];omega,λ_=>⟨by simp[St.up],by simp[St.up]⟩⟩
 rw[aN q]at h;by_cases u:fW T s eU=true
 ·rw[aR u]at h;cases h;exact⟨by simp[St.up],by simp,by simp[St.up];omega,λ_=>⟨by simp[St.up],by simp[St.up]⟩⟩
 rw[aN u]at h;have L:s.up.k=s.k+1:=rfl;by_cases v:fW T s ft=true
 ·rw[aR v]at h
  cases e:A w s.up with
  |none=>rw[e]at h;cases h
  |some r=>obtain⟨x,E,c⟩:=r;rw[e]at h;cases h;obtain⟨J,p,K,j⟩:=n _ _ _ _ _ (by exact C) e;obtain⟨i,o,b⟩:=j5 T c yx;refine⟨by omega,p,by omega,λa=> ?_⟩;obtain⟨d,D⟩:=b a;have:=j d;omega
 rw[aN v]at h;by_cases z:fW T s eD=true
 ·rw[aR z]at h
  cases e:A w s.up with
  |none=>rw[e]at h;cases h
  |some r=>
   obtain⟨x,E,c⟩:=r;rw[e]at h;obtain⟨J,p,K,j⟩:=n _ _ _ _ _ (by exact C) e;by_cases m:fW T c iQ=true
   ·simp only[aR m]at h;have M:c.up.k=c.k+1:=rfl;have d:=tV m;have S:=j d
    cases l:A E c.up with
    |none=>rw[l]at h;cases h
    |some r2=>obtain⟨y,O,H⟩:=r2;rw[l]at h;cases h;obtain⟨P,Q,R,I⟩:=n _ _ _ _ _ (by exact d) l;obtain⟨i,o,b⟩:=j5 T H eO;refine⟨by omega,by omega,by omega,λa=> ?_⟩;obtain⟨F,D⟩:=b a;have:=I F;omega
   ·simp only[aN m]at h;cases h;obtain⟨i,o,b⟩:=j5 T c eO;refine⟨by omega,p,by omega,λa=> ?_⟩;obtain⟨d,D⟩:=b a;have:=j d;omega
 rw[aN z]at h;cases h;obtain⟨i,o,b⟩:=j5 T s bK;obtain⟨G,N,_⟩:=YD w (tk T s.k).s;refine⟨i,G,by omega,λa=> ?_⟩;have:=(b a).2;omega
theorem tW(T:List fI):∀(n:Nat) (w:aD) (s:St) (t:Ty) (d:aD) (f:St),s.bad<0->iK T n w s=some (t,d,f)->Al w s d f
 |0,_,_,_,_,_,_,h=>by cases h
 |n+1,w,s,t,d,f,hb,h=>by
  unfold iK at h
  cases e:lT (iK T n) T w s with
  |none=>rw[e]at h;cases h
  |some r=>
   obtain⟨x,l,a⟩:=r;rw[e]at h;obtain⟨o,p,q,i⟩:=YE (tW T n) hb e;by_cases c:fW T a cV=true
   ·simp only[aR c]at h;have u:a.up.k=a.k+1:=rfl;have g:=tV c;have E:=i g
    cases b:iK T n l a.up with
    |none=>rw[b]at h;cases h
    |some r2=>obtain⟨y,v,z⟩:=r2;rw[b]at h;cases h;obtain⟨A,C,D,m⟩:=tW T n _ _ _ _ _ (by exact g) b;refine⟨by omega,by omega,by omega,λj=> ?_⟩;have:=m j;omega
   ·simp only[aN c]at h;cases h;exact⟨o,p,q,i⟩
theorem Jd{A:List aA->St->Option (Ty×List aA×St)}{T:List fI}(h:Wf T){n:Nat}(v:∀w s t b x,s.bad<0->A w s=some (t,b,x)->Al w s b x)
  (m:∀w s,s.bad<0->s.k<T.length->T.length-s.k<n->∃t b x,A w s=some (t,b,x)/\x.k<T.length) (w:aD) (s:St) (o:s.bad<0) (c:s.k<T.length) (F:T.length-s.k<n+1):
  ∃t b x,lT A T w s=some (t,b,x)/\x.k<T.length:=by
 have G:s.up.k=s.k+1:=rfl;unfold lT;by_cases g:fW T s nD=true
 ·exact⟨_,_,_,by rw[aR g],h.up c g (by decide) (by decide)⟩
 rw[aN g];by_cases i:fW T s eU=true
 ·exact⟨_,_,_,by rw[aR i],h.up c i (by decide) (by decide)⟩
 rw[aN i];by_cases j:fW T s ft=true
 ·have p:=h.up c j (by decide) (by decide);obtain⟨t,q,a,e,f⟩:=m w s.up o p (by omega);exact⟨_,_,_,by rw[aR j,e],h.need f (by decide) (by decide)⟩
 rw[aN j];by_cases l:fW T s eD=true
 ·have p:=h.up c l (by decide) (by decide);obtain⟨t,q,a,e,f⟩:=m w s.up o p (by omega);have E:=v _ _ _ _ _ (show s.up.bad<0 from o) e;rw[aR l,e];by_cases d:fW T a iQ=true
  ·have y:=h.up f d (by decide) (by decide);have H:a.up.k=a.k+1:=rfl;have:=E.1;obtain⟨u,C,D,r,z⟩:=m q a.up (show a.bad<0 from tV d) y (by omega);exact⟨⟨eS,0,[t,u]⟩,C,cL T D eO,by simp only[aR d,r],h.need z (by decide) (by decide)⟩
  ·exact⟨t,q,cL T a eO,by simp only[aN d],h.need f (by decide) (by decide)⟩
 rw[aN l];exact⟨_,_,_,rfl,h.need c (by decide) (by decide)⟩
theorem VH{T:List fI}(a:Wf T):∀(n:Nat) (b:aD) (s:St),s.bad<0->s.k<T.length->T.length-s.k<n->∃t o f,iK T n b s=some (t,o,f)/\f.k<T.length
 |0,_,_,_,_,h=>by omega
 |n+1,b,s,hb,i,h=>by
  obtain⟨t,d,w,e,c⟩:=Jd a (tW T n) (VH a n) b s hb i h;have q:=YE (tW T n) hb e;unfold iK;rw[e];by_cases x:fW T w cV=true
  ·have j:=a.up c x (by decide) (by decide);have r:w.up.k=w.k+1:=rfl;have:=q.1;obtain⟨u,m,p,g,l⟩:=VH a n d w.up (show w.bad<0 from tV x) j (by omega);exact⟨⟨dO,0,[t,u]⟩,m,p,by simp only[aR x,g],l⟩
  ·exact⟨t,d,w,by simp only[aN x],c⟩
def dJ(N:Nat):Nat->Ty->Prop
 |0,_=>False
 |m+1,t=>(t.kind=[]/\t.var<N/\t.kids=[])\/((t.kind=nD\/t.kind=eU)/\t.var=0/\t.kids=[])\/
   (t.kind=nF/\t.var=0/\∃a,t.kids=[a]/\dJ N m a)\/((t.kind=eS\/t.kind=dO)/\t.var=0/\∃a b,t.kids=[a,b]/\dJ N m a/\dJ N m b)
theorem dJ.up{N:Nat}:∀(m:Nat) (t:Ty),dJ N m t->dJ N (m+1) t
 |0,_,h=>absurd h id
 |m+1,t,h=>by
  rcases h with h|h|⟨e,w,a,x,c⟩|⟨e,w,a,b,x,c,d⟩
  ·exact aQ h
  ·exact aM (aQ h)
  ·exact aM (aM (aQ ⟨e,w,a,x,dJ.up m a c⟩))
  ·exact aM (aM (aM ⟨e,w,a,b,x,dJ.up m a c,dJ.up m b d⟩))
theorem dJ.le{N m e:Nat}{t:Ty}(h:dJ N m t)(w:m<=e):dJ N e t:=by
 induction e with
 |zero=>rw[kW.1 w]at h;exact h
 |succ e x=>
  rcases bZ m (e+1)with b|a
  ·exact dJ.up e t (x (by omega))
  ·rw[show e+1=m from by omega];exact h
theorem dJ.wide{N f:Nat}(d:N<=f):∀(m:Nat) (t:Ty),dJ N m t->dJ f m t
 |0,_,h=>h
 |m+1,t,h=>by
  rcases h with⟨e,x,w⟩|h|⟨e,x,a,w,c⟩|⟨e,x,a,b,w,c,g⟩
  ·exact aQ ⟨e,by omega,w⟩
  ·exact aM (aQ h)
  ·exact aM (aM (aQ ⟨e,x,a,w,dJ.wide d m a c⟩))
  ·exact aM (aM (aM ⟨e,x,a,b,w,dJ.wide d m a c,dJ.wide d m b g⟩))
theorem dJ.size{N:Nat}:∀(m w:Nat) (t:Ty),dJ N m t->m<=w->cC w t=cC m t
 |0,_,_,h,_=>absurd h id
 |m+1,0,_,_,hm=>by omega
 |m+1,w+1,t,h,hm=>by
  rcases h with⟨x,c,e⟩|⟨x,c,e⟩|⟨x,c,a,e,d⟩|⟨x,c,a,b,e,d,f⟩
  ·simp[cC,e]
  ·simp[cC,e]
  ·simp[cC,e,dJ.size m w a d (by omega)]
  ·simp[cC,e,dJ.size m w a d (by omega),dJ.size m w b f (by omega)]
def Pw(t:Ty)(e:aD)(s h:St):Prop:=∃m,dJ e.length m t/\cC m t+s.k<=h.k+1/\(h.bad<0->cC m t+s.k<=h.k)
theorem YF{k:aA}(c:k=eS\/k=dO){a b:Ty}{N h e:Nat}(w:dJ N h a)(x:dJ N e b):∃m,dJ N m ⟨k,0,[a,b]⟩/\cC m ⟨k,0,[a,b]⟩=1+cC h a+cC e b:=by refine⟨max h e+1,aM (aM (aM ⟨c,rfl,a,b,rfl,w.le (gI _ _),x.le (gJ _ _)⟩)), ?_⟩;simp[cC,dJ.size _ _ _ w (gI h e),dJ.size _ _ _ x (gJ h e)];omega
theorem Am{A:List aA->St->Option (Ty×List aA×St)}{T:List fI}(G:∀w s t b c,s.bad<0->A w s=some (t,b,c)->Al w s b c)(n:∀w s t b c,s.bad<0->A w s=some (t,b,c)->Pw t b s c){w:aD}{s:St}{t:Ty}{b:aD}{c:St}(D:s.bad<0)
  (h:lT A T w s=some (t,b,c)):Pw t b s c:=by
 have P:s.up.k=s.k+1:=rfl;unfold lT at h;by_cases u:fW T s nD=true
 ·rw[aR u]at h;cases h;exact⟨1,aM (aQ ⟨aQ rfl,rfl,rfl⟩),by simp[cC];omega,λ_=>by simp[cC];omega⟩
 rw[aN u]at h;by_cases v:fW T s eU=true
 ·rw[aR v]at h;cases h;exact⟨1,aM (aQ ⟨aM rfl,rfl,rfl⟩),by simp[cC];omega,λ_=>by simp[cC];omega⟩
 rw[aN v]at h;by_cases z:fW T s ft=true
 ·rw[aR z]at h
  cases e:A w s.up with
  |none=>rw[e]at h;cases h
  |some r=>
   obtain⟨x,E,a⟩:=r;rw[e]at h;cases h;obtain⟨m,i,N,j⟩:=n _ _ _ _ _ (show s.up.bad<0 from D) e;obtain⟨p,q,f⟩:=j5 T a yx;have F:cC (m+1) ⟨nF,0,[x]⟩=1+cC m x:=by simp[cC]
   refine⟨m+1,aM (aM (aQ ⟨rfl,rfl,x,rfl,i⟩)),by omega,λd=> ?_⟩;have:=j (f d).1;omega
 rw[aN z]at h;by_cases C:fW T s eD=true
 ·rw[aR C]at h
  cases e:A w s.up with
  |none=>rw[e]at h;cases h
  |some r=>
   obtain⟨x,E,a⟩:=r;rw[e]at h;obtain⟨m,i,N,j⟩:=n _ _ _ _ _ (show s.up.bad<0 from D) e;by_cases l:fW T a iQ=true
   ·simp only[aR l]at h;have Q:a.up.k=a.k+1:=rfl;have o:=tV l;have X:=j o
    cases g:A E a.up with
    |none=>rw[g]at h;cases h
    |some r2=>obtain⟨y,V,K⟩:=r2;rw[g]at h;cases h;obtain⟨U,L,W,M⟩:=n _ _ _ _ _ (show a.up.bad<0 from o) g;have H:=G _ _ _ _ _ (show a.up.bad<0 from o) g;obtain⟨p,q,f⟩:=j5 T K eO;obtain⟨J,O,Y⟩:=YF (aQ rfl) (dJ.wide H.2.1 _ _ i) L;refine⟨J,O,by omega,λd=> ?_⟩;have:=M (f d).1;omega
   ·simp only[aN l]at h;cases h;obtain⟨p,q,f⟩:=j5 T a eO;refine⟨m,i,by omega,λd=> ?_⟩;have:=j (f d).1;omega
 rw[aN C]at h;cases h;obtain⟨p,q,f⟩:=j5 T s bK;obtain⟨R,S,I⟩:=YD w (tk T s.k).s;have F:cC 1 ⟨[],(pU w (tk T s.k).s).1,[]⟩=1:=by simp[cC]
 refine⟨1,aQ ⟨rfl,I,rfl⟩,by omega,λd=> ?_⟩;have:=(f d).2;omega
theorem OM(T:List fI):∀(n:Nat) (f:aD) (s:St) (t:Ty) (g:aD) (i:St),s.bad<0->iK T n f s=some (t,g,i)->Pw t g s i
 |0,_,_,_,_,_,_,h=>by cases h
 |n+1,f,s,t,g,i,hb,h=>by
  unfold iK at h
  cases e:lT (iK T n) T f s with
  |none=>rw[e]at h;cases h
  |some r=>
   obtain⟨x,p,a⟩:=r;rw[e]at h;have w:=Am (tW T n) (OM T n) hb e;by_cases c:fW T a cV=true
   ·simp only[aR c]at h;obtain⟨m,v,H,z⟩:=w;have C:a.up.k=a.k+1:=rfl;have d:=tV c;have I:=z d
    cases b:iK T n p a.up with
    |none=>rw[b]at h;cases h
    |some r2=>obtain⟨y,E,F⟩:=r2;rw[b]at h;cases h;obtain⟨D,q,G,u⟩:=OM T n _ _ _ _ _ (show a.up.bad<0 from d) b;have j:=tW T n _ _ _ _ _ (show a.up.bad<0 from d) b;obtain⟨o,A,J⟩:=YF (aM rfl) (dJ.wide j.2.1 _ _ v) q;refine⟨o,A,by omega,λl=> ?_⟩;have:=u l;omega
   ·simp only[aN c]at h;cases h;exact w
def fQ(n:Nat):aA:=[UInt8.ofNat (97+n%26)]++(if 25<n then [UInt8.ofNat (48+n/26)]else [])
theorem A7(n:Nat):(fQ n).length<=2:=by unfold fQ;split<;>simp
def YG:List Nat->Nat
 |[]=>0
 |v::l=>max (v+1) (YG l)
theorem uj{l:aC}{v:Nat}(h:v∈l):v<YG l:=by
 induction l with
 |nil=>cases h
 |cons a l e=>
  rcases bH.1 h with rfl|h
  ·simp only[YG];omega
  ·have:=e h;simp only[YG];omega
def nh(l:aC)(j:Nat):List aA:=(List.range (YG l)).map λv=>if v∈l.take j then fQ (l.idxOf v)else []
def A8(l:aC):List aA:=nh l l.length
theorem L9{l:aC}{v:Nat}(h:v∈l):(A8 l).getD v []=fQ (l.idxOf v):=by have e:=uj h;simp[A8,nh,List.getD,iH,List.getElem?_range e,h]
theorem tX:∀(n:Nat) (t:Ty) (l:aC),l<+:cQ n t l
 |0,_,l=>dD l
 |n+1,t,l=>by
  rw[cQ];split
  ·split
   ·exact dD l
   ·exact iN _ _
  ·generalize t.kids=h
   induction h generalizing l with
   |nil=>exact dD l
   |cons a h e=>exact(tX n a l).trans (e _)
theorem BH{N:Nat}:∀(n:Nat) (t:Ty) (l:aC),dJ N n t->(∀v,v∈l->v<N)->∀v,v∈cQ n t l->v<N
 |0,_,_,h,_=>absurd h id
 |n+1,t,l,h,x=>by
  rw[cQ];rcases h with⟨e,d,w⟩|⟨e,d,w⟩|⟨e,d,a,w,f⟩|⟨e,d,a,b,w,f,g⟩
  ·rw[aR e];split
   ·exact x
   ·intro v c;rcases cH.1 c with c|c
    ·exact x v c
    ·rw[bF.1 c];exact d
  ·rw[aN (by rcases e with e|e<;>rw[e]<;>decide),w];exact x
  ·rw[aN (by rw[e];decide),w];exact BH n a l f x
  ·rw[aN (by rcases e with e|e<;>rw[e]<;>decide),w];exact BH n b _ g (BH n a l f x)
theorem rF{N:Nat}:∀(n:Nat) (t:Ty) (l:aC),dJ N n t->(cQ n t l).length<=l.length+cC n t
 |0,_,_,h=>absurd h id
 |n+1,t,l,h=>by
  rw[cQ,cC];rcases h with⟨e,x,w⟩|⟨e,x,w⟩|⟨e,x,a,w,c⟩|⟨e,x,a,b,w,c,d⟩
  ·rw[aR e];split
   ·omega
   ·simp
  ·rw[aN (by rcases e with e|e<;>rw[e]<;>decide),w];simp
  ·rw[aN (by rw[e];decide),w];have:=rF n a l c;simp;omega
  ·rw[aN (by rcases e with e|e<;>rw[e]<;>decide),w];have f:=rF n a l c;have g:=rF n b (cQ n a l) d;simp;omega
def fJ(n:Nat)(t:Ty):aA:=cJ n (A8 (cQ n t [])) t
def tY:Nat->Ty->List Nat->aA×List Nat
 |0,_,l=>([],l)
 |n+1,t,l=>
  if t.kind=[]then(fQ ((if t.var∈l then l else l++[t.var]).idxOf t.var),if t.var∈l then l else l++[t.var])
  else match t.kids with
   |[a]=>([91]++(tY n a l).1++[93],(tY n a l).2)
   |[a,b]=>(if t.kind=dO then(if a.kind=dO then [40]++(tY n a l).1++[41]else(tY n a l).1)++[32,45,62,32]++(tY n b (tY n a l).2).1
     else [40]++(tY n a l).1++[44,32]++(tY n b (tY n a l).2).1++[41],(tY n b (tY n a l).2).2)
   |_=>(t.kind,l)
theorem ni(v:Nat):∀(l r:aC),v∈l->(l++r).idxOf v=l.idxOf v
 |[],_,h=>by cases h
 |a::l,r,h=>by
  rw[lQ,oI,oI];by_cases e:a=v
  ·simp[e]
  ·have w:(a==v)=false:=dV.2 e;rw[w];rcases bH.1 h with h|h
   ·exact absurd h.symm e
   ·simp[ni v l r h]
theorem FZ{N:Nat}{L:aC}:∀(n:Nat) (t:Ty) (l:aC),dJ N n t->cQ n t l<+:L->tY n t l=(cJ n (A8 L) t,cQ n t l)
 |0,_,_,h,_=>absurd h id
 |n+1,t,l,h,d=>by
  rcases h with⟨w,f,c⟩|⟨w,f,c⟩|⟨w,f,a,c,g⟩|⟨w,f,a,b,c,g,o⟩
  ·have e:cQ (n+1) t l=if t.var∈l then l else l++[t.var]:=by rw[cQ,aR w]
   have i:t.var∈(if t.var∈l then l else l++[t.var]):=by
    split
    ·assumption
    ·simp
   rw[e]at d⊢;obtain⟨r,j⟩:=d
   have p:L.idxOf t.var=(if t.var∈l then l else l++[t.var]).idxOf t.var:=by rw[<-j,ni _ _ _ i]
   rw[tY,aR w,cJ,aR w,L9 (by rw[<-j];exact kX _ i),p]
  ·have x:t.kind≠[]:=by rcases w with w|w<;>rw[w]<;>decide
   rw[tY,aN x,cJ,aN x,cQ,aN x,c];rfl
  ·have x:t.kind≠[]:=by rw[w];decide
   have e:cQ (n+1) t l=cQ n a l:=by rw[cQ,aN x,c];rfl
   rw[e]at d⊢;rw[tY,aN x,cJ,aN x,c];simp only[FZ n a l g d]
  ·have x:t.kind≠[]:=by rcases w with w|w<;>rw[w]<;>decide
   have e:cQ (n+1) t l=cQ n b (cQ n a l):=by rw[cQ,aN x,c];rfl
   rw[e]at d⊢;have k:=FZ n a l g ((tX n b _).trans d);have m:=FZ n b _ o d;rw[tY,aN x,cJ,aN x,c];simp only[k,m]
theorem YH{N n:Nat}{t:Ty}(h:dJ N n t):tY n t []=(fJ n t,cQ n t []):=FZ n t [] h (dD _)
theorem GC{N:Nat}:∀(n:Nat) (t:Ty) (l:aC),dJ N n t->(tY n t l).1.length<=8*cC n t
 |0,_,_,h=>absurd h id
 |n+1,t,l,h=>by
  rcases h with⟨e,c,w⟩|⟨e,c,w⟩|⟨e,c,a,w,d⟩|⟨e,c,a,b,w,d,f⟩
  ·rw[tY,aR e,cC,w];have:=A7 ((if t.var∈l then l else l++[t.var]).idxOf t.var);simp only[fE,qQ];omega
  ·have x:t.kind≠[]:=by rcases e with e|e<;>rw[e]<;>decide
   rw[tY,aN x,cC,w];rcases e with e|e<;>simp[e,nD,eU]
  ·have x:t.kind≠[]:=by rw[e];decide
   have:=GC n a l d;rw[tY,aN x,cC,w];simp;omega
  ·have x:t.kind≠[]:=by rcases e with e|e<;>rw[e]<;>decide
   have g:=GC n a l d;have i:=GC n b (tY n a l).2 f;rw[tY,aN x,cC,w];simp only;split
   ·split<;>simp<;>omega
   ·simp;omega
def eQ(a:Addr):Value:= .iface 437 (.pointer (some a))
theorem cZ{w:World}{r:Option Nat}(h:w.grownBy w' r):w.grownBy w'.drew r:=⟨h.os,h.tape,h.output,h.size,h.block⟩
end Go.Proofs.YtcdijppegfcoaaaGreatDoor
