import Derived.Test.YtcdijppegfcoaaaGreatDoorZH13
import Derived.Lib.SlBytesConst
import Derived.Handy
set_option maxRecDepth 100000
set_option maxHeartbeats 8000000
set_option linter.unusedSimpArgs false
namespace Go.Proofs.YtcdijppegfcoaaaGreatDoor
open Go.RowKit Tryz
variable{w1 w'':World}{e size J:Nat}{xs:List Value}{l:aA}{v0:Value}
def Ip(w x:World)(e:Ending)(b:aH):Prop:=
 ∃a c,e= .returned (.slice a b.length c)/\w.grownBy x none/\∀(j:Nat) (u:Value),b[j]? =some u->∃h,a=some ⟨h,0,none⟩/\h<x.heap.size/\x.cell? ⟨h,j,none⟩=some u
@[reducible] def uJ(h:TypeId)(e:FuncId):Prop:=∀(b:Nat) (w:World),(Go.method 567 h (.pointer (some ⟨b,0,none⟩)) "Below").run prog w= .ok (e, .pointer (some ⟨b,0,none⟩)) w
theorem vf:uJ 309 306:=λ_ _=>by kernel_rfl
theorem AM:uJ 346 307:=λ_ _=>by kernel_rfl
theorem ED:uJ 349 308:=λ_ _=>by kernel_rfl
theorem EF:uJ 361 309:=λ_ _=>by kernel_rfl
theorem AN:uJ 291 304:=λ_ _=>by kernel_rfl
theorem vg(b:Nat)(w:World):Calls prog 306 #[.pointer (some ⟨b,0,none⟩)] w λe x=>Ip w x e []:=by go_enter func306,ntmps306;go_wp2;go_ret;exact⟨none,0,rfl,bC _ _,λj u h=>by simp at h⟩
theorem AQ(b:Nat)(w:World):Calls prog 307 #[.pointer (some ⟨b,0,none⟩)] w λe x=>Ip w x e []:=by go_enter func307,ntmps307;go_wp2;go_ret;exact⟨none,0,rfl,bC _ _,λj u h=>by simp at h⟩
theorem Jv(w:World)(u:Value)(t:TypeId):Ip w (w.alloc (.cells #[u] t)) (.returned (.slice (some ⟨w.heap.size,0,none⟩) 1 1)) [u]:=by
 refine⟨_,1,rfl,aO _ _ _,λj x h=>⟨_,rfl,by simp, ?_⟩⟩
 match j,h with
 |0,h=>simp at h;subst h;simp[go_sem]
 |j+1,h=>simp at h
theorem og(w:World)(u z:Value)(t:TypeId):Ip w (w.alloc (.cells #[u,z] t)).drew (.returned (.slice (some ⟨w.heap.size,0,none⟩) 2 2)) [u,z]:=by
 have g:=aO w (.cells #[u,z] t) none;refine⟨_,2,rfl,⟨g.os,g.tape,g.output,g.size,g.block⟩,λj x h=>⟨_,rfl,by simp, ?_⟩⟩
 match j,h with
 |0,h=>simp at h;subst h;simp[go_sem]
 |1,h=>simp at h;subst h;simp[go_sem]
 |j+2,h=>simp at h
theorem EG(b:Nat)(w:World)(a:TypeId)(x:Nat)(h:w.heap[b]? =some (.cells #[(.iface a (.pointer (some ⟨x,0,none⟩)))] 351 (0,0))):
  Calls prog 308 #[.pointer (some ⟨b,0,none⟩)] w λe c=>Ip w c e [(.iface a (.pointer (some ⟨x,0,none⟩)))]:=by
 have d:w.cell? ⟨b,0,none⟩=some (.iface a (.pointer (some ⟨x,0,none⟩))):=by simp[World.cell?,h]
 clear h;go_enter func308,ntmps308;go_wp2;go_ret;exact Jv w _ _
theorem EH(b:Nat)(w:World)(c d:TypeId)(x a:Nat)(h:w.heap[b]? =some (.cells #[(.iface c (.pointer (some ⟨x,0,none⟩))),(.iface d (.pointer (some ⟨a,0,none⟩)))] 384 (0,0))):
  Calls prog 309 #[.pointer (some ⟨b,0,none⟩)] w λe f=>Ip w f e [(.iface c (.pointer (some ⟨x,0,none⟩))),(.iface d (.pointer (some ⟨a,0,none⟩)))]:=by
 have g:w.cell? ⟨b,0,none⟩=some (.iface c (.pointer (some ⟨x,0,none⟩))):=by simp[World.cell?,h]
 have i:w.cell? ⟨b,1,none⟩=some (.iface d (.pointer (some ⟨a,0,none⟩))):=by simp[World.cell?,h]
 clear h;go_enter func309,ntmps309;go_wp2_with fail
 (try go_region)
 go_wp2;go_ret;exact og w _ _ _
theorem AR(b:Nat)(w:World)(c d:TypeId)(x a:Nat)(h:w.heap[b]? =some (.cells #[(.iface c (.pointer (some ⟨x,0,none⟩))),(.iface d (.pointer (some ⟨a,0,none⟩)))] 293 (0,0))):
  Calls prog 304 #[.pointer (some ⟨b,0,none⟩)] w λe f=>Ip w f e [(.iface c (.pointer (some ⟨x,0,none⟩))),(.iface d (.pointer (some ⟨a,0,none⟩)))]:=by
 have g:w.cell? ⟨b,0,none⟩=some (.iface c (.pointer (some ⟨x,0,none⟩))):=by simp[World.cell?,h]
 have i:w.cell? ⟨b,1,none⟩=some (.iface d (.pointer (some ⟨a,0,none⟩))):=by simp[World.cell?,h]
 clear h;go_enter func304,ntmps304;go_wp2_with fail
 (try go_region)
 go_wp2;go_ret;exact og w _ _ _
theorem vh{D:aD}{m:Nat}{H:aB}{v:Value}{x:Ty}(h:gG D (m+1) H v x):
  ∃t b s F,v= .iface t (.pointer (some ⟨b,0,none⟩))/\s.length=x.kids.length/\s.length<=2/\(∀(i:Nat) (u:Value) (y:Ty),s[i]? =some u->x.kids[i]? =some y->gG D m H u y)/\(∀w,(Go.method 567 t (.pointer (some ⟨b,0,none⟩)) "Below").run prog w= .ok (F, .pointer (some ⟨b,0,none⟩)) w)/\
   (∀w,Fz H w->Calls prog F #[.pointer (some ⟨b,0,none⟩)] w λe G=>Ip w G e s)/\(F=306\/F=307\/F=308\/F=309\/F=304):=by
 obtain⟨b,h⟩:=h;rcases h with⟨r,g,l,n,k⟩|⟨r,g,l,n⟩|⟨r,a,u,g,l,n,k⟩|⟨r,a,c,u,z,g,l,n,k,p⟩|⟨r,a,c,u,z,g,l,n,k,p⟩
 ·exact⟨_,b,[],_,n,by rw[g];rfl,by simp,λi u y e=>by simp at e,λw=>vf b w,λw _=>vg b w,aQ rfl⟩
 ·exact⟨_,b,[],_,l,by rw[g];rfl,by simp,λi u y e=>by simp at e,λw=>AM b w,λw _=>AQ b w,aM (aQ rfl)⟩
 ·refine⟨_,b,[u],_,l,by rw[g];rfl,by simp,λi E y d f=> ?_,λw=>ED b w,λw j=> ?_,aM (aM (aQ rfl))⟩
  ·rw[g]at f
   match i,d,f with
   |0,d,f=>simp at d f;subst d f;exact k
   |i+1,d,f=>simp at d
  ·obtain⟨q,o,_,rfl,_⟩:=k.val j;exact EG b w q o (j _ _ n)
 ·refine⟨_,b,[u,z],_,l,by rw[g];rfl,by simp,λi E y d f=> ?_,λw=>EF b w,λw j=> ?_,aM (aM (aM (aQ rfl)))⟩
  ·rw[g]at f
   match i,d,f with
   |0,d,f=>simp at d f;subst d f;exact k
   |1,d,f=>simp at d f;subst d f;exact p
   |i+2,d,f=>simp at d
  ·obtain⟨q,o,_,rfl,_⟩:=k.val j;obtain⟨C,A,_,rfl,_⟩:=p.val j;exact EH b w q C o A (j _ _ n)
 ·refine⟨_,b,[u,z],_,l,by rw[g];rfl,by simp,λi E y d f=> ?_,λw=>AN b w,λw j=> ?_,aM (aM (aM (aM (rfl))))⟩
  ·rw[g]at f
   match i,d,f with
   |0,d,f=>simp at d f;subst d f;exact k
   |1,d,f=>simp at d f;subst d f;exact p
   |i+2,d,f=>simp at d
  ·obtain⟨q,o,_,rfl,_⟩:=k.val j;obtain⟨C,A,_,rfl,_⟩:=p.val j;exact AR b w q C o A (j _ _ n)
theorem Bj(ns:aD):∀(m:Nat) (H:aB) (v:Value) (x:Ty) (w:World) (L:Nat),gG ns m H v x->Fz H w->cC m x<=100000->L<=100000->
  Calls prog 143 #[v, .int .i64 (L:Int)] w λe w'=>e= .returned (.int .i64 (max ((L:Int)-(cC m x:Int)) (-1)))/\w.grownBy w' none:=by
 intro m
 induction m with
 |zero=>intro H v x w L h;exact absurd h id
 |succ m Z=>
  intro H v x w L h J I hL;obtain⟨t,b,c,F,rfl,V,e3,G,W,R,hF⟩:=vh h;have Y:cC (m+1) x=1+(x.kids.map (cC m)).sum:=rfl;rw[Y]at I⊢;have h6:=W w;have K:=aS (R w J);have HK:=aS G;have IH:=aS Z;have N:=aS V;have HZ:=aS J;have HS:=aS I;have h9:(L:Int)<=100000:=by omega
  obtain⟨S,D⟩:∃S,S=(x.kids.map (cC m)).sum:=⟨_,rfl⟩;rw[<-D];have A:=aS D;clear h J I W R G Z V Y D;rcases hF with rfl|rfl|rfl|rfl|rfl
  all_goals
   go_enter func143,ntmps143;go_wp2_with fail;refine K.mono ?_;rintro e w1 ⟨ao,h8,rfl,Q,X⟩;have h0:=aS X;have z:=aS Q;clear X Q K h6;go_wp2_with fail
   go_loopg [1,12] (c.length+1) (λgh v i wi=>∃j k:Nat,j<=c.length/\i= .int .i64 j/\gh=c.length-j+1/\k<=100000/\Hid (k=1+((x.kids.take j).map (cC m)).sum)/\v= .int .i64 (max ((L:Int)-(k:Int)) (-1))/\Hid (w1.grownBy wi none))
   case atStart=>exact⟨0,1,by omega,rfl,by omega,by omega,aS rfl,by congr 1;omega,bC _ _⟩
   case round=>
    obtain⟨j,k,hj,rfl,e2,G,M,rfl,d⟩:=hrel;by_cases U:j<c.length
    ·obtain⟨u,p⟩:∃u,c[j]? =some u:=⟨c[j],aP U⟩;obtain⟨y,q⟩:∃y,x.kids[j]? =some y:=⟨x.kids[j]'(by rw[<-N.out];exact U),aP _⟩;obtain⟨C,rfl,h3,E⟩:=h0.out j u p;have e1:wr.cell? ⟨C,j,none⟩=some u:=by rw[bT (a:=⟨C,j,none⟩) (d.out.block C h3 (by simp))];exact E
     have n:=HK.out j u y p q;have r:Fz H wr:=(HZ.grown z.out).grown d.out;obtain⟨t1,b1,_,rfl,_⟩:=n.val r
     have o:1+((x.kids.take (j+1)).map (cC m)).sum=k+cC m y:=by rw[iI,q,eR,oH,M.out];simp;omega
     have h5:k+cC m y<=1+S:=by have l:=YC (x.kids.map (cC m)) (j+1);rw[<-List.map_take]at l;rw[A.out];omega
     have e0:1+S<=100000:=by rw[A.out];exact HS.out
     by_cases h7:(L:Int)-(k:Int)<0
     ·have l:max ((L:Int)-(k:Int)) (-1)<0:=by omega
      have g:max ((L:Int)-(k:Int)) (-1)= -1:=by omega
      rw[g];have e8:max ((L:Int)-((1+S:Nat):Int)) (-1)= -1:=by omega
      clear p q n r E o l g;go_wp2;go_ret;exact⟨by rw[e8];rfl,z.trans d.out⟩
     ·have g:max ((L:Int)-(k:Int)) (-1)=((L-k:Nat):Int):=by omega
      rw[g];have s:=aS (IH.out H _ y wr (L-k) n r (by omega) (by omega));obtain⟨f,T⟩:∃f:Nat,f=cC m y:=⟨_,rfl⟩;rw[<-T]at o s h5;have h2:=aS o;have l:¬(((L-k:Nat):Int)<0):=by omega
      have O:max (((L-k:Nat):Int)-(f:Int)) (-1)=max ((L:Int)-((k+f:Nat):Int)) (-1):=by omega
      rw[O]at s;clear p q n r E o T g O h7;go_wp2_with fail;refine s.mono ?_;rintro e w' ⟨rfl,P⟩;have G':=aS P;clear P;go_wp2_with fail
      go_roundg (c.length-(j+1)+1)
      case measure=>omega
      case rel=>exact⟨j+1,k+f,by omega,by go_num,rfl,by omega,aS h2.symm,rfl,aS (d.out.trans G'.out)⟩
    ·have h4:j=c.length:=by omega
     subst h4
     have e:k=1+S:=by have:=M.out;rw[N.out,kK]at this;rw[A.out];exact this
     subst e;go_wp2;go_ret;exact⟨rfl,z.trans d.out⟩
theorem Jw(j:aD)(m:Nat)(H:aB)(v:Value)(x:Ty)(w:World)(h:gG j m H v x)(i:Fz H w)(k:cC m x<=100000):
  Calls prog 111 #[v] w λe l=>e= .returned (.bool (decide (120<cC m x)))/\w.grownBy l none:=by
 have d:=aS (Bj j m H v x w 120 h i k (by omega));obtain⟨t,b,_,rfl,_⟩:=h.val i;clear h i;by_cases f:120<cC m x
 ·have a:max (((120:Nat):Int)-(cC m x:Int)) (-1)= -1:=by omega
  rw[a]at d;rw[dE f];clear f a;go_enter func111,ntmps111;go_wp2_with fail;refine d.mono ?_;rintro e n ⟨rfl,c⟩;have g:=aS c;clear c;go_wp2;go_ret;exact⟨rfl,g.out⟩
 ·have a:max (((120:Nat):Int)-(cC m x:Int)) (-1)=((120-cC m x:Nat):Int):=by omega
  rw[a]at d;rw[bN f];have o:¬(((120-cC m x:Nat):Int)<0):=by omega
  clear f a;generalize 120-cC m x=q at*;go_enter func111,ntmps111;go_wp2_with fail;refine d.mono ?_;rintro e n ⟨rfl,c⟩;have g:=aS c;clear c;go_wp2;go_ret;exact⟨rfl,g.out⟩
structure NM(w:World)(nb:Nat)(H:aB)(v:Value)(ns:aD):Prop where
 blk:w.heap[nb]? =some (.cells #[v] 34 (0,0))
 row:w.ownsRow nb 9 1 v ns.length (pS ns)
 hx:H nb=none
 hn:∀k,some k=v.ownBlock->H k=none
def Qg(T:List fI)(w x:World)(e:Ending)(c g f a:Nat)(H:aB)(t:Ty)(i:aD)(d:St):Prop:=
 ∃b h j m,e= .returned (.pointer (some ⟨b,0,none⟩))/\RS x c g f T d/\d.k<T.length/\VT a c w x/\Fz h x/\zW w.heap.size H h/\NM x a h j i/\Pv m h b t
structure BK(T:List fI)(w w':World)(rb g cap nb:Nat)(H H':aB)(v:Value)(ns:aD)(s:St):Prop where
 r:RS w' rb g cap T s
 k:VT nb rb w w'
 z:Fz H' w'
 x:zW w.heap.size H H'
 n:NM w' nb H' v ns
 hr:rb<nb
 hn:H' rb=none
theorem BK.end{T:List fI}{w:World}{f g a c:Nat}{H e:aB}{v:Value}{d:aD}{s:St}(h:BK T w w1 f g a c H e v d s)(i:s.k<T.length){b m:Nat}{x:Ty}(j:Pv m e b x):
  Qg T w w1 (.returned (.pointer (some ⟨b,0,none⟩))) f g a c H x d s:=⟨b,e,v,m,rfl,h.r,i,h.k,h.z,h.x,h.n,j⟩
def Sh(T:List fI):Prop:=∀k,((tk T k).is=bK\/(tk T k).is=dS)->(tk T k).s.length<=8
def Wu(T:List fI)(s:St)(x:Ex)(h:St):Prop:=s.k<=h.k/\h.k<T.length/\(h.bad<0->s.bad<0/\s.k<h.k/\∃m,pD m x (h.k-s.k))
def Fu(T:List fI)(n:Nat)(s:St):Prop:=s.k<T.length/\(T.length-s.k+1<=n\/(0<=s.bad/\1<=n))
def Un(T:List fI)(n:Nat)(E:St->Option (Ex×St)):Prop:=∀s,Fu T n s->∃x h,E s=some (x,h)/\Wu T s x h
theorem iS{T:List fI}{s:St}{x:aA}(h:fW T s x=true):s.bad<0/\(tk T s.k).is=x:=by simp only[fW,cY,sQ,cX]at h;exact h
theorem lM{T:List fI}(b:Wf T){s:St}(c:s.k<T.length)(x:aA)(w:x≠dZ)(a:x≠eE):
  ((cL T s x).k=s.k+1/\s.k+1<T.length/\(cL T s x).bad=s.bad/\s.bad<0/\(tk T s.k).is=x)\/((cL T s x).k=s.k/\0<=(cL T s x).bad):=by
 by_cases h:fW T s x=true
 ·left;have e:cL T s x=⟨s.k+1,s.bad⟩:=by rw[cL,aR h]
  rw[e];exact⟨rfl,b.up c h w a,rfl,(iS h).1,(iS h).2⟩
 ·right;have e:cL T s x=⟨s.k,if s.bad<0 then((tk T s.k).pos:Int)else s.bad⟩:=by rw[cL,aN h]
  rw[e];refine⟨rfl, ?_⟩;show 0<=(if s.bad<0 then((tk T s.k).pos:Int)else s.bad);split<;>omega
theorem YO{T:List fI}(j:Wf T)(N:Sh T){n:Nat}{E:St->Option (Ex×St)}(F:Un T n E)(s:St)(v:s.k<T.length)(Z:T.length-s.k<=n):
  ∃x o,kG E T s=some (x,o)/\Wu T s x o/\((fW T s bK=true\/fW T s dS=true\/fW T s eD=true)->s.k<o.k):=by
 unfold kG;by_cases h:fW T s bK=true\/fW T s dS=true
 ·rw[aR h]
  have z:s.k+1<T.length:=by
   rcases h with h|h
   ·exact j.up v h (by decide) (by decide)
   ·exact j.up v h (by decide) (by decide)
  have A:s.bad<0/\((tk T s.k).is=bK\/(tk T s.k).is=dS):=by
   rcases h with h|h
   ·exact⟨(iS h).1,aQ (iS h).2⟩
   ·exact⟨(iS h).1,aM (iS h).2⟩
  refine⟨_,_,rfl,⟨mu _,z,λ_=>⟨A.1,qS _,1, ?_⟩⟩,λ_=>qS _⟩;have:=uo (tk T s.k).is (tk T s.k).s (tk T s.k).pos A.2 (N s.k A.2);rw[show s.up.k-s.k=1 from by show s.k+1-s.k=1;omega];exact this
 ·rw[aN h];obtain⟨g,I⟩:∃g,g=cL T s eD:=⟨_,rfl⟩;have q:=lM j v eD (by decide) (by decide);rw[<-I]at q⊢;have S:fW T s eD=true->g.k=s.k+1:=λe=>by rw[I,cL,aR e]
  have M:Fu T n g:=by
   rcases q with⟨a,b,_⟩|⟨a,b⟩
   ·exact⟨by omega,aQ (by omega)⟩
   ·exact⟨by omega,aM ⟨b,by omega⟩⟩
  obtain⟨x,f,K,c⟩:=F g M
  have H:(fW T s bK=true\/fW T s dS=true\/fW T s eD=true)->s.k<f.k:=λe=>by
   have:fW T s eD=true:=by
    rcases e with e|e|e
    ·exact absurd (aQ e) h
    ·exact absurd (aM e) h
    ·exact e
   have:=S this;have:=c.1;omega
  have X:s.k<=g.k:=by rcases q with⟨a,_⟩|⟨a,_⟩<;>omega
  have G:g.bad<0->s.bad<0/\g.k=s.k+1:=λW=>by
   rcases q with⟨a,_,_,d,_⟩|⟨a,b⟩
   ·exact⟨d,a⟩
   ·omega
  rw[K];show∃V o,(if fW T f iQ=true then _ else _)=some (V,o)/\_;by_cases p:fW T f iQ=true
  ·rw[aR p];have z:=j.up c.2.1 p (by decide) (by decide);have O:=(iS p).1;obtain⟨t,Q,m,u⟩:=c.2.2 O;obtain⟨y,J,L,r⟩:=F f.up ⟨z,aQ (by show T.length-(f.k+1)+1<=n;have:=c.1;omega)⟩;rw[L];have Y:f.k+1<=J.k:=r.1;have w:=lM j r.2.1 eO (by decide) (by decide);obtain⟨i,l⟩:∃i,i=cL T J eO:=⟨_,rfl⟩;rw[<-l]at w;refine⟨_,i,by rw[l],⟨?_, ?_,λP=> ?_⟩,λe=> ?_⟩
   ·have:=c.1;rcases w with⟨a,_⟩|⟨a,_⟩<;>omega
   ·have:=r.2.1;rcases w with⟨a,_⟩|⟨a,_⟩<;>omega
   ·rcases w with⟨a,_,_,d,_⟩|⟨a,b⟩
    ·obtain⟨_,_,C,R⟩:=r.2.2 d;obtain⟨D,U⟩:=G t;refine⟨D,by omega,max m C+1, ?_⟩;refine(uq _ (u.le (gI m C)) (R.le (gJ m C))).more ?_;have:f.up.k=f.k+1:=rfl;have:=c.1;omega
    ·omega
   ·have:=H e;rcases w with⟨a,_⟩|⟨a,_⟩<;>omega
  ·rw[aN p];have w:=lM j c.2.1 eO (by decide) (by decide);obtain⟨i,l⟩:∃i,i=cL T f eO:=⟨_,rfl⟩;rw[<-l]at w;refine⟨x,i,by rw[l],⟨?_, ?_,λP=> ?_⟩,λe=> ?_⟩
   ·have:=c.1;rcases w with⟨a,_⟩|⟨a,_⟩<;>omega
   ·have:=c.2.1;rcases w with⟨a,_⟩|⟨a,_⟩<;>omega
   ·rcases w with⟨a,_,_,d,_⟩|⟨a,b⟩
    ·obtain⟨t,Q,m,u⟩:=c.2.2 d;obtain⟨D,U⟩:=G t;exact⟨D,by omega,m,u.more (by omega)⟩
    ·omega
   ·have:=H e;rcases w with⟨a,_⟩|⟨a,_⟩<;>omega
theorem oh{T:List fI}(g:Wf T)(d:Sh T){n:Nat}{E:St->Option (Ex×St)}(c:Un T n E)(b:St):∀(f:Nat) (x:Ex) (s:St),T.length-s.k+1<=f->T.length-s.k<=n->Wu T b x s->
  ∃y j,tD (kG E T) T f x s=some (y,j)/\Wu T b y j
 |0,_,_,h,_,_=>by omega
 |f+1,x,s,z,q,hr=>by
  rw[tD];by_cases e:fW T s bK=true\/fW T s dS=true\/fW T s eD=true
  ·rw[aR e];obtain⟨y,v,l,i,r⟩:=YO g d c s hr.2.1 q;rw[l];have A:=r e;refine oh g d c b f _ v (by have:=hr.2.1;omega) (by omega) ⟨by have:=hr.1;omega,i.2.1,λp=> ?_⟩;obtain⟨u,D,a,o⟩:=i.2.2 p;obtain⟨t,C,w,m⟩:=hr.2.2 u;refine⟨t,by omega,max w a+1, ?_⟩;exact(Ap _ (m.le (gI w a)) (o.le (gJ w a))).more (by omega)
  ·rw[aN e];exact⟨x,s,rfl,hr⟩
def Qh(T:List fI)(e:Nat)(x:Ex)(h:St):Prop:=e<=h.k/\h.k<T.length/\(h.bad<0->0<x.names.length/\∃m,AG m x (h.k-e))
theorem TL{T:List fI}(z:Wf T)(G:Sh T){n:Nat}{E:St->Option (Ex×St)}(F:Un T n E)(i:Nat)(x:Ex)(s:St)(J:s.k<T.length)(P:i<=s.k)(Q:T.length-s.k+1<=n)(M:s.bad<0->∃m,AG m x (s.k-i)):
  ∃y t,pA E T x s=some (y,t)/\y.op=x.op/\s.k<=t.k/\Qh T i y t:=by
 unfold pA;have j:=lM z J bK (by decide) (by decide);obtain⟨c,K⟩:∃c,c=cL T s bK:=⟨_,rfl⟩;rw[<-K]at j⊢;obtain⟨w,p⟩:∃w,w=pX x.names (tk T s.k).s (tk T s.k).pos c:=⟨_,rfl⟩;have R:w.k=c.k:=by rw[p,pX];split<;>rfl
 have A:w.bad<0->c.bad<0:=λg=>by
  rw[p,pX]at g;split at g
  ·rename_i h;exact h.2
  ·exact g
 rw[<-p];have U:c.k<T.length:=by rcases j with⟨a,_⟩|⟨a,_⟩<;>omega
 have N:w.k<T.length:=by omega
 have l:=lM z N DS (by decide) (by decide);obtain⟨f,L⟩:∃f,f=cL T w DS:=⟨_,rfl⟩;rw[<-L]at l⊢
 have S:s.k<=f.k:=by rcases j with⟨a,_⟩|⟨a,_⟩<;>rcases l with⟨b,_⟩|⟨b,_⟩<;>omega
 have O:f.k<T.length:=by rcases l with⟨b,_⟩|⟨b,_⟩<;>omega
 obtain⟨b,u,C,o⟩:=F f ⟨O,aQ (by omega)⟩;rw[C];refine⟨_,u,rfl,rfl,by have:=o.1;omega,⟨by have:=o.1;omega,o.2.1,λg=> ?_⟩⟩;obtain⟨V,W,r,I⟩:=o.2.2 g
 have D:f.k=w.k+1/\w.bad<0:=by
  rcases l with⟨a,_,_,d,_⟩|⟨a,b⟩
  ·exact⟨a,d⟩
  ·omega
 have v:c.k=s.k+1/\s.bad<0/\(tk T s.k).is=bK:=by
  have:=A D.2;rcases j with⟨a,_,_,d,e⟩|⟨a,b⟩
  ·exact⟨a,d,e⟩
  ·omega
 obtain⟨q,H⟩:=M v.2.1;refine⟨by show 0<(x.names++[_]).length;simp,max q r, ?_⟩;have:=(H.le (gI q r)).add (tk T s.k).s (G s.k (aQ v.2.2)) (I.le (gJ q r));rw[show u.k-i=s.k-i+(u.k-f.k)+2 from by omega];exact this
theorem AG.more{m:Nat}{x:Ex}{c e:Nat}(h:AG m x c)(f:c<=e):AG m x e:=
 ⟨h.op,h.len,by have:=h.nlen;omega,λy w=>by obtain⟨a,b,d⟩:=h.kids y w;exact⟨a,by omega,d⟩,by have:=h.text;omega⟩
theorem TM{T:List fI}(a:Wf T)(d:Sh T){n:Nat}{E:St->Option (Ex×St)}(c:Un T n E)(w:Nat):∀(f:Nat) (x:Ex) (s:St),T.length-s.k+1<=f->T.length-s.k<=n->Qh T w x s->
  ∃y b,kZ E T f x s=some (y,b)/\s.k<=b.k/\Qh T w y b
 |0,_,_,h,_,_=>by omega
 |f+1,x,s,u,v,hr=>by
  rw[kZ];by_cases e:x.op=gV/\fW T s zV=true
  ·rw[aR e];have o:=a.up hr.2.1 e.2 (by decide) (by decide);have j:=(iS e.2).1;have D:s.up.k=s.k+1:=rfl
   obtain⟨y,r,g,_,A,p⟩:=TL a d c w x s.up o (by have:=hr.1;omega) (by omega) (λ_=>by
    obtain⟨_,m,l⟩:=hr.2.2 j
    exact⟨m,l.more (by omega)⟩)
   rw[g];obtain⟨z,t,i,C,q⟩:=TM a d c w f y r (by have:=hr.2.1;omega) (by omega) p;exact⟨z,t,i,by omega,q⟩
  ·rw[aN e];exact⟨x,s,rfl,aV _,hr⟩
theorem oi{T:List fI}(g:Wf T)(t:Sh T)(hl:T.length<=900):∀n,Un T n (fC T n)
 |0=>λs h=>by rcases h.2 with h|h<;>omega
 |n+1=>λs N=>by
  have l:=oi g t hl n;rw[fC];by_cases Y:0<=s.bad
  ·rw[aR Y];exact⟨_,s,rfl,aV _,N.1,λh=>by omega⟩
  rw[aN Y];have L:s.bad<0:=by omega
  have C:=N.1;have hn:T.length-s.k<=n:=by rcases N.2 with h|h<;>omega
  have ku:s.up.k=s.k+1:=rfl;have bu:s.up.bad=s.bad:=rfl;by_cases I:fW T s dO=true
  ·rw[aR I];have u:=g.up C I (by decide) (by decide);have A:=lM g (s:=s.up) u bK (by decide) (by decide);obtain⟨f,h5⟩:∃f,f=cL T s.up bK:=⟨_,rfl⟩;rw[<-h5]at A⊢;have l1:f.k<T.length:=by rcases A with⟨a,_⟩|⟨a,_⟩<;>omega
   have q:=lM g l1 cV (by decide) (by decide);obtain⟨w,O⟩:∃w,w=cL T f cV:=⟨_,rfl⟩;rw[<-O]at q⊢
   have P:w.k<T.length/\s.k+1<=w.k:=by rcases A with⟨a,_⟩|⟨a,_⟩<;>rcases q with⟨b,_⟩|⟨b,_⟩<;>omega
   obtain⟨b,j,H,p⟩:=l w ⟨P.1,aQ (by omega)⟩;rw[H];refine⟨_,j,rfl,by have:=p.1;omega,p.2.1,λM=> ?_⟩;obtain⟨q1,q2,m,hm⟩:=p.2.2 M
   have W:w.k=f.k+1/\f.bad<0:=by
    rcases q with⟨a,_,_,d,_⟩|⟨a,b⟩
    ·exact⟨a,d⟩
    ·omega
   have d1:f.k=s.up.k+1/\(tk T s.up.k).is=bK:=by
    rcases A with⟨a,_,_,d,e⟩|⟨a,b⟩
    ·exact⟨a,e⟩
    ·omega
   exact⟨L,by omega,m+1,(Ao _ _ (t _ (aQ d1.2)) hm).more (by omega)⟩
  rw[aN I];by_cases J:fW T s xA=true
  ·rw[aR J];have u:=g.up C J (by decide) (by decide);obtain⟨c,f,v,o⟩:=l s.up ⟨u,aQ (by omega)⟩;rw[v];have q:=lM g o.2.1 pJ (by decide) (by decide);obtain⟨w,O⟩:∃w,w=cL T f pJ:=⟨_,rfl⟩;show∃x r,(match fC T n (cL T f pJ)with|none=>none|some (a,w)=>_)=some (x,r)/\_;rw[<-O]at q⊢
   have P:w.k<T.length/\f.k<=w.k:=by have:=o.2.1;rcases q with⟨b,_⟩|⟨b,_⟩<;>omega
   have g1:=o.1;obtain⟨a,i,e3,D⟩:=l w ⟨P.1,aQ (by omega)⟩;rw[e3];have G:=lM g D.2.1 oN (by decide) (by decide);obtain⟨j,h7⟩:∃j,j=cL T i oN:=⟨_,rfl⟩;show∃x r,(match fC T n (cL T i oN)with|none=>none|some (b,i)=>_)=some (x,r)/\_;rw[<-h7]at G⊢
   have l4:j.k<T.length/\i.k<=j.k:=by have:=D.2.1;rcases G with⟨b,_⟩|⟨b,_⟩<;>omega
   have g3:=D.1;obtain⟨b,s5,e5,U⟩:=l j ⟨l4.1,aQ (by omega)⟩;rw[e5];have g5:=U.1;refine⟨_,s5,rfl,by omega,U.2.1,λh4=> ?_⟩;obtain⟨q5,p5,m5,n5⟩:=U.2.2 h4
   have d4:j.k=i.k+1/\i.bad<0:=by
    rcases G with⟨a,_,_,d,_⟩|⟨a,b⟩
    ·exact⟨a,d⟩
    ·omega
   obtain⟨q3,p3,m3,n3⟩:=D.2.2 d4.2
   have W:w.k=f.k+1/\f.bad<0:=by
    rcases q with⟨a,_,_,d,_⟩|⟨a,b⟩
    ·exact⟨a,d⟩
    ·omega
   obtain⟨q1,p1,m1,n1⟩:=o.2.2 W.2;refine⟨L,by omega,max m1 (max m3 m5)+1,(Jf _ (n1.le ?_) (n3.le ?_) (n5.le ?_)).more (by omega)⟩<;>omega
  rw[aN J];by_cases K:fW T s iP=true
  ·rw[aR K];have u:=g.up C K (by decide) (by decide);obtain⟨z,Z⟩:∃z,z=pW T s.up gV:=⟨_,rfl⟩
   have X:s.k+1<=z.k/\z.k<T.length:=by
    rw[Z,pW];split
    ·rename_i hr;have:=g.up (s:=s.up) u hr (by decide) (by decide);exact⟨by show s.k+1<=s.up.k+1;omega,this⟩
    ·exact⟨by omega,u⟩
   obtain⟨E,h0⟩:∃E:Ex,E=⟨if fW T s.up gV=true then gV else iP,[],[],(tk T s.k).pos⟩:=⟨_,rfl⟩
   have p0:∀c,AG 0 E c:=λc=>by
    rw[h0];refine⟨?_,rfl,dG _,λy hy=>absurd hy (cE),dG _⟩;show(if fW T s.up gV=true then gV else iP)=iP\/(if fW T s.up gV=true then gV else iP)=gV;split
    ·right;rfl
    ·left;rfl
   rw[<-Z,<-h0];obtain⟨x,f,v,_,k1,o⟩:=TL g t l (s.k+1) E z X.2 X.1 (by omega) (λ_=>⟨0,p0 _⟩);rw[v];obtain⟨y,w,e2,k2,S⟩:=TM g t l (s.k+1) (T.length+1) x f (by omega) (by omega) o;show∃V r,(match kZ (fC T n) T (T.length+1) x f with|none=>none|some (y,w)=>_)=some (V,r)/\_;rw[e2];have F:=lM g S.2.1 BE (by decide) (by decide);obtain⟨i,h6⟩:∃i,i=cL T w BE:=⟨_,rfl⟩;show∃V r,(match fC T n (cL T w BE)with|none=>none|some (b,i)=>_)=some (V,r)/\_;rw[<-h6]at F⊢
   have l3:i.k<T.length/\w.k<=i.k:=by have:=S.2.1;rcases F with⟨b,_⟩|⟨b,_⟩<;>omega
   obtain⟨b,j,H,p⟩:=l i ⟨l3.1,aQ (by omega)⟩;rw[H];have g4:=p.1;refine⟨_,j,rfl,by omega,p.2.1,λM=> ?_⟩;obtain⟨q4,p4,R,n4⟩:=p.2.2 M
   have d3:i.k=w.k+1/\w.bad<0:=by
    rcases F with⟨a,_,_,d,_⟩|⟨a,b⟩
    ·exact⟨a,d⟩
    ·omega
   obtain⟨z2,Q,n2⟩:=S.2.2 d3.2;have:=p.2.1;refine⟨L,by omega,max Q R+1,((n2.le (gI Q R)).done z2 (n4.le (gJ Q R)) (by omega)).more (by omega)⟩
  rw[aN K];obtain⟨x,f,v,o,_⟩:=YO g t l s C hn;rw[v];exact oh g t l s (T.length+1) x f (by omega) (by have:=o.1;omega) o
theorem Jy(l:aA)(i k:Nat):(cut l i k).length<=k-i:=by rw[cut,qP,gK];omega
theorem vi(m:aD)(s:ByteArray)(J:Nat)(p:J<=s.size){t:fI}{j:Nat}(f:fL m s.data.toList J=(t,j)):
  t.pos=J/\J<=j/\j<=s.size/\((t.is=bK\/t.is=dS)->t.s.length<=8)/\(t.is≠dZ->t.is≠eE->J<j):=by
 obtain⟨w,a,l⟩:∃w a,(w,a)=lO s.data.toList J:=⟨_,_,rfl⟩;have k:=Ab s J p;unfold fL at f;rw[<-l]at f k;simp only[gU]at f;obtain⟨f,rfl⟩:=f;subst f;obtain⟨b,x⟩:∃b,b=if(w=bK\/w=dS)/\a-J>8 then dZ else w:=⟨_,rfl⟩
 have n:(b=bK\/b=dS)->a-J<=8:=λh=>by
  by_cases d:(w=bK\/w=dS)/\a-J>8
  ·rw[aR d]at x;rw[x]at h;exact absurd h (by decide)
  ·rw[aN d]at x;subst x;exact Nat.not_lt.1 (λg=>d ⟨h,g⟩)
 have o:b≠dZ->b=w:=λh=>by
  by_cases d:(w=bK\/w=dS)/\a-J>8
  ·rw[aR d]at x;exact absurd x h
  ·rw[aN d]at x;exact x
 have q:=Jy s.data.toList J a;refine⟨rfl,k.1,k.2,λh=> ?_,λi g=> ?_⟩
 ·rw[<-x]at h;show(cut s.data.toList J a).length<=8;by_cases c:b=bK/\cut s.data.toList J a∈m
  ·have:=n (aQ c.1);omega
  ·rw[aN c]at h;have:=n h;omega
 ·rw[<-x]at i g;by_cases c:b=bK/\cut s.data.toList J a∈m
  ·have e:b=w:=o (by rw[c.1];decide);exact TA s J l (by rw[<-e,c.1];decide) (by rw[<-e,c.1];decide)
  ·rw[aN c]at i g;have e:=o i;exact TA s J l (by rw[<-e];exact i) (by rw[<-e];exact g)
theorem iT(t:fI)(T:List fI)(k:Nat):tk (t::T) (k+1)=tk T k:=by simp[tk]
theorem iB(t:fI)(T:List fI):tk (t::T) 0=t:=by simp[tk]
theorem ic(k:Nat):tk [] k=⟨[],[],0⟩:=by simp[tk]
theorem yG(x:aD)(s:ByteArray):∀(f i:Nat),i<=s.size->s.size-i<f->
  Wf (iO x s.data.toList f i)/\Sh (iO x s.data.toList f i)/\∀k,(tk (iO x s.data.toList f i) k).pos<=s.size
 |0,_,_,h=>by omega
 |f+1,i,v,u=>by
  have q:s.data.toList.length=s.size:=by rw[eH];rfl
  have b:=kN mS s.data.toList i (by omega);rw[q]at b;obtain⟨J,l⟩:∃J,J=upto mS s.data.toList i:=⟨_,rfl⟩;rw[<-l]at b;obtain⟨t,c,m⟩:∃t c,fL x s.data.toList J=(t,c):=⟨_,_,rfl⟩;obtain⟨d,r,n,g,f5⟩:=vi x s J b.2 m;rw[ug x s.data.toList f i J l m];by_cases a:t.is=dZ\/t.is=eE
  ·rw[aR a];refine⟨⟨Nat.zero_lt_one,λk w=> ?_⟩,λk w=> ?_,λk=> ?_⟩
   ·have:k=0:=by simpa using w
    subst this;rw[iB];exact⟨λ_=>rfl,λ_=>a⟩
   ·cases k with
    |zero=>rw[iB]at w⊢;exact g w
    |succ k=>rw[iT,ic];exact dG _
   ·cases k with
    |zero=>rw[iB,d];exact b.2
    |succ k=>rw[iT,ic];exact dG _
  ·rw[aN a];have y:=f5 (λe=>a (aQ e)) (λe=>a (aM e));obtain⟨j,o,p⟩:=yG x s f c n (by omega);refine⟨⟨Nat.succ_pos _,λk w=> ?_⟩,λk w=> ?_,λk=> ?_⟩
   ·cases k with
    |zero=>rw[iB,bU];have:=j.1;exact⟨λh=>absurd h a,λh=>by omega⟩
    |succ k=>rw[iT,bU];rw[bU]at w;have:=j.2 k (by omega);exact⟨λh=>by have:=this.1 h;omega,λh=>this.2 (by omega)⟩
   ·cases k with
    |zero=>rw[iB]at w⊢;exact g w
    |succ k=>rw[iT]at w⊢;exact o k w
   ·cases k with
    |zero=>rw[iB,d];exact b.2
    |succ k=>rw[iT];exact p k
def dU(h:aD)(s:ByteArray):List fI:=iO h s.data.toList (s.size+1) 0
theorem uK(h:aD)(s:ByteArray):(dU h s).length<=s.size+1:=XV _ _ _ _
theorem oj(w:World):Fz (λ_=>none) w:=λk o e=>by cases e
def fv(a b:Int):Value:= .agg #[.int .i64 a, .int .i64 b, .string (B []), .int .i64 0, .int .i64 0]
theorem YP{w:World}{base a n:Nat}{v:Value}(h:w.ownsRow base e size v n xs)(f:a<=base):w.ownsRow a e size v n xs:=by
 obtain⟨d,x⟩:=h;refine⟨d, ?_⟩;rcases x with x|⟨g,b,c,rfl,i,r⟩
 ·exact aQ x
 ·exact aM ⟨g,b,c,rfl,bV f i,r⟩
theorem dJ.vars{N:Nat}:∀(m x:Nat) (t:Ty) (l:aC),dJ N m t->m<=x->cQ x t l=cQ m t l
 |0,_,_,_,h,_=>absurd h id
 |m+1,0,_,_,_,hm=>by omega
 |m+1,x+1,t,l,h,hm=>by
  rcases h with⟨e,d,w⟩|⟨e,d,w⟩|⟨e,d,a,w,f⟩|⟨e,d,a,b,w,f,g⟩
  ·simp only[cQ,aR e]
  ·have c:t.kind≠[]:=by rcases e with e|e<;>rw[e]<;>decide
   simp only[cQ,aN c,w,kY]
  ·have c:t.kind≠[]:=by rw[e];decide
   simp only[cQ,aN c,w,fD,kY,dJ.vars m x a _ f (by omega)]
  ·have c:t.kind≠[]:=by rcases e with e|e<;>rw[e]<;>decide
   simp only[cQ,aN c,w,fD,kY,dJ.vars m x a _ f (by omega),dJ.vars m x b _ g (by omega)]
theorem dJ.text{N:Nat}(d:aD):∀(m x:Nat) (t:Ty),dJ N m t->m<=x->cJ x d t=cJ m d t
 |0,_,_,h,_=>absurd h id
 |m+1,0,_,_,hm=>by omega
 |m+1,x+1,t,h,hm=>by
  rcases h with⟨e,f,w⟩|⟨e,f,w⟩|⟨e,f,a,w,g⟩|⟨e,f,a,b,w,g,i⟩
  ·simp only[cJ,aR e]
  ·have c:t.kind≠[]:=by rcases e with e|e<;>rw[e]<;>decide
   simp only[cJ,aN c,w]
  ·have c:t.kind≠[]:=by rw[e];decide
   simp only[cJ,aN c,w,dJ.text d m x a g (by omega)]
  ·have c:t.kind≠[]:=by rcases e with e|e<;>rw[e]<;>decide
   simp only[cJ,aN c,w,dJ.text d m x a g (by omega),dJ.text d m x b i (by omega)]
theorem VW{N a m e:Nat}{t:Ty}(h:dJ N m t)(x:dJ a e t):cC m t=cC e t/\fJ m t=fJ e t:=by
 rcases JF m e with w|w
 ·exact⟨(dJ.size m e t h w).symm,by unfold fJ;rw[dJ.vars m e t [] h w,dJ.text _ m e t h w]⟩
 ·exact⟨dJ.size e m t x w,by unfold fJ;rw[dJ.vars e m t [] x w,dJ.text _ e m t x w]⟩
theorem vj{T:List fI}{A:List aA->St->Option (Ty×List aA×St)}(d:∀x s t c g,A x s=some (t,c,g)->x.Nodup->c.Nodup)(x:aD)(s:St)(t:Ty)(c:aD)(g:St)
  (h:lT A T x s=some (t,c,g)) (w:x.Nodup):c.Nodup:=by
 unfold lT at h;split at h
 ·cases h;exact w
 ·split at h
  ·cases h;exact w
  ·split at h
   ·cases e:A x s.up with
    |none=>rw[e]at h;cases h
    |some q=>obtain⟨o,i,j⟩:=q;rw[e]at h;cases h;exact d _ _ _ _ _ e w
   ·split at h
    ·cases e:A x s.up with
     |none=>rw[e]at h;cases h
     |some q=>
      obtain⟨o,i,j⟩:=q;rw[e]at h;simp only at h;split at h
      ·cases f:A i j.up with
       |none=>rw[f]at h;cases h
       |some n=>obtain⟨u,p,r⟩:=n;rw[f]at h;cases h;exact d _ _ _ _ _ f (d _ _ _ _ _ e w)
      ·cases h;exact d _ _ _ _ _ e w
    ·cases h;unfold pU;split
     ·exact w
     ·rename_i k;rw[jX];exact⟨w,by simp,λa l b m e=>k (by rw[<-bF.1 m,<-e];exact l)⟩
theorem BQ{T:List fI}:∀(n:Nat) (w:aD) (s:St) (t:Ty) (a:aD) (d:St),iK T n w s=some (t,a,d)->w.Nodup->a.Nodup
 |0,_,_,_,_,_,h,_=>by cases h
 |n+1,w,s,t,a,d,h,g=>by
  rw[iK]at h
  cases e:lT (iK T n) T w s with
  |none=>rw[e]at h;cases h
  |some q=>
   obtain⟨j,b,f⟩:=q;rw[e]at h;simp only at h;have c:=vj (BQ n) w s j b f e g;split at h
   ·cases x:iK T n b f.up with
    |none=>rw[x]at h;cases h
    |some i=>obtain⟨m,k,l⟩:=i;rw[x]at h;cases h;exact BQ n _ _ _ _ _ x c
   ·cases h;exact c
def Qi(c:UInt8):Bool:=low c||qO c
def Wv(r:aA):Prop:=∀c h,r=c::h->Qi c=false
theorem AU{c:UInt8}{r:aA}(h:Qi c=false):Wv (c::r):=λd w e=>by cases e;exact h
def uL(n:aA):Prop:=(∃c r,n=c::r/\low c=true)/\(∀c,c∈n->Qi c=true)/\n∉fN
structure Qj(N:Nat)(ns:aD):Prop where
 len:N<=ns.length
 ok:∀n,n∈ns->uL n
 nd:ns.Nodup
theorem xJ{e:aD}{i:Nat}(h:i<e.length):e.getD i []∈e:=by
 have:e.getD i []=e[i]:=by simp[List.getD,h]
 rw[this];exact vS h
theorem Jz{K:Nat}{c:UInt8}(h:c∈cut l J K):∃i,J<=i/\i<K/\l[i]? =some c:=by obtain⟨i,e,rfl⟩:=jM.1 h;unfold cut at e⊢;rw[qP,gK]at e;refine⟨J+i,by omega,by omega, ?_⟩;rw[List.getElem_drop,List.getElem_take];exact aP (by omega)
theorem Bk(t:J<=l.length)(h:(fL fN l J).1.is=bK):uL (fL fN l J).1.s:=by
 have p:(fL fN l J).1.s=cut l J (lO l J).2:=rfl;have o:(fL fN l J).1.is=(if(if((lO l J).1=bK\/(lO l J).1=dS)/\(lO l J).2-J>8 then dZ else(lO l J).1)=bK/\cut l J (lO l J).2∈fN then cut l J (lO l J).2 else(if((lO l J).1=bK\/(lO l J).1=dS)/\(lO l J).2-J>8 then dZ else(lO l J).1)):=rfl;rw[o]at h;rw[p];obtain⟨b,m⟩:∃b,b=(if((lO l J).1=bK\/(lO l J).1=dS)/\(lO l J).2-J>8 then dZ else(lO l J).1):=⟨_,rfl⟩;rw[<-m]at h;clear o p;by_cases x:cut l J (lO l J).2∈fN
 ·exfalso;by_cases g:b=bK
  ·rw[aR ⟨g,x⟩]at h;rw[h]at x;exact absurd x (by decide)
  ·rw[aN (λe=>g e.1)]at h;exact g h
 ·rw[aN (λe=>x e.2)]at h
  have w:(lO l J).1=bK:=by
   rw[m]at h;split at h
   ·exact absurd h (by decide)
   ·exact h
  rcases JL l J t with⟨e,_⟩|⟨c,r,K,e,a,f,j,k⟩|⟨c,r,K,e,a,f,j,k⟩|⟨e,a,f⟩|⟨c,E,e,a,f⟩|⟨e,a⟩
  ·rw[e]at w;exact absurd (show eE=bK from w) (by decide)
  ·rw[e]at x⊢;refine⟨⟨c,r,j,k⟩,λd y=> ?_,x⟩;obtain⟨i,A,q,C⟩:=Jz y
   have v:K=upto eI l J:=by
    unfold lO at e;have u:J<l.length:=by omega
    rw[aP u]at e;simp only at e;split at e
    ·exact(O7 e).2.symm
    ·exfalso;split at e
     ·exact absurd (O7 e).1 (by decide)
     ·split at e
      ·exact absurd (O7 e).1 (by decide)
      ·split at e
       ·have:=eC List.length (O7 e).1;simp[bK]at this
       ·exact absurd (O7 e).1 (by decide)
   rw[v]at q;obtain⟨D,n,z⟩:=my eI l J i A q;rw[C]at n;cases n;exact z
  ·rw[e]at w;exact absurd (show dS=bK from w) (by decide)
  ·rw[e]at w;exact absurd (show cV=bK from w) (by decide)
  ·rw[e]at w;have:=eC List.length w;simp[bK]at this
  ·rw[e]at w;exact absurd (show dZ=bK from w) (by decide)
theorem om(x:aD)(l:aA):∀(f i:Nat),i<=l.length->∀t,t∈iO x l f i->∃J,J<=l.length/\t=(fL x l J).1
 |0,_,_,t,h=>by cases h
 |f+1,i,j,t,h=>by
  have b:=kN mS l i j;rw[iO]at h
  (try simp only at h)
  split at h
  ·rw[bF.1 h];exact⟨_,b.2,rfl⟩
  ·rcases bH.1 h with rfl|h
   ·exact⟨_,b.2,rfl⟩
   ·refine om x l f _ ?_ t h;have:(fL x l (upto mS l i)).2=(lO l (upto mS l i)).2:=rfl;rw[this];rcases JL l _ b.2 with⟨e,_⟩|⟨c,r,K,e,w,a,d,g⟩|⟨c,r,K,e,w,a,d,g⟩|⟨e,w,a⟩|⟨c,k,e,w,a⟩|⟨e,w⟩<;>rw[e]<;>simp only<;>omega
def Xo(T:List fI):Prop:=∀k,(tk T k).is=bK->uL (tk T k).s
theorem Qk(l:aA)(f i:Nat)(x:i<=l.length):Xo (iO fN l f i):=by
 intro k h;unfold Proofs.YtcdijppegfcoaaaGreatDoor.tk at h⊢;rw[aW]at h⊢
 cases e:(iO fN l f i)[k]? with
 |none=>rw[e]at h;exact absurd h (by decide)
 |some t=>rw[e]at h;obtain⟨J,w,rfl⟩:=om fN l f i x t (cK e);exact Bk w h
theorem TN{T:List fI}(o:Xo T){A:List aA->St->Option (Ty×List aA×St)}(d:∀a s t b c,A a s=some (t,b,c)->c.bad<0->(∀n,n∈a->uL n)->∀n,n∈b->uL n)(a:aD)(s:St)(t:Ty)(b:aD)(c:St)
  (h:lT A T a s=some (t,b,c)) (w:c.bad<0) (x:∀n,n∈a->uL n):∀n,n∈b->uL n:=by
 unfold lT at h;split at h
 ·cases h;exact x
 ·split at h
  ·cases h;exact x
  ·split at h
   ·cases e:A a s.up with
    |none=>rw[e]at h;cases h
    |some q=>obtain⟨z,l,g⟩:=q;rw[e]at h;cases h;exact d _ _ _ _ _ e ((j5 T g yx).2.2 w).1 x
   ·split at h
    ·cases e:A a s.up with
     |none=>rw[e]at h;cases h
     |some q=>
      obtain⟨z,l,g⟩:=q;rw[e]at h;simp only at h;split at h
      ·rename_i p
       cases i:A l g.up with
       |none=>rw[i]at h;cases h
       |some v=>obtain⟨E,D,y⟩:=v;rw[i]at h;cases h;exact d _ _ _ _ _ i ((j5 T y eO).2.2 w).1 (d _ _ _ _ _ e (tV p) x)
      ·cases h;exact d _ _ _ _ _ e ((j5 T g eO).2.2 w).1 x
    ·cases h
     have j:fW T s bK=true:=by
      cases r:fW T s bK with
      |true=>rfl
      |false=>have C:=((j5 T s bK).2.2 w).2;have m:=((j5 T s bK).2.2 w).1;rw[cL,aN (by rw[r];decide),aR m]at w;exact absurd w (by show¬((tk T s.k).pos:Int)<0;omega)
     have u:(tk T s.k).is=bK:=by simp only[fW,cY,sQ]at j;exact j.2
     intro n f;unfold pU at f;split at f
     ·exact x n f
     ·rcases cH.1 f with h|h
      ·exact x n h
      ·rw[bF.1 h];exact o s.k u
theorem BR{T:List fI}(x:Xo T):∀(n:Nat) (w:aD) (s:St) (t:Ty) (b:aD) (c:St),iK T n w s=some (t,b,c)->c.bad<0->(∀n,n∈w->uL n)->∀n,n∈b->uL n
 |0,_,_,_,_,_,h,_,_=>by cases h
 |n+1,w,s,t,b,c,h,hb,d=>by
  rw[iK]at h
  cases e:lT (iK T n) T w s with
  |none=>rw[e]at h;cases h
  |some q=>
   obtain⟨l,f,g⟩:=q;rw[e]at h;simp only at h;split at h
   ·rename_i i;have j:=TN x (BR x n) w s l f g e (tV i) d
    cases a:iK T n f g.up with
    |none=>rw[a]at h;cases h
    |some k=>obtain⟨p,m,o⟩:=k;rw[a]at h;cases h;exact BR x n _ _ _ _ _ a hb j
   ·cases h;exact TN x (BR x n) w s _ _ _ e hb d
theorem Bl{s:ByteArray}{n:Nat}{x:Ty}{e:aD}{w:St}(h:iK (dU fN s) n [] ⟨0,-1⟩=some (x,e,w))(a:w.bad<0):Qj e.length e:=
 ⟨aV _,BR (Qk _ _ 0 (dG _)) n [] ⟨0,-1⟩ x e w h a (by simp),BQ n [] ⟨0,-1⟩ x e w h (by simp)⟩
theorem Bm{N m:Nat}{x y:Ty}(o:dJ N (m+1) x)(p:dJ N (m+1) y)(f:x.kind=y.kind):x.kids.length=y.kids.length/\(x.kind≠[]->x.var=y.var)/\x.kids.length<=2:=by
 rcases o with⟨h,k,g⟩|⟨h,k,g⟩|⟨h,k,a,g,n⟩|⟨h,k,a,b,g,n,r⟩<;>rcases p with⟨w,j,i⟩|⟨w,j,i⟩|⟨w,j,c,i,l⟩|⟨w,j,c,d,i,l,q⟩
 ·exact⟨by rw[g,i],λe=>absurd h e,by rw[g];simp⟩
 ·rw[h]at f;rcases w with w|w<;>rw[w]at f<;>exact absurd f (by decide)
 ·rw[h,w]at f;exact absurd f (by decide)
 ·rw[h]at f;rcases w with w|w<;>rw[w]at f<;>exact absurd f (by decide)
 ·rw[w]at f;rcases h with h|h<;>rw[h]at f<;>exact absurd f (by decide)
 ·exact⟨by rw[g,i],λ_=>by rw[k,j],by rw[g];simp⟩
 ·rw[w]at f;rcases h with h|h<;>rw[h]at f<;>exact absurd f (by decide)
 ·exfalso;rcases h with h|h<;>rcases w with w|w<;>rw[h,w]at f<;>exact absurd f (by decide)
 ·rw[h,w]at f;exact absurd f (by decide)
 ·rw[h]at f;rcases w with w|w<;>rw[w]at f<;>exact absurd f (by decide)
 ·exact⟨by rw[g,i];rfl,λ_=>by rw[k,j],by rw[g];simp⟩
 ·rw[h]at f;rcases w with w|w<;>rw[w]at f<;>exact absurd f (by decide)
 ·rw[w]at f;rcases h with h|h<;>rw[h]at f<;>exact absurd f (by decide)
 ·exfalso;rcases h with h|h<;>rcases w with w|w<;>rw[h,w]at f<;>exact absurd f (by decide)
 ·rw[w]at f;rcases h with h|h<;>rw[h]at f<;>exact absurd f (by decide)
 ·exact⟨by rw[g,i];rfl,λ_=>by rw[k,j],by rw[g];simp⟩
theorem JV{N m:Nat}{x y:Ty}(h:dJ N (m+1) x)(e:y∈x.kids):dJ N m y:=by
 rcases h with⟨c,d,w⟩|⟨c,d,w⟩|⟨c,d,a,w,f⟩|⟨c,d,a,b,w,f,g⟩
 ·rw[w]at e;cases e
 ·rw[w]at e;cases e
 ·rw[w]at e;rw[bF.1 e];exact f
 ·rw[w]at e;rcases bH.1 e with rfl|e
  ·exact f
  ·rw[bF.1 e];exact g
def mC(f:Ty->Ty->(List (Option aA))->Option (List (Option aA))):List Ty->List Ty->(List (Option aA))->Option (List (Option aA))
 |a::h,b::e,g=>match f a b g with
  |none=>none
  |some g1=>mC f h e g1
 |_,_,g=>some g
def iL(M:Nat)(h:aD):Nat->Ty->Ty->(List (Option aA))->Option (List (Option aA))
 |0,_,_,_=>none
 |n+1,x,y,g=>
  if x.kind=[]then match g.getD x.var none with
   |some t=>if t=cJ M h y then some g else none
   |none=>some (g.set x.var (some (cJ M h y)))
  else if x.kind=y.kind then mC (iL M h n) x.kids y.kids g else none
theorem TO{f:Ty->Ty->(List (Option aA))->Option (List (Option aA))}(d:∀a b g w,f a b g=some w->w.length=g.length):∀(x c:List Ty) (g w:(List (Option aA))),mC f x c g=some w->w.length=g.length
 |[],_,g,w,h=>by cases h;rfl
 |_::_,[],g,w,h=>by cases h;rfl
 |a::x,b::c,g,w,h=>by
  rw[mC]at h
  cases e:f a b g with
  |none=>rw[e]at h;cases h
  |some g1=>rw[e]at h;rw[TO d x c g1 w h,d a b g g1 e]
theorem yH{M:Nat}{w:aD}:∀(n:Nat) (x y:Ty) (g e:(List (Option aA))),iL M w n x y g=some e->e.length=g.length
 |0,_,_,_,_,h=>by cases h
 |n+1,x,y,g,e,h=>by
  rw[iL]at h;split at h
  ·split at h
   ·split at h
    ·cases h;rfl
    ·cases h
   ·cases h;simp
  ·split at h
   ·exact TO (λa b g e=>yH n a b g e) _ _ g e h
   ·cases h
theorem ie{f:Ty->Ty->(List (Option aA))->Option (List (Option aA))}{e w:List Ty}{j:Nat}{a b:Ty}(x:e[j]? =some a)(c:w[j]? =some b)(g:(List (Option aA))):mC f (e.drop j) (w.drop j) g=match f a b g with
  |none=>none
  |some g1=>mC f (e.drop (j+1)) (w.drop (j+1)) g1:=by
 have d:j<e.length:=by
  rcases bZ j e.length with h|h
  ·exact h
  ·rw[bW h]at x;cases x
 have i:j<w.length:=by
  rcases bZ j w.length with h|h
  ·exact h
  ·rw[bW h]at c;cases c
 rw[cO d,cO i,mC];rw[aP d]at x;rw[aP i]at c;cases x;cases c;rfl
theorem vk{f:Ty->Ty->(List (Option aA))->Option (List (Option aA))}(e w:List Ty)(j:Nat)(h:e.length<=j)(g:(List (Option aA))):mC f (e.drop j) (w.drop j) g=some g:=by rw[iW h,mC];simp
theorem Bn(T:List fI)(n:Nat)(hl:T.length<=400)(hE:VQ T n)(w:World)(d:Nat)(s:ByteArray)(H:aB)(i:St)(ex:Ex)(h3:St)
  (hs:kG (fC T n) T i=some (ex,h3)) (h:sX dL w d s T i) (hz:Fz H w) (O:H d=none):
  Calls prog 181 #[A5 d] w λe w'=>zJ w w' d s T H i.k h3 e ex:=by
 have e0:=h.lt;have P:=h.size;have h0:=h.neg;have h5:s.data.toList.length=s.size:=by rw[eH];rfl
 have Z:=aS (h.alloc (.cells #[.pointer (some ⟨d,0,none⟩)] 182));have HZ:=aS (hz.alloc (.cells #[.pointer (some ⟨d,0,none⟩)] 182));have HE:=aS hE;have HS:=aS hs;have K0:=aS ((gX.refl d w).alloc (.cells #[.pointer (some ⟨d,0,none⟩)] 182));clear h hz hE hs;unfold A5;go_enter func181,ntmps181;go_wp2_with fail;refine(OL _ d s T i Z.out).mono ?_;rintro e m ⟨rfl,z⟩
 have y:m.cell? ⟨w.heap.size,0,none⟩=some (.pointer (some ⟨d,0,none⟩)):=by rw[bT (a:=⟨w.heap.size,0,none⟩) (z.block w.heap.size (by simp) (by simp))];simp[go_sem]
 have h2:w.heap.size<m.heap.size:=by have:=z.size;simp at this;omega
 have R:=Z.grown z;have M:=aS (K0.trans (gX.of0 d z));have Z1:=aS (HZ.grown z);clear z Z HZ K0;obtain⟨J,f,v⟩:=R.place;have t:=s9 dL gZ s.data.toList J f.1;have P1:=aS R;have e1:=R.lt;clear R
 cases C:fW T i bK with
 |true=>
  have g:=VG C;have u:=f.next gZ (by rw[g];decide) (by rw[g];decide);have I:=t.real (by rw[<-f.tk,g];decide) (by rw[<-f.tk,g];decide);have Y:=aS u.1;have W:=aS (show J+(kQ s.data.toList J).length<=s.size by rw[<-h5];exact u.2);have HT:=aS (show kQ s.data.toList J=(tk T i.k).s by rw[f.tk];exact I.1);have HO:=aS (show(tk T i.k).pos=J by rw[f.tk,t.pos]);have RD:=aS v;obtain⟨_,_,_,c3,_,_,_⟩:=sT v;have c:=HS.out;unfold kG at c;rw[aR (aQ C)]at c;cases c;have X:=aS g;clear f v t C g u I;go_wp2_with fail
  go_region_with (first|(go_at_call 178;refine(nt _).mono ?_;rintro e wA ⟨rfl,r⟩;have j:=aS r;have h6:=(bT (a:=⟨w.heap.size,0,none⟩) (r.block w.heap.size (by show _<_;first|(show w.heap.size<m.heap.size;omega)|omega) (by simp))).trans (by first|exact y|assumption);clear r)|(go_at_call 175;refine(OJ _ d s J P (by first|exact RD.out|exact XH.grown (w:=m.drew) RD.out j.out) W.out).mono ?_;rintro e wT ⟨rfl,L,l⟩;have h8:m.heap.size<=wT.heap.size:=(by first|exact l.size|exact bV j.size l.size);have h7:=(eB l (b:=w.heap.size) (o:=0) (by first|(show w.heap.size<m.heap.size;omega)|(exact aZ h2 j.size)) (by omega)).trans (by first|exact y|assumption);have RT:=aS L;have F:=aS l;clear L l))
  all_goals
   go_wp2;go_ret;rw[X.out,<-HT.out,HO.out];exact YL ((M.drew.trans (gX.of0 d j.out)).trans F.out) ⟨h0,⟨_,Y.out,RT.out⟩,P⟩ ((Z1.drew.grown j.out).kept F.out O) bK _ _ _ (aQ ⟨rfl,rfl⟩)
 |false=>
  have D:=t.num;rw[<-f.tk]at D;obtain⟨c0,c1,c2,c3,f1,f2,f3⟩:=sT v;clear c0 c2 c3 f1 f2 f3;by_cases G:mD s.data.toList J=3
  ·have g:=D.1 G;rw[G]at c1;have u:=f.next gZ (by rw[g];decide) (by rw[g];decide);have I:=t.real (by rw[<-f.tk,g];decide) (by rw[<-f.tk,g];decide);have Y:=aS u.1;have W:=aS (show J+(kQ s.data.toList J).length<=s.size by rw[<-h5];exact u.2);have HT:=aS (show kQ s.data.toList J=(tk T i.k).s by rw[f.tk];exact I.1);have RD:=aS v;have c:=HS.out;unfold kG at c;rw[aR (aM (by simp[fW,h0,g]))]at c;cases c;have X:=aS g;clear f v t C g u I D G;go_wp2_with fail
   go_region_with (first|(go_at_call 178;refine(nt _).mono ?_;rintro e wA ⟨rfl,r⟩;have j:=aS r;have h6:=(bT (a:=⟨w.heap.size,0,none⟩) (r.block w.heap.size (by show _<_;first|(show w.heap.size<m.heap.size;omega)|omega) (by simp))).trans (by first|exact y|assumption);clear r)|(go_at_call 175;refine(OJ _ d s J P (by first|exact RD.out|exact XH.grown (w:=m.drew) RD.out j.out) W.out).mono ?_;rintro e wT ⟨rfl,L,l⟩;have h8:m.heap.size<=wT.heap.size:=(by first|exact l.size|exact bV j.size l.size);have h7:=(eB l (b:=w.heap.size) (o:=0) (by first|(show w.heap.size<m.heap.size;omega)|(exact aZ h2 j.size)) (by omega)).trans (by first|exact y|assumption);have RT:=aS L;have F:=aS l;clear L l))
   all_goals
    go_wp2;go_ret;rw[X.out,<-HT.out];exact YL ((M.drew.trans (gX.of0 d j.out)).trans F.out) ⟨h0,⟨_,Y.out,RT.out⟩,P⟩ ((Z1.drew.grown j.out).kept F.out O) dS _ _ _ (aM ⟨rfl,rfl⟩)
  ·have hq:(((mD s.data.toList J:Nat):Int)==3)=false:=by simp;omega
   have h4:fW T i dS=false:=by have:¬(tk T i.k).is=dS:=λe=>G (D.2 e);simp[fW,this]
   have c:=HS.out;unfold kG at c;rw[aN (by rw[C,h4];decide)]at c;have HA:=aS c;clear f v t C D G h4 c;generalize mD s.data.toList J=kk at*;go_wp2_with fail;refine(rE dL gZ _ d s T i eD P1.out (aM (by decide))).mono ?_;rintro e w2 ⟨E,(⟨rfl,p2⟩|⟨A,b,rfl,h1⟩)⟩
   case inr=>
    have c:=HA.out
    cases p:fC T n (cL T i eD)with
    |none=>rw[p]at c;cases c
    |some q=>
    obtain⟨x,s1⟩:=q;rw[p]at c;have e5:=jR A p;rw[e5]at c;dsimp only at c;rw[aN (by rw[vJ A];decide),iA A]at c;cases c;unfold eA;go_wp2;exact⟨rfl,M.trans E,aM ⟨A,b,rfl,h1⟩⟩
   case inl=>
   have h9:w2.cell? ⟨w.heap.size,0,none⟩=some (.pointer (some ⟨d,0,none⟩)):=by rw[eB E h2 (by omega)];exact y
   have e2:m.heap.size<=w2.heap.size:=E.size;have D:=lX p2.neg;have P2:=aS p2;have K2:=aS (M.trans E);have Z2:=aS (Z1.kept E O);clear p2 E y;have c:=HA.out
   cases p:fC T n (cL T i eD)with
   |none=>rw[p]at c;cases c
   |some q=>
   obtain⟨x,s1⟩:=q;rw[p]at c;have HX:=aS p;have HY:=aS c;clear c p c1;go_wp2_with fail;refine(YK T n hl HE.out _ d s H _ x s1 ex h3 (tk T i.k).pos HX.out HY.out P2.out Z2.out O).mono ?_;rintro e w3 ⟨K,(⟨v2,H3,m2,rfl,S,V,N,U,d3⟩|⟨A,b,rfl,h1⟩)⟩
   case inr=>unfold eA;go_wp2;exact⟨rfl,K2.trans K,aM ⟨A,b,rfl,h1⟩⟩
   case inl=>
   have Q:=aS (aL S (aL (K2.trans K) (aL V (aL (N.from (n:=w.heap.size) (by omega)) (aL U d3)))));clear S K V N U d3;go_wp2;go_ret;obtain⟨S,K,V,N,U,d3⟩:=Q.out;exact⟨K,aQ ⟨_,H3,m2,rfl,S,V,N,U,by omega⟩⟩
theorem oo{A:St->Option (Ex×St)}{T:List fI}{f:Nat}{x:Ex}{w:St}{b:Ex}{a:St}(e:0<=w.bad)(h:tD A T f x w=some (b,a)):a=w:=by
 cases f with
 |zero=>simp[tD]at h
 |succ f=>rw[tD,aN (by rw[vJ e,vJ e,vJ e];decide)]at h;cases h;rfl
theorem vl(T:List fI)(n:Nat)(hl:T.length<=400)(hE:VQ T n)(w:World)(c:Nat)(s:ByteArray)(H:aB)(A:St)(x:Ex)(V:St)(ex:Ex)(h1:St)
  (hs:kG (fC T n) T A=some (x,V)) (ha:tD (kG (fC T n) T) T (T.length+1) x V=some (ex,h1)) (h:sX dL w c s T A) (hz:Fz H w) (hr:H c=none):
  Calls prog 137 #[A5 c] w λe w'=>zJ w w' c s T H A.k h1 e ex:=by
 have e3:=h.lt;have HP:=aS (h.alloc (.cells #[.pointer (some ⟨c,0,none⟩)] 182));have HZ:=aS (hz.alloc (.cells #[.pointer (some ⟨c,0,none⟩)] 182));have HE:=aS hE;have HS:=aS hs;have HA:=aS ha;have K0:=aS ((gX.refl c w).alloc (.cells #[.pointer (some ⟨c,0,none⟩)] 182));clear h hz hE hs ha;unfold A5;go_enter func137,ntmps137;go_wp2_with fail;refine(Bn T n hl HE.out _ c s H A x V HS.out HP.out HZ.out hr).mono ?_;rintro e w1 ⟨K,(⟨v1,H1,m1,rfl,p1,z1,e1,r1,d1⟩|⟨I,b,rfl,h0⟩)⟩
 case inr=>have f:=oo I HA.out;unfold eA;go_wp2;exact⟨rfl,K0.trans K,aM ⟨by rw[f];exact I,b,rfl,by rw[f];exact h0⟩⟩
 case inl=>
 obtain⟨t1,b1,e9,rfl,h8,e0⟩:=r1.dat z1
 have h6:w1.cell? ⟨w.heap.size,0,none⟩=some (.pointer (some ⟨c,0,none⟩)):=by rw[eB K (by simp) (by omega)];simp[go_sem]
 have e6:w.heap.size<w1.heap.size:=by have:=K.size;simp at this;omega
 have P1:=aS p1;have K1:=aS (K0.trans K);have Z1:=aS z1;have E1:=aS (e1.from (n:=w.heap.size) (by simp));have R1:=aS r1;have D1:=aS d1;clear p1 K z1 e1 r1 d1 h8 e0;go_wp2_with fail
 go_loopg [3] (T.length+1) (λg v P=>∃t b Z m y i,v=(.iface t (.pointer (some ⟨b,0,none⟩)))/\Hid (tD (kG (fC T n) T) T g y i=some (ex,h1))/\Hid (sX dL P c s T i)/\Hid (gX c w P)/\Hid (Fz Z P)/\Hid (zW w.heap.size H Z)/\Hid (dI m Z (.iface t (.pointer (some ⟨b,0,none⟩))) y)/\Hid (cA m y+A.k<=i.k)/\P.cell? ⟨w.heap.size,0,none⟩=some (.pointer (some ⟨c,0,none⟩))/\w.heap.size<P.heap.size)
 case atStart=>exact⟨t1,b1,H1,m1,x,V,rfl,HA,P1,K1,Z1,E1,R1,D1,h6,e6⟩
 case round=>
  obtain⟨C,l,Y,m2,y,i,rfl,E,P2,K2,Z2,W,R,D2,h3,e7⟩:=hrel
  rename World=>w2
  obtain⟨F,rfl⟩:∃F,gk=F+1:=by
   cases gk with
   |zero=>have:=E.out;simp[tD]at this
   |succ F=>exact⟨F,rfl⟩
  go_wp2_with fail;refine(Ak _ c s T i P2.out).mono ?_;rintro e w3 ⟨rfl,G⟩
  have h4:w3.cell? ⟨w.heap.size,0,none⟩=some (.pointer (some ⟨c,0,none⟩)):=by rw[bT (a:=⟨w.heap.size,0,none⟩) (G.block w.heap.size e7 (by simp))];exact h3
  have w5:w2.heap.size<=w3.heap.size:=G.size;have P3:=aS (P2.out.grown G);have K3:=aS (K2.out.trans (gX.of0 c G));have Z3:=aS (Z2.out.grown G);have e5:Y c=none:=by rw[W.out.2 c e3];exact hr
  have f:=E.out;rw[tD]at f;clear G h3 P2 K2 Z2 E
  cases r:zB T i with
  |false=>
   have J:¬(fW T i bK=true\/fW T i dS=true\/fW T i eD=true):=by simp only[zB,O8]at r;rw[r.1,r.2.1,r.2.2];decide
   rw[aN J]at f;cases f;clear r J;go_wp2;go_ret;exact⟨K3.out,aQ ⟨_,Y,m2,rfl,P3.out,Z3.out,W.out,R.out,D2.out⟩⟩
  |true=>
   have J:fW T i bK=true\/fW T i dS=true\/fW T i eD=true:=by simpa[zB]using r
   rw[aR J]at f
   cases U:kG (fC T n) T i with
   |none=>rw[U]at f;cases f
   |some q=>
   obtain⟨z,O⟩:=q;rw[U]at f;have HX:=aS U;have E:=aS f;clear r J U f;go_wp2_with fail;refine(Bn T n hl HE.out _ c s Y i z O HX.out P3.out Z3.out e5).mono ?_;rintro e j ⟨L,(⟨v2,Q,m3,rfl,p4,z4,f,N,d4⟩|⟨I,b,rfl,h0⟩)⟩
   case inr=>have f:=oo I E.out;unfold eA;go_wp2;exact⟨rfl,K3.trans L,aM ⟨by rw[f];exact I,b,rfl,by rw[f];exact h0⟩⟩
   case inl=>
   obtain⟨D,o,w0,rfl,h9,e2⟩:=N.dat z4
   have h5:j.cell? ⟨w.heap.size,0,none⟩=some (.pointer (some ⟨c,0,none⟩)):=by rw[eB L (by omega) (by omega)];exact h4
   have w7:w3.heap.size<=j.heap.size:=L.size;have e8:=p4.klt;obtain⟨M,hM⟩:∃M,M=max m2 m3:=⟨_,rfl⟩;have RA:Hid (dI M Q (.iface C (.pointer (some ⟨l,0,none⟩))) y):=(dI.ext f _ _ _ R.out).le (by omega);have RB:Hid (dI M Q (.iface D (.pointer (some ⟨o,0,none⟩))) z):=N.le (by omega);have q1:cA M y=cA m2 y:=mE (dI.shape _ _ _ R.out) (by omega);have q2:cA M z=cA m3 z:=mE (dI.shape _ _ _ N) (by omega)
   have D5:=aS (show max (cA M y) (cA M z)+1+A.k<=O.k/\O.k<T.length by
    have:=D2.out;have:=mL R.out;have:=mL N
    omega)
   have ZA:=aS (z4.alloc (.cells #[(.iface C (.pointer (some ⟨l,0,none⟩))),(.iface D (.pointer (some ⟨o,0,none⟩)))] 130));have P5:=aS p4;have K5:=aS (K3.trans L);have E5:=aS (W.out.trans (f.from (n:=w.heap.size) (by omega)) (aV _));clear p4 L z4 f N d4 h9 e2 h4 hM q1 q2
   have AB:Hid (Calls prog 178 #[.slice (some ⟨j.heap.size,0,none⟩) 2 2] (j.alloc (.cells #[(.iface C (.pointer (some ⟨l,0,none⟩))),(.iface D (.pointer (some ⟨o,0,none⟩)))] 130)) λe w'=>e= .returned (.agg #[.int .i64 ((j4 [cA M y,cA M z]+1:Nat):Int)])/\(j.alloc (.cells #[(.iface C (.pointer (some ⟨l,0,none⟩))),(.iface D (.pointer (some ⟨o,0,none⟩)))] 130)).grownBy w' none):=
    yE _ (some ⟨j.heap.size,0,none⟩) 2 [(.iface C (.pointer (some ⟨l,0,none⟩))),(.iface D (.pointer (some ⟨o,0,none⟩)))] [cA M y,cA M z] rfl (by simp) (row2 (w:=j) (t:=130)) (Py (p:=λu d=>Jj _ u d) (RA.out.dat ZA.out) (RB.out.dat ZA.out)) (by have:=D5.out;simp[j4];omega)
   go_wp2_with fail;refine AB.out.mono ?_;rintro e w6 ⟨rfl,S⟩
   have h7:w6.cell? ⟨w.heap.size,0,none⟩=some (.pointer (some ⟨c,0,none⟩)):=by rw[bT (a:=⟨w.heap.size,0,none⟩) (S.block w.heap.size (by simp;omega) (by simp))];exact dP h5 _
   have w8:j.heap.size<=w6.heap.size:=by have:=S.size;simp at this;omega
   have X:=aS S;clear S h5;go_wp2_with fail
   go_roundg F
   case measure=>omega
   case rel=>
    obtain⟨H7,z7,x7,r7⟩:=uG (w:=w6) (H:=Q) (ZA.grown X.out) ⟨oO,[],[y,z],y.pos⟩ [(.iface C (.pointer (some ⟨l,0,none⟩))),(.iface D (.pointer (some ⟨o,0,none⟩)))] M (.cells #[.int .i64 ((cA (M+1) ⟨oO,[],[y,z],y.pos⟩:Nat):Int),(.iface C (.pointer (some ⟨l,0,none⟩))),(.iface D (.pointer (some ⟨o,0,none⟩)))] 213) rfl
     (As (p:=λu q=>dI M Q u q) RA.out RB.out)
     (λH' _ h2=>aM (aM (aM (aM (aM (aM (aQ ⟨rfl,_,_,rfl,rfl,h2⟩)))))))
    refine⟨_,_,H7,M+1,⟨oO,[],[y,z],y.pos⟩,O,rfl,E,((P5.alloc _).grown X.out).alloc _,((K5.alloc _).trans (gX.of0 c X.out)).alloc _,z7,E5.trans x7 (by omega),r7, ?_,dP h7 _,by simp;omega⟩;have hd:cA (M+1) ⟨oO,[],[y,z],y.pos⟩=max (cA M y) (cA M z)+1:=by simp[cA,j4]
    have:=D5.out;show cA (M+1) _+A.k<=O.k;omega
theorem VX(a b:aA):((B a).toList==(B b).toList)=(a==b):=by rw[iZ,iZ]
theorem PA(h a:aA)(u:Value)(c d:Nat)(w:World)(f:w.cell? ⟨c,0,none⟩=some (.pointer (some ⟨d,0,none⟩)))(g:w.cell? ⟨d,2,none⟩=some (.string (B a))):
  Calls prog 221 #[.agg #[.string (B h),u], .pointer (some ⟨c,0,none⟩)] w λe i=>e= .returned (.bool (h==a))/\w.grownBy i none:=by
 have j:=λx=>dP f x;have k:=λx=>dP g x;go_enter func221,ntmps221;go_wp2_with fail
 go_region
 go_wp2;go_ret;exact⟨eC (λb=>Ending.returned (.bool b)) (VX h a),cZ (aO _ _ _)⟩
def Iq(w:World)(g:Nat)(e:aD)(x:aH):Prop:=
 x.length=e.length/\g<w.heap.size/\∀(i:Nat) (h:aA) (u:Value),e[i]? =some h->x[i]? =some u->w.cell? ⟨g,i*2,none⟩=some (.string (B h))/\w.cell? ⟨g,i*2+1,none⟩=some u/\u.oneCell'=true
theorem Iq.grown{w f:World}{g:Nat}{c:aD}{d:aH}(h:Iq w g c d)(b:w.grownBy f none):Iq f g c d:=by obtain⟨l,e,m⟩:=h;refine⟨l,aZ e b.size,λi n u j k=> ?_⟩;obtain⟨o,p,q⟩:=m i n u j k;have x:=b.block g e (by simp);exact⟨by rw[bT (a:=⟨g,i*2,none⟩) x];exact o,by rw[bT (a:=⟨g,i*2+1,none⟩) x];exact p,q⟩
theorem Bo{l:aD}{j:Nat}{a x:aA}(h:l[j]? =some a):x∈l.take (j+1)↔x∈l.take j\/x=a:=by rw[iI,h];simp
theorem Bp(c:aA)(g H f l:Nat)(b:aD)(z:aH)(w:World)(U:b.length<=400)(E:Iq w g b z)(J:w.cell? ⟨f,0,none⟩=some (.pointer (some ⟨l,0,none⟩)))(I:f<w.heap.size)(K:w.cell? ⟨l,2,none⟩=some (.string (B c)))(N:l<w.heap.size):
  Calls prog 242 #[.slice (some ⟨g,0,none⟩) b.length H, .func (.func 221) #[] #[.pointer (some ⟨f,0,none⟩)]] w λe A=>(∃k:Int,e= .returned (.int .i64 k)/\(0<=k↔c∈b))/\w.grownBy A none:=by
 have C:=aS E;clear E;go_enter func242,ntmps242;go_wp2_with fail
 go_loopg [8] (b.length+1) (λq i F=>∃j:Nat,j<=b.length/\i= .int .i64 j/\q=b.length-j+1/\c∉b.take j/\w.grownBy F none)
 case atStart=>exact⟨0,by omega,rfl,by omega,by simp,bC _ _⟩
 case round=>
  obtain⟨j,R,rfl,W,y,m⟩:=hrel
  rename World=>F
  by_cases T:j<b.length
  ·obtain⟨d,v⟩:∃d,b[j]? =some d:=⟨b[j],aP _⟩;have X:=C.1;obtain⟨u,O⟩:∃u,z[j]? =some u:=⟨z[j]'(by omega),aP _⟩;obtain⟨P,Q,V⟩:=(C.grown m).2.2 j d u v O;have r:=J;rw[<-bT (a:=⟨f,0,none⟩) (m.block f I (by simp))]at r;have s:=K;rw[<-bT (a:=⟨l,2,none⟩) (m.block l N (by simp))]at s;have S:(j:Int)<(b.length:Int):=by omega
   have D:=aS m;have G:=aS (Bo (x:=c) v);clear m;by_cases o:d=c
   ·have t:(d==c)=true:=by simp[o]
    have M:c∈b:=by rw[<-o];exact cK v
    clear o;go_wp2_with (go_at_call 221;refine(PA d c u f l _ r s).mono ?_;rintro e A ⟨rfl,n⟩;rw[t];have p:=aS n;clear n);go_ret;exact⟨⟨(j:Int),rfl,λ_=>M,λ_=>Int.natCast_nonneg j⟩,D.trans p.out⟩
   ·have t:(d==c)=false:=by simp[o]
    go_wp2_with (go_at_call 221;refine(PA d c u f l _ r s).mono ?_;rintro e A ⟨rfl,n⟩;rw[t];have p:=aS n;clear n)
    go_roundg (b.length-(j+1)+1)
    case measure=>omega
    case rel=>exact⟨j+1,by omega,by go_num,rfl,λh=>((G.out).1 h).elim y (λe=>o e.symm),D.trans p.out⟩
  ·have L:j=b.length:=by omega
   subst L;rw[iV (aV _)]at y;go_wp2;go_ret;exact⟨⟨-1,rfl,by simp[y]⟩,m⟩
theorem Bq(w:World)(d:Nat)(s:ByteArray)(J:Nat)(g a:Nat)(x:aD)(t:aH)(E:x.length<=400)(m:XH w d s J)(r:Iq w g x t):
  Calls prog 180 #[A5 d, .slice (some ⟨g,0,none⟩) x.length a] w λe n=>e= .returned (.bool (decide (kQ s.data.toList J∈x)))/\w.grownBy n none:=by
 have G:∀(q:Fn) (first a:Array Value) (w:World),(Instr.makeFunc q first a).run prog w= .ok (.func q first a) w:=λ_ _ _ _=>rfl;have F:=aT m;obtain⟨u,v,p,y,z,A,C⟩:=sT m;generalize kQ s.data.toList J=f at*;have o:=aS (Bp f g a w.heap.size d x t (w.alloc (.cells #[.pointer (some ⟨d,0,none⟩)] 182)) E (r.grown (aO _ _ _)) (by simp[go_sem]) (by simp) (dP p _) (by simp;omega));clear u v p y z A C m r;unfold A5;by_cases c:f∈x
 ·have j:decide (f∈x)=true:=by simp[c]
  rw[j];go_enter func180,ntmps180;go_wp2_with (first|(go_at_call 242;refine o.mono ?_;rintro e n ⟨⟨k,rfl,l⟩,b⟩;have i:=aS b;have D:=l.2 c;clear b)|go_in);go_ret;exact⟨rfl,(aO _ _ _).trans i.out⟩
 ·have j:decide (f∈x)=false:=by simp[c]
  rw[j];go_enter func180,ntmps180;go_wp2_with (first|(go_at_call 242;refine o.mono ?_;rintro e n ⟨⟨k,rfl,l⟩,b⟩;have i:=aS b;have D:¬0<=k:=λh=>c (l.1 h);clear b)|go_in);go_ret;exact⟨rfl,(aO _ _ _).trans i.out⟩
theorem JW{E:St->Option (Ex×St)}{T:List fI}{f:Nat}{x:Ex}{e:St}{y:Ex}{w:St}(a:0<=e.bad)(h:kZ E T f x e=some (y,w)):w=e:=by
 cases f with
 |zero=>simp[kZ]at h
 |succ f=>rw[kZ,aN (by rw[vJ a];simp)]at h;cases h;rfl
theorem AV:∀(e:aD) (w:aH) (n:aA) (u:Value),w.length=e.length->iE (e++[n]) (w++[u])=iE e w++[.string (B n),u]
 |[],[],_,_,_=>rfl
 |[],_::_,_,_,h=>by simp at h
 |_::_,[],_,_,h=>by simp at h
 |a::e,b::w,n,u,h=>by have:=AV e w n u (by simpa using h);simp[iE,this]
theorem rS:∀(e:aD) (w:aH) (i:Nat) (x:aA) (u:Value),w.length=e.length->e[i]? =some x->w[i]? =some u->(iE e w)[i*2]? =some (.string (B x))/\(iE e w)[i*2+1]? =some u
 |[],_,_,_,_,_,h,_=>by simp at h
 |_::_,[],_,_,_,h,_,_=>by simp at h
 |a::e,b::w,0,x,u,_,h1,h2=>by simp at h1 h2;subst h1 h2;exact⟨rfl,rfl⟩
 |a::e,b::w,i+1,x,u,h,h1,h2=>by have:=rS e w i x u (by simpa using h) (by simpa using h1) (by simpa using h2);rw[show(i+1)*2=i*2+2 from by omega,show i*2+2+1=i*2+1+2 from by omega];simpa[iE]using this
def Ka(h:aH):Prop:=∀u,u∈h->∃t b,u=(.iface t (.pointer (some ⟨b,0,none⟩)))
theorem oq{w:World}{base:Nat}{k:Value}{e:aD}{a:aH}(h:w.ownsRow base 203 2 k e.length (iE e a))(l:a.length=e.length)(v:0<e.length)(q:Ka a):
  ∃g c,k= .slice (some ⟨g,0,none⟩) e.length c/\base<=g/\g<w.heap.size/\Iq w g e a:=by
 obtain⟨_,f⟩:=h;rcases f with⟨_,x⟩|⟨g,c,s,o,f,x,y,z,A,p⟩
 ·omega
 ·refine⟨g,c,o,f,aT x,l,aT x,λi r u d j=> ?_⟩
  have C:i<e.length:=by
   rcases bZ i e.length with h|h
   ·exact h
   ·rw[bW h]at d;cases d
  obtain⟨m,n⟩:=rS e a i r u l d j;rw[<-p,gD,aR (by omega)]at m n;obtain⟨t,b,rfl⟩:=q u (cK j);refine⟨?_, ?_,rfl⟩
  ·simp only[World.cell?,x];simpa using m
  ·simp only[World.cell?,x];simpa using n
def ij(h:aA):Prop:=(∃c r,h=c::r/\low c=true)/\h∉dL
theorem ot{T:List fI}{k:Nat}(h:At dL l T k J)(e:(tk T k).is=bK):ij (tk T k).s:=by have w:=s9 dL gZ l J h.1;rw[h.tk]at e⊢;have x:=w.name.2 e;have a:=w.real (by rw[e];decide) (by rw[e];decide);rw[<-a.1];exact⟨w.isWord x.1,x.2⟩
theorem Kb{T:List fI}{k:Nat}(h:At dL l T k J)(d:ij (kQ l J)):(tk T k).is=bK:=by
 have e:=s9 dL gZ l J h.1;rw[h.tk];obtain⟨⟨c,r,x,a⟩,b⟩:=d;by_cases w:mD l J=2
 ·exact e.name.1 ⟨w,b⟩
 ·have:=e.notWord w _ rfl c r x;rw[a]at this;cases this
theorem vm:(prog.info? 203).map (λi=>(i.zero,i.size,i.bytes))=some (some (.agg #[.string (B []), .nilIface]),2,32):=by kernel_rfl
theorem Br:(prog.info? 130).map (λi=>(i.zero,i.size,i.bytes))=some (some .nilIface,1,16):=by kernel_rfl
theorem Kc(w:World)(a b:Value)(t:TypeId):∀(j:Nat) (u:Value),[a,b][j]? =some u->(w.alloc (.cells #[a,b] t)).cell? (Addr.add ⟨w.heap.size,0,none⟩ j)=some u:=by
 intro j u h
 match j,h with
 |0,h=>simp at h;subst h;simp[go_sem]
 |1,h=>simp at h;subst h;simp[go_sem]
 |j+2,h=>simp at h
theorem Bt(e:aA)(t b:Nat):∀u,u∈[Value.string (B e),(.iface t (.pointer (some ⟨b,0,none⟩)))]->u.oneCell'=true:=by intro u h;simp at h;rcases h with rfl|rfl<;>rfl
theorem Kd(t b:Nat):∀u,u∈[((.iface t (.pointer (some ⟨b,0,none⟩))):Value)]->u.oneCell'=true:=by intro u h;simp at h;subst h;rfl
theorem vo(w:World)(base:Nat)(e:base<=w.heap.size)(h:aA)(u:Value):(w.alloc (.cells #[.string (B h),u] 203)).ownsRow base 203 2 (.slice (some ⟨w.heap.size,0,none⟩) 1 1) 1 (iE [h] [u]):=
 ⟨rfl,aM ⟨w.heap.size,1,#[.string (B h),u],rfl,e,bY _ _,by omega,by unfold maxLen;omega,rfl,rfl⟩⟩
theorem PB{w b:World}{a base n:Nat}{v:Value}(h:w.ownsRow base e size v n xs)(c:gX a w b)(d:a<base):b.ownsRow base e size v n xs:=
 AJ h λk x=>c.block k (mT h x).2 (by have:=(mT h x).1;simp;omega)
theorem vp{w x:World}{base n:Nat}{v:Value}(h:w.ownsRow base e size v n xs)(a:w.grownBy x none):x.ownsRow base e size v n xs:=
 AJ h λk b=>a.block k (mT h b).2 (by simp)
structure RI(T:List fI)(w wi:World)(rb:Nat)(s:ByteArray)(H:aB)(k0:Nat)(gv:Value)(y:Ex)(sy:St)(us:aH)(Hi:aB)(m:Nat):Prop where
 own:wi.ownsRow (w.heap.size+1) 203 2 gv y.names.length (iE y.names us)
 ulen:us.length=y.names.length
 some':0<y.names.length
 allx:Ka us
 free:∀k,some k=gv.ownBlock->Hi k=none
 op:y.op=gV
 klen:y.kids.length=y.names.length
 reps:∀(i:Nat) (k:Ex) (u:Value),us[i]? =some u->y.kids[i]? =some k->dI m Hi u k
 nms:∀nm,nm∈y.names->ij nm
 st:sX dL wi rb s T sy
 kept:gX rb w wi
 fz:Fz Hi wi
 ext:zW w.heap.size H Hi
 deep:∀k,k∈y.kids->cA m k+k0+1<=sy.k
 count:y.names.length+k0<=sy.k
 box:wi.cell? ⟨w.heap.size,0,none⟩=some (.pointer (some ⟨rb,0,none⟩))
 more:w.heap.size<wi.heap.size
theorem RI.rb{T:List fI}{w i:World}{e:Nat}{s:ByteArray}{H:aB}{d:Nat}{a:Value}{y:Ex}{f:St}{g:aH}{x:aB}{m:Nat}(h:RI T w i e s H d a y f g x m)(c:e<w.heap.size)(b:H e=none):x e=none:=by rw[h.ext.2 e c];exact b
theorem RI.step{T:List fI}{w j b:World}{e:Nat}{s:ByteArray}{H:aB}{f:Nat}{d:Value}{y:Ex}{g a:St}{i:aH}{c:aB}{m:Nat}(h:RI T w j e s H f d y g i c m)
  (x:gX e j b) (n:sX dL b e s T a) (q:g.k<=a.k) (p:e<w.heap.size) (o:H e=none):RI T w b e s H f d y a i c m:=
 ⟨PB h.own x (by omega),h.ulen,h.some',h.allx,h.free,h.op,h.klen,h.reps,h.nms,n,h.kept.trans x,h.fz.kept x (h.rb p o),h.ext,λk l=>by have:=h.deep k l;omega,by have:=h.count;omega,
  by rw[eB x h.more (by omega)];exact h.box,aZ h.more x.size⟩
theorem RI.grown{T:List fI}{w i g:World}{e:Nat}{s:ByteArray}{H:aB}{c:Nat}{a:Value}{y:Ex}{d:St}{f:aH}{x:aB}{m:Nat}(h:RI T w i e s H c a y d f x m)
  (b:i.grownBy g none) (k:e<w.heap.size) (j:H e=none):RI T w g e s H c a y d f x m:=
 h.step (gX.of0 e b) (h.st.grown b) (aV _) k j
theorem RI.start{T:List fI}{w:World}{h:Nat}{s:ByteArray}{H:aB}{st f:St}{t b:TypeId}{a:aB}{m:Nat}{x:Ex}(p:Nat)(A:h<w.heap.size)(r:ij (tk T st.k).s)
  (d:gX h (w.alloc (.cells #[.pointer (some ⟨h,0,none⟩)] 182)) w1) (v:sX dL w1 h s T f) (o:Fz a w1) (q:zW (w.alloc (.cells #[.pointer (some ⟨h,0,none⟩)] 182)).heap.size H a) (n:dI m a (.iface t (.pointer (some ⟨b,0,none⟩))) x) (z:cA m x+st.k+2<=f.k):
  RI T w (w1.alloc (.cells #[.string (B (tk T st.k).s),(.iface t (.pointer (some ⟨b,0,none⟩)))] 203)) h s H st.k (.slice (some ⟨w1.heap.size,0,none⟩) 1 1) ⟨gV,[(tk T st.k).s],[x],p⟩ f [(.iface t (.pointer (some ⟨b,0,none⟩)))] a m:=by
 have y:w.heap.size+1<=w1.heap.size:=by have:=d.size;simp at this;omega
 refine⟨vo w1 _ y _ _,rfl,by simp,λu l=>by simp at l;exact⟨t,b,l⟩,λk e=> ?_,rfl,rfl,λi k u c g=> ?_,λC j=>by simp at j;rw[j];exact r,v.alloc _,(((gX.refl h w).alloc (.cells #[.pointer (some ⟨h,0,none⟩)] 182)).trans d).alloc _,o.alloc _,q.from (by simp),λk e=> ?_, ?_, ?_,by simp;omega⟩
 ·simp[Value.ownBlock]at e;subst e;exact o.none (aV _)
 ·cases i with
  |zero=>simp at c g;subst c g;exact n
  |succ i=>simp at c
 ·simp at e;subst e;omega
 ·have:=mL n;simp;omega
 ·refine dP ?_ _;rw[eB d (by simp) (by omega)];simp[go_sem]
theorem RI.add{T:List fI}{w I l G:World}{r:Nat}{s:ByteArray}{H:aB}{Y:Nat}{z:Value}{y:Ex}{sy S:St}{v:aH}{U:aB}{m:Nat}(h:RI T w I r s H Y z y sy v U m)(h5:r<w.heap.size)
  {t b:TypeId} {D:aB} {C:Nat} {x:Ex} {M:aA} (h0:ij M) (P:gX r I l) (hp:sX dL l r s T S) (R:Fz D l) (O:zW I.heap.size U D) (Q:dI C D (.iface t (.pointer (some ⟨b,0,none⟩))) x) (hd:cA C x+sy.k+2<=S.k)
  {g V:Nat} (h3:G.ownsRow (w.heap.size+1) 203 2 (.slice (some ⟨g,0,none⟩) (y.names.length+1) V) (y.names.length+1) (iE y.names v++[.string (B M),(.iface t (.pointer (some ⟨b,0,none⟩)))]))
  (E:(l.alloc (.cells #[.string (B M),(.iface t (.pointer (some ⟨b,0,none⟩)))] 203)).grownBy G z.ownBlock) (L:z.ownBlock=some g\/g=l.heap.size+1):
  RI T w G r s H Y (.slice (some ⟨g,0,none⟩) (y.names.length+1) V) ⟨y.op,y.names++[M],y.kids++[x],y.pos⟩ S (v++[(.iface t (.pointer (some ⟨b,0,none⟩)))]) D (max m C):=by
 have h7:I.heap.size<=l.heap.size:=P.size;have X:=h.more;have K:∀k,some k=z.ownBlock->w.heap.size+1<=k/\k<I.heap.size:=λk e=>mT h.own e
 have N:∀k,k<l.heap.size->some k≠z.ownBlock->G.heap[k]? =l.heap[k]? :=λk c d=>by rw[E.block k (by simp;omega) d,bQ _ _ _ c]
 have W:∀k,some k=z.ownBlock->D k=none:=λk e=>by rw[O.2 k (K k e).2];exact h.free k e
 have h6:l.heap.size<=G.heap.size:=by have:=E.size;simp at this;omega
 refine⟨?_,by simp[h.ulen],by simp, ?_, ?_,h.op,by simp[h.klen], ?_, ?_, ?_, ?_, ?_,h.ext.trans O (jW X), ?_, ?_, ?_,by omega⟩
 ·rw[bD,AV _ _ _ _ h.ulen];exact h3
 ·intro u A;rcases cH.1 A with A|A
  ·exact h.allx u A
  ·simp at A;exact⟨t,b,A⟩
 ·intro k e;simp[Value.ownBlock]at e;subst e;rcases L with L|L
  ·exact W _ L.symm
  ·exact R.none (by omega)
 ·intro i k u c d;rcases bZ i v.length with p|p
  ·rw[bJ p]at c;rw[bJ (by rw[h.klen,<-h.ulen];exact p)]at d;exact(dI.ext O _ _ _ (h.reps i k u c d)).le (by omega)
  ·rw[cD p]at c;rw[cD (by rw[h.klen,<-h.ulen];exact p)]at d;rw[h.klen,<-h.ulen]at d
   cases e:i-v.length with
   |zero=>rw[e]at c d;simp at c d;subst c d;exact Q.le (by omega)
   |succ j=>rw[e]at c;simp at c
 ·intro n q;rcases cH.1 q with q|q
  ·exact h.nms n q
  ·simp at q;rw[q];exact h0
 ·obtain⟨q1,⟨J,q2,Z⟩,q4⟩:=hp;exact⟨q1,⟨J,q2,by unfold XH;rw[N r (aT Z) (λe=>by have:=(K r e).1;omega)];exact Z⟩,q4⟩
 ·have F:=h.kept.trans P
  exact⟨E.os.trans F.os,E.tape.trans F.tape,E.output.trans F.output,by have:=F.size;omega,λk f q=>by
   rw[N k (by omega) (λe=>by have:=(K k e).1;omega)]
   exact F.block k f q⟩
 ·intro k o e;rw[N k (R.lt e) (λe'=>by rw[W k e']at e;cases e)];exact R k o e
 ·intro k f;rcases cH.1 f with f|f
  ·obtain⟨i,p,rfl⟩:=jM.1 f;have h4:i<v.length:=by rw[h.ulen,<-h.klen];exact p
   have hr:=h.reps i (y.kids[i]) (v[i]) (aP h4) (aP p);rw[mE (dI.shape _ _ _ hr) (show m<=max m C by omega)];have:=h.deep _ f;omega
  ·simp at f;subst f;rw[mE (dI.shape _ _ _ Q) (show C<=max m C by omega)];have:=h.count;have:=h.some';omega
 ·have:=h.count;have:=mL Q;simp;omega
 ·rw[bT (a:=⟨w.heap.size,0,none⟩) (N w.heap.size (by omega) (λe=>by have:=(K _ e).1;omega)),eB P X (by omega)];exact h.box
theorem EI{w:aD}{x:aA}{p:Nat}{e:St}(h:¬(x∈w/\e.bad<0)):pX w x p e=e:=by unfold pX;rw[aN h]
theorem Bu(w:World)(u:Value):(w.alloc (.cells #[u] 130)).ownsRow w.heap.size 130 1 (.slice (some ⟨w.heap.size,0,none⟩) 1 1) 1 [u]:=
 ⟨rfl,aM ⟨w.heap.size,1,#[u],rfl,aV _,bY _ _,by omega,by unfold maxLen;omega,rfl,rfl⟩⟩
theorem JX{a b c:World}{d:Option Nat}(h:a.grownBy b none)(w:b.grownBy c d)(g:∀k,some k=d->a.heap.size<=k):a.grownBy c none:=
 ⟨w.os.trans h.os,w.tape.trans h.tape,w.output.trans h.output,bV h.size w.size,λk x f=>by
  rw[w.block k (aZ x h.size) (λe=>by have:=g k e;omega)]
  exact h.block k x f⟩
theorem Ke{w:World}{base n:Nat}{v:Value}(h:w.ownsRow base 130 1 v n xs)(o:0<n):∃g x,v= .slice (some ⟨g,0,none⟩) n x/\g<w.heap.size/\∀(i:Nat) (u:Value),xs[i]? =some u->w.cell? ⟨g,i,none⟩=some u:=by
 obtain⟨p,d⟩:=h;rcases d with⟨_,q⟩|⟨g,x,f,b,j,a,k,l,m,c⟩
 ·omega
 ·refine⟨g,x,b,aT a,λi u e=> ?_⟩;rw[<-c,gD]at e;split at e
  ·simp only[World.cell?,a];simpa using e
  ·cases e
theorem TQ(a:Nat)(l:aC):j4 (a::l)=j4 (l++[a]):=by rw[JI];unfold j4;rw[fD,BF];omega
theorem Kf{l:aC}{b:Nat}(h:∀a,a∈l->a<=b):j4 l<=b:=by
 induction l with
 |nil=>simp[j4]
 |cons a l w=>rw[TQ,JI];have:=w (λx e=>h x (bE _ e));have:=h a (bG ..);omega
theorem Bv(T:List fI)(n:Nat)(hl:T.length<=400)(hE:VQ T n)(w:World)(A:Nat)(s:ByteArray)(H:aB)(st:St)(x y b:Ex)(s1 S P:St)(p:Nat)
  (X:pA (fC T n) T ⟨gV,[],[],p⟩ st=some (x,s1)) (hy:kZ (fC T n) T (T.length+1) x s1=some (y,S)) (hw:fC T n (cL T S BE)=some (b,P)) (h:sX dL w A s T st) (hz:Fz H w) (hr:H A=none):
  Calls prog 135 #[A5 A] w λe w'=>zJ w w' A s T H st.k P e ⟨y.op,y.names,y.kids++[b],y.pos⟩:=by
 have h0:=h.lt;have HP:=aS (h.alloc (.cells #[.pointer (some ⟨A,0,none⟩)] 182));have HZ:=aS (hz.alloc (.cells #[.pointer (some ⟨A,0,none⟩)] 182));have HE:=aS hE;have K0:=aS ((gX.refl A w).alloc (.cells #[.pointer (some ⟨A,0,none⟩)] 182))
 have F2:=aS (show 0<=S.bad->P=S fromλD=>by
  have e:=jR (by rw[iA D];exact D) hw
  rw[e,iA D])
 have F3:=aS (show 0<=(cL T S BE).bad->P=cL T S BE fromλD=>jR D hw);unfold pA at X;rw[EI (by simp)]at X;dsimp only at X
 cases x1:fC T n (cL T (cL T st bK) DS)with
 |none=>rw[x1]at X;cases X
 |some q=>
 obtain⟨a,l6⟩:=q;rw[x1]at X;cases X;have HX:=aS x1;have HY:=aS hy;have HW:=aS hw;obtain⟨J0,a8,_⟩:=h.place;have e8:=aS (show(tk T st.k).is=bK->ij (tk T st.k).s fromλe=>ot a8 e);have g2:=h.neg;clear h hz hE x1 hy hw a8;unfold A5;go_enter func135,ntmps135;go_wp2_with fail;refine(fy T n HE.out _ A s H st a s1 HX.out HP.out HZ.out hr).mono ?_;rintro e w1 ⟨k1,(⟨t1,b1,H1,m1,l3,rfl,p1,z1,e1,r1,d1⟩|⟨D,V,rfl,h3⟩)⟩
 case inr=>have o:=JW D HY.out;have r:=F2.out (by rw[o];exact D);rw[o]at r;unfold eA;go_wp2;exact⟨rfl,K0.trans k1,aM ⟨by rw[r];exact D,V,rfl,by rw[r];exact h3⟩⟩
 case inl=>
 have a0:(cL T st bK).bad<0:=by
  rcases Int.lt_or_le (cL T st bK).bad 0 with h|h
  ·exact h
  ·have e3:cL T (cL T st bK) DS=cL T st bK:=iA h;have o:=jR (by rw[e3];exact h) HX.out;have:=p1.neg;rw[o,e3]at this;omega
 have b7:(tk T st.k).is=bK:=by
  cases z:fW T st bK with
  |true=>exact VG z
  |false=>rw[yA g2 z]at a0;simp at a0;omega
 have x5:=aS (RI.start (T:=T) (st:=st) p h0 (e8.out b7) k1 p1 z1 e1 r1 d1);have l5:w.heap.size<w1.heap.size:=by have:=k1.size;simp at this;omega
 have j2:w1.cell? ⟨w.heap.size,0,none⟩=some (.pointer (some ⟨A,0,none⟩)):=by rw[eB k1 (by simp) (by omega)];simp[go_sem]
 clear k1 p1 z1 e1 r1 d1 a0 b7 e8 HP HZ K0;go_wp2_with fail
 go_loopg [3] (T.length+1) (λg v wi=>∃Z l I Hi m,Hid (kZ (fC T n) T g Z l=some (y,S))/\Hid (RI T w wi A s H st.k v Z l I Hi m))
 case atStart=>exact⟨_,_,_,_,_,HY,x5⟩
 case round=>
  obtain⟨Z,l,I,Hi,m,BB,RR⟩:=hrel
  rename World=>w2
  obtain⟨F,rfl⟩:∃F,gk=F+1:=by
   cases gk with
   |zero=>have:=BB.out;simp[kZ]at this
   |succ F=>exact⟨F,rfl⟩
  have a7:=RR.out.box;go_wp2_with fail;refine(oT dL gZ _ A s T l zV RR.out.st (aQ (by decide))).mono ?_;rintro e w3 ⟨rfl,p3,k3⟩;have o:=BB.out;rw[kZ]at o
  cases z:fW T l zV with
  |false=>
   rw[aN (by rw[z];simp)]at o;cases o;rw[nO z]at p3;have t:=aS (RR.out.step k3 p3 (aV _) h0 hr);have h7:=t.box;clear z p3 k3 BB RR x5 HY a7;go_wp2_with fail;refine(rE dL gZ _ A s T S BE t.st (aQ (by decide))).mono ?_;rintro e w4 ⟨k4,(⟨rfl,p4⟩|⟨D,V,rfl,h3⟩)⟩
   case inr=>have r:=F3.out D;unfold eA;go_wp2;exact⟨rfl,t.kept.trans k4,aM ⟨by rw[r];exact D,V,rfl,by rw[r];exact h3⟩⟩
   case inl=>
   have f:=aS (t.step k4 p4 Px h0 hr);have e9:=f.box;clear t h7 k4 p4;go_wp2_with fail;refine(HE.out _ A s Hi _ b P HW.out f.st f.fz (f.rb h0 hr)).mono ?_;rintro e Q ⟨G,(⟨v5,H5,m5,rfl,O,R,r,N,d5⟩|⟨D,V,rfl,h3⟩)⟩
   case inr=>unfold eA;go_wp2;exact⟨rfl,f.kept.trans G,aM ⟨D,V,rfl,h3⟩⟩
   case inl=>
   obtain⟨Y,U,i9,rfl,f3,f4⟩:=N.dat R;have a5:=PB f.own G (by omega);obtain⟨g,w0,rfl,f6,f7,h5⟩:=oq a5 f.ulen f.some' f.allx;have l0:y.names.length<=400:=by have:=f.count;have:=f.st.klt;omega
   have l4:=f.ulen;have i4:w.heap.size<Q.heap.size:=aZ f.more G.size;have Q5:=aS (aL G (aL O (aL R (aL r (aL N d5)))));have GA:=aS h5;have O5:=aS a5;obtain⟨i1,z,a2,a3,a4⟩:=oR Br;clear G O R r N d5 f3 f4 a5 h5 e9;go_wp2_with fail
   go_loopg [5,34] (y.names.length+1) (λq bv i wi=>∃j:Nat,j<=y.names.length/\i= .int .i64 j/\q=y.names.length-j+1/\Hid (wi.ownsRow Q.heap.size 130 1 bv (j+1) ((.iface Y (.pointer (some ⟨U,0,none⟩)))::I.take j))/\Hid (Q.grownBy wi none))
   case atStart=>exact⟨0,by omega,rfl,by omega,Bu _ _,aO _ _ _⟩
   case round=>
    obtain⟨j,hj,rfl,W,OW,GR⟩:=hrel
    rename World=>w6
    by_cases k6:j<y.names.length
    ·obtain⟨nm,g3⟩:∃nm,y.names[j]? =some nm:=⟨y.names[j],aP _⟩;obtain⟨u,hu⟩:∃u,I[j]? =some u:=⟨I[j]'(by omega),aP _⟩;obtain⟨c0,c1,_⟩:=(GA.grown GR.out).2.2 j nm u g3 hu;obtain⟨t6,b6,rfl⟩:=f.allx u (cK hu);have k0:(j:Int)<(y.names.length:Int):=by omega
     have h4:=OW.out;have HU:=aS hu;have i5:Q.heap.size<=w6.heap.size:=GR.out.size;clear hu;go_wp2_with (at_builtin;refine jQ _ rfl (.tmp 38) (.tmp 41) 345 rfl Q.heap.size 130 i1 .nilIface 1 16 underlying345 z a2 a3 a4 rfl (by decide) _ _ _ rfl ((h4.alloc _).alloc _) ⟨w6.heap.size+1,0,none⟩ 1 1 [(.iface t6 (.pointer (some ⟨b6,0,none⟩)))] rfl rfl ?d1 ?d2 (by decide) ?d3 ?d4 ?d5 (w6.heap.size+2) ?d6 ?_)
     case d1=>intro q uu i2;have:=IB (w6.alloc (.cells #[.string (B nm),(.iface t6 (.pointer (some ⟨b6,0,none⟩)))] 203)) (.iface t6 (.pointer (some ⟨b6,0,none⟩))) 130 q uu i2;simpa using this
     case d2=>exact Kd _ _
     case d3=>unfold maxLen;omega
     case d4=>omega
     case d5=>simp;omega
     case d6=>simp
     intro g7 d7 w7 e2 e0 _ _;have ON:=aS e2;have GN:=aS (JX ((GR.out.trans (aO _ _ _)).trans (aO _ _ _)) e0 (λk e=>(mT h4 e).1));clear e2 e0 h4 c0 c1;go_wp2_with fail
     go_roundg (y.names.length-(j+1)+1)
     case measure=>omega
     case rel=>
      refine⟨j+1,by omega,by go_num,rfl, ?_,GN⟩;have e:I.take (j+1)=I.take j++[(.iface t6 (.pointer (some ⟨b6,0,none⟩)))]:=by rw[iI,HU.out];rfl
      rw[e];exact ON
    ·have g0:j=y.names.length:=by omega
     subst g0;have h4:=OW.out;rw[iV (by omega)]at h4;obtain⟨g6,d0,rfl,f8,c2⟩:=Ke h4 (by omega);have a6:=f.ulen;have c4:=f.klen;have i5:Q.heap.size<=w6.heap.size:=GR.out.size;obtain⟨M,hM⟩:∃M,M=max m m5:=⟨_,rfl⟩;obtain⟨G,O,R,r,N,d5⟩:=Q5.out;have l1:=O.klt;have RB:Hid (dI M H5 (.iface Y (.pointer (some ⟨U,0,none⟩))) b):=N.le (by omega);have RK:Hid (∀(i:Nat) (k:Ex) (u:Value),I[i]? =some u->y.kids[i]? =some k->dI M H5 u k):=λi k u C E=>(dI.ext r _ _ _ (f.reps i k u C E)).le (by omega);have Z6:=aS (R.grown GR.out);have k9:(cL T S BE).k=S.k+1:=lX f.st.neg
     have DK:Hid (∀k,k∈y.kids->cA M k+st.k+1<=P.k):=λk L=>by
      obtain⟨i,z,rfl⟩:=jM.1 L;have j0:i<I.length:=by omega
      have i3:=f.reps i (y.kids[i]) (I[i]) (aP j0) (aP z);rw[mE (dI.shape _ _ _ i3) (show m<=M by omega)];have:=f.deep _ L;have:=mL N;omega
     have DB:Hid (cA M b+st.k+1<=P.k):=by show cA M b+st.k+1<=P.k;rw[mE (dI.shape _ _ _ N) (show m5<=M by omega)];have:=f.count;have:=f.some';omega
     have b3:j4 (cA M b::y.kids.map (cA M))+1+st.k<=P.k:=by
      have:j4 (cA M b::y.kids.map (cA M))<=P.k-st.k-1:=Kf λa ha=>by
       rcases bH.1 ha with rfl|ha
       ·have:=DB.out;omega
       ·obtain⟨k,L,rfl⟩:=fF.1 ha;have:=DK.out k L;omega
      have:=DB.out;omega
     have AB:=yE w6 (some ⟨g6,0,none⟩) d0 ((.iface Y (.pointer (some ⟨U,0,none⟩)))::I) (cA M b::y.kids.map (cA M)) (by simp;omega) (by simp;omega) (λi u hu=>⟨g6,rfl,f8,c2 i u hu⟩)
      (λi u d C E=>by
       cases i with
       |zero=>simp at C E;subst C E;exact RB.out.dat Z6.out
       |succ i=>
        simp only[nC,iH,iU]at C E;obtain⟨k,L,rfl⟩:=E
        exact(RK.out i k u C L).dat Z6.out) (by omega)
     have g1:((.iface Y (.pointer (some ⟨U,0,none⟩)))::I).length=y.names.length+1:=by simp[a6]
     rw[g1]at AB;obtain⟨_,hO⟩:=O5.out;rcases hO with⟨hO,_⟩|⟨gg,cc,w9,d8,d9,h8,f0,f1,f2,x0⟩
     ·cases hO
     cases d8
     have x2:H5 g=none:=by rw[r.2 g (mT f.own (k:=g) rfl).2];exact f.free g rfl
     have c6:=aS (aL h8 (aL x0 x2));have c5:=aS AB;have c7:=aS b3;have K5:=aS (f.kept.trans G);have P5:=aS O;have E5:=aS (f.ext.trans (r.from (n:=w.heap.size) (jW f.more)) (aV _));have g9:=aS f.op;have i6:=aS f.some';clear AB h8 x0 x2 b3 h4 c2 G O R r N d5 hM d9 f0 f1 f2;go_wp2_with fail;refine c5.mono ?_;rintro e w8 ⟨rfl,g8⟩;have G8:=aS g8;have l2:w6.heap.size<=w8.heap.size:=g8.size;clear g8;go_wp2;go_ret;obtain⟨h8,x0,x2⟩:=c6.out;have f9:g<Q.heap.size:=aT h8
     have c9:w8.heap[g]? =some (.cells w9 203 (0,0)):=by rw[G8.block g (by omega) (by simp),GR.out.block g f9 (by simp)];exact h8
     have x6:zW w.heap.size H5 (Fz.more H5 g (.cells w9 203 (0,0))):=(zW.refl _ _).add (by omega) x2;have z8:Fz (Fz.more H5 g (.cells w9 203 (0,0))) w8:=(Z6.grown G8.out).add c9
     have b2:cA (M+1) ⟨gV,y.names,y.kids++[b],y.pos⟩=j4 (cA M b::y.kids.map (cA M))+1:=by show j4 ((y.kids++[b]).map (cA M))+1=_;rw[eR,TQ];rfl
     rw[g9.out]
     obtain⟨H9,z9,x9,r9⟩:=uG (w:=w8) z8 ⟨gV,y.names,y.kids++[b],y.pos⟩ (I++[(.iface Y (.pointer (some ⟨U,0,none⟩)))]) M (.cells #[.int .i64 ((j4 (cA M b::y.kids.map (cA M))+1:Nat):Int), .slice (some ⟨g,0,none⟩) y.names.length w0,(.iface Y (.pointer (some ⟨U,0,none⟩)))] 210) (by simp;omega)
      (λi k u C E=>by
       rcases bZ i I.length with z|z
       ·rw[bJ z]at C;rw[bJ (by omega)]at E;exact dI.ext x6 _ _ _ (RK.out i k u C E)
       ·rw[cD z]at C;rw[cD (by omega),c4,<-a6]at E
        cases e:i-I.length with
        |zero=>rw[e]at C E;simp at C E;subst C E;exact dI.ext x6 _ _ _ RB.out
        |succ q=>rw[e]at C;simp at C)
      (λH' X E=>by
       rw[b2]
       exact aM (aM (aM (aM (aM (aQ ⟨rfl,I,(.iface Y (.pointer (some ⟨U,0,none⟩))),_,i6.out,a6,by simp[c4],rfl,⟨g,w0,w9,rfl,X.1 _ _ (Fz.more_same _ _ _),x0⟩,E⟩))))))
     refine⟨((K5.trans (gX.of0 A GR.out)).trans (gX.of0 A G8.out)).alloc _,aQ ⟨_,H9,M+1,rfl,((P5.grown GR.out).grown G8.out).alloc _,z9,(E5.trans x6 (aV _)).trans x9 (by omega),r9, ?_⟩⟩;rw[b2];exact c7.out
  |true=>
   rw[aR ⟨RR.out.op,z⟩]at o;rw[jN z]at p3;have j1:l.up.k=l.k+1:=rfl;have t:=aS (RR.out.step k3 p3 (by rw[j1];omega) h0 hr);clear z p3 k3 BB RR x5 HY a7;obtain⟨g,w0,rfl,f6,f7,h5⟩:=oq t.own t.ulen t.some' t.allx;obtain⟨J,K,x4⟩:=t.st.place;have h7:=t.box;have j3:=t.count;have k2:=t.st.klt;have x3:=(s9 dL gZ s.data.toList J K.1).pos;rw[<-K.tk]at x3;have NO:=aS (Bq w3 A s J g w0 Z.names I (by omega) x4 h5);unfold pA at o;go_wp2_with fail;refine NO.mono ?_;rintro e w4 ⟨rfl,g4⟩;by_cases hm:kQ s.data.toList J∈Z.names
   ·have hd:decide (kQ s.data.toList J∈Z.names)=true:=by simp[hm]
    have L:=Kb K (t.nms _ hm);have h6:=(s9 dL gZ s.data.toList J K.1).real (by rw[<-K.tk,L];decide) (by rw[<-K.tk,L];decide);rw[<-K.tk]at h6;have a1:fW T l.up bK=true:=by simp[fW,t.st.neg,L]
    have c3:pX Z.names (tk T l.up.k).s (tk T l.up.k).pos (cL T l.up bK)=⟨l.up.k+1,((tk T l.up.k).pos:Int)⟩:=by unfold pX;rw[sD a1,jN a1,aR ⟨by rw[<-h6.1];exact hm,t.st.neg⟩];rfl
    rw[c3]at o;have h9:(0:Int)<=(⟨l.up.k+1,((tk T l.up.k).pos:Int)⟩:St).bad:=by simp
    rw[iA h9]at o
    have S3:Hid (P.bad=(J:Int)):=by
     cases W:fC T n ⟨l.up.k+1,((tk T l.up.k).pos:Int)⟩with
     |none=>rw[W]at o;cases o
     |some q=>obtain⟨c,s4⟩:=q;rw[W]at o;have r:=jR h9 W;rw[r]at o;dsimp only at o;have e6:=JW h9 o;have e7:=F2.out (by rw[e6];exact h9);show P.bad=(J:Int);rw[e7,e6];show((tk T l.up.k).pos:Int)=(J:Int);rw[x3]
    have K4:=aS (t.kept.trans (gX.of0 A g4))
    have e9:w4.cell? ⟨w.heap.size,0,none⟩=some (.pointer (some ⟨A,0,none⟩)):=by rw[bT (a:=⟨w.heap.size,0,none⟩) (g4.block w.heap.size t.more (by simp))];exact h7
    have RF:=aS (A4 w4 A s J (x4.grown g4));rw[hd];clear g4 hm hd L h6 a1 c3 h9 o x3 h5 K x4 NO h7;go_wp2_with fail;refine RF.mono ?_;rintro e Q ⟨⟨V,rfl,b0⟩,g5⟩;have HB:=aS b0;have G5:=aS g5;clear b0 g5;unfold eA;go_wp2;exact⟨rfl,K4.trans (gX.of0 A G5.out),aM ⟨by rw[S3.out];simp,V,rfl,by rw[S3.out];exact HB.out⟩⟩
   ·have hd:decide (kQ s.data.toList J∈Z.names)=false:=by simp[hm]
    have x7:(cL T l.up bK).bad<0->(tk T l.up.k).is=bK:=by
     intro hh
     cases z:fW T l.up bK with
     |true=>exact VG z
     |false=>rw[yA t.st.neg z]at hh;simp at hh;omega
    have b8:¬((tk T l.up.k).s∈Z.names/\(cL T l.up bK).bad<0):=by rintro⟨C,E⟩;have L:=x7 E;have h6:=(s9 dL gZ s.data.toList J K.1).real (by rw[<-K.tk,L];decide) (by rw[<-K.tk,L];decide);rw[<-K.tk]at h6;rw[<-h6.1]at C;exact hm C
    rw[EI b8]at o;have f:=aS (t.grown g4 h0 hr);have e9:=f.box;have e8:=aS (show(cL T l.up bK).bad<0->ij (tk T l.up.k).s fromλh=>ot K (x7 h))
    cases W:fC T n (cL T (cL T l.up bK) DS)with
    |none=>rw[W]at o;cases o
    |some q=>
    obtain⟨c,s4⟩:=q;rw[W]at o;dsimp only at o;have HQ:=aS W;have AA:=aS o;rw[hd];clear g4 hm hd x7 b8 o x3 h5 K x4 NO h7 t W;go_wp2_with fail;refine(fy T n HE.out _ A s Hi l.up c s4 HQ.out f.st f.fz (f.rb h0 hr)).mono ?_;rintro e Q ⟨G,(⟨Y,U,H5,m5,i9,rfl,O,R,r,N,d5⟩|⟨D,V,rfl,h3⟩)⟩
    case inr=>have r:=JW D AA.out;have e6:=F2.out (by rw[r];exact D);rw[r]at e6;unfold eA;go_wp2;exact⟨rfl,f.kept.trans G,aM ⟨by rw[e6];exact D,V,rfl,by rw[e6];exact h3⟩⟩
    case inl=>
    have b4:(cL T l.up bK).bad<0:=by
     rcases Int.lt_or_le (cL T l.up bK).bad 0 with h|h
     ·exact h
     ·have e3:cL T (cL T l.up bK) DS=cL T l.up bK:=iA h;have o:=jR (by rw[e3];exact h) HQ.out;have:=O.neg;rw[o,e3]at this;omega
    have b9:=PB f.own G (by omega);have i4:w.heap.size+1<=Q.heap.size:=by have:=f.more;have:=G.size;omega
    have Q5:=aS (aL G (aL O (aL R (aL r (aL N d5)))));have c8:=aS b4;obtain⟨i0,z,a2,a3,a4⟩:=oR vm;clear G O R r N d5 b4 e9;go_wp2_with (at_builtin;refine jQ _ rfl (.tmp 20) (.tmp 23) 208 rfl (w.heap.size+1) 203 i0 (.agg #[.string (B []), .nilIface]) 2 32 underlying208 z a2 a3 a4 rfl (by decide) _ _ _ rfl (b9.alloc _) ⟨Q.heap.size,0,none⟩ 1 1 [.string (B (tk T l.up.k).s),(.iface Y (.pointer (some ⟨U,0,none⟩)))] rfl rfl ?d1 ?d2 (by decide) ?d3 ?d4 ?d5 (Q.heap.size+1) ?d6 ?_)
    case d1=>exact Kc _ _ _ _
    case d2=>exact Bt _ _ _
    case d3=>unfold maxLen;omega
    case d4=>omega
    case d5=>simp;omega
    case d6=>simp
    intro g7 d7 w7 e2 e0 a9 _;obtain⟨G,O,R,r,N,d5⟩:=Q5.out;have R7:=aS (f.add h0 (e8.out c8.out) G O R r N d5 e2 e0 a9);clear e2 e0 a9 G O R r N d5 b9;go_wp2_with fail
    go_roundg F
    case measure=>omega
    case rel=>exact⟨_,s4,_,_,_,AA,R7⟩
theorem zJ.via{w g:World}{a:Nat}{s:ByteArray}{T:List fI}{H:aB}{k0 d:Nat}{f:St}{e:Ending}{b:Ex}(c:gX a w w1)(h:zJ w1 g a s T H d f e b)(q:k0<=d):zJ w g a s T H k0 f e b:=by
 obtain⟨j,x⟩:=h;refine⟨c.trans j, ?_⟩;rcases x with⟨v,i,m,k,l,n,o,p,r⟩|x
 ·exact aQ ⟨v,i,m,k,l,n,o.from c.size,p,by omega⟩
 ·exact aM x
theorem Oi(T:List fI)(t:T.length<=400):∀n,VQ T n
 |0=>λw g s H b ex E I=>by simp[fC]at I
 |n+1=>λw g s H b ex E I h hz p=>by
  have hE:=Oi T t n;have h6:=h.lt;have h7:=h.neg;rw[fC,aN (by omega)]at I;have HP:=aS (h.alloc (.cells #[.pointer (some ⟨g,0,none⟩)] 182));have HZ:=aS (hz.alloc (.cells #[.pointer (some ⟨g,0,none⟩)] 182));have F:=aS hE;have X:=aS I;have K0:=aS ((gX.refl g w).alloc (.cells #[.pointer (some ⟨g,0,none⟩)] 182));clear h hz hE I;unfold A5;go_enter func96,ntmps96;go_wp2_with fail;refine(oT dL gZ _ g s T b dO HP.out (aQ (by decide))).mono ?_;rintro e w1 ⟨rfl,u,J⟩
  have h2:w1.cell? ⟨w.heap.size,0,none⟩=some (.pointer (some ⟨g,0,none⟩)):=by rw[eB J (by simp) (by omega)];simp[go_sem]
  have h8:w.heap.size<w1.heap.size:=by have:=J.size;simp at this;omega
  have K1:=aS (K0.trans J);have Z1:=aS (HZ.kept J p);clear HP HZ K0 J
  cases c:fW T b dO with
  |true=>
   rw[jN c]at u;have a:=X.out;rw[aR c]at a
   cases d:fC T n (cL T (cL T b.up bK) cV)with
   |none=>rw[d]at a;cases a
   |some q=>
   obtain⟨y,s4⟩:=q;rw[d]at a;cases a;have Q:=aS u;have o:=aS d;clear c d u;go_wp2_with fail;refine(Tz T n t F.out _ g s H b.up y E (tk T b.k).pos o.out Q.out Z1.out p).mono ?_;rintro e V i;have f:=aS (zJ.via (k0:=b.k) K1.out i (by show b.k<=b.k+1;omega));rcases i with⟨_,(⟨v,O,m,rfl,_⟩|⟨_,U,rfl,_⟩)⟩
   ·go_wp2;go_ret;exact f.out
   ·unfold eA at f⊢;go_wp2;exact⟨rfl,f.out⟩
  |false=>
  rw[nO c]at u;have a:=X.out;rw[aN (by rw[c];decide)]at a;have Y:=aS a;have Q:=aS u;clear X c u a;go_wp2_with fail;refine(oT dL gZ _ g s T b xA Q.out (aQ (by decide))).mono ?_;rintro e V ⟨rfl,A,K⟩
  have h3:V.cell? ⟨w.heap.size,0,none⟩=some (.pointer (some ⟨g,0,none⟩)):=by rw[eB K (by omega) (by omega)];exact h2
  have h9:w1.heap.size<=V.heap.size:=K.size;have K2:=aS (K1.trans K);have Z2:=aS (Z1.kept K p);clear Q K1 Z1 K h2
  cases c:fW T b xA with
  |true=>
   rw[jN c]at A;have a:=Y.out;rw[aR c]at a
   cases d:fC T n b.up with
   |none=>rw[d]at a;cases a
   |some q=>
   obtain⟨x,l⟩:=q;rw[d]at a;dsimp only at a
   cases r:fC T n (cL T l pJ)with
   |none=>rw[r]at a;cases a
   |some q=>
   obtain⟨y,N⟩:=q;rw[r]at a;dsimp only at a
   cases j:fC T n (cL T N oN)with
   |none=>rw[j]at a;cases a
   |some q=>
   obtain⟨z,s3⟩:=q;rw[j]at a;cases a;have R:=aS A;have o:=aS d;have Z:=aS r;have G:=aS j;clear c d r j A;go_wp2_with fail;refine(Au T n t F.out _ g s H b.up x y z l N E (tk T b.k).pos o.out Z.out G.out R.out Z2.out p).mono ?_;rintro e W i;have f:=aS (zJ.via (k0:=b.k) K2.out i (by show b.k<=b.k+1;omega));rcases i with⟨_,(⟨v,O,m,rfl,_⟩|⟨_,U,rfl,_⟩)⟩
   ·go_wp2;go_ret;exact f.out
   ·unfold eA at f⊢;go_wp2;exact⟨rfl,f.out⟩
  |false=>
  rw[nO c]at A;have a:=Y.out;rw[aN (by rw[c];decide)]at a;have P:=aS a;have R:=aS A;clear Y c A a;go_wp2_with fail;refine(oT dL gZ _ g s T b iP R.out (aQ (by decide))).mono ?_;rintro e W ⟨rfl,C,L⟩
  have h4:W.cell? ⟨w.heap.size,0,none⟩=some (.pointer (some ⟨g,0,none⟩)):=by rw[eB L (by omega) (by omega)];exact h3
  have e0:V.heap.size<=W.heap.size:=L.size;have K3:=aS (K2.trans L);have Z3:=aS (Z2.kept L p);clear R K2 Z2 L h3
  cases c:fW T b iP with
  |true=>
   rw[jN c]at C;have a:=P.out;rw[aR c]at a;have h0:=aS a;have S:=aS C;clear P c C a;go_wp2_with fail;refine(oT dL gZ _ g s T b.up gV S.out (aQ (by decide))).mono ?_;rintro e w4 ⟨rfl,D,M⟩
   have h5:w4.cell? ⟨w.heap.size,0,none⟩=some (.pointer (some ⟨g,0,none⟩)):=by rw[eB M (by omega) (by omega)];exact h4
   have e1:W.heap.size<=w4.heap.size:=M.size;have K4:=aS (K3.trans M);have Z4:=aS (Z3.kept M p);clear S K3 Z3 M h4
   cases c:fW T b.up gV with
   |true=>
    have a:=h0.out;rw[aR c]at a
    cases d:pA (fC T n) T ⟨gV,[],[],(tk T b.k).pos⟩ (pW T b.up gV)with
    |none=>rw[d]at a;cases a
    |some q=>
    obtain⟨x,l⟩:=q;rw[d]at a;dsimp only at a
    cases r:kZ (fC T n) T (T.length+1) x l with
    |none=>rw[r]at a;cases a
    |some q=>
    obtain⟨y,N⟩:=q;rw[r]at a;dsimp only at a
    cases j:fC T n (cL T N BE)with
    |none=>rw[j]at a;cases a
    |some q=>
    obtain⟨z,s3⟩:=q;rw[j]at a;cases a;rw[jN c]at D d;have P4:=aS D;have o:=aS d;have Z:=aS r;have G:=aS j;clear c d r j D;go_wp2_with fail;refine(Bv T n t F.out _ g s H b.up.up x y z l N E (tk T b.k).pos o.out Z.out G.out P4.out Z4.out p).mono ?_;rintro e w5 i;have f:=aS (zJ.via (k0:=b.k) K4.out i (by show b.k<=b.k+1+1;omega));rcases i with⟨_,(⟨v,O,m,rfl,_⟩|⟨_,U,rfl,_⟩)⟩
    ·go_wp2;go_ret;exact f.out
    ·unfold eA at f⊢;go_wp2;exact⟨rfl,f.out⟩
   |false=>
    have a:=h0.out;rw[aN (by rw[c];decide),nO c]at a;rw[nO c]at D;unfold pA at a;rw[EI (by simp)]at a;dsimp only at a
    cases d:fC T n (cL T (cL T b.up bK) DS)with
    |none=>rw[d]at a;cases a
    |some q=>
    obtain⟨x,l⟩:=q;rw[d]at a;dsimp only at a
    have e2:kZ (fC T n) T (T.length+1) ⟨iP,[]++[(tk T b.up.k).s],[]++[x],(tk T b.k).pos⟩ l=some (⟨iP,[]++[(tk T b.up.k).s],[]++[x],(tk T b.k).pos⟩,l):=by rw[kZ,aN];rintro⟨e,_⟩;exact absurd e (by show¬iP=gV;decide)
    rw[e2]at a;dsimp only at a
    cases j:fC T n (cL T l BE)with
    |none=>rw[j]at a;cases a
    |some q=>
    obtain⟨z,s3⟩:=q;rw[j]at a;cases a;have P4:=aS D;have o:=aS d;have G:=aS j;clear c d j D e2;go_wp2_with fail;refine(Uc T n t F.out _ g s H b.up x z l E (tk T b.k).pos o.out G.out P4.out Z4.out p).mono ?_;rintro e w5 i;have f:=aS (zJ.via (k0:=b.k) K4.out i (by show b.k<=b.k+1;omega));rcases i with⟨_,(⟨v,O,m,rfl,_⟩|⟨_,U,rfl,_⟩)⟩
    ·go_wp2;go_ret;exact f.out
    ·unfold eA at f⊢;go_wp2;exact⟨rfl,f.out⟩
  |false=>
  rw[nO c]at C;have a:=P.out;rw[aN (by rw[c];decide)]at a
  cases d:kG (fC T n) T b with
  |none=>rw[d]at a;cases a
  |some q=>
  obtain⟨x,l⟩:=q;rw[d]at a;have S:=aS C;have o:=aS d;have HA:=aS a;clear c d C a P;go_wp2_with fail;refine(vl T n t F.out _ g s H b x l ex E o.out HA.out S.out Z3.out p).mono ?_;rintro e w5 i;have f:=aS (zJ.via (k0:=b.k) K3.out i (aV _));rcases i with⟨_,(⟨v,O,m,rfl,_⟩|⟨_,U,rfl,_⟩)⟩
  ·go_wp2;go_ret;exact f.out
  ·unfold eA at f⊢;go_wp2;exact⟨rfl,f.out⟩
theorem ik(p q:Addr)(w:World):
  CallsD prog 129 #[.pointer (some p), .pointer (some q)] .returning w λe a b=>e= .returned (.tuple #[])/\a= .returning/\b=w:=by
 refine xW func129 rfl λh c x=> ?_;apply wpS_seq;apply MV;simp[wpOpsS,go_sem,recoverD,x,ntmps129,Exit.thenS];refine V8 ?_;go_wp2;cases h;simp_all[bodyPostS,results,results129]
theorem sK{w:World}{b o:Nat}{v:Value}(h:w.cell? ⟨b,o,none⟩=some v)(c:w.frozen? ⟨b,o,none⟩=false)(x:Obj):(w.alloc x).frozen? ⟨b,o,none⟩=false:=by
 have d:b<w.heap.size:=by
  rcases bZ b w.heap.size with e|e
  ·exact e
  ·simp[World.cell?,tH e]at h
 rw[World.frozen?_of_block (a:=⟨b,o,none⟩) (bQ _ _ _ d)];exact c
theorem AW(v:Value)(w:World):(Instr.typeAssert (.iface 268 v) 20 268 true).run prog w= .ok (.tuple #[v, .bool true]) w:=by kernel_rfl
theorem DJ(p q:Nat)(t b:TypeId)(k l:Value)(w:World)(a:w.cell? ⟨p,0,none⟩=some k)(d:w.frozen? ⟨p,0,none⟩=false)(c:w.cell? ⟨q,0,none⟩=some l)(f:w.frozen? ⟨q,0,none⟩=false)(g:p≠q)(C:p<w.heap.size)(F:q<w.heap.size):
  CallsD prog 129 #[.pointer (some ⟨p,0,none⟩), .pointer (some ⟨q,0,none⟩)] (.panicking [{v:= .iface 268 (.agg #[(.iface t (.pointer (some ⟨b,0,none⟩)))]),recovered:=false}]) w λe j m=>
   e= .returned (.tuple #[])/\j= .panicking [{v:= .iface 268 (.agg #[(.iface t (.pointer (some ⟨b,0,none⟩)))]),recovered:=true}]/\m=(((w.setCell ⟨p,0,none⟩ .nilIface).setCell ⟨q,0,none⟩ (.iface t (.pointer (some ⟨b,0,none⟩)))).alloc (.cells #[(.iface t (.pointer (some ⟨b,0,none⟩)))] 268)).drew:=by
 have n:=λx=>dP a x;have o:=λx=>dP c x;have u:=λx=>sK a d x;have y:=λx=>sK c f x;have G:q≠p:=λe=>g e.symm;have z:p≠w.heap.size:=by omega
 have A:w.heap.size≠p:=by omega
 have D:q≠w.heap.size:=by omega
 have E:w.heap.size≠q:=by omega
 refine xW func129 rfl λs r i=> ?_;have h:(#[Value.pointer (some ⟨p,0,none⟩), .pointer (some ⟨q,0,none⟩)]++Array.replicate (Tryz.f129.ntmps-(#[Value.pointer (some ⟨p,0,none⟩), .pointer (some ⟨q,0,none⟩)]:Array Value).size) undef)= #[Value.pointer (some ⟨p,0,none⟩), .pointer (some ⟨q,0,none⟩),undef,undef,undef,undef,undef,undef,undef,undef,undef,undef,undef,undef,undef]:=rfl;rw[h];clear h;apply wpS_seq;apply MV;simp[wpOpsS,go_sem,recoverD,i,Exit.thenS];refine V8 ?_;have H:=AW;go_wp2_with fail
 go_region
 refine⟨rfl,_,rfl, .tuple #[], ?_,rfl,rfl,rfl⟩;simp[results,results129]
theorem Kg(T:List fI)(l:T.length<=400)(n:Nat)(w:World)(x:Nat)(s:ByteArray)(H:aB)(a:St)(c:Ex)(d:St)(i:fC T n a=some (c,d))(h:sX dL w x s T a)(j:Fz H w)(o:H x=none):
  Calls prog 95 #[.pointer (some ⟨x,0,none⟩)] w λe p=>zJ w p x s T H a.k d e c:=by
 have f:=aS (Oi T l n w x s H a c d i h j o);unfold A5 at f;clear i h j;go_enter func95,ntmps95;go_wp2_with fail;refine f.mono ?_;rintro e t g;have b:=aS g;rcases g with⟨_,(⟨v,q,m,rfl,_⟩|⟨_,r,rfl,_⟩)⟩
 ·go_wp2;go_ret;exact b.out
 ·unfold eA at b⊢;go_wp2;exact⟨rfl,b.out⟩
def Xp(w x:World)(h:St)(e:Ending)(c:Ex):Prop:=
 w.grownBy x none/\((h.bad<0/\∃v a m,e= .returned (.tuple #[v, .nilIface])/\Fz a x/\dI m a v c/\cA m c<=400)\/
  (0<=h.bad/\∃b,e= .returned (.tuple #[.nilIface, .iface 134 (.pointer (some ⟨b,0,none⟩))])/\x.heap[b]? =some (.cells #[.int .i64 h.bad] 145 (0,0))))
theorem VY{h:World}{N w:Nat}{x:Int}{m g f:TypeId}(d:w''=(((h.setCell ⟨N,0,none⟩ .nilIface).setCell ⟨N+1,0,none⟩ (.iface f (.pointer (some ⟨w,0,none⟩)))).alloc (.cells #[.iface f (.pointer (some ⟨w,0,none⟩))] 268)).drew)
  {q:Value} (j:h.heap[N]? =some (.cells #[v0] m (0,0))) (l:h.heap[N+1]? =some (.cells #[q] g (0,0))) (a:h.heap[w]? =some (.cells #[.int .i64 x] 145 (0,0))) (y:m≠145:=by decide) (v:g≠145:=by decide):
  w''.cell? ⟨N,0,none⟩=some .nilIface/\w''.cell? ⟨N+1,0,none⟩=some (.iface f (.pointer (some ⟨w,0,none⟩)))/\w''.heap[w]? =some (.cells #[.int .i64 x] 145 (0,0))/\
   (h.heap.size<=w''.heap.size/\w''.os=h.os/\w''.tape=h.tape/\w''.output=h.output/\∀k,k<N->w''.heap[k]? =h.heap[k]?):=by
 have z:w≠N:=λe=>by rw[e,j]at a;simp at a;exact y a.2
 have A:w≠N+1:=λe=>by rw[e,l]at a;simp at a;exact v a.2
 have C:=aT j;have D:=aT l;have E:=aT a;obtain⟨c,b⟩:∃c,c=(h.setCell ⟨N,0,none⟩ .nilIface).setCell ⟨N+1,0,none⟩ (.iface f (.pointer (some ⟨w,0,none⟩))):=⟨_,rfl⟩;rw[<-b]at d;have F:c.heap.size=h.heap.size:=by rw[b];simp[World.setCell]
 have p:∀k,k≠N->k≠N+1->c.heap[k]? =h.heap[k]? :=λk t u=>by rw[b,bO _ _ _ _ (by show k≠N+1;exact u),bO _ _ _ _ (by show k≠N;exact t)]
 have r:c.heap[N]? =some (.cells #[.nilIface] m (0,0)):=by rw[b,bO _ _ _ _ (by show N≠N+1;omega)];simp[World.setCell,dN,j]
 have s:c.heap[N+1]? =some (.cells #[.iface f (.pointer (some ⟨w,0,none⟩))] g (0,0)):=by
  have n:(h.setCell ⟨N,0,none⟩ .nilIface).heap[N+1]? =some (.cells #[q] g (0,0)):=by rw[bO _ _ _ _ (by show N+1≠N;omega)];exact l
  rw[b];generalize h.setCell ⟨N,0,none⟩ .nilIface=G at n;simp[World.setCell,dN,n]
 have i:∀k,k<c.heap.size->w''.heap[k]? =c.heap[k]? :=λk o=>by rw[d];exact bQ _ _ _ o
 refine⟨?_, ?_, ?_, ?_,by rw[d,b];rfl,by rw[d,b];rfl,by rw[d,b];rfl,λk o=> ?_⟩
 ·simp[World.cell?,i N (by omega),r]
 ·simp[World.cell?,i (N+1) (by omega),s]
 ·rw[i w (by omega),p w z A];exact a
 ·rw[d];simp;omega
 ·rw[i k (by omega),p k (by omega) (by omega)]
theorem Bw{h:World}{N:Nat}{v u b:Value}{a w:TypeId}(e:w''=((h.setCell ⟨N,0,none⟩ v).setCell ⟨N,0,none⟩ v).setCell ⟨N+1,0,none⟩ u)(f:h.heap[N]? =some (.cells #[v0] a (0,0)))(g:h.heap[N+1]? =some (.cells #[b] w (0,0))):
  w''.cell? ⟨N,0,none⟩=some v/\w''.cell? ⟨N+1,0,none⟩=some u/\(h.heap.size<=w''.heap.size/\w''.os=h.os/\w''.tape=h.tape/\w''.output=h.output/\∀k,k<N->w''.heap[k]? =h.heap[k]?):=by
 have c:w''.heap[N]? =some (.cells #[v] a (0,0)):=by rw[e,bO _ _ _ _ (by show N≠N+1;omega)];simp[World.setCell,dN,f]
 have d:w''.heap[N+1]? =some (.cells #[u] w (0,0)):=by
  have x:((h.setCell ⟨N,0,none⟩ v).setCell ⟨N,0,none⟩ v).heap[N+1]? =some (.cells #[b] w (0,0)):=by rw[bO _ _ _ _ (by show N+1≠N;omega),bO _ _ _ _ (by show N+1≠N;omega)];exact g
  rw[e];generalize (h.setCell ⟨N,0,none⟩ v).setCell ⟨N,0,none⟩ v=j at x;simp[World.setCell,dN,x]
 refine⟨by simp[World.cell?,c],by simp[World.cell?,d],by rw[e];simp[World.setCell],by rw[e];rfl,by rw[e];rfl,by rw[e];rfl,λk i=> ?_⟩;rw[e,bO _ _ _ _ (by show k≠N+1;omega),bO _ _ _ _ (by show k≠N;omega),bO _ _ _ _ (by show k≠N;omega)]
theorem pN{w h:World}{o:Obj}(x:w.grownBy w1 none)(i:w.heap.size<=w1.heap.size)(e:gX w1.heap.size (w1.alloc o) h)(b:h.heap.size<=w''.heap.size/\w''.os=h.os/\w''.tape=h.tape/\w''.output=h.output/\∀k,k<w.heap.size->w''.heap[k]? =h.heap[k]?):w.grownBy w'' none:=by
 obtain⟨j,c,d,f,g⟩:=b;refine⟨c.trans (e.os.trans x.os),d.trans (e.tape.trans x.tape),f.trans (e.output.trans x.output), ?_,λk a _=> ?_⟩
 ·have:=e.size;simp at this;omega
 ·rw[g k a,e.block k (by simp;omega) (by simp;omega),bQ _ _ _ (by omega),x.block k a (by simp)]
theorem Kh(s:ByteArray)(hs:s.size<=300)(w:World)(n:Nat)(F:Ex)(i:St)(hx:fC (dU dL s) n ⟨0,-1⟩=some (F,i)):
  Calls prog 94 #[.string s, .func (.func 95) #[] #[]] w λe w'=>Xp w w' (cL (dU dL s) i eE) e F:=by
 have w5:∀(fn:Fn) (first h2:Array Value) (w:World),(Instr.makeFunc fn first h2).run prog w= .ok (.func fn first h2) w:=λ_ _ _ _=>rfl;have e9:s.data.toList.length=s.size:=by rw[eH];rfl
 obtain⟨T,I⟩:∃T,T=dU dL s:=⟨_,rfl⟩;have e1:T.length<=400:=by rw[I];have:=uK dL s;omega
 have h3:At dL s.data.toList T 0 (upto mS s.data.toList 0):=by rw[I];have:=At.start dL s.data.toList;rw[e9]at this;exact this
 rw[<-I]at hx⊢;have x1:((s.size:Nat):Int)<=300:=by omega
 have HX:=aS hx;have h0:=aS h3;clear hx h3 I
 go_enter_defers func94,ntmps94
 go_wp2_with fail;refine(FX s 0 (by omega) hs _).mono ?_;rintro e c ⟨rfl,G⟩;dsimp only[VF]
 have O:c.heap[w.heap.size]? =some (.cells #[.nilIface] 130 (0,0)):=by rw[G.block _ (by simp;omega) (by simp),bQ _ _ _ (by simp)];exact bY _ _
 have A:c.heap[w.heap.size+1]? =some (.cells #[.nilIface] 72 (0,0)):=by rw[G.block _ (by simp) (by simp)];exact dC _ _ _ (by simp)
 have x0:=aT A;have S:=aS (((aO w (.cells #[.nilIface] 130) none).trans (aO _ (.cells #[.nilIface] 72) none)).trans G);obtain⟨J,hJ⟩:∃J,J=upto mS s.data.toList 0:=⟨_,rfl⟩;rw[<-hJ]at h0⊢;clear G hJ
 have PS:Hid (sX dL (c.alloc (.cells #[.string s, .int .i64 ((mD s.data.toList J:Nat):Int), .string (B (kQ s.data.toList J)), .int .i64 (J:Int)] 274)) c.heap.size s T ⟨0,-1⟩):=
  ⟨by decide,⟨J,h0.out,bY _ _⟩,hs⟩
 go_wp2_with fail;refine(Kg T e1 n _ c.heap.size s (λ_=>none) ⟨0,-1⟩ F i HX.out PS.out (oj _) rfl).mono ?_;rintro e h ⟨g,(⟨v,U,m,rfl,N,z2,e2,z,X⟩|⟨hb,d,rfl,h7⟩)⟩
 case inr=>
  have a:h.heap[w.heap.size]? =some (.cells #[.nilIface] 130 (0,0)):=by rw[g.block _ (by simp;omega) (by simp;omega),bQ _ _ _ (by omega)];exact O
  have b:h.heap[w.heap.size+1]? =some (.cells #[.nilIface] 72 (0,0)):=by rw[g.block _ (by simp;omega) (by simp;omega),bQ _ _ _ (by omega)];exact A
  have D:=aS g;have C:=aS hb;have e0:=aS h7;clear g hb h7 O A;unfold eA;go_wp2;refine tI (f:=129) (args:= #[.pointer (some ⟨w.heap.size,0,none⟩), .pointer (some ⟨w.heap.size+1,0,none⟩)]) (by simp) (by simp[go_sem]) ?_;refine(DJ w.heap.size (w.heap.size+1) 134 d .nilIface .nilIface h (by simp[World.cell?,a]) (by simp[World.frozen?,a]) (by simp[World.cell?,b]) (by simp[World.frozen?,b]) (by omega) (aT a) (aT b)).mono ?_;rintro e u' j ⟨rfl,rfl,q⟩;obtain⟨t,u,q2,y⟩:=VY q a b e0.out;refine⟨.tuple #[.nilIface, .iface 134 (.pointer (some ⟨d,0,none⟩))], ?_, ?_⟩
  ·simp[results,results94,go_sem,t,u]
  ·have o:=iA (T:=T) (x:=eE) C.out;refine⟨pN S.out (by omega) D.out y,aM ⟨by rw[o];exact C.out,d,rfl,by rw[o];exact q2⟩⟩
 case inl=>
  obtain⟨R,E,w9,rfl,e3,e4⟩:=z.dat z2
  have a:h.heap[w.heap.size]? =some (.cells #[.nilIface] 130 (0,0)):=by rw[g.block _ (by simp;omega) (by simp;omega),bQ _ _ _ (by omega)];exact O
  have b:h.heap[w.heap.size+1]? =some (.cells #[.nilIface] 72 (0,0)):=by rw[g.block _ (by simp;omega) (by simp;omega),bQ _ _ _ (by omega)];exact A
  have x2:=aT a;have x3:=aT b;have a0:h.cell? ⟨w.heap.size,0,none⟩=some .nilIface:=by simp[World.cell?,a]
  have a1:h.cell? ⟨w.heap.size+1,0,none⟩=some .nilIface:=by simp[World.cell?,b]
  have u0:h.frozen? ⟨w.heap.size,0,none⟩=false:=by simp[World.frozen?,a]
  have u1:h.frozen? ⟨w.heap.size+1,0,none⟩=false:=by simp[World.frozen?,b]
  have w3:=N.klt;have h6:=N.neg;obtain⟨l,K,M⟩:=N.place;have w8:=aT M;have Y:=(s9 dL gZ s.data.toList l K.1).theEnd;have Z:=(s9 dL gZ s.data.toList l K.1).pos;rw[<-K.tk]at Y Z;obtain⟨c0,c1,c2,c3,f1,f2,f3⟩:=sT M;have w6:c.heap.size≠w.heap.size:=by omega
  have w7:w.heap.size≠c.heap.size:=by omega
  have D:=aS g;have Z2:=aS z2;have E2:=aS e2;have R2:=aS z;have D2:=aS X;have RD:=aS M;have RA:=aS a;have RB:=aS b;have e6:cA m F<=400:=by have:=X;simp at this;omega
  have h1:=aS Y;have h9:=aS Z;have W:=aS h6;clear g N z2 e2 z X O A a b e3 e4 K M Y Z c0 c2 c3 f1 f2 f3 h6;by_cases p:mD s.data.toList l=0
  ·rw[p]at c1;have V:=aS p;clear p;go_wp2;refine tI (f:=129) (args:= #[.pointer (some ⟨w.heap.size,0,none⟩), .pointer (some ⟨w.heap.size+1,0,none⟩)]) (by simp) (by simp[go_sem]) ?_;refine(ik ⟨w.heap.size,0,none⟩ ⟨w.heap.size+1,0,none⟩ _).mono ?_;rintro e u' j ⟨rfl,rfl,q⟩;obtain⟨t,u,y⟩:=Bw q RA.out RB.out;refine⟨.tuple #[(.iface R (.pointer (some ⟨E,0,none⟩))), .nilIface], ?_, ?_⟩
   ·simp[results,results94,go_sem,t,u]
   ·have h5:U w.heap.size=none:=E2.2 _ (by simp;omega);have e7:U (w.heap.size+1)=none:=E2.2 _ (by simp;omega)
    have o:(cL T i eE).bad<0:=by
     have L:fW T i eE=true:=by simp[fW,W.out,h1.1 V.out]
     rw[sD L,jN L];exact W.out
    refine⟨pN S.out (by omega) D.out y,aQ ⟨o,_,U,m,rfl, ?_,R2.out,e6⟩⟩;rw[q];exact((Z2.set h5 _ _).set h5 _ _).set e7 _ _
  ·have hq:(((mD s.data.toList l:Nat):Int)==0)=false:=by simp;omega
   have V:=aS p;clear p;generalize mD s.data.toList l=kk at*;go_wp2_with fail
   have h8:XH (h.setCell ⟨w.heap.size,0,none⟩ (.iface R (.pointer (some ⟨E,0,none⟩)))) c.heap.size s l:=by unfold XH;rw[bO _ _ _ _ (by show c.heap.size≠w.heap.size;omega)];exact RD.out
   refine(A4 _ c.heap.size s l h8).mono ?_;rintro e w4 ⟨⟨d,rfl,h4⟩,H⟩
   have P:w4.heap[w.heap.size]? =some (.cells #[(.iface R (.pointer (some ⟨E,0,none⟩)))] 130 (0,0)):=by rw[H.block _ (by simp[World.setCell];omega) (by simp)];simp[World.setCell,dN,RA.out]
   have Q:w4.heap[w.heap.size+1]? =some (.cells #[.nilIface] 72 (0,0)):=by rw[H.block _ (by simp[World.setCell];omega) (by simp),bO _ _ _ _ (by show w.heap.size+1≠w.heap.size;omega)];exact RB.out
   have C:=aS h4;have r:=aS H;clear h4 H h8 a0 a1 u0 u1;unfold eA;go_wp2;refine tI (f:=129) (args:= #[.pointer (some ⟨w.heap.size,0,none⟩), .pointer (some ⟨w.heap.size+1,0,none⟩)]) (by simp) (by simp[go_sem]) ?_;refine(DJ w.heap.size (w.heap.size+1) 134 d (.iface R (.pointer (some ⟨E,0,none⟩))) .nilIface w4 (by simp[World.cell?,P]) (by simp[World.frozen?,P]) (by simp[World.cell?,Q]) (by simp[World.frozen?,Q]) (by omega) (aT P) (aT Q)).mono ?_;rintro e u' j ⟨rfl,rfl,q⟩;obtain⟨t,u,q2,y⟩:=VY q P Q C.out;refine⟨.tuple #[.nilIface, .iface 134 (.pointer (some ⟨d,0,none⟩))], ?_, ?_⟩
   ·simp[results,results94,go_sem,t,u]
   ·have L:fW T i eE=false:=by have:¬(tk T i.k).is=eE:=λe=>V.out (h1.2 e);simp[fW,this]
    have o:=yA W.out L;obtain⟨r1,z,r3,r4,r5⟩:=y
    have w0:h.heap.size<=j.heap.size/\j.os=h.os/\j.tape=h.tape/\j.output=h.output/\∀k,k<w.heap.size->j.heap[k]? =h.heap[k]? :=by have e8:=r.size;refine⟨by simp[World.setCell]at e8;omega,z.trans r.os,r3.trans r.tape,r4.trans r.output,λk p=> ?_⟩;rw[r5 k p,r.block k (by simp[World.setCell];omega) (by simp),bO _ _ _ _ (by show k≠w.heap.size;omega)]
    refine⟨pN S.out (by omega) D.out w0,aM ⟨by rw[o];simp,d,rfl, ?_⟩⟩;rw[o];show j.heap[d]? =some (.cells #[.int .i64 ((tk T i.k).pos:Int)] _ (0,0));rw[h9.out];exact q2
theorem cU{w:World}{b:Nat}{e:Array Value}{t:TypeId}(h:w.heap[b]? =some (.cells e t (0,0)))(i:Nat){v:Value}(x:e[i]? =some v):w.cell? ⟨b,i,none⟩=some v:=by simp[World.cell?,h,x]
theorem ou{w:World}{b:Nat}{e:Array Value}{t:TypeId}(h:w.heap[b]? =some (.cells e t (0,0)))(i:Nat):w.frozen? ⟨b,i,none⟩=false:=by simp[World.frozen?,h]
theorem ox{w:World}{b:Nat}{t:TypeId}(h:w.heap[b]? =some (.cells #[v0] t (0,0)))(v:Value):(w.setCell ⟨b,0,none⟩ v).heap[b]? =some (.cells #[v] t (0,0)):=by simp[World.setCell,dN,h]
theorem YQ{w e:World}(h:w.grownBy e none){n:Nat}(b:w.heap.size<=n)(i:Nat)(a:Value):w.grownBy (e.setCell ⟨n,i,none⟩ a) none:=
 ⟨h.os,h.tape,h.output,by have:=h.size;simp[World.setCell];exact this,λk x _=>by rw[bO _ _ _ _ (by show k≠n;omega)];exact h.block k x (by simp)⟩
theorem Ki(q:Addr)(w:World):
  CallsD prog 126 #[.pointer (some q)] .returning w λe a b=>e= .returned (.tuple #[])/\a= .returning/\b=w:=by
 refine xW func126 rfl λh c x=> ?_;apply wpS_seq;apply MV;simp[wpOpsS,go_sem,recoverD,x,ntmps126,Exit.thenS];refine V8 ?_;go_wp2;cases h;simp_all[bodyPostS,results,results126]
end Go.Proofs.YtcdijppegfcoaaaGreatDoor
