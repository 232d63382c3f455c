import Derived.Test.YtcdijppegfcoaaaGreatDoorZH36
set_option maxRecDepth 100000
set_option maxHeartbeats 2000000
set_option linter.unusedSimpArgs false
namespace Go.Proofs.YtcdijppegfcoaaaGreatDoor
open Go.RowKit Tryz
variable{H:Nat->Option Obj}{w:World}{mb:Nat}
theorem Lb(w:World)(g o:Nat)(l:aD)(n:aA)(C:l.length<=1000000)(k:∀(j:Nat) (x:aA),l[j]? =some x->w.cell? ⟨g,j,none⟩=some (.string (B x))):
  Calls prog 231 #[.slice (some ⟨g,0,none⟩) l.length o, .string (B n)] w λe u=>u=w/\∃r:Int,e= .returned (.int .i64 r)/\decide (0<=r)=decide (n∈l):=by
 have m:=aS k;clear k;go_enter func231,ntmps231;go_wp2_with fail
 go_loopg [8] (l.length+1) (λp i v=>∃j:Nat,j<=l.length/\i= .int .i64 j/\p=l.length-j+1/\v=w/\Hid (n∉l.take j))
 case atStart=>exact⟨0,by omega,rfl,by omega,rfl,aS (by simp)⟩
 case round=>
  obtain⟨j,A,rfl,z,rfl,b⟩:=hrel;by_cases t:j<l.length
  ·obtain⟨x,d⟩:∃x,l[j]? =some x:=⟨l[j],aP t⟩;have y:=m.out j x d;have f:=aS d;clear d;by_cases a:x=n
   ·subst a;have q:((B x).toList==(B x).toList)=true:=iD _;go_wp2;go_ret;exact⟨rfl,_,rfl,by rw[dE (cK f.out),dE (by omega)]⟩
   ·have q:((B n).toList==(B x).toList)=false:=by rw[iZ,iZ];exact dV.2 (kU a)
    have c:=aS (show n∉l.take (j+1)fromλh=>by
     rw[iI,f.out]at h;rcases cH.1 h with h|h
     ·exact b.out h
     ·simp at h;exact a h.symm)
    clear a;go_wp2
    go_roundg (l.length-(j+1)+1)
    case measure=>omega
    case rel=>exact⟨j+1,by omega,by go_num,rfl,rfl,c⟩
  ·have s:j=l.length:=by omega
   subst s;have c:=aS (show n∉l by have:=b.out;rwa[kK]at this);clear b;go_wp2;go_ret;exact⟨rfl,_,rfl,by rw[bN c.out];rfl⟩
theorem QX(w:World)(h a:Nat)(l:aD)(n:aA)(g:l.length<=1000000)(c:∀(j:Nat) (x:aA),l[j]? =some x->w.cell? ⟨h,j,none⟩=some (.string (B x))):
  Calls prog 200 #[.slice (some ⟨h,0,none⟩) l.length a, .string (B n)] w λe d=>d=w/\e= .returned (.bool (decide (n∈l))):=by
 have CI:=aS (Lb w h a l n g c);clear c;go_enter func200,ntmps200;go_wp2_with fail;refine CI.mono ?_;rintro e d ⟨rfl,r,rfl,b⟩;have f:=aS b;clear b CI;go_wp2;go_ret;exact⟨rfl,by rw[f.out];rfl⟩
def NS(H:aB)(w:World)(a:Nat)(x:lQE):Prop:=
 ∃e:List (aA×Value),GM kS (λv=> .agg #[v]) 9 w a e/\∀h,(dR e h=none/\dR x h=none)\/∃v t,dR e h=some v/\dR x h=some t/\ER H [] v t
theorem NS.ge{a:lQE}(h:NS H w mb a):GE H [] w mb a:=by
 obtain⟨b,c,d⟩:=h;refine⟨b,c,λi t e=> ?_⟩;rcases d i with⟨_,x⟩|⟨v,j,x,f,g⟩
 ·rw[x]at e;cases e
 ·rw[f]at e;cases e;exact⟨v,x,g⟩
theorem NS.grown{x:World}{e:lQE}(h:NS H w mb e)(g:w.grownBy x none):NS H x mb e:=by obtain⟨a,b,c⟩:=h;exact⟨a,b.gb (R:=λ_=>False) (Gb.new g) id,c⟩
def KF(d:Nat)(w:World):List (List aA)->Value->Prop
 |[],v=>∃b,v= .func (.func 125) #[] #[.pointer (some ⟨b,0,none⟩)]/\w.heap[b]? =some (.cells #[.map (some d)] 169 (0,0))
 |h::l,v=>∃a e g f u c,v= .func (.func 199) #[] #[.pointer (some ⟨a,0,none⟩), .pointer (some ⟨e,0,none⟩)]/\w.heap[a]? =some (.cells #[.slice (some ⟨g,0,none⟩) h.length f] 34 (0,0))/\w.heap[g]? =some (.cells c 9 (0,0))/\(∀(j:Nat) x,h[j]? =some x->c[j]? =some (.string (B x)))/\w.heap[e]? =some (.cells #[u] 32 (0,0))/\h.length<=1000/\KF d w l u
theorem KF.grown{x:Nat}{w a:World}(g:w.grownBy a none):∀{l:List (List aA)} {v:Value},KF x w l v->KF x a l v
 |[],_,⟨b,h1,h2⟩=>⟨b,h1,(g.block b (aT h2) (by simp)).trans h2⟩
 |_::_,_,⟨c,bk,f,d,u,cs,h1,h2,h,i,e,j,k⟩=>⟨c,bk,f,d,u,cs,h1,(g.block _ (aT h2) (by simp)).trans h2,(g.block _ (aT h) (by simp)).trans h,i,(g.block _ (aT e) (by simp)).trans e,j,KF.grown g k⟩
def kn(e:lQE)(l:List (List aA))(h:aA):Bool:=l.any (λw=>decide (h∈w))||(dR e h).isSome
def Ov(v:Value)(x:aA)(w:World)(q:Bool):Prop:=match v with
 | .func (.func k) #[] h=>Calls prog k (#[.string (B x)]++h) w λe a=>e= .returned (.bool q)/\w.grownBy a none
 |_=>False
theorem Rn{b:Nat}{j:lQE}{a:aA}(l:a.length<=300)(k:w.heap[b]? =some (.cells #[.map (some mb)] 169 (0,0)))(h:NS H w mb j):
  Calls prog 125 #[.string (B a), .pointer (some ⟨b,0,none⟩)] w λe m=>e= .returned (.bool (dR j a).isSome)/\w.grownBy m none:=by
 obtain⟨q,f,g⟩:=h;have p:=cU k 0 rfl;have x:=GM.look f P0 underlying169 (QO w) (P6 l);rcases g a with⟨c,d⟩|⟨v,t,c,d,i⟩
 ·rw[c]at x;rw[d];simp only[oJ,vR,zO]at x⊢;clear f g;go_enter func125,ntmps125;go_wp2;go_ret;exact⟨rfl,aO _ _ _⟩
 ·rw[c]at x;rw[d];obtain⟨n,o,_,rfl⟩:=oE i;simp only[jI,qR,zM]at x⊢;clear f g i;go_enter func125,ntmps125;go_wp2;go_ret;exact⟨rfl,aO _ _ _⟩
theorem Lc{k i f l g:Nat}{q:Bool}{a:aD}{m:Array Value}{b:aA}(o:w.heap[k]? =some (.cells #[.slice (some ⟨f,0,none⟩) a.length l] 34 (0,0)))(p:w.heap[f]? =some (.cells m 9 (0,0)))(r:∀(j:Nat) x,a[j]? =some x->m[j]? =some (.string (B x)))(C:a.length<=1000)
  (s:w.heap[i]? =some (.cells #[.func (.func 125) #[] #[.pointer (some ⟨g,0,none⟩)]] 32 (0,0))) (t:Calls prog 125 #[.string (B b), .pointer (some ⟨g,0,none⟩)] w λe c=>e= .returned (.bool q)/\w.grownBy c none):
  Calls prog 199 #[.string (B b), .pointer (some ⟨k,0,none⟩), .pointer (some ⟨i,0,none⟩)] w λe c=>e= .returned (.bool (decide (b∈a)||q))/\w.grownBy c none:=by
 have z:=cU o 0 rfl;have A:=cU s 0 rfl;have h:=aS (QX w f l a b (by omega) (λj x y=>cU p j (r j x y)));have v:=aS t;clear o p r s t;by_cases d:b∈a
 ·rw[dE d]at h⊢;clear d;go_enter func199,ntmps199;go_wp2_with fail;refine h.mono ?_;rintro e c ⟨rfl,rfl⟩;clear h;go_wp2;go_ret;exact⟨rfl,(Gb.refl _ _).none⟩
 ·rw[bN d]at h⊢;clear d;go_enter func199,ntmps199;go_wp2_with fail;refine h.mono ?_;rintro e c ⟨rfl,rfl⟩;clear h;go_wp2_with fail;refine v.mono ?_;rintro e D ⟨rfl,n⟩;have u:=aS n;clear n;go_wp2;go_ret;exact⟨by simp,u.out⟩
theorem Ld{l k f m g i:Nat}{q:Bool}{a:aD}{n:Array Value}{b:aA}(p:w.heap[l]? =some (.cells #[.slice (some ⟨f,0,none⟩) a.length m] 34 (0,0)))(r:w.heap[f]? =some (.cells n 9 (0,0)))(s:∀(j:Nat) x,a[j]? =some x->n[j]? =some (.string (B x)))(D:a.length<=1000)
  (t:w.heap[k]? =some (.cells #[.func (.func 199) #[] #[.pointer (some ⟨g,0,none⟩), .pointer (some ⟨i,0,none⟩)]] 32 (0,0))) (u:Calls prog 199 #[.string (B b), .pointer (some ⟨g,0,none⟩), .pointer (some ⟨i,0,none⟩)] w λe c=>e= .returned (.bool q)/\w.grownBy c none):
  Calls prog 199 #[.string (B b), .pointer (some ⟨l,0,none⟩), .pointer (some ⟨k,0,none⟩)] w λe c=>e= .returned (.bool (decide (b∈a)||q))/\w.grownBy c none:=by
 have A:=cU p 0 rfl;have C:=cU t 0 rfl;have h:=aS (QX w f m a b (by omega) (λj x z=>cU r j (s j x z)));have y:=aS u;clear p r s t u;by_cases d:b∈a
 ·rw[dE d]at h⊢;clear d;go_enter func199,ntmps199;go_wp2_with fail;refine h.mono ?_;rintro e c ⟨rfl,rfl⟩;clear h;go_wp2;go_ret;exact⟨rfl,(Gb.refl _ _).none⟩
 ·rw[bN d]at h⊢;clear d;go_enter func199,ntmps199;go_wp2_with fail;refine h.mono ?_;rintro e c ⟨rfl,rfl⟩;clear h;go_wp2_with fail;refine y.mono ?_;rintro e E ⟨rfl,o⟩;have v:=aS o;clear o;go_wp2;go_ret;exact⟨by simp,v.out⟩
theorem UG{H:aB}{m:Nat}{x:lQE}{h:aA}{w:World}(j:h.length<=300)(i:NS H w m x):∀(l:List (List aA)) (v:Value),KF m w l v->Ov v h w (kn x l h)
 |[],v,⟨b,h1,h2⟩=>by subst h1;exact Rn j h2 i
 |n::l,v,⟨q,bk,s,r,u,cs,h1,h2,c,d,f,g,a⟩=>by
  subst h1;have k:=UG j i l u a;have e:kn x (n::l) h=(decide (h∈n)||kn x l h):=by simp[kn,Bool.or_assoc]
  rw[e]
  cases l with
  |nil=>obtain⟨o,rfl,_⟩:=a;exact Lc h2 c d g f k
  |cons t l=>obtain⟨o,p,_,_,_,_,rfl,_⟩:=a;exact Ld h2 c d g f k
theorem KF.form{x:Nat}{w:World}:∀{l:List (List aA)} {v:Value},KF x w l v->(∃b,v= .func (.func 125) #[] #[.pointer (some ⟨b,0,none⟩)])\/∃b h,v= .func (.func 199) #[] #[.pointer (some ⟨b,0,none⟩), .pointer (some ⟨h,0,none⟩)]
 |[],_,⟨b,h1,_⟩=>aQ ⟨b,h1⟩
 |_::_,_,⟨e,bk,_,_,_,_,h1,_⟩=>aM ⟨e,bk,h1⟩
theorem CZ{gg cap:Nat}{l:List (List aA)}{v:Value}{ns:aD}{d:Array Value}(h:KF mb w l v)(f:w.heap[gg]? =some (.cells d 9 (0,0)))(i:∀(j:Nat) x,ns[j]? =some x->d[j]? =some (.string (B x)))(o:ns.length<=1000):
  Calls prog 167 #[v, .slice (some ⟨gg,0,none⟩) ns.length cap] w λe n=>∃b c,e= .returned (.func (.func 199) #[] #[.pointer (some ⟨b,0,none⟩), .pointer (some ⟨c,0,none⟩)])/\KF mb n (ns::l) (.func (.func 199) #[] #[.pointer (some ⟨b,0,none⟩), .pointer (some ⟨c,0,none⟩)])/\w.grownBy n none:=by
 have q:∀(g:Fn) (first cap:Array Value) (w:World),(Instr.makeFunc g first cap).run prog w= .ok (.func g first cap) w:=λ_ _ _ _=>rfl;have a:w.grownBy ((w.alloc (.cells #[v] 32)).alloc (.cells #[.slice (some ⟨gg,0,none⟩) ns.length cap] 34)) none:=(aO _ _ _).trans (aO _ _ _)
 have k:((w.alloc (.cells #[v] 32)).alloc (.cells #[.slice (some ⟨gg,0,none⟩) ns.length cap] 34)).heap[w.heap.size]? =some (.cells #[v] 32 (0,0)):=by rw[bQ _ _ _ (by simp)];exact bY _ _
 have m:((w.alloc (.cells #[v] 32)).alloc (.cells #[.slice (some ⟨gg,0,none⟩) ns.length cap] 34)).heap[w.heap.size+1]? =some (.cells #[.slice (some ⟨gg,0,none⟩) ns.length cap] 34 (0,0)):=dC _ _ _ (by simp);have Q:=aS (show KF mb ((w.alloc (.cells #[v] 32)).alloc (.cells #[.slice (some ⟨gg,0,none⟩) ns.length cap] 34)) (ns::l) (.func (.func 199) #[] #[.pointer (some ⟨w.heap.size+1,0,none⟩), .pointer (some ⟨w.heap.size,0,none⟩)])from⟨w.heap.size+1,w.heap.size,gg,cap,v,d,rfl,m,(a.block _ (aT f) (by simp)).trans f,i,k,o,h.grown a⟩);have G:=aS a;have p:=h.form;clear h f i k m a;rcases p with⟨b,rfl⟩|⟨b,c,rfl⟩
 all_goals
  go_enter func167,ntmps167;go_wp2;go_ret;exact⟨_,_,rfl,Q.out,G.out⟩
theorem kf(w:World):(binOp .neq 186 (.pointer none) (.pointer none)).run prog w= .ok (.bool false) w:=by kernel_rfl
theorem fT{e:World}(h:w.drew.grownBy e none):w.grownBy e none:=⟨h.os,h.tape,h.output,h.size,h.block⟩
@[reducible] def UR:Type:=Option (aA×Nat)
def LY(a b:UR):UR:=match a with
 |some x=>some x
 |none=>b
def UX(H:aB)(r:UR)(x:Option Addr):Prop:=match r with
 |none=>x=none
 |some y=>∃b h,x=some ⟨b,0,none⟩/\H b=some (.cells #[h, .string (B y.1), .int .i64 (y.2:Int)] 190 (0,0))
def zh(a b:Option Addr):Option Addr:=match a with
 |some x=>some x
 |none=>b
theorem UX.or{H:aB}{r s:UR}{x y:Option Addr}(h:UX H r x)(k:UX H s y):UX H (LY r s) (zh x y):=by
 cases r with
 |none=>have w:x=none:=h;subst w;exact k
 |some z=>obtain⟨b,e,a,c⟩:=h;subst a;exact⟨b,e,rfl,c⟩
def Ee(P:Ex->List (List aA)->Option UR)(R:List Ex->List (List aA)->Option UR)(h:lQE)(e:Ex)(l:List (List aA)):Option UR:=
 if e.op=bK then(match e.names with|[nm]=>if nm.length<=300 then some (if kn h l nm=true then none else some (nm,e.pos))else none|_=>none)
 else if e.op=dO then(match e.names,e.kids with|[p],[b]=>P b ([p]::l)|_,_=>none)
 else if e.op=xA then(match e.kids with|[a,b,c]=>(match P a l,P b l,P c l with|some r,some s,some t=>some (LY r (LY s t))|_,_,_=>none)|_=>none)
 else if e.op=iP then(match e.names,e.kids with|[p],[a,b]=>(match P a l,P b ([p]::l)with|some r,some s=>some (LY r s)|_,_=>none)|_,_=>none)
 else if e.op=gV then(if e.names.length<=300 then R e.kids (e.names::l)else none)
 else if e.op=oO then(match e.kids with|[a,b]=>(match P a l,P b l with|some r,some s=>some (LY r s)|_,_=>none)|_=>none)
 else if e.op=eS then(match e.kids with|[a,b]=>(match P a l,P b l with|some r,some s=>some (LY r s)|_,_=>none)|_=>none)
 else if e.op=dS then some none
 else none
def ZY(P:Ex->List (List aA)->Option UR):List Ex->List (List aA)->Option UR
 |[],_=>some none
 |e::h,l=>match P e l with
  |none=>none
  |some none=>ZY P h l
  |some (some y)=>some (some y)
def pQ(h:lQE):Nat->Ex->List (List aA)->Option UR
 |0,_,_=>none
 |f+1,e,l=>Ee (pQ h f) (ZY (pQ h f)) h e l
def IY(H:aB)(r:UR)(w:World)(e:Ending)(h:World):Prop:=∃x,e= .returned (.pointer x)/\UX H r x/\w.grownBy h none
def ZZ(H:aB)(x:Nat)(a:lQE)(P:Ex->List (List aA)->Option UR):Prop:=∀(e:Ex) (v:Value) (m:Nat) (l:List (List aA)) (h:Value) (r:UR) (w:World),
 dI m H v e->P e l=some r->Fz H w->NS H w x a->KF x w l h->Calls prog 124 #[v,h] w (IY H r w)
theorem WQ(a:Addr)(w:World):(binOp .neq 186 (.pointer (some a)) (.pointer none)).run prog w= .ok (.bool true) w:=by kernel_rfl
theorem WR(b:Nat)(x y:Option Addr)(w:World)(h:w.heap[b]? =some (.cells #[.pointer x, .pointer y] 186 (0,0))):
  Calls prog 168 #[.slice (some ⟨b,0,none⟩) 2 2] w λe c=>e= .returned (.pointer (zh x y))/\c=w:=by
 have d:=cU h 0 rfl;have f:=cU h 1 rfl;have g:=kf;have i:=WQ;clear h
 cases x with
 |some a=>go_enter func168,ntmps168;go_wp2_with fail;refine dX 1 ?_;rw[dH];go_wp2;go_ret;exact⟨rfl,rfl⟩
 |none=>
  cases y with
  |some a=>go_enter func168,ntmps168;go_wp2_with fail;refine dX 2 ?_;rw[dH];go_wp2_with fail;rw[dH];go_wp2;go_ret;exact⟨rfl,rfl⟩
  |none=>go_enter func168,ntmps168;go_wp2_with fail;refine dX 3 ?_;rw[dH];go_wp2_with fail;rw[dH];go_wp2_with fail;rw[dH];go_wp2;go_ret;exact⟨rfl,rfl⟩
theorem aa(b:Nat)(x y z:Option Addr)(w:World)(h:w.heap[b]? =some (.cells #[.pointer x, .pointer y, .pointer z] 186 (0,0))):
  Calls prog 168 #[.slice (some ⟨b,0,none⟩) 3 3] w λe c=>e= .returned (.pointer (zh x (zh y z)))/\c=w:=by
 have d:=cU h 0 rfl;have f:=cU h 1 rfl;have g:=cU h 2 rfl;have i:=kf;have j:=WQ;clear h
 cases x with
 |some a=>go_enter func168,ntmps168;go_wp2_with fail;refine dX 1 ?_;rw[dH];go_wp2;go_ret;exact⟨rfl,rfl⟩
 |none=>
  cases y with
  |some a=>go_enter func168,ntmps168;go_wp2_with fail;refine dX 2 ?_;rw[dH];go_wp2_with fail;rw[dH];go_wp2;go_ret;exact⟨rfl,rfl⟩
  |none=>
   cases z with
   |some a=>go_enter func168,ntmps168;go_wp2_with fail;refine dX 3 ?_;rw[dH];go_wp2_with fail;rw[dH];go_wp2_with fail;rw[dH];go_wp2;go_ret;exact⟨rfl,rfl⟩
   |none=>go_enter func168,ntmps168;go_wp2_with fail;refine dX 4 ?_;rw[dH];go_wp2_with fail;rw[dH];go_wp2_with fail;rw[dH];go_wp2_with fail;rw[dH];go_wp2;go_ret;exact⟨rfl,rfl⟩
theorem Ef{b p:Nat}{x:lQE}{l:List (List aA)}{f i:Value}{h:aA}(a:H b=some (.cells #[i, .string (B h), .int .i64 (p:Int)] 190 (0,0)))(s:h.length<=300)(o:Fz H w)(m:NS H w mb x)(d:KF mb w l f):
  Calls prog 124 #[.iface 186 (.pointer (some ⟨b,0,none⟩)),f] w (IY H (if kn x l h=true then none else some (h,p)) w):=by
 have c:=UG s m l f d;have k:=o _ _ a;have v:=cU k 1 rfl;have r:=d.form;have u:=t7 b;have q:=aS a;clear a m d k o;cases n:kn x l h
 all_goals
  rw[n]at c;clear n;rcases r with⟨t,rfl⟩|⟨t,y,rfl⟩
 all_goals
  have CK:=aS c;unfold Ov at CK;clear c;go_enter func124,ntmps124;go_wp2_with fail;refine CK.mono ?_;rintro e z ⟨rfl,j⟩;have g:=aS j;clear j CK;go_wp2;go_ret
  first
   |exact⟨none,rfl,rfl,g.out⟩
   |exact⟨some ⟨b,0,none⟩,rfl,⟨b,i,rfl,q.out⟩,g.out⟩
theorem Le{b m:Nat}{s:lQE}{l:List (List aA)}{E J u:Value}{p:aA}{c:Ex}{r:UR}{P:Ex->List (List aA)->Option UR}(y:ZZ H mb s P)(z:H b=some (.cells #[J, .string (B p),u] 196 (0,0)))(i:dI m H u c)(v:P c ([p]::l)=some r)(k:Fz H w)(A:NS H w mb s)(g:KF mb w l E):
  Calls prog 124 #[.iface 194 (.pointer (some ⟨b,0,none⟩)),E] w (IY H r w):=by
 obtain⟨O,T,rfl⟩:=i.val;have a:=k _ _ z;have V:=cU a 1 rfl;have W:=cU a 2 rfl;have K:=aT a;have d:w.grownBy (w.alloc (.cells #[.string (B p)] 9)).drew none:=cZ (aO _ _ _)
 have n:=aS (CZ (ns:=[p]) (gg:=w.heap.size) (cap:=1) (w:=(w.alloc (.cells #[.string (B p)] 9)).drew) (g.grown d) (bY w _) (λj x C=>by
  cases j with
  |zero=>cases C;rfl
  |succ j=>cases C) (by simp))
 have Q:=aS (aL y (aL i (aL v (aL k (aL A (aL d a))))));have L:=g.form;have R:=vA b;have S:=y7 b;clear y i v k A g z a d;rcases L with⟨M,rfl⟩|⟨M,Y,rfl⟩
 all_goals
  go_enter func124,ntmps124;go_wp2_with fail
  go_region_with (first
   |(go_at_call 167;refine n.mono ?_;rintro e G ⟨y1,y2,rfl,D,h⟩;have o:=aS (Q.1 c _ m _ _ r G Q.2.1 Q.2.2.1 (Q.2.2.2.1.grown (Q.2.2.2.2.2.1.trans h)) (Q.2.2.2.2.1.grown (Q.2.2.2.2.2.1.trans h)) D);have f:G.heap[b]? =_:=((Q.2.2.2.2.2.1.trans h).block b K (by simp)).trans Q.2.2.2.2.2.2;have X:=cU f 2 rfl;have U:=aT f;have I:=aS (Q.2.2.2.2.2.1.trans h);clear h n f D)
   |(go_at_call 124;refine o.mono ?_;rintro e Z ⟨N,rfl,F,t⟩;have q:=aS (aL F (I.trans t));clear t F o))
  all_goals go_wp2
  all_goals go_ret
  all_goals exact⟨N,rfl,q.1,q.2⟩
end Go.Proofs.YtcdijppegfcoaaaGreatDoor
