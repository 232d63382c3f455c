import Derived.Test.YtcdijppegfcoaaaGreatDoorZH34
import Derived.Test.YtcdijppegfcoaaaGreatDoorZH36
set_option maxRecDepth 100000
set_option maxHeartbeats 8000000
set_option linter.unusedSimpArgs false
namespace Go.Proofs.YtcdijppegfcoaaaGreatDoor
open Go.RowKit Tryz
variable{T:TypeId}{w w' w1:World}{G:Nat->Option Obj}{nb:List (aA×Et)}{nv:Value}
def xr(H:aB)(a:aC)(i:bM)(d:aI)(f b g c:Nat)(r:Option (List aA×List aA))(w:World)(e:Ending)(h:World):Prop:=
 fY H a i d h/\Gb (λk=>dT a k\/k=b\/k=c) w h/\match r with
  |none=>e= .returned (.bool false)
  |some x=>e= .returned (.bool true)/\NU h f b x.1/\NU h g c x.2
structure Tr(H:aB)(ca:aC)(c1 m1 c2 m2:Nat):Prop where
 a1:m1∉ca
 a2:m2∉ca
 a3:c1∉ca
 a4:c2∉ca
 h1:H m1=none
 h2:H m2=none
 n1:m1≠m2
 n2:c1≠m2
 n3:c2≠m1
def Kz(h e:Nat):Value:= .agg #[qV h,qV e]
theorem pw{e:TypeId}(h:dz e)(x:e≠309)(b:Nat)(w:World):(Instr.typeAssert (.iface e (.pointer (some ⟨b,0,none⟩))) 156 309 true).run prog w= .ok (.tuple #[.pointer none, .bool false]) w:=by
 rcases h with rfl|rfl|rfl|rfl|rfl|rfl
 ·exact OA b w
 ·exact absurd rfl x
 ·exact v7 b w
 ·exact tK b w
 ·exact tM b w
 ·exact rY b w
theorem Dv{h e:TypeId}(b:dz h)(c:dz e)(d:h≠e)(x a:Nat)(w:World):(binOp .eql 156 (.iface h (.pointer (some ⟨x,0,none⟩))) (.iface e (.pointer (some ⟨a,0,none⟩)))).run prog w= .ok (.bool false) w:=by rcases b with rfl|rfl|rfl|rfl|rfl|rfl<;>rcases c with rfl|rfl|rfl|rfl|rfl|rfl<;>first|exact absurd rfl d|kernel_rfl
theorem lC{e w:Type}{o:Option e}{f:e->w}{b:w}(h:o.map f=some b):∃a,o=some a/\f a=b:=by
 cases o with
 |none=>cases h
 |some a=>exact⟨a,rfl,aY h⟩
theorem ZS:(prog.info? 265).map (·.comparable)=some true/\(prog.info? 354).map (λj=>decide (j.size≠0))=some true:=⟨by kernel_rfl,by kernel_rfl⟩
theorem py:(prog.info? 309).map (·.comparable)=some true/\(prog.info? 313).map (λj=>decide (j.size≠0))=some true:=⟨by kernel_rfl,by kernel_rfl⟩
theorem UC:(prog.info? 346).map (·.comparable)=some true/\(prog.info? 348).map (λj=>decide (j.size≠0))=some true:=⟨by kernel_rfl,by kernel_rfl⟩
theorem ZT:(prog.info? 349).map (·.comparable)=some true/\(prog.info? 351).map (λj=>decide (j.size≠0))=some true:=⟨by kernel_rfl,by kernel_rfl⟩
theorem ZU:(prog.info? 361).map (·.comparable)=some true/\(prog.info? 384).map (λj=>decide (j.size≠0))=some true:=⟨by kernel_rfl,by kernel_rfl⟩
theorem UD:(prog.info? 291).map (·.comparable)=some true/\(prog.info? 293).map (λj=>decide (j.size≠0))=some true:=⟨by kernel_rfl,by kernel_rfl⟩
theorem Oq(h:dz T):∃b i j,prog.underlying T=some (.pointer b)/\prog.info? T=some i/\i.comparable=true/\prog.info? b=some j/\j.size≠0:=by
 rcases h with rfl|rfl|rfl|rfl|rfl|rfl
 ·obtain⟨i,w,e⟩:=lC ZS.1;obtain⟨j,x,a⟩:=lC ZS.2;exact⟨_,i,j,underlying265,w,e,x,jB a⟩
 ·obtain⟨i,w,e⟩:=lC py.1;obtain⟨j,x,a⟩:=lC py.2;exact⟨_,i,j,underlying309,w,e,x,jB a⟩
 ·obtain⟨i,w,e⟩:=lC UC.1;obtain⟨j,x,a⟩:=lC UC.2;exact⟨_,i,j,underlying346,w,e,x,jB a⟩
 ·obtain⟨i,w,e⟩:=lC ZT.1;obtain⟨j,x,a⟩:=lC ZT.2;exact⟨_,i,j,underlying349,w,e,x,jB a⟩
 ·obtain⟨i,w,e⟩:=lC ZU.1;obtain⟨j,x,a⟩:=lC ZU.2;exact⟨_,i,j,underlying361,w,e,x,jB a⟩
 ·obtain⟨i,w,e⟩:=lC UD.1;obtain⟨j,x,a⟩:=lC UD.2;exact⟨_,i,j,underlying291,w,e,x,jB a⟩
theorem Dw(h:dz T)(b:Nat)(w:World):(binOp .eql 156 (.iface T (.pointer (some ⟨b,0,none⟩))) (.iface T (.pointer (some ⟨b,0,none⟩)))).run prog w= .ok (.bool true) w:=by obtain⟨d,i,j,e,x,a,c,_⟩:=Oq h;exact run_eql_iface_ptr_same (P:=prog) w _ underlying156 e x a c
theorem xt(h:dz T){x a:Nat}(o:x≠a){b c:Array Value}{p q:TypeId}(m:w.heap[x]? =some (.cells b p (0,0)))(n:w.heap[a]? =some (.cells c q (0,0))):(binOp .eql 156 (.iface T (.pointer (some ⟨x,0,none⟩))) (.iface T (.pointer (some ⟨a,0,none⟩)))).run prog w= .ok (.bool false) w:=by obtain⟨r,i,j,d,f,g,k,l⟩:=Oq h;exact run_eql_iface_ptr_other (P:=prog) w underlying156 d f g k l (λe=>o (by injection e)) m n
theorem xu{H:aB}{h:aC}{x:bM}{d:aI}{c A f C:Nat}{s v t y u g:Nat}(z:fY H h x d w)(F:dz g)(G:g≠309)
  (p:∀w,fY H h x d w->Calls prog 223 #[.iface s (.pointer (some ⟨v,0,none⟩))] w (ny H h x d (.iface 309 (.pointer (some ⟨u,0,none⟩))) w))
  (r:∀w,fY H h x d w->∃i,Calls prog 223 #[.iface t (.pointer (some ⟨y,0,none⟩))] w (ny H h x d (.iface g (.pointer (some ⟨i,0,none⟩))) w)):
  Calls prog 257 #[Kz c f, .iface s (.pointer (some ⟨v,0,none⟩)), .iface t (.pointer (some ⟨y,0,none⟩))] w (xr H h x d c A f C none w):=by
 have j:w.grownBy (w.alloc (.cells #[qV c,qV f] 428)) none:=aO _ _ _;have l:=aS (p _ (z.grown0 j));have m:=aS r;have K:=rC u;clear p r z;unfold Kz qV at*;go_enter func257,ntmps257;go_wp2_with fail;refine l.mono ?_;rintro e I ⟨rfl,a,b⟩;obtain⟨i,o⟩:=m.out I a;have n:=aS o;have L:=pw F G i;have D:=aS ((Gb.new j).tr b);clear a b l m j o;go_wp2_with fail;refine n.mono ?_;rintro e J ⟨rfl,a,b⟩;have E:=aS (show∀q,xr H h x d c A f C none w (.returned (.bool false)) (J.drewN q)fromλq=>⟨a.grown0 ⟨rfl,rfl,rfl,aV _,λ_ _ _=>rfl⟩,((D.tr b).mono (λk e=>aQ e)).tr ⟨rfl,rfl,rfl,aV _,λ_ _ _=>rfl⟩,rfl⟩);clear a b n;go_wp2_with fail
 go_quiet (fail)
 go_wp2;go_ret;exact E.out _
theorem NU.drew{e x:Nat}{L:aD}(h:NU w e x L):NU w.drew e x L:=h.gb (R:=λ_=>False) (Gb.refl _ w).drew id id
theorem Ot{R:Nat->Prop}{m:Nat}(g:w.grownBy w' (some m))(h:R m):Gb R w w':=Gb.of g (λb e=>aQ (by rw[<-aY e];exact h))
theorem xv{H:aB}{b m:Nat}{o:Obj}(h:H b=some o)(w:H m=none)(e:b=m):False:=by rw[e,w]at h;cases h
theorem Dx{H:aB}{i:aC}{u:bM}{d:aI}{g m j t:Nat}{Ta ba Tb bb A C:Nat}{x f:aA}{p q:aD}(P:fY H i u d w)(h0:x.length<=300)(h3:f.length<=300)(hp:p.length<=200)(hq:q.length<=200)(c:H A=some (.cells #[.string (B x)] 313 (0,0)))(l:H C=some (.cells #[.string (B f)] 313 (0,0)))(K:NU w g m p)(L:NU w j t q)(no:Tr H i g m j t)
  (Y:∀w,fY H i u d w->Calls prog 223 #[.iface Ta (.pointer (some ⟨ba,0,none⟩))] w (ny H i u d (.iface 309 (.pointer (some ⟨A,0,none⟩))) w))
  (Z:∀w,fY H i u d w->Calls prog 223 #[.iface Tb (.pointer (some ⟨bb,0,none⟩))] w (ny H i u d (.iface 309 (.pointer (some ⟨C,0,none⟩))) w)):
  Calls prog 257 #[Kz g j, .iface Ta (.pointer (some ⟨ba,0,none⟩)), .iface Tb (.pointer (some ⟨bb,0,none⟩))] w (xr H i u d g m j t (if(jO p x).idxOf x=(jO q f).idxOf f then some (jO p x,jO q f)else none) w):=by
 obtain⟨r,Q⟩:∃r,r=if(jO p x).idxOf x=(jO q f).idxOf f then some (jO p x,jO q f)else none:=⟨_,rfl⟩;rw[<-Q];have HR:=aS Q;clear Q;have N:w.grownBy (w.alloc (.cells #[qV g,qV j] 428)) none:=aO _ _ _;have h9:(w.alloc (.cells #[qV g,qV j] 428)).heap[w.heap.size]? =some (.cells #[qV g,qV j] 428 (0,0)):=bY _ _;have h4:¬dT i w.heap.size:=λhm=>by have:=dT.lt P hm;omega
 have e4:=K.mp.lt;have e5:=L.mp.lt;have V:=aS (Y _ (P.grown0 N));have W:=aS Z;have a1:=rC A;have a2:=rC C;have h:=aS (aL N (aL h9 (aL h4 (aL K (aL L no)))));have b:=aS (aL c (aL l (aL h0 (aL h3 (aL hp hq)))));clear Y Z P N h9 h4 K L no c l h0 h3 hp hq;unfold Kz qV at*;go_enter func257,ntmps257;go_wp2_with fail;refine V.mono ?_;rintro e w1 ⟨rfl,c,l⟩;have X:=aS (W.out w1 c);have G1:=aS ((Gb.new h.1 (R:=dT i)).tr l);have B1:=aS (l.at h.2.1 h.2.2.1);clear c l V W;go_wp2_with fail;refine X.mono ?_;rintro e w2 ⟨rfl,c,l⟩;have D:=G1.tr l;have I:=aS (l.at B1.out h.2.2.1);have h7:=h.2.2.2.1.gb D h.2.2.2.2.2.a3 h.2.2.2.2.2.a1;have h8:=h.2.2.2.2.1.gb D h.2.2.2.2.2.a4 h.2.2.2.2.2.a2;have k1:=cU (c.fz _ _ b.1) 0 rfl;have k2:=cU (c.fz _ _ b.2.1) 0 rfl;have l1:=aT (c.fz _ _ b.1);have l2:=aT (c.fz _ _ b.2.1);have s1:=cU I.out 0 rfl;have s2:=cU I.out 1 rfl;have F:=aT I.out;have CN:=aS (Ok w2.drew g m x p b.2.2.1 h7.drew b.2.2.2.2.1);have J:=aS (aL D (aL h8 c));clear c l X D h7 h8;generalize e3:(jO p x).idxOf x=S at*;generalize e0:(jO q f).idxOf f=T at*;unfold qV at*;go_wp2_with fail;have S2:=aS (aL s1 (aL s2 (aL k1 k2)))
 go_region_held3 (λG=>G.cell? ⟨w.heap.size,0,none⟩=some (.func (.func 187) #[] #[.pointer (some ⟨g,0,none⟩)])/\G.cell? ⟨w.heap.size,1,none⟩=some (.func (.func 187) #[] #[.pointer (some ⟨j,0,none⟩)])/\G.cell? ⟨A,0,none⟩=some (.string (B x))/\G.cell? ⟨C,0,none⟩=some (.string (B f))) (first|exact S2.out|exact S4.out|exact y.out|go_keep) (first
  |(go_at_call_of 187 (Value.pointer (some ⟨g,0,none⟩));refine CN.mono ?_;rintro e w3 ⟨rfl,n3,g3⟩;have s:=Ot (R:=λk=>k=m) g3 rfl;have h5:¬w.heap.size=m:=(by omega);have y:=aS (aL (s.drewL.cell s1 F h5) (aL (s.drewL.cell s2 F h5) (aL (s.drewL.cell k1 l1 (λe=>xv b.1 h.2.2.2.2.2.h1 e)) (s.drewL.cell k2 l2 (λe=>xv b.2.1 h.2.2.2.2.2.h1 e)))));have CM:=aS (Ok w3 j t f q b.2.2.2.1 (J.2.1.gb s.drewL h.2.2.2.2.2.n3 (λe=>h.2.2.2.2.2.n1 e.symm)) b.2.2.2.2.2);have n:=aS (aL n3 s);rw[e0]at CM;clear n3 g3 s)
  |(go_at_call_of 187 (Value.pointer (some ⟨j,0,none⟩));refine CM.mono ?_;rintro e U ⟨rfl,n4,g4⟩;have v:=Ot (R:=λk=>k=t) g4 rfl;have h6:¬w.heap.size=t:=(by omega);have S4:=aS (aL (v.cell y.1 (aZ F n.2.drewL.size) h6) (aL (v.cell y.2.1 (aZ F n.2.drewL.size) h6) (aL (v.cell y.2.2.1 (aZ l1 n.2.drewL.size) (λe=>xv b.1 h.2.2.2.2.2.h2 e)) (v.cell y.2.2.2 (aZ l2 n.2.drewL.size) (λe=>xv b.2.1 h.2.2.2.2.2.h2 e)))));have z:=aS (aL n4 v);clear n4 g4 v))
 go_wp2;go_ret;have gA:Gb (λk=>dT i k\/k=m\/k=t) w U:=((J.1.mono (λk e=>aQ e)).tr (n.2.drewL.mono (λk e=>aM (aQ e)))).tr (z.2.mono (λk e=>aM (aM e)));have e1:NU U g m (jO p x):=n.1.gb z.2 h.2.2.2.2.2.n2 h.2.2.2.2.2.n1;have cF:fY H i u d U:=(J.2.2.gb n.2.drewL (λa O e=>h.2.2.2.2.2.a1 (e▸O)) (λk o e M=>xv e h.2.2.2.2.2.h1 M)).gb z.2 (λa O e=>h.2.2.2.2.2.a2 (e▸O)) (λk o e M=>xv e h.2.2.2.2.2.h2 M);refine⟨cF,gA, ?_⟩;rw[HR.out];by_cases E:S=T
 ·rw[aR E];subst E;exact⟨by simp,e1,z.1⟩
 ·rw[aN E];show Ending.returned (Value.bool ((S:Int)==(T:Int)))=_;have hb:((S:Int)==(T:Int))=false:=dV.2 (λe=>E (by omega));rw[hb]
theorem xr.last{H:aB}{x:aC}{j:bM}{d:aI}{b f c i:Nat}{p q:aD}(k:NU w b f p)(l:NU w c i q)(a:Tr H x b f c i)(h:fY H x j d w')(g:Gb (dT x) w w'):xr H x j d b f c i (some (p,q)) w (.returned (.bool true)) w':=
 ⟨h,g.mono (λ_ e=>aQ e),rfl,k.gb g a.a3 a.a1,l.gb g a.a4 a.a2⟩
def Xa(H l:aB)(n:Nat)(h:aC)(a:bM)(d:aI)(e b x c f:Nat):Prop:=∀(g i:Et) (j k:Value) (p q:aD) (r:Option (List aA×List aA)) (w:World),
 (∃m,fP 0 l h m j g)->(∃m,fP n H h m k i)->lL a f g i p q=some r->fY H h a d w->NU w e b p->NU w x c q->
 Calls prog 257 #[Kz e x,j,k] w (xr H h a d e b x c r w)
theorem pz{H:aB}{g:aC}{n:bM}{d:aI}{m1 m2:Nat}{a:aH}{b:World}{e:Ending}(l:fY H g n d w)(o:m1<w.heap.size)(p:m2<w.heap.size)
  (m:(a=[]/\e= .returned (.slice none 0 0))\/∃x,e= .returned (.slice (some ⟨x,0,none⟩) a.length a.length)/\w.heap.size<=x/\b.heap[x]? =some (.cells a.toArray 156 (0,0))):
  ∃f k,e= .returned (.slice f a.length k)/\∀(j:Nat) (u:Value),a[j]? =some u->∃x,f=some ⟨x,0,none⟩/\x<b.heap.size/\¬(dT g x\/x=m1\/x=m2)/\b.cell? ⟨x,j,none⟩=some u:=by
 rcases m with⟨rfl,rfl⟩|⟨x,rfl,q,i⟩
 ·exact⟨none,0,rfl,λj u h=>by simp at h⟩
 ·refine⟨_,_,rfl,λj u h=>⟨x,rfl,aT i, ?_, ?_⟩⟩
  ·rintro(c|c|c)
   ·have:=dT.lt l c;omega
   ·omega
   ·omega
  ·rw[FH b x j _ _ _ i];simpa using h
def Rb(H:aB)(h:aC)(b:Nat):Prop:=(∃e t,H b=some (.cells e t (0,0)))\/b∈h
theorem Rb.in{H:aB}{x:aC}{g:bM}{d:aI}{b:Nat}(h:Rb H x b)(a:fY H x g d w):∃e t,w.heap[b]? =some (.cells e t (0,0)):=by
 rcases h with⟨e,t,h⟩|h
 ·exact⟨e,t,a.fz _ _ h⟩
 ·obtain⟨i,c⟩:=wQ h;obtain⟨v,f,_⟩:=a.blk i b c;exact⟨_,_,f⟩
theorem Rc{H:aB}{c:aC}{p:bM}{d:aI}{h x a b:Nat}(f:dz h)(l:dz x)(j:Rb H c a)(k:Rb H c b)(i:fY H c p d w)(m:¬(h=x/\a=b)):(binOp .eql 156 (.iface h (.pointer (some ⟨a,0,none⟩))) (.iface x (.pointer (some ⟨b,0,none⟩)))).run prog w= .ok (.bool false) w:=by
 by_cases g:h=x
 ·subst g;obtain⟨q,t,n⟩:=j.in i;obtain⟨r,s,o⟩:=k.in i;exact xt f (λe=>m ⟨rfl,e⟩) n o
 ·exact Dv f l g a b w
structure SGo(H H0:aB)(lo:Nat)(ca:aC)(σ:bM)(d:aI)(f T1 T2 F:Nat)(A1 A2:Nat->Prop)(Ex:Nat->Nat->Prop)(ks ls:List Et)(p q:aD)(r:Option (List aA×List aA)):Prop where
 hF:F=307\/F=308\/F=309\/F=304
 len:ks.length=ls.length
 one:∀b,A1 b->∃us,P8 H ca σ d T1 b F us/\us.length=ks.length/\us.length<=2/\∀(i:Nat) (u:Value) (k:Et),us[i]? =some u->ks[i]? =some k->∃m,fP 0 H0 ca m u k
 two:∀b,A2 b->∃vs,P8 H ca σ d T2 b F vs/\vs.length=ls.length/\∀(i:Nat) (u:Value) (k:Et),vs[i]? =some u->ls[i]? =some k->∃m,fP lo H ca m u k
 hr:∀b1 b2,A1 b1->A2 b2->Ex b1 b2->¬(T1=T2/\b1=b2)->j6 (lL σ f) ks ls p q=some r
theorem Rd{H H0:aB}{lo:Nat}{h:aC}{c:bM}{d:aI}{o m1 s m2 f:Nat}{w:World}{Ta ba Tb bb G N F:Nat}{al:Bool}{A1 A2:Nat->Prop}{J1 J2:World->Nat->Prop}{Ex:Nat->Nat->Prop}{ks ls:List Et}{p q:aD}{r:Option (List aA×List aA)}(ih:Xa H H0 lo h c d o m1 s m2 f)(hc:fY H h c d w)(hT:dz G)(x2:dz N)(hn:G≠309)(N1:NU w o m1 p)(N2:NU w s m2 q)(no:Tr H h o m1 s m2)
  (e8:∀b,A1 b->Rb H h b) (e9:∀b,A2 b->Rb H h b)
  (CA:∀w,fY H h c d w->∃b,A1 b/\J1 w b/\Calls prog 223 #[.iface Ta (.pointer (some ⟨ba,0,none⟩))] w λe w'=>ny H h c d (.iface G (.pointer (some ⟨b,0,none⟩))) w e w'/\Az h c w w')
  (CB:∀w,fY H h c d w->∃b,A2 b/\J2 w b/\Calls prog 223 #[.iface Tb (.pointer (some ⟨bb,0,none⟩))] w (ny H h c d (.iface N (.pointer (some ⟨b,0,none⟩))) w))
  (L:∀W w1 a g,J1 W a->Az h c W w1->J2 w1 g->Ex a g)
  (e7:G=N->∀b,A1 b->A2 b->r=some (p,q))
  (AL:∀a g w,A1 a->A2 g->fY H h c d w->Calls prog 152 #[.iface G (.pointer (some ⟨a,0,none⟩)), .iface N (.pointer (some ⟨g,0,none⟩))] w λe w'=>e= .returned (.bool al)/\w.grownBy w' none)
  (HN:al=false->∀a g,A1 a->A2 g->Ex a g->¬(G=N/\a=g)->r=none)
  (l:al=true->SGo H H0 lo h c d f G N F A1 A2 Ex ks ls p q r):
  Calls prog 257 #[Kz o s, .iface Ta (.pointer (some ⟨ba,0,none⟩)), .iface Tb (.pointer (some ⟨bb,0,none⟩))] w (xr H h c d o m1 s m2 r w):=by
 have g0:w.grownBy (w.alloc (.cells #[qV o,qV s] 428)) none:=aO _ _ _;have a8:(w.alloc (.cells #[qV o,qV s] 428)).heap[w.heap.size]? =some (.cells #[qV o,qV s] 428 (0,0)):=bY _ _;have a7:¬dT h w.heap.size:=λhm=>by have:=dT.lt hc hm;omega
 have x7:=N1.mp.lt;have x9:=N2.mp.lt;obtain⟨a,w0,x0,e4⟩:=CA _ (hc.grown0 g0);have C1:=aS e4;have C2:=aS CB;have a1:=pw hT hn a;have Q0:=aS (aL g0 (aL e7 AL));have QJ:=aS (aL x0 L);have n:=aS (aL HN (aL l (aL e8 (aL e9 (aL hT (aL x2 w0))))));have m:=aS (aL a8 (aL a7 (aL N1 (aL N2 no))));have IH:=aS ih;clear CA CB hc g0 e7 AL a8 a7 N1 N2 no ih HN l e8 e9 hT x2 w0 e4 L x0;unfold Kz qV at*;go_enter func257,ntmps257;go_wp2_with fail;refine C1.mono ?_;rintro e w1 ⟨⟨rfl,A,C⟩,h3⟩;obtain⟨g,w7,x1,e5⟩:=C2.out w1 A;have C3:=aS e5;have EX:=aS (QJ.2 _ w1 a g QJ.1 h3 x1);have D:=aS (aL w7 ((Gb.new Q0.1 (R:=dT h)).tr C));have B1:=aS (C.at m.1 m.2.1);clear A C h3 C1 C2 w7 e5 x1 QJ;go_wp2_with fail;refine C3.mono ?_;rintro e w2 ⟨rfl,A,C⟩;by_cases P:G=N/\a=g
 ·obtain⟨rfl,rfl⟩:=P;have a2:=Dw n.2.2.2.2.1 a;have hr:=Q0.2.1 rfl a n.2.2.2.2.2.2 D.1;subst hr;have M:=aS (xr.last m.2.2.1 m.2.2.2.1 m.2.2.2.2 A (D.2.tr C));clear A C C3;go_wp2;go_ret;exact M.out
 have a2:=Rc n.2.2.2.2.1 n.2.2.2.2.2.1 (n.2.2.1 a n.2.2.2.2.2.2) (n.2.2.2.1 g D.1) A P;have CL:=aS (Q0.2.2 a g w2 n.2.2.2.2.2.2 D.1 A);have V:=aS (aL A (aL (D.2.tr C) (C.at B1.out m.2.1)));clear A C C3
 cases al with
 |false=>have hr:=n.1 rfl a g n.2.2.2.2.2.2 D.1 EX.out P;subst hr;clear P;go_wp2_with fail;refine CL.mono ?_;rintro e w3 ⟨rfl,I⟩;have M:=aS (show xr H h c d o m1 s m2 none w (.returned (.bool false)) w3 from⟨V.1.grown0 I,(V.2.1.tr (Gb.new I)).mono (λ_ e=>aQ e),rfl⟩);clear I CL;go_wp2;go_ret;exact M.out
 |true=>
 have O:=n.2.1 rfl;obtain⟨K,n1,a5,hz,hk⟩:=O.one a n.2.2.2.2.2.2;obtain⟨vs,n2,a6,hl⟩:=O.two g D.1;have Q2:=aS (aL n1 n2);have t:=aS (aL a5 (aL a6 (aL O.len (aL hk hl))));have HR:=aS (show j6 (lL c f) (ks.drop 0) (ls.drop 0) p q=some r from O.hr a g n.2.2.2.2.2.2 D.1 EX.out P);have hF:=O.hF;clear O n1 n2 a5 a6 hk hl P n;rcases hF with rfl|rfl|rfl|rfl
 all_goals
  go_wp2_with fail;refine CL.mono ?_;rintro e w3 ⟨rfl,I⟩;have c3:=V.1.grown0 I;obtain⟨c5,w9,_⟩:=Q2.2 w3 c3;have e1:=aS w9;have X:=aS (aL c3 (aL (V.2.1.tr (Gb.new I)) ((Gb.new I (R:=λ_=>False)).at V.2.2 id)));clear I CL c3 w9;unfold CP at e1;go_wp2_with fail;refine e1.mono ?_;rintro e w4 ⟨U,J,r3⟩;obtain⟨b6,b8,he,h0⟩:=pz (m1:=m1) (m2:=m2) X.1 (aZ x7 X.2.1.size) (aZ x9 X.2.1.size) r3;subst he;have b3:=aS h0;obtain⟨c4,w8,_⟩:=Q2.1 w4 U;have e0:=aS w8;have Y:=aS (aL U (aL (X.2.1.tr J) (J.at X.2.2 m.2.1)));clear U J r3 h0 w8 e1;unfold CP at e0;go_wp2_with fail;refine e0.mono ?_;rintro e w5 ⟨U,J,r3⟩;obtain⟨b5,b7,he,h0⟩:=pz (m1:=m1) (m2:=m2) Y.1 (aZ x7 Y.2.1.size) (aZ x9 Y.2.1.size) r3;subst he;have b0:=aS h0;have E:=aS (aL U (aL (Y.2.1.tr J) (aL J (J.at Y.2.2 m.2.1))));clear U J r3 h0 e0;go_wp2_with fail;have HV:=aS (show vs.length=K.length by rw[t.1,t.2.1,t.2.2.1])
  have a9:¬(dT h w.heap.size\/w.heap.size=m1\/w.heap.size=m2):=by
   rintro(h9|h9|h9)
   ·exact m.2.1 h9
   ·omega
   ·omega
  have NB:=aS a9;clear a9
  go_loopg [59] (K.length+1) (λgh i wi=>∃(j:Nat) (S T:aD),j<=K.length/\i= .int .i64 j/\gh=K.length-j+1/\Hid (j6 (lL c f) (ks.drop j) (ls.drop j) S T=some r)/\Hid ((fY H h c d wi/\NU wi o m1 S/\NU wi s m2 T)/\Gb (λk=>dT h k\/k=m1\/k=m2) w5 wi))
  case atStart=>exact⟨0,p,q,by omega,rfl,by omega,HR,aS ⟨⟨E.1,m.2.2.1.gb E.2.1 m.2.2.2.2.a3 m.2.2.2.2.a1,m.2.2.2.1.gb E.2.1 m.2.2.2.2.a4 m.2.2.2.2.a2⟩,Gb.refl _ _⟩⟩
  case round=>
   obtain⟨j,S,T,hj,rfl,b9,L,l⟩:=hrel;by_cases e2:j<K.length
   ·have x6:j<vs.length:=by rw[HV.out];exact e2
    obtain⟨u,hu⟩:∃u,K[j]? =some u:=⟨_,aP e2⟩;obtain⟨v,hv⟩:∃v,vs[j]? =some v:=⟨_,aP x6⟩;have h4:j<ks.length:=by rw[<-t.1];exact e2
    have h5:j<ls.length:=by rw[<-t.2.1];exact x6
    obtain⟨y,hy⟩:∃y,ks[j]? =some y:=⟨_,aP h4⟩;obtain⟨z,h7⟩:∃z,ls[j]? =some z:=⟨_,aP h5⟩;obtain⟨gn,rfl,b4,a0,cu⟩:=b0.out j u hu;obtain⟨gm,rfl,x4,e3,cv⟩:=b3.out j v hv;have du:wr.cell? ⟨gn,j,none⟩=some u:=l.out.2.cell cu b4 a0;have dv:wr.cell? ⟨gm,j,none⟩=some v:=l.out.2.cell (E.2.2.1.cell cv x4 (λe=>e3 (aQ e))) (aZ x4 E.2.2.1.size) e3;have h8:=l.out.2.at E.2.2.2 NB.out;have s1:=cU h8 0 rfl;have s2:=cU h8 1 rfl;have c0:=aT h8
    have hd:ks.drop j=y::ks.drop (j+1):=by rw[cO h4];rw[aP h4]at hy;rw[aY hy]
    have x3:ls.drop j=z::ls.drop (j+1):=by rw[cO h5];rw[aP h5]at h7;rw[aY h7]
    have Q:=L.out;rw[hd,x3,j6]at Q
    cases er:lL c f y z S T with
    |none=>rw[er]at Q;cases Q
    |some rj=>
     rw[er]at Q;have e6:=aS (IH.out y z u v S T rj wr.drew (t.2.2.2.1 j u y hu hy) (t.2.2.2.2 j v z hv h7) er l.out.1.1.drew l.out.1.2.1.drew l.out.1.2.2.drew);have JJ:=aS Q;clear hu hv hy h7 cu cv hd x3 Q er L h8 a0 e3 h4 h5;unfold Kz qV at*
     cases rj with
     |none=>
      have h6:r=none:=(aY JJ.out).symm;subst h6;go_wp2_with fail
      go_region_with (go_at_call 257;refine e6.mono ?_;rintro e w6 ⟨Z,g6,rfl⟩;have M:=aS (show xr H h c d o m1 s m2 none w (.returned (.bool false)) w6 from⟨Z,((E.2.1.mono (λk e=>aQ e)).tr l.out.2).tr g6.drewL,rfl⟩);clear Z g6)
      all_goals go_wp2
      all_goals go_ret
      all_goals exact M.out
     |some x=>
      have J2:=aS (show j6 (lL c f) (ks.drop (j+1)) (ls.drop (j+1)) x.1 x.2=some r from JJ.out);go_wp2_with fail
      go_region_with (go_at_call 257;refine e6.mono ?_;rintro e w6 ⟨Z,g6,rfl,q1,q2⟩;have G6:=aS (aL (aL Z (aL q1 q2)) (l.out.2.tr g6.drewL));clear Z g6 q1 q2)
      all_goals
       go_wp2_with fail
       go_roundg (K.length-(j+1)+1)
       case measure=>omega
       case rel=>exact⟨j+1,x.1,x.2,by omega,by go_num,rfl,J2,G6⟩
   ·have x5:j=K.length:=by omega
    have h6:r=some (S,T):=by have h3:=L.out;rw[x5,t.1,lR,t.2.2.1,lR]at h3;exact(aY h3).symm
    have M:=aS (show xr H h c d o m1 s m2 r w (.returned (.bool true)) wr from by
     rw[h6]
     exact⟨l.out.1.1,(E.2.1.mono (λk e=>aQ e)).tr l.out.2,rfl,l.out.1.2.1,l.out.1.2.2⟩)
    subst x5;clear L h6;go_wp2;go_ret;exact M.out
def eT(k:aA):TypeId:=if k=cM then 265 else if k=[]then 309 else if k=nF then 349 else if k=eS then 361 else if k=dO then 291 else 346
def eF(k:aA):Nat:=if k=nF then 308 else if k=eS then 309 else if k=dO then 304 else 307
theorem ZV(k:aA):dz (eT k):=by
 unfold eT dz
 (repeat' split)<;>simp
theorem Dy{k:aA}(h:k≠[]):eT k≠309:=by
 unfold eT
 (repeat' split)<;>first|decide|(rename_i w e;exact absurd e h)|(rename_i w e x;exact absurd e h)
theorem EV.typ{H:aB}{v:Value}{t:Et}(h:EV H v t):∃b,v= .iface (eT t.kind) (.pointer (some ⟨b,0,none⟩)):=by
 obtain⟨b,h⟩:=h;refine⟨b, ?_⟩;rcases h with⟨e,rfl⟩|⟨e,rfl,_⟩|⟨e,rfl,_⟩|⟨e,rfl⟩|⟨e,rfl⟩|⟨e,rfl⟩
 ·rw[e];rfl
 ·rw[e];rfl
 ·rcases e with e|e<;>rw[e]<;>rfl
 ·rw[e];rfl
 ·rw[e];rfl
 ·rw[e];rfl
theorem fP.at{d:Nat}{H:aB}{c:aC}{m T b:Nat}{t:Et}(h:fP d H c m (.iface T (.pointer (some ⟨b,0,none⟩))) t):Rb H c b:=by
 cases m with
 |zero=>exact absurd h id
 |succ m=>
 obtain⟨a,h⟩:=h;rcases h with⟨_,_,f,w⟩|⟨_,_,_,_,w,x⟩|⟨_,_,w,x⟩|⟨_,_,_,_,_,w,x,_⟩|⟨_,_,_,_,_,_,_,w,x,_⟩|⟨_,_,_,_,_,_,_,w,x,_⟩
 ·have e:b=a:=by injection w with _ q;injection q with q;injection q with q;injection q
  rw[e];exact aM (cK f)
 all_goals
  have e:b=a:=by injection w with _ q;injection q with q;injection q with q;injection q
  rw[e];exact aQ ⟨_,_,x⟩
theorem fP.cell{a lo':Nat}{H H':aB}{x:aC}{m:Nat}{v:Value}{t:Et}(h:fP a H x m v t)(w:t.kind=cM):fP lo' H' x 1 v t:=by
 cases m with
 |zero=>exact absurd h id
 |succ m=>
 obtain⟨b,h⟩:=h;rcases h with h|⟨e,_⟩|⟨e,_⟩|⟨e,_⟩|⟨e,_⟩|⟨e,_⟩
 ·exact⟨b,aQ h⟩
 ·exact absurd (e.symm.trans w) (by decide)
 ·rcases e with e|e<;>exact absurd (e.symm.trans w) (by decide)
 ·exact absurd (e.symm.trans w) (by decide)
 ·exact absurd (e.symm.trans w) (by decide)
 ·exact absurd (e.symm.trans w) (by decide)
theorem UE{H I:aB}{C:aC}(L:bM)(d:aI){Q m T b:Nat}{t:Et}(h:fP Q I C m (.iface T (.pointer (some ⟨b,0,none⟩))) t)(J:∀k o,I k=some o->H k=some o)(U:t.kind≠[])(S:t.kind≠cM):
  ∃G,P8 H C L d T b (eF t.kind) G/\G.length=t.kids.length/\G.length<=2/\∀(i:Nat) (u:Value) (k:Et),G[i]? =some u->t.kids[i]? =some k->∃m,fP Q I C m u k:=by
 have al:∀(w:World) (O:Array Value),fY H C L d w->fY H C L d (w.alloc (.cells O 156)):=λw O f=>f.gb (R:=λ_=>False) ((Gb.refl _ _).alloc _) (λ_ _ e=>e) (λ_ _ _ e=>e)
 cases m with
 |zero=>exact absurd h id
 |succ m=>
 obtain⟨N,h⟩:=h;have F:∀{M:TypeId},Value.iface T (.pointer (some ⟨b,0,none⟩))= .iface M (.pointer (some ⟨N,0,none⟩))->T=M/\b=N:=λW=>by injection W with V q;injection q with q;injection q with q;injection q with q;exact⟨V,q⟩
 rcases h with⟨x,_⟩|⟨x,_⟩|⟨x,l,v,y⟩|⟨x,P,a,u,l,v,y,p⟩|⟨x,P,a,c,u,z,l,v,y,p,D⟩|⟨x,P,a,c,u,z,l,v,y,p,D⟩
 ·exact absurd x S
 ·exact absurd x U
 ·obtain⟨rfl,rfl⟩:=F v;have s:eF t.kind=307:=by rcases x with x|x<;>rw[x]<;>rfl
  refine⟨[], ?_,by rw[l];rfl,by simp,λi u k e=>by simp at e⟩;rw[s];refineλw f=>⟨λw=>I0 b w,(I9 b w).mono ?_,aM (aQ rfl)⟩;rintro e K ⟨rfl,rfl⟩;exact⟨f,Gb.refl _ _,aQ ⟨rfl,rfl⟩⟩
 ·obtain⟨rfl,rfl⟩:=F v;obtain⟨r,n,_,rfl⟩:=p.val;have s:eF t.kind=308:=by rw[x];rfl
  refine⟨[(.iface r (.pointer (some ⟨n,0,none⟩)))], ?_,by rw[l];rfl,by simp,λi u k g j=> ?_⟩
  ·rw[s];refineλw f=>⟨λw=>N8 b w,(NC b w r n (f.fz _ _ (J _ _ y))).mono ?_,aM (aM (aQ rfl))⟩;rintro e K ⟨rfl,rfl⟩;exact⟨al _ _ f,(Gb.refl _ _).alloc _,aM ⟨_,rfl,aV _,dC _ _ _ rfl⟩⟩
  ·rw[l]at j
   cases i with
   |zero=>cases g;cases j;exact⟨m,p⟩
   |succ i=>simp at g
 ·obtain⟨rfl,rfl⟩:=F v;obtain⟨r,n,_,rfl⟩:=p.val;obtain⟨E,A,_,rfl⟩:=D.val;have s:eF t.kind=309:=by rw[x];rfl
  refine⟨[(.iface r (.pointer (some ⟨n,0,none⟩))),(.iface E (.pointer (some ⟨A,0,none⟩)))], ?_,by rw[l];rfl,by simp,λi u k g j=> ?_⟩
  ·rw[s];refineλw f=>⟨λw=>N9 b w,(ND b w r E n A (f.fz _ _ (J _ _ y))).mono ?_,aM (aM (aM (aQ rfl)))⟩;rintro e K ⟨rfl,rfl⟩;exact⟨(al _ _ f).drew,((Gb.refl _ _).alloc _).drew,aM ⟨_,rfl,aV _,dC _ _ _ rfl⟩⟩
  ·rw[l]at j
   match i with
   |0=>cases g;cases j;exact⟨m,p⟩
   |1=>cases g;cases j;exact⟨m,D⟩
   |i+2=>simp at g
 ·obtain⟨rfl,rfl⟩:=F v;obtain⟨r,n,_,rfl⟩:=p.val;obtain⟨E,A,_,rfl⟩:=D.val;have s:eF t.kind=304:=by rw[x];rfl
  refine⟨[(.iface r (.pointer (some ⟨n,0,none⟩))),(.iface E (.pointer (some ⟨A,0,none⟩)))], ?_,by rw[l];rfl,by simp,λi u k g j=> ?_⟩
  ·rw[s];refineλw f=>⟨λw=>I7 b w,(IA b w r E n A (f.fz _ _ (J _ _ y))).mono ?_,aM (aM (aM (aM (aQ rfl))))⟩;rintro e K ⟨rfl,rfl⟩;exact⟨(al _ _ f).drew,((Gb.refl _ _).alloc _).drew,aM ⟨_,rfl,aV _,dC _ _ _ rfl⟩⟩
  ·rw[l]at j
   match i with
   |0=>cases g;cases j;exact⟨m,p⟩
   |1=>cases g;cases j;exact⟨m,D⟩
   |i+2=>simp at g
def CY(x:aC)(e:bM)(n:Nat)(w:World)(b:Nat):Prop:=∃h v,x[e.root n]? =some h/\w.heap[h]? =some (sH (e.root n) v)/\((v= .nilIface/\b=h)\/∃T,v= .iface T (.pointer (some ⟨b,0,none⟩)))
theorem jy{H:aB}{k:aC}{h:bM}{d:aI}(i a:Nat)(w:World)(m:k[i]? =some a)(l:fY H k h d w):∃b,fP 0 H k 2 (.iface (eT (dW h (cT i)).kind) (.pointer (some ⟨b,0,none⟩))) (dW h (cT i))/\CY k h i w b/\Calls prog 223 #[CI a] w λe z=>ny H k h d (.iface (eT (dW h (cT i)).kind) (.pointer (some ⟨b,0,none⟩))) w e z/\Az k h w z:=by
 obtain⟨r,t,c⟩:=l.root_get m;have u:=(aU.1 m).1;obtain⟨O,q,E⟩:=l.root_val u c;have s:=aS (jG (d i+1) i a w (by omega) m l);have M:=mB a w;have j:=aS (aL c (aL q (l.rr _ _ t)));unfold CI;unfold CP at s;rcases E with⟨p,rfl⟩|⟨y,p,G,I,J,v⟩
 ·have en:dW h (cT i)=cT (h.root i):=by rw[BO,p]
  refine⟨r, ?_,⟨r,_,c,q,aQ ⟨rfl,rfl⟩⟩, ?_⟩
  ·rw[en];exact⟨r,aQ ⟨rfl,rfl,c,rfl⟩⟩
  rw[en,show eT (cT (h.root i)).kind=265 from rfl];clear m l t c q u p en;go_enter func223,ntmps223;go_wp2_with fail;refine s.mono ?_;rintro e K ⟨A,rfl,f,n,o,g⟩;obtain rfl:=aY (j.1.symm.trans f);have L:=(fZ ((g _ _ j.2.2 f).trans j.2.1)).2.1;have x:=aS (aL n (aL o g));clear f n o g;unfold CP;go_wp2;go_ret;exact⟨⟨rfl,x.1,x.2.1⟩,x.2.2⟩
 ·have en:dW h (cT i)=y:=by rw[BO,p]
  obtain⟨C,F⟩:=v.ev.typ;subst F;have D:=ZV y.kind;rw[en];refine⟨C,v,⟨r,_,c,q,aM ⟨_,rfl⟩⟩, ?_⟩;clear m l t c q u p G I J v en;generalize eT y.kind=N at*;rcases D with rfl|rfl|rfl|rfl|rfl|rfl
  all_goals
   go_enter func223,ntmps223;go_wp2_with fail;refine s.mono ?_;rintro e K ⟨A,rfl,f,n,o,g⟩;obtain rfl:=aY (j.1.symm.trans f);have L:=(fZ ((g _ _ j.2.2 f).trans j.2.1)).2.1;have x:=aS (aL n (aL o g));clear f n o g;unfold CP;go_wp2;go_ret;exact⟨⟨rfl,x.1,x.2.1⟩,x.2.2⟩
theorem l7{T h b e:Nat}(x:Value.iface T (.pointer (some ⟨b,0,none⟩))= .iface h (.pointer (some ⟨e,0,none⟩))):T=h/\b=e:=by injection x with w q;injection q with q;injection q with q;injection q with q;exact⟨w,q⟩
theorem fP.isCell{i lo':Nat}{H H':aB}{d:aC}{m f:Nat}{v:Value}{s t:Et}(h:fP i H d m v s)(a:s.kind=cM)(c:fP lo' H' d f v t)(n:d.Nodup):t.kind=cM/\s.num=t.num:=by
 obtain⟨b,h⟩:=h.cell (lo':=i) (H':=H) a
 cases f with
 |zero=>exact absurd c id
 |succ f=>
 obtain⟨p,c⟩:=c;rcases h with⟨_,_,g,j⟩|⟨w,_⟩|⟨w,_⟩|⟨w,_⟩|⟨w,_⟩|⟨w,_⟩
 ·rcases c with⟨k,_,l,x⟩|⟨_,_,_,_,x,_⟩|⟨_,_,x,_⟩|⟨_,_,_,_,_,x,_⟩|⟨_,_,_,_,_,_,_,x,_⟩|⟨_,_,_,_,_,_,_,x,_⟩
  ·have e:=(l7 (j.symm.trans x)).2;rw[e]at g;refine⟨k, ?_⟩;have o:=(aU.1 g).1;exact(iJ o n).1 (g.trans l.symm)
  all_goals exact absurd (l7 (j.symm.trans x)).1 (by decide)
 ·exact absurd (w.symm.trans a) (by decide)
 ·rcases w with w|w<;>exact absurd (w.symm.trans a) (by decide)
 ·exact absurd (w.symm.trans a) (by decide)
 ·exact absurd (w.symm.trans a) (by decide)
 ·exact absurd (w.symm.trans a) (by decide)
def QT(h e:List Et):Prop:=h.length=e.length/\∀(i:Nat) (a b:Et),h[i]? =some a->e[i]? =some b->a.kind=cM/\b.kind=cM/\a.num=b.num
theorem QT.nil:QT [] []:=⟨rfl,λi a b e=>by simp at e⟩
theorem Re{l1 l2:Nat}{H O:aB}{F:aC}{S T:Nat}{v:Value}{s t:Et}(Z:F.Nodup)(N:∀k o,O k=some o->H k=some o)(M:fP l1 O F S v s)(A:fP l2 H F T v t)(kv:s.kind≠[])(kc:s.kind≠cM)(J:(∀k,k∈s.kids->k.kind=cM)\/∀k,k∈t.kids->k.kind=cM):s.kind=t.kind/\QT s.kids t.kids:=by
 cases S with
 |zero=>exact absurd M id
 |succ S=>
 cases T with
 |zero=>exact absurd A id
 |succ T=>
 have L:∀{u q:Value} {a l:Et} {n n':Nat},fP l1 O F n u a->fP l2 H F n' q l->u=q->(a.kind=cM\/l.kind=cM)->a.kind=cM/\l.kind=cM/\a.num=l.num:=λq1 q2 e D=>by
  subst e;rcases D with D|D
  ·have:=q1.isCell D q2 Z;exact⟨D,this.1,this.2⟩
  ·have:=q2.isCell D q1 Z;exact⟨this.1,D,this.2.symm⟩
 obtain⟨b,M⟩:=M;obtain⟨b',A⟩:=A;rcases M with⟨p,_⟩|⟨p,_⟩|⟨p,g,j,C⟩|⟨p,p0,a,u,g,j,C,K⟩|⟨p,p0,a,c,u,z,g,j,C,K,U⟩|⟨p,p0,a,c,u,z,g,j,C,K,U⟩
 ·exact absurd p kc
 ·exact absurd p kv
 ·rcases A with⟨_,_,_,w⟩|⟨_,_,_,_,w,_⟩|⟨E,f,w,r⟩|⟨_,_,_,_,_,w,_⟩|⟨_,_,_,_,_,_,_,w,_⟩|⟨_,_,_,_,_,_,_,w,_⟩
  case inr.inr.inl=>
   have e:=(l7 (j.symm.trans w)).2;have d:=aY ((N _ _ C).symm.trans (e▸r));refine⟨?_,by rw[g,f];exact QT.nil⟩;injection d with d
   have e3:B s.kind=B t.kind:=by have:=eC (λx:Array Value=>x[0]?) d;simpa using this
   have e4:=eC (λx:ByteArray=>x.data.toList) e3;simpa[B]using e4
  all_goals exact absurd (l7 (j.symm.trans w)).1 (by decide)
 ·rcases A with⟨_,_,_,w⟩|⟨_,_,_,_,w,_⟩|⟨_,_,w,_⟩|⟨E,Y,l,q,f,w,r,I⟩|⟨_,_,_,_,_,_,_,w,_⟩|⟨_,_,_,_,_,_,_,w,_⟩
  case inr.inr.inr.inl=>
   have e:=(l7 (j.symm.trans w)).2;have d:=aY ((N _ _ C).symm.trans (e▸r));injection d with d;have G:u=q:=by have:=eC (λx:Array Value=>x[0]?) d;simpa using this
   refine⟨by rw[p,E], ?_⟩;have:=L K I G (J.imp (λh=>h a (by rw[g];simp)) (λh=>h l (by rw[f];simp)));rw[g,f];refine⟨rfl,λi x y m d=> ?_⟩
   cases i with
   |zero=>cases m;cases d;exact this
   |succ i=>simp at m
  all_goals exact absurd (l7 (j.symm.trans w)).1 (by decide)
 ·rcases A with⟨_,_,_,w⟩|⟨_,_,_,_,w,_⟩|⟨_,_,w,_⟩|⟨_,_,_,_,_,w,_⟩|⟨E,Y,l,P,q,X,f,w,r,I,R⟩|⟨_,_,_,_,_,_,_,w,_⟩
  case inr.inr.inr.inr.inl=>
   have e:=(l7 (j.symm.trans w)).2;have d:=aY ((N _ _ C).symm.trans (e▸r));injection d with d;have G:u=q:=by have:=eC (λx:Array Value=>x[0]?) d;simpa using this
   have Q:z=X:=by have:=eC (λx:Array Value=>x[1]?) d;simpa using this
   refine⟨by rw[p,E], ?_⟩;have V:=L K I G (J.imp (λh=>h a (by rw[g];simp)) (λh=>h l (by rw[f];simp)));have W:=L U R Q (J.imp (λh=>h c (by rw[g];simp)) (λh=>h P (by rw[f];simp)));rw[g,f];refine⟨rfl,λi x y m d=> ?_⟩
   match i with
   |0=>cases m;cases d;exact V
   |1=>cases m;cases d;exact W
   |i+2=>simp at m
  all_goals exact absurd (l7 (j.symm.trans w)).1 (by decide)
 ·rcases A with⟨_,_,_,w⟩|⟨_,_,_,_,w,_⟩|⟨_,_,w,_⟩|⟨_,_,_,_,_,w,_⟩|⟨_,_,_,_,_,_,_,w,_⟩|⟨E,Y,l,P,q,X,f,w,r,I,R⟩
  case inr.inr.inr.inr.inr=>
   have e:=(l7 (j.symm.trans w)).2;have d:=aY ((N _ _ C).symm.trans (e▸r));injection d with d;have G:u=q:=by have:=eC (λx:Array Value=>x[0]?) d;simpa using this
   have Q:z=X:=by have:=eC (λx:Array Value=>x[1]?) d;simpa using this
   refine⟨by rw[p,E], ?_⟩;have V:=L K I G (J.imp (λh=>h a (by rw[g];simp)) (λh=>h l (by rw[f];simp)));have W:=L U R Q (J.imp (λh=>h c (by rw[g];simp)) (λh=>h P (by rw[f];simp)));rw[g,f];refine⟨rfl,λi x y m d=> ?_⟩
   match i with
   |0=>cases m;cases d;exact V
   |1=>cases m;cases d;exact W
   |i+2=>simp at m
  all_goals exact absurd (l7 (j.symm.trans w)).1 (by decide)
def Dz(e:bM):Prop:=∀n h,e.is n=some h->h.kind≠[]
theorem WO{w:bM}(a:Dz w){t:Et}(h:(dW w t).kind=[]):t.kind≠cM/\dW w t=t:=by
 unfold dW at h⊢;by_cases x:t.kind=cM
 ·rw[aR x]at h;exfalso
  cases e:w.is t.num with
  |none=>rw[e]at h;exact absurd (show cM=[]from h) (by decide)
  |some nd=>rw[e]at h;exact a _ _ e h
 ·exact⟨x,by rw[aN x]⟩
theorem QU{j:bM}(k:Dz j){f:Nat}:∀{d g:List Et} {p q:aD} {r:Option (List aA×List aA)},QT d g->j6 (lL j f) d g p q=some r->r=some (p,q)
 |[],[],p,q,r,_,h=>(aY h).symm
 |[],_::_,_,_,_,w,_=>absurd w.1 (by simp)
 |_::_,[],_,_,_,w,_=>absurd w.1 (by simp)
 |a::d,b::g,p,q,r,w,h=>by
  have c:=w.2 0 a b rfl rfl;have n:QT d g:=⟨by simpa using w.1,λi x y l m=>w.2 (i+1) x y (by simpa using l) (by simpa using m)⟩;rw[j6]at h
  cases f with
  |zero=>rw[lL]at h;cases h
  |succ f=>
   have e:lL j (f+1) a b p q=some (some (p,q)):=by rw[lL,aN (λe=>(WO k e).1 c.1),aR ⟨c.1,c.2.1,by rw[c.2.2]⟩]
   rw[e]at h;exact QU k n h
theorem fY.noVar{H:aB}{b:aC}{g:bM}{d:aI}(h:fY H b g d w){n a:Nat}(c:b[n]? =some a){x:Et}(f:g.is n=some x):x.kind≠[]/\x.kind≠cM/\∀k,k∈x.kids->k.kind=cM:=by
 obtain⟨p,q,i⟩:=h.root_get c;obtain⟨t,r,j⟩:=h.root_val (aU.1 c).1 i;rcases j with⟨e,_⟩|⟨s,e,l,m,o,_⟩
 ·rw[f]at e;cases e
 ·rw[f]at e;cases e;exact⟨l,m,o⟩
theorem fY.noVars{H:aB}{b:aC}{a:bM}{d:aI}(h:fY H b a d w):Dz a:=λn f e=>by
 rcases bZ n b.length with x|x
 ·exact(h.noVar (aP x) e).1
 ·exfalso
  have c:a.root n=n:=by show a.rep.getD n n=n;rw[aW,bW (by rw[<-h.len];exact x)];rfl
  unfold bM.is at e;rw[c,aW,bW (by rw[h.lenc,<-h.len];exact x)]at e;cases e
def MT(H G:aB)(w:Nat)(e:aC)(h:bM)(t:Et)(b:Nat):Prop:=
 (t.kind=cM/\∃m,fP 0 H e m (.iface (eT (dW h t).kind) (.pointer (some ⟨b,0,none⟩))) (dW h t))\/(t.kind≠cM/\∃m,fP w G e m (.iface (eT (dW h t).kind) (.pointer (some ⟨b,0,none⟩))) (dW h t))
theorem MT.rep{H:aB}{a:Nat}{w:aC}{e:bM}{t:Et}{b:Nat}(h:MT H G a w e t b)(x:∀k o,G k=some o->H k=some o):∃m,fP 0 H w m (.iface (eT (dW e t).kind) (.pointer (some ⟨b,0,none⟩))) (dW e t):=by
 rcases h with⟨_,m,h⟩|⟨_,m,h⟩
 ·exact⟨m,h⟩
 ·exact⟨m,h.ext (dG _) x (dD _) _ _ _⟩
theorem MT.kids{H:aB}{l:Nat}{c:aC}{x:bM}{d:aI}{t:Et}{b:Nat}(z:fY H c x d w)(D:∃m v,fP l G c m v t)(h:MT H G l c x t b)(C:∀k o,G k=some o->H k=some o)(p:(dW x t).kind≠[])(f:(dW x t).kind≠cM):
  ∃g,P8 H c x d (eT (dW x t).kind) b (eF (dW x t).kind) g/\g.length=(dW x t).kids.length/\g.length<=2/\∀(i:Nat) (u:Value) (k:Et),g[i]? =some u->(dW x t).kids[i]? =some k->∃m,fP l G c m u k:=by
 rcases h with⟨a,m,h⟩|⟨a,m,h⟩
 ·obtain⟨g,E,F,I,J⟩:=UE x d h (λ_ _ e=>e) p f;refine⟨g,E,F,I,λi u k s j=> ?_⟩;obtain⟨M,K⟩:=J i u k s j;obtain⟨L,N,n⟩:=D;obtain⟨r,n⟩:=n.cell (lo':=l) (H':=G) a
  have y:c[t.num]? =some r:=by
   rcases n with⟨_,_,q,_⟩|⟨q,_⟩|⟨q,_⟩|⟨q,_⟩|⟨q,_⟩|⟨q,_⟩
   ·exact q
   ·exact absurd (q.symm.trans a) (by decide)
   ·rcases q with q|q<;>exact absurd (q.symm.trans a) (by decide)
   ·exact absurd (q.symm.trans a) (by decide)
   ·exact absurd (q.symm.trans a) (by decide)
   ·exact absurd (q.symm.trans a) (by decide)
  have A:k.kind=cM:=by
   unfold dW at j f;rw[aR a]at j f
   cases e:x.is t.num with
   |none=>rw[e]at f;exact absurd rfl f
   |some nd=>rw[e]at j;exact(z.noVar y e).2.2 k (cK j)
  exact⟨1,K.cell A⟩
 ·exact UE x d h C p f
theorem B8{H:aB}{j:Nat}{f:aC}{a:bM}{d:aI}{T c:Nat}{t:Et}(y:∃m,fP j G f m (.iface T (.pointer (some ⟨c,0,none⟩))) t)(w:World)(n:fY H f a d w):
  ∃b,MT H G j f a t b/\(t.kind=cM->CY f a t.num w b)/\Calls prog 223 #[.iface T (.pointer (some ⟨c,0,none⟩))] w λe k=>ny H f a d (.iface (eT (dW a t).kind) (.pointer (some ⟨b,0,none⟩))) w e k/\Az f a w k:=by
 obtain⟨m,h⟩:=y;by_cases x:t.kind=cM
 ·obtain⟨l,q⟩:=h.cell (lo':=j) (H':=G) x
  have o:f[t.num]? =some l/\Value.iface T (.pointer (some ⟨c,0,none⟩))= .iface 265 (.pointer (some ⟨l,0,none⟩)):=by
   rcases q with⟨_,_,q,z⟩|⟨q,_⟩|⟨q,_⟩|⟨q,_⟩|⟨q,_⟩|⟨q,_⟩
   ·exact⟨q,z⟩
   ·exact absurd (q.symm.trans x) (by decide)
   ·rcases q with q|q<;>exact absurd (q.symm.trans x) (by decide)
   ·exact absurd (q.symm.trans x) (by decide)
   ·exact absurd (q.symm.trans x) (by decide)
   ·exact absurd (q.symm.trans x) (by decide)
  obtain⟨g,i⟩:=l7 o.2;subst g;subst i;obtain⟨b,p,A,r⟩:=jy t.num c w o.1 n;have en:dW a t=dW a (cT t.num):=by unfold dW;rw[aR x,aR (show(cT t.num).kind=cM from rfl)];rfl
  rw[<-en]at p r;exact⟨b,aQ ⟨x,2,p⟩,λ_=>A,r⟩
 ·have en:dW a t=t:=by unfold dW;rw[aN x]
  obtain⟨b,u⟩:=h.ev.typ;obtain⟨g,i⟩:=l7 u;subst i
  have s:T≠265:=by
   rw[g];obtain⟨_,v⟩:=h.ev;rcases v with⟨q,_⟩|⟨q,_⟩|⟨q,_⟩|⟨q,_⟩|⟨q,_⟩|⟨q,_⟩
   ·exact absurd q x
   ·rw[q];decide
   ·rcases q with q|q<;>rw[q]<;>decide
   ·rw[q];decide
   ·rw[q];decide
   ·rw[q];decide
  refine⟨c,aM ⟨x,m,by rw[en,<-g];exact h⟩,λe=>absurd e x, ?_⟩;refine(BP c w (ZM (by rw[g];exact ZV _) s c w)).mono ?_;rintro e k ⟨rfl,rfl⟩;exact⟨⟨by rw[en,<-g],n,Gb.refl _ _⟩,Az.refl _ _ _⟩
theorem La{k:aA}:eF k=307\/eF k=308\/eF k=309\/eF k=304:=by
 unfold eF
 (repeat' split)<;>simp
theorem jz{r y:Nat}{H q:aB}{p:aC}{m o:Nat}{v A:Value}{s t:Et}(h:fP r H p m v s)(l:fP y q p o A t)(e:s.kind=t.kind)(n:s.kind≠cM):s.kids.length=t.kids.length:=by
 cases m with
 |zero=>exact absurd h id
 |succ m=>
 cases o with
 |zero=>exact absurd l id
 |succ o=>
 obtain⟨b,h⟩:=h;obtain⟨C,l⟩:=l;rcases h with⟨d,_⟩|⟨d,i,_⟩|⟨d,i,_⟩|⟨d,_,a,u,i,_⟩|⟨d,_,a,c,u,z,i,_⟩|⟨d,_,a,c,u,z,i,_⟩
 ·exact absurd d n
 ·rcases l with⟨w,_⟩|⟨w,x,_⟩|⟨w,x,_⟩|⟨w,_,f,g,x,_⟩|⟨w,_,f,j,g,k,x,_⟩|⟨w,_,f,j,g,k,x,_⟩
  ·exact absurd (e.trans w) n
  ·rw[i,x]
  ·rw[i,x]
  ·exact absurd (d.symm.trans (e.trans w)) (by decide)
  ·exact absurd (d.symm.trans (e.trans w)) (by decide)
  ·exact absurd (d.symm.trans (e.trans w)) (by decide)
 ·rcases l with⟨w,_⟩|⟨w,x,_⟩|⟨w,x,_⟩|⟨w,_,f,g,x,_⟩|⟨w,_,f,j,g,k,x,_⟩|⟨w,_,f,j,g,k,x,_⟩
  ·exact absurd (e.trans w) n
  ·rw[i,x]
  ·rw[i,x]
  ·rcases d with d|d<;>exact absurd (d.symm.trans (e.trans w)) (by decide)
  ·rcases d with d|d<;>exact absurd (d.symm.trans (e.trans w)) (by decide)
  ·rcases d with d|d<;>exact absurd (d.symm.trans (e.trans w)) (by decide)
 ·rcases l with⟨w,_⟩|⟨w,x,_⟩|⟨w,x,_⟩|⟨w,_,f,g,x,_⟩|⟨w,_,f,j,g,k,x,_⟩|⟨w,_,f,j,g,k,x,_⟩
  ·exact absurd (e.trans w) n
  ·exact absurd (d.symm.trans (e.trans w)) (by decide)
  ·rcases w with w|w<;>exact absurd (d.symm.trans (e.trans w)) (by decide)
  ·rw[i,x];rfl
  ·exact absurd (d.symm.trans (e.trans w)) (by decide)
  ·exact absurd (d.symm.trans (e.trans w)) (by decide)
 ·rcases l with⟨w,_⟩|⟨w,x,_⟩|⟨w,x,_⟩|⟨w,_,f,g,x,_⟩|⟨w,_,f,j,g,k,x,_⟩|⟨w,_,f,j,g,k,x,_⟩
  ·exact absurd (e.trans w) n
  ·exact absurd (d.symm.trans (e.trans w)) (by decide)
  ·rcases w with w|w<;>exact absurd (d.symm.trans (e.trans w)) (by decide)
  ·exact absurd (d.symm.trans (e.trans w)) (by decide)
  ·rw[i,x];rfl
  ·rw[i,x];rfl
 ·rcases l with⟨w,_⟩|⟨w,x,_⟩|⟨w,x,_⟩|⟨w,_,f,g,x,_⟩|⟨w,_,f,j,g,k,x,_⟩|⟨w,_,f,j,g,k,x,_⟩
  ·exact absurd (e.trans w) n
  ·exact absurd (d.symm.trans (e.trans w)) (by decide)
  ·rcases w with w|w<;>exact absurd (d.symm.trans (e.trans w)) (by decide)
  ·exact absurd (d.symm.trans (e.trans w)) (by decide)
  ·rw[i,x];rfl
  ·rw[i,x];rfl
theorem xw{c:aC}{w:bM}{b k:Nat}{W:World}{d f:Nat}(e:w.root b=w.root k)(q:w.rep[w.root b]? =some (w.root b))(o:CY c w b W d)(hR:Az c w W w1)(p:CY c w k w1 f):d=f:=by
 obtain⟨x,v,l,r,s⟩:=o;obtain⟨u,t,i,j,h⟩:=p;rw[<-e]at i j;obtain rfl:=aY (l.symm.trans i);have g:=hR _ _ q l;rw[j,r]at g
 have n:t=v:=by have a:=aY g;unfold sH at a;injection a with a;have:=eC (λx:Array Value=>x[1]?) a;simpa using this
 subst n;rcases s with⟨rfl,rfl⟩|⟨T,rfl⟩
 ·rcases h with⟨_,rfl⟩|⟨m,h⟩
  ·rfl
  ·cases h
 ·rcases h with⟨h,_⟩|⟨m,h⟩
  ·cases h
  ·exact(l7 h).2
theorem QV{H:aB}{f:aC}{h:bM}{d:aI}{w:World}{t:Et}(x:fY H f h d w)(i:t.kind=cM)(a:(dW h t).kind≠cM):∀k,k∈(dW h t).kids->k.kind=cM:=by
 intro k c;unfold dW at c a;rw[aR i]at c a
 cases e:h.is t.num with
 |none=>rw[e]at a;exact absurd rfl a
 |some nd=>
  rw[e]at c;rcases bZ t.num f.length with b|b
  ·exact(x.noVar (aP b) e).2.2 k c
  ·exfalso
   have g:h.root t.num=t.num:=by show h.rep.getD t.num t.num=t.num;rw[aW,bW (by rw[<-x.len];exact b)];rfl
   unfold bM.is at e;rw[g,aW,bW (by rw[x.lenc,<-x.len];exact b)]at e;cases e
theorem xy{H g:aB}{n:Nat}{i:aC}{m d:Nat}{v:Value}{s t:Et}(p:∀k o,g k=some o->k<n)(h:fP 0 g i m v s)(x:fP n H i d v t)(r:s.kind≠[])(q:s.kind≠cM):∀k,k∈s.kids->k.kind=cM:=by
 cases m with
 |zero=>exact absurd h id
 |succ m=>
 cases d with
 |zero=>exact absurd x id
 |succ d=>
 obtain⟨b,h⟩:=h;obtain⟨y,x⟩:=x;rcases h with⟨a,_⟩|⟨a,_⟩|⟨a,u,_⟩|⟨_,_,_,_,_,c,f,_⟩|⟨_,_,_,_,_,_,_,c,f,_⟩|⟨_,_,_,_,_,_,_,c,f,_⟩
 ·exact absurd a q
 ·exact absurd a r
 ·intro k l;rw[u]at l;cases l
 all_goals
  exfalso;have z:=p _ _ f;rcases x with⟨_,_,_,w⟩|⟨_,_,_,_,w,_⟩|⟨_,_,w,_⟩|⟨_,j,_,_,_,w,_⟩|⟨_,j,_,_,_,_,_,w,_⟩|⟨_,j,_,_,_,_,_,w,_⟩
  all_goals first
   |exact absurd (l7 (c.symm.trans w)).1 (by decide)
   |(have e:=(l7 (c.symm.trans w)).2;omega)
theorem xz{H D:aB}{U:Nat}{n:aC}{a:bM}{d:aI}{c1 m1 c2 m2 f:Nat}(hs:∀k o,D k=some o->H k=some o)(w0:∀k o,D k=some o->k<U)(no:Tr H n c1 m1 c2 m2)(ih:Xa H D U n a d c1 m1 c2 m2 f):Xa H D U n a d c1 m1 c2 m2 (f+1):=by
 intro c g va vb p q r w Q R l i N1 N2;obtain⟨Ta,M,_,rfl⟩:=Q.choose_spec.val;obtain⟨Tb,N,_,rfl⟩:=R.choose_spec.val;have nv:=i.noVars;rw[lL]at l;by_cases s:(dW a c).kind=[]
 ·rw[aR s]at l;obtain⟨ka,ea⟩:=WO nv s;have h4:EV D (.iface Ta (.pointer (some ⟨M,0,none⟩))) c:=Q.choose_spec.ev;rw[ea]at s l
  have fA:Ta=309/\D M=some (.cells #[.string (B c.name)] 313 (0,0))/\c.name.length<=300:=by
   obtain⟨b',h4⟩:=h4;rcases h4 with⟨j,_⟩|⟨_,C,V,X⟩|⟨j,_⟩|⟨j,_⟩|⟨j,_⟩|⟨j,_⟩
   ·exact absurd (j.symm.trans s) (by decide)
   ·obtain⟨S,e2⟩:=l7 C;subst e2;exact⟨S,V,X⟩
   ·rcases j with j|j<;>exact absurd (j.symm.trans s) (by decide)
   ·exact absurd (j.symm.trans s) (by decide)
   ·exact absurd (j.symm.trans s) (by decide)
   ·exact absurd (j.symm.trans s) (by decide)
  obtain⟨rfl,e6,e8⟩:=fA
  have CA:∀w,fY H n a d w->Calls prog 223 #[.iface 309 (.pointer (some ⟨M,0,none⟩))] w (ny H n a d (.iface 309 (.pointer (some ⟨M,0,none⟩))) w):=λw i=>(BP M w (r8 M w)).mono λe w' h=>by obtain⟨rfl,rfl⟩:=h;exact⟨rfl,i,Gb.refl _ _⟩
  by_cases y:(dW a g).kind=[]
  ·rw[aR y]at l;obtain⟨kb,eb⟩:=WO nv y;have h5:EV H (.iface Tb (.pointer (some ⟨N,0,none⟩))) g:=R.choose_spec.ev;rw[eb]at y l
   have fB:Tb=309/\H N=some (.cells #[.string (B g.name)] 313 (0,0))/\g.name.length<=300:=by
    obtain⟨b',h5⟩:=h5;rcases h5 with⟨j,_⟩|⟨_,C,V,X⟩|⟨j,_⟩|⟨j,_⟩|⟨j,_⟩|⟨j,_⟩
    ·exact absurd (j.symm.trans y) (by decide)
    ·obtain⟨S,e2⟩:=l7 C;subst e2;exact⟨S,V,X⟩
    ·rcases j with j|j<;>exact absurd (j.symm.trans y) (by decide)
    ·exact absurd (j.symm.trans y) (by decide)
    ·exact absurd (j.symm.trans y) (by decide)
    ·exact absurd (j.symm.trans y) (by decide)
   obtain⟨rfl,e7,e9⟩:=fB
   have CB:∀w,fY H n a d w->Calls prog 223 #[.iface 309 (.pointer (some ⟨N,0,none⟩))] w (ny H n a d (.iface 309 (.pointer (some ⟨N,0,none⟩))) w):=λw i=>(BP N w (r8 N w)).mono λe w' h=>by obtain⟨rfl,rfl⟩:=h;exact⟨rfl,i,Gb.refl _ _⟩
   split at l
   ·rename_i e3
    have er:r=if(jO p c.name).idxOf c.name=(jO q g.name).idxOf g.name then some (jO p c.name,jO q g.name)else none:=by
     split at l
     ·rename_i he;rw[aR he];exact(aY l).symm
     ·rename_i he;rw[aN he];exact(aY l).symm
    rw[er];exact Dx i e8 e9 e3.1 e3.2 (hs _ _ e6) e7 N1 N2 no CA CB
   ·cases l
  ·rw[aN y]at l;have er:=(aY l).symm;subst er;refine xu i (ZV _) (Dy y) CA λw i=> ?_;obtain⟨b,_,_,h3⟩:=B8 R w i;exact⟨b,h3.mono λe w' h=>h.1⟩
 ·rw[aN s]at l;have Y:∀b,MT H D 0 n a c b->∃m,fP 0 H n m (.iface (eT (dW a c).kind) (.pointer (some ⟨b,0,none⟩))) (dW a c):=λb h=>h.rep hs;have Z:∀b,MT H H U n a g b->∃m,fP 0 H n m (.iface (eT (dW a g).kind) (.pointer (some ⟨b,0,none⟩))) (dW a g):=λb h=>h.rep (λ_ _ e=>e)
  have e4:c.kind=cM/\g.kind=cM/\a.root c.num=a.root g.num->dW a c=dW a g:=λh=>by unfold dW bM.is;rw[aR h.1,aR h.2.1,h.2.2]
  obtain⟨bA,sA,_,_⟩:=B8 Q w i;obtain⟨bB,sB,_,_⟩:=B8 R w i
  refine Rd (A1:=MT H D 0 n a c) (A2:=MT H H U n a g) (J1:=λw b=>c.kind=cM->CY n a c.num w b) (J2:=λw b=>g.kind=cM->CY n a g.num w b) (Ex:=λK L=>(c.kind=cM/\g.kind=cM/\a.root c.num=a.root g.num)->K=L)
   (al:=decide ((dW a c).kind=(dW a g).kind/\(dW a c).kind≠cM)) (F:=eF (dW a c).kind) (ks:=(dW a c).kids) (ls:=(dW a g).kids)
   ih i (ZV _) (ZV _) (Dy s) N1 N2 no (λb h=>(Y b h).choose_spec.at) (λb h=>(Z b h).choose_spec.at)
   (λw i=>B8 Q w i) (λw i=>by
    obtain⟨b,j,C,V⟩:=B8 R w i
    exact⟨b,j,C,V.mono λe w' h=>h.1⟩) (λW w1 K L j1 hR j2 z=> ?_) (λO b E I=> ?_) (λK L w E I i=>Kn (Y K E).choose_spec.ev (Z L I).choose_spec.ev i.fz s) (λh6 K L E I hE h7=> ?_) (λh6=> ?_)
  ·have hA:=Q.choose_spec.cell (lo':=0) (H':=H) z.1;obtain⟨x,hA⟩:=hA
   have ei:n[c.num]? =some x:=by
    rcases hA with⟨_,_,q,_⟩|⟨q,_⟩|⟨q,_⟩|⟨q,_⟩|⟨q,_⟩|⟨q,_⟩
    ·exact q
    ·exact absurd (q.symm.trans z.1) (by decide)
    ·rcases q with q|q<;>exact absurd (q.symm.trans z.1) (by decide)
    ·exact absurd (q.symm.trans z.1) (by decide)
    ·exact absurd (q.symm.trans z.1) (by decide)
    ·exact absurd (q.symm.trans z.1) (by decide)
   obtain⟨_,e5,_⟩:=i.root_get ei;exact xw z.2.2 (i.rr _ _ e5) (j1 z.1) hR (j2 z.2.1)
  ·by_cases u:c.kind=cM/\g.kind=cM/\a.root c.num=a.root g.num
   ·rw[aR u]at l;exact(aY l).symm
   rw[aN u]at l;by_cases A:(dW a c).kind=cM
   ·exfalso
    have e0:∀{lo':Nat} {G:aB} {t:Et} (J:(dW a t).kind=cM) (h:MT H G lo' n a t b),t.kind=cM/\n[a.root t.num]? =some b:=by
     intro lo' G t J h;rcases h with⟨P,m,h⟩|⟨P,m,h⟩
     ·have en:dW a t=cT (a.root t.num):=by
       unfold dW at J⊢;rw[aR P]at J⊢
       cases e:a.is t.num with
       |none=>rfl
       |some nd=>
        rw[e]at J;exfalso;have T:=h;unfold dW at T;rw[aR P,e]at T;rcases bZ t.num n.length with hl|hl
        ·exact(i.noVar (aP hl) e).2.1 J
        ·have S:a.root t.num=t.num:=by show a.rep.getD t.num t.num=t.num;rw[aW,bW (by rw[<-i.len];exact hl)];rfl
         unfold bM.is at e;rw[S,aW,bW (by rw[i.lenc,<-i.len];exact hl)]at e;cases e
      refine⟨P, ?_⟩;rw[en]at h;obtain⟨x,h⟩:=h.cell (lo':=0) (H':=H) rfl;rcases h with⟨_,_,q,C⟩|⟨q,_⟩|⟨q,_⟩|⟨q,_⟩|⟨q,_⟩|⟨q,_⟩
      ·rw[(l7 C).2];exact q
      ·exact absurd q (show cM≠[] by decide)
      ·rcases q with q|q
       ·exact absurd (show cM=nD from q) (by decide)
       ·exact absurd (show cM=eU from q) (by decide)
      ·exact absurd q (show cM≠nF by decide)
      ·exact absurd q (show cM≠eS by decide)
      ·exact absurd q (show cM≠dO by decide)
     ·have en:dW a t=t:=by unfold dW;rw[aN P]
      rw[en]at J;exact absurd J P
    have h8:(dW a g).kind=cM:=by
     rw[A]at O;by_cases T:(dW a g).kind=cM
     ·exact T
     ·exfalso;revert O;unfold eT;rw[aR rfl,aN T]
      (repeat' split)<;>decide
    have f1:=e0 A E;have f2:=e0 h8 I;have lt:=(aU.1 f1.2).1;exact u ⟨f1.1,f2.1,(iJ lt i.nd).1 (f1.2.trans f2.2.symm)⟩
   ·have tw:(dW a c).kind=(dW a g).kind/\QT (dW a c).kids (dW a g).kids:=by
     obtain⟨mb,rb⟩:=Z b I;rw[<-O]at rb;obtain⟨ma,ra⟩:=Y b E;rcases E with⟨g0,_⟩|⟨g0,m5,g1⟩
     ·exact Re i.nd (λ_ _ e=>e) ra rb s A (aQ (QV i g0 A))
     ·rcases I with⟨g2,_⟩|⟨g2,m6,g3⟩
      ·have h8:(dW a g).kind≠cM:=λe=>by
        rw[e]at O
        have:eT (dW a c).kind≠265:=by
         unfold eT;rw[aN A]
         (repeat' split)<;>decide
        exact this O
       exact Re i.nd (λ_ _ e=>e) ra rb s A (aM (QV i g2 h8))
      ·rw[<-O]at g3;exact Re i.nd hs g1 g3 s A (aQ (xy w0 g1 g3 s A))
    rw[aR ⟨tw.1,A⟩]at l;exact QU nv tw.2 l
  ·by_cases u:c.kind=cM/\g.kind=cM/\a.root c.num=a.root g.num
   ·exact absurd ⟨by rw[e4 u],hE u⟩ h7
   ·rw[aN u,aN (of_decide_eq_false h6)]at l;exact(aY l).symm
  ·have v:=jB h6;have kB:(dW a g).kind≠[]:=by rw[<-v.1];exact s
   have kC:(dW a g).kind≠cM:=by rw[<-v.1];exact v.2
   refine⟨La,jz (Y bA sA).choose_spec (Z bB sB).choose_spec v.1 v.2,λb h=>MT.kids i ⟨_,_,Q.choose_spec⟩ h hs s v.2,λb h=> ?_,λK L E I hE h7=> ?_⟩
   ·obtain⟨us,j,C,_,X⟩:=MT.kids i ⟨_,_,R.choose_spec⟩ h (λ_ _ e=>e) kB kC;rw[<-v.1]at j;rw[v.1];rw[v.1]at j;exact⟨us,j,C,X⟩
   ·by_cases u:c.kind=cM/\g.kind=cM/\a.root c.num=a.root g.num
    ·exact absurd ⟨by rw[e4 u],hE u⟩ h7
    ·rw[aN u,aR v]at l;exact l
theorem ZX{H h:aB}{c:Nat}{x:aC}{m:bM}{d:aI}{e g w i:Nat}(b:∀k o,h k=some o->H k=some o)(a:∀k o,h k=some o->k<c)(j:Tr H x e g w i):∀f,Xa H h c x m d e g w i f
 |0=>λ_ _ _ _ _ _ _ _ _ _ l=>by cases l
 |f+1=>xz b a j (ZX b a j f)
theorem Rg{H:aB}{f:aC}{q:bM}{d:aI}{h:World}{k a l b:Nat}(g:fY H f q d w)(A:w1.heap[k]? =some (.cells #[.map (some a)] 358 (0,0)))(z:MP w1 a [])(p:w.grownBy w1 none)(I:w.heap.size<=a)(C:h.heap[l]? =some (.cells #[.map (some b)] 358 (0,0)))(K:MP h b [])(r:w1.grownBy h none)(J:w1.heap.size<=b):
  Tr H f k a l b/\NU h k a []/\NU h l b []/\fY H f q d h:=by
 have P:=z.lt;have n:NU h k a []:=NU.gb (R:=λ_=>False) ⟨A,z⟩ (Gb.new r) id id;have o:NU h l b []:=⟨C,K⟩;have s:fY H f q d h:=g.grown0 (p.trans r)
 have y:∀{c m:Nat},NU h c m []->c∉f:=λG j=>by obtain⟨i,F⟩:=wQ j;obtain⟨v,x,_⟩:=s.blk i _ F;rw[G.blk]at x;unfold sH at x;injection x with x;injection x with x;have:=eC Array.size x;simp at this
 have u:∀{c m D t:Nat},NU h c m []->NU h D t []->c≠t:=λL M e=>by obtain⟨O,N,E⟩:=M.mp.isMap;have:=L.blk;rw[e,E]at this;cases this
 exact⟨⟨λj=>by have:=dT.lt g j;omega,λj=>by have:=dT.lt g j;have:=p.size;omega,y n,y o,g.fz.none I,g.fz.none (bV p.size J),by omega,u n o,u o n⟩,n,o,s⟩
theorem qa{H:aB}{e:aC}{f:bM}{d:aI}{b n x a:Nat}(c:fY H e f d w)(g:w.heap.size<=b)(i:b<n)(j:n<=x)(k:n<=a):¬(dT e b\/b=x\/b=a):=by
 rintro(h|h|h)
 ·have:=dT.lt c h;omega
 ·omega
 ·omega
theorem xr.form{H:aB}{c:aC}{j:bM}{d:aI}{a f b g:Nat}{r:Option (List aA×List aA)}{w i:World}{e:Ending}(h:xr H c j d a f b g r w e i):e= .returned (.bool r.isSome):=by
 cases r with
 |none=>exact h.2.2
 |some x=>exact h.2.2.1
theorem Ea{H D:aB}{lo:Nat}{g:aC}{T:bM}{d:aI}{f:Nat}{P S:Et}{va vb:Value}{r:Option (List aA×List aA)}(hs:∀k o,D k=some o->H k=some o)(Z:∀k o,D k=some o->k<lo)(K:∃m,fP 0 D g m va P)(L:∃m,fP lo H g m vb S)(hr:lL T f P S [] []=some r)(Y:fY H g T d w):
  Calls prog 248 #[.agg #[va], .agg #[vb]] w λe w'=>e= .returned (.bool r.isSome)/\fY H g T d w'/\Gb (dT g) w w':=by
 obtain⟨x,a,_,rfl⟩:=K.choose_spec.val;obtain⟨t,v,_,rfl⟩:=L.choose_spec.val;have Q:=aS (aL hs (aL Z (aL K (aL L (aL hr Y)))));clear hs Z K L hr Y;have W:w.grownBy (w.alloc (.cells #[.iface x (.pointer (some ⟨a,0,none⟩))] 174)) none:=aO _ _ _;have J:(w.alloc (.cells #[.iface x (.pointer (some ⟨a,0,none⟩))] 174)).grownBy ((w.alloc (.cells #[.iface x (.pointer (some ⟨a,0,none⟩))] 174)).alloc (.cells #[.iface t (.pointer (some ⟨v,0,none⟩))] 174)) none:=aO _ _ _;have M:=(J.block _ (by simp) (by simp)).trans (bY w (.cells #[.iface x (.pointer (some ⟨a,0,none⟩))] 174));have N:=dC (w.alloc (.cells #[.iface x (.pointer (some ⟨a,0,none⟩))] 174)) (.cells #[.iface t (.pointer (some ⟨v,0,none⟩))] 174) (w.heap.size+1) (by simp);have X:=W.trans J;clear W J;go_enter func248,ntmps248;go_wp2_with fail;generalize (w.alloc (.cells #[.iface x (.pointer (some ⟨a,0,none⟩))] 174)).alloc (.cells #[.iface t (.pointer (some ⟨v,0,none⟩))] 174)=u at*;have s1:=cU M 0 rfl;have s2:=cU N 0 rfl;have A:=aT M;have C:=aT N;have C1:=aS (JT u.drew);have S2:=aS (aL s1 s2);have p:=aS X;clear M N X
 go_region_held3 (λwx=>wx.cell? ⟨w.heap.size,0,none⟩=some (.iface x (.pointer (some ⟨a,0,none⟩)))/\wx.cell? ⟨w.heap.size+1,0,none⟩=some (.iface t (.pointer (some ⟨v,0,none⟩)))) (first|exact S2.out|exact S5.out|exact F.out|exact E.out|go_keep) (first
  |(go_at_call 145;refine C1.mono ?_;rintro e w1 ⟨c1,m1,rfl,U,p1,c,q1⟩;have G:=(Gb.new (R:=λ_=>False) c).drewL;have E:=aS (aL (G.cell s1 A id) (G.cell s2 C id));have C2:=aS (JT w1);have h:=aS (aL U (aL p1 (aL (show u.grownBy w1 none from⟨c.os,c.tape,c.output,c.size,c.block⟩) q1)));clear U p1 c q1 G;unfold qV at*)
  |(go_at_call 145;refine C2.mono ?_;rintro e w2 ⟨c2,m2,rfl,V,p2,j,O⟩;have I:=Gb.new (R:=λ_=>False) j;have F:=aS (aL (I.cell E.1 (aZ A h.2.2.1.size) id) (I.cell E.2 (aZ C h.2.2.1.size) id));have s:=aS (Rg (Q.2.2.2.2.2.grown0 p.out) h.1 h.2.1 h.2.2.1 h.2.2.2 V p2 j O);have CO:=aS (ZX Q.1 Q.2.1 s.1 f P S _ _ [] [] r w2 Q.2.2.1 Q.2.2.2.1 Q.2.2.2.2.1 s.2.2.2 s.2.1 s.2.2.1);have n:=aS (aL O (aL j.size ((p.trans h.2.2.1).trans j)));clear V p2 j O I;unfold Kz qV at*)
  |(go_at_call 257;refine CO.mono ?_;rintro e w3 l;have y:u.heap.size<=m1:=h.2.2.2;have z:u.heap.size<=m2:=(bV h.2.2.1.size n.1);have h0:=qa (b:=w.heap.size) Q.2.2.2.2.2 (aV _) A y z;have h1:=qa (b:=w.heap.size+1) Q.2.2.2.2.2 (mu _) C y z;have S5:=aS (aL (l.2.1.cell F.1 (aZ A (bV h.2.2.1.size n.2.1)) h0) (l.2.1.cell F.2 (aZ C (bV h.2.2.1.size n.2.1)) h1));have e3:=l.form;have q:=aS (aL l (aL y z));clear l y z h0 h1;subst e3))
 go_wp2;go_ret;refine⟨rfl,q.1.1,(Gb.new n.2.2).trans q.1.2.1 (λi e=> ?_)⟩;rcases e with e|e|e
 ·exact aQ e
 ·right;have:=p.size;have:=q.2.1;omega
 ·right;have:=p.size;have:=q.2.2;omega
def iY(P:Ex->List (aA×Et)->bM->Option (Sum Nat (bM×Nat)))(a w:lQE):List Ex->bM->Option (Sum Nat (bM×List Nat))
 |[],h=>some (.inr (h,[]))
 |e::b,h=>match qK P e a w h with
  |none=>none
  |some (.inl q)=>some (.inl q)
  |some (.inr x)=>match iY P a w b x.1 with
   |none=>none
   |some (.inl q)=>some (.inl q)
   |some (.inr y)=>some (.inr (y.1,x.2::y.2))
def nZ(h:bM)(L:aC):List aA->List Nat->Option (List (aA×Et))
 |n::e,c::cs=>match cI h L 130 c with
  |none=>none
  |some t=>match nZ h L e cs with
   |none=>none
   |some l=>some ((n,t)::l)
 |[],[]=>some []
 |_,_=>none
def rQ(P:Ex->List (aA×Et)->bM->Option (Sum Nat (bM×Nat)))(a:aD)(w:List Ex)(h e:lQE)(b:bM):Option (Sum Nat (bM×List (aA×Et))):=match iY P h e w b with
 |none=>none
 |some (.inl q)=>some (.inl q)
 |some (.inr x)=>match mV x.1 h with
  |none=>none
  |some L=>match nZ x.1 L a x.2 with
   |none=>none
   |some l=>some (.inr (x.1,l))
def qL(h:bM):List (aA×Et)->List (aA×Et)->Option Bool
 |a::e,b::w=>match lL h (h.rep.length+400) a.2 b.2 [] []with
  |none=>none
  |some none=>some false
  |some (some _)=>qL h e w
 |[],[]=>some true
 |_,_=>none
def l9(P:Ex->List (aA×Et)->bM->Option (Sum Nat (bM×Nat)))(a:aD)(e:List Ex)(w:lQE):Nat->List (aA×Et)->bM->Option (Sum Nat (bM×List (aA×Et)))
 |0,_,_=>some (.inl 5)
 |k+1,h,b=>match rQ P a e w h b with
  |none=>none
  |some (.inl q)=>some (.inl q)
  |some (.inr x)=>match qL x.1 h x.2 with
   |none=>none
   |some true=>some (.inr x)
   |some false=>l9 P a e w k x.2 x.1
def Eb(P:Ex->List (aA×Et)->bM->Option (Sum Nat (bM×Nat)))(a:Nat)(e:aD)(w:List Ex)(b:Ex)(h:lQE)(c:bM):Option (Sum Nat (bM×Nat)):=match l9 P e w h a (e.map λn=>(n,vT [97])) c with
 |none=>none
 |some (.inl q)=>some (.inl q)
 |some (.inr x)=>qK P b h x.2 x.1
theorem Va(w:World):Calls prog 236 #[] w λe x=>∃b,e= .returned (.agg #[.iface 309 (.pointer (some ⟨b,0,none⟩))])/\w.heap.size<=b/\x.heap[b]? =some (.cells #[.string (B [97])] 313 (0,0))/\w.grownBy x none:=by go_enter func236,ntmps236;go_wp2;have a:w.grownBy (w.alloc (.cells #[.iface 309 (.pointer (some ⟨w.heap.size+1,0,none⟩))] 174)) none:=aO _ _ _;have h:(w.alloc (.cells #[.iface 309 (.pointer (some ⟨w.heap.size+1,0,none⟩))] 174)).grownBy ((w.alloc (.cells #[.iface 309 (.pointer (some ⟨w.heap.size+1,0,none⟩))] 174)).alloc (.cells #[.string (B [97])] 313)) none:=aO _ _ _;have c:=cU ((h.block w.heap.size (by simp) (by simp)).trans (bY _ _)) 0 rfl;refine eN (v:= .agg #[.iface 309 (.pointer (some ⟨w.heap.size+1,0,none⟩))]) (by simp[results,results236,go_sem]) rfl ?_;exact⟨_,rfl,mu _,dC _ _ _ (by simp),a.trans h⟩
def Rh(e:aC)(w:World)(v:Value)(h:List NE):Prop:=∃g x,v= .slice (some ⟨g,0,none⟩) h.length x/\g<w.heap.size/\g∉e/\∀(j:Nat) (p:NE),h[j]? =some p->w.cell? ⟨g,j*2,none⟩=some (.string (B p.1))/\w.cell? ⟨g,j*2+1,none⟩=some p.v
theorem Ri{H N:aB}{lo:Nat}{g:aC}{l:bM}{d:aI}{va vb:Value}{t h:List NE}{c f:lQE}{r:Bool}(hs:∀k o,N k=some o->H k=some o)(h8:∀k o,N k=some o->k<lo)(hA:Rh g w va t)(hB:Rh g w vb h)(V:t.length=c.length)(W:h.length=f.length)(S:c.length=f.length)(hn:h.length<=1000)
  (ea:∀(i:Nat) (p:NE) q,t[i]? =some p->c[i]? =some q->∃m,fP 0 N g m p.v q.2) (eb:∀(i:Nat) (p:NE) q,h[i]? =some p->f[i]? =some q->∃m,fP lo H g m p.v q.2) (hr:qL l c f=some r) (hc:fY H g l d w):
  Calls prog 239 #[va,vb] w λe w'=>e= .returned (.bool r)/\fY H g l d w'/\Gb (dT g) w w':=by
 obtain⟨ga,e1,rfl,h4,e0,h0⟩:=hA;obtain⟨gb,e2,rfl,h5,h9,h1⟩:=hB;have Q:=aS (aL hs (aL h8 (aL ea (aL eb hc))));have O:=aS (aL h0 h1);have E:=aS (aL V (aL W S));have HR:=aS (show qL l (c.drop 0) (f.drop 0)=some r from hr);have Y:=aS (show t.length=h.length by rw[V,W,S]);clear hs h8 ea eb hc h0 h1 V W S hr;go_enter func239,ntmps239;go_wp2_with fail
 go_loopg [9] (h.length+1) (λgh i wi=>∃j:Nat,j<=h.length/\i= .int .i64 j/\gh=h.length-j+1/\Hid (qL l (c.drop j) (f.drop j)=some r)/\Hid (fY H g l d wi/\Gb (dT g) w wi))
 case atStart=>exact⟨0,by omega,rfl,by omega,HR,aS ⟨Q.2.2.2.2,Gb.refl _ _⟩⟩
 case round=>
  obtain⟨j,hj,rfl,e3,D,n⟩:=hrel;by_cases R:j<h.length
  ·have h7:j<t.length:=by rw[Y.out];exact R
   obtain⟨x,U⟩:∃x,t[j]? =some x:=⟨_,aP h7⟩;obtain⟨y,L⟩:∃y,h[j]? =some y:=⟨_,aP R⟩;have J:j<c.length:=by rw[<-E.1];exact h7
   have K:j<f.length:=by rw[<-E.2.1];exact R
   obtain⟨a,G⟩:∃a,c[j]? =some a:=⟨_,aP J⟩;obtain⟨b,I⟩:∃b,f[j]? =some b:=⟨_,aP K⟩
   have hd:c.drop j=a::c.drop (j+1):=by rw[cO J];rw[aP J]at G;rw[aY G]
   have h2:f.drop j=b::f.drop (j+1):=by rw[cO K];rw[aP K]at I;rw[aY I]
   have k1:wr.cell? ⟨ga,j*2+1,none⟩=some (.iface x.2.1 (.pointer (some ⟨x.2.2,0,none⟩))):=n.out.2.cell (O.1 j x U).2 h4 e0;have k2:wr.cell? ⟨gb,j*2,none⟩=some (.string (B y.1)):=n.out.2.cell (O.2 j y L).1 h5 h9;have k3:wr.cell? ⟨gb,j*2+1,none⟩=some (.iface y.2.1 (.pointer (some ⟨y.2.2,0,none⟩))):=n.out.2.cell (O.2 j y L).2 h5 h9;have l1:ga<wr.heap.size:=aZ h4 n.out.2.size;have s:=D.out;rw[hd,h2,qL]at s;have P:wr.grownBy (wr.alloc (.cells #[.string (B y.1), .iface y.2.1 (.pointer (some ⟨y.2.2,0,none⟩))] 403)).drew none:=cZ (aO _ _ _)
   cases F:lL l (l.rep.length+400) a.2 b.2 [] []with
   |none=>rw[F]at s;cases s
   |some rj=>
    rw[F]at s;have M:=aS (Ea Q.1 Q.2.1 (Q.2.2.1 j x a U G) (Q.2.2.2.1 j y b L I) F (n.out.1.grown0 P));have X:=aS (n.out.2.tr (Gb.new P));have Z:=aS s;clear U L G I hd h2 s F D P J K;unfold NE.v at M;go_wp2_with fail
    cases rj with
    |none=>
     have T:r=false:=(aY Z.out).symm;subst T
     go_region_with (go_at_call 248;refine M.mono ?_;rintro e w5 ⟨rfl,u,A⟩;have C:=aS (aL u (X.tr A));clear u A)
     all_goals go_wp2
     all_goals go_ret
     all_goals exact⟨rfl,C.1,C.2⟩
    |some z=>
     have J2:=aS (show qL l (c.drop (j+1)) (f.drop (j+1))=some r from Z.out)
     go_region_with (go_at_call 248;refine M.mono ?_;rintro e w5 ⟨rfl,u,A⟩;have C:=aS (aL u (X.tr A));clear u A)
     all_goals
      go_wp2_with fail
      go_roundg (h.length-(j+1)+1)
      case measure=>omega
      case rel=>exact⟨j+1,by omega,by go_num,rfl,J2,C⟩
  ·have h6:j=h.length:=by omega
   have T:r=true:=by have h3:=D.out;rw[h6,iW (by rw[<-E.1,Y.out];exact aV _),iW (by rw[<-E.2.1];exact aV _)]at h3;exact(aY h3).symm
   subst h6;subst T;clear D;go_wp2;go_ret;exact⟨rfl,n.out.1,n.out.2⟩
def TC.and(C:TC)(g:Nat):TC:={C with keep:=g::C.keep}
theorem TC.and_own{C:TC}{g k:Nat}(h:(C.and g).own k):C.own k:=⟨h.1,λe=>h.2 (bE _ e)⟩
theorem kD.keep{C:TC}{H:aB}{b:aC}{j:bM}{d:aI}{i:List NE}(h:kD C H b j d nb nv i w){g:Nat}(p:g<w.heap.size)(r:g≠C.tb)(o:g∉b)(q:nv.ownBlock≠some g):kD (C.and g) H b j d nb nv i w:=by
 have f:∀{k},k∉C.keep->k≠g->k∉(C.and g).keep:=λl m n=>by
  rcases bH.1 n with e|e
  ·exact m e
  ·exact l e
 exact⟨h.ms,h.nr,h.env,h.mlo,⟨h.tlo.1,f h.tlo.2 (kU r)⟩,λa c=>⟨(h.clo a c).1,f (h.clo a c).2 (λe=>o (e▸c))⟩,λk x=>by
  rcases bH.1 x with e|e
  ·rw[e];exact p
  ·exact h.kp k e,λk x=>f (h.nko k x) (λe=>q (e▸x))⟩
theorem kD.unkeep{C:TC}{H:aB}{b:aC}{f:bM}{d:aI}{c:List NE}{g:Nat}(h:kD (C.and g) H b f d nb nv c w):kD C H b f d nb nv c w:=
 ⟨h.ms,h.nr,h.env,h.mlo,TC.and_own h.tlo,λa i=>TC.and_own (h.clo a i),λk x=>h.kp k (bE _ x),λk x e=>h.nko k x (bE _ e)⟩
theorem kD.apart{C:TC}{H:aB}{x:aC}{c:bM}{d:aI}{b:List NE}{g:Nat}(h:kD (C.and g) H x c d nb nv b w):g∉x/\nv.ownBlock≠some g:=
 ⟨λa=>(h.clo g a).2 (bG ..),λe=>h.nko g e (bG ..)⟩
theorem Ec{C:TC}{g:Nat}(h:Gb (C.and g).own w w'):Gb C.own w w':=h.mono λ_ e=>TC.and_own e
structure ke(H:aB)(ca:aC)(g:Nat)(nws:List NE)(ahead:lQE):Prop where
 row:∃cur,H g=some (.cells cur 403 (0,0))/\cur.toList.take (nws.length*2)=gP nws
 len:nws.length=ahead.length
 is:∀(i:Nat) (p:NE) q,nws[i]? =some p->ahead[i]? =some q->p.1=q.1/\ER H ca p.v q.2
theorem ke.mx{H e:aB}{b c:aC}{g:Nat}{j:List NE}{a:lQE}(h:ke H b g j a)(x:MX H e b c w):ke e c g j a:=by obtain⟨k,l,m⟩:=h.row;exact⟨⟨k,x.ext _ _ l,m⟩,h.len,λi p q d f=>⟨(h.is i p q d f).1,x.er (h.is i p q d f).2⟩⟩
theorem ke.cells{H:aB}{i:aC}{g:Nat}{x:List NE}{f:lQE}(h:ke H i g x f)(d:Fz H w):∀j u,(gP x)[j]? =some u->w.cell? ((⟨g,0,none⟩:Addr).add j)=some u:=λj u e=>by
 obtain⟨k,c,l⟩:=h.row;have m:j<x.length*2:=by rw[<-vN];exact(aU.1 e).1
 rw[<-l,iC m]at e;have a:k[j]? =some u:=by simpa using e
 by_cases b:j=0
 ·subst b;simp[Addr.add,World.cell?,d _ _ c,a]
 ·simp[Addr.add,b,World.cell?,d _ _ c,a]
def Ou(C:TC)(H:aB)(j:aC)(l:lQE)(f:World)(n:bM)(a:aC)(fv:Value)(w:World):Prop:=
 ∃(e:aB) (h:aC) (k:aI) (d:Value) (m:List NE) (b:aC),kD C e h n k l d m w/\MX H e j h f/\Gb C.own f w/\b.length=a.length/\(∀(i c x:Nat),a[i]? =some c->b[i]? =some x->h[c]? =some x)/\w.ownsRow C.base 265 1 fv a.length (b.map CP)/\∀g,fv.ownBlock=some g->e g=none/\g∉h/\g≠C.tb/\d.ownBlock≠some g/\g∉C.keep
def Zj(C:TC)(H:aB)(j:aC)(l:lQE)(f:World)(n:bM)(a:aC)(fv:Value)(c x:Nat)(w:World):Prop:=
 ∃(e:aB) (h:aC) (k:aI) (d:Value) (m:List NE) (b:aC),kD C e h n k l d m w/\MX H e j h f/\Gb C.own f w/\b.length=a.length/\(∀(i c x:Nat),a[i]? =some c->b[i]? =some x->h[c]? =some x)/\w.ownsRow C.base 265 1 fv a.length (b.map CP)/\(∀g,fv.ownBlock=some g->e g=none/\g∉h/\g≠C.tb/\d.ownBlock≠some g/\g∉C.keep)/\h[c]? =some x
def FSP(C:TC)(a:aF)(H:aB)(b:aC)(d:lQE)(h:World)(c:aC)(fv:Value)(r:Sum Nat (bM×Nat))(e:Ending)(w:World):Prop:=match r with
 | .inl q=>e=oF (a q)/\Gb C.own h w
 | .inr y=>∃x,e= .returned (CP x)/\Zj C H b d h y.1 c fv y.2 x w
theorem Rj(v:Value):v.ownBlock=none\/∃g,v.ownBlock=some g:=by
 cases v.ownBlock with
 |none=>exact aQ rfl
 |some g=>exact aM ⟨g,rfl⟩
theorem QW{C:TC}{E:aF}{P:Ex->List (aA×Et)->bM->Option (Sum Nat (bM×Nat))}(X:∀K,ET {C with keep:=K} E P){H:aB}{G:aC}{F:lQE}{A:World}{σ:bM}{U:aC}{fv:Value}{V capA:Nat}{Q:List NE}{v:Value}{m:Nat}{e:Ex}{r:Sum Nat (bM×Nat)}
  (h:Ou C H G nb A σ U fv w) (hA:ke H G V Q F) (W:0<Q.length) (hp:dI m H v e) (n:qK P e nb F σ=some r) (h4:rP C.base E A) (g:w.grownBy w1 none):
  Calls prog 208 #[CP C.tb,v, .slice (some ⟨V,0,none⟩) Q.length capA] w1 (FSP C E H G nb A U fv r):=by
 obtain⟨H',h7,d',h8,h9,xs,t,o,gb,lx,hx,h1,h5⟩:=h;unfold qK at n;split at n
 case isFalse=>cases n
 rename_i a;have s:=t.grown g;have f:=hA.mx o;have b:Gb C.own A w1:=gb.tr (Gb.new g);have Y:=h4.gb b;have h3:=iX h1 (Gb.new g (R:=λ_=>False)) (λ_ _=>id);have Z:nb.length+F.length<=1000:=a;rcases Rj fv with hn|⟨q,p⟩
 ·refine(uU (capm:=capA) (X C.keep) (o.prep hp) n Y s f.len W Z (f.cells s.ms.cs.fz) f.is).mono ?_;intro e w2 d
  cases r with
  |inl z=>exact⟨d.1,b.tr d.2⟩
  |inr y=>obtain⟨D,I,J,x,O,S,rfl,N,u,j,l⟩:=d;refine⟨x,rfl,D,I,J,O,S,xs,u,o.trans (j.low (aV _)) (b.size),b.tr l,lx,λi c y L M=>jD j.pre (hx i c y L M),iX h3 l (λk a=>by rw[hn]at a;cases a),(λk a=>by rw[hn]at a;cases a),N⟩
 ·obtain⟨o1,o2,o3,o4,o5⟩:=h5 q p;have lq:q<w1.heap.size:=aZ (h1.lt q p).2 g.size;have h6:=s.keep lq o3 o2 o4;refine(uU (C:=C.and q) (capm:=capA) (X (q::C.keep)) (o.prep hp) n Y h6 f.len W Z (f.cells s.ms.cs.fz) f.is).mono ?_;intro e w2 d
  cases r with
  |inl z=>exact⟨d.1,b.tr (Ec d.2)⟩
  |inr y=>
   obtain⟨D,I,J,x,O,S,rfl,N,u,j,l⟩:=d;have T:=u.apart;refine⟨x,rfl,D,I,J,O,S,xs,u.unkeep,o.trans (j.low (aV _)) (b.size),b.tr (Ec l),lx,λi c y L M=>jD j.pre (hx i c y L M),iX h3 l (λk a=> ?_),λk a=> ?_,N⟩
   ·rw[p]at a;cases a;exactλe=>e.2 (bG ..)
   ·rw[p]at a;cases a;exact⟨j.none lq o1,T.1,o3,T.2,o5⟩
theorem kD.side{C:TC}{H:aB}{x:aC}{f:bM}{d:aI}{c:List NE}{R:Nat->Prop}(h:kD C H x f d nb nv c w)(g:Gb R w w')(hR:∀q,R q->H q=none/\q∉x/\q≠C.tb/\nv.ownBlock≠some q/\C.base<=q):kD C H x f d nb nv c w':=
 ⟨⟨h.ms.cs.gb g (λa j e=>(hR a e).2.1 j) (λk o e i=>by rw[(hR k i).1]at e;cases e),h.ms.bk.gb g (λe=>(hR _ e).2.2.1 rfl),h.ms.ht,h.ms.hta⟩,h.nr.step (MX.refl _ _ _) g (λk b e=>(hR k e).2.2.2.1 b),h.env.step (MX.refl _ _ _) g (λe=>by have:=(hR _ e).2.2.2.2;have:=h.mlo;omega),h.mlo,h.tlo,h.clo,λk b=>aZ (h.kp k b) g.size,h.nko⟩
theorem UF{C:TC}{H:aB}{A:aC}{J m:World}{K:bM}{a:aC}{fv:Value}{c x:Nat}(h:Zj C H A nb J K a fv c x w)(r:w.grownBy m none):
  ∃p:List Nat,m.ownsRow C.base 265 1 fv a.length (p.map CP)/\C.base<=m.heap.size/\∀g v o,o.ownsRow C.base 265 1 (.slice (some ⟨g,0,none⟩) (a.length+1) v) (a.length+1) (p.map CP++[CP x])->m.grownBy o fv.ownBlock->(fv.ownBlock=some g\/g=m.heap.size)->Ou C H A nb J K (a++[c]) (.slice (some ⟨g,0,none⟩) (a.length+1) v) o:=by
 obtain⟨z,D,M,F,Z,p,t,X,P,u,V,G,l,O⟩:=h;have row2:=iX G (Gb.new r (R:=λ_=>False)) (λ_ _=>id);have I:=t.grown r;refine⟨p,row2,I.bs,λg v o U S Q=> ?_⟩;have gR:Gb (λk=>fv.ownBlock=some k) m o:=Gb.of S (λb e=>aQ e);have hR:∀q,fv.ownBlock=some q->z q=none/\q∉D/\q≠C.tb/\F.ownBlock≠some q/\C.base<=q:=λq j=>⟨(l q j).1,(l q j).2.1,(l q j).2.2.1,(l q j).2.2.2.1,(G.lt q j).1⟩;have Y:=I.side gR hR;refine⟨z,D,M,F,Z,p++[x],Y,X,(P.tr (Gb.new r)).tr (gR.mono λk s=>⟨(hR k s).2.2.2.2,(l k s).2.2.2.2⟩),by simp[u],λi L y f d=> ?_, ?_,λq j=> ?_⟩
 ·rcases bZ i a.length with n|n
  ·rw[bJ n]at f;rw[bJ (by rw[u];exact n)]at d;exact V i L y f d
  ·rw[cD n]at f;rw[cD (by rw[u];exact n),u]at d
   match E:i-a.length with
   |0=>rw[E]at f d;cases f;cases d;exact O
   |k+1=>rw[E]at f;simp at f
 ·rw[bD,eR];exact U
 ·have N:g=q:=by simpa[Value.ownBlock]using j
  subst N;rcases Q with e|e
  ·exact l g e
  ·have W:w.heap.size<=g:=by rw[e];exact r.size
   exact⟨t.ms.cs.fz.none W,λT=>by have:=dT.lt t.ms.cs T;omega,λd=>by have:=t.ms.bk.lt;omega,λd=>by have:=(t.nr.own.lt g d).2;omega,λs=>by have:=t.kp g s;omega⟩
theorem Ou.start{C:TC}{H:aB}{x:aC}{b:bM}{d:aI}{a:List NE}(h:kD C H x b d nb nv a w):Ou C H x nb w b [] (.slice none 0 0) w:=
 ⟨H,x,d,nv,a,[],h,MX.refl _ _ _,Gb.refl _ _,rfl,λ_ _ _ e=>by simp at e,lE _ _ _ _,λ_ e=>by cases e⟩
theorem qb:∀(e:aD) (w:aH) (j:Nat) (n:aA) (u:Value),e[j]? =some n->w[j]? =some u->(iE e w)[j*2]? =some (.string (B n))/\(iE e w)[j*2+1]? =some u
 |n::e,u::w,0,_,_,x,a=>by cases x;cases a;exact⟨rfl,rfl⟩
 |n::e,u::w,j+1,b,c,x,a=>by have h:=qb e w j b c (by simpa using x) (by simpa using a);rw[show(j+1)*2=j*2+1+1 by omega];exact⟨by simpa[iE]using h.1,by simpa[iE]using h.2⟩
 |[],_,_,_,_,x,_=>by simp at x
 |_::_,[],_,_,_,_,a=>by simp at a
theorem IX{H:aB}{g:Nat}{h:Array Value}{x:aD}{a:aH}(d:Fz H w)(c:H g=some (.cells h 203 (0,0)))(l:h.toList.take (x.length*2)=iE x a){j:Nat}{n:aA}{u:Value}(b:x[j]? =some n)(k:a[j]? =some u):w.cell? ⟨g,j*2,none⟩=some (.string (B n))/\w.cell? ⟨g,j*2+1,none⟩=some u:=by
 have m:=(aU.1 b).1;have e:=qb x a j n u b k;rw[<-l]at e;rw[iC (by omega),iC (by omega)]at e;have f:h[j*2]? =some (.string (B n)):=by simpa using e.1
 have i:h[j*2+1]? =some u:=by simpa using e.2
 exact⟨by simp[World.cell?,d _ _ c,f],by simp[World.cell?,d _ _ c,i]⟩
end Go.Proofs.YtcdijppegfcoaaaGreatDoor
