import Derived.Test.YtcdijppegfcoaaaGreatDoorZH30
import Derived.Test.YtcdijppegfcoaaaGreatDoorZH35
set_option maxRecDepth 100000
set_option maxHeartbeats 4000000
set_option linter.unusedSimpArgs false
namespace Go.Proofs.YtcdijppegfcoaaaGreatDoor
open Go.RowKit Tryz
variable{w:World}
def mV(h:bM)(e:lQE):Option (List Nat):=kE (uZ h (h.rep.length+400)) (e.map (·.2)) []
theorem Dt(w:World):(Instr.makeMap 336 none).run prog w= .ok (.map (some w.heap.size)) (w.alloc (.map #[] 0)):=by kernel_rfl
def Zi(C:TC)(H:aB)(h:aC)(g:bM)(d:aI)(b:lQE)(c:Value)(f:List NE)(L:aC)(w:World)(e:Ending)(a:World):Prop:=
 ∃x,e= .returned (.map (some x))/\x∉h/\pk a x L/\kD C H h g d b c f a/\Gb (dT h) w a
theorem KG{C:TC}{H:aB}{f:aC}{c:bM}{d:aI}{g:lQE}{D:Value}{x:List NE}{L:aC}(h:kD C H f c d g D x w)(A:mV c g=some L):
  Calls prog 235 #[CP C.tb] w (Zi C H f c d g D x L w):=by
 unfold mV at A;obtain⟨F,X⟩:∃F,F=c.rep.length+400:=⟨_,rfl⟩;rw[<-X]at A;clear X;obtain⟨a,e4,G⟩:=h.nr.slice;have Y:=h.nr.nis;have c4:w.cell? ⟨C.tb,4,none⟩=some D:=by have:=h.ms.bk;unfold TB TC.r at this;simp[World.cell?,this]
 have hf:=h.nr.few;have h8:=h.nr.len;have e8:=h.ms.bk.lt;have e0:H w.heap.size=none:=h.ms.cs.fz.none (aV _);have h5:w.heap.size∉f:=λhm=>by have:=dT.lt h.ms.cs hm;omega
 have e7:=Dt w;have J:w.grownBy (w.alloc (.map #[] 0)) none:=aO _ _ _;have h0:fY H f c d (w.alloc (.map #[] 0)):=h.ms.cs.grown0 J;have h7:pk (w.alloc (.map #[] 0)) w.heap.size []:=GM.new;have hn:x.length<=1000:=by omega
 have Q:=aS (aL h (aL J (aL h0 h7)));have HI:=aS Y;have HR:=aS (show kE (uZ c F) ((g.map (·.2)).drop 0) []=some L from A);have HE:=aS G;rw[G]at c4;clear h A Y J h0 h7 hf h8 G;unfold CP;go_enter func235,ntmps235;go_wp2_with fail
 go_loopg [12] (x.length+1) (λgh i P=>∃(j:Nat) (m:aC),j<=x.length/\i= .int .i64 j/\gh=x.length-j+1/\Hid (kE (uZ c F) ((g.map (·.2)).drop j) m=some L)/\Hid ((fY H f c d P/\pk P w.heap.size m/\Qw c m)/\Gb (λk=>dT f k\/k=w.heap.size) (w.alloc (.map #[] 0)) P))
 case atStart=>exact⟨0,_,by omega,rfl,by omega,HR,aS ⟨⟨Q.2.2.1,Q.2.2.2,λn hn=>by cases hn⟩,Gb.refl _ _⟩⟩
 case round=>
  obtain⟨j,m,hj,rfl,e6,t,l⟩:=hrel;by_cases s:j<x.length
  ·rcases HI.out with⟨_,e⟩|⟨b,e5,e,K,hc⟩
   ·rw[e]at s;simp at s
   have eo:a=some ⟨b,0,none⟩:=by have e3:=HE.symm.trans e;injection e3
   subst eo;obtain⟨p,N⟩:∃p,x[j]? =some p:=⟨_,aP s⟩;obtain⟨q,O⟩:∃q,g[j]? =some q:=⟨_,aP (by rw[<-Q.1.nr.len];exact s)⟩;have Z:NE.at x j=p:=by unfold NE.at;rw[N];rfl
   have h6:=Q.1.nr.off b (by rw[e];rfl);have M:=l.out.2;have e2:(w.alloc (.map #[] 0)).heap.size=w.heap.size+1:=by simp
   have nR:¬(dT f b\/b=w.heap.size):=λe=>e.elim (λe=>h6.2.1 e) (λe=>by omega);have y:=hc j s;rw[Z]at y;have d1:wr.cell? ⟨b,j*2,none⟩=some (.string (B p.1)):=M.cell ((Gb.new Q.2.1 (R:=λ_=>False)).cell y.1 K id) (by omega) nR;have d2:wr.cell? ⟨b,j*2+1,none⟩=some (.iface p.2.1 (.pointer (some ⟨p.2.2,0,none⟩))):=M.cell ((Gb.new Q.2.1 (R:=λ_=>False)).cell y.2 K id) (by omega) nR;have h1:ER H f (.iface p.2.1 (.pointer (some ⟨p.2.2,0,none⟩))) q.2:=(Q.1.nr.is j p q N O).2;have h4:j<(g.map (·.2)).length:=by rw[fM,<-Q.1.nr.len];exact s
   have hd:(g.map (·.2)).drop j=q.2::(g.map (·.2)).drop (j+1):=by rw[cO h4];congr 1;rw[List.getElem_map];have:=aU.1 O;obtain⟨_,h9⟩:=this;rw[h9]
   have o:=t.out;rw[hd,kE]at o
   cases u:uZ c F q.2 m with
   |none=>rw[u]at o;cases o
   |some E=>
    rw[u]at o;have J2:=aS (show kE (uZ c F) ((g.map (·.2)).drop (j+1)) E=some L from o);have T:=aS (aL h1 u);clear N O Z h6 M e2 nR y h1 h4 hd o u t hc e K;have v:wr.grownBy (wr.alloc (.cells #[.string (B p.1), .iface p.2.1 (.pointer (some ⟨p.2.2,0,none⟩))] 403)) none:=aO _ _ _;have S:=aS (xi e0 h5 F q.2 _ m E (wr.alloc (.cells #[.string (B p.1), .iface p.2.1 (.pointer (some ⟨p.2.2,0,none⟩))] 403)) T.1 T.2 (l.out.1.1.grown0 v) (GM.gb l.out.1.2.1 (R:=λ_=>False) (Gb.new v) id) l.out.1.2.2);have GN:=aS (show Gb (λk=>dT f k\/k=w.heap.size) (w.alloc (.map #[] 0)) _ from l.out.2.tr (Gb.new v));clear v;go_wp2_with fail;refine S.mono ?_;rintro e w5 ⟨⟨z,rfl⟩,U,f5,o5,V⟩;have G5:=aS (aL (aL U (aL f5 o5)) (GN.tr V));clear U f5 o5 V S;go_wp2_with fail
    go_roundg (x.length-(j+1)+1)
    case measure=>omega
    case rel=>exact⟨j+1,E,by omega,by go_num,rfl,J2,G5⟩
  ·have h2:j=x.length:=by omega
   have hR:m=L:=by have W:=t.out;rw[h2,iW (by rw[fM,<-Q.1.nr.len];exact aV _)]at W;exact aY W
   have I:Gb (dT f) w wr:=(Gb.new Q.2.1).trans l.out.2 (λi e=>e.elim aQ (λe=>aM (by omega)));have Q9:=aS (show Zi C H f c d g D x L w (.returned (.map (some w.heap.size))) wr from⟨_,rfl,h5,by rw[<-hR];exact l.out.1.2.1,Q.1.cs l.out.1.1 I,I⟩);subst h2;clear t hR I;go_wp2;go_ret;exact Q9.out
theorem ZR(h:Nat)(f:Value)(w:World):Calls prog 124 #[.iface 191 (.pointer (some ⟨h,0,none⟩)),f] w λe x=>e= .returned (.pointer none)/\x=w:=by have a:=N4 h;have b:=fd h;have c:=zx h;have d:=fe h;have g:=JG h;have i:=XQ h;have j:=VA h;go_enter func124,ntmps124;go_wp2;go_ret;exact⟨rfl,rfl⟩
theorem Kx(w:World):(binOp .eql 186 (.pointer none) (.pointer none)).run prog w= .ok (.bool true) w:=by kernel_rfl
theorem pr(s:ByteArray)(g:Nat)(c:Int)(w:World)(t:ByteArray)(P:Value->World->Prop)
  (h:Calls prog 61 #[.string s, .map (some g), .int .i64 c, .nilFunc] w λe x=>w.grownBy x none/\∃v,e= .returned (.tuple #[.string t,v])/\P v x):
  Calls prog 52 #[.string s, .map (some g), .int .i64 c] w λe x=>w.grownBy x none/\∃v,e= .returned (.tuple #[.string t,v])/\P v x:=by
 have b:=aS h;clear h;go_enter func52,ntmps52;go_wp2_with fail;refine b.mono ?_;rintro e i ⟨d,v,rfl,f⟩;have a:=aS (aL d f);clear d f b;go_wp2
 go_ret2
 exact⟨a.1,v,rfl,a.2⟩
theorem jx(s:ByteArray)(f:300<s.size)(g:Nat)(d:Int)(w:World)(x:aF)(c:aE)(i:aG)(S:SW w x c i):
  Calls prog 61 #[.string s, .map (some g), .int .i64 d, .nilFunc] w λe j=>w.grownBy j none/\∃v,e= .returned (.tuple #[.string (B []),v])/\v=eQ (x 0):=by
 have h:=aS (PQ s f w (x 0) S.g0 (aZ (by decide) S.hsz));clear S;unfold eQ at h⊢;go_enter func61,ntmps61;go_wp2_with fail;refine h.mono ?_;rintro e k ⟨rfl,a⟩;have b:=aS a;clear a h;go_wp2
 go_ret2
 exact⟨b.out,_,rfl,rfl⟩
theorem FM.len{e:Nat}{b:aD}{g:aK}(h:FM w e b g):(Builtin.len_ #[93] 3 #[.map (some e)]).run prog w= .ok (.int .i64 ((g.filter Option.isSome).length:Nat)) w:=by obtain⟨D,x,a,_⟩:=h;rw[<-a];exact x.len (t:=93) underlying93 _
theorem Ky(k:aA)(m:k.length<=300)(f:upto mS k 0=0)(g:mD k 0=2)(j:kQ k 0=k)(w:World):
  Calls prog 123 #[.string (B k)] w λe d=>e= .returned (.bool (!decide (k∈dL)))/\w.grownBy d none:=by
 have h:=aS (FX (B k) 0 (dG _) (by rw[dY];omega) w);have i:(B k).data.toList=k:=rfl;rw[i,f,g,j]at h;clear f g j i;unfold VF at h
 cases b:decide (k∈dL)with
 |false=>have x:=aS (vC k);rw[b]at x;clear b;go_enter func123,ntmps123;go_wp2_with fail;refine h.mono ?_;rintro e l ⟨rfl,a⟩;have c:=aS a;clear a h;go_wp2_with fail;refine(x.out _).mono ?_;rintro e d ⟨rfl,rfl⟩;go_wp2;go_ret;exact⟨rfl,c.trans (aO _ _ _)⟩
 |true=>have x:=aS (vC k);rw[b]at x;clear b;go_enter func123,ntmps123;go_wp2_with fail;refine h.mono ?_;rintro e l ⟨rfl,a⟩;have c:=aS a;clear a h;go_wp2_with fail;refine(x.out _).mono ?_;rintro e d ⟨rfl,rfl⟩;go_wp2;go_ret;exact⟨rfl,c.trans (aO _ _ _)⟩
def f5(a b:Int)(s:ByteArray)(c d:Int):Value:= .agg #[.int .i64 a, .int .i64 b, .string s, .int .i64 c, .int .i64 d]
theorem FM.gn{a:World}{e:Nat}{x:aD}{g:aK}(h:FM w e x g)(b:Gn w a):FM a e x g:=h.same (b.block e h.lt)
theorem Du(s:ByteArray)(S:Int)(h f:aD)(z A:Value)(t:aA)(a b:Int)(M:ByteArray)(c d:Int)(w:World)(H:EU w z h)(J:EU w A f)(j:f.length=h.length)(V:h.length<=1000)(G:h.Nodup)(I:∀i,i<h.length->(h.getD i []).length<=300)(K:∀i,i<f.length->(f.getD i []).length<=1000000)
  (CI:∀W Y,w.grownBy W none->FM W Y h (f.map some)->Calls prog 52 #[.string s, .map (some Y), .int .i64 S] W λe k=>W.grownBy k none/\∃v,e= .returned (.tuple #[.string (B t),v])/\(v= .nilIface\/∃p q,v= .iface p (.pointer (some q)))/\Calls prog 37 #[v] k λe h0=>e= .returned (f5 a b M c d)/\Gn k h0):
  Calls prog 26 #[.string s,z,A, .int .i64 S] w λe k=>Gn w k/\∃r,e= .returned (.tuple #[.string (B t),f5 a b M c d, .bool r]):=by
 have n:w.grownBy (w.alloc (.cells #[.int .i64 0, .int .i64 0, .string (B []), .int .i64 0, .int .i64 0] 23)) none:=aO _ _ _;have C:=aS (On h f _ z A (H.gn (Gn.of n)) (J.gn (Gn.of n)) j V G I K);have P:=aS (λ(W:World) (T:Gn w W)=>On h f W z A (H.gn T) (J.gn T) j V G I K);have O:=aS CI;have G0:=aS n;obtain⟨an,cn,rfl,-⟩:=H;obtain⟨h2,ct,rfl,-⟩:=J;clear CI n G I K;rw[j];rw[j]at C P;have h1:=aS j;clear j;go_enter func26,ntmps26;go_wp2_with fail;refine C.mono ?_;rintro e w1 ⟨D,rfl,F⟩;have R:(w.alloc (.cells #[.int .i64 0, .int .i64 0, .string (B []), .int .i64 0, .int .i64 0] 23)).heap.size=w.heap.size+1:=by simp
 rw[R]at F⊢;clear R;have x:=aS (aL (G0.trans D) (aL F D));clear D F C;go_wp2_with fail;refine(O.out _ _ x.1 x.2.1).mono ?_;rintro e w2 ⟨o,v,rfl,hv,X⟩
 have L:w2.heap[w.heap.size]? =some (.cells #[.int .i64 0, .int .i64 0, .string (B []), .int .i64 0, .int .i64 0] 23 (0,0)):=by rw[o.block _ (by have:=x.2.2.size;simp at this;omega) (by simp),x.2.2.block _ (by simp) (by simp)];exact bY _ _
 have l0:=aT L;have l:=aS (aL (x.1.trans o) (aL (x.2.1.kept o (by simp)) L));have Q:=aS X;clear o X L x O;rcases hv with rfl|⟨p,q,rfl⟩
 all_goals
  go_wp2_with fail;refine Q.mono ?_;rintro e w3 ⟨rfl,u⟩;have g:=aS (aL ((Gn.of l.1).trans u) (aL (l.2.1.gn u) ((u.block _ l0).trans l.2.2)));clear u Q l;unfold f5;go_wp2_with fail;refine(P.out _ g.1).mono ?_;rintro e w4 ⟨y,rfl,U⟩;have N:=aS (Kw (w.heap.size+1) w3.heap.size h h _ _ w4 (g.2.1.kept y (by simp)) U);have l3:=aT g.2.2;have m:=aS (aL (g.1.trans (Gn.of y)) ((y.block _ l3 (by simp)).trans g.2.2));clear y U g;go_wp2_with fail;refine N.mono ?_;rintro e w5 ⟨⟨r,rfl⟩,E⟩;have Z:w5.heap[w.heap.size]? =some (.cells #[.int .i64 0, .int .i64 0, .string (B []), .int .i64 0, .int .i64 0] 23 (0,0)):=(E.block _ (aT m.2) (by simp)).trans m.2;have G5:=aS (m.1.trans (Gn.of E));obtain⟨⟨q0,q1,q2,q3,q4⟩,f0,f1,f2,f3,f4⟩:=eG Z;clear E Z m N;go_wp2;refine eN (v:= .tuple #[.string (B t),f5 a b M c d, .bool (!r)]) (by simp[results,results26,go_sem,q0,q1,q2,q3,q4];rfl) rfl ?_;exact⟨G5.set5 (aV _) _ _ _ _ _,_,rfl⟩
end Go.Proofs.YtcdijppegfcoaaaGreatDoor
