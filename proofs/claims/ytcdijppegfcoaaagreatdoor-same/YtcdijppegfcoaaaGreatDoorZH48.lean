import Derived.Test.YtcdijppegfcoaaaGreatDoorZH41
import Derived.Test.YtcdijppegfcoaaaGreatDoorZH42
set_option maxRecDepth 100000
set_option maxHeartbeats 4000000
set_option linter.unusedSimpArgs false
namespace Go.Proofs.YtcdijppegfcoaaaGreatDoor
open Go.RowKit Tryz
variable{w:World}{s:aA}
theorem yi(w:World)(L:aF)(M:aE)(X:aG)(S:SW w L M X)(b:Nat)(p:Int)(g:ByteArray)(u:w.heap[b]? =some (.cells #[.int .i64 p, .string g] 148 (0,0))):
  Calls prog 37 #[.iface 135 (.pointer (some ⟨b,0,none⟩))] w λe Y=>e= .returned (f5 4 p g 0 0)/\w.grownBy Y none:=by
 obtain⟨d,f,a,J⟩:=rU w;have N:=aT u;have i:=aS (S.grown (mF w));have q:=aS (kg (w.heap.size+3) ⟨b,0,none⟩ (oD w) (aT J) i.hE (aZ (by decide) i.hsz));have c:=aS (aL d (aL f a));have K:=aS u;clear S u d f a J;unfold oD at q;go_enter func37,ntmps37;go_wp2_with fail;refine q.mono ?_;rintro e A ⟨rfl,G⟩;have l:(oD w).grownBy A none:=G;have j:=aS (i.grown l)
 have f:A.heap[w.heap.size+1]? =some (.cells #[.pointer none] 134 (0,0)):=by rw[l.block _ (aT c.2.1) (by simp)];exact c.2.1
 have C:=aS (kh (w.heap.size+1) ⟨b,0,none⟩ A (aT f) j.hE (aZ (by decide) j.hsz));have E:=aS l;clear G l q i f;go_wp2_with fail;refine C.mono ?_;rintro e n ⟨rfl,t⟩;have m:=E.trans t;have s:=aS (j.grown t)
 have a:n.heap[w.heap.size+2]? =some (.cells #[.pointer none] 135 (0,0)):=by rw[m.block _ (aT c.2.2) (by simp)];exact c.2.2
 have d:n.heap[w.heap.size]? =some (.cells #[.int .i64 0, .int .i64 0, .string (B []), .int .i64 0, .int .i64 0] 23 (0,0)):=by rw[m.block _ (aT c.1) (by simp)];exact c.1
 have D:=aS (ki (w.heap.size+2) ⟨b,0,none⟩ (.pointer none) n (YX a).1 (YX a).2 (aT a) s.hE (aZ (by decide) s.hsz));have x:=aS ((mF w).trans m)
 have y:n.heap[b]? =some (.cells #[.int .i64 p, .string g] 148 (0,0)):=by rw[x.block _ N (by simp)];exact K.out
 have P:=aT d;have Q:=aT y;clear t m C j s E;go_wp2_with fail;refine D.mono ?_;rintro e o ⟨rfl,F,h⟩
 have I:o.heap[w.heap.size]? =some (.cells #[.int .i64 0, .int .i64 0, .string (B []), .int .i64 0, .int .i64 0] 23 (0,0)):=by rw[h.block _ P (by simp)];exact d
 have z:o.heap[b]? =some (.cells #[.int .i64 p, .string g] 148 (0,0)):=by rw[h.block _ Q (by simp;omega)];exact y
 have d7:=cU z 0 rfl;have d8:=cU z 1 rfl;obtain⟨⟨R,T,U,V,W⟩,f0,f1,f2,f3,f4⟩:=eG I
 have r:Hid (w.grownBy o none):=⟨h.os.trans x.os,h.tape.trans x.tape,h.output.trans x.output,bV x.size h.size,λk H O=>by
  rw[h.block k (aZ H x.size) (by simp;omega)]
  exact x.block k H O⟩
 have Z:o.cell? ⟨w.heap.size+1+1,0,none⟩=some (.pointer (some ⟨b,0,none⟩)):=F;clear h I z d a y D F;go_wp2_with fail
 go_region
 go_wp2;refine eN (v:=f5 4 p g 0 0) (by simp[results,results37,go_sem,R,T,U,V,W];rfl) rfl ?_
 first
  |exact⟨rfl,BS (cZ r.out) (aV _) _ _ _ _ _⟩
  |exact⟨rfl,BS r.out (aV _) _ _ _ _ _⟩
  |exact⟨rfl,cZ (BS r.out (aV _) _ _ _ _ _)⟩
theorem yj{base n:Nat}{v:Value}{c:aD}(h:w.ownsRow base 9 1 v n (pS c))(r:0<n):∃g b e,v= .slice (some ⟨g,0,none⟩) n b/\w.heap[g]? =some (.cells e 9 (0,0))/\∀(j:Nat) x,c[j]? =some x->e[j]? =some (.string (B x)):=by
 obtain⟨s,k⟩:=h;rcases k with⟨_,t⟩|⟨g,b,e,d,m,f,o,p,q,i⟩
 ·omega
 ·refine⟨g,b,e,d,f,λj x l=> ?_⟩;have a:(pS c)[j]? =some (.string (B x)):=by simp[pS,l]
  rw[<-i,gD]at a;split at a
  ·simpa using a
  ·cases a
theorem Fj{H:aB}{M b m m2 gB e4:Nat}{ge:lQE}{l:List (List aA)}{kv e5 u:Value}{h:aD}{E:aH}{f:List Ex}{A:Ex}{r:UR}{P:Ex->List (List aA)->Option UR}(hP:ZZ H M ge P)(hb:H b=some (.cells #[e5, .slice (some ⟨gB,0,none⟩) h.length e4,u] 210 (0,0)))(U:Iq w gB h E)(le:f.length=h.length)(h7:∀(i:Nat) (u:Value) (e:Ex),E[i]? =some u->f[i]? =some e->dI m H u e)(X:dI m2 H u A)(h0:0<h.length)(hn:h.length<=300)(hr:ZY P (f++[A]) (h::l)=some r)(Z:Fz H w)(hg:NS H w M ge)(W:KF M w l kv):
  Calls prog 169 #[.pointer (some ⟨b,0,none⟩),kv] w (IY H r w):=by
 have x2:=U.1;have G:=Z _ _ hb;have k1:=cU G 1 rfl;have k2:=cU G 2 rfl;have h4:=aT G;have pn:=kf;have x3:=WQ;obtain⟨i0,hi,e9,w0,w1⟩:=oR P9;obtain⟨Tb,bb,rfl⟩:=X.val;have Q:=aS (aL hP (aL U (aL h7 (aL X (aL Z (aL hg (aL W G)))))));have HR:=aS hr;have hf:=W.form;clear hP U h7 X hr Z hg W hb G;rcases hf with⟨q1,rfl⟩|⟨q1,q2,rfl⟩
 all_goals
  go_enter func169,ntmps169;go_wp2_with fail
  go_loopg [5,17] (h.length+1) (λq bv i J=>∃j:Nat,j<=h.length/\i= .int .i64 j/\q=h.length-j+1/\Hid (J.ownsRow w.heap.size 9 1 bv j (pS (h.take j)))/\Hid (w.grownBy J none))
  case atStart=>exact⟨0,by omega,rfl,by omega,lE _ _ _ _,bC _ _⟩
  case round=>
   obtain⟨j,e6,rfl,hq,O,n⟩:=hrel
   rename World=>w2
   have x1:w.heap.size<=w2.heap.size:=n.out.size;by_cases e8:j<h.length
   ·obtain⟨c,C⟩:∃c,h[j]? =some c:=⟨h[j],aP _⟩;obtain⟨u,v⟩:∃u,E[j]? =some u:=⟨E[j]'(by omega),aP _⟩;obtain⟨c0,c1,_⟩:=(Q.2.1.grown n.out).2.2 j c u C v;have lB:=(Q.2.1.grown n.out).2.1;obtain⟨y,D⟩:∃y,f[j]? =some y:=⟨f[j]'(by omega),aP _⟩;obtain⟨I,F,rfl⟩:=(Q.2.2.1 j u y v D).val;have e7:(j:Int)<(h.length:Int):=by omega
    have HY:=aS C;have h1:=(O.out.alloc (.cells #[.string (B c),(.iface I (.pointer (some ⟨F,0,none⟩)))] 203));have e2:=aS (n.out.trans (aO w2 (.cells #[.string (B c),(.iface I (.pointer (some ⟨F,0,none⟩)))] 203) none));clear v C D;go_wp2_with (at_builtin;refine jQ _ rfl (.tmp 21) (.tmp 24) 34 rfl w.heap.size 9 i0 (.string (B [])) 1 16 underlying34 hi e9 w0 w1 rfl (by decide) _ _ _ rfl (h1.alloc _) ⟨w2.heap.size+1,0,none⟩ 1 1 [.string (B c)] rfl rfl ?d1 ?d2 (by decide) ?d3 ?d4 ?d5 (w2.heap.size+1+1) ?d6 ?_)
    case d1=>simpa using IB (w2.alloc (.cells #[.string (B c),(.iface I (.pointer (some ⟨F,0,none⟩)))] 203)) _ _
    case d2=>exact NF _
    case d3=>unfold maxLen;omega
    case d4=>omega
    case d5=>simp;omega
    case d6=>simp
    intro g7 w6 w7 h8 h6 _ _;have ON:=aS h8;have GN:=aS (JX (e2.trans (aO _ _ _)) h6 (λk e=>(mT h1 e).1));clear h8 h6 h1;go_wp2_with fail
    go_roundg (h.length-(j+1)+1)
    case measure=>omega
    case rel=>refine⟨j+1,by omega,by go_num,rfl, ?_,GN⟩;rw[U4 HY.out];exact ON
   ·have V:j=h.length:=by omega
    subst V;have h2:=O.out;rw[iV (by omega)]at h2;obtain⟨g6,e3,w8,rfl,h5,e0⟩:=yj h2 h0;have CN:=aS (CZ (cap:=e3) (Q.2.2.2.2.2.2.1.grown n.out) h5 e0 (by omega));clear h2 h5 e0 O;go_wp2_with fail;refine CN.mono ?_;rintro e w3 ⟨y1,y2,rfl,e1,R⟩;have S:w3.heap[b]? =_:=((n.out.trans R).block b h4 (by simp)).trans Q.2.2.2.2.2.2.2;have k3:=cU S 1 rfl;have w9:=aT S;have K3:=aS (aL (n.out.trans R) e1);clear R e1 CN S n;go_wp2_with fail
    go_loopg [35] (h.length+1) (λq i J=>∃j:Nat,j<=h.length/\i= .int .i64 j/\q=h.length-j+1/\Hid (ZY P (f.drop j++[A]) (h::l)=some r)/\Hid (w.grownBy J none/\KF M J (h::l) (.func (.func 199) #[] #[.pointer (some ⟨y1,0,none⟩), .pointer (some ⟨y2,0,none⟩)])))
    case atStart=>exact⟨0,by omega,rfl,by omega,HR,K3⟩
    case round=>
     obtain⟨j,e6,rfl,hq,HJ,d⟩:=hrel
     rename World=>w4
     by_cases e8:j<h.length
     ·obtain⟨c,C⟩:∃c,h[j]? =some c:=⟨h[j],aP _⟩;obtain⟨u,v⟩:∃u,E[j]? =some u:=⟨E[j]'(by omega),aP _⟩;obtain⟨c0,c1,_⟩:=(Q.2.1.grown d.out.1).2.2 j c u C v;have lB:=(Q.2.1.grown d.out.1).2.1;obtain⟨y,D⟩:∃y,f[j]? =some y:=⟨f[j]'(by omega),aP _⟩;have Y:=Q.2.2.1 j u y v D;obtain⟨I,F,rfl⟩:=Y.val;have e7:(j:Int)<(h.length:Int):=by omega
      have a:=HJ.out;rw[cO (by omega),lQ,show f[j]'(by omega)=y from(aU.1 D).2]at a;have L:w4.grownBy (w4.alloc (.cells #[.string (B c),(.iface I (.pointer (some ⟨F,0,none⟩)))] 203)) none:=aO _ _ _;have K:=d.out.1.trans L
      cases t:P y (h::l)with
      |none=>simp only[ZY,t]at a;cases a
      |some r1=>
       have p:=aS (Q.1 y _ m _ _ r1 _ Y t (Q.2.2.2.2.1.grown K) (Q.2.2.2.2.2.1.grown K) (d.out.2.grown L));have HN:=aS a;have N:=aS (aL K (d.out.2.grown L));have R1:=aS t;clear v C D Y a L K t
       cases r1 with
       |none=>
        go_wp2_with fail;refine p.mono ?_;rintro e w5 ⟨x,rfl,rfl,g⟩;have s:=aS (aL (N.1.trans g) (N.2.grown g));clear g p;go_wp2_with fail
        go_roundg (h.length-(j+1)+1)
        case measure=>omega
        case rel=>refine⟨j+1,by omega,by go_num,rfl, ?_,s⟩;have o:=HN.out;simp only[ZY,R1.out]at o;exact o
       |some z=>go_wp2_with fail;refine p.mono ?_;rintro e w5 ⟨x,rfl,⟨b9,d9,rfl,h3⟩,g⟩;have s:=aS (aL (N.1.trans g) h3);clear g h3 p;go_wp2;go_ret;have o:=HN.out;simp only[ZY,R1.out]at o;cases o;exact⟨_,rfl,⟨b9,d9,rfl,s.2⟩,s.1⟩
     ·have V:j=h.length:=by omega
      subst V;have a:=HJ.out;rw[List.drop_of_length_le (by omega),oL]at a
      have t:P A (h::l)=some r:=by
       simp only[ZY]at a
       cases o:P A (h::l)with
       |none=>rw[o]at a;cases a
       |some r1=>
        rw[o]at a
        cases r1 with
        |none=>exact a
        |some z=>exact a
      have T:w4.heap[b]? =_:=(d.out.1.block b h4 (by simp)).trans Q.2.2.2.2.2.2.2;have k4:=cU T 2 rfl;have x0:=aT T;have p:=aS (Q.1 A _ m2 _ _ r _ Q.2.2.2.1 t (Q.2.2.2.2.1.grown d.out.1) (Q.2.2.2.2.2.1.grown d.out.1) d.out.2);clear a t T;go_wp2_with fail;refine p.mono ?_;rintro e w5 ⟨x,rfl,ux,g⟩;have s:=aS (aL ux (d.out.1.trans g));clear g ux p;go_wp2;go_ret;exact⟨x,rfl,s.1,s.2⟩
theorem Fk{H:aB}{q b m:Nat}{C:lQE}{l:List (List aA)}{p R I J:Value}{d f:Ex}{r s:UR}{P:Ex->List (List aA)->Option UR}(g:ZZ H q C P)(G:H b=some (.cells #[R,I,J] 216 (0,0)))(n:dI m H I d)(o:dI m H J f)(E:P d l=some r)(F:P f l=some s)(c:Fz H w)(j:NS H w q C)(a:KF q w l p):
  Calls prog 124 #[.iface 214 (.pointer (some ⟨b,0,none⟩)),p] w (IY H (LY r s) w):=by
 obtain⟨V,b1,rfl⟩:=n.val;obtain⟨W,b2,rfl⟩:=o.val;have x:=c _ _ G;have k1:=cU x 1 rfl;have k2:=cU x 2 rfl;have S:=aT x;have v:=aS (g d _ m l p r w.drew n E c j (a.grown (cZ (Gb.refl (λk=>w.heap.size<=k) w).none)));have Q:=aS (aL g (aL o (aL F (aL c (aL j (aL a x))))));have T:=a.form;have X:=nM b;have Y:=pH b;have Z:=rD b;have a3:=pI b;have a4:=lW b;have a5:=oM b;have a6:=nN b;clear g n o E F c j a G x;rcases T with⟨U,rfl⟩|⟨U,q2,rfl⟩
 all_goals
  go_enter func124,ntmps124;go_wp2_with fail
  go_region_with (first
   |(go_at_call 124;refine v.mono ?_;rintro e M ⟨t,rfl,K,h⟩;have y:=aS (Q.1 f _ m _ _ s M Q.2.1 Q.2.2.1 (Q.2.2.2.1.grown (fT h)) (Q.2.2.2.2.1.grown (fT h)) (Q.2.2.2.2.2.1.grown (fT h)));have i:M.heap[b]? =_:=(h.block b S (by simp)).trans Q.2.2.2.2.2.2;have k3:=cU i 2 rfl;have h0:=aT i;have z:=aS (aL K h);clear h K v i)
   |(go_at_call 124;refine y.mono ?_;rintro e N ⟨u,rfl,L,D⟩;have O:=aS (WR N.heap.size t u (N.alloc (.cells #[.pointer t, .pointer u] 186)) (bY _ _));have A:=aS (aL L D);clear D L y)
   |(go_at_call 168;refine O.mono ?_;rintro e w3 ⟨rfl,rfl⟩))
  all_goals go_wp2
  all_goals go_ret
  all_goals exact⟨zh t u,rfl,z.1.or A.1,fT (z.2.trans (A.2.trans (aO _ _ _)))⟩
theorem Lq(w:World):Calls prog 65 #[] w λe h=>∃b,e= .returned (.slice (some ⟨b,0,none⟩) 10 10)/\EU h (.slice (some ⟨b,0,none⟩) 10 10) fU/\w.grownBy h none:=by refine(Lg w).mono ?_;rintro e h ⟨rfl,rfl⟩;exact⟨_,rfl,EU.ten (bY _ _),aO _ _ _⟩
theorem Lr(w:World):Calls prog 66 #[] w λe h=>∃b,e= .returned (.slice (some ⟨b,0,none⟩) 10 10)/\EU h (.slice (some ⟨b,0,none⟩) 10 10) qW/\w.grownBy h none:=by refine(Lh w).mono ?_;rintro e h ⟨rfl,rfl⟩;exact⟨_,rfl,EU.ten (bY _ _),aO _ _ _⟩
theorem bf{u:aA}{a b c d:Int}{h:aA}(CI:∀L M W,w.grownBy W none->EU W L fU->EU W M qW->Calls prog 26 #[.string (B s),L,M, .int .i64 6] W λe y=>Gn W y/\∃r,e= .returned (.tuple #[.string (B u),f5 a b (B h) c d, .bool r])):
  Calls prog 35 #[.string (B s)] w λe y=>Gn w y/\e= .returned (.tuple #[.string (B u),f5 a b (B h) c d]):=by
 have z:=aS CI;clear CI;go_enter func35,ntmps35;go_wp2_with fail;refine(Lq _).mono ?_;rintro e P ⟨S,rfl,J,l⟩;have G:P.heap[w.heap.size]? =some (.cells #[.int .i64 0, .int .i64 0, .string (B []), .int .i64 0, .int .i64 0] 23 (0,0)):=(l.block _ (by simp) (by simp)).trans (bY _ _);have f:=aS (aL J (aL ((aO w _ none).trans l) G));clear J l G;go_wp2_with fail;refine(Lr _).mono ?_;rintro e Q ⟨T,rfl,K,g⟩;have CI:=aS (z.out _ _ Q (f.2.1.trans g) (f.1.gn (Gn.of g)) K);have i:=aS (aL (f.2.1.trans g) ((g.block _ (aT f.2.2) (by simp)).trans f.2.2));clear K g f z;go_wp2_with fail;refine CI.mono ?_;rintro e x ⟨m,r,rfl⟩;have j:x.heap[w.heap.size]? =some (.cells #[.int .i64 0, .int .i64 0, .string (B []), .int .i64 0, .int .i64 0] 23 (0,0)):=(m.block _ (aT i.2)).trans i.2;have O:=aT j;have k:=aS (aL ((Gn.of i.1).trans m) j);obtain⟨⟨n,o,p,q,t⟩,A,C,D,E,F⟩:=eG j;clear m CI i j;unfold f5 at*;go_wp2_with fail
 have H:(x.alloc (.cells #[.int .i64 a, .int .i64 b, .string (B h), .int .i64 c, .int .i64 d] 23)).heap[w.heap.size]? =some (.cells #[.int .i64 0, .int .i64 0, .string (B []), .int .i64 0, .int .i64 0] 23 (0,0)):=by rw[bQ _ _ _ O];exact k.2
 have I:(x.alloc (.cells #[.int .i64 a, .int .i64 b, .string (B h), .int .i64 c, .int .i64 d] 23)).heap[x.heap.size]? =some (.cells #[.int .i64 a, .int .i64 b, .string (B h), .int .i64 c, .int .i64 d] 23 (0,0)):=bY _ _;have N:=aS (k.1.trans (Gn.of (aO x (.cells #[.int .i64 a, .int .i64 b, .string (B h), .int .i64 c, .int .i64 d] 23) none)));clear n o p q t A C D E F;have V:w.heap.size≠x.heap.size:=by omega
 generalize x.alloc (.cells #[.int .i64 a, .int .i64 b, .string (B h), .int .i64 c, .int .i64 d] 23)=R at*;generalize x.heap.size=U at*;obtain⟨⟨n,o,p,q,t⟩,A,C,D,E,F⟩:=eG H;obtain⟨⟨X,Y,Z,p3,p4⟩,_⟩:=eG I;clear H I k
 go_region
 all_goals go_wp2
 all_goals
  refine eN (v:= .tuple #[.string (B u),f5 a b (B h) c d]) (by simp[results,results35,go_sem,n,o,p,q,t];rfl) rfl ?_;exact⟨(N.set5 (aV _) _ _ _ _ _).drew,rfl⟩
def Yd(s t:aA):Bool:=decide (s.length<=300)&&match JC s with
 |none=>false
 |some x=>decide (cP 60 x=t)
theorem Rt{t:aA}(h:Yd s t=true)(w:World)(b:aF)(c:aE)(i:aG)(S:SW w b c i):
  Calls prog 14 #[.string (B s)] w λe j=>Gn w j/\e= .returned (.tuple #[.string (B t),fv 0 0]):=by
 have o:(B s).size=s.length:=dY s;unfold Yd at h;simp only[cY,cX]at h;obtain⟨z,h⟩:=h;obtain⟨x,p,f,m⟩:=B5 (B s) (by omega);unfold JC at h;rw[<-o,f]at h;simp only at h;split at h
 ·cases h
 ·rename_i y a;split at a
  ·rename_i d;cases a;simp only[cY,cX]at d h;obtain⟨⟨q,k⟩,r⟩:=d;refine(ph (B s) (by omega) w _ x p f m b c i S).mono ?_;rintro e j ⟨g,n⟩;refine⟨g, ?_⟩;rcases n with⟨u,_⟩|⟨_,l⟩
   ·omega
   ·rcases l 60 (BX 60 x k)with⟨v,_⟩|⟨_,rfl⟩
    ·omega
    ·rw[h]
  ·cases a
theorem Vg{t h:aA}(CI:Calls prog 35 #[.string (B s)] w λe x=>Gn w x/\e= .returned (.tuple #[.string (B h),f5 0 0 (B []) 0 0]))(d:h=t):
  Calls prog 33 #[.string (B s), .string (B t)] w λe x=>e= .returned (.bool true)/\Gn w x:=by
 subst d;have a:=aS CI;clear CI;have g:((B h).toList==(B h).toList)=true:=iD _;go_enter func33,ntmps33;go_wp2_with fail;refine a.mono ?_;rintro e f ⟨b,rfl⟩;have c:=aS (b.trans (Gn.of (aO f (.cells #[.int .i64 0, .int .i64 0, .string (B []), .int .i64 0, .int .i64 0] 23) none)));clear b a;unfold f5;go_wp2;go_ret;exact⟨rfl,c.out⟩
theorem sN{x:World}{e k:Nat}{o:Obj}(h:x.heap[k]? =some o)(w:k≠e)(a b c d f:Value):(((((x.setCell ⟨e,0,none⟩ a).setCell ⟨e,1,none⟩ b).setCell ⟨e,2,none⟩ c).setCell ⟨e,3,none⟩ d).setCell ⟨e,4,none⟩ f).heap[k]? =some o:=by rw[bO _ _ _ _ w,bO _ _ _ _ w,bO _ _ _ _ w,bO _ _ _ _ w,bO _ _ _ _ w];exact h
end Go.Proofs.YtcdijppegfcoaaaGreatDoor
