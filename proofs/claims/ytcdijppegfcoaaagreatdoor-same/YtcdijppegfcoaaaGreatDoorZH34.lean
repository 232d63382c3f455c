import Derived.Test.YtcdijppegfcoaaaGreatDoorZH30
import Derived.Test.YtcdijppegfcoaaaGreatDoorZH23
set_option maxRecDepth 100000
set_option maxHeartbeats 4000000
set_option linter.unusedSimpArgs false
namespace Go.Proofs.YtcdijppegfcoaaaGreatDoor
open Go.RowKit Tryz
variable{w':World}{ca L:List Nat}{bv u:Value}{H:Nat->Option Obj}{t a:Et}{p:Nat}{σ:bM}{d:Nat->Nat}{C:TC}
@[reducible] def LW(w:World):Prop:=Lib.TabIs prog w "internal/strconv.uint64pow10" .u64 Lib.pow10Tab
def uR(n:Nat):aA:=if n<10 then [UInt8.ofNat (48+n)]else if n<100 then [UInt8.ofNat (48+n/10),UInt8.ofNat (48+n%10)]else if n<1000 then [UInt8.ofNat (48+n/100),UInt8.ofNat (48+n/10%10),UInt8.ofNat (48+n%10)]else if n<10000 then [UInt8.ofNat (48+n/1000),UInt8.ofNat (48+n/100%10),UInt8.ofNat (48+n/10%10),UInt8.ofNat (48+n%10)]else Lib.decDigits n
theorem WM(n:Nat):Lib.decDigits n=uR n:=by
 unfold uR;by_cases h:n<10
 ·rw[aR h,Lib.decDigits,dif_pos h]
 ·rw[aN h];by_cases e:n<100
  ·rw[aR e,mv h e]
  ·rw[aN e];by_cases w:n<1000
   ·rw[aR w,Lib.decDigits,dif_neg h,mv (by omega) (by omega),show n/10/10=n/100 by omega];rfl
   ·rw[aN w];by_cases x:n<10000
    ·rw[aR x,Lib.decDigits,dif_neg h,Lib.decDigits,dif_neg (by omega),mv (by omega) (by omega),show n/10/10/10=n/1000 by omega,show n/10/10%10=n/100%10 by omega];rfl
    ·rw[aN x]
theorem pl:∀(k n:Nat),n<10^(k+1)->(Lib.decDigits n).length<=k+1
 |0,n,h=>by rw[Lib.decDigits,dif_pos (by omega)];simp
 |k+1,n,h=>by
  rw[Lib.decDigits];split
  ·simp
  ·rw[bD];have:=pl k (n/10) (Nat.div_lt_of_lt_mul (by rw[Nat.pow_succ]at h;omega));simp only[bU,cB];omega
theorem ZO{n:Nat}(h:n<9223372036854775808):(uR n).length<=300:=by rw[<-WM];exact bV (pl 19 n (Nat.lt_trans h (by decide))) (by decide)
def Dk(h:aC)(w:World):Prop:=LW w/\12∉h/\12<w.heap.size
theorem jv:prog.globalNamed "internal/strconv.uint64pow10" =some 12:=by kernel_rfl
theorem IV{w:World}(h:Lib.TabIs prog w "internal/strconv.uint64pow10" .u64 Lib.pow10Tab)(e:w'.heap[12]? =w.heap[12]?):Lib.TabIs prog w' "internal/strconv.uint64pow10" .u64 Lib.pow10Tab:=by unfold Lib.TabIs World.var? at*;rw[jv]at*;simpa[e]using h
theorem Dk.gb{w:World}(h:Dk ca w)(g:Gb (dT ca) w w'):Dk ca w':=
 ⟨IV h.1 (g.block _ h.2.2 h.2.1),h.2.1,aZ h.2.2 g.size⟩
def jw(x:Nat)(h:aC)(L:aC)(e:Value)(w:World):Prop:=QC h L e w/\Dk h w/\x<=w.heap.size
theorem jw.gb{e:Nat}{w:World}(h:jw e ca L bv w)(g:Gb (dT ca) w w'):jw e ca L bv w':=⟨h.1.gb g,h.2.1.gb g,bV h.2.2 g.size⟩
theorem jw.look{x:Nat}{w:World}(h:jw x ca L bv w){n:Nat}(e:n<=9223372036854775806):(Instr.lookup 336 bv (.int .i64 ((n:Int)+1)) true).run prog w= .ok (.tuple #[.agg #[], .bool (decide (n∈L))]) w:=h.1.look e
theorem Qx(n:Nat)(h:n<9223372036854775808)(w:World)(d:LW w):Calls prog 188 #[.int .i64 (n:Int)] w λe a=>e= .returned (.string (B (uR n)))/\w.grownBy a none:=by
 refine(Tryz.strconv_Itoa (n:Int) (by omega) (by omega) w d).mono ?_;rintro e a ⟨rfl,k,x,rfl⟩
 have b:Lib.itoa (n:Int)=uR n:=by unfold Lib.itoa;rw[aN (by omega),Int.toNat_natCast,WM]
 rw[b];refine⟨rfl,rfl,rfl,rfl, ?_,λi c _=> ?_⟩
 ·show w.heap.size<=(w.heap++x).size;simp
 ·show(w.heap++x)[i]? =w.heap[i]?;rw[Array.getElem?_append_left c]
def EL(e:Nat)(H:aB)(h:aC)(v:Value)(t:Et):Prop:=∃m,fP e H h m v t
theorem EL.er{w:Nat}{v:Value}(h:EL w H ca v t):ER H ca v t:=by obtain⟨m,h⟩:=h;exact⟨m,h.ext (dG _) (λ_ _ e=>e) (dD _) _ _ _⟩
theorem EL.onto{x:Nat}{w:aB}{v:Value}(h:EL x H ca v t)(e:∀k o,H k=some o->w k=some o):EL x w ca v t:=by obtain⟨m,h⟩:=h;exact⟨m,fP.ext (aV _) e (dD _) m v t h⟩
theorem Kt{e:Nat}(w:e<=p)(h:EL e H ca u a)(x:H p=some (.cells #[u] 351 (0,0))):EL e H ca (.iface 349 (.pointer (some ⟨p,0,none⟩))) ⟨nF,[],0,[a]⟩:=by obtain⟨m,h⟩:=h;exact⟨m+1,p,aM (aM (aM (aQ ⟨rfl,w,a,u,rfl,rfl,x,h⟩)))⟩
theorem Ku{e:Nat}{z:Value}{b:Et}(x:e<=p)(h:EL e H ca u a)(w:EL e H ca z b)(c:H p=some (.cells #[u,z] 384 (0,0))):EL e H ca (.iface 361 (.pointer (some ⟨p,0,none⟩))) ⟨eS,[],0,[a,b]⟩:=by obtain⟨m,h⟩:=h;obtain⟨n,w⟩:=w;exact⟨max m n+1,p,aM (aM (aM (aM (aQ ⟨rfl,x,a,b,u,z,rfl,rfl,c,h.le (gI _ _),w.le (gJ _ _)⟩))))⟩
theorem Dl{e:Nat}{z:Value}{b:Et}(x:e<=p)(h:EL e H ca u a)(w:EL e H ca z b)(c:H p=some (.cells #[u,z] 293 (0,0))):EL e H ca (.iface 291 (.pointer (some ⟨p,0,none⟩))) ⟨dO,[],0,[a,b]⟩:=by obtain⟨m,h⟩:=h;obtain⟨n,w⟩:=w;exact⟨max m n+1,p,aM (aM (aM (aM (aM ⟨rfl,x,a,b,u,z,rfl,rfl,c,h.le (gI _ _),w.le (gJ _ _)⟩))))⟩
def Wy(b:Nat)(H:aB)(x:aC)(c:bM)(d:aI)(t:Et)(w:World)(e:Ending)(a:World):Prop:=
 Gb (dT x) w a/\fY H x c d a/\∃v h,e= .returned v/\Fz h a/\(∀k o,H k=some o->h k=some o)/\(∀k o,h k=some o->H k=some o\/w.heap.size<=k)/\EL b h x v t
theorem Dm{lo:Nat}{c b:Nat}{w:World}(h:fY H ca σ d w')(g:Gb (dT ca) w w')(x:ca[c]? =some b):Wy lo H ca σ d (cT c) w (.returned (CI b)) w':=
 ⟨g,h,CI b,H,rfl,h.fz,λ_ _ e=>e,λ_ _ e=>aQ e,1,b,aQ ⟨rfl,rfl,x,rfl⟩⟩
theorem NP{lo:Nat}{h:aB}{w a c:World}{o:Obj}{v:Value}(j:fY H ca σ d a)(g:Gb (dT ca) w a)(i:Fz h a)(q:∀k x,H k=some x->h k=some x)(l:∀k x,h k=some x->H k=some x\/w.heap.size<=k)(b:a.grownBy c none)(f:a.heap.size<=p)(m:c.heap[p]? =some o)(n:EL lo (kJ h p o) ca v t):Wy lo H ca σ d t w (.returned v) c:=
 ⟨g.tr (Gb.new b),j.grown0 b,v,kJ h p o,rfl,QD (i.grown b) m,λk x e=>jS (i.none f) k x (q k x e),onto1_new l (bV g.size f),n⟩
def cI(h:bM)(e:aC):Nat->Nat->Option Et
 |0,_=>none
 |f+1,c=>if h.root c∈e then some (cT (h.root c))else match h.is c with
  |none=>if h.root c<9223372036854775806 then some (vT (uR (h.root c+1)))else none
  |some nd=>match kH (λk=>cI h e f k.num) nd.kids with
   |none=>none
   |some w=>some ⟨nd.kind,[],0,w⟩
def Xy(b:Nat)(H:aB)(h:aC)(e:bM)(d:aI)(L:aC)(f:Nat):Prop:=∀(c x:Nat) (t:Et) (w:World) (a:Value),h[c]? =some x->cI e L f c=some t->fY H h e d w->jw b h L a w->Calls prog 170 #[CI x,a] w (Wy b H h e d t w)
theorem T7{lo:Nat}{f:Nat}(ih:Xy lo H ca σ d L f):Xy lo H ca σ d L (f+1):=by
 intro c x t w bv ec hr hc hb;have HL:=aS (jG (d c+1) c x w (by omega) ec hc);obtain⟨b0,a1,a6⟩:=hc.root_get ec;have c2:=(aU.1 ec).1;have d4:σ.root c<σ.rep.length:=(aU.1 (hc.rr _ _ a1)).1;have d3:=hc.few;have t1:=oV x;rw[cI]at hr;have HR:=aS hr;have HB:=aS hb;have W:=aS (aL ec (aL a6 (hc.rr _ _ a1)));have IH:=aS ih;clear hr hc hb ih ec a1 a6 c2;unfold CI;unfold CP at HL;go_enter func170,ntmps170;go_wp2_with fail;refine HL.mono ?_;rintro e w1 ⟨b1,rfl,h1,h2,h3,h4⟩;obtain rfl:=aY (W.2.1.symm.trans h1);obtain⟨v1,b8,b3⟩:=h2.root_val (aU.1 W.1).1 h1;obtain⟨x0,x1,_,_⟩:=fZ b8;have b2:=(HB.gb h3).look (n:=σ.root c) (by omega);have d2:=aT b8;have C1:=aS (aL h2 (aL h3 b3));clear h1 h2 h3 h4 b3 HL;unfold CP;by_cases w7:σ.root c∈L
 ·rw[dE w7]at b2;have F:=HR.out;rw[aR w7]at F;have F:=(aY F).symm;subst F;have Q:=aS (Dm (lo:=lo) (C1.1.grown0 (aO w1 (.cells #[] 371) none)) (C1.2.1.alloc (.cells #[] 371)) W.2.1);unfold CI at Q;clear HR w7;go_wp2;go_ret;exact Q.out
 ·rw[bN w7]at b2;have F:=HR.out;rw[aN w7]at F;have d7:=dP x1 (.cells #[] 371);have d6:=dP x0 (.cells #[] 371);have l:=aS (aL (C1.1.grown0 (aO w1 (.cells #[] 371) none)) (C1.2.1.alloc (.cells #[] 371)));rcases C1.2.2 with⟨w0,rfl⟩|⟨nd,w0,k1,k2,k3,k4⟩
  ·rw[w0]at F;simp only at F;split at F
   ·rename_i d1;have F:=(aY F).symm;subst F;have IT:=aS (Qx (σ.root c+1) (by omega) (w1.alloc (.cells #[] 371)) (HB.gb (l.2)).2.1.1);rw[show(((σ.root c+1:Nat)):Int)=(σ.root c:Int)+1 by omega]at IT;clear HR w7 w0;go_wp2_with fail;refine IT.mono ?_;rintro e w2 ⟨rfl,g2⟩
    have Q:=aS (NP (lo:=lo) (l.1.grown0 g2) (l.2.tr (Gb.new g2)) (l.1.grown0 g2).fz (λ_ _ e=>e) (λ_ _ e=>aQ e) (aO _ _ _) (aV _) (bY w2 (.cells #[.string (B (uR (σ.root c+1)))] 313))
     (v:= .iface 309 (.pointer (some ⟨w2.heap.size,0,none⟩))) (t:=vT (uR (σ.root c+1))) ⟨1,_,aM (aQ ⟨rfl,rfl,ZO (by omega),bV HB.2.2 (l.2.tr (Gb.new g2)).size,rfl,iR⟩)⟩)
    clear IT g2;go_wp2;go_ret;exact Q.out
   ·cases F
  ·rw[w0]at F;simp only at F
   cases i:kH (λk=>cI σ L f k.num) nd.kids with
   |none=>rw[i]at F;cases F
   |some ks=>
    rw[i]at F;have F:=(aY F).symm;subst F;obtain⟨us,d5,hK,a8⟩:=yI (σ:=σ) (d:=d) W.2.1 l.1
    have a7:fH σ (cT c)=nd.kids:=by
     have e0:fH σ (cT c)=(match σ.is c with|none=>[]|some nd=>nd.kids):=by unfold fH;rw[aR (show(cT c).kind=cM from rfl)];rfl
     rw[e0,w0]
    rw[TX W.2.2,a7]at hK;have e2:=aS a8;have N:=aS (aL hK (aL k3 i));have e7:=aS w0;unfold CP at e2;clear HR w7 w0 hK a8 a7 i k3;obtain⟨q,k4⟩:=k4;rcases k4 with⟨S,_⟩|⟨S,_⟩|⟨S,q2,q3,q4⟩|⟨S,_,a,u,q2,q3,q4,q5⟩|⟨S,_,a,a2,u,z,q2,q3,q4,q5,q6⟩|⟨S,_,a,a2,u,z,q2,q3,q4,q5,q6⟩
    ·exact absurd S k2
    ·exact absurd S k1
    ·subst q3;have e0:us=[]:=by have:=N.1.1;rw[q2]at this;exact List.length_eq_zero_iff.1 this
     have e1:ks=[]:=by have:=N.2.2;rw[q2]at this;exact(aY this).symm
     subst e0 e1;have Q1:=aS (aL S q4);clear S q2 q4 k1 k2;go_wp2_with fail;refine e2.mono ?_;rintro e w3 ⟨T,K,r3⟩
     obtain⟨ao,a5,he⟩:∃ao a5,e= .returned (.slice ao 0 a5):=by
      rcases r3 with⟨_,rfl⟩|⟨g,rfl,_⟩
      ·exact⟨none,0,rfl⟩
      ·exact⟨_,_,rfl⟩
     subst he;obtain⟨v3,b9,c3⟩:=T.root_val (aU.1 W.1).1 W.2.1;have D:=aS (aL T (l.2.tr K));clear T K r3 e2;rcases c3 with⟨r,_⟩|⟨a4,r,_,_,_,I⟩
     ·rw[e7.out]at r;cases r
     ·obtain rfl:=aY (e7.symm.trans r);obtain⟨y0,y1,_,_⟩:=fZ b9;obtain⟨q9,I⟩:=I;rcases I with⟨b,_⟩|⟨b,_⟩|⟨b,p2,p3,m⟩|⟨b,_⟩|⟨b,_⟩|⟨b,_⟩
      ·rcases Q1.1 with h|h<;>exact absurd (h.symm.trans b) (by decide)
      ·rcases Q1.1 with h|h<;>exact absurd (h.symm.trans b) (by decide)
      ·subst p3;have QE:=aS (show Wy lo H ca σ d ⟨nd.kind,[],0,[]⟩ w (.returned (.iface 346 (.pointer (some ⟨q9,0,none⟩)))) w3 from⟨D.2,D.1,_,H,rfl,D.1.fz,λ_ _ e=>e,λ_ _ e=>aQ e,1,q9,aM (aM (aQ ⟨b,rfl,rfl,m⟩))⟩);clear b p2 m b9 r;go_wp2_with fail;refine dX 1 ?_;rw[dH];go_wp2_with fail;refine(PG q9 _ _).mono ?_;rintro e w4 ⟨rfl,rfl⟩;go_wp2;go_ret;exact QE.out
      ·rcases Q1.1 with h|h<;>exact absurd (h.symm.trans b) (by decide)
      ·rcases Q1.1 with h|h<;>exact absurd (h.symm.trans b) (by decide)
      ·rcases Q1.1 with h|h<;>exact absurd (h.symm.trans b) (by decide)
    ·subst q3;have s:=aS (aL S q2);clear S q2 q4 q5 k1 k2
     obtain⟨M,a0⟩:∃M,us=[M]:=by
      have A:=N.1.1;rw[s.2]at A
      match us,A with
      |[M],_=>exact⟨M,rfl⟩
     subst a0;have X:=N.1;rw[s.2]at X;obtain⟨y,ey,rfl⟩:=qH (X.2 0 M a rfl rfl) (N.2.1 a (by rw[s.2];simp));have i:=N.2.2;rw[s.2,kH]at i
     cases V:cI σ L f a.num with
     |none=>rw[V]at i;cases i
     |some t1=>
      rw[V]at i;have i:=(aY i).symm;subst i;have Y:=aS (aL ey V);clear X ey V;unfold CI at*;go_wp2_with fail;refine e2.mono ?_;rintro e w3 ⟨T,K,r3⟩;rcases r3 with⟨h0,_⟩|⟨g,rfl,hg,J⟩
      ·cases h0
      have J:w3.heap[g]? =some (.cells #[.iface 265 (.pointer (some ⟨y,0,none⟩))] 156 (0,0)):=J;obtain⟨z0,z1,_⟩:=U6 (v:= .nilIface) J;have h7:=aS (IH.out a.num y t1 w3 bv Y.1 Y.2 T (HB.gb (l.2.tr K)));unfold CI at h7;have h6:¬dT ca g:=λh=>by have:=dT.lt l.1 h;omega
      have h5:H g=none:=l.1.fz.none hg;have D:=aS (aL T (aL (l.2.tr K) J));have w9:w.heap.size<=g:=bV l.2.size hg;have c0:=K.size;clear T K e2 J;go_wp2_with fail;refine dX 2 ?_;rw[dH];go_wp2_with fail;refine h7.mono ?_;rintro e w4 ⟨g4,c4,v4,U,rfl,f4,x4,n4,e4⟩;have b4:w4.heap[g]? =_:=g4.at D.2.2 h6;obtain⟨E,m,_,rfl⟩:=oE e4.er;obtain⟨z0,z1,z2⟩:=U6 (v:= .iface E (.pointer (some ⟨m,0,none⟩))) b4
      have w5:U g=none:=by
       cases A:U g with
       |none=>rfl
       |some o=>
        rcases n4 g o A with h|h
        ·rw[h5]at h;cases h
        ·have:=aT D.2.2;omega
      have c5:=nI c4 h6 h5 0 (.iface E (.pointer (some ⟨m,0,none⟩)));obtain⟨v5,e8,x7⟩:=c5.root_val (aU.1 W.1).1 W.2.1;obtain⟨y0,y1,_,_⟩:=fZ e8;have zc:=(U6 (v:= .nilIface) z2).1;rcases x7 with⟨r,_⟩|⟨a4,r,_,_,_,I⟩
      ·rw[e7.out]at r;cases r
      obtain rfl:=aY (e7.symm.trans r);obtain⟨q9,I⟩:=I;have G:=s.1
      obtain⟨q8,x9⟩:∃q8,v5= .iface 349 (.pointer (some ⟨q8,0,none⟩)):=by
       rcases I with⟨b,_⟩|⟨b,_⟩|⟨b,_⟩|⟨b,_,_,_,_,p3,_⟩|⟨b,_⟩|⟨b,_⟩
       ·exact absurd (G.symm.trans b) (by decide)
       ·exact absurd (G.symm.trans b) (by decide)
       ·rcases b with b|b<;>exact absurd (G.symm.trans b) (by decide)
       ·exact⟨q9,p3⟩
       ·exact absurd (G.symm.trans b) (by decide)
       ·exact absurd (G.symm.trans b) (by decide)
      subst x9;have j:=aS (aL c5 (aL (xM (D.2.1.tr g4) w9 0 (.iface E (.pointer (some ⟨m,0,none⟩)))) (aL (f4.set w5 0 (.iface E (.pointer (some ⟨m,0,none⟩)))) (aL x4 (aL n4 e4)))));have c1:=D.2.1.size;have LI:=aS (TY q8 g 1 E m _ zc);clear g4 c4 f4 x4 n4 e4 b4 z2 c5 e8 I r h7 D G;go_wp2_with fail;rw[dH];go_wp2_with fail;refine LI.mono ?_;rintro e w6 ⟨Z,p,rfl,O,a9⟩;have QE:=aS (NP (lo:=lo) j.1 j.2.1 j.2.2.1 j.2.2.2.1 (λk x e=>(j.2.2.2.2.1 k x e).imp id (λh=>by omega)) Z O a9 (Kt (bV HB.2.2 (bV j.2.1.size O)) (EL.onto j.2.2.2.2.2 (λk o e=>jS (j.2.2.1.none O) k o e)) iR));rw[<-s.1]at QE;clear Z O a9 LI;go_wp2;go_ret;exact QE.out
    ·subst q3;have s:=aS (aL S q2);clear S q2 q4 q5 q6 k1 k2
     obtain⟨M,u1,a0⟩:∃M u1,us=[M,u1]:=by
      have A:=N.1.1;rw[s.2]at A
      match us,A with
      |[M,u1],_=>exact⟨M,u1,rfl⟩
     subst a0;have X:=N.1;rw[s.2]at X;obtain⟨y,ey,rfl⟩:=qH (X.2 0 M a rfl rfl) (N.2.1 a (by rw[s.2];simp));obtain⟨y2,x2,rfl⟩:=qH (X.2 1 u1 a2 rfl rfl) (N.2.1 a2 (by rw[s.2];simp));have i:=N.2.2;rw[s.2,kH]at i
     cases V:cI σ L f a.num with
     |none=>rw[V]at i;cases i
     |some t1=>
      rw[V]at i;simp only[kH]at i
      cases e5:cI σ L f a2.num with
      |none=>rw[e5]at i;cases i
      |some t2=>
      rw[e5]at i;have i:=(aY i).symm;subst i;have Y:=aS (aL (aL ey V) (aL x2 e5));clear X ey V x2 e5;unfold CI at*;go_wp2_with fail;refine e2.mono ?_;rintro e w3 ⟨T,K,r3⟩;rcases r3 with⟨h0,_⟩|⟨g,rfl,hg,J⟩
      ·cases h0
      have J:w3.heap[g]? =some (.cells #[.iface 265 (.pointer (some ⟨y,0,none⟩)), .iface 265 (.pointer (some ⟨y2,0,none⟩))] 156 (0,0)):=J;obtain⟨z0,z1,_⟩:=pP J;have h7:=aS (IH.out a.num y t1 w3 bv Y.1.1 Y.1.2 T (HB.gb (l.2.tr K)));unfold CI at h7;have h6:¬dT ca g:=λh=>by have:=dT.lt l.1 h;omega
      have h5:H g=none:=l.1.fz.none hg;have D:=aS (aL T (aL (l.2.tr K) J));have w9:w.heap.size<=g:=bV l.2.size hg;have c0:=K.size;clear T K e2 J;go_wp2_with fail;refine dX 3 ?_;rw[dH];go_wp2_with fail;refine h7.mono ?_;rintro e w4 ⟨g4,c4,v4,U,rfl,f4,x4,n4,e4⟩;have b4:w4.heap[g]? =_:=g4.at D.2.2 h6;obtain⟨E,m,_,rfl⟩:=oE e4.er;obtain⟨z0,z1,z2,z3,z4,_⟩:=pP b4
      have w5:U g=none:=by
       cases A:U g with
       |none=>rfl
       |some o=>
        rcases n4 g o A with h|h
        ·rw[h5]at h;cases h
        ·have:=aT D.2.2;omega
      have c5:=nI c4 h6 h5 0 (.iface E (.pointer (some ⟨m,0,none⟩)));have b5:=z4 (.iface E (.pointer (some ⟨m,0,none⟩)));have j:=aS (aL c5 (aL (xM (D.2.1.tr g4) w9 0 (.iface E (.pointer (some ⟨m,0,none⟩)))) (aL (f4.set w5 0 (.iface E (.pointer (some ⟨m,0,none⟩)))) (aL x4 (aL n4 (aL e4 b5))))));have c1:=D.2.1.size;obtain⟨c9,d0,_⟩:=pP b5;have e9:=aS (IH.out a2.num y2 t2 (w4.setCell ⟨g,0,none⟩ (.iface E (.pointer (some ⟨m,0,none⟩)))) bv Y.2.1 Y.2.2 c5 (HB.gb j.2.1));unfold CI at e9;clear g4 c4 f4 x4 n4 e4 b4 z4 c5 b5 h7 D;go_wp2_with fail;generalize w4.setCell ⟨g,0,none⟩ (.iface E (.pointer (some ⟨m,0,none⟩)))=W5 at*;rw[dH];go_wp2_with fail;refine e9.mono ?_;rintro e w6 ⟨Z,c6,v6,H6,rfl,f6,x6,n6,e6⟩;have b6:w6.heap[g]? =_:=Z.at j.2.2.2.2.2.2 h6;obtain⟨P,R,_,rfl⟩:=oE e6.er;obtain⟨z0,z1,z2,z3,_,z4⟩:=pP b6
      have a3:H6 g=none:=by
       cases A:H6 g with
       |none=>rfl
       |some o=>
        rcases n6 g o A with h|h
        ·rw[h5]at h;cases h
        ·have:=aT j.2.2.2.2.2.2;omega
      have c7:=nI c6 h6 h5 1 (.iface P (.pointer (some ⟨R,0,none⟩)));have b7:=z4 (.iface P (.pointer (some ⟨R,0,none⟩)))
      have x3:Fz U w6:=j.2.2.1.gb Z (λk o e hk=>by
       rcases j.2.2.2.2.1 k o e with h|h
       ·rw[j.1.off k hk]at h;cases h
       ·have:=dT.lt l.1 hk
        omega)
      have h8:=WG (x3.set w5 1 (.iface P (.pointer (some ⟨R,0,none⟩)))) (f6.set a3 1 (.iface P (.pointer (some ⟨R,0,none⟩))));have c8:=j.2.1.size
      have C:=aS (aL c7 (aL (xM (j.2.1.tr Z) w9 1 (.iface P (.pointer (some ⟨R,0,none⟩)))) (aL h8.1 (aL (show∀k o,H k=some o->KC U H6 k=some o fromλk o e=>h8.2.1.1 k o (j.2.2.2.1 k o e)) (aL (show∀k o,KC U H6 k=some o->H k=some o\/w.heap.size<=k fromλk o e=>by
       unfold KC at e;split at e
       ·rename_i o' A;cases e;exact(j.2.2.2.2.1 k o A).imp id (λh=>by omega)
       ·exact(n6 k o e).imp id (λh=>by omega)) (aL (EL.onto j.2.2.2.2.2.1 h8.2.1.1) (EL.onto e6 h8.2.2.1)))))))
      obtain⟨v5,e8,x7⟩:=c7.root_val (aU.1 W.1).1 W.2.1;obtain⟨y0,y1,_,_⟩:=fZ e8;obtain⟨zc,zd,_⟩:=pP b7;rcases x7 with⟨r,_⟩|⟨a4,r,_,_,_,I⟩
      ·rw[e7.out]at r;cases r
      obtain rfl:=aY (e7.symm.trans r);obtain⟨q9,I⟩:=I;have G:=s.1
      obtain⟨q8,x9⟩:∃q8,v5= .iface 361 (.pointer (some ⟨q8,0,none⟩)):=by
       rcases I with⟨b,_⟩|⟨b,_⟩|⟨b,_⟩|⟨b,_⟩|⟨b,_,_,_,_,_,_,p3,_⟩|⟨b,_⟩
       ·exact absurd (G.symm.trans b) (by decide)
       ·exact absurd (G.symm.trans b) (by decide)
       ·rcases b with b|b<;>exact absurd (G.symm.trans b) (by decide)
       ·exact absurd (G.symm.trans b) (by decide)
       ·exact⟨q9,p3⟩
       ·exact absurd (G.symm.trans b) (by decide)
      subst x9;have LI:=aS (TZ q8 g 2 E m P R _ zc zd);clear Z c6 f6 x6 n6 e6 b6 z4 c7 b7 x3 h8 e8 I r e9 j G;go_wp2_with fail;generalize w6.setCell ⟨g,1,none⟩ (.iface P (.pointer (some ⟨R,0,none⟩)))=W7 at*;rw[dH];go_wp2_with fail;refine LI.mono ?_;rintro e w8 ⟨g8,p,rfl,O,x5⟩;have QE:=aS (NP (lo:=lo) C.1 C.2.1 C.2.2.1 C.2.2.2.1 C.2.2.2.2.1 g8 O x5 (Ku (bV HB.2.2 (bV C.2.1.size O)) (EL.onto C.2.2.2.2.2.1 (λk o e=>jS (C.2.2.1.none O) k o e)) (EL.onto C.2.2.2.2.2.2 (λk o e=>jS (C.2.2.1.none O) k o e)) iR));rw[<-s.1]at QE;clear g8 O x5 LI;go_wp2;go_ret;exact QE.out
    ·subst q3;have s:=aS (aL S q2);clear S q2 q4 q5 q6 k1 k2
     obtain⟨M,u1,a0⟩:∃M u1,us=[M,u1]:=by
      have A:=N.1.1;rw[s.2]at A
      match us,A with
      |[M,u1],_=>exact⟨M,u1,rfl⟩
     subst a0;have X:=N.1;rw[s.2]at X;obtain⟨y,ey,rfl⟩:=qH (X.2 0 M a rfl rfl) (N.2.1 a (by rw[s.2];simp));obtain⟨y2,x2,rfl⟩:=qH (X.2 1 u1 a2 rfl rfl) (N.2.1 a2 (by rw[s.2];simp));have i:=N.2.2;rw[s.2,kH]at i
     cases V:cI σ L f a.num with
     |none=>rw[V]at i;cases i
     |some t1=>
      rw[V]at i;simp only[kH]at i
      cases e5:cI σ L f a2.num with
      |none=>rw[e5]at i;cases i
      |some t2=>
      rw[e5]at i;have i:=(aY i).symm;subst i;have Y:=aS (aL (aL ey V) (aL x2 e5));clear X ey V x2 e5;unfold CI at*;go_wp2_with fail;refine e2.mono ?_;rintro e w3 ⟨T,K,r3⟩;rcases r3 with⟨h0,_⟩|⟨g,rfl,hg,J⟩
      ·cases h0
      have J:w3.heap[g]? =some (.cells #[.iface 265 (.pointer (some ⟨y,0,none⟩)), .iface 265 (.pointer (some ⟨y2,0,none⟩))] 156 (0,0)):=J;obtain⟨z0,z1,_⟩:=pP J;have h7:=aS (IH.out a.num y t1 w3 bv Y.1.1 Y.1.2 T (HB.gb (l.2.tr K)));unfold CI at h7;have h6:¬dT ca g:=λh=>by have:=dT.lt l.1 h;omega
      have h5:H g=none:=l.1.fz.none hg;have D:=aS (aL T (aL (l.2.tr K) J));have w9:w.heap.size<=g:=bV l.2.size hg;have c0:=K.size;clear T K e2 J;go_wp2_with fail;refine dX 3 ?_;rw[dH];go_wp2_with fail;refine h7.mono ?_;rintro e w4 ⟨g4,c4,v4,U,rfl,f4,x4,n4,e4⟩;have b4:w4.heap[g]? =_:=g4.at D.2.2 h6;obtain⟨E,m,_,rfl⟩:=oE e4.er;obtain⟨z0,z1,z2,z3,z4,_⟩:=pP b4
      have w5:U g=none:=by
       cases A:U g with
       |none=>rfl
       |some o=>
        rcases n4 g o A with h|h
        ·rw[h5]at h;cases h
        ·have:=aT D.2.2;omega
      have c5:=nI c4 h6 h5 0 (.iface E (.pointer (some ⟨m,0,none⟩)));have b5:=z4 (.iface E (.pointer (some ⟨m,0,none⟩)));have j:=aS (aL c5 (aL (xM (D.2.1.tr g4) w9 0 (.iface E (.pointer (some ⟨m,0,none⟩)))) (aL (f4.set w5 0 (.iface E (.pointer (some ⟨m,0,none⟩)))) (aL x4 (aL n4 (aL e4 b5))))));have c1:=D.2.1.size;obtain⟨c9,d0,_⟩:=pP b5;have e9:=aS (IH.out a2.num y2 t2 (w4.setCell ⟨g,0,none⟩ (.iface E (.pointer (some ⟨m,0,none⟩)))) bv Y.2.1 Y.2.2 c5 (HB.gb j.2.1));unfold CI at e9;clear g4 c4 f4 x4 n4 e4 b4 z4 c5 b5 h7 D;go_wp2_with fail;generalize w4.setCell ⟨g,0,none⟩ (.iface E (.pointer (some ⟨m,0,none⟩)))=W5 at*;rw[dH];go_wp2_with fail;refine e9.mono ?_;rintro e w6 ⟨Z,c6,v6,H6,rfl,f6,x6,n6,e6⟩;have b6:w6.heap[g]? =_:=Z.at j.2.2.2.2.2.2 h6;obtain⟨P,R,_,rfl⟩:=oE e6.er;obtain⟨z0,z1,z2,z3,_,z4⟩:=pP b6
      have a3:H6 g=none:=by
       cases A:H6 g with
       |none=>rfl
       |some o=>
        rcases n6 g o A with h|h
        ·rw[h5]at h;cases h
        ·have:=aT j.2.2.2.2.2.2;omega
      have c7:=nI c6 h6 h5 1 (.iface P (.pointer (some ⟨R,0,none⟩)));have b7:=z4 (.iface P (.pointer (some ⟨R,0,none⟩)))
      have x3:Fz U w6:=j.2.2.1.gb Z (λk o e hk=>by
       rcases j.2.2.2.2.1 k o e with h|h
       ·rw[j.1.off k hk]at h;cases h
       ·have:=dT.lt l.1 hk
        omega)
      have h8:=WG (x3.set w5 1 (.iface P (.pointer (some ⟨R,0,none⟩)))) (f6.set a3 1 (.iface P (.pointer (some ⟨R,0,none⟩))));have c8:=j.2.1.size
      have C:=aS (aL c7 (aL (xM (j.2.1.tr Z) w9 1 (.iface P (.pointer (some ⟨R,0,none⟩)))) (aL h8.1 (aL (show∀k o,H k=some o->KC U H6 k=some o fromλk o e=>h8.2.1.1 k o (j.2.2.2.1 k o e)) (aL (show∀k o,KC U H6 k=some o->H k=some o\/w.heap.size<=k fromλk o e=>by
       unfold KC at e;split at e
       ·rename_i o' A;cases e;exact(j.2.2.2.2.1 k o A).imp id (λh=>by omega)
       ·exact(n6 k o e).imp id (λh=>by omega)) (aL (EL.onto j.2.2.2.2.2.1 h8.2.1.1) (EL.onto e6 h8.2.2.1)))))))
      obtain⟨v5,e8,x7⟩:=c7.root_val (aU.1 W.1).1 W.2.1;obtain⟨y0,y1,_,_⟩:=fZ e8;obtain⟨zc,zd,_⟩:=pP b7;rcases x7 with⟨r,_⟩|⟨a4,r,_,_,_,I⟩
      ·rw[e7.out]at r;cases r
      obtain rfl:=aY (e7.symm.trans r);obtain⟨q9,I⟩:=I;have G:=s.1
      obtain⟨q8,x9⟩:∃q8,v5= .iface 291 (.pointer (some ⟨q8,0,none⟩)):=by
       rcases I with⟨b,_⟩|⟨b,_⟩|⟨b,_⟩|⟨b,_⟩|⟨b,_⟩|⟨b,_,_,_,_,_,_,p3,_⟩
       ·exact absurd (G.symm.trans b) (by decide)
       ·exact absurd (G.symm.trans b) (by decide)
       ·rcases b with b|b<;>exact absurd (G.symm.trans b) (by decide)
       ·exact absurd (G.symm.trans b) (by decide)
       ·exact absurd (G.symm.trans b) (by decide)
       ·exact⟨q9,p3⟩
      subst x9;have LI:=aS (PH q8 g 2 E m P R _ zc zd);clear Z c6 f6 x6 n6 e6 b6 z4 c7 b7 x3 h8 e8 I r e9 j G;go_wp2_with fail;generalize w6.setCell ⟨g,1,none⟩ (.iface P (.pointer (some ⟨R,0,none⟩)))=W7 at*;rw[dH];go_wp2_with fail;refine LI.mono ?_;rintro e w8 ⟨g8,p,rfl,O,x5⟩;have QE:=aS (NP (lo:=lo) C.1 C.2.1 C.2.2.1 C.2.2.2.1 C.2.2.2.2.1 g8 O x5 (Dl (bV HB.2.2 (bV C.2.1.size O)) (EL.onto C.2.2.2.2.2.1 (λk o e=>jS (C.2.2.1.none O) k o e)) (EL.onto C.2.2.2.2.2.2 (λk o e=>jS (C.2.2.1.none O) k o e)) iR));rw[<-s.1]at QE;clear g8 O x5 LI;go_wp2;go_ret;exact QE.out
theorem IW{a:Nat}{H:aB}{e:aC}{b:bM}{d:aI}{L:aC}:∀f,Xy a H e b d L f
 |0=>λc x t w g _ h _ _=>by cases h
 |f+1=>T7 (IW f)
theorem CX{lo:Nat}{f c x:Nat}{w:World}(C:ca[c]? =some x)(D:cI σ L f c=some t)(m:fY H ca σ d w)(s:jw lo ca L bv w):
  Calls prog 127 #[CP x,bv] w λe a=>Gb (dT ca) w a/\fY H ca σ d a/\∃v i,e= .returned (.agg #[v])/\Fz i a/\(∀k o,H k=some o->i k=some o)/\(∀k o,i k=some o->H k=some o\/w.heap.size<=k)/\EL lo i ca v t:=by
 have r:w.grownBy (w.alloc (.cells #[.nilIface] 174)) none:=aO _ _ _;have y:=aS (IW f c x t (w.alloc (.cells #[.nilIface] 174)) bv C D (m.grown0 r) (s.gb (Gb.new r)));have E:=m.fz.none (aV w.heap.size);have F:¬dT ca w.heap.size:=λO=>by have:=dT.lt m O;omega
 have N:bv= .map none\/∃n,bv= .map (some n):=by
  rcases s.1 with⟨h,_⟩|⟨n,h,_⟩
  ·exact aQ h
  ·exact aM ⟨n,h⟩
 clear C D m s;unfold CI CP at*;rcases N with rfl|⟨n,rfl⟩
 all_goals
  go_enter func127,ntmps127;go_wp2_with fail;refine y.mono ?_;rintro e a ⟨g,A,v,i,rfl,z,G,u,q⟩;have p:a.heap[w.heap.size]? =some (.cells #[.nilIface] 174 (0,0)):=g.at (bY _ _) F
  have P:i w.heap.size=none:=by
   cases M:i w.heap.size with
   |none=>rfl
   |some o=>
    rcases u _ o M with h|h
    ·rw[E]at h;cases h
    ·simp at h;omega
  obtain⟨j,l,_,rfl⟩:=oE q.er;have X:a.cell? ⟨w.heap.size,0,none⟩=some .nilIface:=cU p 0 rfl;have Y:a.frozen? ⟨w.heap.size,0,none⟩=false:=ou p 0;have J:(a.setCell ⟨w.heap.size,0,none⟩ (.iface j (.pointer (some ⟨l,0,none⟩)))).cell? ⟨w.heap.size,0,none⟩=some (.iface j (.pointer (some ⟨l,0,none⟩))):=cU (ox p _) 0 rfl
  have I:Fz i (a.setCell ⟨w.heap.size,0,none⟩ (.iface j (.pointer (some ⟨l,0,none⟩)))):=λk o e=>by rw[bO _ _ _ _ (show k≠w.heap.size fromλK=>by rw[K,P]at e;cases e)];exact z k o e
  have Q:=aS (aL (show Gb (dT ca) w (a.setCell ⟨w.heap.size,0,none⟩ (.iface j (.pointer (some ⟨l,0,none⟩))))from((Gb.new r).tr g).set (b:=w.heap.size) (aM (aV _)) 0 _) (aL (nI A F E 0 (.iface j (.pointer (some ⟨l,0,none⟩)))) (aL I (aL G (aL u q)))));clear g A z G u q p I y;go_wp2;refine eN (v:= .agg #[.iface j (.pointer (some ⟨l,0,none⟩))]) (by simp[results,results127,go_sem,J]) rfl ?_;obtain⟨R,S,T,U,V,W⟩:=Q.out;exact⟨R,S,_,i,rfl,T,U,λk o e=>(V k o e).imp id (λe=>by simp at e;omega),W⟩
def oF(a:Addr):Ending:= .panicked [{v:= .iface 257 (.agg #[eQ a]),recovered:=false}]
theorem Dp{w:World}(h:LW w):12<w.heap.size:=by
 have e:=h.cell jv 0 (by rw[Lib.pow10Tab_length];decide);rcases bZ 12 w.heap.size with a|x
 ·exact a
 ·simp[World.cell?,tH x]at e
structure rP(base:Nat)(ad:aF)(w:World):Prop where
 g3:w.cell? ⟨5,0,none⟩=some (eQ (ad 3))
 g4:w.cell? ⟨6,0,none⟩=some (eQ (ad 4))
 g5:w.cell? ⟨7,0,none⟩=some (eQ (ad 5))
 g6:w.cell? ⟨8,0,none⟩=some (eQ (ad 6))
 lo:10+1<=base
 le:base<=w.heap.size
 tab:LW w
 lo2:12<base
theorem rP.gb{a:aF}{w:World}(h:rP C.base a w)(g:Gb C.own w w'):rP C.base a w':=by have l:=h.lo;have c:=h.le;have x:∀b,b<10+1->b<w.heap.size/\¬C.own b:=λb d=>⟨by omega,λe=>by have:=e.1;omega⟩;exact⟨g.cell h.g3 (x _ (by decide)).1 (x _ (by decide)).2,g.cell h.g4 (x _ (by decide)).1 (x _ (by decide)).2,g.cell h.g5 (x _ (by decide)).1 (x _ (by decide)).2,g.cell h.g6 (x _ (by decide)).1 (x _ (by decide)).2,l,bV c g.size,IV h.tab (g.block _ (aZ h.lo2 c) (λe=>absurd e.1 (Nat.not_le.2 h.lo2))),h.lo2⟩
theorem rP.of{e:aF}{a:aE}{b:aG}{w:World}(h:SW w e a b)(x:LW w):rP w.heap.size e w:=⟨h.g3,h.g4,h.g5,h.g6,h.hsz,aV _,x,Dp x⟩
theorem rP.tabW{e:aF}{w:World}(h:rP C.base e w)(x:∀a,a∈ca->C.own a):Dk ca w:=⟨h.tab,λb=>absurd (x _ b).1 (Nat.not_le.2 h.lo2),aZ h.lo2 h.le⟩
def zE(C:TC)(a:aF)(H:aB)(b:aC)(r:Sum Nat (bM×Nat))(c:lQE)(w:World)(e:Ending)(h:World):Prop:=match r with
 | .inl q=>e=oF (a q)/\Gb C.own w h
 | .inr x=>js C H b x.1 x.2 c w e h
theorem zE.low{C:TC}{b:aF}{H a:aB}{ca c:aC}{r:Sum Nat (bM×Nat)}{d:lQE}{w f i:World}{e:Ending}(h:zE C b a c r d f e i)(x:MX H a ca c w)(g:Gb C.own w f):zE C b H ca r d w e i:=by
 cases r with
 |inl q=>exact⟨h.1,g.tr h.2⟩
 |inr y=>exact js.low h x g
def qJ(r:Option (bM×Nat)):Option (Sum Nat (bM×Nat)):=match r with
 |none=>none
 |some x=>some (.inr x)
def oG(r:Option (Sum Nat (bM×Nat)))(k:bM->Nat->Option (Sum Nat (bM×Nat))):Option (Sum Nat (bM×Nat)):=match r with
 |none=>none
 |some (.inl q)=>some (.inl q)
 |some (.inr x)=>k x.1 x.2
def zf(a b:Nat)(h:bM)(k:bM->Option (Sum Nat (bM×Nat))):Option (Sum Nat (bM×Nat)):=match jK a b h with
 |none=>none
 |some none=>some (.inl 3)
 |some (some e)=>k e
def uT(r:Option (Sum Nat (bM×Nat))):Option (Sum Nat (bM×Nat)):=oG r λh c=>match JY h (cT c)with
 |none=>none
 |some true=>some (.inl 4)
 |some false=>some (.inr (h,c))
def qK(P:Ex->List (aA×Et)->bM->Option (Sum Nat (bM×Nat)))(b:Ex)(h e:lQE)(w:bM):Option (Sum Nat (bM×Nat)):=if h.length+e.length<=1000 then P b (h++e) w else none
def Dq(P:Ex->List (aA×Et)->bM->Option (Sum Nat (bM×Nat)))(p:aA)(b:Ex)(w:lQE)(x:bM):Option (Sum Nat (bM×Nat)):=
 oG (qJ (CH none x)) λa h=>oG (qK P b w [(p,cT h)] a) λc e=>qJ (CH (some ⟨dO,[],0,[cT h,cT e]⟩) c)
def KE(P:Ex->List (aA×Et)->bM->Option (Sum Nat (bM×Nat)))(a b:Ex)(e:lQE)(d:bM):Option (Sum Nat (bM×Nat)):=
 oG (P a e d) λf w=>oG (P b e f) λg x=>oG (qJ (CH none g)) λi h=>oG (qJ (CH (some ⟨dO,[],0,[cT x,cT h]⟩) i)) λj c=>zf w c j λk=>some (.inr (k,h))
def ZP(P:Ex->List (aA×Et)->bM->Option (Sum Nat (bM×Nat)))(a b:Ex)(h:lQE)(x:bM):Option (Sum Nat (bM×Nat)):=
 oG (P a h x) λc e=>oG (P b h c) λd w=>qJ (CH (some ⟨eS,[],0,[cT e,cT w]⟩) d)
def Wz(P:Ex->List (aA×Et)->bM->Option (Sum Nat (bM×Nat)))(a b d:Ex)(h:lQE)(f:bM):Option (Sum Nat (bM×Nat)):=
 oG (P a h f) λg w=>oG (qJ (CH (some ⟨eU,[],0,[]⟩) g)) λi x=>zf w x i λj=>oG (P b h j) λk e=>oG (P d h k) λl c=>zf e c l λm=>some (.inr (m,e))
def Zh(C:TC)(x:aF)(P:Ex->List (aA×Et)->bM->Option (Sum Nat (bM×Nat)))(e:Ex):Prop:=∀(v:Value) (m:Nat) (b:bM) (h:lQE) (r:Sum Nat (bM×Nat)) (H:aB) (a:aC) (d:aI) (c:Value) (f:List NE) (w:World),
 dI m H v e->P e h b=some r->kD C H a b d h c f w->rP C.base x w->Calls prog 171 #[CP C.tb,v] w (zE C x H a r h w)
def ET(C:TC)(x:aF)(P:Ex->List (aA×Et)->bM->Option (Sum Nat (bM×Nat))):Prop:=∀(e:Ex) (v:Value) (m:Nat) (b:bM) (h:lQE) (r:Sum Nat (bM×Nat)) (H:aB) (a:aC) (d:aI) (c:Value) (f:List NE) (w:World),
 dI m H v e->P e h b=some r->kD C H a b d h c f w->rP C.base x w->Calls prog 128 #[CP C.tb,v] w (zE C x H a r h w)
theorem Qy{C:TC}{G:aF}{P:Ex->List (aA×Et)->bM->Option (Sum Nat (bM×Nat))}(F:∀e,Zh C G P e):ET C G (λe l u=>uT (P e l u)):=by
 intro e v m u l r H J d S U w t a h s;simp only[uT]at a
 cases i:P e l u with
 |none=>rw[i]at a;cases a
 |some r1=>
 have n:=aS (F e v m u l r1 H J d S U w t i h s);obtain⟨Y,Z,rfl⟩:=t.val;rw[i]at a
 cases r1 with
 |inl q=>simp only[oG,dK]at a;subst a;clear t i h s;unfold CP at*;go_enter func128,ntmps128;go_wp2_with fail;refine n.mono ?_;rintro e W ⟨rfl,b⟩;have Q:=aS b;clear b n;unfold oF eQ;go_wp2;exact⟨rfl,rfl,Q.out⟩
 |inr y=>
  obtain⟨K,I⟩:=y;simp only[oG]at a;have E:=aS s
  cases p:JY K (cT I)with
  |none=>rw[p]at a;cases a
  |some q=>
   rw[p]at a;have M:=aS p;clear t i h s p;unfold CP at*;go_enter func128,ntmps128;go_wp2_with fail;refine n.mono ?_;rintro e W ⟨L,N,O,x,T,V,rfl,f,c,g,b⟩;have z:=aS (Xq (v:=CI x) ⟨1,oX f⟩ M.out c.ms.cs);have Q:=aS (aL f (aL c (aL g b)));clear f c g b n;unfold CI CP at*;go_wp2_with fail;refine z.mono ?_;rintro e X ⟨rfl,D,o⟩;obtain⟨f,c,g,b⟩:=Q.out;have j:=b.tr (o.mono λk e=>c.clo k e)
   cases q with
   |false=>simp only[dK]at a;subst a;have A:=aS (show js C H J K I l w (.returned (CP x)) X from⟨L,N,O,x,T,V,rfl,f,c.cs D o,g,j⟩);clear f c g b Q z D o j;unfold CP at*;go_wp2;go_ret;exact A.out
   |true=>simp only[dK]at a;subst a;have R:=(E.gb j).g4;have A:=aS j;clear f c g b Q z D o j E;unfold eQ at R;go_wp2;exact⟨rfl,by unfold oF eQ;rfl,A.out⟩
theorem WN{g:aF}{q:lQE}{r:Value}{s:List NE}{w:World}{a b x y:Nat}(h:kD C H ca σ d q r s w)(i:ca[a]? =some x)(j:ca[b]? =some y)(n:jK a b σ=some none)(m:rP C.base g w):
  Calls prog 234 #[CP C.tb,CP x,CP y] w λe t=>e=oF (g 3)/\Gb C.own w t:=by
 have f:=aS (QH i j n h.ms.cs);have Q:=aS (aL h m);clear h i j n m;unfold CP at*;go_enter func234,ntmps234;go_wp2_with fail;refine f.mono ?_;rintro e u ⟨l,rfl⟩;have c:Gb C.own w u:=l.mono λk e=>Q.1.clo k e;have p:=(Q.2.gb c).g3;have o:=aS c;clear l c f Q;unfold eQ at p;go_wp2;exact⟨rfl,by unfold oF eQ;rfl,o.out⟩
theorem uU{C:TC}{L:aF}{P:Ex->List (aA×Et)->bM->Option (Sum Nat (bM×Nat))}(Z:ET C L P){e:Ex}{v:Value}{m:Nat}{V:bM}{n nbs:lQE}{r:Sum Nat (bM×Nat)}{H:aB}{F:aC}{d:aI}{J:Value}{a nws:List NE}{w:World}{gm capm:Nat}
  (T:dI m H v e) (hr:P e (n++nbs) V=some r) (h2:rP C.base L w) (h:kD C H F V d n J a w) (A:nws.length=nbs.length) (h0:0<nws.length) (f:n.length+nbs.length<=1000) (hc:∀j u,(gP nws)[j]? =some u->w.cell? ((⟨gm,0,none⟩:Addr).add j)=some u) (s:∀(i:Nat) (p:NE) q,nws[i]? =some p->nbs[i]? =some q->p.1=q.1/\ER H F p.v q.2):
  Calls prog 208 #[CP C.tb,v, .slice (some ⟨gm,0,none⟩) nws.length capm] w (zE C L H F r n w):=by
 obtain⟨T0,b0,rfl⟩:=T.val
 have e6:(Builtin.len_ #[261] 3 #[J]).run prog w= .ok (.int .i64 (a.length:Int)) w:=by obtain⟨a0,w2,rfl⟩:=h.nr.slice;rfl
 obtain⟨c4,f4⟩:=h.ms.bk.c4;have h9:=h.bs;have l:=h.nr.len;have h3:=h.nr.own;have Q:=aS (aL h (aL T (aL hr (aL s h2))));obtain⟨i0,e3,e8,e9,w0⟩:=oR ES;have h8:=aS Z;have w4:a.length+nws.length<=1000:=by omega
 have W:=aS (aL A (aL l f));clear h T hr s Z A l f h2;unfold CP;go_enter func208,ntmps208;go_wp2_with (at_builtin;refine jQ _ rfl (.tmp 18) (.tmp 19) 261 rfl C.base 403 i0 (.agg #[.string (B []), .nilIface]) 2 32 underlying261 e3 e8 e9 w0 rfl (by decide) _ _ _ rfl h3 ⟨gm,0,none⟩ nws.length capm (gP nws) rfl (vN nws) hc (Df nws) h0 (by unfold maxLen;omega) (by omega) h9 w.heap.size rfl ?_);intro Y w3 w7 S N h1 _;rw[<-vO]at S;obtain⟨A,l,f⟩:=W.out;have O:a.length+nws.length=(a++nws).length:=(bD ..).symm;have M:=S;rw[O]at M;obtain⟨c7,f7⟩:=(Q.1.ms.bk.gb (R:=λk=>J.ownBlock=some k) (Gb.of N (λb e=>aQ e)) (λe=>(Q.1.nr.off _ e).2.2 rfl)).c4
 have o:=aS (Q.1.names (nb':=n++nbs) (vs':=a++nws) (R:=λk=>J.ownBlock=some k) (Gb.of N (λb e=>aQ e)) (λk e=>e) M (by simp[A,l]) (λi p q t z=>by
   rcases bZ i a.length with s|s
   ·rw[bJ s]at t;rw[bJ (by omega)]at z;exact Q.1.nr.is i p q t z
   ·rw[cD s]at t;rw[cD (by omega),<-l]at z
    exact Q.2.2.2.1 _ p q t z) (λk f=>by
   rcases h1 with e|e
   ·have:Y=k:=by simpa[Value.ownBlock]using f
    rw[<-this];exact aQ e
   ·have:Y=k:=by simpa[Value.ownBlock]using f
    exact aM (by omega)) (by simp;omega))
 have D:=aS (h8.out e _ m V (n++nbs) r H F d _ _ _ Q.2.1 Q.2.2.1 o.1 (Q.2.2.2.2.gb o.2));rw[<-O]at o D;clear S N h1 M h3 hc e6 c4 f4 A l f O;unfold CP at D
 cases r with
 |inl q=>go_wp2_with fail;refine D.mono ?_;rintro e w9 ⟨rfl,I⟩;have Q9:=aS (o.2.tr I);clear I D o Q;unfold oF eQ;go_wp2;exact⟨rfl,rfl,Q9.out⟩
 |inr y=>
 obtain⟨w1,c⟩:=y;go_wp2_with fail;refine D.mono ?_;rintro e w9 ⟨H1,h6,d1,x,w8,h5,rfl,X,E,h4,I⟩;have e5:=E.nr.len;obtain⟨A,l,f⟩:=W.out;obtain⟨o1,o2⟩:=E.nr.own;have e4:(n++nbs).length=n.length+nbs.length:=bD ..;rcases o2 with⟨_,U⟩|⟨g,G,h7,rfl,U,o4,o5,o6,o7,o8⟩
 ·omega
 have e0:a.length<=G:=by omega
 have w5:G<=9223372036854775807:=by unfold maxLen at o6;omega
 obtain⟨c9,f9⟩:=E.ms.bk.c4
 have K:=aS (E.names (nb':=n) (vs':=h5.take a.length) (nv':= .slice (some ⟨g,0,none⟩) a.length G) (R:=λ_=>False) (Gb.refl _ _) (λk e=>e.elim) ⟨by rw[vN], .inr ⟨g,G,h7,by rw[gK,oK (by omega)],U,o4,by rw[gK,oK (by omega)];exact e0,o6,o7,by
   rw[gK,oK (by omega),IU,<-o8,List.take_take,oK (by omega)]⟩⟩ (by rw[gK,oK (by omega),l]) (λi p q t z=>by
   have s:i<a.length:=by rw[l];exact(aU.1 z).1
   rw[iC s]at t
   exact E.nr.is i p q t (by rw[bJ (by omega)];exact z)) (λk f=>aQ (by simpa[Value.ownBlock]using f)) (by omega))
 have Q2:=aS (show js C H F w1 c n w (.returned (CP x)) (w9.setCell ⟨C.tb,4,none⟩ (.slice (some ⟨g,0,none⟩) a.length G))from⟨H1,h6,d1,x,_,_,rfl,X,K.1,h4.low o.2.size,(o.2.tr I).tr K.2⟩);have w6:a.length<=h5.length:=by omega
 clear X E h4 I K o1 U o4 o7 o8 o D Q e5 A l f e4;unfold CP at*;go_wp2;go_ret;exact Q2.out
theorem B7{X:Prop}(w:World)(h:X):wpAny prog .text #[] (λ_ _ _=>True) 0 #[] ⟨#[],[]⟩ w->X:=λ_=>h
end Go.Proofs.YtcdijppegfcoaaaGreatDoor
