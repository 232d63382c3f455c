import Derived.Test.YtcdijppegfcoaaaGreatDoorZH14
import Derived.Test.YtcdijppegfcoaaaGreatDoorZHSH
set_option maxRecDepth 100000
set_option maxHeartbeats 8000000
set_option linter.unusedSimpArgs false
namespace Go.Proofs.YtcdijppegfcoaaaGreatDoor
open Go.RowKit Tryz
variable{T:List fI}{l:aA}{i j k N m:Nat}{ns:List aA}
theorem YY(T:List fI)(n:Nat)(hE:Ud T n)(w:World)(a:Nat)(s:ByteArray)(H:aB)(ns:aD)(L:St)(x:Ty)(l:aD)(i:St)(t:Ty)(h2:aD)(h3:St)
  (hx:iK T n ns L=some (x,l,i)) (hy:(if fW T i iQ=true then match iK T n l i.up with
    |none=>none
    |some (y,n2,A)=>some (⟨eS,0,[x,y]⟩,n2,cL T A eO)
   else some (x,l,cL T i eO))=some (t,h2,h3)) (h:sX fN w a s T L) (hz:Fz H w) (hr:H a=none):
  Calls prog 183 #[A5 a] w λe w'=>Jl w w' a s T H h2 h3 e t:=by
 have e6:=h.lt;have HP:=aS (h.alloc (.cells #[.pointer (some ⟨a,0,none⟩)] 236));have HZ:=aS (hz.alloc (.cells #[.pointer (some ⟨a,0,none⟩)] 236));have V:=aS hE;have HX:=aS hx;have E:=aS hy;have X:=aS ((gX.refl a w).alloc (.cells #[.pointer (some ⟨a,0,none⟩)] 236));clear h hz hE hx hy;unfold A5;go_enter func183,ntmps183;go_wp2_with fail;refine(V.out _ a s H ns L x l i HX.out HP.out HZ.out hr).mono ?_;rintro e M ⟨m,(⟨v1,D,m1,rfl,p1,P,G,J⟩|⟨d,b,rfl,j⟩)⟩
 case inr=>have c:=E.out;rw[aN (by rw[vJ d];decide),iA d]at c;cases c;unfold eA;go_wp2;exact⟨rfl,X.trans m,aM ⟨d,b,rfl,j⟩⟩
 case inl=>
 obtain⟨t1,b1,h9,rfl,h5⟩:=J.val P
 have h0:M.cell? ⟨w.heap.size,0,none⟩=some (.pointer (some ⟨a,0,none⟩)):=by rw[eB m (by simp) (by omega)];simp[go_sem]
 have e2:w.heap.size<M.heap.size:=by have:=m.size;simp at this;omega
 have z:D a=none:=by rw[G.2 a (by simp;omega)];exact hr
 have P1:=aS p1;have K1:=aS (X.trans m);have Z1:=aS P;have S:=aS (G.from (n:=w.heap.size) (by simp));have R1:=aS J;clear p1 m P G J h5 h9;go_wp2_with fail;refine(oT fN nP _ a s T i iQ P1.out (aM (by decide))).mono ?_;rintro e N ⟨rfl,f,o⟩
 have h1:N.cell? ⟨w.heap.size,0,none⟩=some (.pointer (some ⟨a,0,none⟩)):=by rw[eB o e2 (by omega)];exact h0
 have e7:M.heap.size<=N.heap.size:=o.size;have Z:=aS f;have u:=aS (K1.trans o);have Z2:=aS (Z1.kept o z);clear f o h0
 cases k:fW T i iQ with
 |false=>
  have f:=Z.out;rw[nO k]at f;have F:=aS f;have c:=E.out;rw[aN (by rw[k];decide)]at c;cases c;clear k f;go_wp2_with fail;refine(rE fN nP _ a s T i eO F.out (aM (by decide))).mono ?_;rintro e C ⟨g,(⟨rfl,r⟩|⟨d,b,rfl,j⟩)⟩
  case inr=>unfold eA;go_wp2;exact⟨rfl,u.trans g,aM ⟨d,b,rfl,j⟩⟩
  case inl=>have Q:=aS (aL r g);clear r g;go_wp2;go_ret;exact⟨u.trans Q.2,aQ ⟨_,D,m1,rfl,Q.1,Z2.kept Q.2 z,S.out,R1.out⟩⟩
 |true=>
  have f:=Z.out;rw[jN k]at f;have F:=aS f;have c:=E.out;rw[aR k]at c
  cases v:iK T n l i.up with
  |none=>rw[v]at c;cases c
  |some q=>
  obtain⟨y,n2,A⟩:=q;rw[v]at c;cases c;have W:=aS v;clear k f v;go_wp2_with fail;refine(V.out _ a s D l _ y _ A W.out F.out Z2.out z).mono ?_;rintro e C ⟨g,(⟨v2,H3,m2,rfl,r,R,I,K⟩|⟨d,b,rfl,j⟩)⟩
  case inr=>unfold eA;go_wp2;exact⟨rfl,u.trans g,aM ⟨by rw[iA d];exact d,b,rfl,by rw[iA d];exact j⟩⟩
  case inl=>
  obtain⟨t2,b2,e0,rfl,h6⟩:=K.val R
  have h4:C.cell? ⟨w.heap.size,0,none⟩=some (.pointer (some ⟨a,0,none⟩)):=by rw[eB g (by omega) (by omega)];exact h1
  have e8:N.heap.size<=C.heap.size:=g.size;have h8:H3 a=none:=by rw[I.2 a (by omega)];exact z
  have P3:=aS r;have Y:=aS (u.trans g);have Z3:=aS R;have U:=aS (I.from (n:=w.heap.size) (by omega));have R3:=aS K;clear r g R I K h6 e0 h1;go_wp2_with fail;refine(rE fN nP _ a s T A eO P3.out (aM (by decide))).mono ?_;rintro e w4 ⟨p,(⟨rfl,p4⟩|⟨d,b,rfl,j⟩)⟩
  case inr=>unfold eA;go_wp2;exact⟨rfl,Y.trans p,aM ⟨d,b,rfl,j⟩⟩
  case inl=>
  have e9:C.heap.size<=w4.heap.size:=p.size;have Z4:=aS (Z3.kept p h8);have P4:=aS p4;have K4:=aS (Y.trans p);clear p4 p h4;go_wp2;go_ret;obtain⟨H7,z7,O,h7⟩:=TI Z4.out #[(.iface t1 (.pointer (some ⟨b1,0,none⟩))),(.iface t2 (.pointer (some ⟨b2,0,none⟩)))] 384;have e5:=N6 _ _ _ _ _ _ W.out;refine⟨K4.alloc _,aQ ⟨_,H7,max m1 m2+1,rfl,P4.alloc _,z7,(S.trans U.out (aV _)).trans O (by omega),w4.heap.size,aM (aM (aM (aQ ⟨rfl,x,y,(.iface t1 (.pointer (some ⟨b1,0,none⟩))),(.iface t2 (.pointer (some ⟨b2,0,none⟩))),rfl,rfl,h7, ?_, ?_⟩)))⟩⟩
  ·exact(gG.ext O _ _ _ (gG.ext U.out _ _ _ (gG.wide e5 _ _ _ R1.out))).le (by omega)
  ·exact(gG.ext O _ _ _ R3.out).le (by omega)
theorem Kk(T:List fI)(n:Nat)(Z:Zc T n)(Y:Ud T n):Ud T (n+1):=by
 intro w c s H ns st t e5 e6 f h hz hr;have h9:=h.lt;have HP:=aS (h.alloc (.cells #[.pointer (some ⟨c,0,none⟩)] 236));have HZ:=aS (hz.alloc (.cells #[.pointer (some ⟨c,0,none⟩)] 236));have HE:=aS Y;have HO:=aS Z;rw[iK]at f
 cases m:lT (iK T n) T ns st with
 |none=>rw[m]at f;cases f
 |some q=>
 obtain⟨x,D,p⟩:=q;rw[m]at f;simp only at f;have HX:=aS m;have u:=aS f;have P:=aS ((gX.refl c w).alloc (.cells #[.pointer (some ⟨c,0,none⟩)] 236));clear h hz Y m f Z;unfold A5;go_enter func110,ntmps110;go_wp2_with fail;refine(HO.out _ c s H ns st x D p HX.out HP.out HZ.out hr).mono ?_;rintro e G ⟨i,(⟨v1,r,m1,rfl,p1,K,A,E⟩|⟨k,b,rfl,C⟩)⟩
 case inr=>have a:=u.out;rw[aN (by rw[vJ k];decide)]at a;cases a;unfold eA;go_wp2;exact⟨rfl,P.trans i,aM ⟨k,b,rfl,C⟩⟩
 case inl=>
 obtain⟨t1,U,h4,rfl,h2⟩:=E.val K
 have W:G.cell? ⟨w.heap.size,0,none⟩=some (.pointer (some ⟨c,0,none⟩)):=by rw[eB i (by simp) (by omega)];simp[go_sem]
 have h6:w.heap.size<G.heap.size:=by have:=i.size;simp at this;omega
 have h0:r c=none:=by rw[A.2 c (by simp;omega)];exact hr
 have P1:=aS p1;have K1:=aS (P.trans i);have Z1:=aS K;have M:=aS (A.from (n:=w.heap.size) (by simp));have R:=aS E;clear p1 i K A E h2 h4;go_wp2_with fail;refine(oT fN nP _ c s T p cV P1.out (aM (by decide))).mono ?_;rintro e I ⟨rfl,d,j⟩
 have h1:I.cell? ⟨w.heap.size,0,none⟩=some (.pointer (some ⟨c,0,none⟩)):=by rw[eB j h6 (by omega)];exact W
 have e0:G.heap.size<=I.heap.size:=j.size;have Q:=aS d;have v:=aS (K1.trans j);have S:=aS (Z1.kept j h0);clear d j W
 cases g:fW T p cV with
 |false=>have d:=Q.out;rw[nO g]at d;have z:=aS d;have a:=u.out;rw[aN (by rw[g];decide)]at a;cases a;clear g d;go_wp2;go_ret;exact⟨v.out,aQ ⟨_,r,m1,rfl,z.out,S.out,M.out,R.out⟩⟩
 |true=>
  have d:=Q.out;rw[jN g]at d;have z:=aS d;have a:=u.out;rw[aR g]at a
  cases l:iK T n D p.up with
  |none=>rw[l]at a;cases a
  |some q=>
  obtain⟨y,n2,s2⟩:=q;rw[l]at a;cases a;have O:=aS l;clear g d l;go_wp2_with fail;refine(HE.out _ c s r D _ y _ _ O.out z.out S.out h0).mono ?_;rintro e w3 ⟨o,(⟨v2,H3,m2,rfl,p3,L,X,F⟩|⟨k,b,rfl,C⟩)⟩
  case inr=>unfold eA;go_wp2;exact⟨rfl,v.trans o,aM ⟨k,b,rfl,C⟩⟩
  case inl=>
  obtain⟨t2,V,h5,rfl,h3⟩:=F.val L;have e2:I.heap.size<=w3.heap.size:=o.size;have P3:=aS p3;have K3:=aS (v.trans o);have Z3:=aS L;have N:=aS (X.from (n:=w.heap.size) (by omega));have R3:=aS F;clear p3 o L X F h3 h5 h1;go_wp2;go_ret;obtain⟨H7,z7,J,h7⟩:=TI Z3.out #[(.iface t1 (.pointer (some ⟨U,0,none⟩))),(.iface t2 (.pointer (some ⟨V,0,none⟩)))] 293;have h8:=N6 _ _ _ _ _ _ O.out;refine⟨K3.alloc _,aQ ⟨_,H7,max m1 m2+1,rfl,P3.alloc _,z7,(M.trans N.out (aV _)).trans J (by omega),w3.heap.size,aM (aM (aM (aM ⟨rfl,x,y,(.iface t1 (.pointer (some ⟨U,0,none⟩))),(.iface t2 (.pointer (some ⟨V,0,none⟩))),rfl,rfl,h7, ?_, ?_⟩)))⟩⟩
  ·exact(gG.ext J _ _ _ (gG.ext N.out _ _ _ (gG.wide h8 _ _ _ R.out))).le (by omega)
  ·exact(gG.ext J _ _ _ R3.out).le (by omega)
theorem we{h:St}{x y:aA}(e:fW T h x=false)(a:fW T h y=false):cL T h x=cL T h y:=by
 have w:¬fW T h x=true:=by rw[e];decide
 have b:¬fW T h y=true:=by rw[a];decide
 simp only[cL,aN w,aN b]
theorem Uq(T:List fI)(n:Nat)(hE:Ud T n):Zc T n:=by
 intro w d s H X st t w9 x0 hs h hz z;have x1:=h.lt;have e1:=h.size;have Q:=h.neg;have w6:s.data.toList.length=s.size:=by rw[eH];rfl
 have HP:=aS (h.alloc (.cells #[.pointer (some ⟨d,0,none⟩)] 236));have HZ:=aS (hz.alloc (.cells #[.pointer (some ⟨d,0,none⟩)] 236));have HE:=aS hE;have I:=aS hs;have K0:=aS ((gX.refl d w).alloc (.cells #[.pointer (some ⟨d,0,none⟩)] 236));clear h hz hE hs;unfold A5;go_enter func142,ntmps142;go_wp2_with fail;refine(oT fN nP _ d s T st nD HP.out (aQ (by decide))).mono ?_;rintro e w1 ⟨rfl,p1,U⟩
 have h5:w1.cell? ⟨w.heap.size,0,none⟩=some (.pointer (some ⟨d,0,none⟩)):=by rw[eB U (by simp) (by omega)];simp[go_sem]
 have x3:w.heap.size<w1.heap.size:=by have:=U.size;simp at this;omega
 have P1:=aS p1;have K1:=aS (K0.trans U);have Z1:=aS (HZ.kept U z);clear p1 U
 cases c:fW T st nD with
 |true=>have p:=P1.out;rw[jN c]at p;have P:=aS p;have a:=I.out;unfold lT at a;rw[aR c]at a;cases a;clear c p;go_wp2;go_ret;obtain⟨D,C,A,u⟩:=TI Z1.out #[.string (B nD)] 348;exact⟨K1.alloc _,aQ ⟨_,D,1,rfl,P.alloc _,C,A.from (by omega),w1.heap.size,aM (aQ ⟨aQ rfl,rfl,rfl,u⟩)⟩⟩
 |false=>
 have G:=aS c;have p:=P1.out;rw[nO c]at p;have e7:=aS p;clear c p P1;go_wp2_with fail;refine(oT fN nP _ d s T st eU e7.out (aQ (by decide))).mono ?_;rintro e Y ⟨rfl,p2,V⟩
 have h6:Y.cell? ⟨w.heap.size,0,none⟩=some (.pointer (some ⟨d,0,none⟩)):=by rw[eB V (by omega) (by omega)];exact h5
 have x4:w1.heap.size<=Y.heap.size:=V.size;have P2:=aS p2;have K2:=aS (K1.trans V);have Z2:=aS (Z1.kept V z);clear p2 V h5
 cases c:fW T st eU with
 |true=>have p:=P2.out;rw[jN c]at p;have P:=aS p;have a:=I.out;unfold lT at a;rw[aN (by rw[G.out];decide),aR c]at a;cases a;clear c p;go_wp2;go_ret;obtain⟨D,C,A,u⟩:=TI Z2.out #[.string (B eU)] 348;exact⟨K2.alloc _,aQ ⟨_,D,1,rfl,P.alloc _,C,A.from (by omega),Y.heap.size,aM (aQ ⟨aM rfl,rfl,rfl,u⟩)⟩⟩
 |false=>
 have L:=aS c;have p:=P2.out;rw[nO c]at p;clear c P2;obtain⟨J,l,h1⟩:=p.place;have N:=s9 fN nP s.data.toList J l.1;have e8:=aS p;have x2:=p.lt;clear p;have R:=N.name;rw[<-l.tk]at R;have e3:∀x,x∈fN->(kQ s.data.toList J=x↔(tk T st.k).is=x):=λx f=>by rw[l.tk];exact N.word x f
 have h2:kQ s.data.toList J∉fN:=λf=>by
  have e:=(e3 _ f).1 rfl;have e5:=f;simp only[fN,bH,cE,eK]at e5;rcases e5 with e2|e2
  ·have:=G.out;rw[e2]at e;simp[fW,Q,e]at this
  ·have:=L.out;rw[e2]at e;simp[fW,Q,e]at this
 obtain⟨c0,c1,c2,c3,f1,f2,f3⟩:=sT h1;clear c0 c2 c3 f1 f2 f3 e3;by_cases O:mD s.data.toList J=2
 ·have y:=R.1 ⟨O,h2⟩;rw[O]at c1;have h3:=l.next nP (by rw[y];decide) (by rw[y];decide);have e0:=N.real (by rw[<-l.tk,y];decide) (by rw[<-l.tk,y];decide);have HN:=aS h3.1;have HJ:=aS (show J+(kQ s.data.toList J).length<=s.size by rw[<-w6];exact h3.2);have HT:=aS (show kQ s.data.toList J=(tk T st.k).s by rw[l.tk];exact e0.1);have RD:=aS h1;have a:=I.out;unfold lT at a;have h9:fW T st ft=false:=by simp[fW,y];intro _;decide
  have i:fW T st eD=false:=by simp[fW,y];intro _;decide
  have K:fW T st bK=true:=by simp[fW,Q,y]
  rw[aN (by rw[G.out];decide),aN (by rw[L.out];decide),aN (by rw[h9];decide),aN (by rw[i];decide),sD K,jN K]at a;cases a;clear l h1 N y h3 e0 h9 i K O R h2;go_wp2_with (go_at_call 175;refine(OJ _ d s J e1 RD.out HJ.out).mono ?_;rintro e wT ⟨rfl,rT,kT⟩;have x9:Y.heap.size<=wT.heap.size:=kT.size;have RT:=aS rT;have KT:=aS kT;clear rT kT);go_ret;obtain⟨g1,g2,g3⟩:=nw X (tk T st.k).s;obtain⟨D,C,A,u⟩:=TI (Z2.kept KT.out z) #[.string (B (kQ s.data.toList J))] 313;rw[HT.out]at u C;rw[HT.out];exact⟨(K2.trans KT.out).alloc _,aQ ⟨_,D,1,rfl,sX.alloc (st:=st.up) ⟨Q,⟨_,HN.out,RT.out⟩,e1⟩ _,C,A.from (by omega),wT.heap.size,aQ ⟨rfl,rfl,⟨g1,by rw[g2,<-HT.out];have:=HJ.out;omega⟩,rfl,by rw[g2];exact u⟩⟩⟩
 ·have hq:(((mD s.data.toList J:Nat):Int)==2)=false:=by simp;omega
  have K:fW T st bK=false:=by have:¬(tk T st.k).is=bK:=λe=>O (R.2 e).1;simp[fW,this]
  have e6:=aS K;clear K R h2 O h1 N l;generalize mD s.data.toList J=kk at*;go_wp2_with fail;refine(oT fN nP _ d s T st ft e8.out (aM (by decide))).mono ?_;rintro e w3 ⟨rfl,p3,W⟩
  have h0:w3.cell? ⟨w.heap.size,0,none⟩=some (.pointer (some ⟨d,0,none⟩)):=by rw[eB W (by omega) (by omega)];exact h6
  have x5:Y.heap.size<=w3.heap.size:=W.size;have P3:=aS p3;have Z:=aS (K2.trans W);have Z3:=aS (Z2.kept W z);clear p3 W h6 c1 hq
  cases c:fW T st ft with
  |true=>
   have p:=P3.out;rw[jN c]at p;have P:=aS p;have a:=I.out;unfold lT at a;rw[aN (by rw[G.out];decide),aN (by rw[L.out];decide),aR c]at a
   cases f:iK T n X st.up with
   |none=>rw[f]at a;cases a
   |some q=>
   obtain⟨x,n1,s1⟩:=q;rw[f]at a;cases a;have HX:=aS f;clear c p f;go_wp2_with fail;refine(HE.out _ d s H X _ x _ s1 HX.out P.out Z3.out z).mono ?_;rintro e F ⟨g,(⟨v1,H1,m1,rfl,E,z4,a,r4⟩|⟨o,b,rfl,S⟩)⟩
   case inr=>unfold eA;go_wp2;exact⟨rfl,Z.trans g,aM ⟨by rw[iA o];exact o,b,rfl,by rw[iA o];exact S⟩⟩
   case inl=>
   obtain⟨t1,b1,w7,rfl,e9⟩:=r4.val z4
   have h8:F.cell? ⟨w.heap.size,0,none⟩=some (.pointer (some ⟨d,0,none⟩)):=by rw[eB g (by omega) (by omega)];exact h0
   have w8:w3.heap.size<=F.heap.size:=g.size;have w0:H1 d=none:=by rw[a.2 d (by omega)];exact z
   have P4:=aS E;have M:=aS (Z.trans g);have Z4:=aS z4;have E4:=aS (a.from (n:=w.heap.size) (by omega));have R4:=aS r4;clear E g z4 a r4 e9 w7 h0;go_wp2_with fail;refine(rE fN nP _ d s T s1 yx P4.out (aM (by decide))).mono ?_;rintro e w5 ⟨r,(⟨rfl,p5⟩|⟨o,b,rfl,S⟩)⟩
   case inr=>unfold eA;go_wp2;exact⟨rfl,M.trans r,aM ⟨o,b,rfl,S⟩⟩
   case inl=>
   have x6:F.heap.size<=w5.heap.size:=r.size;have Z5:=aS (Z4.kept r w0);have P5:=aS p5;have K5:=aS (M.trans r);clear p5 r h8;go_wp2;go_ret;obtain⟨D,C,A,u⟩:=TI Z5.out #[(.iface t1 (.pointer (some ⟨b1,0,none⟩)))] 351;exact⟨K5.alloc _,aQ ⟨_,D,m1+1,rfl,P5.alloc _,C,E4.trans A (by omega),w5.heap.size,aM (aM (aQ ⟨rfl,x,(.iface t1 (.pointer (some ⟨b1,0,none⟩))),rfl,rfl,u,gG.ext A _ _ _ R4.out⟩))⟩⟩
  |false=>
   have h4:=aS c;have p:=P3.out;rw[nO c]at p;have P:=aS p;clear c p;go_wp2_with fail;refine(rE fN nP _ d s T st eD P.out (aM (by decide))).mono ?_;rintro e F ⟨g,(⟨rfl,E⟩|⟨o,b,rfl,S⟩)⟩
   case inr=>
    have a:=I.out;unfold lT at a
    have i:fW T st eD=false:=by
     cases h:fW T st eD with
     |false=>rfl
     |true=>rw[sD h,jN h]at o;exact absurd o (by show¬0<=st.bad;omega)
    rw[aN (by rw[G.out];decide),aN (by rw[L.out];decide),aN (by rw[h4.out];decide),aN (by rw[i];decide),we e6.out i]at a;cases a;unfold eA;go_wp2;exact⟨rfl,Z.trans g,aM ⟨o,b,rfl,S⟩⟩
   case inl=>
   have i:fW T st eD=true:=by
    cases h:fW T st eD with
    |true=>rfl
    |false=>have:=E.neg;rw[yA Q h]at this;exact absurd this (by show¬((tk T st.k).pos:Int)<0;omega)
   rw[sD i,jN i]at E
   have h8:F.cell? ⟨w.heap.size,0,none⟩=some (.pointer (some ⟨d,0,none⟩)):=by rw[eB g (by omega) (by omega)];exact h0
   have w8:w3.heap.size<=F.heap.size:=g.size;have a:=I.out;unfold lT at a;rw[aN (by rw[G.out];decide),aN (by rw[L.out];decide),aN (by rw[h4.out];decide),aR i]at a
   cases f:iK T n X st.up with
   |none=>rw[f]at a;cases a
   |some q=>
   obtain⟨x,n1,s1⟩:=q;rw[f]at a;simp only at a;have CB:=aS (YY T n HE.out F d s H X _ x n1 s1 t w9 x0 f a E (Z3.kept g z) z);unfold A5 at CB;have M:=aS (Z.trans g);clear a f E g i h0;go_wp2_with fail;refine CB.mono ?_;rintro e w5 j;have HO:=aS j;rcases j with⟨_,(⟨v,H',m,rfl,_⟩|⟨_,bb,rfl,_⟩)⟩
   ·go_wp2;go_ret;obtain⟨r,j⟩:=HO.out;refine⟨M.trans r, ?_⟩;rcases j with⟨v,H',m,q1,q2,q3,q4,q5⟩|j
    ·exact aQ ⟨v,H',m,q1,q2,q3,q4.from (by omega),q5⟩
    ·exact aM j
   ·unfold eA at HO⊢;go_wp2;obtain⟨r,j⟩:=HO.out;refine⟨rfl,M.trans r, ?_⟩;rcases j with⟨v,H',m,q1,q2,q3,q4,q5⟩|j
    ·cases q1
    ·exact aM j
theorem KB(T:List fI):∀n,Ud T n
 |0=>λw a s H e b t x c h=>by cases h
 |n+1=>Kk T n (Uq T n (KB T n)) (KB T n)
theorem YZ(p q:Addr)(w:World):
  CallsD prog 141 #[.pointer (some p), .pointer (some q)] .returning w λe a b=>e= .returned (.tuple #[])/\a= .returning/\b=w:=by
 refine xW func141 rfl λh c x=> ?_;apply wpS_seq;apply MV;simp[wpOpsS,go_sem,recoverD,x,ntmps141,Exit.thenS];refine V8 ?_;go_wp2;cases h;simp_all[bodyPostS,results,results141]
theorem AY(p q:Nat)(t b:TypeId)(k l:Value)(w:World)(a:w.cell? ⟨p,0,none⟩=some k)(d:w.frozen? ⟨p,0,none⟩=false)(c:w.cell? ⟨q,0,none⟩=some l)(f:w.frozen? ⟨q,0,none⟩=false)(g:p≠q)(C:p<w.heap.size)(F:q<w.heap.size):
  CallsD prog 141 #[.pointer (some ⟨p,0,none⟩), .pointer (some ⟨q,0,none⟩)] (.panicking [{v:= .iface 268 (.agg #[(.iface t (.pointer (some ⟨b,0,none⟩)))]),recovered:=false}]) w λe j m=>
   e= .returned (.tuple #[])/\j= .panicking [{v:= .iface 268 (.agg #[(.iface t (.pointer (some ⟨b,0,none⟩)))]),recovered:=true}]/\m=(((w.setCell ⟨p,0,none⟩ .nilIface).setCell ⟨q,0,none⟩ (.iface t (.pointer (some ⟨b,0,none⟩)))).alloc (.cells #[(.iface t (.pointer (some ⟨b,0,none⟩)))] 268)).drew:=by
 have n:=λx=>dP a x;have o:=λx=>dP c x;have u:=λx=>sK a d x;have y:=λx=>sK c f x;have G:q≠p:=λe=>g e.symm;have z:p≠w.heap.size:=by omega
 have A:w.heap.size≠p:=by omega
 have D:q≠w.heap.size:=by omega
 have E:w.heap.size≠q:=by omega
 refine xW func141 rfl λs r i=> ?_;have h:(#[Value.pointer (some ⟨p,0,none⟩), .pointer (some ⟨q,0,none⟩)]++Array.replicate (Tryz.f141.ntmps-(#[Value.pointer (some ⟨p,0,none⟩), .pointer (some ⟨q,0,none⟩)]:Array Value).size) undef)= #[Value.pointer (some ⟨p,0,none⟩), .pointer (some ⟨q,0,none⟩),undef,undef,undef,undef,undef,undef,undef,undef,undef,undef,undef,undef,undef]:=rfl;rw[h];clear h;apply wpS_seq;apply MV;simp[wpOpsS,go_sem,recoverD,i,Exit.thenS];refine V8 ?_;have H:=AW;go_wp2_with fail
 go_region
 refine⟨rfl,_,rfl, .tuple #[], ?_,rfl,rfl,rfl⟩;simp[results,results141]
theorem Cg(T:List fI)(n:Nat)(w:World)(x:Nat)(s:ByteArray)(H:aB)(k:aD)(c:St)(t:Ty)(b:aD)(d:St)(i:iK T n k c=some (t,b,d))(h:sX fN w x s T c)(j:Fz H w)(l:H x=none):
  Calls prog 109 #[.pointer (some ⟨x,0,none⟩)] w λe o=>Jl w o x s T H b d e t:=by
 have f:=aS (KB T n w x s H k c t b d i h j l);unfold A5 at f;clear i h j;go_enter func109,ntmps109;go_wp2_with fail;refine f.mono ?_;rintro e r g;have a:=aS g;rcases g with⟨_,(⟨v,p,m,rfl,_⟩|⟨_,q,rfl,_⟩)⟩
 ·go_wp2;go_ret;exact a.out
 ·unfold eA at a⊢;go_wp2;exact⟨rfl,a.out⟩
def Ur(w x:World)(d:aD)(h:St)(e:Ending)(c:Ty):Prop:=
 w.grownBy x none/\((h.bad<0/\∃v a m,e= .returned (.tuple #[v, .nilIface])/\Fz a x/\gG d m a v c)\/
  (0<=h.bad/\∃b,e= .returned (.tuple #[.nilIface, .iface 134 (.pointer (some ⟨b,0,none⟩))])/\x.heap[b]? =some (.cells #[.int .i64 h.bad] 145 (0,0))))
theorem Ch(s:ByteArray)(hs:s.size<=300)(w:World)(n:Nat)(V:Ty)(ns:aD)(i:St)(Z:iK (dU fN s) n [] ⟨0,-1⟩=some (V,ns,i)):
  Calls prog 108 #[.string s, .func (.func 109) #[] #[]] w λe w'=>Ur w w' ns (cL (dU fN s) i eE) e V:=by
 have e9:∀(fn:Fn) (first h2:Array Value) (w:World),(Instr.makeFunc fn first h2).run prog w= .ok (.func fn first h2) w:=λ_ _ _ _=>rfl;have e6:s.data.toList.length=s.size:=by rw[eH];rfl
 obtain⟨T,W⟩:∃T,T=dU fN s:=⟨_,rfl⟩
 have h3:At fN s.data.toList T 0 (upto mS s.data.toList 0):=by rw[W];have:=At.start fN s.data.toList;rw[e6]at this;exact this
 rw[<-W]at Z⊢;have w8:((s.size:Nat):Int)<=300:=by omega
 have HX:=aS Z;have h0:=aS h3;clear Z h3 W
 go_enter_defers func108,ntmps108
 go_wp2_with fail;refine(FX s 0 (by omega) hs _).mono ?_;rintro e c ⟨rfl,F⟩;dsimp only[VF]
 have M:c.heap[w.heap.size]? =some (.cells #[.nilIface] 156 (0,0)):=by rw[F.block _ (by simp;omega) (by simp),bQ _ _ _ (by simp)];exact bY _ _
 have A:c.heap[w.heap.size+1]? =some (.cells #[.nilIface] 72 (0,0)):=by rw[F.block _ (by simp) (by simp)];exact dC _ _ _ (by simp)
 have w7:=aT A;have Q:=aS (((aO w (.cells #[.nilIface] 156) none).trans (aO _ (.cells #[.nilIface] 72) none)).trans F);obtain⟨J,hJ⟩:∃J,J=upto mS s.data.toList 0:=⟨_,rfl⟩;rw[<-hJ]at h0⊢;clear F hJ
 have PS:Hid (sX fN (c.alloc (.cells #[.string s, .int .i64 ((mD s.data.toList J:Nat):Int), .string (B (kQ s.data.toList J)), .int .i64 (J:Int)] 274)) c.heap.size s T ⟨0,-1⟩):=
  ⟨by decide,⟨J,h0.out,bY _ _⟩,hs⟩
 go_wp2_with fail;refine(Cg T n _ c.heap.size s (λ_=>none) [] ⟨0,-1⟩ V ns i HX.out PS.out (oj _) rfl).mono ?_;rintro e h ⟨g,(⟨v,R,m,rfl,L,z2,e2,z⟩|⟨hb,d,rfl,h7⟩)⟩
 case inr=>
  have a:h.heap[w.heap.size]? =some (.cells #[.nilIface] 156 (0,0)):=by rw[g.block _ (by simp;omega) (by simp;omega),bQ _ _ _ (by omega)];exact M
  have b:h.heap[w.heap.size+1]? =some (.cells #[.nilIface] 72 (0,0)):=by rw[g.block _ (by simp;omega) (by simp;omega),bQ _ _ _ (by omega)];exact A
  have D:=aS g;have C:=aS hb;have e0:=aS h7;clear g hb h7 M A;unfold eA;go_wp2;refine tI (f:=141) (args:= #[.pointer (some ⟨w.heap.size,0,none⟩), .pointer (some ⟨w.heap.size+1,0,none⟩)]) (by simp) (by simp[go_sem]) ?_;refine(AY w.heap.size (w.heap.size+1) 134 d .nilIface .nilIface h (by simp[World.cell?,a]) (by simp[World.frozen?,a]) (by simp[World.cell?,b]) (by simp[World.frozen?,b]) (by omega) (aT a) (aT b)).mono ?_;rintro e u' j ⟨rfl,rfl,q⟩;obtain⟨t,u,q2,y⟩:=VY q a b e0.out;refine⟨.tuple #[.nilIface, .iface 134 (.pointer (some ⟨d,0,none⟩))], ?_, ?_⟩
  ·simp[results,results108,go_sem,t,u]
  ·have o:=iA (T:=T) (x:=eE) C.out;refine⟨pN Q.out (by omega) D.out y,aM ⟨by rw[o];exact C.out,d,rfl,by rw[o];exact q2⟩⟩
 case inl=>
  obtain⟨P,E,w6,rfl,e1⟩:=z.val z2
  have a:h.heap[w.heap.size]? =some (.cells #[.nilIface] 156 (0,0)):=by rw[g.block _ (by simp;omega) (by simp;omega),bQ _ _ _ (by omega)];exact M
  have b:h.heap[w.heap.size+1]? =some (.cells #[.nilIface] 72 (0,0)):=by rw[g.block _ (by simp;omega) (by simp;omega),bQ _ _ _ (by omega)];exact A
  have w9:=aT a;have x0:=aT b;have a0:h.cell? ⟨w.heap.size,0,none⟩=some .nilIface:=by simp[World.cell?,a]
  have a1:h.cell? ⟨w.heap.size+1,0,none⟩=some .nilIface:=by simp[World.cell?,b]
  have u0:h.frozen? ⟨w.heap.size,0,none⟩=false:=by simp[World.frozen?,a]
  have u1:h.frozen? ⟨w.heap.size+1,0,none⟩=false:=by simp[World.frozen?,b]
  have e8:=L.klt;have h6:=L.neg;obtain⟨l,H,K⟩:=L.place;have w5:=aT K;have X:=(s9 fN nP s.data.toList l H.1).theEnd;have Y:=(s9 fN nP s.data.toList l H.1).pos;rw[<-H.tk]at X Y;obtain⟨c0,c1,c2,c3,f1,f2,f3⟩:=sT K;have w0:c.heap.size≠w.heap.size:=by omega
  have w3:w.heap.size≠c.heap.size:=by omega
  have D:=aS g;have Z2:=aS z2;have E2:=aS e2;have R2:=aS z;have RD:=aS K;have RA:=aS a;have RB:=aS b;have h1:=aS X;have h9:=aS Y;have U:=aS h6;clear g L z2 e2 z M A a b e1 H K X Y c0 c2 c3 f1 f2 f3 h6;by_cases p:mD s.data.toList l=0
  ·rw[p]at c1;have S:=aS p;clear p;go_wp2;refine tI (f:=141) (args:= #[.pointer (some ⟨w.heap.size,0,none⟩), .pointer (some ⟨w.heap.size+1,0,none⟩)]) (by simp) (by simp[go_sem]) ?_;refine(YZ ⟨w.heap.size,0,none⟩ ⟨w.heap.size+1,0,none⟩ _).mono ?_;rintro e u' j ⟨rfl,rfl,q⟩;obtain⟨t,u,y⟩:=Bw q RA.out RB.out;refine⟨.tuple #[(.iface P (.pointer (some ⟨E,0,none⟩))), .nilIface], ?_, ?_⟩
   ·simp[results,results108,go_sem,t,u]
   ·have h5:R w.heap.size=none:=E2.2 _ (by simp;omega);have e3:R (w.heap.size+1)=none:=E2.2 _ (by simp;omega)
    have o:(cL T i eE).bad<0:=by
     have I:fW T i eE=true:=by simp[fW,U.out,h1.1 S.out]
     rw[sD I,jN I];exact U.out
    refine⟨pN Q.out (by omega) D.out y,aQ ⟨o,_,R,m,rfl, ?_,R2.out⟩⟩;rw[q];exact((Z2.set h5 _ _).set h5 _ _).set e3 _ _
  ·have hq:(((mD s.data.toList l:Nat):Int)==0)=false:=by simp;omega
   have S:=aS p;clear p;generalize mD s.data.toList l=kk at*;go_wp2_with fail
   have h8:XH (h.setCell ⟨w.heap.size,0,none⟩ (.iface P (.pointer (some ⟨E,0,none⟩)))) c.heap.size s l:=by unfold XH;rw[bO _ _ _ _ (by show c.heap.size≠w.heap.size;omega)];exact RD.out
   refine(A4 _ c.heap.size s l h8).mono ?_;rintro e w4 ⟨⟨d,rfl,h4⟩,G⟩
   have N:w4.heap[w.heap.size]? =some (.cells #[(.iface P (.pointer (some ⟨E,0,none⟩)))] 156 (0,0)):=by rw[G.block _ (by simp[World.setCell];omega) (by simp)];simp[World.setCell,dN,RA.out]
   have O:w4.heap[w.heap.size+1]? =some (.cells #[.nilIface] 72 (0,0)):=by rw[G.block _ (by simp[World.setCell];omega) (by simp),bO _ _ _ _ (by show w.heap.size+1≠w.heap.size;omega)];exact RB.out
   have C:=aS h4;have r:=aS G;clear h4 G h8 a0 a1 u0 u1;unfold eA;go_wp2;refine tI (f:=141) (args:= #[.pointer (some ⟨w.heap.size,0,none⟩), .pointer (some ⟨w.heap.size+1,0,none⟩)]) (by simp) (by simp[go_sem]) ?_;refine(AY w.heap.size (w.heap.size+1) 134 d (.iface P (.pointer (some ⟨E,0,none⟩))) .nilIface w4 (by simp[World.cell?,N]) (by simp[World.frozen?,N]) (by simp[World.cell?,O]) (by simp[World.frozen?,O]) (by omega) (aT N) (aT O)).mono ?_;rintro e u' j ⟨rfl,rfl,q⟩;obtain⟨t,u,q2,y⟩:=VY q N O C.out;refine⟨.tuple #[.nilIface, .iface 134 (.pointer (some ⟨d,0,none⟩))], ?_, ?_⟩
   ·simp[results,results108,go_sem,t,u]
   ·have I:fW T i eE=false:=by have:¬(tk T i.k).is=eE:=λe=>S.out (h1.2 e);simp[fW,this]
    have o:=yA U.out I;obtain⟨r1,z,r3,r4,r5⟩:=y
    have e7:h.heap.size<=j.heap.size/\j.os=h.os/\j.tape=h.tape/\j.output=h.output/\∀k,k<w.heap.size->j.heap[k]? =h.heap[k]? :=by have e4:=r.size;refine⟨by simp[World.setCell]at e4;omega,z.trans r.os,r3.trans r.tape,r4.trans r.output,λk p=> ?_⟩;rw[r5 k p,r.block k (by simp[World.setCell];omega) (by simp),bO _ _ _ _ (by show k≠w.heap.size;omega)]
    refine⟨pN Q.out (by omega) D.out e7,aM ⟨by rw[o];simp,d,rfl, ?_⟩⟩;rw[o];show j.heap[d]? =some (.cells #[.int .i64 ((tk T i.k).pos:Int)] _ (0,0));rw[h9.out];exact q2
def Us(w a:World)(d:aD)(h:St)(e:Ending)(x:Ty)(f:Addr):Prop:=
 w.grownBy a none/\((0<=h.bad/\∃b,e= .returned (.tuple #[.nilIface, .iface 134 (.pointer (some ⟨b,0,none⟩))])/\a.heap[b]? =some (.cells #[.int .i64 h.bad] 145 (0,0)))\/
  (h.bad<0/\∃v c m,Fz c a/\gG d m c v x/\dJ d.length m x/\((120<cC m x/\e= .returned (.tuple #[.nilIface,eQ f]))\/(cC m x<=120/\e= .returned (.tuple #[v, .nilIface])))))
theorem Ci(s:ByteArray)(X:s.size<=300)(w:World)(n:Nat)(x:Ty)(f:aD)(i:St)(C:iK (dU fN s) n [] ⟨0,-1⟩=some (x,f,i))(V:i.k<(dU fN s).length)(r:Addr)(J:w.cell? ⟨6,0,none⟩=some (eQ r))(K:6<w.heap.size):
  Calls prog 79 #[.string s] w λe w'=>Us w w' f (cL (dU fN s) i eE) e x r:=by
 have u:=aS (Ch s X w n x f i C);obtain⟨t,ok,N,_⟩:=OM (dU fN s) n [] ⟨0,-1⟩ x f i (by show(-1:Int)<0;omega) C
 have Y:cC t x<=400:=by have h1:cC t x+0<=i.k+1:=N;have h2:=uK fN s;omega
 have H:=aS ok;clear C N V ok;generalize cL (dU fN s) i eE=s2 at*;go_enter func79,ntmps79;go_wp2_with fail;refine u.mono ?_;rintro e E ⟨j,(⟨h,v,q,m,rfl,c,g⟩|⟨h,b,rfl,I⟩)⟩
 ·obtain⟨t1,P,Z,rfl,T⟩:=g.val c
  have A:E.cell? ⟨6,0,none⟩=some (eQ r):=by rw[bT (a:=⟨6,0,none⟩) (j.block _ K (by simp))];exact J
  obtain⟨M,S⟩:∃M,M=max m t:=⟨_,rfl⟩;have L:dJ f.length M x:=H.le (by omega);have R:cC M x=cC t x:=dJ.size _ _ _ H.out (by omega);have D:gG f M q (.iface t1 (.pointer (some ⟨P,0,none⟩))) x:=g.le (by omega);have o:=aS (Jw f M q _ x E D c (by omega));have Q:=aS (aL h (aL c (aL D L)));have F:=aS j;have W:6<E.heap.size:=aZ K j.size;clear h c g D j J T u S L R Y Z;obtain⟨d,y⟩:∃d,d=cC M x:=⟨_,rfl⟩;rw[<-y]at o;have G:=aS y;clear y;by_cases z:120<d
  ·rw[dE z]at o;go_wp2_with fail;refine o.mono ?_;rintro e O ⟨rfl,l⟩
   have U:O.cell? ⟨6,0,none⟩=some (eQ r):=by rw[bT (a:=⟨6,0,none⟩) (l.block _ W (by simp))];exact A
   unfold eQ at U;have p:=aS l;clear l A;go_wp2_with fail
   go_region
   go_wp2
   go_ret2
   obtain⟨h,c,g,ok⟩:=Q.out;exact⟨cZ (F.trans p.out),aM ⟨h,_,q,M,(c.grown p.out).drew,g,ok,aQ ⟨by rw[<-G.out];exact z,rfl⟩⟩⟩
  ·rw[bN z]at o;clear A;go_wp2_with fail;refine o.mono ?_;rintro e O ⟨rfl,l⟩;have p:=aS l;clear l;go_wp2
   go_ret2
   obtain⟨h,c,g,ok⟩:=Q.out;exact⟨F.trans p.out,aM ⟨h,_,q,M,c.grown p.out,g,ok,aM ⟨by rw[<-G.out];omega,rfl⟩⟩⟩
 ·have Q:=aS (aL j (aL h I));clear j h I u;go_wp2
  go_ret2
  exact⟨Q.1,aQ ⟨Q.2.1,b,rfl,Q.2.2⟩⟩
def Qp(t:fI):aA×aA:=(t.is,t.s)
def lA(h:aD):Nat->Ty->List (aA×aA)
 |0,_=>[]
 |n+1,x=>
  if x.kind=[]then [(bK,h.getD x.var [])]
  else match x.kids with
   |[a]=>[(ft,ft)]++lA h n a++[(yx,yx)]
   |[a,b]=>if x.kind=dO then(if a.kind=dO then [(eD,eD)]++lA h n a++[(eO,eO)]else lA h n a)++[(cV,cV)]++lA h n b
     else [(eD,eD)]++lA h n a++[(iQ,iQ)]++lA h n b++[(eO,eO)]
   |_=>[(x.kind,x.kind)]
def sL(l:aA)(i j:Nat)(h:List (aA×aA)):Prop:=
 ∃e:List fI,e.map Qp=h/\∀f,iO fN l (f+h.length) i=e++iO fN l f j
theorem sL.app{a b:List (aA×aA)}(h:sL l i j a)(e:sL l j k b):sL l i k (a++b):=by obtain⟨g,w,x⟩:=h;obtain⟨m,c,d⟩:=e;refine⟨g++m,by rw[eR,w,c],λf=> ?_⟩;rw[bD,show f+(a.length+b.length)=(f+b.length)+a.length from by omega,x,d,jA]
theorem gO{c:UInt8}{r:aA}(h:l.drop i=c::r):l[i]? =some c/\l.drop (i+1)=r/\i<l.length:=by
 have e:l[i]? =some c:=by have:=eC (λx=>x[0]?) h;simpa using this
 refine⟨e, ?_, ?_⟩
 ·have:=eC (List.drop 1) h;simpa[zq]using this
 ·rcases bZ i l.length with w|w
  ·exact w
  ·rw[bW w]at e;cases e
theorem pO{c:UInt8}{r:aA}(p:UInt8->Bool)(h:l.drop i=c::r)(e:p c=false):upto p l i=i:=by unfold upto run;rw[h];simp[e]
theorem jb{r:aA}(h:l.drop i=32::r):upto mS l i=upto mS l (i+1):=by unfold upto run;rw[h,(gO h).2.1];simp[mS];omega
theorem sL.one{J e:Nat}{t:fI}(w:upto mS l i=J)(b:fL fN l J=(t,e))(a:t.is≠dZ)(x:t.is≠eE):sL l i e [Qp t]:=by refine⟨[t],rfl,λf=> ?_⟩;show iO fN l (f+1) i=_;rw[iO,w,b];simp only;rw[aN (λh=>h.elim a x)];rfl
theorem sL.blank{r:aA}{k:aA×aA}{e:List (aA×aA)}(h:l.drop i=32::r)(a:sL l (i+1) j (k::e)):sL l i j (k::e):=by obtain⟨b,w,x⟩:=a;refine⟨b,w,λf=> ?_⟩;rw[<-x f];show iO fN l (f+e.length+1) i=iO fN l (f+e.length+1) (i+1);rw[iO,iO,jb h]
theorem AZ{u r:aA}(h:l.drop i=u++r):cut l i (i+u.length)=u:=by unfold cut;rw[zn,h];simp
theorem pE{c:UInt8}{r:aA}(h:l.drop i=c::r)(w:c=40\/c=41\/c=44\/c=91\/c=93):sL l i (i+1) [([c],[c])]:=by
 have b:mS c=false:=by rcases w with rfl|rfl|rfl|rfl|rfl<;>decide
 have d:cut l i (i+1)=[c]:=AZ (u:=[c]) (r:=r) (by rw[h];rfl)
 have f:lO l i=([c],i+1):=by unfold lO;rw[(gO h).1];simp only;rw[aN (by rcases w with rfl|rfl|rfl|rfl|rfl<;>decide),aN (by rcases w with rfl|rfl|rfl|rfl|rfl<;>decide),aN (λe=>by rcases w with rfl|rfl|rfl|rfl|rfl<;>exact absurd e.1 (by decide)),aR (by rcases w with rfl|rfl|rfl|rfl|rfl<;>decide)]
 have x:¬(([c]:aA)=bK\/([c]:aA)=dS):=by
  intro e;rcases e with e|e
  ·exact absurd (eC List.length e) (by simp[bK])
  ·exact absurd (eC List.length e) (by simp[dS])
 have g:fL fN l i=(⟨[c],[c],i⟩,i+1):=by have a:(if((([c]:aA)=bK\/([c]:aA)=dS)/\i+1-i>8)then dZ else [c])=[c]:=aN (λe=>x e.1);unfold fL;simp only[f,d];rw[a,aN (λe=>x (aQ e.1))]
 exact sL.one (pO mS h b) g (λe=>absurd (eC List.length e) (by simp[dZ])) (λe=>absurd (eC List.length e) (by simp[eE]))
theorem Z0{r:aA}(h:l.drop i=45::62::r):sL l i (i+2) [(cV,cV)]:=by
 have a:cut l i (i+2)=cV:=AZ (u:=cV) (r:=r) (by rw[h];rfl);have x:=gO (gO h).2.1
 have b:lO l i=(cV,i+2):=by unfold lO;rw[(gO h).1];simp only;rw[aN (by decide),aN (by decide),aR (aL (by first|rfl|trivial) x.1)]
 have c:fL fN l i=(⟨cV,cV,i⟩,i+2):=by have w:(if((cV=bK\/cV=dS)/\i+2-i>8)then dZ else cV)=cV:=aN (λe=>by rcases e.1 with e|e<;>exact absurd e (by decide));unfold fL;simp only[b,a];rw[w,aN (λe=>absurd e.1 (by decide))]
 exact sL.one (pO mS h (by decide)) c (show cV≠dZ by decide) (show cV≠eE by decide)
theorem Z7:∀(u r:aA),(∀c,c∈u->Qi c=true)->Wv r->run eI (u++r)=u.length
 |[],r,_,hr=>by
  cases r with
  |nil=>rfl
  |cons c r=>have:eI c=false:=hr c r rfl;simp[run,this]
 |c::u,r,e,hr=>by have w:eI c=true:=e c (by simp);have h:=Z7 u r (λx a=>e x (bE _ a)) hr;unfold run at h⊢;simp[w,h]
theorem PI{u r:aA}(h:l.drop i=u++r)(j:∃c q,u=c::q/\low c=true)(t:∀c,c∈u->Qi c=true)(y:u.length<=8)(o:Wv r):
  sL l i (i+u.length) [(if u∈fN then u else bK,u)]:=by
 obtain⟨c,q,e,x⟩:=j;have b:l.drop i=c::(q++r):=by rw[h,e];rfl
 have m:mS c=false:=by unfold mS;unfold low at x;simp only[cX]at x;simp only[O8,dV];constructor<;>(intro f;subst f;simp at x)
 have n:=AZ h
 have v:upto eI l i=i+u.length:=by unfold upto;rw[h,Z7 u r t o]
 have p:lO l i=(bK,i+u.length):=by unfold lO;rw[(gO b).1];simp only;rw[aR x,v]
 have s:fL fN l i=(⟨if u∈fN then u else bK,u,i⟩,i+u.length):=by
  have g:(if((True\/bK=dS)/\i+u.length-i>8)then dZ else bK)=bK:=aN (λe=>by omega);unfold fL;simp only[p,n];rw[g];by_cases w:u∈fN
  ·rw[aR ⟨rfl,w⟩,aR w]
  ·rw[aN (λe=>w e.2),aN w]
 have d:∀k,k=dZ\/k=eE->(if u∈fN then u else bK)≠k:=by
  intro k w e;by_cases a:u∈fN
  ·rw[aR a]at e;rw[e]at a;rcases w with rfl|rfl<;>exact absurd a (by decide)
  ·rw[aN a]at e;rcases w with rfl|rfl<;>exact absurd e (by decide)
 exact sL.one (pO mS b m) s (d _ (aQ rfl)) (d _ (aM rfl))
theorem xL{u r:aA}(h:l.drop i=u++r):l.drop (i+u.length)=r:=by rw[<-zq,h];simp
theorem EK{N:Nat}{w:aD}(q:Qj N w)(y:∀n,n∈w->n.length<=8)(l:aA):∀(n:Nat) (x:Ty) (i:Nat) (r:aA),dJ N n x->l.drop i=cJ n w x++r->Wv r->sL l i (i+(cJ n w x).length) (lA w n x)
 |0,_,_,_,h,_,_=>absurd h id
 |n+1,x,i,r,h,m,hr=>by
  rcases h with⟨c,J,j⟩|⟨c,J,j⟩|⟨c,J,a,j,E⟩|⟨c,J,a,b,j,E,K⟩
  ·have S:=xJ (aZ J q.len);obtain⟨Y,Z,o3⟩:=q.ok _ S;have e:cJ (n+1) w x=w.getD x.var []:=by rw[cJ,aR c]
   rw[e]at m⊢;have:=PI m Y Z (y _ S) hr;rw[aN o3]at this;rw[lA,aR c];exact this
  ·have o:x.kind≠[]:=by rcases c with c|c<;>rw[c]<;>decide
   have e:cJ (n+1) w x=x.kind:=by rw[cJ,aN o,j]
   rw[e]at m⊢;have:=PI m (by rcases c with c|c<;>rw[c]<;>exact⟨_,_,rfl,by decide⟩) (by rcases c with c|c<;>rw[c]<;>decide) (by rcases c with c|c<;>rw[c]<;>decide) hr;rw[aR (by rcases c with c|c<;>rw[c]<;>decide)]at this;rw[lA,aN o,j];exact this
  ·have o:x.kind≠[]:=by rw[c];decide
   have e:cJ (n+1) w x=[91]++cJ n w a++[93]:=by rw[cJ,aN o,j]
   have D:lA w (n+1) x=[(ft,ft)]++lA w n a++[(yx,yx)]:=by rw[lA,aN o,j]
   rw[e]at m⊢;rw[D];have f:l.drop i=91::(cJ n w a++(93::r)):=by rw[m];simp
   have g:=(gO f).2.1;have z:=EK q y l n a (i+1) (93::r) E g (AU (by decide));have t:=xL g;have p:=((pE f (by simp)).app z).app (pE t (by simp));have v:i+([91]++cJ n w a++[93]).length=i+1+(cJ n w a).length+1:=by simp;omega
   rw[v];exact p
  ·have o:x.kind≠[]:=by rcases c with c|c<;>rw[c]<;>decide
   by_cases O:x.kind=dO
   ·have e:cJ (n+1) w x=(if a.kind=dO then [40]++cJ n w a++[41]else cJ n w a)++[32,45,62,32]++cJ n w b:=by rw[cJ,aN o,j];show(if x.kind=dO then _ else _)=_;rw[aR O]
    have D:lA w (n+1) x=(if a.kind=dO then [(eD,eD)]++lA w n a++[(eO,eO)]else lA w n a)++[(cV,cV)]++lA w n b:=by rw[lA,aN o,j];show(if x.kind=dO then _ else _)=_;rw[aR O]
    have left:∀G,l.drop i=(if a.kind=dO then [40]++cJ n w a++[41]else cJ n w a)++(32::G)->sL l i (i+(if a.kind=dO then [40]++cJ n w a++[41]else cJ n w a).length) (if a.kind=dO then [(eD,eD)]++lA w n a++[(eO,eO)]else lA w n a):=by
     intro G M;by_cases L:a.kind=dO
     ·rw[aR L]at M⊢;rw[aR L];have f:l.drop i=40::(cJ n w a++(41::32::G)):=by rw[M];simp
      have g:=(gO f).2.1;have z:=EK q y l n a (i+1) (41::32::G) E g (AU (by decide));have p:=((pE f (by simp)).app z).app (pE (xL g) (by simp));have v:i+([40]++cJ n w a++[41]).length=i+1+(cJ n w a).length+1:=by simp;omega
      rw[v];exact p
     ·rw[aN L]at M⊢;rw[aN L];exact EK q y l n a i (32::G) E M (AU (by decide))
    rw[e]at m⊢;rw[D];generalize (if a.kind=dO then [40]++cJ n w a++[41]else cJ n w a)=u at*;generalize (if a.kind=dO then [(eD,eD)]++lA w n a++[(eO,eO)]else lA w n a)=ku at*;have f:l.drop i=u++(32::45::62::32::(cJ n w b++r)):=by rw[m];simp
    have p0:=left _ f;have g:=xL f;have t:=(gO g).2.1;have z:=(Z0 t).blank g;have C:=(gO (gO t).2.1).2.1;have H:=(gO C).2.1;have Q:=EK q y l n b _ r K H hr
    have X:∃k s,lA w n b=k::s:=by
     cases n with
     |zero=>exact absurd K id
     |succ n=>
      rcases K with⟨d,R,A⟩|⟨d,R,A⟩|⟨d,R,U,A,W⟩|⟨d,R,U,b',A,W,g5⟩
      ·exact⟨_,_,by rw[lA,aR d]⟩
      ·have F:b.kind≠[]:=by rcases d with d|d<;>rw[d]<;>decide
       exact⟨_,_,by rw[lA,aN F,A]⟩
      ·have F:b.kind≠[]:=by rw[d];decide
       exact⟨_,_,by rw[lA,aN F,A];rfl⟩
      ·have F:b.kind≠[]:=by rcases d with d|d<;>rw[d]<;>decide
       cases P:lA w (n+1) b with
       |cons k s=>exact⟨k,s,rfl⟩
       |nil=>exfalso;rw[lA,aN F,A]at P;simp only at P;split at P<;>simp at P
    obtain⟨k,s,I⟩:=X;rw[I]at Q⊢;have p3:=Q.blank C;have v:i+(u++[32,45,62,32]++cJ n w b).length=i+u.length+1+1+1+1+(cJ n w b).length:=by simp;omega
    rw[v];exact(p0.app z).app p3
   ·have e:cJ (n+1) w x=[40]++cJ n w a++[44,32]++cJ n w b++[41]:=by rw[cJ,aN o,j];show(if x.kind=dO then _ else _)=_;rw[aN O]
    have D:lA w (n+1) x=[(eD,eD)]++lA w n a++[(iQ,iQ)]++lA w n b++[(eO,eO)]:=by rw[lA,aN o,j];show(if x.kind=dO then _ else _)=_;rw[aN O]
    rw[e]at m⊢;rw[D];have f:l.drop i=40::(cJ n w a++(44::32::(cJ n w b++(41::r)))):=by rw[m];simp
    have g:=(gO f).2.1;have z:=EK q y l n a (i+1) _ E g (AU (by decide));have t:=xL g;have Q:=pE t (by simp);have C:=(gO t).2.1;have H:=(gO C).2.1;have p4:=EK q y l n b _ (41::r) K H (AU (by decide));have p5:=pE (xL H) (by simp)
    obtain⟨k,s,I⟩:∃k s,lA w n b++[(eO,eO)]=k::s:=by
     cases lA w n b with
     |nil=>exact⟨_,_,rfl⟩
     |cons k s=>exact⟨_,_,rfl⟩
    have T:=p4.app p5;have V:([(([41]:aA),([41]:aA))]:List (aA×aA))=[(eO,eO)]:=rfl;rw[V,I]at T;have p7:=T.blank C;have v:i+([40]++cJ n w a++[44,32]++cJ n w b++[41]).length=i+1+(cJ n w a).length+1+1+(cJ n w b).length+1:=by simp;omega
    rw[v,jA _ (lA w n b),I];exact((((pE f (by simp)).app z).app Q)).app p7
def oW(e:aD):Nat->Ty->List aA->Ty×List aA
 |0,x,h=>(x,h)
 |n+1,x,h=>
  if x.kind=[]then(⟨[],(pU h (e.getD x.var [])).1,[]⟩,(pU h (e.getD x.var [])).2)
  else match x.kids with
   |[a]=>(⟨x.kind,0,[(oW e n a h).1]⟩,(oW e n a h).2)
   |[a,b]=>(⟨x.kind,0,[(oW e n a h).1,(oW e n b (oW e n a h).2).1]⟩,(oW e n b (oW e n a h).2).2)
   |_=>(⟨x.kind,0,[]⟩,h)
def zD(T:List fI)(k:Nat)(h:List (aA×aA)):Prop:=∀m p,h[m]? =some p->Qp (tk T (k+m))=p
theorem zD.left{a b:List (aA×aA)}(h:zD T k (a++b)):zD T k a:=λm p e=>h m p (by
 rw[bJ]
 ·exact e
 ·rcases bZ m a.length with h|h
  ·exact h
  ·rw[bW h]at e;cases e)
theorem zD.right{a b:List (aA×aA)}(h:zD T k (a++b)):zD T (k+a.length) b:=λm p e=>by have:=h (a.length+m) p (by rw[cD (by omega)];rw[show a.length+m-a.length=m from by omega];exact e);rw[<-rX]at this;exact this
theorem zD.head{p:aA×aA}{e:List (aA×aA)}(h:zD T k (p::e)):(tk T k).is=p.1/\(tk T k).s=p.2:=by have:=h 0 p rfl;rw[<-this];exact⟨rfl,rfl⟩
theorem jL{w v:aA}(h:(tk T k).is=v):fW T ⟨k,-1⟩ w=decide (v=w):=by
 unfold fW;rw[h];by_cases e:v=w
 ·subst e;simp
 ·simp[e]
theorem i7{w:aA}(h:(tk T k).is=w):cL T ⟨k,-1⟩ w=⟨k+1,-1⟩:=by unfold cL;rw[aR (by rw[jL h];simp)]
def Xr(h:aD)(T:List fI)(n:Nat):Prop:=∀(N:Nat) (x:Ty) (k:Nat) (e:aD) (F:Nat),dJ N n x->x.kind≠dO->n<=F+1->zD T k (lA h n x)->lT (iK T F) T e ⟨k,-1⟩=some ((oW h n x e).1,(oW h n x e).2,⟨k+(lA h n x).length,-1⟩)
def Zf(h:aD)(T:List fI)(n:Nat):Prop:=∀(N:Nat) (x:Ty) (k:Nat) (e:aD) (F:Nat),dJ N n x->n<=F->zD T k (lA h n x)->(tk T (k+(lA h n x).length)).is≠cV->iK T F e ⟨k,-1⟩=some ((oW h n x e).1,(oW h n x e).2,⟨k+(lA h n x).length,-1⟩)
theorem Qq{n:Nat}(r:Zf ns T n):Xr ns T (n+1):=by
 intro N x k c F h z I d;rcases h with⟨e,p,f⟩|⟨e,p,f⟩|⟨e,p,a,f,q⟩|⟨e,p,a,b,f,q,E⟩
 ·have j:lA ns (n+1) x=[(bK,ns.getD x.var [])]:=by rw[lA,aR e]
  have i:oW ns (n+1) x c=(⟨[],(pU c (ns.getD x.var [])).1,[]⟩,(pU c (ns.getD x.var [])).2):=by rw[oW,aR e]
  rw[j]at d⊢;rw[i];obtain⟨w,m⟩:=d.head;change (tk T k).is=bK at w;unfold lT;rw[jL w,jL w,jL w,jL w,aN (by decide),aN (by decide),aN (by decide),aN (by decide),i7 w,m];rfl
 ·have g:x.kind≠[]:=by rcases e with e|e<;>rw[e]<;>decide
  have j:lA ns (n+1) x=[(x.kind,x.kind)]:=by rw[lA,aN g,f]
  have i:oW ns (n+1) x c=(⟨x.kind,0,[]⟩,c):=by rw[oW,aN g,f]
  rw[j]at d⊢;rw[i];obtain⟨w,m⟩:=d.head;unfold lT;rw[jL w,jL w];rcases e with e|e
  ·rw[e,aR (by decide)];rfl
  ·rw[e,aN (by decide),aR (by decide)];rfl
 ·have g:x.kind≠[]:=by rw[e];decide
  have j:lA ns (n+1) x=[(ft,ft)]++lA ns n a++[(yx,yx)]:=by rw[lA,aN g,f]
  have i:oW ns (n+1) x c=(⟨x.kind,0,[(oW ns n a c).1]⟩,(oW ns n a c).2):=by rw[oW,aN g,f]
  rw[j]at d⊢;rw[i];obtain⟨w,m⟩:=d.left.left.head;have v:=d.left.right;have l:=d.right.head;have o:k+([(ft,ft)]++lA ns n a).length=k+1+(lA ns n a).length:=by simp;omega
  rw[o]at l;have s:=r N a (k+1) c F q (by omega) v (by rw[l.1];decide);unfold lT;rw[jL w,jL w,jL w,aN (by decide),aN (by decide),aR (by decide)];show(match iK T F c ⟨k+1,-1⟩with|none=>none|some (t,n1,s1)=>_)=_;rw[s];simp only;rw[i7 l.1,e];simp;omega
 ·have g:x.kind≠[]:=by rcases e with e|e<;>rw[e]<;>decide
  have H:x.kind=eS:=by
   rcases e with e|e
   ·exact e
   ·exact absurd e z
  have j:lA ns (n+1) x=[(eD,eD)]++lA ns n a++[(iQ,iQ)]++lA ns n b++[(eO,eO)]:=by rw[lA,aN g,f];show(if x.kind=dO then _ else _)=_;rw[aN z]
  have i:oW ns (n+1) x c=(⟨x.kind,0,[(oW ns n a c).1,(oW ns n b (oW ns n a c).2).1]⟩,(oW ns n b (oW ns n a c).2).2):=by rw[oW,aN g,f]
  rw[j]at d⊢;rw[i];obtain⟨w,m⟩:=d.left.left.left.left.head;have v:=d.left.left.left.right;have y:=d.left.left.right.head;have A:=d.left.right;have l:=d.right.head;have o:k+([(eD,eD)]++lA ns n a).length=k+1+(lA ns n a).length:=by simp;omega
  have C:k+([(eD,eD)]++lA ns n a++[(iQ,iQ)]).length=k+1+(lA ns n a).length+1:=by simp;omega
  have D:k+([(eD,eD)]++lA ns n a++[(iQ,iQ)]++lA ns n b).length=k+1+(lA ns n a).length+1+(lA ns n b).length:=by simp;omega
  rw[o]at y;rw[C]at A;rw[D]at l;have s:=r N a (k+1) c F q (by omega) v (by rw[y.1];decide);have G:=r N b (k+1+(lA ns n a).length+1) (oW ns n a c).2 F E (by omega) A (by rw[l.1];decide);unfold lT;rw[jL w,jL w,jL w,jL w,aN (by decide),aN (by decide),aN (by decide),aR (by decide)];show(match iK T F c ⟨k+1,-1⟩with|none=>none|some (t,n1,s1)=>_)=_;rw[s];simp only;rw[jL y.1,aR (by decide)];show(match iK T F (oW ns n a c).2 ⟨k+1+(lA ns n a).length+1,-1⟩with|none=>none|some (u,n2,s2)=>_)=_;rw[G];simp only;rw[i7 l.1,H];simp;omega
theorem Ut{n F:Nat}{a:Ty}{e:aD}(x:Xr ns T n)(h:dJ N n a)(c:a.kind≠dO)(w:n<=F+1)(d:zD T k (lA ns n a))(b:(tk T (k+(lA ns n a).length)).is≠cV):iK T (F+1) e ⟨k,-1⟩=some ((oW ns n a e).1,(oW ns n a e).2,⟨k+(lA ns n a).length,-1⟩):=by rw[iK,x N a k e F h c w d];simp only;rw[jL rfl,aN (by simpa using b)]
theorem Cj(e:aD)(T:List fI):∀n,Zf e T n/\Xr e T n
 |0=>⟨λN x k w F h=>absurd h id,λN x k w F h=>absurd h id⟩
 |n+1=>by
  obtain⟨r,I⟩:=Cj e T n;have v:=Qq r;refine⟨?_,v⟩;intro N x k w F h M i j;obtain⟨F,rfl⟩:∃G,F=G+1:=⟨F-1,by omega⟩;by_cases d:x.kind=dO
  ·rcases h with⟨c,p,g⟩|⟨c,p,g⟩|⟨c,p,a,g,q⟩|⟨c,p,a,b,g,q,H⟩
   ·rw[d]at c;exact absurd c (by decide)
   ·rw[d]at c;exact absurd c (by decide)
   ·rw[d]at c;exact absurd c (by decide)
   ·have y:x.kind≠[]:=by rw[d];decide
    have D:lA e (n+1) x=(if a.kind=dO then [(eD,eD)]++lA e n a++[(eO,eO)]else lA e n a)++[(cV,cV)]++lA e n b:=by rw[lA,aN y,g];show(if x.kind=dO then _ else _)=_;rw[aR d]
    have C:oW e (n+1) x w=(⟨x.kind,0,[(oW e n a w).1,(oW e n b (oW e n a w).2).1]⟩,(oW e n b (oW e n a w).2).2):=by rw[oW,aN y,g]
    rw[D]at i j⊢;rw[C];have L:=i.left.right.head;have z:=i.right
    have K:lT (iK T F) T w ⟨k,-1⟩=some ((oW e n a w).1,(oW e n a w).2,⟨k+(if a.kind=dO then [(eD,eD)]++lA e n a++[(eO,eO)]else lA e n a).length,-1⟩):=by
     have f:=i.left.left;by_cases s:a.kind=dO
     ·rw[aR s]at f⊢;obtain⟨l,O⟩:=f.left.left.head;have J:=f.left.right;have m:=f.right.head;have o:k+([(eD,eD)]++lA e n a).length=k+1+(lA e n a).length:=by simp;omega
      rw[o]at m;have E:=r N a (k+1) w F q (by omega) J (by rw[m.1];decide);unfold lT;rw[jL l,jL l,jL l,jL l,aN (by decide),aN (by decide),aN (by decide),aR (by decide)];show(match iK T F w ⟨k+1,-1⟩with|none=>none|some (t,n1,s1)=>_)=_;rw[E];simp only;rw[jL m.1,aN (by decide),i7 m.1];simp;omega
     ·rw[aN s]at f⊢;exact I N a k w F q s (by omega) f
    rw[iK,K];simp only;rw[jL L.1,aR (by decide)];generalize (if a.kind=dO then [(eD,eD)]++lA e n a++[(eO,eO)]else lA e n a)=u at*;have o:k+(u++[(cV,cV)]).length=k+u.length+1:=by simp;omega
    have A:k+(u++[(cV,cV)]++lA e n b).length=k+u.length+1+(lA e n b).length:=by simp;omega
    rw[o]at z;rw[A]at j⊢;show(match iK T F (oW e n a w).2 ⟨k+u.length+1,-1⟩with|none=>none|some (u,n2,s2)=>_)=_;rw[r N b _ _ F H (by omega) z j,d]
  ·exact Ut v h d (by omega) i j
theorem W8{N:Nat}{k:aD}(g:Qj N k):∀(n:Nat) (x:Ty),dJ N n x->(lA k n x).length<=(cJ n k x).length
 |0,_,h=>absurd h id
 |n+1,x,h=>by
  rcases h with⟨w,i,f⟩|⟨w,i,f⟩|⟨w,i,a,f,j⟩|⟨w,i,a,b,f,j,l⟩
  ·obtain⟨⟨c,r,e,_⟩,_⟩:=g.ok _ (xJ (aZ i g.len));rw[lA,aR w,cJ,aR w,e];simp
  ·have d:x.kind≠[]:=by rcases w with w|w<;>rw[w]<;>decide
   rw[lA,aN d,cJ,aN d,f];rcases w with w|w<;>simp[w,nD,eU]
  ·have d:x.kind≠[]:=by rw[w];decide
   have:=W8 g n a j;rw[lA,aN d,cJ,aN d,f];simp;omega
  ·have d:x.kind≠[]:=by rcases w with w|w<;>rw[w]<;>decide
   have m:=W8 g n a j;have o:=W8 g n b l;rw[lA,aN d,cJ,aN d,f];simp only;split
   ·split<;>simp<;>omega
   ·simp;omega
theorem NH{N:Nat}:∀(n:Nat) (x:Ty),dJ N n x->dJ N (cC n x) x
 |0,_,h=>absurd h id
 |n+1,x,h=>by
  rcases h with⟨w,c,e⟩|⟨w,c,e⟩|⟨w,c,a,e,d⟩|⟨w,c,a,b,e,d,f⟩
  ·rw[cC,e];exact aQ ⟨w,c,e⟩
  ·rw[cC,e];exact aM (aQ ⟨w,c,e⟩)
  ·have:=NH n a d;rw[cC,e,cG,fE,fG,qQ,qT];exact aM (aM (aQ ⟨w,c,a,e,this.le (by omega)⟩))
  ·have g:=NH n a d;have i:=NH n b f;rw[cC,e,cG,cG,fE,fG,fG,qQ,qT];exact aM (aM (aM ⟨w,c,a,b,e,g.le (by omega),i.le (by omega)⟩))
theorem BV{N:Nat}{k:aD}(g:Qj N k):∀(n:Nat) (x:Ty),dJ N n x->cC n x<=(cJ n k x).length
 |0,_,h=>absurd h id
 |n+1,x,h=>by
  rcases h with⟨w,i,d⟩|⟨w,i,d⟩|⟨w,i,a,d,j⟩|⟨w,i,a,b,d,j,l⟩
  ·obtain⟨⟨c,r,e,_⟩,_⟩:=g.ok _ (xJ (aZ i g.len));rw[cC,d,cJ,aR w,e];simp
  ·have f:x.kind≠[]:=by rcases w with w|w<;>rw[w]<;>decide
   rw[cC,cJ,aN f,d];rcases w with w|w<;>simp[w,nD,eU]
  ·have f:x.kind≠[]:=by rw[w];decide
   have:=BV g n a j;rw[cC,cJ,aN f,d];simp;omega
  ·have f:x.kind≠[]:=by rcases w with w|w<;>rw[w]<;>decide
   have m:=BV g n a j;have o:=BV g n b l;rw[cC,cJ,aN f,d];simp only;split
   ·split<;>simp<;>omega
   ·simp;omega
theorem Ck(l:aA)(f:Nat):iO fN l (f+1) l.length=[⟨eE,[],l.length⟩]:=by
 have a:upto mS l l.length=l.length:=by unfold upto run;simp
 have x:fL fN l l.length=(⟨eE,[],l.length⟩,l.length):=by
  have w:lO l l.length=(eE,l.length):=by unfold lO;simp
  have h:cut l l.length l.length=[]:=by unfold cut;simp
  unfold fL;simp only[w,h];rw[aN (λe=>by rcases e.1 with e|e<;>exact absurd e (by decide)),aN (λe=>absurd e.1 (by decide))]
 unfold iO;rw[a,x];simp
theorem U0(I:Qj N ns)(V:∀n,n∈ns->n.length<=8){n:Nat}{x:Ty}(ok:dJ N n x):
  ∃s,iK (dU fN (B (cJ n ns x))) ((B (cJ n ns x)).size+2) [] ⟨0,-1⟩=some ((oW ns n x []).1,(oW ns n x []).2,s)/\s.k<(dU fN (B (cJ n ns x))).length/\(cL (dU fN (B (cJ n ns x))) s eE).bad<0:=by
 have T:∀m,m<=(cJ n ns x).length+2->dJ N m x->cJ m ns x=cJ n ns x->∃s,iK (dU fN (B (cJ n ns x))) ((B (cJ n ns x)).size+2) [] ⟨0,-1⟩=some ((oW ns m x []).1,(oW ns m x []).2,s)/\s.k<(dU fN (B (cJ n ns x))).length/\(cL (dU fN (B (cJ n ns x))) s eE).bad<0:=by
  intro m hm K z;obtain⟨l,Z⟩:∃l,l=cJ n ns x:=⟨_,rfl⟩;rw[<-Z]at z hm⊢;obtain⟨v,R,S⟩:=EK I V l m x 0 [] K (by rw[z];simp) (λc r e=>by cases e);have h0:=W8 I m x K;rw[z]at S h0;have h6:(B l).size=l.length:=by rw[dY]
  have G:dU fN (B l)=v++[⟨eE,[],l.length⟩]:=by unfold dU;rw[h6,show(B l).data.toList=l from by simp[B]];have:=S (l.length-(lA ns m x).length+1);rw[show l.length-(lA ns m x).length+1+(lA ns m x).length=l.length+1 from by omega,jJ,Ck]at this;exact this
  have h7:v.length=(lA ns m x).length:=by rw[<-R,fM]
  have Y:zD (dU fN (B l)) 0 (lA ns m x):=by
   intro i p C;rw[G,jJ];rw[<-R,iH]at C
   cases D:v[i]? with
   |none=>rw[D]at C;cases C
   |some t=>
    rw[D]at C
    have X:i<v.length:=by
     rcases bZ i v.length with h|h
     ·exact h
     ·rw[bW h]at D;cases D
    have:tk (v++[⟨eE,[],l.length⟩]) i=t:=by unfold tk;rw[List.getD,bJ X,D];rfl
    rw[this];simpa using C
  have P:(tk (dU fN (B l)) (lA ns m x).length).is=eE:=by rw[G,<-h7];unfold tk;rw[List.getD,cD (aV _)];simp
  have Q:=(Cj ns (dU fN (B l)) m).1 N x 0 [] ((B l).size+2) K (by omega) Y (by rw[jJ,P];decide);rw[jJ]at Q;refine⟨_,Q, ?_, ?_⟩
  ·show(lA ns m x).length<_;rw[G];simp;omega
  ·rw[i7 P];show(-1:Int)<0;omega
 have h9:∀(a b:Nat) (y:Ty) (u:aD),dJ N a y->dJ N b y->oW ns a y u=oW ns b y u:=by
  intro a
  induction a with
  |zero=>intro b y u h;exact absurd h id
  |succ a J=>
   intro b y u W H
   cases b with
   |zero=>exact absurd H id
   |succ b=>
    rcases W with⟨d,E,f⟩|⟨d,E,f⟩|⟨d,E,p,f,F⟩|⟨d,E,p,q,f,F,U⟩
    ·rw[oW,aR d,oW,aR d]
    ·have g:y.kind≠[]:=by rcases d with d|d<;>rw[d]<;>decide
     rw[oW,aN g,oW,aN g,f]
    ·have g:y.kind≠[]:=by rw[d];decide
     rcases H with⟨j,o,w⟩|⟨j,o,w⟩|⟨j,o,M,w,A⟩|⟨j,o,M,q',w,A,O⟩
     ·exact absurd j g
     ·rw[f]at w;cases w
     ·rw[f]at w;cases w;rw[oW,aN g,oW,aN g,f];simp only;rw[J b p u F A]
     ·rw[f]at w;cases w
    ·have g:y.kind≠[]:=by rcases d with d|d<;>rw[d]<;>decide
     rcases H with⟨j,o,w⟩|⟨j,o,w⟩|⟨j,o,M,w,A⟩|⟨j,o,M,q',w,A,O⟩
     ·exact absurd j g
     ·rw[f]at w;cases w
     ·rw[f]at w;cases w
     ·rw[f]at w;cases w;rw[oW,aN g,oW,aN g,f];simp only;rw[J b p u F A,J b q _ U O]
 have L:=NH n x ok;have e0:=BV I n x ok
 have z:cJ (cC n x) ns x=cJ n ns x:=by
  rcases JF (cC n x) n with h|h
  ·exact(dJ.text ns (cC n x) n x L h).symm
  ·exact dJ.text ns n (cC n x) x ok h
 have:=T (cC n x) (by omega) L z;rw[h9 (cC n x) n x [] L ok]at this;exact this
theorem U1{l:aC}(h:l<+:List.range k):l=List.range l.length/\l.length<=k:=by have e:=h.length_le;rw[XO]at e;refine⟨?_,e⟩;have:=List.prefix_iff_eq_take.1 h;rw[List.take_range,oK e]at this;exact this
theorem Cl{T:List fI}{A:List aA->St->Option (Ty×List aA×St)}(f:∀b s t d j,A b s=some (t,d,j)->∀N m,dJ N m t->cQ m t (List.range b.length)=List.range d.length)(b:aD)(s:St)(t:Ty)(d:aD)(j:St)
  (h:lT A T b s=some (t,d,j)):∀N m,dJ N m t->cQ m t (List.range b.length)=List.range d.length:=by
 intro N m ok
 cases m with
 |zero=>exact absurd ok id
 |succ m=>
 unfold lT at h;split at h
 ·cases h;rw[cQ,aN (by decide)];rfl
 ·split at h
  ·cases h;rw[cQ,aN (by decide)];rfl
  ·split at h
   ·cases e:A b s.up with
    |none=>rw[e]at h;cases h
    |some q=>
     obtain⟨p,n,o⟩:=q;rw[e]at h;cases h;rcases ok with⟨x,a,w⟩|⟨x,a,w⟩|⟨x,a,i,w,c⟩|⟨x,a,i,v,w,c,k⟩
     ·exact absurd (show nF=[]from x) (by decide)
     ·cases w
     ·cases w;have:=f _ _ _ _ _ e N m c;rw[cQ,aN (show¬nF=[] by decide)];exact this
     ·cases w
   ·split at h
    ·cases e:A b s.up with
     |none=>rw[e]at h;cases h
     |some q=>
      obtain⟨p,n,o⟩:=q;rw[e]at h;simp only at h;split at h
      ·cases g:A n o.up with
       |none=>rw[g]at h;cases h
       |some y=>
        obtain⟨z,C,D⟩:=y;rw[g]at h;cases h;rcases ok with⟨x,a,w⟩|⟨x,a,w⟩|⟨x,a,i,w,c⟩|⟨x,a,i,v,w,c,k⟩
        ·exact absurd (show eS=[]from x) (by decide)
        ·cases w
        ·cases w
        ·cases w;have r:=f _ _ _ _ _ e N m c;have u:=f _ _ _ _ _ g N m k;rw[cQ,aN (show¬eS=[] by decide)];show cQ m z (cQ m p _)=_;rw[r,u]
      ·cases h;exact f _ _ _ _ _ e N (m+1) ok
    ·cases h;rw[cQ,aR rfl];simp only;unfold pU;split
     ·rename_i l;rw[aR (eV.2 (iG l))]
     ·rename_i l;rw[aN (by simp)];simp[mH]
theorem PJ{T:List fI}:∀(n:Nat) (x:aD) (s:St) (t:Ty) (d:aD) (j:St),iK T n x s=some (t,d,j)->∀N m,dJ N m t->cQ m t (List.range x.length)=List.range d.length
 |0,_,_,_,_,_,h=>by cases h
 |n+1,x,s,t,d,j,h=>by
  rw[iK]at h
  cases e:lT (iK T n) T x s with
  |none=>rw[e]at h;cases h
  |some q=>
   obtain⟨l,g,k⟩:=q;rw[e]at h;simp only at h;have i:=Cl (PJ n) x s l g k e;split at h
   ·cases b:iK T n g k.up with
    |none=>rw[b]at h;cases h
    |some u=>
     obtain⟨v,y,A⟩:=u;rw[b]at h;cases h;intro N m ok
     cases m with
     |zero=>exact absurd ok id
     |succ m=>
      rcases ok with⟨a,c,w⟩|⟨a,c,w⟩|⟨a,c,r,w,f⟩|⟨a,c,r,z,w,f,o⟩
      ·exact absurd (show dO=[]from a) (by decide)
      ·cases w
      ·cases w
      ·cases w;have p:=PJ n _ _ _ _ _ b N m o;rw[cQ,aN (show¬dO=[] by decide)];show cQ m v (cQ m l _)=_;rw[i N m f,p]
   ·cases h;exact i
def eW(N:Nat):List aA:=(List.range N).map fQ
theorem nH(N:Nat):(eW N).length=N:=by simp[eW]
theorem yN{v:Nat}(h:v<N):(eW N).getD v []=fQ v:=by unfold eW;simp[List.getD,h]
theorem PK(N:Nat):∀v,v<N->(A8 (List.range N)).getD v []=fQ v:=by intro v h;rw[L9 (eV.2 h)];congr 1;have:=(List.nodup_range (n:=N)).idxOf_getElem v (by simpa using h);simpa using this
theorem uQ{N:Nat}{g i:aD}(h:∀v,v<N->g.getD v []=i.getD v []):∀(n:Nat) (x:Ty),dJ N n x->cJ n g x=cJ n i x
 |0,_,h=>absurd h id
 |n+1,x,ok=>by
  rcases ok with⟨e,d,c⟩|⟨e,d,c⟩|⟨e,d,a,c,f⟩|⟨e,d,a,b,c,f,j⟩
  ·rw[cJ,aR e,cJ,aR e,h _ d]
  ·have w:x.kind≠[]:=by rcases e with e|e<;>rw[e]<;>decide
   rw[cJ,aN w,cJ,aN w,c]
  ·have w:x.kind≠[]:=by rw[e];decide
   rw[cJ,aN w,cJ,aN w,c];simp only;rw[uQ h n a f]
  ·have w:x.kind≠[]:=by rcases e with e|e<;>rw[e]<;>decide
   rw[cJ,aN w,cJ,aN w,c];simp only;rw[uQ h n a f,uQ h n b j]
theorem mQ{n:Nat}{x:Ty}(ok:dJ N n x)(e:cQ n x []=List.range N):fJ n x=cJ n (eW N) x:=by unfold fJ;rw[e];exact uQ (λv h=>by rw[PK N v h,yN h]) n x ok
theorem LM{a b:Nat}(m:a<260)(n:b<260)(h:fQ a=fQ b):a=b:=by
 have c:∀i j,i<26->j<26->UInt8.ofNat (97+i)=UInt8.ofNat (97+j)->i=j:=by intro i j f g e;have:=eC UInt8.toNat e;simp only[zQ]at this;omega
 have k:∀i j,i<10->j<10->UInt8.ofNat (48+i)=UInt8.ofNat (48+j)->i=j:=by intro i j f g e;have:=eC UInt8.toNat e;simp only[zQ]at this;omega
 unfold fQ at h;by_cases w:25<a<;>by_cases x:25<b
 ·rw[aR w,aR x]at h;simp only[lQ,oL,mI,wR]at h;have d:=c _ _ (JE a (by omega)) (JE b (by omega)) h.1;have l:=k (a/26) (b/26) (by omega) (by omega) h.2;omega
 ·rw[aR w,aN x]at h;simp at h
 ·rw[aN w,aR x]at h;simp at h
 ·rw[aN w,aN x]at h;simp only[KV,mI,wR]at h;have d:=c _ _ (JE a (by omega)) (JE b (by omega)) h;omega
theorem wg{a:Nat}(x:a<260):uL (fQ a):=by
 have d:∀a:Fin 260,uL (fQ a.val):=by
  intro a
  have e:low (UInt8.ofNat (97+a.val%26))=true:=by
   have:∀i:Fin 26,low (UInt8.ofNat (97+i.val))=true:=by decide
   exact this ⟨a.val%26,JE _ (by omega)⟩
  have w:qO (UInt8.ofNat (48+a.val/26))=true:=by
   have:∀i:Fin 10,qO (UInt8.ofNat (48+i.val))=true:=by decide
   exact this ⟨a.val/26,by omega⟩
  refine⟨⟨_,_,rfl,e⟩, ?_, ?_⟩
  ·intro c h;unfold fQ at h;rcases cH.1 h with h|h
   ·rw[bF.1 h];unfold Qi;rw[e];rfl
   ·split at h
    ·rw[bF.1 h];unfold Qi;rw[w];simp
    ·cases h
  ·intro b;have f:=A7 a.val;have:∀k,k∈fN->2<k.length:=by decide
   have:=this _ b;omega
 exact d ⟨a,x⟩
theorem vL(h:N<=260):Qj N (eW N):=by
 refine⟨by rw[nH];exact aV _, ?_, ?_⟩
 ·intro n d;obtain⟨v,f,rfl⟩:=fF.1 d;exact wg (by have:=eV.1 f;omega)
 ·unfold eW;rw[zt,List.pairwise_map];refine List.Pairwise.imp_of_mem ?_ (zt.1 (List.nodup_range (n:=N)));intro a b w c x e;exact x (LM (by have:=eV.1 w;omega) (by have:=eV.1 c;omega) e)
theorem DM:∀n,n∈eW N->n.length<=8:=by intro n h;obtain⟨v,e,rfl⟩:=fF.1 h;have:=A7 v;omega
theorem W9(k:Nat):eW (k+1)=eW k++[fQ k]:=by simp[eW,mH]
theorem LN{v:Nat}(a:k<=260)(x:v<260):fQ v∈eW k↔v<k:=by
 constructor
 ·intro h;obtain⟨u,w,e⟩:=fF.1 h;have:=eV.1 w;rw[<-LM (by omega) x e];exact this
 ·intro h;exact fF.2 ⟨v,eV.2 h,rfl⟩
theorem Z8{v:Nat}(w:k<=260)(h:v<k):(eW k).idxOf (fQ v)=v:=by
 have:=(vL w).nd.idxOf_getElem v (by rw[nH];exact h);have e:(eW k)[v]'(by rw[nH];exact h)=fQ v:=by simp[eW]
 rw[e]at this;exact this
theorem NI{N:Nat}(r:N<=260):∀(n:Nat) (x:Ty) (k i:Nat),dJ N n x->cQ n x (List.range k)=List.range i->i<=N->oW (eW N) n x (eW k)=(x,eW i)
 |0,_,_,_,h,_,_=>absurd h id
 |n+1,x,k,i,ok,c,u=>by
  obtain⟨s,t,A⟩:=x;rcases ok with⟨w,d,f⟩|⟨w,d,f⟩|⟨w,d,a,f,q⟩|⟨w,d,a,b,f,q,y⟩
  ·simp only at w d f;subst w f;rw[oW,aR rfl,yN d];rw[cQ,aR rfl]at c;simp only at c⊢;by_cases j:t<k
   ·rw[aR (eV.2 j)]at c;have e:=eC List.length c;simp at e;subst e;have l:k<=260:=by omega
    unfold pU;rw[aR ((LN l (by omega)).2 j),Z8 l j]
   ·rw[aN (λe=>j (eV.1 e))]at c;have e:=eC List.length c;simp at e;subst e;rw[mH]at c;have p:t=k:=by simpa using c
    subst p;have l:t<=260:=by omega
    unfold pU;rw[aN (λe=>j ((LN l (by omega)).1 e)),nH,W9]
  ·simp only at w d f;subst d f;have g:s≠[]:=by rcases w with w|w<;>rw[w]<;>decide
   rw[oW,aN g];rw[cQ,aN g]at c;have e:=eC List.length c;simp at e;subst e;rfl
  ·simp only at w d f;subst d f;have g:s≠[]:=by rw[w];decide
   rw[oW,aN g];rw[cQ,aN g]at c;simp only;rw[NI r n a k i q c u]
  ·simp only at w d f;subst d f;have g:s≠[]:=by rcases w with w|w<;>rw[w]<;>decide
   rw[oW,aN g];rw[cQ,aN g]at c;change cQ n b (cQ n a (List.range k))=List.range i at c;have v:=tX n b (cQ n a (List.range k));rw[c]at v;obtain⟨o,p⟩:=U1 v;obtain⟨m,z⟩:∃m,m=(cQ n a (List.range k)).length:=⟨_,rfl⟩;rw[<-z]at o p;rw[o]at c;simp only;rw[NI r n a k m q o (by omega),NI r n b m i y c u]
def Uu:Nat->Ty->Nat->Prop
 |0,_,_=>False
 |m+1,x,v=>(x.kind=[]/\x.var=v)\/∃y,y∈x.kids/\Uu m y v
theorem U2{A:List aA->St->Option (Ty×List aA×St)}(c:∀w s t b j,A w s=some (t,b,j)->∀v,w.length<=v->v<b.length->∃m,Uu m t v)(w:aD)(s:St)(t:Ty)(b:aD)(j:St)
  (h:lT A T w s=some (t,b,j)):∀v,w.length<=v->v<b.length->∃m,Uu m t v:=by
 intro v f x;unfold lT at h;split at h
 ·cases h;omega
 ·split at h
  ·cases h;omega
  ·split at h
   ·cases e:A w s.up with
    |none=>rw[e]at h;cases h
    |some q=>obtain⟨k,i,l⟩:=q;rw[e]at h;cases h;obtain⟨m,a⟩:=c _ _ _ _ _ e v f x;exact⟨m+1,aM ⟨k,by simp,a⟩⟩
   ·split at h
    ·cases e:A w s.up with
     |none=>rw[e]at h;cases h
     |some q=>
      obtain⟨k,i,l⟩:=q;rw[e]at h;simp only at h;split at h
      ·cases d:A i l.up with
       |none=>rw[d]at h;cases h
       |some o=>
        obtain⟨p,r,u⟩:=o;rw[d]at h;cases h;rcases bZ v i.length with g|g
        ·obtain⟨m,a⟩:=c _ _ _ _ _ e v f g;exact⟨m+1,aM ⟨k,by simp,a⟩⟩
        ·obtain⟨m,a⟩:=c _ _ _ _ _ d v g x;exact⟨m+1,aM ⟨p,by simp,a⟩⟩
      ·cases h;exact c _ _ _ _ _ e v f x
    ·cases h;refine⟨1,aQ ⟨rfl, ?_⟩⟩;unfold pU at x⊢;split at x
     ·exact absurd x (by show¬v<w.length;omega)
     ·rename_i n;rw[aN n];simp at x;show w.length=v;omega
theorem BW{T:List fI}:∀(n:Nat) (w:aD) (s:St) (t:Ty) (d:aD) (i:St),iK T n w s=some (t,d,i)->∀v,w.length<=v->v<d.length->∃m,Uu m t v
 |0,_,_,_,_,_,h=>by cases h
 |n+1,w,s,t,d,i,h=>by
  intro v f g;rw[iK]at h
  cases e:lT (iK T n) T w s with
  |none=>rw[e]at h;cases h
  |some q=>
   obtain⟨k,c,j⟩:=q;rw[e]at h;simp only at h;split at h
   ·cases x:iK T n c j.up with
    |none=>rw[x]at h;cases h
    |some l=>
     obtain⟨o,p,r⟩:=l;rw[x]at h;cases h;rcases bZ v c.length with b|b
     ·obtain⟨m,a⟩:=U2 (BW n) w s k c j e v f b;exact⟨m+1,aM ⟨k,by simp,a⟩⟩
     ·obtain⟨m,a⟩:=BW n _ _ _ _ _ x v b g;exact⟨m+1,aM ⟨o,by simp,a⟩⟩
   ·cases h;exact U2 (BW n) w s _ _ _ e v f g
theorem Cm{g:aK}{v:Nat}{t:aA}(h:(g.getD i none).isSome=true):((g.set v (some t)).getD i none).isSome=true:=by
 rw[aW,mK];rw[aW]at h;by_cases e:v=i
 ·rw[aR e];split
  ·rfl
  ·rename_i w;rw[bW (by omega)]at h;exact h
 ·rw[aN e];exact h
theorem EM{f:Ty->Ty->List (Option aA)->Option (List (Option aA))}(j:∀a b g w,f a b g=some w->∀i,(g.getD i none).isSome=true->(w.getD i none).isSome=true):∀(c d:List Ty) (g w:aK),mC f c d g=some w->∀i,(g.getD i none).isSome=true->(w.getD i none).isSome=true
 |[],_,g,w,h,i,x=>by simp[mC]at h;rw[<-h];exact x
 |_::_,[],g,w,h,i,x=>by simp[mC]at h;rw[<-h];exact x
 |a::c,b::d,g,w,h,i,x=>by
  rw[mC]at h
  cases e:f a b g with
  |none=>rw[e]at h;cases h
  |some g1=>rw[e]at h;exact EM j c d g1 w h i (j a b g g1 e i x)
theorem PL{M:Nat}{c:aD}:∀(n:Nat) (x y:Ty) (g e:aK),iL M c n x y g=some e->∀i,(g.getD i none).isSome=true->(e.getD i none).isSome=true
 |0,_,_,_,_,h,_,_=>by cases h
 |n+1,x,y,g,e,h,i,w=>by
  rw[iL]at h;split at h
  ·split at h
   ·split at h
    ·cases h;exact w
    ·cases h
   ·cases h;exact Cm w
  ·split at h
   ·exact EM (λa b g e=>PL n a b g e) _ _ g e h i w
   ·cases h
theorem PM{f:Ty->Ty->List (Option aA)->Option (List (Option aA))}(m:∀a b g w,f a b g=some w->w.length=g.length)(n:∀a b g w,f a b g=some w->∀i,(g.getD i none).isSome=true->(w.getD i none).isSome=true)(v:Nat):∀(x d:List Ty) (g w:aK),x.length=d.length->mC f x d g=some w->v<g.length->
  (∃a,a∈x/\∀b g w,b∈d->f a b g=some w->v<g.length->(w.getD v none).isSome=true)->(w.getD v none).isSome=true
 |[],_,_,_,_,_,_,⟨a,p,_⟩=>by cases p
 |_::_,[],_,_,k,_,_,_=>by simp at k
 |a::x,b::d,g,w,k,h,r,⟨c,j,l⟩=>by
  rw[mC]at h
  cases e:f a b g with
  |none=>rw[e]at h;cases h
  |some g1=>
   rw[e]at h;have s:=m a b g g1 e;rcases bH.1 j with rfl|j
   ·exact EM n x d g1 w h v (l b g g1 (by simp) e r)
   ·exact PM m n v x d g1 w (by simpa using k) h (by omega) ⟨c,j,λo g w q=>l o g w (bE _ q)⟩
theorem PN{N M:Nat}{H:aD}{v:Nat}:∀(m n:Nat) (x y:Ty) (g c:aK),Uu m x v->dJ N n x->dJ N M y->n<=M->iL M H n x y g=some c->v<g.length->(c.getD v none).isSome=true
 |0,_,_,_,_,_,h,_,_,_,_,_=>absurd h id
 |_+1,0,_,_,_,_,_,h,_,_,_,_=>absurd h id
 |m+1,n+1,x,y,g,c,l,k,q,D,h,o=>by
  rw[iL]at h;split at h
  ·rename_i f
   have p:x.var=v:=by
    rcases l with⟨_,h⟩|⟨z,d,_⟩
    ·exact h
    ·exfalso;rcases k with⟨_,_,j⟩|⟨_,_,j⟩|⟨w,_⟩|⟨w,_⟩
     ·rw[j]at d;cases d
     ·rw[j]at d;cases d
     ·rw[f]at w;exact absurd w (by decide)
     ·rw[f]at w;rcases w with w|w<;>exact absurd w (by decide)
   split at h
   ·rename_i t e;split at h
    ·cases h;rw[<-p,e];rfl
    ·cases h
   ·cases h;rw[p,aW,mK,aR rfl,aR o];rfl
  ·rename_i f;split at h
   ·rename_i A;obtain⟨i,rfl⟩:∃i,M=i+1:=⟨M-1,by omega⟩;obtain⟨G,_,_⟩:=Bm (k.le D) q A;rcases l with⟨w,_⟩|⟨z,d,E⟩
    ·exact absurd w f
    ·refine PM (λa b g c=>yH n a b g c) (λa b g c=>PL n a b g c) v _ _ g c G h o ⟨z,d,λb r s u C F=> ?_⟩;exact PN m n z b r s E (JV k d) (dJ.up i b (JV q u)) (by omega) C F
   ·cases h
def yO:Nat->Ex->Bool
 |0,_=>false
 |m+1,x=>(((decide (x.op=bK)||decide (x.op=dS))&&decide (x.names.length=1))||(decide (x.op=dO)&&decide (x.names.length=1)&&decide (x.kids.length=1))||(decide (x.op=eS)&&decide (x.kids.length=2))||(decide (x.op=xA)&&decide (x.kids.length=3))||(decide (x.op=oO)&&decide (x.kids.length=2))||
   ((decide (x.op=iP)||decide (x.op=gV))&&decide (0<x.names.length)&&decide (x.kids.length=x.names.length+1)))&&x.kids.all (yO m)
theorem BX:∀(m:Nat) (x:Ex),yO m x=true->qD m x
 |0,_,h=>by cases h
 |m+1,x,h=>by
  simp only[yO,cY,l8,cX,lS]at h;obtain⟨e,w⟩:=h;refine⟨?_,λy a=>BX m y (w y a)⟩;rcases e with((((h|h)|h)|h)|h)|h
  ·exact aQ h
  ·exact aM (aQ ⟨h.1.1,h.1.2,h.2⟩)
  ·exact aM (aM (aQ h))
  ·exact aM (aM (aM (aQ h)))
  ·exact aM (aM (aM (aM (aQ h))))
  ·exact aM (aM (aM (aM (aM ⟨h.1.1,h.1.2,h.2⟩))))
def U3(N:Nat):Nat->Ty->Bool
 |0,_=>false
 |m+1,t=>match t.kids with
  |[]=>(decide (t.kind=[])&&decide (t.var<N))||((decide (t.kind=nD)||decide (t.kind=eU))&&decide (t.var=0))
  |[a]=>decide (t.kind=nF)&&decide (t.var=0)&&U3 N m a
  |[a,b]=>(decide (t.kind=eS)||decide (t.kind=dO))&&decide (t.var=0)&&U3 N m a&&U3 N m b
  |_=>false
theorem IF(N:Nat):∀(m:Nat) (t:Ty),U3 N m t=true->dJ N m t
 |0,_,h=>by cases h
 |m+1,t,h=>by
  unfold U3 at h;split at h
  ·rename_i e;simp only[cY,l8,cX]at h;rcases h with h|h
   ·exact aQ ⟨h.1,h.2,e⟩
   ·exact aM (aQ ⟨h.1,h.2,e⟩)
  ·rename_i a e;simp only[cY,cX]at h;exact aM (aM (aQ ⟨h.1.1,h.1.2,a,e,IF N m a h.2⟩))
  ·rename_i a b e;simp only[cY,l8,cX]at h;exact aM (aM (aM ⟨h.1.1.1,h.1.1.2,a,b,e,IF N m a h.1.2,IF N m b h.2⟩))
  ·cases h
theorem jc(s:ByteArray)(i:300<s.size)(f:Value)(w:World)(h:Addr)(x:w.cell? ⟨2,0,none⟩=some (eQ h))(d:2<w.heap.size):
  Calls prog 94 #[.string s,f] w λe c=>e= .returned (.tuple #[.nilIface,eQ h])/\w.grownBy c none:=by
 have j:(300:Int)<((s.size:Nat):Int):=by omega
 have a:=dP (dP x (.cells #[.nilIface] 130)) (.cells #[.nilIface] 72);unfold eQ at x a⊢;have g:¬2=w.heap.size:=by omega
 go_enter_defers func94,ntmps94
 go_wp2_with fail
 go_region
 go_wp2;refine⟨.tuple #[.nilIface, .iface 437 (.pointer (some h))], ?_,rfl,cZ ((aO _ _ _).trans (aO _ _ _))⟩;have b:((w.alloc (.cells #[.nilIface] 130)).alloc (.cells #[.iface 437 (.pointer (some h))] 72)).cell? ⟨w.heap.size,0,none⟩=some .nilIface:=dP (by simp[go_sem]) _;simp[results,results94,go_sem,b]
def Xs(w a:World)(x:St)(e:Ending)(h:Ex)(d:Addr):Prop:=
 w.grownBy a none/\((0<=x.bad/\∃b,e= .returned (.tuple #[.nilIface, .iface 134 (.pointer (some ⟨b,0,none⟩))])/\a.heap[b]? =some (.cells #[.int .i64 x.bad] 145 (0,0)))\/
  (x.bad<0/\∃v c m,Fz c a/\dI m c v h/\cA m h<=400/\((40<cA m h/\e= .returned (.tuple #[.nilIface,eQ d]))\/(cA m h<=40/\e= .returned (.tuple #[v, .nilIface])))))
theorem jd(s:ByteArray)(G:s.size<=300)(w:World)(n:Nat)(x:Ex)(k:St)(y:fC (dU dL s) n ⟨0,-1⟩=some (x,k))(j:Addr)(t:w.cell? ⟨3,0,none⟩=some (eQ j))(F:3<w.heap.size):
  Calls prog 67 #[.string s] w λe l=>Xs w l (cL (dU dL s) k eE) e x j:=by
 have i:=aS (Kh s G w n x k y);clear y;go_enter func67,ntmps67;go_wp2_with fail;refine i.mono ?_;rintro e I ⟨g,(⟨h,v,p,m,rfl,d,c,f⟩|⟨h,b,rfl,q⟩)⟩
 ·obtain⟨K,z,H,rfl,A,r⟩:=c.dat d
  have u:I.cell? ⟨3,0,none⟩=some (eQ j):=by rw[bT (a:=⟨3,0,none⟩) (g.block _ F (by simp))];exact t
  have E:=dP u (.cells #[.int .i64 ((cA m x:Nat):Int)] 188);have J:=OV H z (cA m x) _ r;have Q:=aS (aL h (aL d (aL c f)));have o:=aS g;clear h d c g t u A r i;unfold eQ at E;by_cases C:40<cA m x
  ·have D:(40:Int)<((cA m x:Nat):Int):=by omega
   go_wp2_with (go_at_call 289;refine(VP _ _).mono ?_;rintro e l ⟨rfl,rfl⟩)
   go_region
   go_wp2
   go_ret2
   obtain⟨h,d,c,f⟩:=Q.out;exact⟨cZ (o.trans (aO _ _ _)),aM ⟨h,_,p,m,(d.alloc _).drew,c,f,aQ ⟨C,rfl⟩⟩⟩
  ·have D:¬(40:Int)<((cA m x:Nat):Int):=by omega
   go_wp2_with (go_at_call 289;refine(VP _ _).mono ?_;rintro e l ⟨rfl,rfl⟩)
   go_ret2
   obtain⟨h,d,c,f⟩:=Q.out;exact⟨o.trans (aO _ _ _),aM ⟨h,_,p,m,d.alloc _,c,f,aM ⟨by omega,rfl⟩⟩⟩
 ·have Q:=aS (aL g (aL h q));clear g h q i;go_wp2
  go_ret2
  exact⟨Q.1,aQ ⟨Q.2.1,b,rfl,Q.2.2⟩⟩
theorem PQ(s:ByteArray)(g:300<s.size)(w:World)(h:Addr)(b:w.cell? ⟨2,0,none⟩=some (eQ h))(f:2<w.heap.size):
  Calls prog 67 #[.string s] w λe c=>e= .returned (.tuple #[.nilIface,eQ h])/\w.grownBy c none:=by
 have x:=aS (jc s g (.func (.func 95) #[] #[]) w h b f);clear b;unfold eQ at x⊢;go_enter func67,ntmps67;go_wp2_with (go_at_call 94;refine x.mono ?_;rintro e c ⟨rfl,a⟩;have d:=aS a;clear a)
 go_ret2
 exact⟨rfl,d.out⟩
def xV(f:FuncId)(w:World)(v:Value)(t:aA):Prop:=∀h,w.grownBy h none->Calls prog f #[v] h λe x=>e= .returned (.string (B t))/\h.grownBy x none
theorem xV.at{f:FuncId}{w:World}{v:Value}{t:aA}(h:xV f w v t){e:World}(x:w.grownBy e none):xV f e v t:=λb a=>h b (x.trans a)
theorem je(w:World)(b:Nat)(h:aA)(x:h.length<=1000000000)(c:w.cell? ⟨b,1,none⟩=some (.string (B h))):
  Calls prog 69 #[(.iface 186 (.pointer (some ⟨b,0,none⟩)))] w λe a=>e= .returned (.string (B (h)))/\w.grownBy a none:=by
 have d:=t7 b;have f:(B h).size<=1000000000:=by rw[dY];exact x
 go_enter func69,ntmps69;go_wp2;go_ret;exact⟨rfl,bC _ _⟩
theorem WA(w:World)(b:Nat)(h:aA)(x:h.length<=1000000000)(c:w.cell? ⟨b,1,none⟩=some (.string (B h))):
  Calls prog 69 #[(.iface 191 (.pointer (some ⟨b,0,none⟩)))] w λe a=>e= .returned (.string (B (h)))/\w.grownBy a none:=by
 have d:=N4 b;have f:=wW b;have g:(B h).size<=1000000000:=by rw[dY];exact x
 go_enter func69,ntmps69;go_wp2;go_ret;exact⟨rfl,bC _ _⟩
theorem wh(w:World)(b:Nat)(c a:Nat)(x:aA)(h:aA)(n:h.length<=1000000000)(o:x.length<=1000000000)(g:b<w.heap.size)(l:w.cell? ⟨b,1,none⟩=some (.string (B h)))(m:w.cell? ⟨b,2,none⟩=some (.iface c (.pointer (some ⟨a,0,none⟩))))(i:xV 69 w (.iface c (.pointer (some ⟨a,0,none⟩))) x):
  Calls prog 69 #[(.iface 194 (.pointer (some ⟨b,0,none⟩)))] w λe p=>e= .returned (.string (B (XW++h++zX++x)))/\w.grownBy p none:=by
 have z:=vA b;have A:=DH b;have y:=y7 b;have D:(B h).size<=1000000000:=by rw[dY];exact n
 have C:(B x).size<=1000000000:=by rw[dY];exact o
 have t:¬9223372036854775807<4+(B h).size:=by omega
 have u:¬9223372036854775807<4+(B h).size+4:=by omega
 have v:¬9223372036854775807<4+(B h).size+4+(B x).size:=by omega
 have k:=aS i;clear i;go_enter func69,ntmps69;go_wp2_with fail
 go_region_held3 (λj=>j.cell? ⟨b,1,none⟩=some (.string (B h))/\j.cell? ⟨b,2,none⟩=some (.iface c (.pointer (some ⟨a,0,none⟩)))) (first|assumption|exact⟨by assumption,by assumption⟩|go_keep) (first|(go_at_call_of 69 (Value.iface c (Value.pointer (some ⟨a,0,none⟩)));refine(k.out _ ?_).mono ?_;exact(cZ (bC _ _));rintro e q ⟨rfl,f⟩;have d:Hid (w.grownBy q none):=fO (cZ (bC _ _)) f;have r:=dB l g d.out;have s:=dB m g d.out;clear f))
 all_goals
  go_wp2;go_ret;refine⟨?_,d.out⟩;show Ending.returned (.string (B XW++B h++B zX++B x))=_;rw[dQ,dQ,dQ]
theorem Cn(w:World)(b:Nat)(l i:Nat)(h:aA)(m j:Nat)(a:aA)(n k:Nat)(c:aA)(E:h.length<=1000000000)(F:a.length<=1000000000)(G:c.length<=1000000000)(x:b<w.heap.size)(o:w.cell? ⟨b,1,none⟩=some (.iface l (.pointer (some ⟨i,0,none⟩))))(p:w.cell? ⟨b,2,none⟩=some (.iface m (.pointer (some ⟨j,0,none⟩))))(q:w.cell? ⟨b,3,none⟩=some (.iface n (.pointer (some ⟨k,0,none⟩))))(v:xV 69 w (.iface l (.pointer (some ⟨i,0,none⟩))) h)(y:xV 69 w (.iface m (.pointer (some ⟨j,0,none⟩))) a)(z:xV 69 w (.iface n (.pointer (some ⟨k,0,none⟩))) c):
  Calls prog 69 #[(.iface 197 (.pointer (some ⟨b,0,none⟩)))] w λe H=>e= .returned (.string (B (Ob++h++L4++a++L8++c)))/\w.grownBy H none:=by
 have h1:=tN b;have h2:=FQ b;have Z:=wY b;have h0:=zS b;have h3:(B h).size<=1000000000:=by rw[dY];exact E
 have h4:(B a).size<=1000000000:=by rw[dY];exact F
 have h5:(B c).size<=1000000000:=by rw[dY];exact G
 have U:¬9223372036854775807<3+(B h).size:=by omega
 have V:¬9223372036854775807<3+(B h).size+6:=by omega
 have W:¬9223372036854775807<3+(B h).size+6+(B a).size:=by omega
 have X:¬9223372036854775807<3+(B h).size+6+(B a).size+6:=by omega
 have Y:¬9223372036854775807<3+(B h).size+6+(B a).size+6+(B c).size:=by omega
 have A:=aS v;have C:=aS y;have D:=aS z;clear v y z;go_enter func69,ntmps69;go_wp2_with fail
 go_region_held3 (λr=>r.cell? ⟨b,1,none⟩=some (.iface l (.pointer (some ⟨i,0,none⟩)))/\r.cell? ⟨b,2,none⟩=some (.iface m (.pointer (some ⟨j,0,none⟩)))/\r.cell? ⟨b,3,none⟩=some (.iface n (.pointer (some ⟨k,0,none⟩)))) (first|assumption|exact⟨by assumption,by assumption,by assumption⟩|go_keep) (first|(go_at_call_of 69 (Value.iface l (Value.pointer (some ⟨i,0,none⟩)));refine(A.out _ ?_).mono ?_;exact(cZ (bC _ _));rintro e I ⟨rfl,s⟩;have d:Hid (w.grownBy I none):=fO (cZ (bC _ _)) s;have L:=dB o x d.out;have M:=dB p x d.out;have N:=dB q x d.out;clear s)|(go_at_call_of 69 (Value.iface m (Value.pointer (some ⟨j,0,none⟩)));refine(C.out _ ?_).mono ?_;exact d.out;rintro e J ⟨rfl,t⟩;have f:Hid (w.grownBy J none):=fO d.out t;have O:=dB o x f.out;have P:=dB p x f.out;have Q:=dB q x f.out;clear t)|(go_at_call_of 69 (Value.iface n (Value.pointer (some ⟨k,0,none⟩)));refine(D.out _ ?_).mono ?_;exact f.out;rintro e K ⟨rfl,u⟩;have g:Hid (w.grownBy K none):=fO f.out u;have R:=dB o x g.out;have S:=dB p x g.out;have T:=dB q x g.out;clear u))
 all_goals
  go_wp2;go_ret;refine⟨?_,g.out⟩;show Ending.returned (.string (B Ob++B h++B L4++B a++B L8++B c))=_;rw[dQ,dQ,dQ,dQ,dQ]
theorem Z9(w:World)(b:Nat)(g c:Nat)(h:aA)(i d:Nat)(x:aA)(t:h.length<=1000000000)(u:x.length<=1000000000)(f:b<w.heap.size)(k:w.cell? ⟨b,1,none⟩=some (.iface g (.pointer (some ⟨c,0,none⟩))))(l:w.cell? ⟨b,2,none⟩=some (.iface i (.pointer (some ⟨d,0,none⟩))))(o:xV 100 w (.iface g (.pointer (some ⟨c,0,none⟩))) h)(p:xV 101 w (.iface i (.pointer (some ⟨d,0,none⟩))) x):
  Calls prog 69 #[(.iface 211 (.pointer (some ⟨b,0,none⟩)))] w λe v=>e= .returned (.string (B (h++Oc++x)))/\w.grownBy v none:=by
 have M:=rR b;have N:=zA b;have I:=t8 b;have J:=vB b;have K:=tC b;have L:=oS b;have H:=tS b;have O:(B h).size<=1000000000:=by rw[dY];exact t
 have P:(B x).size<=1000000000:=by rw[dY];exact u
 have F:¬9223372036854775807<(B h).size+1:=by omega
 have G:¬9223372036854775807<(B h).size+1+(B x).size:=by omega
 have r:=aS o;have s:=aS p;clear o p;go_enter func69,ntmps69;go_wp2_with fail
 go_region_held3 (λq=>q.cell? ⟨b,1,none⟩=some (.iface g (.pointer (some ⟨c,0,none⟩)))/\q.cell? ⟨b,2,none⟩=some (.iface i (.pointer (some ⟨d,0,none⟩)))) (first|assumption|exact⟨by assumption,by assumption⟩|go_keep) (first|(go_at_call_of 100 (Value.iface g (Value.pointer (some ⟨c,0,none⟩)));refine(r.out _ ?_).mono ?_;exact(cZ (bC _ _));rintro e y ⟨rfl,m⟩;have a:Hid (w.grownBy y none):=fO (cZ (bC _ _)) m;have A:=dB k f a.out;have C:=dB l f a.out;clear m)|(go_at_call_of 101 (Value.iface i (Value.pointer (some ⟨d,0,none⟩)));refine(s.out _ ?_).mono ?_;exact a.out;rintro e z ⟨rfl,n⟩;have j:Hid (w.grownBy z none):=fO a.out n;have D:=dB k f j.out;have E:=dB l f j.out;clear n))
 all_goals
  go_wp2;go_ret;refine⟨?_,j.out⟩;show Ending.returned (.string (B h++B Oc++B x))=_;rw[dQ,dQ]
theorem jf(w:World)(b:Nat)(g c:Nat)(h:aA)(i d:Nat)(x:aA)(t:h.length<=1000000000)(u:x.length<=1000000000)(f:b<w.heap.size)(k:w.cell? ⟨b,1,none⟩=some (.iface g (.pointer (some ⟨c,0,none⟩))))(l:w.cell? ⟨b,2,none⟩=some (.iface i (.pointer (some ⟨d,0,none⟩))))(o:xV 69 w (.iface g (.pointer (some ⟨c,0,none⟩))) h)(p:xV 69 w (.iface i (.pointer (some ⟨d,0,none⟩))) x):
  Calls prog 69 #[(.iface 214 (.pointer (some ⟨b,0,none⟩)))] w λe v=>e= .returned (.string (B (nX++h++zY++x++nY)))/\w.grownBy v none:=by
 have O:=nM b;have P:=zT b;have K:=pH b;have L:=rD b;have M:=pI b;have N:=lW b;have J:=oM b;have Q:=nN b;have R:(B h).size<=1000000000:=by rw[dY];exact t
 have S:(B x).size<=1000000000:=by rw[dY];exact u
 have F:¬9223372036854775807<1+(B h).size:=by omega
 have G:¬9223372036854775807<1+(B h).size+2:=by omega
 have H:¬9223372036854775807<1+(B h).size+2+(B x).size:=by omega
 have I:¬9223372036854775807<1+(B h).size+2+(B x).size+1:=by omega
 have r:=aS o;have s:=aS p;clear o p;go_enter func69,ntmps69;go_wp2_with fail
 go_region_held3 (λq=>q.cell? ⟨b,1,none⟩=some (.iface g (.pointer (some ⟨c,0,none⟩)))/\q.cell? ⟨b,2,none⟩=some (.iface i (.pointer (some ⟨d,0,none⟩)))) (first|assumption|exact⟨by assumption,by assumption⟩|go_keep) (first|(go_at_call_of 69 (Value.iface g (Value.pointer (some ⟨c,0,none⟩)));refine(r.out _ ?_).mono ?_;exact(cZ (bC _ _));rintro e y ⟨rfl,m⟩;have a:Hid (w.grownBy y none):=fO (cZ (bC _ _)) m;have A:=dB k f a.out;have C:=dB l f a.out;clear m)|(go_at_call_of 69 (Value.iface i (Value.pointer (some ⟨d,0,none⟩)));refine(s.out _ ?_).mono ?_;exact a.out;rintro e z ⟨rfl,n⟩;have j:Hid (w.grownBy z none):=fO a.out n;have D:=dB k f j.out;have E:=dB l f j.out;clear n))
 all_goals
  go_wp2;go_ret;refine⟨?_,j.out⟩;show Ending.returned (.string (B nX++B h++B zY++B x++B nY))=_;rw[dQ,dQ,dQ,dQ]
theorem PR(w:World)(h x:aA)(t b:Nat)(o:h.length<=1000000000)(p:x.length<=1000000000)(j:xV 69 w (.iface t (.pointer (some ⟨b,0,none⟩))) x):
  Calls prog 98 #[.agg #[.string (B h),(.iface t (.pointer (some ⟨b,0,none⟩)))]] w λe q=>e= .returned (.string (B (h++SK++x)))/\w.grownBy q none:=by
 have z:(B h).size<=1000000000:=by rw[dY];exact o
 have A:(B x).size<=1000000000:=by rw[dY];exact p
 have v:¬9223372036854775807<(B h).size+3:=by omega
 have y:¬9223372036854775807<(B h).size+3+(B x).size:=by omega
 have l:=aS j;clear j;obtain⟨a,c⟩:∃a,a=w.alloc (.cells #[.string (B h),(.iface t (.pointer (some ⟨b,0,none⟩)))] 203):=⟨_,rfl⟩;have f:Hid (w.grownBy a none):=by rw[c];exact aO _ _ _
 have m:a.cell? ⟨w.heap.size,0,none⟩=some (.string (B h)):=by rw[c];simp[go_sem]
 have n:a.cell? ⟨w.heap.size,1,none⟩=some (.iface t (.pointer (some ⟨b,0,none⟩))):=by rw[c];simp[go_sem]
 have i:w.heap.size<a.heap.size:=by rw[c];simp
 go_enter func98,ntmps98;go_wp2_with fail;rw[<-c];clear c
 go_region_held3 (λk=>k.cell? ⟨w.heap.size,0,none⟩=some (.string (B h))/\k.cell? ⟨w.heap.size,1,none⟩=some (.iface t (.pointer (some ⟨b,0,none⟩)))) (first|assumption|exact⟨by assumption,by assumption⟩|go_keep) ((go_at_call 69;refine(l.out _ ?_).mono ?_;exact cZ f.out;rintro e r ⟨rfl,g⟩;have d:Hid (a.grownBy r none):=fO (cZ (bC _ _)) g;have s:=dB m i d.out;have u:=dB n i d.out;clear g))
 all_goals
  go_wp2;go_ret;refine⟨?_,f.out.trans d.out⟩;show Ending.returned (.string (B h++B SK++B x))=_;rw[dQ,dQ]
theorem wj(w:World)(b:Nat)(f d:Nat)(i:aA)(m l:Nat)(a h:aA)(M:h.length<=1000000)(Q:i.length<=1000000)(C:a.length<=1000000000)(x:b<w.heap.size)(n:w.cell? ⟨b,1,none⟩=some (.string (B h)))(o:w.cell? ⟨b,2,none⟩=some (.iface f (.pointer (some ⟨d,0,none⟩))))(p:w.cell? ⟨b,3,none⟩=some (.iface m (.pointer (some ⟨l,0,none⟩))))
  (s:xV 69 w (.iface f (.pointer (some ⟨d,0,none⟩))) i) (t:xV 69 w (.iface m (.pointer (some ⟨l,0,none⟩))) a):
  Calls prog 69 #[.iface 200 (.pointer (some ⟨b,0,none⟩))] w λe D=>e= .returned (.string (B (MJ++(h++SK++i)++nj++a)))/\w.grownBy D none:=by
 have U:=rZ b;have V:=DI b;have R:=tO b;have S:=wZ b;have T:=tQ b;obtain⟨y,k⟩:∃y,y=h++SK++i:=⟨_,rfl⟩;have A:y.length<=1000000000:=by rw[k];simp[SK];omega
 have W:(B y).size<=1000000000:=by rw[dY];exact A
 have X:(B a).size<=1000000000:=by rw[dY];exact C
 have N:¬9223372036854775807<4+(B y).size:=by omega
 have O:¬9223372036854775807<4+(B y).size+4:=by omega
 have P:¬9223372036854775807<4+(B y).size+4+(B a).size:=by omega
 have u:Hid (xV 98 w (.agg #[.string (B h),(.iface f (.pointer (some ⟨d,0,none⟩)))]) y):=λg z=>by rw[k];exact PR g h i f d (by omega) (by omega) (s.at z)
 have v:=aS t;rw[<-k];clear s t k;go_enter func69,ntmps69;go_wp2_with fail
 go_region_held3 (λg=>g.cell? ⟨b,1,none⟩=some (.string (B h))/\g.cell? ⟨b,2,none⟩=some (.iface f (.pointer (some ⟨d,0,none⟩)))/\g.cell? ⟨b,3,none⟩=some (.iface m (.pointer (some ⟨l,0,none⟩)))) (first|assumption|exact⟨by assumption,by assumption,by assumption⟩|go_keep) (first|(go_at_call 98;refine(u.out _ ?_).mono ?_;exact(cZ (bC _ _));rintro e E ⟨rfl,q⟩;have c:Hid (w.grownBy E none):=fO (cZ (bC _ _)) q;have G:=dB n x c.out;have H:=dB o x c.out;have I:=dB p x c.out;clear q)|(go_at_call 69;refine(v.out _ ?_).mono ?_;exact c.out;rintro e F ⟨rfl,r⟩;have j:Hid (w.grownBy F none):=fO c.out r;have J:=dB n x j.out;have K:=dB o x j.out;have L:=dB p x j.out;clear r))
 all_goals
  go_wp2;go_ret;refine⟨?_,j.out⟩;show Ending.returned (.string (B MJ++B y++B nj++B a))=_;rw[dQ,dQ,dQ]
theorem WB(w:World)(b:Nat)(x:aA)(f:x.length<=1000000)(a:xV 69 w (.iface 186 (.pointer (some ⟨b,0,none⟩))) x):
  Calls prog 100 #[.iface 186 (.pointer (some ⟨b,0,none⟩))] w λe g=>e= .returned (.string (B (oA false x)))/\w.grownBy g none:=by
 have i:=XR b;have j:=ff b;have k:=XS b;have l:=OC b;have m:(B x).size<=1000000:=by rw[dY];exact f
 have d:=aS (a w (bC _ _));clear a;go_enter func100,ntmps100;go_wp2_with (go_at_call 69;refine d.mono ?_;rintro e n ⟨rfl,h⟩;have c:=aS h;clear h);go_ret;refine⟨?_,c.out⟩;rfl
theorem PU(w:World)(b:Nat)(x:aA)(f:x.length<=1000000)(a:xV 69 w (.iface 191 (.pointer (some ⟨b,0,none⟩))) x):
  Calls prog 100 #[.iface 191 (.pointer (some ⟨b,0,none⟩))] w λe g=>e= .returned (.string (B (oA false x)))/\w.grownBy g none:=by
 have i:=fd b;have j:=zx b;have k:=fe b;have l:=JG b;have m:(B x).size<=1000000:=by rw[dY];exact f
 have d:=aS (a w (bC _ _));clear a;go_enter func100,ntmps100;go_wp2_with (go_at_call 69;refine d.mono ?_;rintro e n ⟨rfl,h⟩;have c:=aS h;clear h);go_ret;refine⟨?_,c.out⟩;rfl
theorem ZB(w:World)(b:Nat)(x:aA)(f:x.length<=1000000)(a:xV 69 w (.iface 194 (.pointer (some ⟨b,0,none⟩))) x):
  Calls prog 100 #[.iface 194 (.pointer (some ⟨b,0,none⟩))] w λe g=>e= .returned (.string (B (oA true x)))/\w.grownBy g none:=by
 have k:=y7 b;have l:=uc b;have m:=fg b;have n:=SF b;have o:(B x).size<=1000000:=by rw[dY];exact f
 have d:=aS (a w (bC _ _));clear a;have i:¬9223372036854775807<1+(B x).size:=by omega
 have j:¬9223372036854775807<1+(B x).size+1:=by omega
 go_enter func100,ntmps100;go_wp2_with (go_at_call 69;refine d.mono ?_;rintro e p ⟨rfl,h⟩;have c:=aS h;clear h);go_ret;refine⟨?_,c.out⟩;show Ending.returned (.string (B nX++B x++B nY))=_;rw[dQ,dQ];rfl
theorem jg(w:World)(b:Nat)(x:aA)(f:x.length<=1000000)(a:xV 69 w (.iface 197 (.pointer (some ⟨b,0,none⟩))) x):
  Calls prog 100 #[.iface 197 (.pointer (some ⟨b,0,none⟩))] w λe g=>e= .returned (.string (B (oA true x)))/\w.grownBy g none:=by
 have k:=wY b;have l:=zS b;have m:=ud b;have n:=VC b;have o:(B x).size<=1000000:=by rw[dY];exact f
 have d:=aS (a w (bC _ _));clear a;have i:¬9223372036854775807<1+(B x).size:=by omega
 have j:¬9223372036854775807<1+(B x).size+1:=by omega
 go_enter func100,ntmps100;go_wp2_with (go_at_call 69;refine d.mono ?_;rintro e p ⟨rfl,h⟩;have c:=aS h;clear h);go_ret;refine⟨?_,c.out⟩;show Ending.returned (.string (B nX++B x++B nY))=_;rw[dQ,dQ];rfl
theorem ZD(w:World)(b:Nat)(x:aA)(f:x.length<=1000000)(a:xV 69 w (.iface 200 (.pointer (some ⟨b,0,none⟩))) x):
  Calls prog 100 #[.iface 200 (.pointer (some ⟨b,0,none⟩))] w λe g=>e= .returned (.string (B (oA true x)))/\w.grownBy g none:=by
 have k:=tO b;have l:=wZ b;have m:=tQ b;have n:=SG b;have o:(B x).size<=1000000:=by rw[dY];exact f
 have d:=aS (a w (bC _ _));clear a;have i:¬9223372036854775807<1+(B x).size:=by omega
 have j:¬9223372036854775807<1+(B x).size+1:=by omega
 go_enter func100,ntmps100;go_wp2_with (go_at_call 69;refine d.mono ?_;rintro e p ⟨rfl,h⟩;have c:=aS h;clear h);go_ret;refine⟨?_,c.out⟩;show Ending.returned (.string (B nX++B x++B nY))=_;rw[dQ,dQ];rfl
theorem PV(w:World)(b:Nat)(x:aA)(f:x.length<=1000000)(a:xV 69 w (.iface 206 (.pointer (some ⟨b,0,none⟩))) x):
  Calls prog 100 #[.iface 206 (.pointer (some ⟨b,0,none⟩))] w λe g=>e= .returned (.string (B (oA true x)))/\w.grownBy g none:=by
 have k:=mO b;have l:=nL b;have m:=mP b;have n:=kV b;have o:(B x).size<=1000000:=by rw[dY];exact f
 have d:=aS (a w (bC _ _));clear a;have i:¬9223372036854775807<1+(B x).size:=by omega
 have j:¬9223372036854775807<1+(B x).size+1:=by omega
 go_enter func100,ntmps100;go_wp2_with (go_at_call 69;refine d.mono ?_;rintro e p ⟨rfl,h⟩;have c:=aS h;clear h);go_ret;refine⟨?_,c.out⟩;show Ending.returned (.string (B nX++B x++B nY))=_;rw[dQ,dQ];rfl
theorem SQ(w:World)(b:Nat)(x:aA)(f:x.length<=1000000)(a:xV 69 w (.iface 211 (.pointer (some ⟨b,0,none⟩))) x):
  Calls prog 100 #[.iface 211 (.pointer (some ⟨b,0,none⟩))] w λe g=>e= .returned (.string (B (oA false x)))/\w.grownBy g none:=by
 have i:=t8 b;have j:=vB b;have k:=tC b;have l:=oS b;have m:(B x).size<=1000000:=by rw[dY];exact f
 have d:=aS (a w (bC _ _));clear a;go_enter func100,ntmps100;go_wp2_with (go_at_call 69;refine d.mono ?_;rintro e n ⟨rfl,h⟩;have c:=aS h;clear h);go_ret;refine⟨?_,c.out⟩;rfl
theorem WC(w:World)(b:Nat)(x:aA)(f:x.length<=1000000)(a:xV 69 w (.iface 214 (.pointer (some ⟨b,0,none⟩))) x):
  Calls prog 100 #[.iface 214 (.pointer (some ⟨b,0,none⟩))] w λe g=>e= .returned (.string (B (oA false x)))/\w.grownBy g none:=by
 have i:=pH b;have j:=rD b;have k:=pI b;have l:=lW b;have m:(B x).size<=1000000:=by rw[dY];exact f
 have d:=aS (a w (bC _ _));clear a;go_enter func100,ntmps100;go_wp2_with (go_at_call 69;refine d.mono ?_;rintro e n ⟨rfl,h⟩;have c:=aS h;clear h);go_ret;refine⟨?_,c.out⟩;rfl
theorem WD(w:World)(b:Nat)(x:aA)(f:x.length<=1000000)(a:xV 69 w (.iface 186 (.pointer (some ⟨b,0,none⟩))) x):
  Calls prog 101 #[.iface 186 (.pointer (some ⟨b,0,none⟩))] w λe g=>e= .returned (.string (B (oA false x)))/\w.grownBy g none:=by
 have i:=t7 b;have j:=OB b;have k:=VB b;have l:(B x).size<=1000000:=by rw[dY];exact f
 have d:=aS (a w (bC _ _));clear a;go_enter func101,ntmps101;go_wp2_with (go_at_call 69;refine d.mono ?_;rintro e m ⟨rfl,h⟩;have c:=aS h;clear h);go_ret;refine⟨?_,c.out⟩;rfl
theorem PW(w:World)(b:Nat)(x:aA)(f:x.length<=1000000)(a:xV 69 w (.iface 191 (.pointer (some ⟨b,0,none⟩))) x):
  Calls prog 101 #[.iface 191 (.pointer (some ⟨b,0,none⟩))] w λe g=>e= .returned (.string (B (oA false x)))/\w.grownBy g none:=by
 have i:=N4 b;have j:=wW b;have k:=VA b;have l:(B x).size<=1000000:=by rw[dY];exact f
 have d:=aS (a w (bC _ _));clear a;go_enter func101,ntmps101;go_wp2_with (go_at_call 69;refine d.mono ?_;rintro e m ⟨rfl,h⟩;have c:=aS h;clear h);go_ret;refine⟨?_,c.out⟩;rfl
theorem ZG(w:World)(b:Nat)(x:aA)(f:x.length<=1000000)(a:xV 69 w (.iface 194 (.pointer (some ⟨b,0,none⟩))) x):
  Calls prog 101 #[.iface 194 (.pointer (some ⟨b,0,none⟩))] w λe g=>e= .returned (.string (B (oA true x)))/\w.grownBy g none:=by
 have k:=vA b;have l:=DH b;have m:=XT b;have n:(B x).size<=1000000:=by rw[dY];exact f
 have d:=aS (a w (bC _ _));clear a;have i:¬9223372036854775807<1+(B x).size:=by omega
 have j:¬9223372036854775807<1+(B x).size+1:=by omega
 go_enter func101,ntmps101;go_wp2_with (go_at_call 69;refine d.mono ?_;rintro e o ⟨rfl,h⟩;have c:=aS h;clear h);go_ret;refine⟨?_,c.out⟩;show Ending.returned (.string (B nX++B x++B nY))=_;rw[dQ,dQ];rfl
theorem jh(w:World)(b:Nat)(x:aA)(f:x.length<=1000000)(a:xV 69 w (.iface 197 (.pointer (some ⟨b,0,none⟩))) x):
  Calls prog 101 #[.iface 197 (.pointer (some ⟨b,0,none⟩))] w λe g=>e= .returned (.string (B (oA true x)))/\w.grownBy g none:=by
 have k:=tN b;have l:=FQ b;have m:=fh b;have n:(B x).size<=1000000:=by rw[dY];exact f
 have d:=aS (a w (bC _ _));clear a;have i:¬9223372036854775807<1+(B x).size:=by omega
 have j:¬9223372036854775807<1+(B x).size+1:=by omega
 go_enter func101,ntmps101;go_wp2_with (go_at_call 69;refine d.mono ?_;rintro e o ⟨rfl,h⟩;have c:=aS h;clear h);go_ret;refine⟨?_,c.out⟩;show Ending.returned (.string (B nX++B x++B nY))=_;rw[dQ,dQ];rfl
theorem ZH(w:World)(b:Nat)(x:aA)(f:x.length<=1000000)(a:xV 69 w (.iface 200 (.pointer (some ⟨b,0,none⟩))) x):
  Calls prog 101 #[.iface 200 (.pointer (some ⟨b,0,none⟩))] w λe g=>e= .returned (.string (B (oA true x)))/\w.grownBy g none:=by
 have k:=rZ b;have l:=DI b;have m:=XU b;have n:(B x).size<=1000000:=by rw[dY];exact f
 have d:=aS (a w (bC _ _));clear a;have i:¬9223372036854775807<1+(B x).size:=by omega
 have j:¬9223372036854775807<1+(B x).size+1:=by omega
 go_enter func101,ntmps101;go_wp2_with (go_at_call 69;refine d.mono ?_;rintro e o ⟨rfl,h⟩;have c:=aS h;clear h);go_ret;refine⟨?_,c.out⟩;show Ending.returned (.string (B nX++B x++B nY))=_;rw[dQ,dQ];rfl
theorem PY(w:World)(b:Nat)(x:aA)(f:x.length<=1000000)(a:xV 69 w (.iface 206 (.pointer (some ⟨b,0,none⟩))) x):
  Calls prog 101 #[.iface 206 (.pointer (some ⟨b,0,none⟩))] w λe g=>e= .returned (.string (B (oA true x)))/\w.grownBy g none:=by
 have k:=lV b;have l:=x8 b;have m:=OD b;have n:(B x).size<=1000000:=by rw[dY];exact f
 have d:=aS (a w (bC _ _));clear a;have i:¬9223372036854775807<1+(B x).size:=by omega
 have j:¬9223372036854775807<1+(B x).size+1:=by omega
 go_enter func101,ntmps101;go_wp2_with (go_at_call 69;refine d.mono ?_;rintro e o ⟨rfl,h⟩;have c:=aS h;clear h);go_ret;refine⟨?_,c.out⟩;show Ending.returned (.string (B nX++B x++B nY))=_;rw[dQ,dQ];rfl
theorem SR(w:World)(b:Nat)(x:aA)(f:x.length<=1000000)(a:xV 69 w (.iface 211 (.pointer (some ⟨b,0,none⟩))) x):
  Calls prog 101 #[.iface 211 (.pointer (some ⟨b,0,none⟩))] w λe g=>e= .returned (.string (B (oA true x)))/\w.grownBy g none:=by
 have k:=rR b;have l:=zA b;have m:=SI b;have n:(B x).size<=1000000:=by rw[dY];exact f
 have d:=aS (a w (bC _ _));clear a;have i:¬9223372036854775807<1+(B x).size:=by omega
 have j:¬9223372036854775807<1+(B x).size+1:=by omega
 go_enter func101,ntmps101;go_wp2_with (go_at_call 69;refine d.mono ?_;rintro e o ⟨rfl,h⟩;have c:=aS h;clear h);go_ret;refine⟨?_,c.out⟩;show Ending.returned (.string (B nX++B x++B nY))=_;rw[dQ,dQ];rfl
theorem WE(w:World)(b:Nat)(x:aA)(f:x.length<=1000000)(a:xV 69 w (.iface 214 (.pointer (some ⟨b,0,none⟩))) x):
  Calls prog 101 #[.iface 214 (.pointer (some ⟨b,0,none⟩))] w λe g=>e= .returned (.string (B (oA false x)))/\w.grownBy g none:=by
 have i:=nM b;have j:=zT b;have k:=nN b;have l:(B x).size<=1000000:=by rw[dY];exact f
 have d:=aS (a w (bC _ _));clear a;go_enter func101,ntmps101;go_wp2_with (go_at_call 69;refine d.mono ?_;rintro e m ⟨rfl,h⟩;have c:=aS h;clear h);go_ret;refine⟨?_,c.out⟩;rfl
def rV(h e:aD):List aA:=List.zipWith (λn x=>n++SK++x) h e
theorem LP{e:aD}(h:e.length=ns.length):(rV ns e).length=ns.length:=by simp[rV,h]
theorem LQ{h:aD}{n x:aA}(e:ns[j]? =some n)(w:h[j]? =some x):(rV ns h)[j]? =some (n++SK++x):=by simp[rV,List.getElem?_zipWith,e,w]
theorem U4{e:aD}{y:aA}(h:e[j]? =some y):pS (e.take (j+1))=pS (e.take j)++[.string (B y)]:=by rw[iI,h];simp[pS]
theorem Co{w:World}{base n:Nat}{v:Value}{b:aD}(h:w.ownsRow base 9 1 v n (pS b))(s:0<n):∃g e,v= .slice (some ⟨g,0,none⟩) n e/\g<w.heap.size/\n<=e/\∀(j:Nat) (x:ByteArray),(b.map B)[j]? =some x->w.cell? ⟨g,0+j,none⟩=some (.string x):=by
 obtain⟨t,l⟩:=h;rcases l with⟨_,u⟩|⟨g,e,o,f,p,c,i,q,r,k⟩
 ·omega
 ·refine⟨g,e,f,aT c,i,λj x d=> ?_⟩
  have a:(pS b)[j]? =some (.string x):=by simp only[iH,iU]at d;obtain⟨y,m,rfl⟩:=d;simp[pS,m]
  rw[<-k,gD]at a;split at a
  ·simp only[World.cell?,c,jJ];simpa using a
  ·cases a
theorem Cp(h:aD):(h.map B).map (λx=>x.data.toList)=h:=by
 rw[o9]
 conv=>rhs;rw[<-List.map_id h]
 apply dF;intro a _;simp[B]
theorem ZI(w:World)(g Z:Nat)(h:aD)(l:aH)(b:aD)(hn:h.length<=1000000)(h0:0<h.length)(h7:b.length=h.length)(v:Iq w g h l)(h2:Ka l)
  (h6:∀n,n∈h->n.length<=1000000) (h8:∀x,x∈b->x.length<=1000000) (hj:(Lib.join (rV h b) SJ).length<=1000000000) (M:∀(j:Nat) (u:Value) (x:aA),l[j]? =some u->b[j]? =some x->xV 69 w u x):
  Calls prog 99 #[.slice (some ⟨g,0,none⟩) h.length Z] w λe w'=>e= .returned (.string (B (Lib.join (rV h b) SJ)))/\w.grownBy w' none:=by
 have w1:=v.1;obtain⟨c,r⟩:∃c,c=rV h b:=⟨_,rfl⟩;have h9:c.length=h.length:=by rw[r];exact LP h7
 rw[<-r]at hj⊢;have S:=aS r;have Q:=aS v;have T:=aS M;clear v M r;obtain⟨i0,hi,e0,e1,e2⟩:=oR P9;go_enter func99,ntmps99;go_wp2_with fail
 go_loopg [3,8] (h.length+1) (λq W i O=>∃j:Nat,j<=h.length/\i= .int .i64 j/\q=h.length-j+1/\Hid (O.ownsRow w.heap.size 9 1 W j (pS (c.take j)))/\Hid (w.grownBy O none))
 case atStart=>exact⟨0,by omega,rfl,by omega,lE _ _ _ _,bC _ _⟩
 case round=>
  obtain⟨j,e5,rfl,hq,G,f⟩:=hrel
  rename World=>w2
  have e9:w.heap.size<=w2.heap.size:=f.out.size;by_cases e7:j<h.length
  ·obtain⟨a,m⟩:∃a,h[j]? =some a:=⟨h[j],aP _⟩;obtain⟨x,p⟩:∃x,b[j]? =some x:=⟨b[j]'(by omega),aP _⟩;obtain⟨u,o⟩:∃u,l[j]? =some u:=⟨l[j]'(by omega),aP _⟩;obtain⟨X,Y,_⟩:=(Q.grown f.out).2.2 j a u m o;obtain⟨N,H,rfl⟩:=h2 u (cK o);have e6:(j:Int)<(h.length:Int):=by omega
   have e8:=h6 a (cK m);have w4:=h8 x (cK p);have D:=aS (PR (w2.alloc (.cells #[.string (B a),(.iface N (.pointer (some ⟨H,0,none⟩)))] 203)) a x N H (by omega) (by omega) ((T.out j _ x o p).at (f.out.trans (aO _ _ _))));have F:=aS (show c[j]? =some (a++SK++x) by rw[S.out];exact LQ m p);obtain⟨C,L⟩:∃C,C=a++SK++x:=⟨_,rfl⟩;rw[<-L]at D F;clear p o m L;go_wp2_with fail;refine D.mono ?_;rintro e A ⟨rfl,t⟩;have y:=vp (G.out.alloc _) t;have E:=aS ((f.out.trans (aO _ _ _)).trans t);have w0:w.heap.size<=A.heap.size:=E.size;clear t X Y;go_wp2_with (at_builtin;refine jQ _ rfl (.tmp 12) (.tmp 15) 34 rfl w.heap.size 9 i0 (.string (B [])) 1 16 underlying34 hi e0 e1 e2 rfl (by decide) _ _ _ rfl (y.alloc _) ⟨A.heap.size,0,none⟩ 1 1 [.string (B C)] rfl rfl ?d1 ?d2 (by decide) ?d3 ?d4 ?d5 (A.heap.size+1) ?d6 ?_)
   case d1=>exact IB _ _ _
   case d2=>exact NF _
   case d3=>unfold maxLen;omega
   case d4=>omega
   case d5=>simp;omega
   case d6=>simp
   intro g7 e3 w7 J I _ _;have V:=aS J;have R:=aS (JX (E.trans (aO _ _ _)) I (λk e=>(mT y e).1));clear J I y;go_wp2_with fail
   go_roundg (h.length-(j+1)+1)
   case measure=>omega
   case rel=>refine⟨j+1,by omega,by go_num,rfl, ?_,R⟩;rw[U4 F.out];exact V
  ·have h4:j=h.length:=by omega
   subst h4;have z:=G.out;rw[iV (by omega)]at z;obtain⟨g6,h1,rfl,h3,e4,K⟩:=Co z h0;have h5:(c.map B).length=h.length:=by simp[h9]
   have s:=Tryz.strings_Join g6 0 h1 (c.map B) (B SJ) w2 K h3 (by omega) (by omega) (by rw[Cp];simp[B];omega);rw[h5,Cp]at s;have U:=aS s;clear s K z;go_wp2_with fail;refine U.mono ?_;rintro e w8 ⟨rfl,d⟩;have P:=aS (f.out.trans (show w2.grownBy w8 none from⟨d.os,d.tape,d.output,d.size,λk hk _=>d.block k hk⟩));clear d;go_wp2;go_ret;refine⟨?_,P.out⟩;simp[B]
theorem wk(w:World)(b:Nat)(f:Value)(y:aA)(i d:Nat)(h:aA)(g n l:Nat)(u:f= .slice (some ⟨g,0,none⟩) n l)(v:y.length<=1000000000)(z:h.length<=1000000000)(a:b<w.heap.size)(j:w.cell? ⟨b,1,none⟩=some f)(k:w.cell? ⟨b,2,none⟩=some (.iface i (.pointer (some ⟨d,0,none⟩))))
  (p:xV 99 w f y) (q:xV 69 w (.iface i (.pointer (some ⟨d,0,none⟩))) h):
  Calls prog 69 #[.iface 206 (.pointer (some ⟨b,0,none⟩))] w λe A=>e= .returned (.string (B ((MJ++VI)++y++nj++h)))/\w.grownBy A none:=by
 subst u;have O:=lV b;have P:=x8 b;have L:=mO b;have M:=nL b;have N:=mP b;have Q:=kV b;have R:(B y).size<=1000000000:=by rw[dY];exact v
 have S:(B h).size<=1000000000:=by rw[dY];exact z
 have I:¬9223372036854775807<8+(B y).size:=by omega
 have J:¬9223372036854775807<8+(B y).size+4:=by omega
 have K:¬9223372036854775807<8+(B y).size+4+(B h).size:=by omega
 have s:=aS p;have t:=aS q;clear p q;go_enter func69,ntmps69;go_wp2_with fail
 go_region_held3 (λr=>r.cell? ⟨b,1,none⟩=some (.slice (some ⟨g,0,none⟩) n l)/\r.cell? ⟨b,2,none⟩=some (.iface i (.pointer (some ⟨d,0,none⟩)))) (first|assumption|exact⟨by assumption,by assumption⟩|go_keep) (first|(go_at_call 99;refine(s.out _ ?_).mono ?_;exact(cZ (bC _ _));rintro e C ⟨rfl,m⟩;have x:Hid (w.grownBy C none):=fO (cZ (bC _ _)) m;have E:=dB j a x.out;have F:=dB k a x.out;clear m)|(go_at_call 69;refine(t.out _ ?_).mono ?_;exact x.out;rintro e D ⟨rfl,o⟩;have c:Hid (w.grownBy D none):=fO x.out o;have G:=dB j a c.out;have H:=dB k a c.out;clear o))
 all_goals
  go_wp2;go_ret;refine⟨?_,c.out⟩;show Ending.returned (.string (B (MJ++VI)++B y++B nj++B h))=_;rw[dQ,dQ,dQ]
theorem SS(h:aA)(r:aD)(y:aA):Lib.joinTail h (r++[y])=Lib.joinTail h r++(h++y):=by simp[Lib.joinTail]
theorem LR(e w:Nat->aA):∀N,0<N->Lib.join ((List.range N).map λj=>e j++SK++w j) SJ=j8 e w N
 |0,h=>by omega
 |1,_=>by simp[j8,Lib.join_one]
 |N+2,_=>by
  have b:=LR e w (N+1) (by omega);rw[mH,eR,List.map_singleton,j8,aR (by omega),<-b];generalize x:(List.range (N+1)).map (λj=>e j++SK++w j)=l
  cases l with
  |nil=>simp at x
  |cons a r=>rw[lQ,Lib.join_cons,Lib.join_cons,SS];simp only[jA]
theorem SU(w x:aD)(h:x.length=w.length):rV w x=(List.range w.length).map λj=>lU w j++SK++lU x j:=by
 apply List.ext_getElem?;intro j;rcases bZ j w.length with e|e
 ·rw[LQ (aP e) (aP (by omega))];simp[lU,e,h]
 ·rw[bW (by rw[LP h];exact e),bW (by simp;exact e)]
theorem Qr{m:Nat}{H:aB}{u:Value}{y:Ex}{w:World}{t:aA}(h:dI m H u y)(a:t.length<=1000000)(g:xV 69 w u t):xV 100 w u (oA (XI y.op) t):=λc d=>by
 cases m with
 |zero=>exact absurd h id
 |succ m=>
  obtain⟨b,i,rfl,f,_⟩:=h;have e:=g.at d;rcases f with⟨x,_⟩|⟨x,_⟩|⟨x,_⟩|⟨x,_⟩|⟨x,_⟩|⟨x,_⟩|⟨x,_⟩|⟨x,_⟩<;>rw[x]at e⊢
  ·exact WB c b t a e
  ·exact PU c b t a e
  ·exact ZB c b t a e
  ·exact jg c b t a e
  ·exact ZD c b t a e
  ·exact PV c b t a e
  ·exact SQ c b t a e
  ·exact WC c b t a e
theorem Qs{m:Nat}{H:aB}{u:Value}{y:Ex}{w:World}{t:aA}(h:dI m H u y)(a:t.length<=1000000)(g:xV 69 w u t):xV 101 w u (oA (uk y.op) t):=λc d=>by
 cases m with
 |zero=>exact absurd h id
 |succ m=>
  obtain⟨b,i,rfl,f,_⟩:=h;have e:=g.at d;rcases f with⟨x,_⟩|⟨x,_⟩|⟨x,_⟩|⟨x,_⟩|⟨x,_⟩|⟨x,_⟩|⟨x,_⟩|⟨x,_⟩<;>rw[x]at e⊢
  ·exact WD c b t a e
  ·exact PW c b t a e
  ·exact ZG c b t a e
  ·exact jh c b t a e
  ·exact ZH c b t a e
  ·exact PY c b t a e
  ·exact SR c b t a e
  ·exact WE c b t a e
theorem dI.valT{m:Nat}{H:aB}{u:Value}{y:Ex}(h:dI m H u y):∃t b,u=(.iface t (.pointer (some ⟨b,0,none⟩))):=by
 cases m with
 |zero=>exact absurd h id
 |succ m=>obtain⟨b,w,e,_⟩:=h;exact⟨_,b,e⟩
theorem rN{H:aB}{x:Ex}{e:aH}(c:e.length=x.kids.length)(a:∀(i:Nat) (y:Ex) (u:Value),e[i]? =some u->x.kids[i]? =some y->dI m H u y)(j:Nat){u:Value}(w:e[j]? =some u):∃y,x.kids[j]? =some y/\dI m H u y:=by
 have b:j<e.length:=by
  rcases bZ j e.length with h|h
  ·exact h
  ·rw[bW h]at w;cases w
 exact⟨x.kids[j]'(by omega),aP _,a j _ u w (aP _)⟩
theorem nQ{x y:Ex}(h:x.kids[j]? =some y):sE m x j=cP m y:=by unfold sE;rw[h]
theorem pf{x y:Ex}(h:x.kids[j]? =some y):Je x j=y.op:=by unfold Je;rw[h]
theorem SV(e w:Nat->aA)(h:j<N):(e j).length+(w j).length<=(j8 e w N).length:=by have x:=LA e w j;have a:=um e w (j+1) N h;omega
theorem Cq:∀(m:Nat) (H:aB) (v:Value) (x:Ex) (w:World),dI m H v x->Fz H w->(cP m x).length<=1000000->
  Calls prog 69 #[v] w λe w'=>e= .returned (.string (B (cP m x)))/\w.grownBy w' none
 |0,_,_,_,_,h,_,_=>absurd h id
 |m+1,H,v,x,w,h,F,l=>by
  have ih:=Cq m H;have C:∀(u:Value) (y:Ex),dI m H u y->(cP m y).length<=1000000->xV 69 w u (cP m y):=λu y X w3 wx W=>ih u y wx X (F.grown W) w3;obtain⟨b,vs,rfl,hn,r,q⟩:=h;rw[sF,VM]at l⊢;rcases hn with⟨d,t,p,P,k,o⟩|⟨d,t,p,P,k,o⟩|⟨d,t,u,p,P,k,o⟩|⟨d,u,v,z,p,k,o⟩|⟨d,t,u,v,p,P,k,o⟩|⟨d,S,u,gv,p,P,k,Z,h6,o⟩|⟨d,u,v,p,k,o⟩|⟨d,u,v,p,k,o⟩
  ·rw[aR (aQ d)]at l⊢;have f:=F _ _ o;rw[d,show lU x.names 0=t from by rw[p];rfl]at*;exact je w b t (by omega) (by simp[World.cell?,f])
  ·rw[aR (aM d)]at l⊢;have f:=F _ _ o;rw[d,show lU x.names 0=t from by rw[p];rfl]at*;exact WA w b t (by omega) (by simp[World.cell?,f])
  ·rw[aN (by rw[d];decide),aR d]at l⊢;have f:=F _ _ o;obtain⟨y,E,Y⟩:=rN r q 0 (u:=u) (by rw[k];rfl);rw[d,show lU x.names 0=t from by rw[p];rfl,nQ E]at*;obtain⟨M,J,rfl⟩:=Y.valT;simp only[bD]at l;exact wh w b M J _ t (by omega) (by omega) (aT f) (by simp[World.cell?,f]) (by simp[World.cell?,f]) (C _ y Y (by omega))
  ·rw[aN (by rw[d];decide),aN (by rw[d];decide),aN (by rw[d];decide),aR d]at l⊢;have f:=F _ _ o;obtain⟨G,O,s⟩:=rN r q 0 (u:=u) (by rw[k];rfl);obtain⟨I,E,A⟩:=rN r q 1 (u:=v) (by rw[k];rfl);obtain⟨y2,Y,e5⟩:=rN r q 2 (u:=z) (by rw[k];rfl);rw[d,nQ O,nQ E,nQ Y]at*;obtain⟨M,J,rfl⟩:=s.valT;obtain⟨N,K,rfl⟩:=A.valT;obtain⟨t2,b2,rfl⟩:=e5.valT;simp only[bD]at l;exact Cn w b M J _ N K _ t2 b2 _ (by omega) (by omega) (by omega) (aT f) (by simp[World.cell?,f]) (by simp[World.cell?,f]) (by simp[World.cell?,f]) (C _ G s (by omega)) (C _ I A (by omega)) (C _ y2 e5 (by omega))
  ·rw[aN (by rw[d];decide),aN (by rw[d];decide),aN (by rw[d];decide),aN (by rw[d];decide),aN (by rw[d];decide)]at l⊢;have f:=F _ _ o;obtain⟨G,O,s⟩:=rN r q 0 (u:=u) (by rw[k];rfl);obtain⟨I,E,A⟩:=rN r q 1 (u:=v) (by rw[k];rfl);have T:x.names.length=1:=by rw[p];rfl
   have L:oU x.op++j8 (lU x.names) (sE m x) x.names.length++nj++sE m x x.names.length=MJ++(t++SK++cP m G)++nj++cP m I:=by
    rw[T,nQ E,d];have:lU x.names 0=t:=by rw[p];rfl
    simp[j8,oU,iP,gV,this,nQ O]
   rw[L]at l⊢;rw[d];obtain⟨M,J,rfl⟩:=s.valT;obtain⟨N,K,rfl⟩:=A.valT;simp only[bD]at l;exact wj w b M J _ N K _ t (by omega) (by omega) (by omega) (aT f) (by simp[World.cell?,f]) (by simp[World.cell?,f]) (by simp[World.cell?,f]) (C _ G s (by omega)) (C _ I A (by omega))
  ·rw[aN (by rw[d];decide),aN (by rw[d];decide),aN (by rw[d];decide),aN (by rw[d];decide),aN (by rw[d];decide)]at l⊢;have f:=F _ _ o;obtain⟨yl,w5,e6⟩:=rN r q x.names.length (u:=u) (by rw[Z,cD (by omega),P];simp);obtain⟨Q,h8⟩:∃Q,Q=(List.range x.names.length).map (sE m x):=⟨_,rfl⟩;have e8:Q.length=x.names.length:=by rw[h8];simp
   have e9:∀j,j<x.names.length->lU Q j=sE m x j:=λj D=>by rw[h8];simp[lU,D]
   have T:Lib.join (rV x.names Q) SJ=j8 (lU x.names) (sE m x) x.names.length:=by rw[SU _ _ e8,LR _ _ _ p];exact tE _ (λj D=>⟨rfl,e9 j D⟩)
   have hh:oU x.op=MJ++VI:=by rw[d];rfl
   rw[hh,nQ w5,<-T]at l⊢;simp only[bD]at l
   have hN:x.names.length<=1000000:=by have:=An (lU x.names) (sE m x) x.names.length;rw[<-T]at this;omega
   have h9:∀j,j<x.names.length->(lU x.names j).length+(sE m x j).length<=1000000:=λj D=>by have:=SV (lU x.names) (sE m x) D;rw[<-T]at this;omega
   obtain⟨g,e0,w6,e4,w0,w1⟩:=h6;have h7:=F _ _ w0
   have e7:Ka S:=λa V=>by obtain⟨i,R,rfl⟩:=jM.1 V;obtain⟨y,_,hr⟩:=rN r q i (u:=S[i]) (by rw[Z,bJ R];exact aP R);exact hr.valT
   have w2:Iq w g x.names S:=by
    refine⟨P,aT h7,λi nm a L U=> ?_⟩
    have R:i<x.names.length:=by
     rcases bZ i x.names.length with h|h
     ·exact h
     ·rw[bW h]at L;cases L
    obtain⟨q1,q2⟩:=rS x.names S i nm a P L U;rw[<-w1,gD,aR (by omega)]at q1 q2;obtain⟨t,c,rfl⟩:=e7 a (cK U);refine⟨?_, ?_,rfl⟩
    ·simp only[World.cell?,h7];simpa using q1
    ·simp only[World.cell?,h7];simpa using q2
   obtain⟨N,K,rfl⟩:=e6.valT
   have gt:xV 99 w gv (Lib.join (rV x.names Q) SJ):=λwx W=>by
    rw[e4];refine ZI wx g e0 x.names S Q hN p e8 (w2.grown W) e7 (λn hn=> ?_) (λa V=> ?_) (by omega) (λj a tx L U=> ?_)
    ·obtain⟨i,R,rfl⟩:=jM.1 hn;have:=h9 i R;have e:lU x.names i=x.names[i]:=by simp[lU,R]
     rw[e]at this;omega
    ·rw[h8]at V;obtain⟨j,D,rfl⟩:=fF.1 V;have:=h9 j (eV.1 D);omega
    ·have D:j<x.names.length:=by
      rcases bZ j S.length with h|h
      ·omega
      ·rw[bW h]at L;cases L
     obtain⟨y,X,hr⟩:=rN r q j (u:=a) (by rw[Z,bJ (by omega)];exact L)
     have et:tx=cP m y:=by have:=e9 j D;simp only[lU,U,qR]at this;rw[this,nQ X]
     have w4:=h9 j D;rw[nQ X]at w4;rw[et];exact(C a y hr (by omega)).at W
   rw[d];exact wk w b gv _ N K _ g x.names.length e0 e4 (by omega) (by omega) (aT f) (by simp[World.cell?,f]) (by simp[World.cell?,f]) gt (C _ yl e6 (by omega))
  ·rw[aN (by rw[d];decide),aN (by rw[d];decide),aN (by rw[d];decide),aN (by rw[d];decide),aR d]at l⊢;have f:=F _ _ o;obtain⟨G,O,s⟩:=rN r q 0 (u:=u) (by rw[k];rfl);obtain⟨I,E,A⟩:=rN r q 1 (u:=v) (by rw[k];rfl);rw[d,nQ O,nQ E,pf O,pf E]at*;obtain⟨M,J,rfl⟩:=s.valT;obtain⟨N,K,rfl⟩:=A.valT;simp only[bD]at l;have g0:=np (XI G.op) (cP m G);have g1:=np (uk I.op) (cP m I);exact Z9 w b M J _ N K _ (by omega) (by omega) (aT f) (by simp[World.cell?,f]) (by simp[World.cell?,f]) (Qr s (by omega) (C _ G s (by omega))) (Qs A (by omega) (C _ I A (by omega)))
  ·rw[aN (by rw[d];decide),aN (by rw[d];decide),aR d]at l⊢;have f:=F _ _ o;obtain⟨G,O,s⟩:=rN r q 0 (u:=u) (by rw[k];rfl);obtain⟨I,E,A⟩:=rN r q 1 (u:=v) (by rw[k];rfl);rw[d,nQ O,nQ E]at*;obtain⟨M,J,rfl⟩:=s.valT;obtain⟨N,K,rfl⟩:=A.valT;simp only[bD]at l;exact jf w b M J _ N K _ (by omega) (by omega) (aT f) (by simp[World.cell?,f]) (by simp[World.cell?,f]) (C _ G s (by omega)) (C _ I A (by omega))
theorem NJ{n:Nat}{x:Ex}(h:qD n x)(a:n<=m):cP m x=cP n x:=by
 have w:∀k,qD (n+k) x/\cP (n+k) x=cP n x:=by
  intro k
  induction k with
  |zero=>exact⟨h,rfl⟩
  |succ k e=>have:=rJ _ _ e.1;exact⟨this.1,this.2.1.trans e.2⟩
 have:=(w (m-n)).2;rw[show n+(m-n)=m from by omega]at this;exact this
theorem lZ{n:Nat}{x:Ex}(h:qD n x)(w:qD m x):cP n x=cP m x/\cA n x=cA m x:=by
 rcases JF n m with e|e
 ·exact⟨(NJ h e).symm,(mE h e).symm⟩
 ·exact⟨NJ w e,mE w e⟩
def Xt(w a:World)(x:St)(e:Ending)(h:Ex)(c:Addr):Prop:=
 w.grownBy a none/\((0<=x.bad/\∃b,e= .returned (.tuple #[.string (B []), .iface 134 (.pointer (some ⟨b,0,none⟩))])/\a.heap[b]? =some (.cells #[.int .i64 x.bad] 145 (0,0)))\/
  (x.bad<0/\∀m,qD m h->((40<cA m h/\e= .returned (.tuple #[.string (B []),eQ c]))\/(cA m h<=40/\e= .returned (.tuple #[.string (B (cP m h)), .nilIface])))))
theorem Qt(s:ByteArray)(hs:s.size<=300)(w:World)(n:Nat)(ex:Ex)(s1:St)(hx:fC (dU dL s) n ⟨0,-1⟩=some (ex,s1))(hni:(cL (dU dL s) s1 eE).bad<0->∃m c,pD m ex c/\c<=400)(bd:Addr)(hg:w.cell? ⟨3,0,none⟩=some (eQ bd))(hgl:3<w.heap.size):
  Calls prog 36 #[.string s] w λe w'=>Xt w w' (cL (dU dL s) s1 eE) e ex bd:=by
 have HC:=aS (jd s hs w n ex s1 hx bd hg hgl);clear hx hg;go_enter func36,ntmps36;go_wp2_with fail;refine HC.out.mono ?_;rintro e w1 ⟨g1,(⟨hb,b,rfl,hbk⟩|⟨hb,v,H',m,z1,r1,d1,(⟨hd,rfl⟩|⟨hd,rfl⟩)⟩)⟩
 ·have Q:=aS (And.intro g1 (And.intro hb hbk));clear g1 hb hbk HC;go_wp2
  go_ret2
  exact⟨Q.out.1,Or.inl ⟨Q.out.2.1,b,rfl,Q.out.2.2⟩⟩
 ·have sh:=dI.shape _ _ _ r1;have Q:=aS (And.intro g1 (And.intro hb (And.intro sh hd)));clear g1 hb z1 r1 d1 sh hd HC;unfold eQ;go_wp2
  go_ret2
  obtain⟨g1,hb,sh,hd⟩:=Q.out;exact⟨g1,Or.inr ⟨hb,λk hk=>Or.inl ⟨by rw[(lZ hk sh).2];exact hd,rfl⟩⟩⟩
 ·have sh:=dI.shape _ _ _ r1;obtain⟨m',c,nice,hc⟩:=hni hb;have ts:=lZ sh nice.shape
  have hlen:(cP m ex).length<=10000:=by rw[ts.1];have:=nice.text;omega
  have PT:=aS (Cq m H' v ex w1 r1 z1 (by omega));obtain⟨t1,b1,rfl⟩:=r1.valT;have Q:=aS (And.intro g1 (And.intro hb (And.intro sh hd)));have hsz:(B (cP m ex)).size<=281474976710656:=by rw[dY];omega
  clear g1 hb z1 r1 d1 sh hd HC hni nice ts;go_wp2_with (first|(go_at_call 69;refine PT.out.mono ?_;rintro e w2 ⟨rfl,g2⟩;have G2:=aS g2;clear g2)|(go_at_call 97;refine(Tryz.stringslite_Clone _ _ hsz).mono ?_;rintro e w3 ⟨rfl,g3⟩;have G3:=aS g3;clear g3)|go_in)
  go_ret2
  obtain⟨g1,hb,sh,hd⟩:=Q.out;exact⟨(g1.trans G2.out).trans ⟨G3.out.os,G3.out.tape,G3.out.output,G3.out.size,λk hk _=>G3.out.block k hk⟩,Or.inr ⟨hb,λk hk=>Or.inr ⟨by rw[(lZ hk sh).2];exact hd,by rw[(lZ hk sh).1];rfl⟩⟩⟩
theorem ji(s:ByteArray)(g:300<s.size)(w:World)(h:Addr)(b:w.cell? ⟨2,0,none⟩=some (eQ h))(f:2<w.heap.size):
  Calls prog 36 #[.string s] w λe c=>e= .returned (.tuple #[.string (B []),eQ h])/\w.grownBy c none:=by
 have x:=aS (PQ s g w h b f);clear b;unfold eQ at x⊢;go_enter func36,ntmps36;go_wp2_with (go_at_call 67;refine x.mono ?_;rintro e c ⟨rfl,a⟩;have d:=aS a;clear a)
 go_ret2
 exact⟨rfl,d.out⟩
end Go.Proofs.YtcdijppegfcoaaaGreatDoor
