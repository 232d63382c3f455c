import Derived.Test.YtcdijppegfcoaaaGreatDoorZH17
set_option maxRecDepth 100000
set_option maxHeartbeats 2000000
set_option linter.unusedSimpArgs false
namespace Go.Proofs.YtcdijppegfcoaaaGreatDoor
open Go.RowKit Tryz
def nV(n:Nat):Value:= .int .i64 (n:Int)
def YU(w:World)(e:Nat)(h:List (Nat×Nat)):Prop:=GM kI nV 3 w e h
def PF(e:bM)(h:List (Nat×Nat)):Prop:=∀p,p∈h->p.1<e.rep.length
def Zy(H:aB)(x:aC)(c:bM)(d:aI)(b:Nat)(r:Option (List (Nat×Nat)))(w:World)(e:Ending)(h:World):Prop:=
 Gb (λk=>dT x k\/k=b) w h/\match r with
  |none=>e= .returned (.bool true)
  |some a=>e= .returned (.bool false)/\fY H x c d h/\YU h b a/\PF c a
theorem pc{x:bM}{w:World}{i:Nat}{e:List (Nat×Nat)}(h:YU w i e)(ok:PF x e):e.length<=x.rep.length:=by
 obtain⟨D,_,_,f,_⟩:=h
 have b:(e.map (·.1)).Subset (List.range x.rep.length):=λa d=>by obtain⟨p,g,rfl⟩:=fF.1 d;exact eV.2 (ok p g)
 have c:=ee f b;simpa using c
theorem pd{w:bM}{e:List (Nat×Nat)}(ok:PF w e){c n:Nat}(a:c<w.rep.length):PF w (sI e c n):=by
 induction e with
 |nil=>intro p h;simp[sI]at h;rw[h];exact a
 |cons q l d=>
  intro p h;rw[sI]at h;split at h
  ·rcases bH.1 h with rfl|h
   ·exact a
   ·exact ok p (bE _ h)
  ·rcases bH.1 h with rfl|h
   ·exact ok _ (bG ..)
   ·exact d (λx b=>ok x (bE _ b)) p h
theorem TX{w:bM}{c:Nat}(h:w.rep[w.root c]? =some (w.root c)):fH w (cT (w.root c))=fH w (cT c):=by
 have e:w.root (w.root c)=w.root c:=by show w.rep.getD (w.root c) (w.root c)=w.root c;rw[aW,h];rfl
 unfold fH bM.is;show(if cM=cM then(match w.con.getD (w.root (w.root c)) none with|none=>[]|some nd=>nd.kids)else _)=(if cM=cM then(match w.con.getD (w.root c) none with|none=>[]|some nd=>nd.kids)else _);rw[e];rfl
theorem wb{H:aB}{p:aC}{σ:bM}{d:aI}{l:Nat}(w8:H l=none)(Z:l∉p):∀(f c x:Nat) (s:List (Nat×Nat)) (r:Option (List (Nat×Nat))) (w:World),p[c]? =some x->jZ σ f c s=some r->fY H p σ d w->YU w l s->PF σ s->
  Calls prog 255 #[CI x, .map (some l)] w (Zy H p σ d l r w):=by
 intro f
 induction f with
 |zero=>intro c x s r w _ h;cases h
 |succ f ih=>
  intro c x s r w O g K hf ok;have HL:=aS (jG (d c+1) c x w (by omega) O K);obtain⟨b0,h5,e8⟩:=K.root_get O;have a1:=(aU.1 O).1;have x2:σ.root c<σ.rep.length:=(aU.1 (K.rr _ _ h5)).1;have a7:=K.few;have ek:=wD (n:=σ.root c) (by omega);have a9:=hf.lt;have t1:=oV x;rw[jZ]at g;have N:=aS g;have M:=aS (aL hf ok);have C:=aS (aL O (aL e8 (K.rr _ _ h5)));have IH:=aS ih;clear g K hf ok ih O h5 e8 a1;unfold CI;unfold CP at HL;go_enter func255,ntmps255;go_wp2_with fail;refine HL.mono ?_;rintro e w1 ⟨b1,rfl,h1,h2,F,h4⟩;obtain rfl:=aY (C.2.1.symm.trans h1);obtain⟨v1,x5,w9⟩:=h2.root_val (aU.1 C.1).1 h1;obtain⟨x0,x1,_,_⟩:=fZ x5;have e3:YU w1 l s:=M.1.gb F Z;have I:=GM.look1 e3 wC underlying424 (N7 w1) ek;have q:=aS (aL h2 (aL F (aL e3 w9)));clear h1 h2 F h4 x5 e3 w9 HL ek;unfold CP
  cases z:dR s (σ.root c)with
  |some n=>
   rw[z]at I;simp only[jI,qR]at I;have g:=N.out;rw[z]at g;have G1:=aS (q.2.1.mono (R':=λk=>dT p k\/k=l) (λi e=>aQ e));by_cases n1:n=1
   ·subst n1;have D:=(aY g).symm;subst D;unfold nV at I;clear z g N;go_wp2;go_ret;exact⟨G1.out,rfl⟩
   ·by_cases n2:n=2
    ·subst n2;have D:=(aY g).symm;subst D;unfold nV at I;clear z g N;go_wp2;go_ret;exact⟨G1.out,rfl,q.1,q.2.2.1,M.2⟩
    ·exfalso;revert g;split
     ·rename_i e;cases e;omega
     ·rename_i e;cases e;omega
     ·intro h;cases h
     ·rename_i e;cases e
  |none=>
   rw[z]at I;simp only[oJ,vR]at I;have a5:=q.1.few;obtain⟨w2,Q,e4,g2⟩:=GM.store q.2.2.1 wC underlying424 OY OZ (by have:=pc q.2.2.1 M.2;omega) 1 (wD (n:=σ.root c) (by omega));have x4:(Instr.mapUpdate 424 (.map (some l)) (.int .i64 ((σ.root c:Int)+1)) (.int .i64 1)).run prog w1= .ok () w2:=Q;rw[oP 1 z]at e4;have x6:PF σ (s++[(σ.root c,1)]):=by rw[<-oP 1 z];exact pd M.2 x2
   have h6:Gb (λk=>k=l) w1 w2:=Gb.of g2 (λb e=>aQ (aY e).symm);have c2:fY H p σ d w2:=q.1.gb h6 (λa ha e=>Z (e▸ha)) (λk o e e2=>by rw[e2,w8]at e;cases e);obtain⟨A,b2,hK,hB⟩:=yI (σ:=σ) (d:=d) C.2.1 c2;rw[TX C.2.2]at hK
   have w7:∀k,k∈fH σ (cT c)->k.kind=cM:=by
    intro k G;have e0:fH σ (cT c)=(match σ.is c with|none=>[]|some nd=>nd.kids):=by unfold fH;rw[aR (show(cT c).kind=cM from rfl)];rfl
    rw[e0]at G;rcases q.2.2.2 with⟨e1,_⟩|⟨nd,e1,_,_,F,_⟩
    ·rw[e1]at G;cases G
    ·rw[e1]at G;exact F k G
   have g:=N.out;rw[z]at g;simp only at g;have HB:=aS hB;have X:=aS (aL hK w7);have U:=aS (aL (q.2.1.mono (R':=λk=>dT p k\/k=l) (λi e=>aQ e)) (h6.mono (R':=λk=>dT p k\/k=l) (λi e=>aM e)));have F2:=aS (aL e4 x6);have Y:=aS g
   have a6:w2.cell? ⟨b0,0,none⟩=some (.int .i64 ((σ.root c:Int)+1)):=by obtain⟨v2,h0,_⟩:=c2.root_val (aU.1 C.1).1 C.2.1;exact(fZ h0).1
   clear z Q e4 g2 x6 h6 c2 hK hB w7 g M N a5;unfold CP at HB;go_wp2_with fail;refine HB.mono ?_;rintro e w3 ⟨r1,r2,r3⟩
   obtain⟨ao,e7,he,x3⟩:∃ao e7,e= .returned (.slice ao A.length e7)/\∀(j:Nat) (u:Value),A[j]? =some u->∃t,ao=some ⟨t,0,none⟩/\t<w3.heap.size/\¬dT p t/\t≠l/\w3.cell? ⟨t,j,none⟩=some u:=by
    rcases r3 with⟨rfl,rfl⟩|⟨t,rfl,q1,q2⟩
    ·exact⟨none,0,rfl,λj u h=>by simp at h⟩
    ·refine⟨_,_,rfl,λj u h=>⟨t,rfl,aT q2,λG=> ?_, ?_, ?_⟩⟩
     ·have v:=dT.lt q.1 G;have:=U.2.size;omega
     ·have v:=F2.1.lt;omega
     ·rw[FH w3 t j _ _ _ q2];simpa using h
   subst he;have x7:=aS x3;have V:=aS (aL r1 (aL (F2.1.gb r2 Z) (U.1.tr (U.2.tr (r2.mono (λi e=>aQ e))))));have x9:=aS F2.2;clear x3 r1 r2 r3 HB x0 x1 a6 I x4 U F2 q;obtain⟨J,h8⟩:∃J,J=gQ (jZ σ f) (fH σ (cT c)) (s++[(σ.root c,1)]):=⟨_,rfl⟩;rw[<-h8]at Y;have J0:=aS (show gQ (jZ σ f) ((fH σ (cT c)).drop 0) (s++[(σ.root c,1)])=J from h8.symm);clear h8;go_wp2_with fail
   go_loopg [29] (A.length+1) (λgh i wi=>∃(j:Nat) (E:List (Nat×Nat)),j<=A.length/\i= .int .i64 j/\gh=A.length-j+1/\Hid (gQ (jZ σ f) ((fH σ (cT c)).drop j) E=J)/\Hid ((fY H p σ d wi/\YU wi l E/\PF σ E)/\Gb (λk=>dT p k\/k=l) w3 wi))
   case atStart=>exact⟨0,_,by omega,rfl,by omega,J0,aS ⟨⟨V.1,V.2.1,x9.out⟩,Gb.refl _ _⟩⟩
   case round=>
    obtain⟨j,E,hj,rfl,a8,HJ,m⟩:=hrel;by_cases w4:j<A.length
    ·have e5:j<(fH σ (cT c)).length:=by rw[<-X.1.1];exact w4
     obtain⟨u,hu⟩:∃u,A[j]? =some u:=⟨_,aP w4⟩;obtain⟨y,R⟩:∃y,(fH σ (cT c))[j]? =some y:=⟨_,aP e5⟩;obtain⟨t,rfl,a0,a3,a4,cu⟩:=x7.out j u hu;have du:wr.cell? ⟨t,j,none⟩=some u:=m.out.2.cell cu a0 (λe=>e.elim a3 a4);obtain⟨y1,ey,rfl⟩:=qH (X.1.2 j u y hu R) (X.2 y (cK R))
     have hd:(fH σ (cT c)).drop j=y::(fH σ (cT c)).drop (j+1):=by rw[cO e5];rw[aP e5]at R;rw[aY R]
     have L:=HJ.out;rw[hd,gQ]at L
     cases D:jZ σ f y.num E with
     |none=>rw[D]at L;have v:=Y.out;rw[<-L]at v;cases v
     |some rj=>
      rw[D]at L;have S:=aS (IH.out y.num y1 E rj wr ey D m.out.1.1 m.out.1.2.1 m.out.1.2.2);have e6:=aS L;clear hu R cu hd L D ey HJ;unfold CI at*
      cases rj with
      |none=>
       have g:r=none:=by have v:=Y.out;rw[<-e6.out]at v;exact(aY v).symm
       subst g;go_wp2_with fail;refine S.mono ?_;rintro e w5 ⟨P,rfl⟩;have W:=aS P;clear P S;go_wp2;go_ret;exact⟨(V.2.2.tr m.out.2).tr W.out,rfl⟩
      |some e9=>
       have J2:=aS (show gQ (jZ σ f) ((fH σ (cT c)).drop (j+1)) e9=J from e6.out);go_wp2_with fail;refine S.mono ?_;rintro e w5 ⟨P,rfl,c5⟩;have W:=aS (aL c5 P);clear P c5 S;go_wp2_with fail
       go_roundg (A.length-(j+1)+1)
       case measure=>omega
       case rel=>exact⟨j+1,e9,by omega,by go_num,rfl,J2,aS ⟨W.1,m.out.2.tr W.2⟩⟩
    ·have a2:j=A.length:=by omega
     subst a2
     have hR:J=some (some E):=by have F:=HJ.out;rw[X.1.1,lR]at F;exact F.symm
     have g:r=some (sI E (σ.root c) 2):=by have v:=Y.out;rw[hR]at v;exact(aY v).symm
     subst g;obtain⟨v2,h0,_⟩:=m.out.1.1.root_val (aU.1 C.1).1 C.2.1;have x0:=(fZ h0).1;obtain⟨w6,Q,w0,g6⟩:=GM.store m.out.1.2.1 wC underlying424 OY OZ (by have:=pc m.out.1.2.1 m.out.1.2.2;omega) 2 (wD (n:=σ.root c) (by omega));have x4:(Instr.mapUpdate 424 (.map (some l)) (.int .i64 ((σ.root c:Int)+1)) (.int .i64 2)).run prog wr= .ok () w6:=Q;have h7:Gb (λk=>k=l) wr w6:=Gb.of g6 (λb e=>aQ (aY e).symm);have T:=aS (aL (m.out.1.1.gb h7 (λa ha e=>Z (e▸ha)) (λk o e e2=>by rw[e2,w8]at e;cases e)) (aL w0 (aL (pd m.out.1.2.2 (n:=2) x2) (h7.mono (R':=λk=>dT p k\/k=l) (λi e=>aM e)))));clear h0 Q w0 g6 h7 hR;go_wp2;go_ret;exact⟨(V.2.2.tr m.out.2).tr T.2.2.2,rfl,T.1,T.2.1,T.2.2.1⟩
theorem PG(b:Nat)(v:Value)(w:World):Calls prog 202 #[.iface 346 (.pointer (some ⟨b,0,none⟩)),v] w λe h=>e= .returned (.iface 346 (.pointer (some ⟨b,0,none⟩)))/\h=w:=by have x:=FK b;have a:=FL b;have c:=vV b;go_enter func202,ntmps202;go_wp2;go_ret;exact⟨rfl,rfl⟩
theorem TY(b a f c x:Nat)(w:World)(h:w.cell? ⟨a,0,none⟩=some (.iface c (.pointer (some ⟨x,0,none⟩)))):Calls prog 202 #[.iface 349 (.pointer (some ⟨b,0,none⟩)), .slice (some ⟨a,0,none⟩) 1 f] w λe d=>w.grownBy d none/\∃p,e= .returned (.iface 349 (.pointer (some ⟨p,0,none⟩)))/\w.heap.size<=p/\d.heap[p]? =some (.cells #[(.iface c (.pointer (some ⟨x,0,none⟩)))] 351 (0,0)):=by have g:=lG b;go_enter func202,ntmps202;go_wp2;go_ret;exact⟨aO _ _ _,_,rfl,aV _,bY _ _⟩
theorem TZ(b x i d a f c:Nat)(w:World)(h:w.cell? ⟨x,0,none⟩=some (.iface d (.pointer (some ⟨a,0,none⟩))))(l:w.cell? ⟨x,1,none⟩=some (.iface f (.pointer (some ⟨c,0,none⟩)))):Calls prog 202 #[.iface 361 (.pointer (some ⟨b,0,none⟩)), .slice (some ⟨x,0,none⟩) 2 i] w λe g=>w.grownBy g none/\∃p,e= .returned (.iface 361 (.pointer (some ⟨p,0,none⟩)))/\w.heap.size<=p/\g.heap[p]? =some (.cells #[(.iface d (.pointer (some ⟨a,0,none⟩))),(.iface f (.pointer (some ⟨c,0,none⟩)))] 384 (0,0)):=by
 have j:=lI b;have k:=lJ b;go_enter func202,ntmps202;go_wp2_with fail
 (try go_region)
 go_wp2;go_ret;exact⟨cZ (aO _ _ _),_,rfl,aV _,dC _ _ _ rfl⟩
theorem PH(b x i d a f c:Nat)(w:World)(h:w.cell? ⟨x,0,none⟩=some (.iface d (.pointer (some ⟨a,0,none⟩))))(m:w.cell? ⟨x,1,none⟩=some (.iface f (.pointer (some ⟨c,0,none⟩)))):Calls prog 202 #[.iface 291 (.pointer (some ⟨b,0,none⟩)), .slice (some ⟨x,0,none⟩) 2 i] w λe g=>w.grownBy g none/\∃p,e= .returned (.iface 291 (.pointer (some ⟨p,0,none⟩)))/\w.heap.size<=p/\g.heap[p]? =some (.cells #[(.iface d (.pointer (some ⟨a,0,none⟩))),(.iface f (.pointer (some ⟨c,0,none⟩)))] 293 (0,0)):=by
 have j:=kL b;have k:=kM b;have l:=jC b;go_enter func202,ntmps202;go_wp2_with fail
 (try go_region)
 go_wp2;go_ret;exact⟨cZ (aO _ _ _),_,rfl,aV _,dC _ _ _ rfl⟩
theorem dJ.kids{N m:Nat}{x:Ty}(h:dJ N (m+1) x):∀y,y∈x.kids->dJ N m y/\cC m y<=cC (m+1) x:=by
 intro y w;rcases h with⟨c,d,e⟩|⟨c,d,e⟩|⟨c,d,a,e,f⟩|⟨c,d,a,b,e,f,g⟩
 ·rw[e]at w;cases w
 ·rw[e]at w;cases w
 ·rw[e]at w;rw[bF.1 w];exact⟨f,by rw[cC,e];simp⟩
 ·rw[e]at w;rcases bH.1 w with rfl|w
  ·exact⟨f,by rw[cC,e];simp;omega⟩
  ·rw[bF.1 w];exact⟨g,by rw[cC,e];simp;omega⟩
theorem Fz.turned{H:aB}{w a:World}{x:Nat}(h:Fz H w)(c:w.grownBy a (some x))(d:H x=Option.none):Fz H a:=λk o e=>by rw[c.block k (h.lt e) (λb=>by cases b;rw[d]at e;cases e)];exact h k o e
theorem AX{j:aD}{N:Nat}(f:∀i,i<N->(j.getD i []).length<=300):∀(m:Nat) (x:Ty),dJ N m x->(cJ m j x).length<=400*cC m x
 |0,_,h=>absurd h id
 |m+1,x,h=>by
  rcases h with⟨e,d,w⟩|⟨e,d,w⟩|⟨e,d,a,w,g⟩|⟨e,d,a,b,w,g,k⟩
  ·rw[cJ,aR e,cC,w];have:=f x.var d;simp only[fE,qQ];omega
  ·have c:x.kind≠[]:=by rcases e with e|e<;>rw[e]<;>decide
   rw[cJ,aN c,cC,w];rcases e with e|e<;>simp[e,nD,eU]
  ·have c:x.kind≠[]:=by rw[e];decide
   have:=AX f m a g;rw[cJ,aN c,cC,w];simp;omega
  ·have c:x.kind≠[]:=by rcases e with e|e<;>rw[e]<;>decide
   have l:=AX f m a g;have n:=AX f m b k;rw[cJ,aN c,cC,w];simp only;split
   ·split<;>simp<;>omega
   ·simp;omega
theorem wc{ns:aD}{N:Nat}(a:∀i,i<N->(ns.getD i []).length<=300)(m:Nat)(H:aB)(v:Value)(x:Ty)(w:World)(h:gG ns m H v x)(b:Fz H w)(ok:dJ N m x)(k:cC m x<=150):
  Calls prog 191 #[v] w λe g=>e= .returned (.string (B (cJ m ns x)))/\w.grownBy g none:=by
 have j:=AX a m x ok;obtain⟨f,c,d⟩:=pM ⟨[],[]⟩ (ns:=ns) m x (ze []) m ok (aV _) (by show 0+_<=_;omega) (by show 0+_<=_;omega)
 have e:f.out=cJ m ns x:=by rw[d.out];rfl
 rw[<-e];exact Kj ⟨m,gG.et m v x h⟩ c b
end Go.Proofs.YtcdijppegfcoaaaGreatDoor
