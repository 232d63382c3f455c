import Derived.RangeFuncNested
import Derived.Test.YtcdijppegfcoaaaGreatDoorZH27
set_option maxRecDepth 100000
set_option maxHeartbeats 4000000
set_option linter.unusedSimpArgs false
namespace Go.Proofs.YtcdijppegfcoaaaGreatDoor
open Go.RowKit Go.Shelf Tryz
variable{nm:aA}
attribute [local go_sem] Oper.semAt_some
def NE:Type:=aA×TypeId×Nat
def NE.v(x:NE):Value:= .iface x.2.1 (.pointer (some ⟨x.2.2,0,none⟩))
def NE.at(h:List NE)(j:Nat):NE:=(h[j]?).getD (([],0,0):aA×TypeId×Nat)
def gP:List NE->List Value
 |[]=>[]
 |p::l=> .string (B p.1)::p.v::gP l
def sM(h:List NE)(n:Nat)(k:Nat):List (Nat×NE):=(List.range k).map λj=>(n-1-j,NE.at h (n-1-j))
theorem QK(h:List NE)(n k:Nat):sM h n (k+1)=sM h n k++[(n-1-k,NE.at h (n-1-k))]:=by simp[sM,mH]
theorem WK(h:List NE)(n k:Nat):(sM h n k).length=k:=by simp[sM]
theorem Dd(F:Fence)(n:Nat)(h8:F.fn 244)(hro:F.round=none)(hn:1<=n)(l Bs n₀ b len cap:Nat)(vs:List NE)(hreach:len*24<=140737488351232)(hb:b<n₀)(J Jx:List (Nat×NE)->World->Prop)
  (hY:∀pre (x:Nat×NE) W,J pre W->pre.length<len->YieldAt F (n-1) prog l #[.int .i64 (x.1:Int), .agg #[.string (B x.2.1), .iface x.2.2.1 (.pointer (some ⟨x.2.2.2,0,none⟩))]] W λe W'=>
   (e= .returned (.bool true)/\J (pre++[x]) W'/\Below n₀ W W')\/(e= .returned (.bool false)/\Jx (pre++[x]) W'))
  (W:World) (hBs:W.cell? ⟨Bs,0,none⟩=some (.slice (some ⟨b,0,none⟩) len cap)) (hBl:Bs<n₀) (hc:∀j,j<len->W.cell? ⟨b,j*2,none⟩=some (.string (B (NE.at vs j).1))/\W.cell? ⟨b,j*2+1,none⟩=some (.iface (NE.at vs j).2.1 (.pointer (some ⟨(NE.at vs j).2.2,0,none⟩)))) (h0:J [] W):
  CallsIn F n prog 244 #[.func (.yield l) #[] #[], .pointer (some ⟨Bs,0,none⟩)] W λe W'=>(∃v,e= .returned v)/\
   ((∃ys,ys=sM vs len len/\J ys W')\/(∃pre,(∃k,k<=len/\pre=sM vs len k)/\Jx pre W')):=by
 refine callsIn_of_wp func244 rfl h8 ?_ hro;simp only[ntmps244,List.size_toArray,List.length_cons,List.length_nil,Nat.reduceAdd,Nat.reduceSub,Array.replicate_succ,Array.replicate_zero,List.push_toArray,List.append_toArray,List.nil_append,List.cons_append]
 gi_wp2
 gi_loopw [3] (λi wr=>∃k:Nat,k<=len/\i= .int .i64 ((k:Int)-1)/\J (sM vs len (len-k)) wr/\Below n₀ W wr)
  (λi _=>(intOf i+1).toNat)
 case atStart=>exact⟨len,Nat.le_refl _,rfl,by simpa[sM]using h0,Below.refl _ _⟩
 case round=>
  obtain⟨k,hk,rfl,hJs,hnx⟩:=hrel;have hBs':=(hnx.cell (p:=⟨Bs,0,none⟩) hBl).trans hBs
  cases k with
  |zero=>
   rw[show(((0:Nat):Int)-1)= -1 by omega];rw[Nat.sub_zero]at hJs
   gi_wp2
   go_end0
   exact⟨⟨_,rfl⟩, .inl ⟨_,rfl,hJs⟩⟩
  |succ k=>
   rw[show(((k+1:Nat):Int)-1)=(k:Int) by omega];have hcx:=hc k (by omega);have hc1:wr.cell? ⟨b,k*2,none⟩=some (.string (B (NE.at vs k).1)):=(hnx.cell (p:=⟨b,k*2,none⟩) hb).trans hcx.1;have hc2:wr.cell? ⟨b,k*2+1,none⟩=some (.iface (NE.at vs k).2.1 (.pointer (some ⟨(NE.at vs k).2.2,0,none⟩))):=(hnx.cell (p:=⟨b,k*2+1,none⟩) hb).trans hcx.2;obtain⟨fn,tmps,assign,body,hy,hR⟩:=hY _ (k,NE.at vs k) wr hJs (by rw[WK];omega);dsimp only at hy
   gi_wp2
   refine hR.mono ?_;rintro e W3 (⟨rfl,hJ3,hk3⟩|⟨rfl,hJx3⟩)
   ·gi_wp2
    go_roundw
    case rel=>exact⟨k,by omega,rfl,by rw[show len-k=len-(k+1)+1 by omega,QK,show len-1-(len-(k+1))=k by omega];exact hJ3,hnx.trans hk3⟩
    case measure=>simp[intOf]
   ·gi_wp2
    refine bodyPost_ret (results_none rfl _ _ _) rfl ?_;exact⟨⟨_,rfl⟩, .inr ⟨_,⟨len-(k+1)+1,by omega,by rw[QK,show len-1-(len-(k+1))=k by omega]⟩,hJx3⟩⟩
theorem WL(F:Fence)(n:Nat)(a:F.fn 244)(c:F.round=none)(l h:Nat)(J:List (Nat×NE)->World->Prop)(W:World)(f:W.cell? ⟨h,0,none⟩=some (.slice none 0 0))(x:J [] W):
  CallsIn F n prog 244 #[.func (.yield l) #[] #[], .pointer (some ⟨h,0,none⟩)] W λe w=>(∃v,e= .returned v)/\J [] w:=by
 refine callsIn_of_wp func244 rfl a ?_ c;simp only[ntmps244,DE,bU,cB,Nat.reduceAdd,Nat.reduceSub,wU,wV,DF,z6,oL,lQ]
 gi_wp2
 gi_loopw [3] (λi d=>i= .int .i64 (-1)/\J [] d) (λ_ _=>0)
 case atStart=>exact⟨rfl,x⟩
 case round=>
  obtain⟨rfl,b⟩:=hrel
  gi_wp2
  go_end0
  exact⟨⟨_,rfl⟩,b⟩
theorem Kq(F:Fence)(n:Nat)(b:F.fn 233)(c:F.round=none)(a:Option Addr)(x h:Nat)(w:World):
  CallsIn F n prog 233 #[.slice a x h] w λe d=>e= .returned (.func (.func 244) #[] #[.pointer (some ⟨w.heap.size,0,none⟩)])/\d=w.alloc (.cells #[.slice a x h] 261):=by
 refine callsIn_of_wp func233 rfl b ?_ c;simp only[ntmps233,DE,bU,cB,Nat.reduceAdd,Nat.reduceSub,wU,wV,DF,z6,oL,lQ]
 gi_wp2
 go_ret;exact⟨rfl,rfl⟩
def It(x:Nat)(W:World)(e:Value)(h:List NE):Prop:=
 (e= .slice none 0 0/\h=[])\/∃b w,e= .slice (some ⟨b,0,none⟩) h.length w/\b<x/\∀j,j<h.length->W.cell? ⟨b,j*2,none⟩=some (.string (B (NE.at h j).1))/\W.cell? ⟨b,j*2+1,none⟩=some (.iface (NE.at h j).2.1 (.pointer (some ⟨(NE.at h j).2.2,0,none⟩)))
theorem It.below{w:Nat}{A B:World}(h:Below w A B){c:Value}{d:List NE}:It w A c d->It w B c d
 | .inl e=> .inl e
 | .inr ⟨b,f,e,hb,x⟩=> .inr ⟨b,f,e,hb,λj a=>⟨(h.cell (p:=⟨b,j*2,none⟩) hb).trans (x j a).1,(h.cell (p:=⟨b,j*2+1,none⟩) hb).trans (x j a).2⟩⟩
theorem jq(F:Fence)(n:Nat)(f:F.fn 244)(o:F.round=none)(D:1<=n)(a c:Nat)(q:Value)(h:List NE)(E:h.length*24<=140737488351232)(w:World)(g:a<c)(m:c<=w.heap.size)
  (y:w.cell? ⟨a,0,none⟩=some q) (t:It c w q h):
  SeqStopsK F n prog 244 #[.pointer (some ⟨a,0,none⟩)] (λx:Nat×NE=> #[.int .i64 (x.1:Int), .agg #[.string (B x.2.1), .iface x.2.2.1 (.pointer (some ⟨x.2.2.2,0,none⟩))]]) (Below c) (λH=>H=sM h h.length h.length)
   (λG=>∃k,k<=h.length/\G=sM h h.length k) h.length w:=λl J r W i _ _ u d=>by
 have j:=(i.cell (p:=⟨a,0,none⟩) (aZ g m)).trans y;rcases t.below (i.mono m)with⟨rfl,rfl⟩|⟨b,s,rfl,v,z⟩
 ·exact(WL F n f o l a J W j d).mono λe I ⟨A,C⟩=>⟨A, .inl ⟨_,rfl,C⟩⟩
 ·exact Dd F n f o D l a c b h.length s h E v J r u W j g z d
attribute [local go_sem] Oper.semAt_some
theorem It.mono{w x:Nat}{W:World}{a:Value}{c:List NE}(h:It w W a c)(i:w<=x):It x W a c:=by
 rcases h with e|⟨b,d,e,g,f⟩
 ·exact .inl e
 ·exact .inr ⟨b,d,e,by omega,f⟩
def IP(e:List NE)(h:aA):Option NE:=e.reverse.find? λp=>p.1=h
def xf(e:List NE)(h:aA)(u:Value):Value:=match IP e h with|some p=> .agg #[p.v]|none=> .agg #[u]
theorem UA{vs:List NE}{k:Nat}(a:k<=vs.length):(sM vs vs.length k).map (·.2)=vs.reverse.take k:=by
 apply List.ext_getElem
 ·simp[sM];omega
 ·intro i h w;have x:i<k:=by simpa[sM]using h
  have e:vs.length-1-i<vs.length:=by omega
  simp[sM,NE.at,List.getElem_reverse,e];rfl
theorem jr{h:List NE}{k:Nat}(g:k<=h.length){e:List (Nat×NE)}{w:Nat×NE}(b:sM h h.length k=e++[w])(c:∀p∈e,p.2.1≠nm)(d:w.2.1=nm):IP h nm=some w.2:=by
 have a:=UA g;rw[b,eR]at a;unfold IP;rw[<-p8 k h.reverse,<-a,jA,List.find?_append]
 have f:(e.map (·.2)).find? (λp=>decide (p.1=nm))=none:=by rw[V9];intro x i;obtain⟨y,j,rfl⟩:=fF.1 i;simpa using c y j
 rw[f];simp[d]
theorem QL{vs:List NE}(h:∀p∈sM vs vs.length vs.length,p.2.1≠nm):IP vs nm=none:=by have e:=UA (vs:=vs) (aV _);rw[iV (by simp)]at e;unfold IP;rw[V9,<-e];intro x w;obtain⟨y,a,rfl⟩:=fF.1 w;simpa using h y a
theorem xg(F:Fence)(n:Nat)(h3:F.fn 204)(h6:F.fn 233)(h8:F.fn 244)(R:F.round=none)(hn:6<=n)(i:Nat)(a:Option Addr)(g d:Nat)(h7:Value)(u:Value)(O:List NE)(h:aA)(w6:h.length<=300)(e7:O.length*24<=140737488351232)(w:World)
  (c4:w.cell? ⟨i,4,none⟩=some (.slice a g d)) (c3:w.cell? ⟨i,3,none⟩=some h7) (hI:It w.heap.size w (.slice a g d) O) (e9:i<w.heap.size) (hE:IP O h=none->(∃m q,u= .iface m (.pointer (some ⟨q,0,none⟩)))/\∀W,Below w.heap.size w W->(Instr.lookup 169 h7 (.string (B h)) false).run prog W= .ok (.agg #[u]) W):
  CallsIn F n prog 204 #[CP i, .string (B h)] w λe W'=>e= .returned (xf O h u)/\Below w.heap.size w W':=by
 have h1:1<=n:=by omega
 unfold CP;refine callsIn_of_wp_marks func204 rfl h3 ?_ R;simp only[ntmps204,DE,bU,cB,Nat.reduceAdd,Nat.reduceSub,wU,wV,DF,z6,oL,lQ]
 gi_wp2_with (gi_at_call 233;refine(Kq F (n-1) h6 R _ _ _ _).mono ?_;rintro e w' ⟨rfl,rfl⟩)
 have bS:=((Boxed.new w 9 (.string (B h))).alloc (.cells #[.nilIface] 174)).alloc (.cells #[.slice a g d] 261);have U:=(Boxed.new (w.alloc (.cells #[.string (B h)] 9)) 174 .nilIface).alloc (.cells #[.slice a g d] 261);have T:=Boxed.new ((w.alloc (.cells #[.string (B h)] 9)).alloc (.cells #[.nilIface] 174)) 261 (.slice a g d);simp only[World.size_alloc]at U T;have Q:Below w.heap.size w (((w.alloc (.cells #[.string (B h)] 9)).alloc (.cells #[.nilIface] 174)).alloc (.cells #[.slice a g d] 261)):=(((MH _ w).alloc (aV _) _).alloc (by simp) _).alloc (by simp;omega) _;have e8:(((w.alloc (.cells #[.string (B h)] 9)).alloc (.cells #[.nilIface] 174)).alloc (.cells #[.slice a g d] 261)).heap.size=w.heap.size+3:=by simp
 obtain⟨P,e0⟩:∃P,((w.alloc (.cells #[.string (B h)] 9)).alloc (.cells #[.nilIface] 174)).alloc (.cells #[.slice a g d] 261)=P:=⟨_,rfl⟩;rw[e0]at bS U T Q e8⊢;clear e0
 refine wpIn_rangeFunc_ownH R h1 (gf:=244) (lb:= #[.pointer (some ⟨w.heap.size+1+1,0,none⟩)]) rfl h8 (enters_of func244 (by kernel_rfl) rfl)
  (jq F (n-1) h8 R (by omega) (w.heap.size+1+1) (w.heap.size+3) _ O e7 P (by omega) (by omega) T.cell ((hI.below Q).mono (by omega))) belowK_t (belowK_b (by omega)) (MH _ _) (λ_=>rfl)
  (λH W=>((∀p∈H,p.2.1≠h)/\Boxed W w.heap.size 9 (.string (B h))/\Boxed W (w.heap.size+1) 174 .nilIface)/\Below (w.heap.size+3) P W)
  (λc H W=>(c= .ret/\∃M G,H=M++[G]/\(∀p∈M,p.2.1≠h)/\G.2.1=h/\Boxed W (w.heap.size+1) 174 G.2.v)/\Below w.heap.size w W)
  (OwnFrom.and (Own.from (λs A B N E J C=>⟨E.1,boxed_own _ _ (λ(_:Unit)=>_) () A B N E.2.1 J C,boxed_own _ _ (λ(_:Unit)=>_) () A B N E.2.2 J C⟩) _) (ownFrom_below (by omega) (by omega)))
  (λc=>OwnFrom.and (Own.from (λs A B N E J C=>by obtain⟨hc,M,G,V,Z,e3,e4⟩:=E;exact⟨hc,M,G,V,Z,e3,boxed_own _ _ (λ(_:Unit)=>_) () A B N e4 J C⟩) _) (ownFrom_below (aV _) (by omega)))
  ⟨⟨by simp,bS,U⟩,MH _ _⟩
  (λx S W=>∃j,w.heap.size+1<j/\W.heap[j]? =some (.cells #[.string (B x.2.1), .iface x.2.2.1 (.pointer (some ⟨x.2.2.2,0,none⟩))] 403 (0,0))/\S={tmps:= #[.pointer (some ⟨i,0,none⟩), .string (B h),undef, .pointer (some ⟨w.heap.size,0,none⟩), .pointer (some ⟨w.heap.size+1,0,none⟩),undef, .pointer (some ⟨j,0,none⟩), .pointer (some ⟨i,0,none⟩), .pointer (some ⟨i,0,none⟩), .pointer (some ⟨i,4,none⟩), .slice a g d, .func (.func 244) #[] #[.pointer (some ⟨w.heap.size+1+1,0,none⟩)], .int .i64 (x.1:Int), .agg #[.string (B x.2.1), .iface x.2.2.1 (.pointer (some ⟨x.2.2.2,0,none⟩))],undef,undef,undef,undef,undef,undef,undef,undef,undef,undef,undef,undef],defers:=[]})
  (λx S _ X Y N E J C=>by
   obtain⟨j,h1,h2,h3⟩:=E;refine⟨j,h1,(J.block j (Array.getElem?_eq_some_iff.1 h2).1 (λe=> ?_)).trans h2,h3⟩;obtain⟨_,o,ho,hc⟩:=C j e.symm
   rw[h2]at ho;cases ho;cases hc)
  ?assign ?body ?done ?stop
 case assign=>
  rintro l H x W K ⟨⟨z,I,b⟩,f⟩ t
  gi_wp2
  have w8:=f.size;exact t _ _ ((KeepsOthers.alloc _ _).from _) ((MH _ W).alloc (by omega) _) ⟨⟨z,I.alloc _,b.alloc _⟩,f.alloc (by omega) _⟩ ⟨W.heap.size,by omega,bY _ _,rfl⟩
 case body=>
  rintro l H x S W hl ⟨r,C⟩ ⟨⟨z,I,b⟩,f⟩ ⟨j,w4,bX,rfl⟩ w7;have cS:=I.cell;have cR:=b.cell;have fR:=b.frozen;have w2:=cU bX 0 rfl;have w3:=cU bX 1 rfl
  gi_wp2
  ·rename_i L;rw[VX]at L;have w0:x.2.1=h:=eq_of_beq L;exact⟨(KeepsOthers.setCell _ _ _).from _,⟨rfl,H,x,rfl,z,w0,b.set _⟩,(Q.trans (f.mono (by omega))).setCell (p:=⟨w.heap.size+1,0,none⟩) (by simp) _⟩
  ·rename_i L;rw[VX]at L;exact⟨KeepsFrom.refl _ _,MH _ _,⟨λy hy=>(cH.1 hy).elim (z y) (λe e'=>by rw[bF]at e;subst e;subst e';simp at L),I,b⟩,f⟩
 case done=>
  rintro D zs W hD rfl ⟨⟨z,I,b⟩,f⟩ t;have h0:Below w.heap.size w W:=Q.trans (f.mono (by omega));have cS:=I.cell;have cR:=b.cell;have fR:=b.frozen;have w1:=(h0.cell (p:=⟨i,3,none⟩) e9).trans c3;obtain⟨⟨m,q,rfl⟩,h9⟩:=hE (QL z);have w5:=h9 W.drew h0.drew;clear h9 hE
  gi_wp2
  gi_region
  all_goals gi_wp2
  all_goals
   have e5:=(KeepsOthers.setCell W ⟨w.heap.size+1,0,none⟩ (.iface m (.pointer (some ⟨q,0,none⟩)))).same D _ t rfl;have h4:(W.setCell ⟨w.heap.size+1,0,none⟩ (.iface m (.pointer (some ⟨q,0,none⟩)))).drew.heap[D]? =some (.deferred (some [])):=e5;refine⟨by simp, .inl ⟨_,_,rfl,run_takeDeferred h4, ?_⟩⟩;have e6:(W.setCell ⟨w.heap.size+1,0,none⟩ (.iface m (.pointer (some ⟨q,0,none⟩)))).drew.cell? ⟨w.heap.size+1,0,none⟩=some (.iface m (.pointer (some ⟨q,0,none⟩))):=World.cell?_setCell_same' W ⟨w.heap.size+1,0,none⟩ (.iface m (.pointer (some ⟨q,0,none⟩))) (by rw[cR];rfl);have h5:=cell_kept e6 (grownBy_putObj' _ D (.deferred none)) (λr e=>by cases e;exact⟨_,h4,rfl⟩);refine⟨.agg #[.iface m (.pointer (some ⟨q,0,none⟩))], ?_,by unfold xf;rw[QL z],((h0.setCell (p:=⟨w.heap.size+1,0,none⟩) (by simp) _).drew).trans (belowK_b (w:=w) (aV _) _ D _ _ (by omega) h4 rfl rfl)⟩;simp[results,Tryz.f204,go_sem,h5]
 case stop=>
  rintro D c H W hD ⟨k,hk,rfl⟩ ⟨⟨rfl,M,G,V,Z,e3,b⟩,f⟩ t
  gi_wp2
  refine⟨by simp, .inl ⟨_,_,rfl,run_takeDeferred t, ?_⟩⟩;have h5:=cell_kept b.cell (grownBy_putObj' _ D (.deferred none)) (λr e=>by cases e;exact⟨_,t,rfl⟩);refine⟨.agg #[G.2.v], ?_,by unfold xf;rw[jr hk V Z e3],f.trans (belowK_b (w:=w) (aV _) W D _ _ (by omega) t rfl rfl)⟩;simp[results,Tryz.f204,go_sem,h5]
theorem QM{h:Nat}{a:Option Addr}{d b:Nat}{c:Value}{u:Value}{x:List NE}(o:nm.length<=300)(p:x.length*24<=140737488351232){w:World}
  (k:w.cell? ⟨h,4,none⟩=some (.slice a d b)) (j:w.cell? ⟨h,3,none⟩=some c) (m:It w.heap.size w (.slice a d b) x) (q:h<w.heap.size) (l:IP x nm=none->(∃f i,u= .iface f (.pointer (some ⟨i,0,none⟩)))/\∀W,Below w.heap.size w W->(Instr.lookup 169 c (.string (B nm)) false).run prog W= .ok (.agg #[u]) W):
  Calls prog 204 #[CP h, .string (B nm)] w λe g=>e= .returned (xf x nm u)/\Below w.heap.size w g:=
 (callsIn_wide (n:=6)).1 (xg _ 6 trivial trivial trivial rfl (aV _) h a d b c u x nm o p w k j m q l)
end Go.Proofs.YtcdijppegfcoaaaGreatDoor
