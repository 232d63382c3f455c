import Derived.Test.YtcdijppegfcoaaaGreatDoorRows
import Derived.Test.YtcdijppegfcoaaaGreatDoorZH53
import Derived.Test.YtcdijppegfcoaaaGreatDoorZH05
import Derived.LaidMore
import Derived.Stop.Joined
set_option maxRecDepth 100000
set_option linter.unusedSimpArgs false
namespace Go.Proofs.YtcdijppegfcoaaaGreatDoor
open Go.ChangeMaps Go.ChangeShapes Go.WideShapes Go.ChangeAt Go.WideMaps Go.WideElems Go.RowKit
theorem own:ownKnob Tryz.prog.godebug=none:=by kernel_rfl
theorem mq:Tryz.prog.globalNamed "errors.errorType" =some 10:=by kernel_rfl
theorem Yy:(Tryz.prog.cutTypes.find? (·.1== "internal/reflectlite.rtype")).map (·.2)=some 278:=by kernel_rfl
theorem yv:Tryz.prog.types.size=467:=by kernel_rfl
theorem Tc:((List.range 467).filter λt=>Tryz.prog.rowNamed t [101,114,114,111,114])=[72]:=by kernel_rfl
theorem Ws: "*" ++ "errors.errorString" = "*errors.errorString" :=by decide
theorem Mv(u:TypeId)(h:Tryz.prog.typeName? 3 u=some "*errors.errorString"):u=437:=
 typeName_ptr_named (nm:= "errors.errorString") (by rw[Ws];kernel_rfl) (by kernel_rfl) (by decide) u (by rw[Ws];exact h)
theorem Td:Tryz.prog.cellsOf 455=1:=by kernel_rfl
theorem Te:Tryz.prog.cellsOf 9=1:=by kernel_rfl
theorem di:Tryz.prog.globalNamed "typer/api.ErrLong" =some 2:=by kernel_rfl
theorem Ig:(Tryz.prog.globals[2]?).map (·.type)=some 72:=by kernel_rfl
theorem dm:Tryz.prog.globalNamed "typer/api.ErrDeep" =some 3:=by kernel_rfl
theorem Ih:(Tryz.prog.globals[3]?).map (·.type)=some 72:=by kernel_rfl
theorem tl:Tryz.prog.globalNamed "typer/api.ErrArg" =some 4:=by kernel_rfl
theorem Mw:(Tryz.prog.globals[4]?).map (·.type)=some 72:=by kernel_rfl
theorem dn:Tryz.prog.globalNamed "typer/api.ErrType" =some 5:=by kernel_rfl
theorem Ii:(Tryz.prog.globals[5]?).map (·.type)=some 72:=by kernel_rfl
theorem tn:Tryz.prog.globalNamed "typer/api.ErrBig" =some 6:=by kernel_rfl
theorem Mx:(Tryz.prog.globals[6]?).map (·.type)=some 72:=by kernel_rfl
theorem dp:Tryz.prog.globalNamed "typer/api.ErrFuel" =some 7:=by kernel_rfl
theorem Ij:(Tryz.prog.globals[7]?).map (·.type)=some 72:=by kernel_rfl
theorem MG:Tryz.prog.globalNamed "typer/api.ErrStopped" =some 8:=by kernel_rfl
theorem dt:(Tryz.prog.globals[8]?).map (·.type)=some 72:=by kernel_rfl
theorem tz:Tryz.prog.globalNamed "typer/api.ErrNot" =some 9:=by kernel_rfl
theorem My:(Tryz.prog.globals[9]?).map (·.type)=some 72:=by kernel_rfl
def V7:List (String×List UInt8):=[("typer/api.ErrLong",[116,111,111,32,108,111,110,103]),("typer/api.ErrDeep",[116,111,111,32,109,97,110,121,32,112,97,114,116,115,32,119,105,116,104,105,110,32,101,97,99,104,32,111,116,104,101,114]),("typer/api.ErrArg",[97,32,110,117,109,98,101,114,32,111,102,32,114,111,117,110,100,115,32,116,104,97,116,32,105,115,32,110,111,110,101]),("typer/api.ErrType",[105,116,32,104,97,115,32,110,111,32,116,121,112,101]),("typer/api.ErrBig",[97,32,116,121,112,101,32,116,104,97,116,32,105,115,32,116,111,111,32,98,105,103]),("typer/api.ErrFuel",[109,111,114,101,32,114,111,117,110,100,115,32,97,114,101,32,110,101,101,100,101,100]),("typer/api.ErrStopped",[115,116,111,112,112,101,100]),("typer/api.ErrNot",[105,116,32,105,115,32,110,111,32,105,110,115,116,97,110,99,101])]
def Yz:Option Obj->Array Value|some (.cells c _ _)=>c|_=> #[]
def Za:Option Obj->TypeId|some (.cells _ t _)=>t|_=>0
theorem dw{W:World}(h:handlesMet Tryz.prog [("errors.errorType",Rows.laid_errors_errorType)] W):W.cell? ⟨10,0,none⟩=some (.iface 278 (.agg #[.pointer (some ⟨15,72,none⟩)])):=by
 obtain⟨f,u,g,x,a,b,c,e⟩:=h _ (List.mem_singleton.2 rfl);have en:f=[101,114,114,111,114]:=(Option.some.inj x).symm;subst en;obtain rfl:=Option.some.inj (Yy.symm.trans a);have w:g∈(List.range 467).filter λt=>Tryz.prog.rowNamed t [101,114,114,111,114]:=List.mem_filter.2 ⟨List.mem_range.2 (by rw[<-yv];exact b),c⟩;rw[Tc]at w;obtain rfl:=List.mem_singleton.1 w;have d:typeHandle Tryz.prog 72= .pointer (some ⟨15,72,none⟩):=by kernel_rfl
 rw[d]at e;simpa using World.var?_cell mq e 0
theorem Ik{W:World}{l:List MemPlace}(X:DataW.LaidVars Tryz.prog W (V7.map XY) l)(V:l.Nodup)
  (p:∀b r,MemPlace.cell b r∈l->(∃c t,W.heap[b]? =some (.cells c t (0,0)))/\∀u v,W.cell? ⟨b,r,none⟩=some (.iface u v)->Value.okWide Tryz.prog W .any 0 u v)
  (Q:handlesMet Tryz.prog [("errors.errorType",Rows.laid_errors_errorType)] W):∃s H Y,SW W s H Y:=by
 have o:=dw Q
 obtain⟨h,K,L,M,f⟩:=Od Tryz.underlying72 Mv Tryz.underlying437 Tryz.underlying455 rfl rfl Tryz.underlying9 Td Te V7 l X V p (by
  intro x q;simp only[V7,List.mem_cons,List.not_mem_nil,or_false]at q;rcases q with rfl|rfl|rfl|rfl|rfl|rfl|rfl|rfl
  ·exact⟨_,di,Ig⟩
  ·exact⟨_,dm,Ih⟩
  ·exact⟨_,tl,Mw⟩
  ·exact⟨_,dn,Ii⟩
  ·exact⟨_,tn,Mx⟩
  ·exact⟨_,dp,Ij⟩
  ·exact⟨_,MG,dt⟩
  ·exact⟨_,tz,My⟩)
 have Z:h.length=8:=K
 have m:∀k,k<8->h[k]? =some ((h[k]?).getD ⟨0,0,none⟩):=λk g=>by rw[List.getElem?_eq_getElem (by omega)];rfl
 have N:∀k,k<8->∃c t,W.heap[((h[k]?).getD ⟨0,0,none⟩).block]? =some (.cells c t (0,0)):=λk g=>
  (p _ _ (M _ (List.mem_of_getElem? (m k g)))).1
 have y:W.cell? ⟨2,0,none⟩=some (.iface 437 (.pointer (some ((h[0]?).getD ⟨0,0,none⟩)))):=by obtain⟨a,w,d⟩:=f 0 "typer/api.ErrLong" rfl;rw[w];simpa using World.var?_cell di d 0
 have z:W.cell? ⟨3,0,none⟩=some (.iface 437 (.pointer (some ((h[1]?).getD ⟨0,0,none⟩)))):=by obtain⟨a,w,d⟩:=f 1 "typer/api.ErrDeep" rfl;rw[w];simpa using World.var?_cell dm d 0
 have A:W.cell? ⟨4,0,none⟩=some (.iface 437 (.pointer (some ((h[2]?).getD ⟨0,0,none⟩)))):=by obtain⟨a,w,d⟩:=f 2 "typer/api.ErrArg" rfl;rw[w];simpa using World.var?_cell tl d 0
 have C:W.cell? ⟨5,0,none⟩=some (.iface 437 (.pointer (some ((h[3]?).getD ⟨0,0,none⟩)))):=by obtain⟨a,w,d⟩:=f 3 "typer/api.ErrType" rfl;rw[w];simpa using World.var?_cell dn d 0
 have D:W.cell? ⟨6,0,none⟩=some (.iface 437 (.pointer (some ((h[4]?).getD ⟨0,0,none⟩)))):=by obtain⟨a,w,d⟩:=f 4 "typer/api.ErrBig" rfl;rw[w];simpa using World.var?_cell tn d 0
 have E:W.cell? ⟨7,0,none⟩=some (.iface 437 (.pointer (some ((h[5]?).getD ⟨0,0,none⟩)))):=by obtain⟨a,w,d⟩:=f 5 "typer/api.ErrFuel" rfl;rw[w];simpa using World.var?_cell dp d 0
 have F:W.cell? ⟨8,0,none⟩=some (.iface 437 (.pointer (some ((h[6]?).getD ⟨0,0,none⟩)))):=by obtain⟨a,w,d⟩:=f 6 "typer/api.ErrStopped" rfl;rw[w];simpa using World.var?_cell MG d 0
 have G:W.cell? ⟨9,0,none⟩=some (.iface 437 (.pointer (some ((h[7]?).getD ⟨0,0,none⟩)))):=by obtain⟨a,w,d⟩:=f 7 "typer/api.ErrNot" rfl;rw[w];simpa using World.var?_cell tz d 0
 refine⟨λk=>(h[k]?).getD ⟨0,0,none⟩,λk=>Yz (W.heap[((h[k]?).getD ⟨0,0,none⟩).block]?),λk=>Za (W.heap[((h[k]?).getD ⟨0,0,none⟩).block]?),y,z,A,C,D,E,F,G,o, ?_, ?_, ?_⟩
 ·intro k g;obtain⟨c,t,O⟩:=N k g;show W.heap[((h[k]?).getD ⟨0,0,none⟩).block]? =_;rw[O];rfl
 ·intro i j R T S e;have n:=m i R;have J:=m j T;have I:(h[i]?).getD ⟨0,0,none⟩=(h[j]?).getD ⟨0,0,none⟩:=e;rw[I]at n;exact S ((List.getElem?_inj (by omega) L).1 (n.trans J.symm))
 ·rcases Nat.lt_or_ge 10 W.heap.size with U|P
  ·exact U
  ·simp[World.cell?,Array.getElem?_eq_none P]at o
theorem Mz{W:World}(h:laidMetH Tryz.prog Rows.sameRow.laid W):∃d f u,SW W d f u:=by
 have k:laidMet Tryz.prog (("math/bits.deBruijn32tab",Rows.laid_math_bits_deBruijn32tab)::("math/bits.deBruijn64tab",Rows.laid_math_bits_deBruijn64tab)::("internal/strconv.uint64pow10",Rows.laid_internal_strconv_uint64pow10)::V7.map XY) W/\handlesMet Tryz.prog [("errors.errorType",Rows.laid_errors_errorType)] W:=h;obtain⟨⟨w,⟨_,_,_,_,_,x,_,_,_,_,⟨_,_,_,_,_,a,_,_,_,_,⟨_,_,_,_,_,c,_,_,_,_,o,g⟩,i⟩,j⟩,n,p⟩,l⟩:=k
 have e:c.Sublist w:=by
  have r:c.Sublist a:=by rw[g];exact List.sublist_append_right _ _
  have s:a.Sublist x:=by rw[i];exact List.sublist_append_right _ _
  have t:x.Sublist w:=by rw[j];exact List.sublist_append_right _ _
  exact r.trans (s.trans t)
 exact Ik o (List.Nodup.sublist e n) (λb q m=>p b q (e.subset m)) l
theorem Zb:(Tryz.prog.globals[12]?).map (·.type)=some 431:=by kernel_rfl
theorem Tf{W:World}(h:laidMetH Tryz.prog Rows.sameRow.laid W):Lib.TabIs Tryz.prog W "internal/strconv.uint64pow10" .u64 Lib.pow10Tab:=by
 have f:laidMet Tryz.prog (("math/bits.deBruijn32tab",Rows.laid_math_bits_deBruijn32tab)::("math/bits.deBruijn64tab",Rows.laid_math_bits_deBruijn64tab)::("internal/strconv.uint64pow10",Rows.laid_internal_strconv_uint64pow10)::V7.map XY) W/\handlesMet Tryz.prog [("errors.errorType",Rows.laid_errors_errorType)] W:=h;obtain⟨⟨x,⟨_,_,_,_,_,a,_,_,_,_,⟨_,_,_,_,_,e,_,_,_,_,j,c⟩,d⟩,i,k⟩,o⟩:=f
 have w:e.Sublist x:=by
  have m:e.Sublist a:=by rw[c];exact List.sublist_append_right _ _
  have n:a.Sublist x:=by rw[d];exact List.sublist_append_right _ _
  exact m.trans n
 exact Lib.tabIs_of_head jv Zb Tryz.underlying431 Tryz.underlying328 (by kernel_rfl) (by kernel_rfl) (rest:=V7.map XY) ⟨e,j,List.Nodup.sublist w i,λb l g=>k b l (w.subset g)⟩
theorem Na(s:ByteArray)(W:World)(h:laidMetH Tryz.prog Rows.sameRow.laid W):
  Calls Tryz.prog 13 #[.string s] W λe b=>e= .returned (.bool true)/\Gn W b:=by
 obtain⟨w,x,a,S⟩:=Mz h;have e:B s.data.toList=s:=by cases s;simp[B]
 have:=Ie s.data.toList W w x a S (Tf h);rwa[e]at this
theorem Il(e:Os)(h:Array Value):laidMetH Tryz.prog Rows.sameRow.laid ((World.doorLaid Tryz.prog 400 e).forCall (λ_ _=>0) ⟨#[],h,[]⟩).memory:=
 laidMetH_of_parts3 (fuel:=8) (laidMet_of_run' 8 (by kernel_rfl) (by kernel_rfl)) (by kernel_rfl) (by kernel_rfl)
theorem lifted(os:Os)(t:os.Started)(H:Type)(enc:TypeId×Value->H):
  ReturnsInHanded {} Tryz.checked os 13 .any (λw args=>(Rows.sameSpec.pre enc Tryz.prog Tryz.f13 [] false w args/\laidMetH Tryz.prog Rows.sameRow.laid w)/\sizedMet enc Tryz.prog Tryz.f13 (OpenSpec.ofChange Rows.sameSpec) false w args)
   (Rows.sameSpec.post enc Tryz.prog Tryz.f13 false true false false):=by
 refine returnsInHanded_of_change_and (C:=Tryz.checked) (X:=λw _=>laidMetH Tryz.prog Rows.sameRow.laid w) (λ_ _ _ m h=>h.of_heap m) own t (by kernel_rfl) Tryz.func13
  (ChangeSpec.witness_shaped (enc:=enc) (C:=Tryz.checked) (os:=os) (X:=λw _=>laidMetH Tryz.prog Rows.sameRow.laid w) false (World.doorLaid Tryz.prog 400 os) #[.string ⟨#[]⟩] 8 rfl (World.shaped_of_RefB (by kernel_rfl) (by kernel_rfl)) (by kernel_rfl) (by kernel_rfl) (by kernel_rfl) (Il os _)) ?_
 intro W base args c z y n b _ _ g _;have j:=b;obtain⟨p,q,f,i,rfl,A,D⟩:=b;have a:DataW.TrodAll enc Tryz.prog W 0 (λ_=>true) true Tryz.f13.params.toList args.toList c p:=f;rw[Tryz.params13]at a;obtain⟨v,d,rfl,rfl,k⟩:=trodAll_one a;obtain⟨rfl,rfl⟩:=trodVars_none i;obtain⟨s,rfl,rfl,rfl,r⟩:=open_string Tryz.underlying9 (n 0 _ _ (by rw[Tryz.params13];rfl) rfl) k;refine(Na s W g).mono λe u ⟨l,o⟩=> ?_;subst l;have x:Rows.sameSpec.fn H ([.lit (.string s.data.toList)]++[])={results:=[.lit (.bool true)],args:=[.lit (.string s.data.toList)]}:=by simp[Rows.sameSpec]
 refine⟨_,rfl,_,_,_,[],[],[],j, ?_, ?_, ?_,o.frame _,λh=>by cases h⟩
 ·rw[x];exact trodAll_mk1 (shut_bool Tryz.underlying4 true)
 ·rw[x,Tryz.params13];exact trodAll_mk1 (shut_string Tryz.underlying9 r)
 ·rw[x];rfl
theorem band{a b:Bool}(x:a=true)(y:b=true):(a&&b)=true:=by rw[x,y];rfl
theorem Tg:(Rows.sameRow.wf (OpenSpec.ofChange Rows.sameSpec))=true:=by kernel_rfl
theorem Th:(laidOutB Tryz.prog)=true:=by kernel_rfl
theorem Ti:(mapsRowed Tryz.prog)=true:=by kernel_rfl
theorem Tj:(Tryz.f13.params.all (Tryz.prog.readableRec ·))=true:=by kernel_rfl
theorem Tk:(namedTie Tryz.prog Rows.sameRow.named Rows.sameSpec.vars)=true:=by kernel_rfl
theorem Tl:((Rows.sameRow.stops==[]))=true:=by kernel_rfl
theorem Tm:((Tryz.prog.stops==[]))=true:=by kernel_rfl
theorem Tn:((Rows.sameRow.knobs==[]))=true:=by kernel_rfl
theorem To:((Tryz.prog.stopKnobs==[]))=true:=by kernel_rfl
theorem Nb:((Rows.sameRow.inPlace==Tryz.prog.inPlace 13))=true:=by kernel_rfl
theorem Nc:((Rows.sameRow.unfollowed==Tryz.prog.unfollowed 13))=true:=by kernel_rfl
theorem Nd:((Rows.sameRow.recurses==Tryz.prog.recurses 13))=true:=by kernel_rfl
theorem Nf:((Rows.sameRow.named==Tryz.prog.varsNamed 13))=true:=by kernel_rfl
theorem Ng:((Rows.sameRow.maps==(Tryz.f13.params.toList++Rows.sameSpec.plain.varTypes Tryz.prog).any (Tryz.prog.mapsRec ·)))=true:=by kernel_rfl
theorem Nh:((Rows.sameRow.ifaces==(Tryz.f13.params.toList++Rows.sameSpec.plain.varTypes Tryz.prog).any (Tryz.prog.ifacesRec ·)))=true:=by kernel_rfl
theorem Ni:((Rows.sameRow.mapsOut==Tryz.prog.mapsAmong Tryz.f13.resultTypes.toList))=true:=by kernel_rfl
theorem Nj:((Rows.sameRow.loops==(Tryz.f13.params.toList++Rows.sameSpec.plain.varTypes Tryz.prog).any (Tryz.prog.loopsFrom ·)))=true:=by kernel_rfl
theorem Nk:((Rows.sameRow.wideKeys==(Tryz.f13.params.toList++Rows.sameSpec.plain.varTypes Tryz.prog++Tryz.f13.resultTypes.toList).any (Tryz.prog.wideKeysFrom ·)))=true:=by kernel_rfl
theorem Nl:(Rows.sameSpec.vars.all (Tryz.prog.varReadable ·))=true:=by kernel_rfl
theorem Nm:(Tryz.f13.resultTypes.all (λt=>Tryz.prog.readableRec t&&decide (t<Tryz.prog.types.size)))=true:=by kernel_rfl
theorem Nn:((Rows.sameRow.ifacesOut==Tryz.f13.resultTypes.toList.any (Tryz.prog.ifacesRec ·)))=true:=by kernel_rfl
theorem Np:((Rows.sameRow.loopsOut==Tryz.f13.resultTypes.toList.any (Tryz.prog.loopsFrom ·)))=true:=by kernel_rfl
theorem Nq:((Rows.sameRow.plainKeys==Tryz.prog.plainKeys))=true:=by kernel_rfl
theorem Nr:(Rows.sameRow.shortTexts.isNone)=true:=by kernel_rfl
theorem Ns:(Tryz.prog.stopsHeard)=true:=by kernel_rfl
theorem Nt:(Tryz.prog.mayEnter)=true:=by kernel_rfl
theorem Nu:((Rows.sameRow.lifted==Tryz.prog.liftsFinal))=true:=by kernel_rfl
theorem Nv:((Tryz.prog.make==some Rows.sameRow.make))=true:=by kernel_rfl
theorem Nw:((Rows.sameRow.pinned==Rows.sameRow.pinnedBy))=true:=by kernel_rfl
theorem Nz:((Rows.sameRow.veiled==(Tryz.f13.params.toList++Rows.sameSpec.plain.varTypes Tryz.prog++Tryz.f13.resultTypes.toList).any (Tryz.prog.veiledRec ·)))=true:=by kernel_rfl
theorem Oa:(Rows.sameRow.veiledFits Tryz.prog Tryz.f13.params.toList (Tryz.f13.params.toList++Rows.sameSpec.plain.varTypes Tryz.prog++Tryz.f13.resultTypes.toList))=true:=by kernel_rfl
theorem mr:joinedFacts Tryz.prog 13 Tryz.f13 Rows.sameSpec Rows.sameRow=true:=by unfold joinedFacts;refine band ?_ Oa;refine band ?_ Nz;refine band ?_ Nw;refine band ?_ (by kernel_rfl);refine band ?_ Nv;refine band ?_ Nu;refine band ?_ Nt;refine band ?_ Ns;refine band ?_ Nr;refine band ?_ Nq;refine band ?_ Np;refine band ?_ Nn;refine band ?_ Nm;refine band ?_ Nl;refine band ?_ Nk;refine band ?_ Nj;refine band ?_ Ni;refine band ?_ Nh;refine band ?_ Ng;refine band ?_ Nf;refine band ?_ Nd;refine band ?_ Nc;refine band ?_ Nb;refine band ?_ To;refine band ?_ Tn;refine band ?_ Tm;refine band ?_ Tl;refine band ?_ Tk;refine band ?_ Tj;refine band ?_ Ti;refine band ?_ Th;exact Tg
theorem Tp:Tryz.prog.funcNamed Rows.sameRow.func=some 13:=by kernel_rfl
theorem Im:Tryz.f13.isInstance Tryz.prog Rows.sameRow.origin Rows.sameRow.targs:=of_decide_eq_true (by kernel_rfl)
theorem Io:Tryz.f13.isWrapper Tryz.prog Rows.sameRow.wrapper Rows.sameRow.mainSum:=by unfold Func.isWrapper;rw[if_neg (of_decide_eq_false (by kernel_rfl))];exact⟨rfl,rfl⟩
theorem same_row_holds:Rows.SameSaid:=
 OpenClaim.holds_of_wide 13 Tryz.f13 rfl rfl rfl rfl rfl rfl rfl ⟨rfl,rfl,rfl,rfl,rfl⟩ rfl rfl rfl rfl rfl Tp Tryz.func13 mr Im Io
  (λe w H h _=>lifted e w H h)
end Go.Proofs.YtcdijppegfcoaaaGreatDoor
