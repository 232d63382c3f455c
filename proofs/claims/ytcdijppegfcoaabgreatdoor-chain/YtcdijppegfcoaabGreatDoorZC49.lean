import Derived.Test.YtcdijppegfcoaabGreatDoorRows
import Derived.Test.YtcdijppegfcoaabGreatDoorZC47
import Derived.Lib.LaidTab
import Derived.Test.YtcdijppegfcoaabGreatDoorZC48
import Derived.ProofKit
import Derived.LaidMore
import Derived.OpenShut
import Derived.Stop.Joined
import Derived.SliceStrings
import Derived.ChangeMaps5
set_option maxRecDepth 100000
namespace Go.Proofs.YtcdijppegfcoaabGreatDoor
open Go.ChangeMaps Go.ChangeShapes Go.WideShapes Go.ChangeAt Go.WideMaps Go.WideElems Go.RowKit
theorem own : ownKnob Tryz.prog.godebug = none := by kernel_rfl
theorem gErrorType : Tryz.prog.globalNamed "errors.errorType" = some 8 := by kernel_rfl
theorem rtIs : (Tryz.prog.cutTypes.find? (·.1 == "internal/reflectlite.rtype")).map (·.2) = some 229 := by kernel_rfl
theorem typesSize : Tryz.prog.types.size = 402 := by kernel_rfl
theorem oneRow : ((List.range 402).filter fun t => Tryz.prog.rowNamed t [101,114,114,111,114]) = [56] := by kernel_rfl
theorem star : "*" ++ "errors.errorString" = "*errors.errorString" := by decide
theorem errRow1 (u : TypeId) (h : Tryz.prog.typeName? 3 u = some "*errors.errorString") : u = 372 :=
  typeName_ptr_named (nm := "errors.errorString") (by rw [star]; kernel_rfl) (by kernel_rfl) (by decide) u (by rw [star]; exact h)
theorem cellsE : Tryz.prog.cellsOf 390 = 1 := by kernel_rfl
theorem cellsS : Tryz.prog.cellsOf 9 = 1 := by kernel_rfl
theorem gErrLong : Tryz.prog.globalNamed "typer/api.ErrLong" = some 0 := by kernel_rfl
theorem tErrLong : (Tryz.prog.globals[0]?).map (·.type) = some 56 := by kernel_rfl
theorem gErrDeep : Tryz.prog.globalNamed "typer/api.ErrDeep" = some 1 := by kernel_rfl
theorem tErrDeep : (Tryz.prog.globals[1]?).map (·.type) = some 56 := by kernel_rfl
theorem gErrArg : Tryz.prog.globalNamed "typer/api.ErrArg" = some 2 := by kernel_rfl
theorem tErrArg : (Tryz.prog.globals[2]?).map (·.type) = some 56 := by kernel_rfl
theorem gErrType : Tryz.prog.globalNamed "typer/api.ErrType" = some 3 := by kernel_rfl
theorem tErrType : (Tryz.prog.globals[3]?).map (·.type) = some 56 := by kernel_rfl
theorem gErrBig : Tryz.prog.globalNamed "typer/api.ErrBig" = some 4 := by kernel_rfl
theorem tErrBig : (Tryz.prog.globals[4]?).map (·.type) = some 56 := by kernel_rfl
theorem gErrFuel : Tryz.prog.globalNamed "typer/api.ErrFuel" = some 5 := by kernel_rfl
theorem tErrFuel : (Tryz.prog.globals[5]?).map (·.type) = some 56 := by kernel_rfl
theorem gErrStopped : Tryz.prog.globalNamed "typer/api.ErrStopped" = some 6 := by kernel_rfl
theorem tErrStopped : (Tryz.prog.globals[6]?).map (·.type) = some 56 := by kernel_rfl
theorem gErrNot : Tryz.prog.globalNamed "typer/api.ErrNot" = some 7 := by kernel_rfl
theorem tErrNot : (Tryz.prog.globals[7]?).map (·.type) = some 56 := by kernel_rfl
def sentL : List (String × List UInt8) := [("typer/api.ErrLong",[116,111,111,32,108,111,110,103]),("typer/api.ErrDeep",[116,111,111,32,109,97,110,121,32,112,97,114,116,115,32,119,105,116,104,105,110,32,101,97,99,104,32,111,116,104,101,114]),("typer/api.ErrArg",[97,32,110,117,109,98,101,114,32,111,102,32,114,111,117,110,100,115,32,116,104,97,116,32,105,115,32,110,111,110,101]),("typer/api.ErrType",[105,116,32,104,97,115,32,110,111,32,116,121,112,101]),("typer/api.ErrBig",[97,32,116,121,112,101,32,116,104,97,116,32,105,115,32,116,111,111,32,98,105,103]),("typer/api.ErrFuel",[109,111,114,101,32,114,111,117,110,100,115,32,97,114,101,32,110,101,101,100,101,100]),("typer/api.ErrStopped",[115,116,111,112,112,101,100]),("typer/api.ErrNot",[105,116,32,105,115,32,110,111,32,105,110,115,116,97,110,99,101])]
def blkC : Option Obj → Array Value | some (.cells c _ _) => c | _ => #[]
def blkT : Option Obj → TypeId | some (.cells _ t _) => t | _ => 0
theorem handle_cell {W : World} (h : handlesMet Tryz.prog [("errors.errorType",Rows.laid_errors_errorType)] W) : W.cell? ⟨8,0,none⟩ = some (.iface 229 (.agg #[.pointer (some ⟨13,56,none⟩)])) := by
  obtain ⟨name,u,ty,e1,e2,e3,e4,e5⟩ := h _ (List.mem_singleton.2 rfl)
  have en : name = [101,114,114,111,114] := (Option.some.inj e1).symm
  subst en
  obtain rfl := Option.some.inj (rtIs.symm.trans e2)
  have hm : ty ∈ (List.range 402).filter fun t => Tryz.prog.rowNamed t [101,114,114,111,114] := List.mem_filter.2 ⟨List.mem_range.2 (by rw [← typesSize]; exact e3),e4⟩
  rw [oneRow] at hm
  obtain rfl := List.mem_singleton.1 hm
  have hh : typeHandle Tryz.prog 56 = .pointer (some ⟨13,56,none⟩) := by kernel_rfl
  rw [hh] at e5
  simpa using World.var?_cell gErrorType e5 0
theorem of_sents {W : World} {ps : List MemPlace} (hv : DataW.LaidVars Tryz.prog W (sentL.map sentD) ps) (hnd : ps.Nodup)
    (hrows : ∀ b off,MemPlace.cell b off ∈ ps → (∃ c t,W.heap[b]? = some (.cells c t (0,0))) ∧ ∀ u v,W.cell? ⟨b,off,none⟩ = some (.iface u v) → Value.okWide Tryz.prog W .any 0 u v)
    (hh : handlesMet Tryz.prog [("errors.errorType",Rows.laid_errors_errorType)] W) : ∃ ad cs ts,SW W ad cs ts := by
  have hE := handle_cell hh
  obtain ⟨ys,h1,h2,h3,h4⟩ := sents Tryz.underlying56 errRow1 Tryz.underlying372 Tryz.underlying390 rfl rfl Tryz.underlying9 cellsE cellsS sentL ps hv hnd hrows (by
    intro x hx
    simp only [sentL,List.mem_cons,List.not_mem_nil,or_false] at hx
    rcases hx with rfl | rfl | rfl | rfl | rfl | rfl | rfl | rfl
    · exact ⟨_,gErrLong,tErrLong⟩
    · exact ⟨_,gErrDeep,tErrDeep⟩
    · exact ⟨_,gErrArg,tErrArg⟩
    · exact ⟨_,gErrType,tErrType⟩
    · exact ⟨_,gErrBig,tErrBig⟩
    · exact ⟨_,gErrFuel,tErrFuel⟩
    · exact ⟨_,gErrStopped,tErrStopped⟩
    · exact ⟨_,gErrNot,tErrNot⟩)
  have hlen : ys.length = 8 := h1
  have hget : ∀ k,k < 8 → ys[k]? = some ((ys[k]?).getD ⟨0,0,none⟩) := fun k hk => by
    rw [List.getElem?_eq_getElem (by omega)]; rfl
  have hbl : ∀ k,k < 8 → ∃ c t,W.heap[((ys[k]?).getD ⟨0,0,none⟩).block]? = some (.cells c t (0,0)) := fun k hk =>
    (hrows _ _ (h3 _ (List.mem_of_getElem? (hget k hk)))).1
  have c0 : W.cell? ⟨0,0,none⟩ = some (.iface 372 (.pointer (some ((ys[0]?).getD ⟨0,0,none⟩)))) := by
    obtain ⟨a,ha,hva⟩ := h4 0 "typer/api.ErrLong" rfl
    rw [ha]
    simpa using World.var?_cell gErrLong hva 0
  have c1 : W.cell? ⟨1,0,none⟩ = some (.iface 372 (.pointer (some ((ys[1]?).getD ⟨0,0,none⟩)))) := by
    obtain ⟨a,ha,hva⟩ := h4 1 "typer/api.ErrDeep" rfl
    rw [ha]
    simpa using World.var?_cell gErrDeep hva 0
  have c2 : W.cell? ⟨2,0,none⟩ = some (.iface 372 (.pointer (some ((ys[2]?).getD ⟨0,0,none⟩)))) := by
    obtain ⟨a,ha,hva⟩ := h4 2 "typer/api.ErrArg" rfl
    rw [ha]
    simpa using World.var?_cell gErrArg hva 0
  have c3 : W.cell? ⟨3,0,none⟩ = some (.iface 372 (.pointer (some ((ys[3]?).getD ⟨0,0,none⟩)))) := by
    obtain ⟨a,ha,hva⟩ := h4 3 "typer/api.ErrType" rfl
    rw [ha]
    simpa using World.var?_cell gErrType hva 0
  have c4 : W.cell? ⟨4,0,none⟩ = some (.iface 372 (.pointer (some ((ys[4]?).getD ⟨0,0,none⟩)))) := by
    obtain ⟨a,ha,hva⟩ := h4 4 "typer/api.ErrBig" rfl
    rw [ha]
    simpa using World.var?_cell gErrBig hva 0
  have c5 : W.cell? ⟨5,0,none⟩ = some (.iface 372 (.pointer (some ((ys[5]?).getD ⟨0,0,none⟩)))) := by
    obtain ⟨a,ha,hva⟩ := h4 5 "typer/api.ErrFuel" rfl
    rw [ha]
    simpa using World.var?_cell gErrFuel hva 0
  have c6 : W.cell? ⟨6,0,none⟩ = some (.iface 372 (.pointer (some ((ys[6]?).getD ⟨0,0,none⟩)))) := by
    obtain ⟨a,ha,hva⟩ := h4 6 "typer/api.ErrStopped" rfl
    rw [ha]
    simpa using World.var?_cell gErrStopped hva 0
  have c7 : W.cell? ⟨7,0,none⟩ = some (.iface 372 (.pointer (some ((ys[7]?).getD ⟨0,0,none⟩)))) := by
    obtain ⟨a,ha,hva⟩ := h4 7 "typer/api.ErrNot" rfl
    rw [ha]
    simpa using World.var?_cell gErrNot hva 0
  refine ⟨fun k => (ys[k]?).getD ⟨0,0,none⟩,fun k => blkC (W.heap[((ys[k]?).getD ⟨0,0,none⟩).block]?),fun k => blkT (W.heap[((ys[k]?).getD ⟨0,0,none⟩).block]?),c0,c1,c2,c3,c4,c5,c6,c7,hE,?_,?_,?_⟩
  · intro k hk
    obtain ⟨c,t,hct⟩ := hbl k hk
    show W.heap[((ys[k]?).getD ⟨0,0,none⟩).block]? = _
    rw [hct]
    rfl
  · intro i j hi hj hij e
    have e1 := hget i hi
    have e2 := hget j hj
    have e' : (ys[i]?).getD ⟨0,0,none⟩ = (ys[j]?).getD ⟨0,0,none⟩ := e
    rw [e'] at e1
    exact hij ((List.getElem?_inj (by omega) h2).1 (e1.trans e2.symm))
  · rcases Nat.lt_or_ge 8 W.heap.size with hlt | hge
    · exact hlt
    · simp [World.cell?,Array.getElem?_eq_none hge] at hE
theorem of_laid {W : World} (h : laidMetH Tryz.prog Rows.chainRow.laid W) : ∃ ad cs ts,SW W ad cs ts := by
  have h' : laidMet Tryz.prog (("math/bits.deBruijn32tab",Rows.laid_math_bits_deBruijn32tab) :: ("math/bits.deBruijn64tab",Rows.laid_math_bits_deBruijn64tab) :: ("internal/strconv.uint64pow10",Rows.laid_internal_strconv_uint64pow10) :: sentL.map sentD) W ∧ handlesMet Tryz.prog [("errors.errorType",Rows.laid_errors_errorType)] W := h
  obtain ⟨⟨ps,⟨_,_,_,_,_,q1,_,_,_,_,⟨_,_,_,_,_,q2,_,_,_,_,⟨_,_,_,_,_,q3,_,_,_,_,hq,e1⟩,e2⟩,e3⟩,hnd,hrows⟩,hh⟩ := h'
  have hsub : q3.Sublist ps := by
    have s1 : q3.Sublist q2 := by rw [e1]; exact List.sublist_append_right _ _
    have s2 : q2.Sublist q1 := by rw [e2]; exact List.sublist_append_right _ _
    have s3 : q1.Sublist ps := by rw [e3]; exact List.sublist_append_right _ _
    exact s1.trans (s2.trans s3)
  exact of_sents hq (List.Nodup.sublist hsub hnd) (fun b off hm => hrows b off (hsub.subset hm)) hh
theorem tabT : (Tryz.prog.globals[10]?).map (·.type) = some 366 := by kernel_rfl
theorem of_tab {W : World} (h : laidMetH Tryz.prog Rows.chainRow.laid W) : Lib.TabIs Tryz.prog W "internal/strconv.uint64pow10" .u64 Lib.pow10Tab := by
  have h' : laidMet Tryz.prog (("math/bits.deBruijn32tab",Rows.laid_math_bits_deBruijn32tab) :: ("math/bits.deBruijn64tab",Rows.laid_math_bits_deBruijn64tab) :: ("internal/strconv.uint64pow10",Rows.laid_internal_strconv_uint64pow10) :: sentL.map sentD) W ∧ handlesMet Tryz.prog [("errors.errorType",Rows.laid_errors_errorType)] W := h
  obtain ⟨⟨ps,⟨_,_,_,_,_,q1,_,_,_,_,⟨_,_,_,_,_,q2,_,_,_,_,hq,e2⟩,e3⟩,hnd,hrows⟩,hh⟩ := h'
  have hsub : q2.Sublist ps := by
    have s2 : q2.Sublist q1 := by rw [e2]; exact List.sublist_append_right _ _
    have s3 : q1.Sublist ps := by rw [e3]; exact List.sublist_append_right _ _
    exact s2.trans s3
  exact Lib.tabIs_of_head gPow10 tabT Tryz.underlying366 Tryz.underlying262 (by kernel_rfl) (by kernel_rfl) (rest := sentL.map sentD) ⟨q2,hq,List.Nodup.sublist hsub hnd,fun b off hm => hrows b off (hsub.subset hm)⟩
theorem law_any (n n2 : Int) (h1 : -9223372036854775808 ≤ n) (h2 : n ≤ 9223372036854775807) (h3 : -9223372036854775808 ≤ n2) (h4 : n2 ≤ 9223372036854775807) (W : World) (h : laidMetH Tryz.prog Rows.chainRow.laid W) :
    Calls Tryz.prog 4 #[.int .i64 n,.int .i64 n2] W fun e w' => e = .returned (.bool true) ∧ Gn W w' := by
  obtain ⟨ad,cs,ts,S⟩ := of_laid h
  exact chain_any n n2 h1 h2 h3 h4 W ad cs ts S (of_tab h)
theorem door_met (os : Os) (args : Array Value) : laidMetH Tryz.prog Rows.chainRow.laid ((World.doorLaid Tryz.prog 400 os).forCall (fun _ _ => 0) ⟨#[],args,[]⟩).memory :=
  laidMetH_of_parts3 (fuel := 8) (laidMet_of_run' 8 (by kernel_rfl) (by kernel_rfl)) (by kernel_rfl) (by kernel_rfl)
theorem lifted (os : Os) (started : os.Started) (H : Type) (enc : TypeId × Value → H) :
    ReturnsInHanded {} Tryz.checked os 4 .any (fun w args => (Rows.chainSpec.pre enc Tryz.prog Tryz.f4 [] false w args ∧ laidMetH Tryz.prog Rows.chainRow.laid w) ∧ sizedMet enc Tryz.prog Tryz.f4 (OpenSpec.ofChange Rows.chainSpec) false w args)
      (Rows.chainSpec.post enc Tryz.prog Tryz.f4 false true false false) := by
  refine returnsInHanded_of_change_and (C := Tryz.checked) (X := fun w _ => laidMetH Tryz.prog Rows.chainRow.laid w) (fun _ _ _ hh h => h.of_heap hh) own started (by kernel_rfl) Tryz.func4
    (ChangeSpec.witness_shaped (enc := enc) (C := Tryz.checked) (os := os) (X := fun w _ => laidMetH Tryz.prog Rows.chainRow.laid w) false (World.doorLaid Tryz.prog 400 os) #[.int .i64 0,.int .i64 0] 8 rfl (World.shaped_of_RefB (by kernel_rfl) (by kernel_rfl)) (by kernel_rfl) (by kernel_rfl) (by kernel_rfl) (door_met os _)) ?_
  intro W base args ds gs before hval0 hW _ _ hL _
  have hW' := hW
  obtain ⟨p,q,hA0,hV,rfl,hfz,hnd⟩ := hW
  have hA : DataW.TrodAll enc Tryz.prog W 0 (fun _ => true) true Tryz.f4.params.toList args.toList ds p := hA0
  rw [Tryz.params4] at hA
  obtain ⟨v,v2,d,d2,p1,p2,rfl,rfl,rfl,hd,hd2⟩ := trodAll_two hA
  obtain ⟨rfl,rfl⟩ := trodVars_none hV
  obtain ⟨n,rfl,rfl,rfl,hz⟩ := open_int Tryz.underlying3 (hval0 0 _ _ (by rw [Tryz.params4]; rfl) rfl) hd
  obtain ⟨n2,rfl,rfl,rfl,hz2⟩ := open_int Tryz.underlying3 (hval0 1 _ _ (by rw [Tryz.params4]; rfl) rfl) hd2
  have hr := int_rangeC hz
  have hr2 := int_rangeC hz2
  refine (law_any n n2 hr.1 hr.2 hr2.1 hr2.2 W hL).mono fun e W' ⟨he,hw⟩ => ?_
  subst he
  have e1 : Rows.chainSpec.fn H ([.lit (.int .i64 n),.lit (.int .i64 n2)] ++ []) = { results := [.lit (.bool true)],args := [.lit (.int .i64 n),.lit (.int .i64 n2)] } := by simp [Rows.chainSpec]
  refine ⟨_,rfl,_,_,_,[],[],[],hW',?_,?_,?_,hw.frame _,fun h => by cases h⟩
  · rw [e1]; exact trodAll_mk1 (shut_bool Tryz.underlying4 true)
  · rw [e1,Tryz.params4]; exact trodAll_mk2 (shut_int Tryz.underlying3 hz) (shut_int Tryz.underlying3 hz2)
  · rw [e1]; rfl
theorem band {a b : Bool} (x : a = true) (y : b = true) : (a && b) = true := by rw [x,y]; rfl
theorem row_k1 : (Rows.chainRow.wf (OpenSpec.ofChange Rows.chainSpec)) = true := by kernel_rfl
theorem row_k2 : (laidOutB Tryz.prog) = true := by kernel_rfl
theorem row_k3 : (mapsRowed Tryz.prog) = true := by kernel_rfl
theorem row_k4 : (Tryz.f4.params.all (Tryz.prog.readableRec ·)) = true := by kernel_rfl
theorem row_k5 : (namedTie Tryz.prog Rows.chainRow.named Rows.chainSpec.vars) = true := by kernel_rfl
theorem row_k6 : ((Rows.chainRow.stops == [])) = true := by kernel_rfl
theorem row_k7 : ((Tryz.prog.stops == [])) = true := by kernel_rfl
theorem row_k8 : ((Rows.chainRow.knobs == [])) = true := by kernel_rfl
theorem row_k9 : ((Tryz.prog.stopKnobs == [])) = true := by kernel_rfl
theorem row_k10 : ((Rows.chainRow.inPlace == Tryz.prog.inPlace 4)) = true := by kernel_rfl
theorem row_k11 : ((Rows.chainRow.unfollowed == Tryz.prog.unfollowed 4)) = true := by kernel_rfl
theorem row_k12 : ((Rows.chainRow.recurses == Tryz.prog.recurses 4)) = true := by kernel_rfl
theorem row_k13 : ((Rows.chainRow.named == Tryz.prog.varsNamed 4)) = true := by kernel_rfl
theorem row_k14 : ((Rows.chainRow.maps == (Tryz.f4.params.toList ++ Rows.chainSpec.plain.varTypes Tryz.prog).any (Tryz.prog.mapsRec ·))) = true := by kernel_rfl
theorem row_k15 : ((Rows.chainRow.ifaces == (Tryz.f4.params.toList ++ Rows.chainSpec.plain.varTypes Tryz.prog).any (Tryz.prog.ifacesRec ·))) = true := by kernel_rfl
theorem row_k16 : ((Rows.chainRow.mapsOut == Tryz.prog.mapsAmong Tryz.f4.resultTypes.toList)) = true := by kernel_rfl
theorem row_k17 : ((Rows.chainRow.loops == (Tryz.f4.params.toList ++ Rows.chainSpec.plain.varTypes Tryz.prog).any (Tryz.prog.loopsFrom ·))) = true := by kernel_rfl
theorem row_k18 : ((Rows.chainRow.wideKeys == (Tryz.f4.params.toList ++ Rows.chainSpec.plain.varTypes Tryz.prog ++ Tryz.f4.resultTypes.toList).any (Tryz.prog.wideKeysFrom ·))) = true := by kernel_rfl
theorem row_k19 : (Rows.chainSpec.vars.all (Tryz.prog.varReadable ·)) = true := by kernel_rfl
theorem row_k20 : (Tryz.f4.resultTypes.all (fun t => Tryz.prog.readableRec t && decide (t < Tryz.prog.types.size))) = true := by kernel_rfl
theorem row_k21 : ((Rows.chainRow.ifacesOut == Tryz.f4.resultTypes.toList.any (Tryz.prog.ifacesRec ·))) = true := by kernel_rfl
theorem row_k22 : ((Rows.chainRow.loopsOut == Tryz.f4.resultTypes.toList.any (Tryz.prog.loopsFrom ·))) = true := by kernel_rfl
theorem row_k23 : ((Rows.chainRow.plainKeys == Tryz.prog.plainKeys)) = true := by kernel_rfl
theorem row_k24 : (Rows.chainRow.shortTexts.isNone) = true := by kernel_rfl
theorem row_k25 : (Tryz.prog.stopsHeard) = true := by kernel_rfl
theorem row_k26 : (Tryz.prog.mayEnter) = true := by kernel_rfl
theorem row_k27 : ((Rows.chainRow.lifted == Tryz.prog.liftsFinal)) = true := by kernel_rfl
theorem row_k28 : ((Tryz.prog.make == some Rows.chainRow.make)) = true := by kernel_rfl
theorem row_k30 : ((Rows.chainRow.pinned == Rows.chainRow.pinnedBy)) = true := by kernel_rfl
theorem row_k31 : ((Rows.chainRow.veiled == (Tryz.f4.params.toList ++ Rows.chainSpec.plain.varTypes Tryz.prog ++ Tryz.f4.resultTypes.toList).any (Tryz.prog.veiledRec ·))) = true := by kernel_rfl
theorem row_k32 : (Rows.chainRow.veiledFits Tryz.prog Tryz.f4.params.toList (Tryz.f4.params.toList ++ Rows.chainSpec.plain.varTypes Tryz.prog ++ Tryz.f4.resultTypes.toList)) = true := by kernel_rfl
theorem row_closed : joinedFacts Tryz.prog 4 Tryz.f4 Rows.chainSpec Rows.chainRow = true := by
  unfold joinedFacts
  refine band ?_ row_k32
  refine band ?_ row_k31
  refine band ?_ row_k30
  refine band ?_ (by kernel_rfl)
  refine band ?_ row_k28
  refine band ?_ row_k27
  refine band ?_ row_k26
  refine band ?_ row_k25
  refine band ?_ row_k24
  refine band ?_ row_k23
  refine band ?_ row_k22
  refine band ?_ row_k21
  refine band ?_ row_k20
  refine band ?_ row_k19
  refine band ?_ row_k18
  refine band ?_ row_k17
  refine band ?_ row_k16
  refine band ?_ row_k15
  refine band ?_ row_k14
  refine band ?_ row_k13
  refine band ?_ row_k12
  refine band ?_ row_k11
  refine band ?_ row_k10
  refine band ?_ row_k9
  refine band ?_ row_k8
  refine band ?_ row_k7
  refine band ?_ row_k6
  refine band ?_ row_k5
  refine band ?_ row_k4
  refine band ?_ row_k3
  refine band ?_ row_k2
  exact row_k1
theorem row_fn : Tryz.prog.funcNamed Rows.chainRow.func = some 4 := by kernel_rfl
theorem row_inst : Tryz.f4.isInstance Tryz.prog Rows.chainRow.origin Rows.chainRow.targs := of_decide_eq_true (by kernel_rfl)
theorem row_wrap : Tryz.f4.isWrapper Tryz.prog Rows.chainRow.wrapper Rows.chainRow.mainSum := by unfold Func.isWrapper; rw [if_neg (of_decide_eq_false (by kernel_rfl))]; exact ⟨rfl,rfl⟩
theorem chain_row_holds : Rows.ChainSaid :=
  OpenClaim.holds_of_wide 4 Tryz.f4 rfl rfl rfl rfl rfl rfl rfl ⟨rfl,rfl,rfl,rfl,rfl⟩ rfl rfl rfl rfl rfl row_fn Tryz.func4 row_closed row_inst row_wrap
    (fun os started H enc _ => lifted os started H enc)
end Go.Proofs.YtcdijppegfcoaabGreatDoor
