import Derived.Test.YtcdijppegfcoaaaGreatDoorRows
import Derived.Test.YtcdijppegfcoaaaGreatDoorLF
import Derived.Test.YtcdijppegfcoaaaGreatDoorSents
import Derived.ProofKit
import Derived.LaidMore
import Derived.OpenShut
import Derived.Stop.Joined
import Derived.SliceStrings
import Derived.ChangeMaps5
import Derived.Test.YtcdijppegfcoaaaGreatDoorTie
import Derived.Test.YtcdijppegfcoaaaGreatDoorCards
import Derived.SevenTiedAt
/-
  OUR OWN TEXT. typerlaw.Instances: the row.
-/
namespace Go.Proofs.YtcdijppegfcoaaaGreatDoor
open Go.ChangeMaps Go.ChangeShapes Go.WideShapes Go.ChangeAt Go.WideMaps Go.WideElems Go.RowKit

theorem own : ownKnob Tryz.prog.godebug = none := by kernel_rfl
theorem gErrorType : Tryz.prog.globalNamed "errors.errorType" = some 10 := by kernel_rfl
theorem rtIs : (Tryz.prog.cutTypes.find? (·.1 == "internal/reflectlite.rtype")).map (·.2) = some 278 := by kernel_rfl
theorem typesSize : Tryz.prog.types.size = 467 := by kernel_rfl
theorem oneRow : ((List.range 467).filter fun t => Tryz.prog.rowNamed t [101, 114, 114, 111, 114]) = [72] := by kernel_rfl
theorem star : "*" ++ "errors.errorString" = "*errors.errorString" := by decide
theorem errRow1 (u : TypeId) (h : Tryz.prog.typeName? 3 u = some "*errors.errorString") : u = 437 :=
  typeName_ptr_named (nm := "errors.errorString") (by rw [star]; kernel_rfl) (by kernel_rfl) (by decide) u (by rw [star]; exact h)
theorem cellsE : Tryz.prog.cellsOf 455 = 1 := by kernel_rfl
theorem cellsS : Tryz.prog.cellsOf 9 = 1 := by kernel_rfl
theorem gErrLong : Tryz.prog.globalNamed "typer/api.ErrLong" = some 2 := by kernel_rfl
theorem tErrLong : (Tryz.prog.globals[2]?).map (·.type) = some 72 := by kernel_rfl
theorem gErrDeep : Tryz.prog.globalNamed "typer/api.ErrDeep" = some 3 := by kernel_rfl
theorem tErrDeep : (Tryz.prog.globals[3]?).map (·.type) = some 72 := by kernel_rfl
theorem gErrArg : Tryz.prog.globalNamed "typer/api.ErrArg" = some 4 := by kernel_rfl
theorem tErrArg : (Tryz.prog.globals[4]?).map (·.type) = some 72 := by kernel_rfl
theorem gErrType : Tryz.prog.globalNamed "typer/api.ErrType" = some 5 := by kernel_rfl
theorem tErrType : (Tryz.prog.globals[5]?).map (·.type) = some 72 := by kernel_rfl
theorem gErrBig : Tryz.prog.globalNamed "typer/api.ErrBig" = some 6 := by kernel_rfl
theorem tErrBig : (Tryz.prog.globals[6]?).map (·.type) = some 72 := by kernel_rfl
theorem gErrFuel : Tryz.prog.globalNamed "typer/api.ErrFuel" = some 7 := by kernel_rfl
theorem tErrFuel : (Tryz.prog.globals[7]?).map (·.type) = some 72 := by kernel_rfl
theorem gErrStopped : Tryz.prog.globalNamed "typer/api.ErrStopped" = some 8 := by kernel_rfl
theorem tErrStopped : (Tryz.prog.globals[8]?).map (·.type) = some 72 := by kernel_rfl
theorem gErrNot : Tryz.prog.globalNamed "typer/api.ErrNot" = some 9 := by kernel_rfl
theorem tErrNot : (Tryz.prog.globals[9]?).map (·.type) = some 72 := by kernel_rfl

def sentL : List (String × List UInt8) := [("typer/api.ErrLong", [116, 111, 111, 32, 108, 111, 110, 103]), ("typer/api.ErrDeep", [116, 111, 111, 32, 109, 97, 110, 121, 32, 112, 97, 114, 116, 115, 32, 119, 105, 116, 104, 105, 110, 32, 101, 97, 99, 104, 32, 111, 116, 104, 101, 114]), ("typer/api.ErrArg", [97, 32, 110, 117, 109, 98, 101, 114, 32, 111, 102, 32, 114, 111, 117, 110, 100, 115, 32, 116, 104, 97, 116, 32, 105, 115, 32, 110, 111, 110, 101]), ("typer/api.ErrType", [105, 116, 32, 104, 97, 115, 32, 110, 111, 32, 116, 121, 112, 101]), ("typer/api.ErrBig", [97, 32, 116, 121, 112, 101, 32, 116, 104, 97, 116, 32, 105, 115, 32, 116, 111, 111, 32, 98, 105, 103]), ("typer/api.ErrFuel", [109, 111, 114, 101, 32, 114, 111, 117, 110, 100, 115, 32, 97, 114, 101, 32, 110, 101, 101, 100, 101, 100]), ("typer/api.ErrStopped", [115, 116, 111, 112, 112, 101, 100]), ("typer/api.ErrNot", [105, 116, 32, 105, 115, 32, 110, 111, 32, 105, 110, 115, 116, 97, 110, 99, 101])]
def blkC : Option Obj → Array Value | some (.cells c _ _) => c | _ => #[]
def blkT : Option Obj → TypeId | some (.cells _ t _) => t | _ => 0

theorem handle_cell {W : World} (h : handlesMet Tryz.prog [("errors.errorType", Rows.laid_errors_errorType)] W) : W.cell? ⟨10, 0, none⟩ = some (.iface 278 (.agg #[.pointer (some ⟨15, 72, none⟩)])) := by
  obtain ⟨name, u, ty, e1, e2, e3, e4, e5⟩ := h _ (List.mem_singleton.2 rfl)
  have en : name = [101, 114, 114, 111, 114] := (Option.some.inj e1).symm
  subst en
  obtain rfl := Option.some.inj (rtIs.symm.trans e2)
  have hm : ty ∈ (List.range 467).filter fun t => Tryz.prog.rowNamed t [101, 114, 114, 111, 114] := List.mem_filter.2 ⟨List.mem_range.2 (by rw [← typesSize]; exact e3), e4⟩
  rw [oneRow] at hm
  obtain rfl := List.mem_singleton.1 hm
  have hh : typeHandle Tryz.prog 72 = .pointer (some ⟨15, 72, none⟩) := by kernel_rfl
  rw [hh] at e5
  simpa using World.var?_cell gErrorType e5 0

theorem of_sents {W : World} {ps : List MemPlace} (hv : DataW.LaidVars Tryz.prog W (sentL.map sentD) ps) (hnd : ps.Nodup)
    (hrows : ∀ b off, MemPlace.cell b off ∈ ps → (∃ c t, W.heap[b]? = some (.cells c t (0, 0))) ∧ ∀ u v, W.cell? ⟨b, off, none⟩ = some (.iface u v) → Value.okWide Tryz.prog W .any 0 u v)
    (hh : handlesMet Tryz.prog [("errors.errorType", Rows.laid_errors_errorType)] W) : ∃ ad cs ts, SW W ad cs ts := by
  have hE := handle_cell hh
  obtain ⟨ys, h1, h2, h3, h4⟩ := sents Tryz.underlying72 errRow1 Tryz.underlying437 Tryz.underlying455 rfl rfl Tryz.underlying9 cellsE cellsS sentL ps hv hnd hrows (by
    intro x hx
    simp only [sentL, List.mem_cons, List.not_mem_nil, or_false] at hx
    rcases hx with rfl | rfl | rfl | rfl | rfl | rfl | rfl | rfl
    · exact ⟨_, gErrLong, tErrLong⟩
    · exact ⟨_, gErrDeep, tErrDeep⟩
    · exact ⟨_, gErrArg, tErrArg⟩
    · exact ⟨_, gErrType, tErrType⟩
    · exact ⟨_, gErrBig, tErrBig⟩
    · exact ⟨_, gErrFuel, tErrFuel⟩
    · exact ⟨_, gErrStopped, tErrStopped⟩
    · exact ⟨_, gErrNot, tErrNot⟩)
  have hlen : ys.length = 8 := h1
  have hget : ∀ k, k < 8 → ys[k]? = some ((ys[k]?).getD ⟨0, 0, none⟩) := fun k hk => by
    rw [List.getElem?_eq_getElem (by omega)]; rfl
  have hbl : ∀ k, k < 8 → ∃ c t, W.heap[((ys[k]?).getD ⟨0, 0, none⟩).block]? = some (.cells c t (0, 0)) := fun k hk =>
    (hrows _ _ (h3 _ (List.mem_of_getElem? (hget k hk)))).1
  have c0 : W.cell? ⟨2, 0, none⟩ = some (.iface 437 (.pointer (some ((ys[0]?).getD ⟨0, 0, none⟩)))) := by
    obtain ⟨a, ha, hva⟩ := h4 0 "typer/api.ErrLong" rfl
    rw [ha]
    simpa using World.var?_cell gErrLong hva 0
  have c1 : W.cell? ⟨3, 0, none⟩ = some (.iface 437 (.pointer (some ((ys[1]?).getD ⟨0, 0, none⟩)))) := by
    obtain ⟨a, ha, hva⟩ := h4 1 "typer/api.ErrDeep" rfl
    rw [ha]
    simpa using World.var?_cell gErrDeep hva 0
  have c2 : W.cell? ⟨4, 0, none⟩ = some (.iface 437 (.pointer (some ((ys[2]?).getD ⟨0, 0, none⟩)))) := by
    obtain ⟨a, ha, hva⟩ := h4 2 "typer/api.ErrArg" rfl
    rw [ha]
    simpa using World.var?_cell gErrArg hva 0
  have c3 : W.cell? ⟨5, 0, none⟩ = some (.iface 437 (.pointer (some ((ys[3]?).getD ⟨0, 0, none⟩)))) := by
    obtain ⟨a, ha, hva⟩ := h4 3 "typer/api.ErrType" rfl
    rw [ha]
    simpa using World.var?_cell gErrType hva 0
  have c4 : W.cell? ⟨6, 0, none⟩ = some (.iface 437 (.pointer (some ((ys[4]?).getD ⟨0, 0, none⟩)))) := by
    obtain ⟨a, ha, hva⟩ := h4 4 "typer/api.ErrBig" rfl
    rw [ha]
    simpa using World.var?_cell gErrBig hva 0
  have c5 : W.cell? ⟨7, 0, none⟩ = some (.iface 437 (.pointer (some ((ys[5]?).getD ⟨0, 0, none⟩)))) := by
    obtain ⟨a, ha, hva⟩ := h4 5 "typer/api.ErrFuel" rfl
    rw [ha]
    simpa using World.var?_cell gErrFuel hva 0
  have c6 : W.cell? ⟨8, 0, none⟩ = some (.iface 437 (.pointer (some ((ys[6]?).getD ⟨0, 0, none⟩)))) := by
    obtain ⟨a, ha, hva⟩ := h4 6 "typer/api.ErrStopped" rfl
    rw [ha]
    simpa using World.var?_cell gErrStopped hva 0
  have c7 : W.cell? ⟨9, 0, none⟩ = some (.iface 437 (.pointer (some ((ys[7]?).getD ⟨0, 0, none⟩)))) := by
    obtain ⟨a, ha, hva⟩ := h4 7 "typer/api.ErrNot" rfl
    rw [ha]
    simpa using World.var?_cell gErrNot hva 0
  refine ⟨fun k => (ys[k]?).getD ⟨0, 0, none⟩, fun k => blkC (W.heap[((ys[k]?).getD ⟨0, 0, none⟩).block]?), fun k => blkT (W.heap[((ys[k]?).getD ⟨0, 0, none⟩).block]?), c0, c1, c2, c3, c4, c5, c6, c7, hE, ?_, ?_, ?_⟩
  · intro k hk
    obtain ⟨c, t, hct⟩ := hbl k hk
    show W.heap[((ys[k]?).getD ⟨0, 0, none⟩).block]? = _
    rw [hct]
    rfl
  · intro i j hi hj hij e
    have e1 := hget i hi
    have e2 := hget j hj
    have e' : (ys[i]?).getD ⟨0, 0, none⟩ = (ys[j]?).getD ⟨0, 0, none⟩ := e
    rw [e'] at e1
    exact hij ((List.getElem?_inj (by omega) h2).1 (e1.trans e2.symm))
  · rcases Nat.lt_or_ge 10 W.heap.size with hlt | hge
    · exact hlt
    · simp [World.cell?, Array.getElem?_eq_none hge] at hE

theorem gKinds : Tryz.prog.globalNamed "typer/typerref.kinds" = some 1 := by kernel_rfl
theorem tKinds : (Tryz.prog.globals[1]?).map (·.type) = some 34 := by kernel_rfl

theorem of_kinds {W : World} {cs : Array Value} {fuel : Nat} {p : List MemPlace} (hv : W.var? Tryz.prog "typer/typerref.kinds" = some cs)
    (hd : DataW.trod (fun _ => ()) Tryz.prog W 0 (fun _ => true) false fuel 34 cs.toList = some (Rows.laid_typer_typerref_kinds, p)) :
    ∃ kb ko kc, W.cell? ⟨1, 0, none⟩ = some (.slice (some ⟨kb, ko, none⟩) tyKw.length kc) ∧ KwO W kb ko tyKw ∧ kb < W.heap.size := by
  rcases open_strings Tryz.underlying34 Tryz.underlying9 cellsS hd with ⟨_, hx⟩ | ⟨a, len, cap, ss, hcs, _, hl, _, hz, hx, hcell, _⟩
  · exact absurd (congrArg Prod.fst hx) (by simp [Rows.laid_typer_typerref_kinds])
  obtain ⟨l⟩ := cs
  have hcs' : l = [.slice (some a) len cap] := hcs
  subst hcs'
  have hc := World.var?_cell gKinds hv 0
  have e := congrArg Prod.fst hx
  simp only [Rows.laid_typer_typerref_kinds, DataW.slice.injEq, ChangeShapes.strs] at e
  obtain ⟨e1, e2⟩ := e
  have hlen : (ss.take len).length = 2 := by simpa using (congrArg List.length e1).symm
  have hss : ss = ss.take len := by
    have h0 : (ss.drop len).length = 0 := by simpa using (congrArg List.length e2).symm
    have := List.take_append_drop len ss
    rw [List.length_eq_zero_iff.1 h0, List.append_nil] at this
    exact this.symm
  have hb : ss = tyKw.map B := by
    rw [hss]
    have e3 : (ss.take len).map (fun s => s.data.toList) = tyKw := by
      have := congrArg (List.map (fun d : DataW Unit => match d with | .lit (.string b) => b | _ => [])) e1
      have hk : tyKw = [[105, 110, 116], [98, 111, 111, 108]] := rfl
      rw [hk]
      simpa [List.map_map, Function.comp_def] using this.symm
    rw [← e3, List.map_map]
    refine (List.map_id' _).symm.trans ?_
    refine List.map_congr_left fun s _ => ?_
    cases s
    simp [B]
  have hl8 : len = 2 := by
    have h1 : ss.length = 2 := by rw [hss]; exact hlen
    rw [List.length_take] at hlen
    have h2 : ss.length = cap := by simpa using hz
    omega
  have hsl : ss.length = 2 := by rw [hss]; exact hlen
  have h0 := hcell 0 (by omega)
  obtain ⟨kb, ko, sp⟩ := a
  have hsp : sp = none := by
    cases sp with
    | none => rfl
    | some s =>
      simp only [Addr.add, World.cell?] at h0
      exfalso
      revert h0
      simp only [if_true]
      split <;> simp
  subst hsp
  refine ⟨kb, ko, cap, ?_, ?_, ?_⟩
  · rw [hl8] at hc
    exact hc
  · intro j hj
    have := hcell j (by rw [hsl]; exact hj)
    rw [hb] at this
    have ha : (⟨kb, ko, none⟩ : Addr).add j = ⟨kb, ko + j, none⟩ := by by_cases h : j = 0 <;> simp [Addr.add, h]
    rw [ha] at this
    simpa [List.getD, List.getElem?_map, List.getElem?_eq_getElem hj] using this
  · rcases Nat.lt_or_ge kb W.heap.size with hlt | hge
    · exact hlt
    · simp [Addr.add, World.cell?, Array.getElem?_eq_none hge] at h0

theorem lt_cell {w : World} {b i : Nat} {v : Value} (h : w.cell? ⟨b, i, none⟩ = some v) : b < w.heap.size := by
  rcases Nat.lt_or_ge b w.heap.size with hl | hl
  · exact hl
  · simp [World.cell?, Array.getElem?_eq_none hl] at h
theorem of_laid {W : World} (h : laidMetH Tryz.prog Rows.instancesRow.laid W) : ∃ ad cs ts kb ko kc, SW W ad cs ts ∧ W.cell? ⟨1, 0, none⟩ = some (.slice (some ⟨kb, ko, none⟩) tyKw.length kc) ∧ KwO W kb ko tyKw ∧ kb < W.heap.size := by
  have h' : laidMet Tryz.prog (("typer/typerref.kinds", Rows.laid_typer_typerref_kinds) :: sentL.map sentD) W ∧ handlesMet Tryz.prog [("errors.errorType", Rows.laid_errors_errorType)] W := h
  obtain ⟨⟨ps, ⟨g, t, vs, fuel, p, q, hg, ht, hv, hd, hq, e0⟩, hnd, hrows⟩, hh⟩ := h'
  obtain rfl := Option.some.inj (gKinds.symm.trans hg)
  obtain rfl := Option.some.inj (tKinds.symm.trans ht)
  have hsub : q.Sublist ps := by rw [e0]; exact List.sublist_append_right _ _
  obtain ⟨ad, cs, ts, S⟩ := of_sents hq (List.Nodup.sublist hsub hnd) (fun b off hm => hrows b off (hsub.subset hm)) hh
  obtain ⟨kb, ko, kc, h1, h2, h3⟩ := of_kinds hv hd
  exact ⟨ad, cs, ts, kb, ko, kc, S, h1, h2, h3⟩

theorem law_any (s s2 : ByteArray) (W : World) (h : laidMetH Tryz.prog Rows.instancesRow.laid W) :
    Calls Tryz.prog 5 #[.string s, .string s2] W fun e w' => e = .returned (.bool true) ∧ Gn W w' := by
  obtain ⟨ad, cs, ts, kb, ko, kc, S, h1, h2, h3⟩ := of_laid h
  exact ins_any s s2 W ad cs ts S kb ko kc ⟨h1, lt_cell h1, h2, h3⟩

theorem door_met (os : Os) (args : Array Value) : laidMetH Tryz.prog Rows.instancesRow.laid ((World.doorLaid Tryz.prog 400 os).forCall (fun _ _ => 0) ⟨#[], args, []⟩).memory :=
  laidMetH_of_parts3 (fuel := 8) (laidMet_of_run' 8 (by kernel_rfl) (by kernel_rfl)) (by kernel_rfl) (by kernel_rfl)

set_option maxRecDepth 100000 in
theorem lifted (os : Os) (started : os.Started) (H : Type) (enc : TypeId × Value → H) :
    ReturnsInHanded {} Tryz.checked os 5 .any (fun w args => (Rows.instancesSpec.pre enc Tryz.prog Tryz.f5 [] false w args ∧ laidMetH Tryz.prog Rows.instancesRow.laid w) ∧ sizedMet enc Tryz.prog Tryz.f5 (OpenSpec.ofChange Rows.instancesSpec) false w args)
      (Rows.instancesSpec.post enc Tryz.prog Tryz.f5 false true false false) := by
  refine returnsInHanded_of_change_and (C := Tryz.checked) (X := fun w _ => laidMetH Tryz.prog Rows.instancesRow.laid w) (fun _ _ _ hh h => h.of_heap hh) own started (by kernel_rfl) Tryz.func5
    (ChangeSpec.witness_shaped (enc := enc) (C := Tryz.checked) (os := os) (X := fun w _ => laidMetH Tryz.prog Rows.instancesRow.laid w) false (World.doorLaid Tryz.prog 400 os) #[.string ⟨#[]⟩, .string ⟨#[]⟩] 8 rfl (World.shaped_of_RefB (by kernel_rfl) (by kernel_rfl)) (by kernel_rfl) (by kernel_rfl) (by kernel_rfl) (door_met os _)) ?_
  intro W base args ds gs before hval0 hW _ _ hL _
  have hW' := hW
  obtain ⟨p, q, hA0, hV, rfl, hfz, hnd⟩ := hW
  have hA : DataW.TrodAll enc Tryz.prog W 0 (fun _ => true) true Tryz.f5.params.toList args.toList ds p := hA0
  rw [Tryz.params5] at hA
  obtain ⟨v, v2, d, d2, p1, p2, rfl, rfl, rfl, hd, hd2⟩ := trodAll_two hA
  obtain ⟨rfl, rfl⟩ := trodVars_none hV
  obtain ⟨s, rfl, rfl, rfl, hz⟩ := open_string Tryz.underlying9 (hval0 0 _ _ (by rw [Tryz.params5]; rfl) rfl) hd
  obtain ⟨s2, rfl, rfl, rfl, hz2⟩ := open_string Tryz.underlying9 (hval0 1 _ _ (by rw [Tryz.params5]; rfl) rfl) hd2
  refine (law_any s s2 W hL).mono fun e W' ⟨he, hw⟩ => ?_
  subst he
  have e1 : Rows.instancesSpec.fn H ([.lit (.string s.data.toList), .lit (.string s2.data.toList)] ++ []) = { results := [.lit (.bool true)], args := [.lit (.string s.data.toList), .lit (.string s2.data.toList)] } := by simp [Rows.instancesSpec]
  refine ⟨_, rfl, _, _, _, [], [], [], hW', ?_, ?_, ?_, hw.frame _, fun h => by cases h⟩
  · rw [e1]; exact trodAll_mk1 (shut_bool Tryz.underlying4 true)
  · rw [e1, Tryz.params5]; exact trodAll_mk2 (shut_string Tryz.underlying9 hz) (shut_string Tryz.underlying9 hz2)
  · rw [e1]; rfl

theorem band {a b : Bool} (x : a = true) (y : b = true) : (a && b) = true := by rw [x, y]; rfl
theorem row_k1 : (Rows.instancesRow.wf (OpenSpec.ofChange Rows.instancesSpec)) = true := by kernel_rfl
theorem row_k2 : (laidOutB Tryz.prog) = true := by kernel_rfl
theorem row_k3 : (mapsRowed Tryz.prog) = true := by kernel_rfl
theorem row_k4 : (Tryz.f5.params.all (Tryz.prog.readableRec ·)) = true := by kernel_rfl
theorem row_k5 : (namedTie Tryz.prog Rows.instancesRow.named Rows.instancesSpec.vars) = true := by kernel_rfl
theorem row_k6 : ((Rows.instancesRow.stops == [])) = true := by kernel_rfl
theorem row_k7 : ((Tryz.prog.stops == [])) = true := by kernel_rfl
theorem row_k8 : ((Rows.instancesRow.knobs == [])) = true := by kernel_rfl
theorem row_k9 : ((Tryz.prog.stopKnobs == [])) = true := by kernel_rfl
theorem row_k10 : ((Rows.instancesRow.inPlace == Tryz.prog.inPlace 5)) = true := by kernel_rfl
theorem row_k11 : ((Rows.instancesRow.unfollowed == Tryz.prog.unfollowed 5)) = true := by kernel_rfl
theorem row_k12 : ((Rows.instancesRow.recurses == Tryz.prog.recurses 5)) = true := by kernel_rfl
theorem row_k13 : ((Rows.instancesRow.named == Tryz.prog.varsNamed 5)) = true := by kernel_rfl
theorem row_k14 : ((Rows.instancesRow.maps == (Tryz.f5.params.toList ++ Rows.instancesSpec.plain.varTypes Tryz.prog).any (Tryz.prog.mapsRec ·))) = true := by kernel_rfl
theorem row_k15 : ((Rows.instancesRow.ifaces == (Tryz.f5.params.toList ++ Rows.instancesSpec.plain.varTypes Tryz.prog).any (Tryz.prog.ifacesRec ·))) = true := by kernel_rfl
theorem row_k16 : ((Rows.instancesRow.mapsOut == Tryz.prog.mapsAmong Tryz.f5.resultTypes.toList)) = true := by kernel_rfl
theorem row_k17 : ((Rows.instancesRow.loops == (Tryz.f5.params.toList ++ Rows.instancesSpec.plain.varTypes Tryz.prog).any (Tryz.prog.loopsFrom ·))) = true := by kernel_rfl
theorem row_k18 : ((Rows.instancesRow.wideKeys == (Tryz.f5.params.toList ++ Rows.instancesSpec.plain.varTypes Tryz.prog ++ Tryz.f5.resultTypes.toList).any (Tryz.prog.wideKeysFrom ·))) = true := by kernel_rfl
theorem row_k19 : (Rows.instancesSpec.vars.all (Tryz.prog.varReadable ·)) = true := by kernel_rfl
theorem row_k20 : (Tryz.f5.resultTypes.all (fun t => Tryz.prog.readableRec t && decide (t < Tryz.prog.types.size))) = true := by kernel_rfl
theorem row_k21 : ((Rows.instancesRow.ifacesOut == Tryz.f5.resultTypes.toList.any (Tryz.prog.ifacesRec ·))) = true := by kernel_rfl
theorem row_k22 : ((Rows.instancesRow.loopsOut == Tryz.f5.resultTypes.toList.any (Tryz.prog.loopsFrom ·))) = true := by kernel_rfl
theorem row_k23 : ((Rows.instancesRow.plainKeys == Tryz.prog.plainKeys)) = true := by kernel_rfl
theorem row_k24 : (Rows.instancesRow.shortTexts.isNone) = true := by kernel_rfl
theorem row_k25 : (Tryz.prog.stopsHeard) = true := by kernel_rfl
theorem row_k26 : (Tryz.prog.mayEnter) = true := by kernel_rfl
theorem row_k27 : ((Rows.instancesRow.lifted == Tryz.prog.liftsFinal)) = true := by kernel_rfl
theorem row_k28 : ((Tryz.prog.make == some Rows.instancesRow.make)) = true := by kernel_rfl
theorem row_k30 : ((Rows.instancesRow.pinned == Rows.instancesRow.pinnedBy)) = true := by kernel_rfl
theorem row_k31 : ((Rows.instancesRow.veiled == (Tryz.f5.params.toList ++ Rows.instancesSpec.plain.varTypes Tryz.prog ++ Tryz.f5.resultTypes.toList).any (Tryz.prog.veiledRec ·))) = true := by kernel_rfl
theorem row_k32 : (Rows.instancesRow.veiledFits Tryz.prog Tryz.f5.params.toList (Tryz.f5.params.toList ++ Rows.instancesSpec.plain.varTypes Tryz.prog ++ Tryz.f5.resultTypes.toList)) = true := by kernel_rfl
theorem row_closed : joinedFacts Tryz.prog 5 Tryz.f5 Rows.instancesSpec Rows.instancesRow = true := by
  unfold joinedFacts
  refine band ?_ row_k32
  refine band ?_ row_k31
  refine band ?_ row_k30
  refine band ?_ (by kernel_rfl)
  refine band ?_ row_k28
  refine band ?_ row_k27
  refine band ?_ row_k26
  refine band ?_ row_k25
  refine band ?_ row_k24
  refine band ?_ row_k23
  refine band ?_ row_k22
  refine band ?_ row_k21
  refine band ?_ row_k20
  refine band ?_ row_k19
  refine band ?_ row_k18
  refine band ?_ row_k17
  refine band ?_ row_k16
  refine band ?_ row_k15
  refine band ?_ row_k14
  refine band ?_ row_k13
  refine band ?_ row_k12
  refine band ?_ row_k11
  refine band ?_ row_k10
  refine band ?_ row_k9
  refine band ?_ row_k8
  refine band ?_ row_k7
  refine band ?_ row_k6
  refine band ?_ row_k5
  refine band ?_ row_k4
  refine band ?_ row_k3
  refine band ?_ row_k2
  exact row_k1
theorem row_fn : Tryz.prog.funcNamed Rows.instancesRow.func = some 5 := by kernel_rfl
theorem row_inst : Tryz.f5.isInstance Tryz.prog Rows.instancesRow.origin Rows.instancesRow.targs := of_decide_eq_true (by kernel_rfl)
theorem row_wrap : Tryz.f5.isWrapper Tryz.prog Rows.instancesRow.wrapper Rows.instancesRow.mainSum := by unfold Func.isWrapper; rw [if_neg (of_decide_eq_false (by kernel_rfl))]; exact ⟨rfl, rfl⟩
theorem instances_row_holds : Rows.InstancesSaid :=
  OpenClaim.holds_of_wide 5 Tryz.f5 rfl rfl rfl rfl rfl rfl rfl ⟨rfl, rfl, rfl, rfl, rfl⟩ rfl rfl rfl rfl rfl row_fn Tryz.func5 row_closed row_inst row_wrap
    (fun os started H enc _ => lifted os started H enc)
end Go.Proofs.YtcdijppegfcoaaaGreatDoor

/-
  OUR OWN TEXT. typerlaw.Instances: the tied card.
-/
namespace Go.Proofs.YtcdijppegfcoaaaGreatDoor
open Go

theorem instances_card_holds : Rows.InstancesCardSaid :=
  Claim7.holds_tied_plain_at .later [] [.widerDeep, .handle, .sentinel, .sentinel, .sentinel, .sentinel, .sentinel, .sentinel, .sentinel, .sentinel] true (true, "767d7f178e16914fec4fe727b39f4964491d678873329642626cce31abd67fc1") true
    instances_row_holds (fun _ h => by cases h) (by kernel_rfl) (fun _ h => by cases h) instances_row_tie rfl ⟨rfl, rfl⟩ (by kernel_rfl) rfl
    (fun f fn hf hfn => by
      obtain rfl : f = 5 := Option.some.inj ((show Tryz.prog.funcNamed "typer/typerlaw.Instances" = some 5 by kernel_rfl).symm.trans hf) |>.symm
      obtain rfl : fn = Tryz.f5 := (Option.some.inj (Tryz.func5.symm.trans hfn)).symm
      exact ⟨by kernel_rfl, fun j t ht => by
        rw [Tryz.params5] at ht
        cases j with
        | zero => simp at ht; subst ht; kernel_rfl
        | succ j => cases j with
          | zero => simp at ht; subst ht; kernel_rfl
          | succ j => simp at ht⟩)
    (by kernel_rfl)
#print axioms instances_card_holds
end Go.Proofs.YtcdijppegfcoaaaGreatDoor
