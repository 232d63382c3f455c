/-
  OUR OWN TEXT. typerlaw.Names: the row, and the card.
-/
import Derived.Test.YtcdijppegfcoaaaDoorRows
import Derived.Test.YtcdijppegfcoaaaDoorTie
import Derived.Test.YtcdijppegfcoaaaDoorCards
import Derived.Test.YtcdijppegfcoaaaDoorNamesLaw
import Derived.Test.YtcdijppegfcoaaaDoorSents
import Derived.ProofKit
import Derived.LaidMore
import Derived.OpenShut
import Derived.Stop.Joined
import Derived.SevenTiedAt
namespace Go.Proofs.YtcdijppegfcoaaaDoor
open Go.ChangeShapes Go.WideShapes Go.ChangeAt Go.WideMaps Go.WideElems Go.RowKit

theorem own : ownKnob Tryd.prog.godebug = none := by kernel_rfl
theorem gErrorType : Tryd.prog.globalNamed "errors.errorType" = some 8 := by kernel_rfl
theorem rtIs : (Tryd.prog.cutTypes.find? (·.1 == "internal/reflectlite.rtype")).map (·.2) = some 54 := by kernel_rfl
theorem typesSize : Tryd.prog.types.size = 102 := by kernel_rfl
theorem oneRow : ((List.range 102).filter fun t => Tryd.prog.rowNamed t [101, 114, 114, 111, 114]) = [28] := by kernel_rfl
theorem star : "*" ++ "errors.errorString" = "*errors.errorString" := by decide
theorem errRow1 (u : TypeId) (h : Tryd.prog.typeName? 3 u = some "*errors.errorString") : u = 68 :=
  typeName_ptr_named (nm := "errors.errorString") (by rw [star]; kernel_rfl) (by kernel_rfl) (by decide) u (by rw [star]; exact h)
theorem cellsE : Tryd.prog.cellsOf 90 = 1 := by kernel_rfl
theorem cellsS : Tryd.prog.cellsOf 9 = 1 := by kernel_rfl
theorem gErrLong : Tryd.prog.globalNamed "typer/api.ErrLong" = some 0 := by kernel_rfl
theorem tErrLong : (Tryd.prog.globals[0]?).map (·.type) = some 28 := by kernel_rfl
theorem gErrDeep : Tryd.prog.globalNamed "typer/api.ErrDeep" = some 1 := by kernel_rfl
theorem tErrDeep : (Tryd.prog.globals[1]?).map (·.type) = some 28 := by kernel_rfl
theorem gErrArg : Tryd.prog.globalNamed "typer/api.ErrArg" = some 2 := by kernel_rfl
theorem tErrArg : (Tryd.prog.globals[2]?).map (·.type) = some 28 := by kernel_rfl
theorem gErrType : Tryd.prog.globalNamed "typer/api.ErrType" = some 3 := by kernel_rfl
theorem tErrType : (Tryd.prog.globals[3]?).map (·.type) = some 28 := by kernel_rfl
theorem gErrBig : Tryd.prog.globalNamed "typer/api.ErrBig" = some 4 := by kernel_rfl
theorem tErrBig : (Tryd.prog.globals[4]?).map (·.type) = some 28 := by kernel_rfl
theorem gErrFuel : Tryd.prog.globalNamed "typer/api.ErrFuel" = some 5 := by kernel_rfl
theorem tErrFuel : (Tryd.prog.globals[5]?).map (·.type) = some 28 := by kernel_rfl
theorem gErrStopped : Tryd.prog.globalNamed "typer/api.ErrStopped" = some 6 := by kernel_rfl
theorem tErrStopped : (Tryd.prog.globals[6]?).map (·.type) = some 28 := by kernel_rfl
theorem gErrNot : Tryd.prog.globalNamed "typer/api.ErrNot" = some 7 := by kernel_rfl
theorem tErrNot : (Tryd.prog.globals[7]?).map (·.type) = some 28 := by kernel_rfl

def sentL : List (String × List UInt8) := [("typer/api.ErrLong", [116, 111, 111, 32, 108, 111, 110, 103]), ("typer/api.ErrDeep", [116, 111, 111, 32, 109, 97, 110, 121, 32, 112, 97, 114, 116, 115, 32, 119, 105, 116, 104, 105, 110, 32, 101, 97, 99, 104, 32, 111, 116, 104, 101, 114]), ("typer/api.ErrArg", [97, 32, 110, 117, 109, 98, 101, 114, 32, 111, 102, 32, 114, 111, 117, 110, 100, 115, 32, 116, 104, 97, 116, 32, 105, 115, 32, 110, 111, 110, 101]), ("typer/api.ErrType", [105, 116, 32, 104, 97, 115, 32, 110, 111, 32, 116, 121, 112, 101]), ("typer/api.ErrBig", [97, 32, 116, 121, 112, 101, 32, 116, 104, 97, 116, 32, 105, 115, 32, 116, 111, 111, 32, 98, 105, 103]), ("typer/api.ErrFuel", [109, 111, 114, 101, 32, 114, 111, 117, 110, 100, 115, 32, 97, 114, 101, 32, 110, 101, 101, 100, 101, 100]), ("typer/api.ErrStopped", [115, 116, 111, 112, 112, 101, 100]), ("typer/api.ErrNot", [105, 116, 32, 105, 115, 32, 110, 111, 32, 105, 110, 115, 116, 97, 110, 99, 101])]
def blkC : Option Obj → Array Value | some (.cells c _ _) => c | _ => #[]
def blkT : Option Obj → TypeId | some (.cells _ t _) => t | _ => 0

theorem handle_cell {W : World} (h : handlesMet Tryd.prog [("errors.errorType", Rows.laid_errors_errorType)] W) : W.cell? ⟨8, 0, none⟩ = some (.iface 54 (.agg #[.pointer (some ⟨9, 28, none⟩)])) := by
  obtain ⟨name, u, ty, e1, e2, e3, e4, e5⟩ := h _ (List.mem_singleton.2 rfl)
  have en : name = [101, 114, 114, 111, 114] := (Option.some.inj e1).symm
  subst en
  obtain rfl := Option.some.inj (rtIs.symm.trans e2)
  have hm : ty ∈ (List.range 102).filter fun t => Tryd.prog.rowNamed t [101, 114, 114, 111, 114] := List.mem_filter.2 ⟨List.mem_range.2 (by rw [← typesSize]; exact e3), e4⟩
  rw [oneRow] at hm
  obtain rfl := List.mem_singleton.1 hm
  have hh : typeHandle Tryd.prog 28 = .pointer (some ⟨9, 28, none⟩) := by kernel_rfl
  rw [hh] at e5
  simpa using World.var?_cell gErrorType e5 0

theorem of_laid {W : World} (h : laidMetH Tryd.prog Rows.namesRow.laid W) : ∃ ad cs ts, Sentinels W ad cs ts := by
  have h' : laidMet Tryd.prog (sentL.map sentD) W ∧ handlesMet Tryd.prog [("errors.errorType", Rows.laid_errors_errorType)] W := h
  obtain ⟨⟨ps, hv, hnd, hrows⟩, hh⟩ := h'
  have hE := handle_cell hh
  obtain ⟨ys, h1, h2, h3, h4⟩ := sents Tryd.underlying28 errRow1 Tryd.underlying68 Tryd.underlying90 rfl rfl Tryd.underlying9 cellsE cellsS sentL ps hv hnd hrows (by
    intro x hx
    simp only [sentL, List.mem_cons, List.not_mem_nil, or_false] at hx
    rcases hx with rfl | rfl | rfl | rfl | rfl | rfl | rfl | rfl
    · exact ⟨_, gErrLong, tErrLong⟩
    · exact ⟨_, gErrDeep, tErrDeep⟩
    · exact ⟨_, gErrArg, tErrArg⟩
    · exact ⟨_, gErrType, tErrType⟩
    · exact ⟨_, gErrBig, tErrBig⟩
    · exact ⟨_, gErrFuel, tErrFuel⟩
    · exact ⟨_, gErrStopped, tErrStopped⟩
    · exact ⟨_, gErrNot, tErrNot⟩)
  have hlen : ys.length = 8 := h1
  have hget : ∀ k, k < 8 → ys[k]? = some ((ys[k]?).getD ⟨0, 0, none⟩) := fun k hk => by
    rw [List.getElem?_eq_getElem (by omega)]; rfl
  have hbl : ∀ k, k < 8 → ∃ c t, W.heap[((ys[k]?).getD ⟨0, 0, none⟩).block]? = some (.cells c t (0, 0)) := fun k hk =>
    (hrows _ _ (h3 _ (List.mem_of_getElem? (hget k hk)))).1
  have c0 : W.cell? ⟨0, 0, none⟩ = some (.iface 68 (.pointer (some ((ys[0]?).getD ⟨0, 0, none⟩)))) := by
    obtain ⟨a, ha, hva⟩ := h4 0 "typer/api.ErrLong" rfl
    rw [ha]
    simpa using World.var?_cell gErrLong hva 0
  have c1 : W.cell? ⟨1, 0, none⟩ = some (.iface 68 (.pointer (some ((ys[1]?).getD ⟨0, 0, none⟩)))) := by
    obtain ⟨a, ha, hva⟩ := h4 1 "typer/api.ErrDeep" rfl
    rw [ha]
    simpa using World.var?_cell gErrDeep hva 0
  have c2 : W.cell? ⟨2, 0, none⟩ = some (.iface 68 (.pointer (some ((ys[2]?).getD ⟨0, 0, none⟩)))) := by
    obtain ⟨a, ha, hva⟩ := h4 2 "typer/api.ErrArg" rfl
    rw [ha]
    simpa using World.var?_cell gErrArg hva 0
  have c3 : W.cell? ⟨3, 0, none⟩ = some (.iface 68 (.pointer (some ((ys[3]?).getD ⟨0, 0, none⟩)))) := by
    obtain ⟨a, ha, hva⟩ := h4 3 "typer/api.ErrType" rfl
    rw [ha]
    simpa using World.var?_cell gErrType hva 0
  have c4 : W.cell? ⟨4, 0, none⟩ = some (.iface 68 (.pointer (some ((ys[4]?).getD ⟨0, 0, none⟩)))) := by
    obtain ⟨a, ha, hva⟩ := h4 4 "typer/api.ErrBig" rfl
    rw [ha]
    simpa using World.var?_cell gErrBig hva 0
  have c5 : W.cell? ⟨5, 0, none⟩ = some (.iface 68 (.pointer (some ((ys[5]?).getD ⟨0, 0, none⟩)))) := by
    obtain ⟨a, ha, hva⟩ := h4 5 "typer/api.ErrFuel" rfl
    rw [ha]
    simpa using World.var?_cell gErrFuel hva 0
  have c6 : W.cell? ⟨6, 0, none⟩ = some (.iface 68 (.pointer (some ((ys[6]?).getD ⟨0, 0, none⟩)))) := by
    obtain ⟨a, ha, hva⟩ := h4 6 "typer/api.ErrStopped" rfl
    rw [ha]
    simpa using World.var?_cell gErrStopped hva 0
  have c7 : W.cell? ⟨7, 0, none⟩ = some (.iface 68 (.pointer (some ((ys[7]?).getD ⟨0, 0, none⟩)))) := by
    obtain ⟨a, ha, hva⟩ := h4 7 "typer/api.ErrNot" rfl
    rw [ha]
    simpa using World.var?_cell gErrNot hva 0
  refine ⟨fun k => (ys[k]?).getD ⟨0, 0, none⟩, fun k => blkC (W.heap[((ys[k]?).getD ⟨0, 0, none⟩).block]?), fun k => blkT (W.heap[((ys[k]?).getD ⟨0, 0, none⟩).block]?), c0, c1, c2, c3, c4, c5, c6, c7, hE, ?_, ?_, ?_⟩
  · intro k hk
    obtain ⟨c, t, hct⟩ := hbl k hk
    show W.heap[((ys[k]?).getD ⟨0, 0, none⟩).block]? = _
    rw [hct]
    rfl
  · intro i j hi hj hij e
    have e1 := hget i hi
    have e2 := hget j hj
    have e' : (ys[i]?).getD ⟨0, 0, none⟩ = (ys[j]?).getD ⟨0, 0, none⟩ := e
    rw [e'] at e1
    exact hij ((List.getElem?_inj (by omega) h2).1 (e1.trans e2.symm))
  · rcases Nat.lt_or_ge 8 W.heap.size with hlt | hge
    · exact hlt
    · simp [World.cell?, Array.getElem?_eq_none hge] at hE

theorem door_met (os : Os) (args : Array Value) : laidMetH Tryd.prog Rows.namesRow.laid ((World.doorLaid Tryd.prog 400 os).forCall (fun _ _ => 0) ⟨#[], args, []⟩).memory :=
  laidMetH_of_parts3 (fuel := 8) (laidMet_of_run' 8 (by kernel_rfl) (by kernel_rfl)) (by kernel_rfl) (by kernel_rfl)

set_option maxRecDepth 100000 in
theorem lifted (os : Os) (started : os.Started) (H : Type) (enc : TypeId × Value → H) :
    ReturnsInHanded {} Tryd.checked os 3 .any (fun w args => (Rows.namesSpec.pre enc Tryd.prog Tryd.f3 [] false w args ∧ laidMetH Tryd.prog Rows.namesRow.laid w) ∧ sizedMet enc Tryd.prog Tryd.f3 (OpenSpec.ofChange Rows.namesSpec) false w args)
      (Rows.namesSpec.post enc Tryd.prog Tryd.f3 false true false false) := by
  refine returnsInHanded_of_change_and (C := Tryd.checked) (X := fun w _ => laidMetH Tryd.prog Rows.namesRow.laid w) (fun _ _ _ hh h => h.of_heap hh) own started (by kernel_rfl) Tryd.func3
    (ChangeSpec.witness_shaped (enc := enc) (C := Tryd.checked) (os := os) (X := fun w _ => laidMetH Tryd.prog Rows.namesRow.laid w) false (World.doorLaid Tryd.prog 400 os) #[] 8 rfl (World.shaped_of_RefB (by kernel_rfl) (by kernel_rfl)) (by kernel_rfl) (by kernel_rfl) (by kernel_rfl) (door_met os _)) ?_
  intro W base args ds gs before hval0 hW _ _ hL _
  have hW' := hW
  obtain ⟨p, q, hA0, hV, rfl, hfz, hnd⟩ := hW
  have hA : DataW.TrodAll enc Tryd.prog W 0 (fun _ => true) true Tryd.f3.params.toList args.toList ds p := hA0
  rw [Tryd.params3] at hA
  obtain ⟨rfl, rfl, rfl⟩ := trodAll_none hA
  obtain ⟨rfl, rfl⟩ := trodVars_none hV
  obtain ⟨ad, cs, ts, S⟩ := of_laid hL
  refine (law_any W ad cs ts S).mono fun e W' ⟨he, hw⟩ => ?_
  subst he
  have e1 : Rows.namesSpec.fn H ([] ++ []) = { results := [.lit (.bool true)], args := [] } := by simp [Rows.namesSpec]
  refine ⟨_, rfl, _, _, _, [], [], [], hW', ?_, ?_, ?_, hw.frame _, fun h => by cases h⟩
  · rw [e1]; exact trodAll_mk1 (shut_bool Tryd.underlying4 true)
  · rw [e1]; exact trodAll_mk0
  · rw [e1]; rfl

theorem names_row_holds : Rows.NamesSaid :=
  OpenClaim.holds_of_wide 3 Tryd.f3 rfl rfl rfl rfl rfl rfl rfl ⟨rfl, rfl, rfl, rfl, rfl⟩ rfl rfl rfl rfl rfl (by kernel_rfl) Tryd.func3 (by kernel_rfl)
    (of_decide_eq_true (by kernel_rfl)) (by unfold Func.isWrapper; rw [if_neg (of_decide_eq_false (by kernel_rfl))]; exact ⟨rfl, rfl⟩)
    (fun os started H enc _ => lifted os started H enc)
end Go.Proofs.YtcdijppegfcoaaaDoor
