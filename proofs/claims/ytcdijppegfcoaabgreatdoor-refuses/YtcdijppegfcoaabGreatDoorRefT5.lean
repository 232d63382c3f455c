/-
  OUR OWN TEXT. typerref.Text, whole.
-/
import Derived.Test.YtcdijppegfcoaabGreatDoorRefT4
namespace Go.Proofs.YtcdijppegfcoaabGreatDoor
open Go.RowKit

def nth (l : List (List UInt8)) (j : Nat) : List UInt8 := (l[j]?).getD []
/-- The text of an expression. -/
def exText : Nat → Ex → List UInt8
  | 0, _ => []
  | m + 1, x =>
    let k := fun j => match x.kids[j]? with | some y => exText m y | none => []
    let o := fun j => match x.kids[j]? with | some y => y.op | none => []
    if x.op = kName ∨ x.op = kNum then nth x.names 0
    else if x.op = kFun then tFun ++ nth x.names 0 ++ tArrow ++ k 0
    else if x.op = oPair then tOpen ++ k 0 ++ tComma ++ k 1 ++ tShut
    else if x.op = kIf then tIf ++ k 0 ++ tThen ++ k 1 ++ tElse ++ k 2
    else if x.op = oApp then inBr (brF (o 0)) (k 0) ++ tSp ++ inBr (brA (o 1)) (k 1)
    else letHead x.op ++ bindTo (nth x.names) k x.names.length ++ tIn ++ k x.names.length
/-- It has the parts that its kind has. -/
def Shape : Nat → Ex → Prop
  | 0, _ => False
  | m + 1, x => (((x.op = kName ∨ x.op = kNum) ∧ x.names.length = 1) ∨ (x.op = kFun ∧ x.names.length = 1 ∧ x.kids.length = 1) ∨ (x.op = oPair ∧ x.kids.length = 2) ∨ (x.op = kIf ∧ x.kids.length = 3) ∨ (x.op = oApp ∧ x.kids.length = 2) ∨
      ((x.op = kLet ∨ x.op = kRec) ∧ 0 < x.names.length ∧ x.kids.length = x.names.length + 1)) ∧ ∀ y, y ∈ x.kids → Shape m y
theorem bindTo_n (nm ts : Nat → List UInt8) (j : Nat) : j ≤ (bindTo nm ts j).length := by
  induction j with
  | zero => exact Nat.zero_le _
  | succ j ih => have := bindTo_step nm ts j; omega
theorem inBr_ge (b : Bool) (t : List UInt8) : t.length ≤ (inBr b t).length := by
  unfold inBr
  split
  · simp [tOpen, tShut]; omega
  · exact Nat.le_refl _
theorem Fz.drawn {H : Nat → Option Obj} {w : World} (h : Fz H w) (n : Nat) : Fz H (w.drewN n) := fun k o e => by
  have := h k o e
  simpa using this

theorem XRep.op {m : Nat} {H : Nat → Option Obj} {b : Nat} {x : Ex} {w : World} (h : XRep m H b x) (hz : Fz H w) : w.cell? ⟨b, 0, none⟩ = some (.string (B x.op)) := by
  cases m with
  | zero => exact absurd h id
  | succ m =>
    obtain ⟨ns, ks, bs, h1, _⟩ := h
    have hb := hz _ _ h1
    simp [World.cell?, hb]
/-- The kid at a place. -/
theorem kid_at {m : Nat} {H : Nat → Option Obj} {x : Ex} {bs : List Nat} (h4 : bs.length = x.kids.length) (h5 : ∀ (i : Nat) (y : Ex) (c : Nat), bs[i]? = some c → x.kids[i]? = some y → XRep m H c y) (j : Nat) (hj : j < x.kids.length) :
    ∃ c y, bs[j]? = some c ∧ x.kids[j]? = some y ∧ XRep m H c y ∧ y ∈ x.kids := by
  have e1 : bs[j]? = some (bs[j]'(by omega)) := List.getElem?_eq_getElem _
  have e2 : x.kids[j]? = some (x.kids[j]) := List.getElem?_eq_getElem _
  exact ⟨_, _, e1, e2, h5 j _ _ e1 e2, List.mem_of_getElem? e2⟩

end Go.Proofs.YtcdijppegfcoaabGreatDoor
