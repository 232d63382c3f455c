import Derived.Test.YtcdijppegfcoaaaGreatDoorZT41
import Derived.Test.YtcdijppegfcoaaaGreatDoorIterJ
import Derived.Deep.LoopGhost
import Derived.Test.YtcdijppegfcoaaaGreatDoorZT22
import Derived.Test.YtcdijppegfcoaaaGreatDoorZT06
import Derived.Test.YtcdijppegfcoaaaGreatDoorZT14
import Derived.Outline
/-
  OUR OWN TEXT. plain.Instance where something is wrong.
-/
namespace Go.Proofs.YtcdijppegfcoaaaGreatDoor
open Go.RowKit
theorem map_nil (w : World) : (binOp .eql 93 (.map none) (.map none)).run Tryz.prog w = .ok (.bool true) w := by kernel_rfl
theorem map_some (b : Nat) (w : World) : (binOp .eql 93 (.map (some b)) (.map none)).run Tryz.prog w = .ok (.bool false) w := by kernel_rfl
theorem keys_c (mb : Option Nat) (W : World) : Calls Tryz.prog 49 #[.map mb] W fun e w' => e = .returned (.func (.func 87) #[] #[.pointer (some ⟨W.heap.size, 0, none⟩)]) ∧ w' = W.alloc (.cells #[.map mb] 93) :=
  callsIn_wide.1 (Tryz.maps_Keys_49 mb W)
end Go.Proofs.YtcdijppegfcoaaaGreatDoor

/-
  OUR OWN TEXT. plain.Instance of two types that fit.
-/
namespace Go.Proofs.YtcdijppegfcoaaaGreatDoor
open Go.RowKit Go.Maps Go.Sort
/-- The names, rising. -/
def sortS (na : List (List UInt8)) : List (List UInt8) := na.mergeSort (fun x y => decide (x ≤ y))
theorem FM.perm {w : World} {mb : Nat} {ns : List (List UInt8)} {g : List (Option (List UInt8))} (h : FM w mb ns g) (hd : ns.Nodup) (hall : ∀ v, v < ns.length → (g.getD v none).isSome = true) :
    ∃ D : DataW Unit, ∃ n, w.ownsMap Tryz.prog 9 tyR mb n D ∧ ns.Perm (strKeys D) ∧ Maps.size D ≤ g.length := by
  obtain ⟨D, h1, h2, h3, h4, h5⟩ := h
  refine ⟨D, _, h1, ?_, by rw [h2]; exact List.length_filter_le _ _⟩
  have td := h1.tidy keyLaw
  obtain ⟨es, rfl, hp⟩ := td
  refine perm_strKeys hp (fun p hp' => ?_) hd fun x => ?_
  · have : Maps.has (.map es) p.1 = true := by
      rw [has_eq, List.any_eq_true]
      refine ⟨p, hp', ?_⟩
      obtain ⟨es', e', hk⟩ := h1.keysOf
      cases e'
      obtain ⟨key, hkey⟩ := hk p hp'
      obtain ⟨y, _, hy, _⟩ := Maps.keyOf_str Tryz.underlying9 hkey
      rw [hy]
      simp [Lit.sameKey]
    obtain ⟨v, _, hv⟩ := h5 _ this
    exact ⟨_, hv⟩
  · constructor
    · intro hx
      have hi := List.idxOf_lt_length_of_mem hx
      have e : ns.getD (ns.idxOf x) [] = x := by simp [List.getD, List.getElem?_eq_getElem hi]
      have := h3 (ns.idxOf x) hi
      rw [e, hall _ hi] at this
      exact this
    · intro hx
      obtain ⟨v, hv, e⟩ := h5 _ hx
      have e2 : x = ns.getD v [] := by simpa using e
      rw [e2]
      exact getD_mem hv
theorem sorted_some (W : World) (mb : Nat) (ns : List (List UInt8)) (g : List (Option (List UInt8))) (h : FM W mb ns g) (hd : ns.Nodup) (hall : ∀ v, v < ns.length → (g.getD v none).isSome = true) (hgl : g.length ≤ 1000) :
    Calls Tryz.prog 48 #[.func (.func 87) #[] #[.pointer (some ⟨W.heap.size, 0, none⟩)]] (W.alloc (.cells #[.map (some mb)] 93)) fun e w' => ∃ v, e = .returned v ∧
      w'.ownsRow (W.alloc (.cells #[.map (some mb)] 93)).heap.size 9 1 v (sortS ns).length (strs (sortS ns)) ∧ (W.alloc (.cells #[.map (some mb)] 93)).grownBy w' none := by
  obtain ⟨D, n, h1, h2, h3⟩ := h.perm hd hall
  refine (callsIn_wide.1 (Tryz.slices_Sorted_keys_48_49 mb n D tyR W h1 (by unfold maxLen; omega) (by omega))).mono ?_
  rintro e w' ⟨v, ss, rfl, hp, hrow, _, hb⟩
  have e1 : ss.mergeSort (fun x y => decide (x ≤ y)) = sortS ns := mergeSort_of_perm (hp.trans h2.symm)
  have e2 : ss.length = (sortS ns).length := by rw [← e1, List.length_mergeSort]
  have e3 : (sortS ns).map encStr = strs (sortS ns) := by
    unfold strs
    refine List.map_congr_left fun x _ => ?_
    rfl
  rw [e1, e2, e3] at hrow
  exact ⟨v, rfl, hrow, hb.os, hb.tape, hb.output, hb.size, fun k hk _ => hb.block k hk⟩
end Go.Proofs.YtcdijppegfcoaaaGreatDoor

/-
  OUR OWN TEXT. plain.Instance of two types that fit: the walk.
-/
namespace Go.Proofs.YtcdijppegfcoaaaGreatDoor
open Go.RowKit
theorem FM.same {w w' : World} {mb : Nat} {ns : List (List UInt8)} {g : List (Option (List UInt8))} (h : FM w mb ns g) (e : w'.heap[mb]? = w.heap[mb]?) : FM w' mb ns g := by
  obtain ⟨D, ⟨es, clock, hb, h1⟩, h2⟩ := h
  exact ⟨D, ⟨es, clock, e.trans hb, h1⟩, h2⟩
theorem typed_field (s : ByteArray) (w : World) : (Instr.field 101 (.agg #[.string s]) 0).run Tryz.prog w = .ok (.string s) w := by kernel_rfl
end Go.Proofs.YtcdijppegfcoaaaGreatDoor
