/-
  OUR OWN TEXT. The program's reader: is the next token a name of the group?
-/
import Derived.Test.YtfangljlgfcdpaaGreatDoorPAppl
namespace Go.Proofs.YtfangljlgfcdpaaGreatDoor
open Go.RowKit

theorem str_beq (a b : List UInt8) : ((B a).toList == (B b).toList) = (a == b) := by rw [toList_B, toList_B]
theorem grown_drew {w w' : World} {r : Option Nat} (h : w.grownBy w' r) : w.grownBy w'.drew r := ⟨h.os, h.tape, h.output, h.size, h.block⟩

set_option maxRecDepth 100000 in
theorem nofClosure (nm tt : List UInt8) (u : Value) (bx rb : Nat) (w : World) (hbx : w.cell? ⟨bx, 0, none⟩ = some (.pointer (some ⟨rb, 0, none⟩))) (hc2 : w.cell? ⟨rb, 2, none⟩ = some (.string (B tt))) :
    Calls Tryz.prog 203 #[.agg #[.string (B nm), u], .pointer (some ⟨bx, 0, none⟩)] w fun e w' => e = .returned (.bool (nm == tt)) ∧ w.grownBy w' none := by
  have a0 := fun x => cell_past hbx x
  have a2 := fun x => cell_past hc2 x
  go_enter Tryz.func203, Tryz.ntmps203
  go_wp2_with fail
  go_region
  go_wp2
  go_ret
  exact ⟨congrArg (fun b => Ending.returned (.bool b)) (str_beq nm tt), grown_drew (World.grownBy_alloc _ _ _)⟩

/-- A group that lies in a row of memory. -/
def GAt (w : World) (g : Nat) (ns : List (List UInt8)) (us : List Value) : Prop :=
  us.length = ns.length ∧ g < w.heap.size ∧ ∀ (i : Nat) (nm : List UInt8) (u : Value), ns[i]? = some nm → us[i]? = some u → w.cell? ⟨g, i * 2, none⟩ = some (.string (B nm)) ∧ w.cell? ⟨g, i * 2 + 1, none⟩ = some u ∧ u.oneCell' = true
theorem GAt.grown {w w' : World} {g : Nat} {ns : List (List UInt8)} {us : List Value} (h : GAt w g ns us) (hg : w.grownBy w' none) : GAt w' g ns us := by
  obtain ⟨h1, h2, h3⟩ := h
  refine ⟨h1, Nat.lt_of_lt_of_le h2 hg.size, fun i nm u e1 e2 => ?_⟩
  obtain ⟨q1, q2, q3⟩ := h3 i nm u e1 e2
  have hb := hg.block g h2 (by simp)
  exact ⟨by rw [World.cell?_of_block (a := ⟨g, i * 2, none⟩) hb]; exact q1, by rw [World.cell?_of_block (a := ⟨g, i * 2 + 1, none⟩) hb]; exact q2, q3⟩

theorem mem_step {l : List (List UInt8)} {j : Nat} {a x : List UInt8} (h : l[j]? = some a) : x ∈ l.take (j + 1) ↔ x ∈ l.take j ∨ x = a := by
  rw [List.take_add_one, h]
  simp

set_option maxRecDepth 100000 in
set_option maxHeartbeats 1000000 in
theorem nofIndex (tt : List UInt8) (g cap bx rb : Nat) (ns : List (List UInt8)) (us : List Value) (w : World) (hn : ns.length ≤ 400) (hg : GAt w g ns us) (hbx : w.cell? ⟨bx, 0, none⟩ = some (.pointer (some ⟨rb, 0, none⟩))) (hbl : bx < w.heap.size) (hc2 : w.cell? ⟨rb, 2, none⟩ = some (.string (B tt))) (hrl : rb < w.heap.size) :
    Calls Tryz.prog 218 #[.slice (some ⟨g, 0, none⟩) ns.length cap, .func (.func 203) #[] #[.pointer (some ⟨bx, 0, none⟩)]] w fun e w' => (∃ k : Int, e = .returned (.int .i64 k) ∧ (0 ≤ k ↔ tt ∈ ns)) ∧ w.grownBy w' none := by
  have HG := hid hg
  clear hg
  go_enter Tryz.func218, Tryz.ntmps218
  go_wp2_with fail
  go_loopg [8] (ns.length + 1) (fun q i wi => ∃ j : Nat, j ≤ ns.length ∧ i = .int .i64 j ∧ q = ns.length - j + 1 ∧ tt ∉ ns.take j ∧ w.grownBy wi none)
  case atStart => exact ⟨0, by omega, rfl, by omega, by simp, World.grownBy.refl _ _⟩
  case round =>
    obtain ⟨j, hj, rfl, hq, hnot, hgr⟩ := hrel
    rename World => wi
    by_cases hlt : j < ns.length
    · obtain ⟨nm, hnm⟩ : ∃ nm, ns[j]? = some nm := ⟨ns[j], List.getElem?_eq_getElem _⟩
      have hul := HG.out.1
      obtain ⟨u, hu⟩ : ∃ u, us[j]? = some u := ⟨us[j]'(by omega), List.getElem?_eq_getElem _⟩
      obtain ⟨c0, c1, hone⟩ := (HG.out.grown hgr).2.2 j nm u hnm hu
      have d0 := hbx
      rw [← World.cell?_of_block (a := ⟨bx, 0, none⟩) (hgr.block bx hbl (by simp))] at d0
      have d2 := hc2
      rw [← World.cell?_of_block (a := ⟨rb, 2, none⟩) (hgr.block rb hrl (by simp))] at d2
      have hj2 : (j : Int) < (ns.length : Int) := by omega
      have HGR := hid hgr
      have HM := hid (mem_step (x := tt) hnm)
      clear hgr
      by_cases he : nm = tt
      · have hb : (nm == tt) = true := by simp [he]
        have hmem : tt ∈ ns := by rw [← he]; exact List.mem_of_getElem? hnm
        clear he
        go_wp2_with (go_at_call 203; refine (nofClosure nm tt u bx rb _ d0 d2).mono ?_; rintro e w' ⟨rfl, g7⟩; rw [hb]; have G7 := hid g7; clear g7)
        go_ret
        exact ⟨⟨(j : Int), rfl, fun _ => hmem, fun _ => Int.natCast_nonneg j⟩, HGR.out.trans G7.out⟩
      · have hb : (nm == tt) = false := by simp [he]
        go_wp2_with (go_at_call 203; refine (nofClosure nm tt u bx rb _ d0 d2).mono ?_; rintro e w' ⟨rfl, g7⟩; rw [hb]; have G7 := hid g7; clear g7)
        go_roundg (ns.length - (j + 1) + 1)
        case measure => omega
        case rel => exact ⟨j + 1, by omega, by go_num, rfl, fun h => ((HM.out).1 h).elim hnot (fun e => he e.symm), HGR.out.trans G7.out⟩
    · have hj3 : j = ns.length := by omega
      subst hj3
      rw [List.take_of_length_le (Nat.le_refl _)] at hnot
      go_wp2
      go_ret
      exact ⟨⟨-1, rfl, by simp [hnot]⟩, hgr⟩

set_option maxRecDepth 100000 in
theorem nameOf_p (w : World) (rb : Nat) (s : ByteArray) (J : Nat) (g cap : Nat) (ns : List (List UInt8)) (us : List Value) (hn : ns.length ≤ 400) (hrd : Rdr w rb s J) (hg : GAt w g ns us) :
    Calls Tryz.prog 166 #[rdV rb, .slice (some ⟨g, 0, none⟩) ns.length cap] w fun e w' => e = .returned (.bool (decide (nxT s.data.toList J ∈ ns))) ∧ w.grownBy w' none := by
  have hmf : ∀ (fn : Fn) (first cap : Array Value) (w : World), (Instr.makeFunc fn first cap).run Tryz.prog w = .ok (.func fn first cap) w := fun _ _ _ _ => rfl
  have hlt := lt_of_block hrd
  obtain ⟨c0, c1, c2, c3, f1, f2, f3⟩ := four_p hrd
  generalize nxT s.data.toList J = tt at *
  have HIX := hid (nofIndex tt g cap w.heap.size rb ns us (w.alloc (.cells #[.pointer (some ⟨rb, 0, none⟩)] 164)) hn (hg.grown (World.grownBy_alloc _ _ _)) (by simp [go_sem]) (by simp) (cell_past c2 _) (by simp; omega))
  clear c0 c1 c2 c3 f1 f2 f3 hrd hg
  unfold rdV
  by_cases hm : tt ∈ ns
  · have hd : decide (tt ∈ ns) = true := by simp [hm]
    rw [hd]
    go_enter Tryz.func166, Tryz.ntmps166
    go_wp2_with (first | (go_at_call 218; refine HIX.out.mono ?_; rintro e w' ⟨⟨k, rfl, hk⟩, g7⟩; have G7 := hid g7; have hk2 := hk.2 hm; clear g7) | go_in)
    go_ret
    exact ⟨rfl, (World.grownBy_alloc _ _ _).trans G7.out⟩
  · have hd : decide (tt ∈ ns) = false := by simp [hm]
    rw [hd]
    go_enter Tryz.func166, Tryz.ntmps166
    go_wp2_with (first | (go_at_call 218; refine HIX.out.mono ?_; rintro e w' ⟨⟨k, rfl, hk⟩, g7⟩; have G7 := hid g7; have hk2 : ¬ 0 ≤ k := fun h => hm (hk.1 h); clear g7) | go_in)
    go_ret
    exact ⟨rfl, (World.grownBy_alloc _ _ _).trans G7.out⟩
end Go.Proofs.YtfangljlgfcdpaaGreatDoor
