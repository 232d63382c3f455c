import Derived.Test.YtcdijppegfcoaaaGreatDoorZT07
import Derived.Deep.RegionWith
import Derived.Laws.EntriesVeiled
import Derived.Outline
/-
  OUR OWN TEXT. The program's texts of types: the names that letters gives.
-/
namespace Go.Proofs.YtcdijppegfcoaaaGreatDoor
open Go.RowKit
/-- Where letters' function keeps things: the mark, the function that numbers, the variable that holds the map, the map. -/
structure AB where
  kb : Nat
  nb : Nat
  cb : Nat
  mb : Nat
/-- inOrder's function. -/
def numV (cb : Nat) : Value := .func (.func 187) #[] #[.pointer (some ⟨cb, 0, none⟩)]
/-- letters' function. -/
def askV (a : AB) : Value := .func (.func 146) #[] #[.pointer (some ⟨a.kb, 0, none⟩), .pointer (some ⟨a.nb, 0, none⟩)]
structure IO1 (w : World) (a : AB) (L : List (List UInt8)) : Prop where
  mrk : w.heap[a.kb]? = some (.cells #[.string (B [])] 9 (0, 0))
  nf : w.heap[a.nb]? = some (.cells #[numV a.cb] 300 (0, 0))
  blk : w.heap[a.cb]? = some (.cells #[.map (some a.mb)] 358 (0, 0))
  mp : MP w a.mb L
theorem IO1.ne {w : World} {a : AB} {L : List (List UInt8)} (h : IO1 w a L) : a.cb ≠ a.mb ∧ a.kb ≠ a.mb ∧ a.nb ≠ a.mb := by
  obtain ⟨es, cl, hb⟩ := h.mp.isMap
  refine ⟨fun e => ?_, fun e => ?_, fun e => ?_⟩
  · have := h.blk
    rw [e, hb] at this
    cases this
  · have := h.mrk
    rw [e, hb] at this
    cases this
  · have := h.nf
    rw [e, hb] at this
    cases this
theorem IO1.kept {w w' : World} {a : AB} {L : List (List UInt8)} (h : IO1 w a L) (hg : w.grownBy w' none) : IO1 w' a L :=
  ⟨by rw [hg.block _ (lt_of_block h.mrk) (by simp)]; exact h.mrk, by rw [hg.block _ (lt_of_block h.nf) (by simp)]; exact h.nf, by rw [hg.block _ (lt_of_block h.blk) (by simp)]; exact h.blk, h.mp.kept hg (by simp)⟩
theorem IO1.over {w w' : World} {a : AB} {L L' : List (List UInt8)} (h : IO1 w a L) (hg : w.grownBy w' (some a.mb)) (hm : MP w' a.mb L') : IO1 w' a L' :=
  ⟨by rw [hg.block _ (lt_of_block h.mrk) (by simp; exact h.ne.2.1)]; exact h.mrk, by rw [hg.block _ (lt_of_block h.nf) (by simp; exact h.ne.2.2)]; exact h.nf, by rw [hg.block _ (lt_of_block h.blk) (by simp; exact h.ne.1)]; exact h.blk, hm⟩
def askS (L : List (List UInt8)) (nm : List UInt8) : List (List UInt8) := if nm ∈ L then L else L ++ [nm]

set_option maxRecDepth 100000 in
set_option maxHeartbeats 2000000 in
theorem num_q (w : World) (a : AB) (nm : List UInt8) (L : List (List UInt8)) (hnm : nm.length ≤ 300) (h : IO1 w a L) (hL : L.length ≤ 200) :
    Calls Tryz.prog 187 #[.string (B nm), .pointer (some ⟨a.cb, 0, none⟩)] w fun e w' => e = .returned (.int .i64 ((askS L nm).idxOf nm : Nat)) ∧ IO1 w' a (askS L nm) ∧ w.grownBy w' (some a.mb) := by
  have c0 : w.cell? ⟨a.cb, 0, none⟩ = some (.map (some a.mb)) := by simp [World.cell?, h.blk]
  have H := hid h
  by_cases hm : nm ∈ L
  · have e : askS L nm = L := by unfold askS; rw [if_pos hm]
    rw [e]
    have hlk := h.mp.look_in hnm hm
    obtain ⟨ix, hixe⟩ : ∃ ix, ix = L.idxOf nm := ⟨_, rfl⟩
    rw [← hixe] at hlk ⊢
    clear h hm e hixe
    go_enter Tryz.func187, Tryz.ntmps187
    go_wp2
    go_ret
    exact ⟨rfl, H.out, World.grownBy.refl _ _⟩
  · have e : askS L nm = L ++ [nm] := by unfold askS; rw [if_neg hm]
    rw [e]
    have hlk := h.mp.look_out hnm hm
    have hln := fun ty => MP.len h.mp ty
    obtain ⟨w5, hst, hmp, hg5⟩ := MP.store h.mp hnm hm (by omega)
    have hix : (L ++ [nm]).idxOf nm = L.length := by rw [List.idxOf_append, if_neg hm]; simp
    rw [hix]
    have Q := hid (And.intro hmp hg5)
    clear h hm e hix hmp hg5
    go_enter Tryz.func187, Tryz.ntmps187
    go_wp2
    go_ret
    exact ⟨rfl, H.out.over Q.out.2 Q.out.1, Q.out.2⟩

set_option maxRecDepth 100000 in
set_option maxHeartbeats 2000000 in
theorem ask_q (w : World) (a : AB) (nm : List UInt8) (L : List (List UInt8)) (hnm : nm.length ≤ 300) (h : IO1 w a L) (hL : L.length ≤ 200) :
    Calls Tryz.prog 146 #[.string (B nm), .pointer (some ⟨a.kb, 0, none⟩), .pointer (some ⟨a.nb, 0, none⟩)] w fun e w' => e = .returned (.string (B (letterS ((askS L nm).idxOf nm)))) ∧ IO1 w' a (askS L nm) ∧ w.grownBy w' (some a.mb) := by
  have c0 : w.cell? ⟨a.kb, 0, none⟩ = some (.string (B [])) := by simp [World.cell?, h.mrk]
  have c1 : w.cell? ⟨a.nb, 0, none⟩ = some (.func (.func 187) #[] #[.pointer (some ⟨a.cb, 0, none⟩)]) := by simp [World.cell?, h.nf, numV]
  have hix : (askS L nm).idxOf nm ≤ 200 := by
    unfold askS
    split
    · rename_i hm
      have := List.idxOf_lt_length_of_mem hm
      omega
    · rename_i hm
      rw [List.idxOf_append, if_neg hm]
      simp; omega
  have CN := hid (num_q w.drew a nm L hnm ⟨h.mrk, h.nf, h.blk, h.mp⟩ hL)
  obtain ⟨L', hL'⟩ : ∃ L', L' = askS L nm := ⟨_, rfl⟩
  rw [← hL'] at CN hix ⊢
  obtain ⟨ix, hixe⟩ : ∃ ix, ix = L'.idxOf nm := ⟨_, rfl⟩
  rw [← hixe] at CN hix ⊢
  have CM := hid (fun w => nth_q w ix (by omega))
  have hsz : (B (letterS ix)).size ≤ 1000 := by
    rw [size_B]
    unfold letterS
    split <;> simp
  have sz0 : (B ([] : List UInt8)).size = 0 := rfl
  have W := hid (show ∀ w1, IO1 w1 a L' → w1.cell? ⟨a.kb, 0, none⟩ = some (.string (B [])) from fun w1 i1 => by simp [World.cell?, i1.mrk])
  clear h hL hL' hixe hix hnm
  go_enter Tryz.func146, Tryz.ntmps146
  go_wp2_with fail
  go_region_with (first
    | (go_at_call 187; refine CN.out.mono ?_; rintro e w1 ⟨rfl, i1, g1⟩; have c5 := W.out w1 i1; have I1 := hid i1; have G1 := hid g1; clear i1 g1)
    | (go_at_call 147; refine (CM.out _).mono ?_; rintro e w2 ⟨rfl, rfl⟩))
  all_goals
    go_wp2
    go_ret
    refine ⟨?_, I1.out, ⟨G1.out.os, G1.out.tape, G1.out.output, G1.out.size, G1.out.block⟩⟩
    show Ending.returned (.string (B [] ++ B (letterS ix))) = _
    rw [append_B]
    rfl

/-- What inOrder leaves. -/
def INO (w w' : World) (e : Ending) : Prop := ∃ cb mb, e = .returned (numV cb) ∧ w'.heap[cb]? = some (.cells #[.map (some mb)] 358 (0, 0)) ∧ MP w' mb [] ∧ w.grownBy w' none ∧ w.heap.size ≤ mb

set_option maxRecDepth 100000 in
theorem inOrder_q (w : World) : Calls Tryz.prog 145 #[] w fun e w' => INO w w' e := by
  have hmm := @run_makeMap Tryz.prog
  have hmf : ∀ (fn : Fn) (first cap : Array Value) (w : World), (Instr.makeFunc fn first cap).run Tryz.prog w = .ok (.func fn first cap) w := fun _ _ _ _ => rfl
  go_enter Tryz.func145, Tryz.ntmps145
  go_wp2
  go_ret
  refine ⟨w.heap.size + 1, w.heap.size, rfl, heap_alloc_at _ _ _ (by simp), (MP.new w).kept (World.grownBy_alloc _ _ none) (by simp), (World.grownBy_alloc _ _ _).trans (World.grownBy_alloc _ _ _), Nat.le_refl _⟩

/-- What letters leaves. -/
def LTO (w w' : World) (e : Ending) : Prop := ∃ a, e = .returned (askV a) ∧ IO1 w' a [] ∧ w.grownBy w' none ∧ w.heap.size ≤ a.mb

set_option maxRecDepth 100000 in
theorem letters_q (w : World) : Calls Tryz.prog 113 #[.string (B [])] w fun e w' => LTO w w' e := by
  have hmf : ∀ (fn : Fn) (first cap : Array Value) (w : World), (Instr.makeFunc fn first cap).run Tryz.prog w = .ok (.func fn first cap) w := fun _ _ _ _ => rfl
  have hk : (w.alloc (.cells #[.string (B [])] 9)).heap[w.heap.size]? = some (.cells #[.string (B [])] 9 (0, 0)) := heap_alloc_at _ _ _ rfl
  have HK := hid hk
  clear hk
  go_enter Tryz.func113, Tryz.ntmps113
  go_wp2_with fail
  refine (inOrder_q _).mono ?_
  rintro e w1 ⟨cb, mb, rfl, hc, hm, g1, hmb⟩
  have Q := hid (And.intro hc (And.intro hm (And.intro g1 hmb)))
  have hs1 : w.heap.size + 1 ≤ w1.heap.size := by have := g1.size; simpa using this
  clear hc hm g1 hmb
  unfold numV
  go_wp2

  go_ret
  obtain ⟨hc, hm, g1, hmb⟩ := Q.out
  have hk1 := (g1.block w.heap.size (by simp) (by simp)).trans HK.out
  have ga := World.grownBy_alloc w1 (.cells #[numV cb] 300) none
  refine ⟨⟨w.heap.size, w1.heap.size, cb, mb⟩, rfl, ⟨(ga.block w.heap.size (by omega) (by simp)).trans hk1, heap_alloc_at _ _ _ rfl, (ga.block _ (lt_of_block hc) (by simp)).trans hc, hm.kept ga (by simp)⟩, ((World.grownBy_alloc _ _ _).trans g1).trans ga, ?_⟩
  simp at hmb
  show w.heap.size ≤ mb
  omega
end Go.Proofs.YtcdijppegfcoaaaGreatDoor
