import Derived.Test.YtcdijppegfcoaabGreatDoorNB
import Derived.Test.YtcdijppegfcoaabGreatDoorShelfJ
import Derived.Shelf.Strings.BuilderK
import Derived.Shelf.Strings.Builder2
import Derived.Test.YtcdijppegfcoaabGreatDoorNA
import Derived.Deep.DeepCutAuto
/-
  OUR OWN TEXT. The program's drafts: addFirst.
-/
namespace Go.Proofs.YtcdijppegfcoaabGreatDoor
open Go.RowKit

set_option maxRecDepth 100000 in
theorem own_ask (w : World) (t : List UInt8) : Calls Tryz.prog 174 #[.string (B t)] w fun e w' => e = .returned (.string (B t)) ∧ w' = w := by
  go_enter Tryz.func174, Tryz.ntmps174
  go_wp2
  go_ret
  exact ⟨rfl, rfl⟩
/-- What a variable is called. -/
def ANY (H : Nat → Option Obj) (ca : List Nat) (σ : Sto) (d : Nat → Nat) (c : Dc) (bs : Nat) (s : Ds) (n : List UInt8) (s' : Ds) (F : FuncId) (args : Array Value) : Prop :=
  ∀ w, DW H ca σ d c bs s w → Calls Tryz.prog F (#[.string (B n)] ++ args) w fun e w' => ∃ x s1, e = .returned (.string (B x)) ∧ putS x 0 0 s1 = some s' ∧ DW H ca σ d c bs s1 w' ∧ Gb (DG ca c bs) w w'
theorem any_id {H : Nat → Option Obj} {ca : List Nat} {σ : Sto} {d : Nat → Nat} {c : Dc} {bs : Nat} {s s' : Ds} {n : List UInt8} (hs : putS n 0 0 s = some s') : ANY H ca σ d c bs s n s' 174 #[] := fun w h => by
  refine (own_ask w n).mono ?_
  rintro e w' ⟨rfl, rfl⟩
  exact ⟨n, s, rfl, hs, h, Gb.refl _ _⟩
theorem askS_ord (L : List (List UInt8)) (n : List UInt8) : askS L n = ordS L n := by
  unfold askS ordS
  split <;> simp_all
theorem any_ask {H : Nat → Option Obj} {ca : List Nat} {σ : Sto} {d : Nat → Nat} {c : Dc} {bs : Nat} {s s' : Ds} {n : List UInt8} {a : AB} (ha : c.any = some a) (hn : n.length ≤ 300) (hL : s.L.length ≤ 200)
    (hs : putS (letterS ((ordS s.L n).idxOf n)) 0 0 ⟨s.steps, s.out, s.stands, ordS s.L n, s.O⟩ = some s') : ANY H ca σ d c bs s n s' 89 #[.pointer (some ⟨a.kb, 0, none⟩), .pointer (some ⟨a.nb, 0, none⟩)] := fun w h => by
  refine (ask_q w a n s.L hn (h.dr.an a ha).1 hL).mono ?_
  rintro e w' ⟨rfl, i, g⟩
  rw [askS_ord] at i ⊢
  obtain ⟨q1, q2⟩ := h.anyL ha i g
  exact ⟨_, _, rfl, hs, q1, q2⟩

set_option maxRecDepth 100000 in
set_option maxHeartbeats 4000000 in
theorem first_basic {H : Nat → Option Obj} {ca : List Nat} {σ : Sto} {d : Nat → Nat} {c : Dc} {bs : Nat} {s s' : Ds} {w : World} {v : Value} {b : Nat} {x : List UInt8}
    (hN : Calls Tryz.prog 168 #[v] w fun e w' => e = .returned (.iface 275 (.pointer (some ⟨b, 0, none⟩))) ∧ DW H ca σ d c bs s w' ∧ Gb (DG ca c bs) w w')
    (hb : H b = some (.cells #[.string (B x)] 277 (0, 0))) (hp : putS x 0 0 s = some s') :
    Calls Tryz.prog 128 #[CP c.db, v] w (ADP H ca σ d c bs s' w) := by
  have HN := hid hN
  have HB := hid (And.intro hb hp)
  have q1 := e_Basic_Basic b
  clear hN hb hp
  unfold CP
  go_enter Tryz.func128, Tryz.ntmps128
  go_wp2_with fail
  refine HN.out.mono ?_
  rintro e w1 ⟨rfl, r1, g1⟩
  have c0 : w1.cell? ⟨b, 0, none⟩ = some (.string (B x)) := by simp [World.cell?, r1.cs.fz _ _ HB.out.1]
  have HW := hid (word_any r1 HB.out.2)
  have R1 := hid g1
  clear r1 g1 HN
  unfold CP at HW
  go_wp2_with (go_at_call 169; refine HW.out.mono ?_; rintro e w2 ⟨rfl, r2, g2⟩; have R2 := hid (And.intro r2 g2); clear r2 g2)
  first | go_end0 | skip
  exact ⟨rfl, R2.out.1, R1.out.tr R2.out.2⟩
theorem Gb.drewL {R : Nat → Prop} {w w' : World} (h : Gb R w.drew w') : Gb R w w' := ⟨h.os, h.tape, h.output, h.size, h.block⟩
theorem CSd.drew {H : Nat → Option Obj} {ca : List Nat} {σ : Sto} {d : Nat → Nat} {w : World} (h : CSd H ca σ d w) : CSd H ca σ d w.drew := ⟨h.fz, h.len, h.lenc, h.nd, h.off, h.few, h.rr, h.blk⟩
theorem DR.drew {c : Dc} {bs : Nat} {s : Ds} {w : World} (h : DR c bs s w) : DR c bs s w.drew := h.same fun _ _ e _ => e
set_option maxRecDepth 100000 in
set_option maxHeartbeats 8000000 in
theorem first_var_id {H : Nat → Option Obj} {ca : List Nat} {σ : Sto} {d : Nat → Nat} {c : Dc} {bs : Nat} {s s' : Ds} {w : World} {v : Value} {b : Nat} {n : List UInt8} (hx : c.any = none)
    (hN : Calls Tryz.prog 168 #[v] w fun e w' => e = .returned (.iface 242 (.pointer (some ⟨b, 0, none⟩))) ∧ DW H ca σ d c bs s w' ∧ Gb (DG ca c bs) w w')
    (hb : H b = some (.cells #[.string (B n)] 246 (0, 0))) (hA : ANY H ca σ d c bs s n s' 174 #[]) :
    Calls Tryz.prog 128 #[CP c.db, v] w (ADP H ca σ d c bs s' w) := by
  have HN := hid hN
  have HB := hid (And.intro hb hA)
  have q1 := e_Var_Basic b
  have q2 := e_Var_Var b
  have HX := hid hx
  clear hN hb hA hx
  unfold CP
  go_enter Tryz.func128, Tryz.ntmps128
  go_wp2_with fail
  refine HN.out.mono ?_
  rintro e w1 ⟨rfl, r1, g1⟩
  have c0 : w1.cell? ⟨b, 0, none⟩ = some (.string (B n)) := by simp [World.cell?, r1.cs.fz _ _ HB.out.1]
  obtain ⟨sv, hsv, _⟩ := r1.dr.blk
  have c1 : w1.cell? ⟨c.db, 0, none⟩ = some (.func (.func 174) #[] #[]) := by rw [(draft_cells hsv).1]; unfold Dc.anyV; rw [HX.out]; rfl
  have HC := hid (HB.out.2 w1.drew ⟨r1.cs.drew, r1.dr.drew, r1.lowa, r1.lowH, r1.off, r1.big⟩)
  have R1 := hid (And.intro r1 g1)
  clear r1 g1 HN hsv
  go_wp2_with fail
  go_region_with (first
    | (go_at_call 174; refine HC.out.mono ?_; rintro e w2 ⟨x, s1, rfl, hp2, r2, g2⟩; have HW := hid (word_any r2 hp2); have R2 := hid (And.intro r2 g2); clear r2 g2 hp2; unfold CP at HW)
    | (go_at_call 169; refine HW.out.mono ?_; rintro e w3 ⟨rfl, r3, g3⟩; have R3 := hid (And.intro r3 g3); clear r3 g3))
  all_goals
    go_wp2
    first | go_end0 | skip
    exact ⟨rfl, R3.out.1, (R1.out.2.tr (Gb.drewL R2.out.2)).tr R3.out.2⟩
set_option maxRecDepth 100000 in
set_option maxHeartbeats 8000000 in
theorem first_var_ask {H : Nat → Option Obj} {ca : List Nat} {σ : Sto} {d : Nat → Nat} {c : Dc} {bs : Nat} {s s' : Ds} {w : World} {v : Value} {b : Nat} {n : List UInt8} {a : AB} (hx : c.any = some a)
    (hN : Calls Tryz.prog 168 #[v] w fun e w' => e = .returned (.iface 242 (.pointer (some ⟨b, 0, none⟩))) ∧ DW H ca σ d c bs s w' ∧ Gb (DG ca c bs) w w')
    (hb : H b = some (.cells #[.string (B n)] 246 (0, 0))) (hA : ANY H ca σ d c bs s n s' 89 #[.pointer (some ⟨a.kb, 0, none⟩), .pointer (some ⟨a.nb, 0, none⟩)]) :
    Calls Tryz.prog 128 #[CP c.db, v] w (ADP H ca σ d c bs s' w) := by
  have HN := hid hN
  have HB := hid (And.intro hb hA)
  have q1 := e_Var_Basic b
  have q2 := e_Var_Var b
  have HX := hid hx
  clear hN hb hA hx
  unfold CP
  go_enter Tryz.func128, Tryz.ntmps128
  go_wp2_with fail
  refine HN.out.mono ?_
  rintro e w1 ⟨rfl, r1, g1⟩
  have c0 : w1.cell? ⟨b, 0, none⟩ = some (.string (B n)) := by simp [World.cell?, r1.cs.fz _ _ HB.out.1]
  obtain ⟨sv, hsv, _⟩ := r1.dr.blk
  have c1 : w1.cell? ⟨c.db, 0, none⟩ = some (.func (.func 89) #[] #[.pointer (some ⟨a.kb, 0, none⟩), .pointer (some ⟨a.nb, 0, none⟩)]) := by rw [(draft_cells hsv).1]; unfold Dc.anyV; rw [HX.out]; rfl
  have HC := hid (HB.out.2 w1.drew ⟨r1.cs.drew, r1.dr.drew, r1.lowa, r1.lowH, r1.off, r1.big⟩)
  have R1 := hid (And.intro r1 g1)
  clear r1 g1 HN hsv
  go_wp2_with fail
  go_region_with (first
    | (go_at_call 89; refine HC.out.mono ?_; rintro e w2 ⟨x, s1, rfl, hp2, r2, g2⟩; have HW := hid (word_any r2 hp2); have R2 := hid (And.intro r2 g2); clear r2 g2 hp2; unfold CP at HW)
    | (go_at_call 169; refine HW.out.mono ?_; rintro e w3 ⟨rfl, r3, g3⟩; have R3 := hid (And.intro r3 g3); clear r3 g3))
  all_goals
    go_wp2
    first | go_end0 | skip
    exact ⟨rfl, R3.out.1, (R1.out.2.tr (Gb.drewL R2.out.2)).tr R3.out.2⟩
end Go.Proofs.YtcdijppegfcoaabGreatDoor

/-
  OUR OWN TEXT (written by mkengj.py). The program's drafts: addFirst at cells, lists, pairs, arrows; whole.
-/
namespace Go.Proofs.YtcdijppegfcoaabGreatDoor
open Go.RowKit

theorem two_cells {w : World} {n : Nat} {x y : Value} {t : TypeId} {p : Nat × Nat} (h : w.heap[n]? = some (.cells #[x, y] t p)) : w.cell? ⟨n, 0, none⟩ = some x ∧ w.cell? ⟨n, 1, none⟩ = some y := by
  constructor <;> simp [World.cell?, h]
theorem one_cj {w : World} {b : Nat} {p : Value} {t : TypeId} (h : w.heap[b]? = some (.cells #[p] t (0, 0))) : w.cell? ⟨b, 0, none⟩ = some p ∧ w.frozen? ⟨b, 0, none⟩ = false := by simp [World.cell?, World.frozen?, h]
theorem DW.drew {H : Nat → Option Obj} {ca : List Nat} {σ : Sto} {d : Nat → Nat} {c : Dc} {bs : Nat} {s : Ds} {w : World} (h : DW H ca σ d c bs s w) : DW H ca σ d c bs s w.drew := ⟨h.cs.drew, h.dr.drew, h.lowa, h.lowH, h.off, h.big⟩
set_option maxRecDepth 100000 in
set_option maxHeartbeats 8000000 in
theorem first_cell {H : Nat → Option Obj} {ca : List Nat} {σ : Sto} {d : Nat → Nat} {c : Dc} {bs : Nat} {s s' : Ds} {w : World} {v : Value} {b : Nat} {n : Nat} {a : AB} (hx : c.own = some a) (hn : n ≤ 1099511627776) (hO : s.O.length ≤ 200)
    (hN : Calls Tryz.prog 168 #[v] w fun e w' => e = .returned (.iface 173 (.pointer (some ⟨b, 0, none⟩))) ∧ DW H ca σ d c bs s w' ∧ Gb (DG ca c bs) w w')
    (hb : ca[n]? = some b) (hp : putS ([95] ++ letterS ((ordS s.O n).idxOf n)) 0 0 ⟨s.steps, s.out, s.stands, s.L, ordS s.O n⟩ = some s') :
    Calls Tryz.prog 128 #[CP c.db, v] w (ADP H ca σ d c bs s' w) := by
  have HN := hid hN
  have HB := hid (And.intro hb (And.intro hp (And.intro hn hO)))
  have q0 := e_Cell_Basic b
  have q1 := e_Cell_Var b
  have q2 := e_Cell_Cell b
  have HX := hid hx
  clear hN hb hx hn hO hp
  unfold CP
  go_enter Tryz.func128, Tryz.ntmps128
  go_wp2_with fail
  refine HN.out.mono ?_
  rintro e w1 ⟨rfl, r1, g1⟩
  obtain ⟨v1, hv1, _⟩ := r1.cs.blk n b HB.out.1
  have c0 := (cell_at hv1).1
  obtain ⟨sv, hsv, _⟩ := r1.dr.blk
  have c1 : w1.cell? ⟨c.db, 1, none⟩ = some (.func (.func 213) #[] #[.pointer (some ⟨a.kb, 0, none⟩), .pointer (some ⟨a.nb, 0, none⟩)]) := by rw [(draft_cells hsv).2.1]; unfold Dc.ownV; rw [HX.out]; rfl
  have HC := hid (ask_i w1.drew a n s.O HB.out.2.2.1 ((r1.dr.drew).ow a HX.out).1 HB.out.2.2.2)
  have R1 := hid (And.intro r1 g1)
  clear r1 g1 HN hsv hv1
  go_wp2_with fail
  go_region_with (first
    | (go_at_call 213; refine HC.out.mono ?_; rintro e w2 ⟨rfl, i2, g2⟩; have R2 := hid ((DW.drew R1.out.1).ownL HX.out i2 g2); have HW := hid (word_any R2.out.1 HB.out.2.1); clear i2 g2; unfold CP at HW)
    | (go_at_call 169; refine HW.out.mono ?_; rintro e w3 ⟨rfl, r3, g3⟩; have R3 := hid (And.intro r3 g3); clear r3 g3))
  all_goals
    go_wp2
    first | go_end0 | skip
    exact ⟨rfl, R3.out.1, (R1.out.2.tr (Gb.drewL R2.out.2)).tr R3.out.2⟩
set_option maxRecDepth 100000 in
set_option maxHeartbeats 8000000 in
theorem first_list {H : Nat → Option Obj} {ca : List Nat} {σ : Sto} {d : Nat → Nat} {c : Dc} {bs : Nat} {s s' : Ds} {w : World} {v : Value} {b : Nat} {md f : Nat} {u : Value} {a : Et} {s1 s2 : Ds}
    (hN : Calls Tryz.prog 168 #[v] w fun e w' => e = .returned (.iface 279 (.pointer (some ⟨b, 0, none⟩))) ∧ DW H ca σ d c bs s w' ∧ Gb (DG ca c bs) w w')
    (hb : H b = some (.cells #[u] 281 (0, 0))) (hA : ADDC H ca σ d c bs md f) (hu : ER H ca u a) (p1 : putS [91] 0 0 s = some s1) (p2 : draftS σ md f a s1 = some s2) (p3 : putS [93] 0 0 s2 = some s') :
    Calls Tryz.prog 128 #[CP c.db, v] w (ADP H ca σ d c bs s' w) := by
  have HF := hid (show ∀ w, Fz H w → w.cell? ⟨b, 0, none⟩ = some u from (fun w hz => (one_cj (hz _ _ hb)).1))
  have HN := hid hN
  have HA := hid hA
  have q0 := e_List_Basic b
  have q1 := e_List_Var b
  have q2 := e_List_Cell b
  have q3 := e_List_List b
  have P := hid (And.intro hu (And.intro p1 (And.intro p2 p3)))
  clear hu p1 p2 p3
  clear hN hb hA
  unfold CP
  go_enter Tryz.func128, Tryz.ntmps128
  go_wp2_with fail
  refine HN.out.mono ?_
  rintro e w1 ⟨rfl, r1, g1⟩
  have G1 := hid g1
  clear g1 HN
  have c0 := HF.out w1 r1.cs.fz
  have C1 := hid (word_any r1 P.out.2.1)
  clear r1
  unfold CP at C1
  go_wp2_with fail
  refine C1.out.mono ?_
  rintro e w2 ⟨rfl, r2, g2⟩
  have G2 := hid g2
  clear g2
  have c0 := HF.out w2 r2.cs.fz
  have C2 := hid (HA.out u a s1 s2 _ P.out.1 P.out.2.2.1 r2)
  clear r2
  unfold CP at C2
  go_wp2_with fail
  refine C2.out.mono ?_
  rintro e w3 ⟨rfl, r3, g3⟩
  have G3 := hid g3
  clear g3
  have c0 := HF.out w3 r3.cs.fz
  have C3 := hid (word_any r3 P.out.2.2.2)
  clear r3
  unfold CP at C3
  go_wp2_with fail
  refine C3.out.mono ?_
  rintro e w4 ⟨rfl, r4, g4⟩
  have G4 := hid g4
  clear g4
  have RR := hid r4
  clear r4
  go_wp2
  first | go_end0 | skip
  exact ⟨rfl, RR.out, (((G1.out.tr G2.out).tr G3.out).tr G4.out)⟩
set_option maxRecDepth 100000 in
set_option maxHeartbeats 8000000 in
theorem first_pair {H : Nat → Option Obj} {ca : List Nat} {σ : Sto} {d : Nat → Nat} {c : Dc} {bs : Nat} {s s' : Ds} {w : World} {v : Value} {b : Nat} {md f : Nat} {u z : Value} {a k : Et} {s1 s2 s3 s4 : Ds}
    (hN : Calls Tryz.prog 168 #[v] w fun e w' => e = .returned (.iface 291 (.pointer (some ⟨b, 0, none⟩))) ∧ DW H ca σ d c bs s w' ∧ Gb (DG ca c bs) w w')
    (hb : H b = some (.cells #[u, z] 319 (0, 0))) (hA : ADDC H ca σ d c bs md f) (hu : ER H ca u a) (hz : ER H ca z k) (p1 : putS [40] 0 0 s = some s1) (p2 : draftS σ md f a s1 = some s2) (p3 : putS [44, 32] 0 0 s2 = some s3) (p4 : draftS σ md f k s3 = some s4) (p5 : putS [41] 0 0 s4 = some s') :
    Calls Tryz.prog 128 #[CP c.db, v] w (ADP H ca σ d c bs s' w) := by
  have HF := hid (show ∀ w, Fz H w → w.cell? ⟨b, 0, none⟩ = some u ∧ w.cell? ⟨b, 1, none⟩ = some z from (fun w hz => two_cells (hz _ _ hb)))
  have HN := hid hN
  have HA := hid hA
  have q0 := e_Pair_Basic b
  have q1 := e_Pair_Var b
  have q2 := e_Pair_Cell b
  have q3 := e_Pair_List b
  have q4 := e_Pair_Pair b
  have P := hid (And.intro hu (And.intro hz (And.intro p1 (And.intro p2 (And.intro p3 (And.intro p4 p5))))))
  clear hu hz p1 p2 p3 p4 p5
  clear hN hb hA
  unfold CP
  go_enter Tryz.func128, Tryz.ntmps128
  go_wp2_with fail
  refine HN.out.mono ?_
  rintro e w1 ⟨rfl, r1, g1⟩
  have G1 := hid g1
  clear g1 HN
  have c0 := (HF.out w1 r1.cs.fz).1
  have c1 := (HF.out w1 r1.cs.fz).2
  have C1 := hid (word_any r1 P.out.2.2.1)
  clear r1
  unfold CP at C1
  go_wp2_with fail
  refine C1.out.mono ?_
  rintro e w2 ⟨rfl, r2, g2⟩
  have G2 := hid g2
  clear g2
  have c0 := (HF.out w2 r2.cs.fz).1
  have c1 := (HF.out w2 r2.cs.fz).2
  have C2 := hid (HA.out u a s1 s2 _ P.out.1 P.out.2.2.2.1 r2)
  clear r2
  unfold CP at C2
  go_wp2_with fail
  refine C2.out.mono ?_
  rintro e w3 ⟨rfl, r3, g3⟩
  have G3 := hid g3
  clear g3
  have c0 := (HF.out w3 r3.cs.fz).1
  have c1 := (HF.out w3 r3.cs.fz).2
  have C3 := hid (word_any r3 P.out.2.2.2.2.1)
  clear r3
  unfold CP at C3
  go_wp2_with fail
  refine C3.out.mono ?_
  rintro e w4 ⟨rfl, r4, g4⟩
  have G4 := hid g4
  clear g4
  have c0 := (HF.out w4 r4.cs.fz).1
  have c1 := (HF.out w4 r4.cs.fz).2
  have C4 := hid (HA.out z k s3 s4 _ P.out.2.1 P.out.2.2.2.2.2.1 r4)
  clear r4
  unfold CP at C4
  go_wp2_with fail
  refine C4.out.mono ?_
  rintro e w5 ⟨rfl, r5, g5⟩
  have G5 := hid g5
  clear g5
  have c0 := (HF.out w5 r5.cs.fz).1
  have c1 := (HF.out w5 r5.cs.fz).2
  have C5 := hid (word_any r5 P.out.2.2.2.2.2.2)
  clear r5
  unfold CP at C5
  go_wp2_with fail
  refine C5.out.mono ?_
  rintro e w6 ⟨rfl, r6, g6⟩
  have G6 := hid g6
  clear g6
  have RR := hid r6
  clear r6
  go_wp2
  first | go_end0 | skip
  exact ⟨rfl, RR.out, (((((G1.out.tr G2.out).tr G3.out).tr G4.out).tr G5.out).tr G6.out)⟩
set_option maxRecDepth 100000 in
set_option maxHeartbeats 8000000 in
theorem first_arrow {H : Nat → Option Obj} {ca : List Nat} {σ : Sto} {d : Nat → Nat} {c : Dc} {bs : Nat} {s s' : Ds} {w : World} {v : Value} {b : Nat} {md f : Nat} {u z : Value} {a k : Et} {s1 s2 : Ds}
    (hN : Calls Tryz.prog 168 #[v] w fun e w' => e = .returned (.iface 209 (.pointer (some ⟨b, 0, none⟩))) ∧ DW H ca σ d c bs s w' ∧ Gb (DG ca c bs) w w')
    (hb : H b = some (.cells #[u, z] 211 (0, 0))) (hA : ADDC H ca σ d c bs md f) (hR : FRMC H ca σ d c bs md f) (hu : ER H ca u a) (hz : ER H ca z k) (p1 : fromS (draftS σ md f) σ a (some s) = some s1) (p2 : putS [32, 45, 62, 32] 0 0 s1 = some s2) (p3 : draftS σ md f k s2 = some s') :
    Calls Tryz.prog 128 #[CP c.db, v] w (ADP H ca σ d c bs s' w) := by
  have HF := hid (show ∀ w, Fz H w → w.cell? ⟨b, 0, none⟩ = some u ∧ w.cell? ⟨b, 1, none⟩ = some z from (fun w hz => two_cells (hz _ _ hb)))
  have HN := hid hN
  have HA := hid hA
  have q0 := e_Arrow_Basic b
  have q1 := e_Arrow_Var b
  have q2 := e_Arrow_Cell b
  have q3 := e_Arrow_List b
  have q4 := e_Arrow_Pair b
  have q5 := e_Arrow_Arrow b
  have P := hid (And.intro hu (And.intro hz (And.intro p1 (And.intro p2 p3))))
  have HR := hid hR
  clear hu hz p1 p2 p3 hR
  clear hN hb hA
  unfold CP
  go_enter Tryz.func128, Tryz.ntmps128
  go_wp2_with fail
  refine HN.out.mono ?_
  rintro e w1 ⟨rfl, r1, g1⟩
  have G1 := hid g1
  clear g1 HN
  have c0 := (HF.out w1 r1.cs.fz).1
  have c1 := (HF.out w1 r1.cs.fz).2
  have C1 := hid (HR.out u a s s1 _ P.out.1 P.out.2.2.1 r1)
  clear r1
  unfold CP at C1
  go_wp2_with fail
  refine C1.out.mono ?_
  rintro e w2 ⟨rfl, r2, g2⟩
  have G2 := hid g2
  clear g2
  have c0 := (HF.out w2 r2.cs.fz).1
  have c1 := (HF.out w2 r2.cs.fz).2
  have C2 := hid (word_any r2 P.out.2.2.2.1)
  clear r2
  unfold CP at C2
  go_wp2_with fail
  refine C2.out.mono ?_
  rintro e w3 ⟨rfl, r3, g3⟩
  have G3 := hid g3
  clear g3
  have c0 := (HF.out w3 r3.cs.fz).1
  have c1 := (HF.out w3 r3.cs.fz).2
  have C3 := hid (HA.out z k s2 s' _ P.out.2.1 P.out.2.2.2.2 r3)
  clear r3
  unfold CP at C3
  go_wp2_with fail
  refine C3.out.mono ?_
  rintro e w4 ⟨rfl, r4, g4⟩
  have G4 := hid g4
  clear g4
  have RR := hid r4
  clear r4
  go_wp2
  first | go_end0 | skip
  exact ⟨rfl, RR.out, (((G1.out.tr G2.out).tr G3.out).tr G4.out)⟩
end Go.Proofs.YtcdijppegfcoaabGreatDoor

/-
  OUR OWN TEXT. The program's drafts: addFirst whole, addFrom, add.
-/
namespace Go.Proofs.YtcdijppegfcoaabGreatDoor
open Go.RowKit

theorem first_any {H : Nat → Option Obj} {ca : List Nat} {σ : Sto} {d : Nat → Nat} {c : Dc} {bs md f : Nat} (hM : Md md c) (hA : ADDC H ca σ d c bs md f) (hR : FRMC H ca σ d c bs md f) : FSTC H ca σ d c bs md f := by
  intro v t s s' w hv hs h
  obtain ⟨v1, m, hr1, _, hN⟩ := now_q (σ := σ) (d := d) hv h.cs
  -- now leaves one of the kinds: each by its own walk
  have key : ∀ v1, ERep 0 H ca (m + 2) v1 (nowS σ t) → Calls Tryz.prog 168 #[v] w (fun e w' => e = .returned v1 ∧ DW H ca σ d c bs s w' ∧ Gb (DG ca c bs) w w') →
      Calls Tryz.prog 128 #[CP c.db, v] w (ADP H ca σ d c bs s' w) := by
    intro v1 hr hC
    unfold firstS at hs
    generalize nowS σ t = u at hs hr
    obtain ⟨b, hr⟩ := hr
    rcases hr with ⟨h1, h2, h3, h4⟩ | ⟨h1, h2, h3, h0, h4, h5⟩ | ⟨h1, h2, h3, h4⟩ | ⟨h1, h0, a, u1, h2, h3, h4, h5⟩ | ⟨h1, h0, a, k, u1, z, h2, h3, h4, h5, h6⟩ | ⟨h1, h0, a, k, u1, z, h2, h3, h4, h5, h6⟩
    · rw [if_neg (by rw [h1]; decide), if_pos h1] at hs
      unfold ownS at hs
      split at hs
      · rename_i hc
        obtain ⟨a, ha⟩ := Option.isSome_iff_exists.1 (hM.2 hc.1)
        subst h4
        have hl : u.num < σ.rep.length := by rw [← h.cs.len]; exact (List.getElem?_eq_some_iff.1 h3).1
        exact first_cell ha (by have := h.cs.few; omega) hc.2 hC h3 hs
      · cases hs
    · rw [if_pos h1] at hs
      unfold anyS at hs
      subst h4
      by_cases hm : md = 0
      · rw [if_pos hm] at hs
        exact first_var_id (hM.1.1 hm) hC h5 (any_id hs)
      · rw [if_neg hm] at hs
        split at hs
        · rename_i hL
          cases ha : c.any with
          | none => exact absurd (hM.1.2 ha) hm
          | some a => exact first_var_ask ha hC h5 (any_ask ha h3 hL hs)
        · cases hs
    · rw [if_neg (by rcases h1 with h1 | h1 <;> rw [h1] <;> decide), if_neg (by rcases h1 with h1 | h1 <;> rw [h1] <;> decide), h2] at hs
      subst h3
      exact first_basic hC h4 hs
    · rw [if_neg (by rw [h1]; decide), if_neg (by rw [h1]; decide), h2] at hs
      subst h3
      obtain ⟨s2, e2, p3⟩ := wordS_some hs
      obtain ⟨s1, e1, p2⟩ := goOn_some e2
      exact first_list hC h4 hA ⟨_, h5⟩ e1 p2 p3
    · rw [if_neg (by rw [h1]; decide), if_neg (by rw [h1]; decide), h2] at hs
      subst h3
      have hs' : (if u.kind = kFun then goOn (draftS σ md f) k (wordS [32, 45, 62, 32] (fromS (draftS σ md f) σ a (some s))) else wordS [41] (goOn (draftS σ md f) k (wordS [44, 32] (goOn (draftS σ md f) a (wordS [40] (some s)))))) = some s' := hs
      rw [if_neg (by rw [h1]; decide)] at hs'
      obtain ⟨s4, e4, p5⟩ := wordS_some hs'
      obtain ⟨s3, e3, p4⟩ := goOn_some e4
      obtain ⟨s2, e2, p3⟩ := wordS_some e3
      obtain ⟨s1, e1, p2⟩ := goOn_some e2
      exact first_pair hC h4 hA ⟨_, h5⟩ ⟨_, h6⟩ e1 p2 p3 p4 p5
    · rw [if_neg (by rw [h1]; decide), if_neg (by rw [h1]; decide), h2] at hs
      subst h3
      have hs' : (if u.kind = kFun then goOn (draftS σ md f) k (wordS [32, 45, 62, 32] (fromS (draftS σ md f) σ a (some s))) else wordS [41] (goOn (draftS σ md f) k (wordS [44, 32] (goOn (draftS σ md f) a (wordS [40] (some s)))))) = some s' := hs
      rw [if_pos h1] at hs'
      obtain ⟨s2, e2, p3⟩ := goOn_some hs'
      obtain ⟨s1, e1, p2⟩ := wordS_some e2
      exact first_arrow hC h4 hA hR ⟨_, h5⟩ ⟨_, h6⟩ e1 p2 p3
  refine key v1 hr1 (hN.mono ?_)
  rintro e w' ⟨rfl, q2, q3⟩
  exact ⟨rfl, h.cells q2 q3, DG.cells q3⟩
end Go.Proofs.YtcdijppegfcoaabGreatDoor

/-
  OUR OWN TEXT. The program's drafts: addFrom, add.
-/
namespace Go.Proofs.YtcdijppegfcoaabGreatDoor
open Go.RowKit

theorem kinds_ne : (kInt ≠ kFun ∧ kBool ≠ kFun ∧ oList ≠ kFun ∧ oPair ≠ kFun ∧ oCell ≠ kFun ∧ ([] : List UInt8) ≠ kFun) := by decide
/-- What a type's value shows of its being an arrow. -/
theorem ERep.arrow {lo m : Nat} {H : Nat → Option Obj} {ca : List Nat} {v : Value} {t : Et} (h : ERep lo H ca m v t) : ∃ T0 b, v = .iface T0 (.pointer (some ⟨b, 0, none⟩)) ∧
    ((t.kind = kFun ∧ ∀ w, (Instr.typeAssert (.iface T0 (.pointer (some ⟨b, 0, none⟩))) 77 209 true).run Tryz.prog w = .ok (.tuple #[.pointer (some ⟨b, 0, none⟩), .bool true]) w) ∨
     (t.kind ≠ kFun ∧ ∀ w, (Instr.typeAssert (.iface T0 (.pointer (some ⟨b, 0, none⟩))) 77 209 true).run Tryz.prog w = .ok (.tuple #[.pointer none, .bool false]) w)) := by
  cases m with
  | zero => exact absurd h id
  | succ m =>
  obtain ⟨b, h⟩ := h
  obtain ⟨n1, n2, n3, n4, n5, n6⟩ := kinds_ne
  rcases h with ⟨h1, h2, h3, h4⟩ | ⟨h1, h2, h3, h0, h4, h5⟩ | ⟨h1, h2, h3, h4⟩ | ⟨h1, h0, a, u, h2, h3, h4, h5⟩ | ⟨h1, h0, a, c, u, z, h2, h3, h4, h5, h6⟩ | ⟨h1, h0, a, c, u, z, h2, h3, h4, h5, h6⟩
  · exact ⟨_, b, h4, Or.inr ⟨by rw [h1]; exact n5, fun w => e_Cell_Arrow b w⟩⟩
  · exact ⟨_, b, h4, Or.inr ⟨by rw [h1]; exact n6, fun w => e_Var_Arrow b w⟩⟩
  · exact ⟨_, b, h3, Or.inr ⟨by rcases h1 with h1 | h1 <;> rw [h1] <;> assumption, fun w => e_Basic_Arrow b w⟩⟩
  · exact ⟨_, b, h3, Or.inr ⟨by rw [h1]; exact n3, fun w => e_List_Arrow b w⟩⟩
  · exact ⟨_, b, h3, Or.inr ⟨by rw [h1]; exact n4, fun w => e_Pair_Arrow b w⟩⟩
  · exact ⟨_, b, h3, Or.inl ⟨h1, fun w => e_Arrow_Arrow b w⟩⟩

set_option maxRecDepth 100000 in
set_option maxHeartbeats 8000000 in
theorem from_any {H : Nat → Option Obj} {ca : List Nat} {σ : Sto} {d : Nat → Nat} {c : Dc} {bs md f : Nat} (hA : ADDC H ca σ d c bs md f) : FRMC H ca σ d c bs md f := by
  intro v t s s' w hv hs h
  obtain ⟨v1, m, hr1, _, hN⟩ := now_q (σ := σ) (d := d) hv h.cs
  obtain ⟨T0, b, rfl, hq⟩ := hr1.arrow
  have HN := hid hN
  have HD := hid h
  have HA := hid hA
  have HV := hid hv
  clear hN h hA hv hr1
  unfold fromS at hs
  unfold CP
  rcases hq with ⟨hk, hq⟩ | ⟨hk, hq⟩
  · rw [if_pos hk] at hs
    obtain ⟨s2, e2, p3⟩ := wordS_some hs
    obtain ⟨s1, e1, p2⟩ := goOn_some e2
    have P := hid (And.intro (show putS [40] 0 0 s = some s1 from e1) (And.intro p2 p3))
    clear hs e2 e1 p2 p3 hk
    go_enter Tryz.func170, Tryz.ntmps170
    go_wp2_with fail
    refine HN.out.mono ?_
    rintro e w1 ⟨rfl, r0, g0⟩
    have r1 := HD.out.cells r0 g0
    have G1 := hid (DG.cells (c := c) (bs := bs) g0)
    have C1 := hid (word_any r1 P.out.1)
    clear r0 g0 r1 HN
    unfold CP at C1
    go_wp2_with fail
    refine C1.out.mono ?_
    rintro e w2 ⟨rfl, r2, g2⟩
    have G2 := hid g2
    have C2 := hid (HA.out _ _ _ _ _ HV.out P.out.2.1 r2)
    clear r2 g2 C1
    unfold CP at C2
    go_wp2_with fail
    refine C2.out.mono ?_
    rintro e w3 ⟨rfl, r3, g3⟩
    have G3 := hid g3
    have C3 := hid (word_any r3 P.out.2.2)
    clear r3 g3 C2
    unfold CP at C3
    go_wp2_with fail
    refine C3.out.mono ?_
    rintro e w4 ⟨rfl, r4, g4⟩
    have R4 := hid (And.intro r4 g4)
    clear r4 g4 C3
    go_wp2
    first | go_end0 | skip
    exact ⟨rfl, R4.out.1, ((G1.out.tr G2.out).tr G3.out).tr R4.out.2⟩
  · rw [if_neg hk] at hs
    have P := hid (show draftS σ md f t s = some s' from hs)
    clear hs hk
    go_enter Tryz.func170, Tryz.ntmps170
    go_wp2_with fail
    refine HN.out.mono ?_
    rintro e w1 ⟨rfl, r0, g0⟩
    have r1 := HD.out.cells r0 g0
    have G1 := hid (DG.cells (c := c) (bs := bs) g0)
    have C1 := hid (HA.out _ _ _ _ _ HV.out P.out r1)
    clear r0 g0 r1 HN
    unfold CP at C1
    go_wp2_with fail
    refine C1.out.mono ?_
    rintro e w2 ⟨rfl, r2, g2⟩
    have R2 := hid (And.intro r2 g2)
    clear r2 g2 C1
    go_wp2
    first | go_end0 | skip
    exact ⟨rfl, R2.out.1, G1.out.tr R2.out.2⟩

theorem DR.stand {c : Dc} {bs : Nat} {s : Ds} {w w' : World} {l : List (Nat × Nat × Nat)} (h : DR c bs s w) (hm : GM kI standA 3 w' c.mb l) (g : w.grownBy w' (some c.mb)) : DR c bs ⟨s.steps, s.out, l, s.L, s.O⟩ w' := by
  obtain ⟨sv, hb, ho⟩ := h.blk
  have hk : ∀ (k : Nat) (o : Obj), w.heap[k]? = some o → k ≠ c.mb → w'.heap[k]? = some o := fun k o e hn => (g.block k (lt_of_block e) (by simpa using hn)).trans e
  have hc : ∀ (k : Nat) (cs : Array Value) (t : TypeId) (fz : Nat × Nat), w.heap[k]? = some (Obj.cells cs t fz) → k ≠ c.mb := fun k cs t fz e => h.st.apart e
  have s1 : ∀ (k : Nat) (o : Obj), w.heap[k]? = some o → k ≠ c.mb → w'.heap[k]? = w.heap[k]? := fun k o e hn => (hk k o e hn).trans e.symm
  refine ⟨⟨sv, hk _ _ hb (hc _ _ _ _ hb), ho.1, ?_⟩, h.run, h.ok, h.short, hm, fun b hb2 => ?_, fun b hb2 => ?_, h.ap, h.lo⟩
  · rcases ho.2 with q | ⟨gb, cap, cur, q1, q2, q3, q4⟩
    · exact Or.inl q
    · exact Or.inr ⟨gb, cap, cur, q1, q2, hk _ _ q3 (hc _ _ _ _ q3), q4⟩
  · obtain ⟨j, l3, l4⟩ := h.an b hb2
    obtain ⟨D, ⟨es, clock, q1, q2⟩, q3⟩ := j.mp
    exact ⟨j.same (s1 _ _ j.mrk (hc _ _ _ _ j.mrk)) (s1 _ _ j.nf (hc _ _ _ _ j.nf)) (s1 _ _ j.blk (hc _ _ _ _ j.blk)) (s1 _ _ q1 l4), l3, l4⟩
  · obtain ⟨j, l3⟩ := h.ow b hb2
    obtain ⟨es, cl, e⟩ := j.mp.isMap
    exact ⟨j.same (s1 _ _ j.mrk (hc _ _ _ _ j.mrk)) (s1 _ _ j.nf (hc _ _ _ _ j.nf)) (s1 _ _ j.blk (hc _ _ _ _ j.blk)) (s1 _ _ e l3), l3⟩
end Go.Proofs.YtcdijppegfcoaabGreatDoor

/-
  OUR OWN TEXT. The program's drafts: add.
-/
namespace Go.Proofs.YtcdijppegfcoaabGreatDoor
open Go.RowKit

theorem zero_step (w : World) : (zeroValue 225).run Tryz.prog w = .ok (.agg #[.string (B []), .int .i64 0, .int .i64 0]) w := by kernel_rfl
theorem DW.stand {H : Nat → Option Obj} {ca : List Nat} {σ : Sto} {d : Nat → Nat} {c : Dc} {bs : Nat} {s : Ds} {w w' : World} {l : List (Nat × Nat × Nat)} (h : DW H ca σ d c bs s w) (hm : GM kI standA 3 w' c.mb l) (g : w.grownBy w' (some c.mb)) : DW H ca σ d c bs ⟨s.steps, s.out, l, s.L, s.O⟩ w' ∧ Gb (DG ca c bs) w w' := by
  have g1 : Gb (fun k => bs ≤ k) w w' := Gb.of g (fun b e => by cases e; exact Or.inl h.dr.lo.2)
  exact ⟨h.put (h.dr.stand hm g) g1, DG.put g1⟩

theorem DW.alloc {H : Nat → Option Obj} {ca : List Nat} {σ : Sto} {d : Nat → Nat} {c : Dc} {bs : Nat} {s : Ds} {w : World} (h : DW H ca σ d c bs s w) (o : Obj) : DW H ca σ d c bs s (w.alloc o) :=
  ⟨h.cs.gb (R := fun _ => False) ((Gb.refl _ _).alloc o) (fun _ _ e => e) (fun _ _ _ e => e), h.dr.same fun k x e _ => by rw [Below.heap_alloc _ _ _ (lt_of_block e)]; exact e, h.lowa, h.lowH, h.off, by simp; have := h.big; omega⟩
theorem Gb.allocL {R : Nat → Prop} {w w' : World} {o : Obj} (h : Gb R (w.alloc o) w') : Gb R w w' := ((Gb.refl R w).alloc o).tr h
set_option maxRecDepth 100000 in
set_option maxHeartbeats 8000000 in
theorem add_other {H : Nat → Option Obj} {ca : List Nat} {σ : Sto} {d : Nat → Nat} {c : Dc} {bs : Nat} {s' : Ds} {w : World} {T0 : TypeId} {b : Nat}
    (hq : ∀ w, (Instr.typeAssert (.iface T0 (.pointer (some ⟨b, 0, none⟩))) 77 173 true).run Tryz.prog w = .ok (.tuple #[.pointer none, .bool false]) w)
    (hF : Calls Tryz.prog 128 #[CP c.db, .iface T0 (.pointer (some ⟨b, 0, none⟩))] w (ADP H ca σ d c bs s' w)) :
    Calls Tryz.prog 87 #[CP c.db, .iface T0 (.pointer (some ⟨b, 0, none⟩))] w (ADP H ca σ d c bs s' w) := by
  have HF := hid hF
  clear hF
  unfold CP at HF ⊢
  go_enter Tryz.func87, Tryz.ntmps87
  go_wp2_with fail
  refine HF.out.mono ?_
  rintro e w1 ⟨rfl, r1, g1⟩
  have R1 := hid (And.intro r1 g1)
  clear r1 g1 HF
  go_wp2
  first | go_end0 | skip
  exact ⟨rfl, R1.out.1, R1.out.2⟩

set_option maxRecDepth 100000 in
set_option maxHeartbeats 8000000 in
theorem add_again {H : Nat → Option Obj} {ca : List Nat} {σ : Sto} {d : Nat → Nat} {c : Dc} {bs : Nat} {s s' : Ds} {w : World} {n b x y : Nat} (hb : ca[n]? = some b) (h : DW H ca σ d c bs s w) (hg : getL s.stands (σ.root n) = some (x, y)) (hp : putS [] x y s = some s') :
    Calls Tryz.prog 87 #[CP c.db, CI b] w (ADP H ca σ d c bs s' w) := by
  have HL := hid (last_any (d n + 1) n b w (by omega) hb h.cs)
  have q1 := e_Cell_Cell b
  have Q := hid (And.intro hb (And.intro h (And.intro hg hp)))
  clear hb h hg hp
  unfold CP at HL ⊢
  unfold CI
  go_enter Tryz.func87, Tryz.ntmps87
  go_wp2_with fail
  refine HL.out.mono ?_
  rintro e w1 ⟨b1, rfl, h1, h2, h3, _⟩
  have r1 := Q.out.2.1.cells h2 h3
  have G1 := hid (DG.cells (c := c) (bs := bs) h3)
  obtain ⟨v1, hv1, _⟩ := h2.blk _ b1 h1
  have c0 := (cell_at hv1).1
  obtain ⟨sv, hsv, _⟩ := r1.dr.blk
  have c4 := (draft_cells hsv).2.2.2.2.1
  have hfew : σ.root n ≤ 1099511627776 := by
    have := (List.getElem?_eq_some_iff.1 h1).1
    rw [h2.len] at this
    have := h2.few
    omega
  have hlk := r1.dr.st.look intLaw Tryz.underlying213 (zero_step w1) (kI_key hfew)
  rw [Q.out.2.2.1] at hlk
  simp only [Option.map_some, Option.getD_some, standA, Option.isSome_some] at hlk
  have C1 := hid (put_any (r1.alloc (.cells #[.string (B []), .int .i64 (x : Int), .int .i64 (y : Int)] 225)).dr Q.out.2.2.2 (r1.alloc (.cells #[.string (B []), .int .i64 (x : Int), .int .i64 (y : Int)] 225)).big)
  have R1 := hid r1
  clear h1 h2 h3 hv1 r1 hsv hfew HL
  unfold CP stepA at C1
  unfold CP
  go_wp2_with fail
  refine C1.out.mono ?_
  rintro e w2 ⟨rfl, r2, g2⟩
  have R2 := hid (And.intro r2 g2)
  clear r2 g2 C1
  go_wp2
  first | go_end0 | skip
  exact ⟨rfl, (R1.out.alloc _).put R2.out.1 R2.out.2, G1.out.tr (Gb.allocL (DG.put R2.out.2))⟩

set_option maxRecDepth 100000 in
set_option maxHeartbeats 8000000 in
theorem add_first {H : Nat → Option Obj} {ca : List Nat} {σ : Sto} {d : Nat → Nat} {c : Dc} {bs : Nat} {s s1 : Ds} {w : World} {n b : Nat} (hb : ca[n]? = some b) (h : DW H ca σ d c bs s w) (hg : getL s.stands (σ.root n) = none) (hg1 : getL s1.stands (σ.root n) = none) (hl : s1.stands.length < 100000)
    (hF : ∀ w, DW H ca σ d c bs s w → Calls Tryz.prog 128 #[CP c.db, CI b] w (ADP H ca σ d c bs s1 w)) :
    Calls Tryz.prog 87 #[CP c.db, CI b] w (ADP H ca σ d c bs ⟨s1.steps, s1.out, s1.stands ++ [(σ.root n, s.out.length, s1.out.length)], s1.L, s1.O⟩ w) := by
  have HL := hid (last_any (d n + 1) n b w (by omega) hb h.cs)
  have q1 := e_Cell_Cell b
  have Q := hid (And.intro hb (And.intro h (And.intro hg (And.intro hg1 hl))))
  have HF := hid hF
  clear hb h hg hg1 hl hF
  unfold CP at HL ⊢
  unfold CI
  go_enter Tryz.func87, Tryz.ntmps87
  go_wp2_with fail
  refine HL.out.mono ?_
  rintro e w1 ⟨b1, rfl, h1, h2, h3, _⟩
  have r1 := Q.out.2.1.cells h2 h3
  have G1 := hid (DG.cells (c := c) (bs := bs) h3)
  obtain ⟨v1, hv1, _⟩ := h2.blk _ b1 h1
  have c0 := (cell_at hv1).1
  obtain ⟨sv, hsv, _⟩ := r1.dr.blk
  have c4 := (draft_cells hsv).2.2.2.2.1
  have c3 := (draft_cells hsv).2.2.2.1
  have hdl := lt_of_block hsv
  have hfew : σ.root n ≤ 1099511627776 := by
    have := (List.getElem?_eq_some_iff.1 h1).1
    rw [h2.len] at this
    have := h2.few
    omega
  have hlk := r1.dr.st.look intLaw Tryz.underlying213 (zero_step w1) (kI_key hfew)
  rw [Q.out.2.2.1] at hlk
  simp only [Option.map_none, Option.getD_none, Option.isSome_none] at hlk
  have C1 := hid (HF.out _ (r1.alloc (.cells #[.string (B []), .int .i64 0, .int .i64 0] 225)))
  have R1 := hid (And.intro r1 hfew)
  clear h1 h2 h3 hv1 r1 hsv hfew HL
  unfold CP CI at C1
  unfold CP
  go_wp2_with fail
  refine C1.out.mono ?_
  rintro e w2 ⟨rfl, r2, g2⟩
  obtain ⟨sv2, hsv2, _⟩ := r2.dr.blk
  have x3 := (draft_cells hsv2).2.2.2.1
  have x4 := (draft_cells hsv2).2.2.2.2.1
  obtain ⟨w5, hst, hmp, hg5⟩ := GM.store r2.drew.dr.st intLaw Tryz.underlying213 kI_inj kI_lit (by have := Q.out.2.2.2.2; omega) (s.out.length, s1.out.length) (kI_key R1.out.2)
  rw [putL_new _ Q.out.2.2.2.1] at hmp
  have R2 := hid (And.intro r2 (And.intro g2 (And.intro hmp hg5)))
  unfold standA at hst
  change (Instr.mapUpdate _ _ _ (.agg #[.string ⟨#[]⟩, _, _])).run _ _ = _ at hst
  clear r2 g2 hmp hg5 hsv2 C1
  go_wp2_with fail
  go_region
  all_goals
    go_wp2
    first | go_end0 | skip
    obtain ⟨r2, g2, hmp, hg5⟩ := R2.out
    obtain ⟨a1, a2⟩ := r2.drew.stand hmp hg5
    exact ⟨rfl, a1, (G1.out.tr (Gb.allocL g2)).tr (Gb.drewL a2)⟩
/-- add, where addFirst is known. -/
theorem add_step {H : Nat → Option Obj} {ca : List Nat} {σ : Sto} {d : Nat → Nat} {c : Dc} {bs md f : Nat} (hF : FSTC H ca σ d c bs md f) : ADDC H ca σ d c bs md (f + 1) := by
  intro v t s s' w hv hs h
  have hv0 := hv
  obtain ⟨m, hv⟩ := hv
  cases m with
  | zero => exact absurd hv id
  | succ m =>
  obtain ⟨b, hv⟩ := hv
  rw [draftS] at hs
  have other : ∀ (T0 : TypeId), v = .iface T0 (.pointer (some ⟨b, 0, none⟩)) → t.kind ≠ oCell → (∀ w, (Instr.typeAssert (.iface T0 (.pointer (some ⟨b, 0, none⟩))) 77 173 true).run Tryz.prog w = .ok (.tuple #[.pointer none, .bool false]) w) →
      Calls Tryz.prog 87 #[CP c.db, v] w (ADP H ca σ d c bs s' w) := fun T0 e hk hq => by
    rw [if_neg hk] at hs
    subst e
    exact add_other hq (hF _ _ _ _ _ hv0 hs h)
  rcases hv with ⟨h1, h2, h3, h4⟩ | ⟨h1, h2, h3, h0, h4, h5⟩ | ⟨h1, h2, h3, h4⟩ | ⟨h1, h0, a, u, h2, h3, h4, h5⟩ | ⟨h1, h0, a, k, u, z, h2, h3, h4, h5, h6⟩ | ⟨h1, h0, a, k, u, z, h2, h3, h4, h5, h6⟩
  · rw [if_pos h1] at hs
    subst h4
    cases hg : getL s.stands (σ.root t.num) with
    | some p =>
      rw [hg] at hs
      exact add_again h3 h hg hs
    | none =>
      rw [hg] at hs
      simp only at hs
      cases e1 : firstS (draftS σ md f) σ md t s with
      | none => rw [e1] at hs; cases hs
      | some s1 =>
        rw [e1] at hs
        unfold standS at hs
        simp only at hs
        cases hg1 : getL s1.stands (σ.root t.num) with
        | some p => rw [hg1] at hs; cases hs
        | none =>
          rw [hg1] at hs
          simp only at hs
          split at hs
          · rename_i hl
            cases hs
            exact add_first h3 h hg hg1 hl (fun w' h' => hF _ _ _ _ _ hv0 e1 h')
          · cases hs
  · exact other _ h4 (by rw [h1]; decide) (fun w => e_Var_Cell b w)
  · exact other _ h3 (by rcases h1 with h1 | h1 <;> rw [h1] <;> decide) (fun w => e_Basic_Cell b w)
  · exact other _ h3 (by rw [h1]; decide) (fun w => e_List_Cell b w)
  · exact other _ h3 (by rw [h1]; decide) (fun w => e_Pair_Cell b w)
  · exact other _ h3 (by rw [h1]; decide) (fun w => e_Arrow_Cell b w)
/-- add, whatever the fuel. -/
theorem add_any {H : Nat → Option Obj} {ca : List Nat} {σ : Sto} {d : Nat → Nat} {c : Dc} {bs md : Nat} (hM : Md md c) : ∀ f, ADDC H ca σ d c bs md f
  | 0 => fun v t s s' w _ hs _ => by cases hs
  | f + 1 => add_step (first_any hM (add_any hM f) (from_any (add_any hM f)))
end Go.Proofs.YtcdijppegfcoaabGreatDoor

/-
  OUR OWN TEXT. The program's drafts: a text is written.
-/
namespace Go.Proofs.YtcdijppegfcoaabGreatDoor
open Go.RowKit

theorem bld_grow (b n : Nat) (w : World) (hbk : w.heap[b]? = some (.cells #[.pointer none, .slice none 0 0] 222 (0, 0))) (bs : Nat) (hB : bs ≤ b) (hBw : bs ≤ w.heap.size) (hn : n ≤ 281474976710656) :
    Calls Tryz.prog 91 #[.pointer (some ⟨b, 0, none⟩), .int .i64 n] w fun e w' => e = .returned (.tuple #[]) ∧ (Lib.BuilderAt 222 5 bs b (.pointer (some ⟨b, 0, none⟩)) [] w' ∧ Below bs w w') :=
  Any.Builder_Grow_fresh { Tryz.lays156 with } Tryz.Builder_Extra_156 bs b n w hB hbk hBw hn
theorem bld_write (bs b : Nat) (l : List Value) (s : ByteArray) (w : World) (h : Lib.IsBuilderF 222 5 bs b l w) (hlen : l.length + s.size ≤ 140737488355328) (hBw : bs ≤ w.heap.size) :
    Calls Tryz.prog 92 #[.pointer (some ⟨b, 0, none⟩), .string s] w fun e w' => e = .returned (.tuple #[.int .i64 s.size, .nilIface]) ∧ (Lib.BuilderAtF 222 5 bs b (.pointer (some ⟨b, 0, none⟩)) (l ++ Lib.strCells s) w' ∧ Below bs w w' ∧ Lib.OthersKept 5 (some b) w w') :=
  Any.Builder_WriteString_k { Tryz.lays156 with } Tryz.Builder_Extra_156 bs b l s w h hlen hBw
theorem bld_string (bs b : Nat) (l : List UInt8) (w : World) (h : Lib.IsBuilderF 222 5 bs b (Lib.byteCells l) w) (hBw : bs ≤ w.heap.size) :
    Calls Tryz.prog 93 #[.pointer (some ⟨b, 0, none⟩)] w fun e w' => e = .returned (.string ⟨l.toArray⟩) ∧ (Lib.IsBuilderF 222 5 bs b (Lib.byteCells l) w' ∧ Below bs w w' ∧ Lib.OthersKept 5 (some b) w w') :=
  Any.Builder_String_any_k { Tryz.lays156 with } Tryz.Builder_Extra_156 bs b l w h hBw
theorem stepsL_at : ∀ (l : List (List UInt8 × Nat × Nat)) (j : Nat) (x : List UInt8) (f t : Nat), l[j]? = some (x, f, t) → (stepsL l)[3 * j]? = some (.string (B x)) ∧ (stepsL l)[3 * j + 1]? = some (.int .i64 (f : Int)) ∧ (stepsL l)[3 * j + 2]? = some (.int .i64 (t : Int))
  | [], j, x, f, t, h => by simp at h
  | a :: l, 0, x, f, t, h => by
    simp at h
    subst h
    exact ⟨rfl, rfl, rfl⟩
  | a :: l, j + 1, x, f, t, h => by
    have ih := stepsL_at l j x f t (by simpa using h)
    have e : stepsL (a :: l) = stepL a ++ stepsL l := rfl
    have e3 : (stepL a).length = 3 := rfl
    rw [e, List.getElem?_append_right (by rw [e3]; omega), List.getElem?_append_right (by rw [e3]; omega), List.getElem?_append_right (by rw [e3]; omega), e3]
    rw [show 3 * (j + 1) - 3 = 3 * j from by omega, show 3 * (j + 1) + 1 - 3 = 3 * j + 1 from by omega, show 3 * (j + 1) + 2 - 3 = 3 * j + 2 from by omega]
    exact ih
/-- A draft's steps, one by one. -/
theorem steps_at {w : World} {bs : Nat} {sv : Value} {l : List (List UInt8 × Nat × Nat)} (h : w.ownsRow bs 225 3 sv l.length (stepsL l)) : ∃ ao cap, sv = .slice ao l.length cap ∧ ∀ (j : Nat) (x : List UInt8) (f t : Nat), l[j]? = some (x, f, t) → ∃ g, ao = some ⟨g, 0, none⟩ ∧ g < w.heap.size ∧
    w.cell? ⟨g, j * 3, none⟩ = some (.string (B x)) ∧ w.cell? ⟨g, j * 3 + 1, none⟩ = some (.int .i64 (f : Int)) ∧ w.cell? ⟨g, j * 3 + 2, none⟩ = some (.int .i64 (t : Int)) := by
  rcases h.2 with ⟨rfl, h0⟩ | ⟨g, cap, cur, rfl, q2, q3, q4, q5, q6, q7⟩
  · refine ⟨none, 0, by rw [h0], fun j x f t e => ?_⟩
    have hj := (List.getElem?_eq_some_iff.1 e).1
    rw [h0] at hj
    omega
  · refine ⟨_, cap, rfl, fun j x f t e => ⟨g, rfl, lt_of_block q3, ?_⟩⟩
    obtain ⟨a1, a2, a3⟩ := stepsL_at l j x f t e
    have hj := (List.getElem?_eq_some_iff.1 e).1
    have hc : ∀ (i : Nat) (v : Value), (stepsL l)[i]? = some v → w.cell? ⟨g, i, none⟩ = some v := fun i v hi => by
      rw [cell_of_row w g i cur _ _ q3]
      rw [← q7, List.getElem?_take] at hi
      split at hi
      · simpa using hi
      · cases hi
    rw [Nat.mul_comm j 3]
    exact ⟨hc _ _ a1, hc _ _ a2, hc _ _ a3⟩
theorem runS_len : ∀ (l : List (List UInt8 × Nat × Nat)) (out : List UInt8), out.length ≤ (runS l out).length
  | [], out => Nat.le_refl _
  | (x, f, t) :: l, out => by
    rw [runS]
    have := runS_len l (out ++ x ++ ((out ++ x).drop f).take (t - f))
    simp only [List.length_append] at this
    omega
theorem runS_step {l : List (List UInt8 × Nat × Nat)} {j : Nat} {x : List UInt8} {f t : Nat} (h : l[j]? = some (x, f, t)) (out : List UInt8) : runS (l.take (j + 1)) out = runS (l.take j) out ++ x ++ ((runS (l.take j) out ++ x).drop f).take (t - f) := by
  rw [List.take_add_one, h, runS_app]
  rfl
theorem okS_at : ∀ {l : List (List UInt8 × Nat × Nat)} {j : Nat} {x : List UInt8} {f t : Nat} {out : List UInt8}, okS l out → l[j]? = some (x, f, t) → f ≤ t ∧ t ≤ (runS (l.take j) out).length + x.length
  | [], j, x, f, t, out, _, h => by simp at h
  | a :: l, 0, x, f, t, out, ho, h => by
    simp at h
    subst h
    exact ⟨ho.1, ho.2.1⟩
  | (x', f', t') :: l, j + 1, x, f, t, out, ho, h => by
    have := okS_at (l := l) (j := j) ho.2.2 (by simpa using h)
    rw [List.take_succ_cons, runS]
    exact this
theorem zero_bld (w : World) : (zeroValue 222).run Tryz.prog w = .ok (.agg #[.pointer none, .slice none 0 0]) w := by kernel_rfl
set_option maxRecDepth 100000 in
set_option maxHeartbeats 8000000 in
theorem dtext_any {c : Dc} {bs : Nat} {s : Ds} {w : World} (h : DR c bs s w) : Calls Tryz.prog 56 #[CP c.db] w fun e w' => e = .returned (.string (B s.out)) ∧ Below w.heap.size w w' := by
  obtain ⟨sv, hb, hown⟩ := h.blk
  obtain ⟨ao, cap, rfl, hst⟩ := steps_at hown
  obtain ⟨_, _, c2, c3, _, _, _⟩ := draft_cells hb
  have hdl := lt_of_block hb
  have Q := hid (And.intro h (And.intro hst hb))
  have hn := h.short
  obtain ⟨hn1, hn2⟩ := hn
  have hk : (w.alloc (.cells #[.pointer none, .slice none 0 0] 222)).heap[w.heap.size]? = some (.cells #[.pointer none, .slice none 0 0] 222 (0, 0)) := heap_alloc_at _ _ _ rfl
  have HG := hid (bld_grow w.heap.size s.out.length _ hk w.heap.size (Nat.le_refl _) (by simp) (by omega))
  clear h hb hown hk hst
  unfold CP
  go_enter Tryz.func56, Tryz.ntmps56
  go_wp2_with fail
  refine HG.out.mono ?_
  rintro e w1 ⟨rfl, r1, b1⟩
  have c2' : w1.cell? ⟨c.db, 2, none⟩ = some (.slice ao s.steps.length cap) := by
    rw [b1.cell (p := ⟨c.db, 2, none⟩) hdl, World.cell?_of_block (a := ⟨c.db, 2, none⟩) (Below.heap_alloc _ _ _ hdl)]
    exact c2
  have b0 : Below w.heap.size w w1 := ⟨b1.os, b1.tape, b1.output, by have := b1.size; simp at this; omega, fun k hk => by rw [b1.block k hk, Below.heap_alloc _ _ _ hk]⟩
  have R1 := hid (And.intro (show Lib.IsBuilderF 222 5 w.heap.size w.heap.size (Lib.byteCells (runS (s.steps.take 0) [])) w1 from Or.inr (Lib.BuilderAtF.of r1)) b0)
  clear r1 b1 b0 HG
  go_wp2_with fail
  obtain ⟨n, hn⟩ : ∃ n, n = s.steps.length := ⟨_, rfl⟩
  have HN := hid hn
  rw [← hn] at hn2 ⊢
  clear hn c2 c2' c3
  go_loopg [16] (n + 1) (fun gh i wi => ∃ j : Nat, j ≤ n ∧ i = .int .i64 j ∧ gh = n - j + 1 ∧ Hid (Lib.IsBuilderF 222 5 w.heap.size w.heap.size (Lib.byteCells (runS (s.steps.take j) [])) wi ∧ Below w.heap.size w wi))
  case atStart => exact ⟨0, by omega, rfl, by omega, R1⟩
  case round =>
    obtain ⟨j, hj, rfl, hgj, HI⟩ := hrel
    by_cases hjl : j < n
    · obtain ⟨⟨x, f, t⟩, hst⟩ : ∃ p, s.steps[j]? = some p := ⟨s.steps[j]'(by rw [← HN.out]; exact hjl), List.getElem?_eq_getElem _⟩
      obtain ⟨gb, rfl, hgl, k0, k1, k2⟩ := Q.out.2.1 j x f t hst
      have d0 : wr.cell? ⟨gb, j * 3, none⟩ = some (.string (B x)) := (HI.out.2.cell (p := ⟨gb, j * 3, none⟩) hgl).trans k0
      have d1 : wr.cell? ⟨gb, j * 3 + 1, none⟩ = some (.int .i64 (f : Int)) := (HI.out.2.cell (p := ⟨gb, j * 3 + 1, none⟩) hgl).trans k1
      have d2 : wr.cell? ⟨gb, j * 3 + 2, none⟩ = some (.int .i64 (t : Int)) := (HI.out.2.cell (p := ⟨gb, j * 3 + 2, none⟩) hgl).trans k2
      have hsz := HI.out.2.size
      obtain ⟨y, hy⟩ : ∃ y, y = runS (s.steps.take j) [] := ⟨_, rfl⟩
      have hstep := runS_step hst []
      have hok := okS_at Q.out.1.ok hst
      rw [← hy] at hstep hok
      have hlen : (runS (s.steps.take (j + 1)) []).length ≤ 100000 := by
        have h1 := runS_len (s.steps.drop (j + 1)) (runS (s.steps.take (j + 1)) [])
        rw [← runS_app, List.take_append_drop, Q.out.1.run] at h1
        omega
      rw [hstep] at hlen
      simp only [List.length_append] at hlen
      have HB := HI.out.1
      rw [← hy] at HB
      have hbl : w.heap.size < wr.heap.size := by
        rcases HB with h | h
        · exact h.lt
        · exact h.lt
      have HW := hid (bld_write w.heap.size w.heap.size _ (B x) _ (HB.alloc (.cells #[.string (B x), .int .i64 (f : Int), .int .i64 (t : Int)] 225)) (by rw [Lib.byteCells_length, size_B]; omega) (by simp; omega))
      obtain ⟨z, hz⟩ : ∃ z, z = y ++ x := ⟨_, rfl⟩
      have hzl : t ≤ z.length := by rw [hz, List.length_append]; exact hok.2
      have hft := hok.1
      have hzb : z.length ≤ 100000 := by rw [hz, List.length_append]; omega
      have HH := hid (And.intro hstep (And.intro hok (And.intro hlen (And.intro hy hz))))
      clear k0 k1 k2 hstep hok hlen HB hy hst hz
      go_wp2_with fail
      refine HW.out.mono ?_
      rintro e w3 ⟨rfl, r3, b3, o3⟩
      have hb3 : w3.heap[wr.heap.size]? = some (.cells #[.string (B x), .int .i64 (f : Int), .int .i64 (t : Int)] 225 (0, 0)) := o3 _ _ (heap_alloc_at _ _ _ rfl) (by simp; omega) (fun c fz e => by injection e with _ e _; exact absurd e (by decide))
      obtain ⟨_, z1, z2⟩ := three_cells hb3
      have r3' : Lib.IsBuilderF 222 5 w.heap.size w.heap.size (Lib.byteCells z) w3.drew := by
        rw [HH.out.2.2.2.2, Lib.byteCells_append]
        exact Or.inr r3
      have hs3 : w.heap.size ≤ w3.heap.size := by have := b3.size; simp at this; omega
      have HS := hid (bld_string w.heap.size w.heap.size _ w3.drew r3' hs3)
      have R3 := hid (And.intro b3 hb3)
      have hzs : (⟨z.toArray⟩ : ByteArray).size = z.length := rfl
      have HE := hid (show (⟨z.toArray⟩ : ByteArray).extract f t = B ((z.drop f).take (t - f)) from by rw [ext_cut]; show B ((z.take t).drop f) = _; rw [List.drop_take])
      have HL := hid (show (Lib.byteCells z).length + ((⟨z.toArray⟩ : ByteArray).extract f t).size ≤ 140737488355328 from by rw [HE.out, size_B, Lib.byteCells_length]; simp only [List.length_take, List.length_drop]; omega)
      clear r3 b3 o3 hb3 r3' HW d0 d1 d2
      go_wp2_with fail
      go_region_with (first
        | (go_at_call 93; refine HS.out.mono ?_; rintro e w4 ⟨rfl, r4, b4, o4⟩; have hb4 := o4 _ _ R3.out.2 (by simp; omega) (fun c fz e => by injection e with _ e _; exact absurd e (by decide)); obtain ⟨_, y1, y2⟩ := three_cells hb4; have hs4 : w.heap.size ≤ w4.heap.size := Nat.le_trans hs3 b4.size; have R4 := hid (And.intro r4 b4); clear r4 b4 o4 hb4)
        | (go_at_call 92; refine (bld_write w.heap.size w.heap.size _ _ _ R4.out.1 HL.out hs4).mono ?_; rintro e w5 ⟨rfl, r5, b5, _⟩; have R5 := hid (And.intro r5 b5); clear r5 b5))
      all_goals
        go_wp2_with fail
        go_roundg (n - (j + 1) + 1)
        case measure => omega
        case rel =>
          refine ⟨j + 1, by omega, by go_num, rfl, hid ⟨?_, ?_⟩⟩
          · rw [HH.out.1, ← HH.out.2.2.2.2, Lib.byteCells_append]
            have h5 := R5.out.1
            rw [HE.out] at h5
            exact Or.inr h5
          · have b0 : Below w.heap.size w (wr.alloc (.cells #[.string (B x), .int .i64 (f : Int), .int .i64 (t : Int)] 225)) := HI.out.2.alloc hsz _
            have b4 := R4.out.2
            exact ((b0.trans R3.out.1).trans ⟨b4.os, b4.tape, b4.output, b4.size, b4.block⟩).trans R5.out.2
    · have hje : j = n := by omega
      subst hje
      have HS := hid (bld_string w.heap.size w.heap.size _ wr HI.out.1 HI.out.2.size)
      have e1 : runS (s.steps.take j) [] = s.out := by rw [HN.out, List.take_length]; exact Q.out.1.run
      rw [e1] at HS
      go_wp2_with fail
      refine HS.out.mono ?_
      rintro e w9 ⟨rfl, _, b9, _⟩
      have B9 := hid b9
      clear b9 HS
      go_wp2
      go_ret
      exact ⟨rfl, HI.out.2.trans B9.out⟩
end Go.Proofs.YtcdijppegfcoaabGreatDoor

/-
  OUR OWN TEXT. Types that were read, as types with cells: their texts by drafts.
-/
namespace Go.Proofs.YtcdijppegfcoaabGreatDoor
open Go.RowKit

def qe (ns : List (List UInt8)) : Nat → Ty → Et
  | 0, _ => vT []
  | m + 1, x => if x.kind = [] then vT (ns.getD x.var []) else ⟨x.kind, [], 0, x.kids.map (qe ns m)⟩
theorem QRep.et {ns : List (List UInt8)} {H : Nat → Option Obj} {ca : List Nat} : ∀ (m : Nat) (v : Value) (x : Ty), QRep ns m H v x → ERep 0 H ca m v (qe ns m x)
  | 0, _, _, h => h
  | m + 1, v, x, h => by
    obtain ⟨b, h⟩ := h
    refine ⟨b, ?_⟩
    rw [qe]
    rcases h with ⟨q1, q2, q3, q4, q5⟩ | ⟨q1, q2, q3, q4⟩ | ⟨q1, a, u, q2, q3, q4, q5⟩ | ⟨q1, a, c, u, z, q2, q3, q4, q5, q6⟩ | ⟨q1, a, c, u, z, q2, q3, q4, q5, q6⟩
    · rw [if_pos q1]
      exact Or.inr (Or.inl ⟨rfl, rfl, q3.2, Nat.zero_le _, q4, q5⟩)
    · rw [if_neg (by rcases q1 with q1 | q1 <;> rw [q1] <;> decide)]
      exact Or.inr (Or.inr (Or.inl ⟨q1, by show x.kids.map _ = []; rw [q2]; rfl, q3, q4⟩))
    · rw [if_neg (by rw [q1]; decide)]
      exact Or.inr (Or.inr (Or.inr (Or.inl ⟨q1, Nat.zero_le _, qe ns m a, u, by show x.kids.map _ = _; rw [q2]; rfl, q3, q4, QRep.et m u a q5⟩)))
    · rw [if_neg (by rw [q1]; decide)]
      exact Or.inr (Or.inr (Or.inr (Or.inr (Or.inl ⟨q1, Nat.zero_le _, qe ns m a, qe ns m c, u, z, by show x.kids.map _ = _; rw [q2]; rfl, q3, q4, QRep.et m u a q5, QRep.et m z c q6⟩))))
    · rw [if_neg (by rw [q1]; decide)]
      exact Or.inr (Or.inr (Or.inr (Or.inr (Or.inr ⟨q1, Nat.zero_le _, qe ns m a, qe ns m c, u, z, by show x.kids.map _ = _; rw [q2]; rfl, q3, q4, QRep.et m u a q5, QRep.et m z c q6⟩))))

theorem put_word {x : List UInt8} {s : Ds} (h1 : s.out.length + x.length ≤ 100000) (h2 : s.steps.length < 100000) : putS x 0 0 s = some ⟨s.steps ++ [(x, 0, 0)], s.out ++ x, s.stands, s.L, s.O⟩ := by
  unfold putS
  rw [if_pos ⟨Nat.le_refl _, by omega, by omega, h2⟩]
  simp
/-- What a draft's part leaves. -/
structure Dn (s s' : Ds) (x : List UInt8) (L : List (List UInt8)) (n : Nat) : Prop where
  out : s'.out = s.out ++ x
  L : s'.L = L
  O : s'.O = s.O
  stands : s'.stands = s.stands
  steps : s'.steps.length ≤ s.steps.length + n
theorem Dn.trans {s s1 s2 : Ds} {x y : List UInt8} {L1 L2 : List (List UInt8)} {n m : Nat} (h : Dn s s1 x L1 n) (k : Dn s1 s2 y L2 m) : Dn s s2 (x ++ y) L2 (n + m) :=
  ⟨by rw [k.out, h.out, List.append_assoc], k.L, k.O.trans h.O, k.stands.trans h.stands, by have := h.steps; have := k.steps; omega⟩
theorem Dn.word {s s1 : Ds} {x : List UInt8} {L1 : List (List UInt8)} {n : Nat} (h : Dn s s1 x L1 n) (y : List UInt8) (h1 : s.out.length + x.length + y.length ≤ 100000) (h2 : s.steps.length + n < 100000) :
    ∃ s2, wordS y (some s1) = some s2 ∧ Dn s s2 (x ++ y) L1 (n + 1) := by
  refine ⟨_, put_word (by rw [h.out, List.length_append]; omega) (by have := h.steps; omega), ?_, h.L, h.O, h.stands, ?_⟩
  · show s1.out ++ y = _
    rw [h.out, List.append_assoc]
  · simp
    have := h.steps
    omega
theorem Dn.zero (s : Ds) : Dn s s [] s.L 0 := ⟨by simp, rfl, rfl, rfl, by omega⟩
theorem nowS_q {σ : Sto} {ns : List (List UInt8)} {N : Nat} : ∀ {m : Nat} {x : Ty}, TyOk N m x → nowS σ (qe ns m x) = qe ns m x ∧ (qe ns m x).kind = x.kind ∧ (qe ns m x).kind ≠ oCell
  | 0, _, h => absurd h id
  | m + 1, x, h => by
    have hk : (qe ns (m + 1) x).kind = x.kind := by
      rw [qe]
      split
      · rename_i h1; rw [h1]; rfl
      · rfl
    have hn : (qe ns (m + 1) x).kind ≠ oCell := by
      rw [hk]
      rcases h with ⟨h1, _⟩ | ⟨h1 | h1, _⟩ | ⟨h1, _⟩ | ⟨h1 | h1, _⟩ <;> rw [h1] <;> decide
    exact ⟨by unfold nowS; rw [if_neg hn], hk, hn⟩
theorem getD_one {ns : List (List UInt8)} (hd : ns.Nodup) {i j : Nat} (hi : i < ns.length) (hj : j < ns.length) (h : ns.getD i [] = ns.getD j []) : i = j := by
  have e1 : ns.getD i [] = ns[i] := by simp [List.getD, hi]
  have e2 : ns.getD j [] = ns[j] := by simp [List.getD, hj]
  rw [e1, e2] at h
  have a := hd.idxOf_getElem i hi
  have b := hd.idxOf_getElem j hj
  rw [h] at a
  omega
theorem map_idx {ns : List (List UInt8)} (hd : ns.Nodup) {l : List Nat} {v : Nat} (hv : v < ns.length) (hl : ∀ y, y ∈ l → y < ns.length) : (ns.getD v [] ∈ l.map (fun i => ns.getD i []) ↔ v ∈ l) ∧ (l.map (fun i => ns.getD i [])).idxOf (ns.getD v []) = l.idxOf v := by
  have hinj : ∀ i, i < ns.length → (ns.getD i [] = ns.getD v [] ↔ i = v) := fun i hi => ⟨fun e => getD_one hd hi hv e, fun e => by rw [e]⟩
  induction l with
  | nil => simp
  | cons a l ih =>
    obtain ⟨i1, i2⟩ := ih (fun y hy => hl y (List.mem_cons_of_mem _ hy))
    have ha := hinj a (hl a (by simp))
    constructor
    · rw [List.map_cons, List.mem_cons, List.mem_cons, i1]
      constructor
      · rintro (e | e)
        · exact Or.inl (ha.1 e.symm).symm
        · exact Or.inr e
      · rintro (e | e)
        · exact Or.inl (by rw [e])
        · exact Or.inr e
    · rw [List.map_cons, List.idxOf_cons, List.idxOf_cons, i2]
      by_cases e : a = v
      · simp [e]
      · have h1 : ¬ ns.getD a [] = ns.getD v [] := fun h => e (ha.1 h)
        rw [beq_false_of_ne h1, beq_false_of_ne e]
theorem ordS_map {ns : List (List UInt8)} (hd : ns.Nodup) {l : List Nat} {v : Nat} (hv : v < ns.length) (hl : ∀ y, y ∈ l → y < ns.length) :
    ordS (l.map fun i => ns.getD i []) (ns.getD v []) = (if v ∈ l then l else l ++ [v]).map (fun i => ns.getD i []) ∧ (ordS (l.map fun i => ns.getD i []) (ns.getD v [])).idxOf (ns.getD v []) = (if v ∈ l then l else l ++ [v]).idxOf v := by
  have h1 : ordS (l.map fun i => ns.getD i []) (ns.getD v []) = (if v ∈ l then l else l ++ [v]).map (fun i => ns.getD i []) := by
    unfold ordS
    by_cases h : v ∈ l
    · rw [if_pos ((map_idx hd hv hl).1.2 h), if_pos h]
    · rw [if_neg (fun e => h ((map_idx hd hv hl).1.1 e)), if_neg h, List.map_append]
      rfl
  refine ⟨h1, ?_⟩
  rw [h1]
  exact (map_idx hd hv (fun y hy => by
    split at hy
    · exact hl y hy
    · rcases List.mem_append.1 hy with hy | hy
      · exact hl y hy
      · rw [List.mem_singleton.1 hy]; exact hv)).2
/-- The one text of a type that was read, by a draft. -/
theorem draft_go (σ : Sto) {ns : List (List UInt8)} (hd : ns.Nodup) : ∀ (m : Nat) (x : Ty) (l : List Nat) (s : Ds) (F : Nat), TyOk ns.length m x → m ≤ F → s.L = l.map (fun i => ns.getD i []) → (tyVars m x l).length ≤ 200 → (∀ y, y ∈ l → y < ns.length) →
    s.out.length + (goS m x l).1.length ≤ 100000 → s.steps.length + 7 * tySize m x ≤ 100000 →
    ∃ s', draftS σ 1 F (qe ns m x) s = some s' ∧ Dn s s' (goS m x l).1 ((tyVars m x l).map fun i => ns.getD i []) (7 * tySize m x)
  | 0, _, _, _, _, h, _, _, _, _, _, _ => absurd h id
  | m + 1, x, l, s, 0, _, hF, _, _, _, _, _ => by omega
  | m + 1, x, l, s, F + 1, ok, hF, hL, hvl, hl, ho, hst => by
    obtain ⟨n1, n2, n3⟩ := nowS_q (σ := σ) (ns := ns) ok
    have hlv := vars_len_le (m + 1) x l
    rw [draftS, if_neg n3]
    unfold firstS
    rw [n1, n2]
    rcases ok with ⟨h1, h2, h3⟩ | ⟨h1, h2, h3⟩ | ⟨h1, h2, a, h3, oka⟩ | ⟨h1, h2, a, c, h3, oka, okc⟩
    · have e : goS (m + 1) x l = (letterS ((if x.var ∈ l then l else l ++ [x.var]).idxOf x.var), if x.var ∈ l then l else l ++ [x.var]) := by rw [goS, if_pos h1]
      have ev : tyVars (m + 1) x l = if x.var ∈ l then l else l ++ [x.var] := by rw [tyVars, if_pos h1]
      have en : (qe ns (m + 1) x).name = ns.getD x.var [] := by rw [qe, if_pos h1]; rfl
      rw [if_pos h1, en, e, ev]
      rw [e] at ho
      unfold anyS
      obtain ⟨o1, o2⟩ := ordS_map hd h2 hl
      rw [if_neg (by decide), if_pos (by rw [hL, List.length_map]; omega), hL, o2]
      have hsz : tySize (m + 1) x = 1 := by rw [tySize, h3]; rfl
      rw [hsz] at hst ⊢
      refine ⟨_, put_word ho (by show s.steps.length < _; omega), rfl, ?_, rfl, rfl, by simp⟩
      exact o1
    · have hk : x.kind ≠ [] := by rcases h1 with h1 | h1 <;> rw [h1] <;> decide
      have e : goS (m + 1) x l = (x.kind, l) := by rw [goS, if_neg hk, h3]
      have ev : tyVars (m + 1) x l = l := by rw [tyVars, if_neg hk, h3]; rfl
      have ek : (qe ns (m + 1) x).kids = [] := by rw [qe, if_neg hk, h3]; rfl
      rw [if_neg hk, if_neg (by rw [← n2]; exact n3), ek, e, ev]
      rw [e] at ho
      have hsz : tySize (m + 1) x = 1 := by rw [tySize, h3]; rfl
      rw [hsz] at hst ⊢
      exact ⟨_, put_word ho (by omega), rfl, hL, rfl, rfl, by simp⟩
    · have hk : x.kind ≠ [] := by rw [h1]; decide
      have e : goS (m + 1) x l = ([91] ++ (goS m a l).1 ++ [93], (goS m a l).2) := by rw [goS, if_neg hk, h3]
      have ev : tyVars (m + 1) x l = tyVars m a l := by rw [tyVars, if_neg hk, h3]; rfl
      have ek : (qe ns (m + 1) x).kids = [qe ns m a] := by rw [qe, if_neg hk, h3]; rfl
      have hsz : tySize (m + 1) x = 1 + tySize m a := by rw [tySize, h3]; simp
      rw [if_neg hk, if_neg (by rw [← n2]; exact n3), ek, e, ev]
      rw [e] at ho
      simp only [List.length_append, List.length_cons, List.length_nil] at ho
      rw [ev] at hvl
      rw [hsz] at hst ⊢
      obtain ⟨s1, w1, d1⟩ := (Dn.zero s).word [91] (by simp; omega) (by omega)
      have e1 := d1.out
      have e2 := d1.steps
      obtain ⟨s2, w2, d2⟩ := draft_go σ hd m a l s1 F oka (by omega) (d1.L.trans hL) hvl hl (by rw [e1]; simp; omega) (by omega)
      obtain ⟨s3, w3, d3⟩ := (d1.trans d2).word [93] (by simp; omega) (by omega)
      refine ⟨s3, ?_, ?_, d3.L, d3.O, d3.stands, by have := d3.steps; omega⟩
      · show wordS [93] (goOn (draftS σ 1 F) (qe ns m a) (wordS [91] (some s))) = _
        rw [w1]
        show wordS [93] (draftS σ 1 F (qe ns m a) s1) = _
        rw [w2]
        exact w3
      · simp [d3.out]
    · have hk : x.kind ≠ [] := by rcases h1 with h1 | h1 <;> rw [h1] <;> decide
      have ev : tyVars (m + 1) x l = tyVars m c (tyVars m a l) := by rw [tyVars, if_neg hk, h3]; rfl
      have ek : (qe ns (m + 1) x).kids = [qe ns m a, qe ns m c] := by rw [qe, if_neg hk, h3]; rfl
      have hsz : tySize (m + 1) x = 1 + (tySize m a + tySize m c) := by rw [tySize, h3]; simp
      have gv : (goS m a l).2 = tyVars m a l := by rw [go_text (L := tyVars m a l) m a l oka (List.prefix_refl _)]
      rw [ev] at hvl
      have hva : (tyVars m a l).length ≤ 200 := Nat.le_trans (vars_len_le m c _) hvl
      have hlt := tyVars_lt m a l oka hl
      rw [hsz] at hst ⊢
      rw [if_neg hk, if_neg (by rw [← n2]; exact n3), ek, ev]
      by_cases hf : x.kind = kFun
      · have e : goS (m + 1) x l = ((if a.kind = kFun then [40] ++ (goS m a l).1 ++ [41] else (goS m a l).1) ++ [32, 45, 62, 32] ++ (goS m c (tyVars m a l)).1, (goS m c (goS m a l).2).2) := by
          rw [goS, if_neg hk, h3]
          show (if x.kind = kFun then _ else _, _) = _
          rw [if_pos hf, gv]
        rw [e] at ho ⊢
        obtain ⟨a1, a2, a3⟩ := nowS_q (σ := σ) (ns := ns) oka
        show ∃ s', (if x.kind = kFun then _ else _) = some s' ∧ _
        rw [if_pos hf]
        unfold fromS
        rw [a1, a2]
        by_cases hfa : a.kind = kFun
        · rw [if_pos hfa] at ho ⊢
          rw [if_pos hfa]
          simp only [List.length_append, List.length_cons, List.length_nil] at ho
          obtain ⟨s1, w1, d1⟩ := (Dn.zero s).word [40] (by simp; omega) (by omega)
          have e1 := d1.out
          have e2 := d1.steps
          obtain ⟨s2, w2, d2⟩ := draft_go σ hd m a l s1 F oka (by omega) (d1.L.trans hL) hva hl (by rw [e1]; simp; omega) (by omega)
          obtain ⟨s3, w3, d3⟩ := (d1.trans d2).word [41] (by simp; omega) (by omega)
          obtain ⟨s4, w4, d4⟩ := d3.word [32, 45, 62, 32] (by simp; omega) (by omega)
          have e5 := d4.out
          have e6 := d4.steps
          obtain ⟨s5, w5, d5⟩ := draft_go σ hd m c (tyVars m a l) s4 F okc (by omega) d4.L hvl hlt (by rw [e5]; simp; omega) (by omega)
          have d6 := d4.trans d5
          refine ⟨s5, ?_, by simp [d6.out], d6.L, d6.O, d6.stands, by have := d6.steps; omega⟩
          rw [w1]
          show goOn _ _ (wordS _ (wordS _ (draftS σ 1 F (qe ns m a) s1))) = _
          rw [w2, w3, w4]
          exact w5
        · rw [if_neg hfa] at ho ⊢
          rw [if_neg hfa]
          simp only [List.length_append, List.length_cons, List.length_nil] at ho
          obtain ⟨s2, w2, d2⟩ := draft_go σ hd m a l s F oka (by omega) hL hva hl (by omega) (by omega)
          obtain ⟨s4, w4, d4⟩ := d2.word [32, 45, 62, 32] (by simp; omega) (by omega)
          have e5 := d4.out
          have e6 := d4.steps
          obtain ⟨s5, w5, d5⟩ := draft_go σ hd m c (tyVars m a l) s4 F okc (by omega) d4.L hvl hlt (by rw [e5]; simp; omega) (by omega)
          have d6 := d4.trans d5
          refine ⟨s5, ?_, by simp [d6.out], d6.L, d6.O, d6.stands, by have := d6.steps; omega⟩
          show goOn _ _ (wordS _ (draftS σ 1 F (qe ns m a) s)) = _
          rw [w2, w4]
          exact w5
      · have e : goS (m + 1) x l = ([40] ++ (goS m a l).1 ++ [44, 32] ++ (goS m c (tyVars m a l)).1 ++ [41], (goS m c (goS m a l).2).2) := by
          rw [goS, if_neg hk, h3]
          show (if x.kind = kFun then _ else _, _) = _
          rw [if_neg hf, gv]
        rw [e] at ho ⊢
        show ∃ s', (if x.kind = kFun then _ else _) = some s' ∧ _
        rw [if_neg hf]
        simp only [List.length_append, List.length_cons, List.length_nil] at ho
        obtain ⟨s1, w1, d1⟩ := (Dn.zero s).word [40] (by simp; omega) (by omega)
        have e1 := d1.out
        have e2 := d1.steps
        obtain ⟨s2, w2, d2⟩ := draft_go σ hd m a l s1 F oka (by omega) (d1.L.trans hL) hva hl (by rw [e1]; simp; omega) (by omega)
        obtain ⟨s3, w3, d3⟩ := (d1.trans d2).word [44, 32] (by simp; omega) (by omega)
        have e5 := d3.out
        have e6 := d3.steps
        obtain ⟨s5, w5, d5⟩ := draft_go σ hd m c (tyVars m a l) s3 F okc (by omega) d3.L hvl hlt (by rw [e5]; simp; omega) (by omega)
        obtain ⟨s6, w6, d6⟩ := (d3.trans d5).word [41] (by simp; omega) (by omega)
        refine ⟨s6, ?_, by simp [d6.out], d6.L, d6.O, d6.stands, by have := d6.steps; omega⟩
        rw [w1]
        show wordS _ (goOn _ _ (wordS _ (draftS σ 1 F (qe ns m a) s1))) = _
        rw [w2, w3]
        show wordS _ (draftS σ 1 F (qe ns m c) s3) = _
        rw [w5]
        exact w6
/-- The text by a type's own names, by a draft. -/
theorem draft_own (σ : Sto) {ns : List (List UInt8)} {N : Nat} : ∀ (m : Nat) (x : Ty) (s : Ds) (F : Nat), TyOk N m x → m ≤ F → s.out.length + (tyText m ns x).length ≤ 100000 → s.steps.length + 7 * tySize m x ≤ 100000 →
    ∃ s', draftS σ 0 F (qe ns m x) s = some s' ∧ Dn s s' (tyText m ns x) s.L (7 * tySize m x)
  | 0, _, _, _, h, _, _, _ => absurd h id
  | m + 1, x, s, 0, _, hF, _, _ => by omega
  | m + 1, x, s, F + 1, ok, hF, ho, hst => by
    obtain ⟨n1, n2, n3⟩ := nowS_q (σ := σ) (ns := ns) ok
    rw [draftS, if_neg n3]
    unfold firstS
    rw [n1, n2]
    rcases ok with ⟨h1, h2, h3⟩ | ⟨h1, h2, h3⟩ | ⟨h1, h2, a, h3, oka⟩ | ⟨h1, h2, a, c, h3, oka, okc⟩
    · have e : tyText (m + 1) ns x = ns.getD x.var [] := by rw [tyText, if_pos h1]
      have en : (qe ns (m + 1) x).name = ns.getD x.var [] := by rw [qe, if_pos h1]; rfl
      rw [if_pos h1, en, e]
      rw [e] at ho
      unfold anyS
      rw [if_pos rfl]
      have hsz : tySize (m + 1) x = 1 := by rw [tySize, h3]; rfl
      rw [hsz] at hst ⊢
      exact ⟨_, put_word ho (by omega), rfl, rfl, rfl, rfl, by simp⟩
    · have hk : x.kind ≠ [] := by rcases h1 with h1 | h1 <;> rw [h1] <;> decide
      have e : tyText (m + 1) ns x = x.kind := by rw [tyText, if_neg hk, h3]
      have ek : (qe ns (m + 1) x).kids = [] := by rw [qe, if_neg hk, h3]; rfl
      rw [if_neg hk, if_neg (by rw [← n2]; exact n3), ek, e]
      rw [e] at ho
      have hsz : tySize (m + 1) x = 1 := by rw [tySize, h3]; rfl
      rw [hsz] at hst ⊢
      exact ⟨_, put_word ho (by omega), rfl, rfl, rfl, rfl, by simp⟩
    · have hk : x.kind ≠ [] := by rw [h1]; decide
      have e : tyText (m + 1) ns x = [91] ++ tyText m ns a ++ [93] := by rw [tyText, if_neg hk, h3]
      have ek : (qe ns (m + 1) x).kids = [qe ns m a] := by rw [qe, if_neg hk, h3]; rfl
      have hsz : tySize (m + 1) x = 1 + tySize m a := by rw [tySize, h3]; simp
      rw [if_neg hk, if_neg (by rw [← n2]; exact n3), ek, e]
      rw [e] at ho
      simp only [List.length_append, List.length_cons, List.length_nil] at ho
      rw [hsz] at hst ⊢
      obtain ⟨s1, w1, d1⟩ := (Dn.zero s).word [91] (by simp; omega) (by omega)
      have e1 := d1.out
      have e2 := d1.steps
      obtain ⟨s2, w2, d2⟩ := draft_own σ (ns := ns) m a s1 F oka (by omega) (by rw [e1]; simp; omega) (by omega)
      obtain ⟨s3, w3, d3⟩ := (d1.trans d2).word [93] (by simp; omega) (by omega)
      refine ⟨s3, ?_, ?_, d3.L.trans d1.L, d3.O, d3.stands, by have := d3.steps; omega⟩
      · show wordS [93] (goOn (draftS σ 0 F) (qe ns m a) (wordS [91] (some s))) = _
        rw [w1]
        show wordS [93] (draftS σ 0 F (qe ns m a) s1) = _
        rw [w2]
        exact w3
      · simp [d3.out]
    · have hk : x.kind ≠ [] := by rcases h1 with h1 | h1 <;> rw [h1] <;> decide
      have ek : (qe ns (m + 1) x).kids = [qe ns m a, qe ns m c] := by rw [qe, if_neg hk, h3]; rfl
      have hsz : tySize (m + 1) x = 1 + (tySize m a + tySize m c) := by rw [tySize, h3]; simp
      rw [hsz] at hst ⊢
      rw [if_neg hk, if_neg (by rw [← n2]; exact n3), ek]
      by_cases hf : x.kind = kFun
      · have e : tyText (m + 1) ns x = (if a.kind = kFun then [40] ++ tyText m ns a ++ [41] else tyText m ns a) ++ [32, 45, 62, 32] ++ tyText m ns c := by
          rw [tyText, if_neg hk, h3]
          show (if x.kind = kFun then _ else _) = _
          rw [if_pos hf]
        rw [e] at ho ⊢
        obtain ⟨a1, a2, a3⟩ := nowS_q (σ := σ) (ns := ns) oka
        show ∃ s', (if x.kind = kFun then _ else _) = some s' ∧ _
        rw [if_pos hf]
        unfold fromS
        rw [a1, a2]
        by_cases hfa : a.kind = kFun
        · rw [if_pos hfa] at ho ⊢
          rw [if_pos hfa]
          simp only [List.length_append, List.length_cons, List.length_nil] at ho
          obtain ⟨s1, w1, d1⟩ := (Dn.zero s).word [40] (by simp; omega) (by omega)
          have e1 := d1.out
          have e2 := d1.steps
          obtain ⟨s2, w2, d2⟩ := draft_own σ (ns := ns) m a s1 F oka (by omega) (by rw [e1]; simp; omega) (by omega)
          obtain ⟨s3, w3, d3⟩ := (d1.trans d2).word [41] (by simp; omega) (by omega)
          obtain ⟨s4, w4, d4⟩ := d3.word [32, 45, 62, 32] (by simp; omega) (by omega)
          have e5 := d4.out
          have e6 := d4.steps
          obtain ⟨s5, w5, d5⟩ := draft_own σ (ns := ns) m c s4 F okc (by omega) (by rw [e5]; simp; omega) (by omega)
          have d6 := d4.trans d5
          refine ⟨s5, ?_, by simp [d6.out], (d6.L.trans d4.L).trans d1.L, d6.O, d6.stands, by have := d6.steps; omega⟩
          rw [w1]
          show goOn _ _ (wordS _ (wordS _ (draftS σ 0 F (qe ns m a) s1))) = _
          rw [w2, w3, w4]
          exact w5
        · rw [if_neg hfa] at ho ⊢
          rw [if_neg hfa]
          simp only [List.length_append, List.length_cons, List.length_nil] at ho
          obtain ⟨s2, w2, d2⟩ := draft_own σ (ns := ns) m a s F oka (by omega) (by omega) (by omega)
          obtain ⟨s4, w4, d4⟩ := d2.word [32, 45, 62, 32] (by simp; omega) (by omega)
          have e5 := d4.out
          have e6 := d4.steps
          obtain ⟨s5, w5, d5⟩ := draft_own σ (ns := ns) m c s4 F okc (by omega) (by rw [e5]; simp; omega) (by omega)
          have d6 := d4.trans d5
          refine ⟨s5, ?_, by simp [d6.out], d6.L.trans d4.L, d6.O, d6.stands, by have := d6.steps; omega⟩
          show goOn _ _ (wordS _ (draftS σ 0 F (qe ns m a) s)) = _
          rw [w2, w4]
          exact w5
      · have e : tyText (m + 1) ns x = [40] ++ tyText m ns a ++ [44, 32] ++ tyText m ns c ++ [41] := by
          rw [tyText, if_neg hk, h3]
          show (if x.kind = kFun then _ else _) = _
          rw [if_neg hf]
        rw [e] at ho ⊢
        show ∃ s', (if x.kind = kFun then _ else _) = some s' ∧ _
        rw [if_neg hf]
        simp only [List.length_append, List.length_cons, List.length_nil] at ho
        obtain ⟨s1, w1, d1⟩ := (Dn.zero s).word [40] (by simp; omega) (by omega)
        have e1 := d1.out
        have e2 := d1.steps
        obtain ⟨s2, w2, d2⟩ := draft_own σ (ns := ns) m a s1 F oka (by omega) (by rw [e1]; simp; omega) (by omega)
        obtain ⟨s3, w3, d3⟩ := (d1.trans d2).word [44, 32] (by simp; omega) (by omega)
        have e5 := d3.out
        have e6 := d3.steps
        obtain ⟨s5, w5, d5⟩ := draft_own σ (ns := ns) m c s3 F okc (by omega) (by rw [e5]; simp; omega) (by omega)
        obtain ⟨s6, w6, d6⟩ := (d3.trans d5).word [41] (by simp; omega) (by omega)
        refine ⟨s6, ?_, by simp [d6.out], ((d6.L.trans d3.L).trans d1.L), d6.O, d6.stands, by have := d6.steps; omega⟩
        rw [w1]
        show wordS _ (goOn _ _ (wordS _ (draftS σ 0 F (qe ns m a) s1))) = _
        rw [w2, w3]
        show wordS _ (draftS σ 0 F (qe ns m c) s3) = _
        rw [w5]
        exact w6
end Go.Proofs.YtcdijppegfcoaabGreatDoor

/-
  OUR OWN TEXT. The program's drafts: draftOf; OneText, OwnText.
-/
namespace Go.Proofs.YtcdijppegfcoaabGreatDoor
open Go.RowKit

theorem CSd.nil {H : Nat → Option Obj} {w : World} (hz : Fz H w) : CSd H [] ⟨[], []⟩ (fun _ => 0) w :=
  ⟨hz, rfl, rfl, by simp, fun a h => by simp at h, by simp, fun i c h => by simp at h, fun i a h => by simp at h⟩
/-- What draftOf leaves. -/
def DOF (H : Nat → Option Obj) (ca : List Nat) (σ : Sto) (d : Nat → Nat) (any own : Option AB) (bs : Nat) (s' : Ds) (w : World) (e : Ending) (w' : World) : Prop :=
  ∃ db mb, e = .returned (CP db) ∧ DW H ca σ d ⟨db, mb, any, own⟩ bs s' w' ∧ Gb (DG ca ⟨db, mb, any, own⟩ bs) w w'
def anyOf (any : Option AB) : Value := match any with
  | none => ownV
  | some a => askV a
def ownOf (own : Option AB) : Value := match own with
  | none => .nilFunc
  | some a => askI a

theorem past3 {w : World} {k : Nat} {o1 o2 o3 x : Obj} (h : w.heap[k]? = some x) : (((w.alloc o1).alloc o2).alloc o3).heap[k]? = some x := by
  rw [Below.heap_alloc _ _ _ (by simp; have := lt_of_block h; omega)]
  exact past2 h
/-- A new draft. -/
theorem draft_new {H : Nat → Option Obj} {ca : List Nat} {σ : Sto} {d : Nat → Nat} {any own : Option AB} {bs : Nat} {O : List Nat} {w : World} (o1 : Obj) (hc : CSd H ca σ d w) (lowa : ∀ a, a ∈ ca → a < bs) (lowH : ∀ k o, H k = some o → k < bs) (big : bs ≤ w.heap.size)
    (han : ∀ a, any = some a → IO1 w a [] ∧ bs ≤ a.mb) (how : ∀ a, own = some a → IOI w a O ∧ H a.mb = none ∧ a.mb ∉ ca) (hap : ∀ a b, any = some a → own = some b → a.mb ≠ b.mb) :
    DW H ca σ d ⟨w.heap.size + 1 + 1, w.heap.size + 1, any, own⟩ bs (ds0 O) (((w.alloc o1).alloc (.map #[] 0)).alloc (.cells #[anyOf any, ownOf own, .slice none 0 0, .int .i64 0, .map (some (w.heap.size + 1))] 216)) := by
  have e1 : (w.alloc o1).heap.size = w.heap.size + 1 := by simp
  have e2 : ((w.alloc o1).alloc (.map #[] 0)).heap.size = w.heap.size + 1 + 1 := by simp
  have hs : ∀ (k : Nat) (x : Obj), w.heap[k]? = some x → (((w.alloc o1).alloc (.map #[] 0)).alloc (.cells #[anyOf any, ownOf own, .slice none 0 0, .int .i64 0, .map (some (w.heap.size + 1))] 216)).heap[k]? = w.heap[k]? := fun k x e => (past3 e).trans e.symm
  refine ⟨hc.gb (R := fun _ => False) ((((Gb.refl _ _).alloc _).alloc _).alloc _) (fun _ _ e => e) (fun _ _ _ e => e), ⟨⟨.slice none 0 0, ?_, rfl, Or.inl ⟨rfl, rfl⟩⟩, rfl, trivial, ⟨Nat.zero_le _, Nat.zero_le _⟩, ?_, fun a ha => ?_, fun a ha => ?_, hap, ⟨by show bs ≤ w.heap.size + 1 + 1; omega, by show bs ≤ w.heap.size + 1; omega⟩⟩, lowa, lowH, fun a ha => (how a ha).2, by simp; omega⟩
  · rw [heap_alloc_at _ _ _ e2.symm]
    unfold draftB Dc.anyV Dc.ownV anyOf ownOf
    rfl
  · have hm : GM kI standA 3 ((w.alloc o1).alloc (.map #[] 0)) (w.alloc o1).heap.size ([] : List (Nat × Nat × Nat)) := GM.new
    rw [e1] at hm
    exact hm.same (Below.heap_alloc _ _ _ (by simp))
  · obtain ⟨i, l1⟩ := han a ha
    obtain ⟨D, ⟨es, clock, q1, q2⟩, q3⟩ := i.mp
    have hl := lt_of_block q1
    exact ⟨i.same (hs _ _ i.mrk) (hs _ _ i.nf) (hs _ _ i.blk) (hs _ _ q1), l1, by show a.mb ≠ w.heap.size + 1; omega⟩
  · obtain ⟨i, l1⟩ := how a ha
    obtain ⟨es, cl, e⟩ := i.mp.isMap
    have hl := lt_of_block e
    exact ⟨i.same (hs _ _ i.mrk) (hs _ _ i.nf) (hs _ _ i.blk) (hs _ _ e), by show a.mb ≠ w.heap.size + 1; omega⟩
set_option maxRecDepth 100000 in
set_option maxHeartbeats 8000000 in
theorem draftOf_any {H : Nat → Option Obj} {ca : List Nat} {σ : Sto} {d : Nat → Nat} {any own : Option AB} {bs md F : Nat} {O : List Nat} {s' : Ds} {w : World} {v : Value} {t : Et}
    (hm0 : md = 0 ↔ any = none) (hm2 : md = 2 → own.isSome = true) (hv : ER H ca v t) (hs : draftS σ md F t (ds0 O) = some s') (hc : CSd H ca σ d w) (lowa : ∀ a, a ∈ ca → a < bs) (lowH : ∀ k o, H k = some o → k < bs) (big : bs ≤ w.heap.size)
    (han : ∀ a, any = some a → IO1 w a [] ∧ bs ≤ a.mb) (how : ∀ a, own = some a → IOI w a O ∧ H a.mb = none ∧ a.mb ∉ ca) (hap : ∀ a b, any = some a → own = some b → a.mb ≠ b.mb) :
    Calls Tryz.prog 54 #[v, .agg #[anyOf any, ownOf own]] w (DOF H ca σ d any own bs s' w) := by
  have hmm := @run_makeMap Tryz.prog
  have Q := hid (And.intro hm0 (And.intro hm2 (And.intro hv (And.intro hs (And.intro hc (And.intro lowa (And.intro lowH (And.intro han (And.intro how hap)))))))))
  clear hm0 hm2 hv hs hc lowa lowH han how hap
  obtain ⟨av, hav⟩ : ∃ av, av = anyOf any := ⟨_, rfl⟩
  obtain ⟨ov, hov⟩ : ∃ ov, ov = ownOf own := ⟨_, rfl⟩
  rw [← hav, ← hov]
  have C1 := hid (add_any (c := ⟨w.heap.size + 1 + 1, w.heap.size + 1, any, own⟩) (bs := bs) (md := md) ⟨Q.out.1, Q.out.2.1⟩ F v t (ds0 O) s' _ Q.out.2.2.1 Q.out.2.2.2.1 (draft_new (.cells #[av, ov] 127) Q.out.2.2.2.2.1 Q.out.2.2.2.2.2.1 Q.out.2.2.2.2.2.2.1 big Q.out.2.2.2.2.2.2.2.1 Q.out.2.2.2.2.2.2.2.2.1 Q.out.2.2.2.2.2.2.2.2.2))
  rw [← hav, ← hov] at C1
  unfold CP at C1
  clear hav hov
  go_enter Tryz.func54, Tryz.ntmps54
  go_wp2_with fail
  refine C1.out.mono ?_
  rintro e w1 ⟨rfl, r1, g1⟩
  have R1 := hid (And.intro r1 g1)
  clear r1 g1 C1
  go_wp2
  go_ret
  exact ⟨_, _, rfl, R1.out.1, Gb.allocL (Gb.allocL (Gb.allocL R1.out.2))⟩
end Go.Proofs.YtcdijppegfcoaabGreatDoor

/-
  OUR OWN TEXT. The program's texts of types: OneText, OwnText.
-/
namespace Go.Proofs.YtcdijppegfcoaabGreatDoor
open Go.RowKit

theorem Gb.none {w w' : World} (h : Gb (fun k => w.heap.size ≤ k) w w') : w.grownBy w' none := ⟨h.os, h.tape, h.output, h.size, fun k hk _ => h.block k hk (by omega)⟩
theorem Gb.below {w w' : World} (h : Below w.heap.size w w') (R : Nat → Prop) : Gb R w w' := ⟨h.os, h.tape, h.output, h.size, fun k hk _ => h.block k hk⟩
theorem DG.high {db mb bs : Nat} {any : Option AB} {w w' : World} (h : Gb (DG [] ⟨db, mb, any, none⟩ bs) w w') : Gb (fun k => bs ≤ k) w w' := h.mono fun k e => by
  rcases e with e | e | ⟨a, e, _⟩
  · cases e
  · exact e
  · cases e

set_option maxRecDepth 100000 in
set_option maxHeartbeats 8000000 in
theorem one_any {H : Nat → Option Obj} {v : Value} {t : Et} {F : Nat} {s' : Ds} {w : World} (hv : ER H [] v t) (hs : draftS ⟨[], []⟩ 1 F t (ds0 []) = some s') (hz : Fz H w) :
    Calls Tryz.prog 36 #[v] w fun e w' => e = .returned (.string (B s'.out)) ∧ w.grownBy w' none := by
  have Q := hid (And.intro hv (And.intro hs hz))
  clear hv hs hz
  go_enter Tryz.func36, Tryz.ntmps36
  go_wp2_with fail
  refine (letters_q w).mono ?_
  rintro e w1 ⟨ab, rfl, i1, g1, hmb⟩
  have C1 := hid (draftOf_any (H := H) (ca := []) (σ := ⟨[], []⟩) (d := fun _ => 0) (any := some ab) (own := none) (bs := w.heap.size) (md := 1) (O := []) (w := w1) ⟨fun e => absurd e (by decide), fun e => by cases e⟩ (fun e => absurd e (by decide)) Q.out.1 Q.out.2.1 (CSd.nil (Q.out.2.2.grown g1)) (fun a h => by cases h) (fun k o e => Q.out.2.2.lt e) g1.size (fun a e => by cases e; exact ⟨i1, hmb⟩) (fun a e => by cases e) (fun a b _ e => by cases e))
  have G1 := hid g1
  clear i1 g1 hmb
  unfold anyOf ownOf at C1
  simp only at C1
  unfold askV at *
  go_wp2_with fail
  refine C1.out.mono ?_
  rintro e w2 ⟨db, mb, rfl, r2, g2⟩
  have C2 := hid (dtext_any r2.dr)
  have R2 := hid g2
  clear r2 g2 C1
  unfold CP at *
  go_wp2_with fail
  refine C2.out.mono ?_
  rintro e w3 ⟨rfl, b3⟩
  have R3 := hid b3
  clear b3 C2
  go_wp2
  go_ret
  exact ⟨rfl, ((((Gb.new (R := fun k => w.heap.size ≤ k) G1.out).tr (DG.high R2.out)).tr (Gb.below R3.out _))).none⟩

set_option maxRecDepth 100000 in
set_option maxHeartbeats 8000000 in
theorem own_any {H : Nat → Option Obj} {v : Value} {t : Et} {F : Nat} {s' : Ds} {w : World} (hv : ER H [] v t) (hs : draftS ⟨[], []⟩ 0 F t (ds0 []) = some s') (hz : Fz H w) :
    Calls Tryz.prog 135 #[v] w fun e w' => e = .returned (.string (B s'.out)) ∧ w.grownBy w' none := by
  have hmf : ∀ (fn : Fn) (first cap : Array Value) (w : World), (Instr.makeFunc fn first cap).run Tryz.prog w = .ok (.func fn first cap) w := fun _ _ _ _ => rfl
  have C1 := hid (draftOf_any (H := H) (ca := []) (σ := ⟨[], []⟩) (d := fun _ => 0) (any := none) (own := none) (bs := w.heap.size) (md := 0) (O := []) (w := w) ⟨fun _ => rfl, fun _ => rfl⟩ (fun e => absurd e (by decide)) hv hs (CSd.nil hz) (fun a h => by cases h) (fun k o e => hz.lt e) (Nat.le_refl _) (fun a e => by cases e) (fun a e => by cases e) (fun a b _ e => by cases e))
  unfold anyOf ownOf at C1
  simp only at C1
  unfold ownV at *
  clear hv hs hz
  go_enter Tryz.func135, Tryz.ntmps135
  go_wp2_with fail
  refine C1.out.mono ?_
  rintro e w2 ⟨db, mb, rfl, r2, g2⟩
  have C2 := hid (dtext_any r2.dr)
  have R2 := hid g2
  clear r2 g2 C1
  unfold CP at *
  go_wp2_with fail
  refine C2.out.mono ?_
  rintro e w3 ⟨rfl, b3⟩
  have R3 := hid b3
  clear b3 C2
  go_wp2
  go_ret
  exact ⟨rfl, ((DG.high R2.out).tr (Gb.below R3.out _)).none⟩
end Go.Proofs.YtcdijppegfcoaabGreatDoor

/-
  OUR OWN TEXT. The program's one text of a type that was read.
-/
namespace Go.Proofs.YtcdijppegfcoaabGreatDoor
open Go.RowKit

theorem oneText_q (ns : List (List UInt8)) (hd : ns.Nodup) (m : Nat) (H : Nat → Option Obj) (v : Value) (x : Ty) (w : World) (h : QRep ns m H v x) (hz : Fz H w) (ok : TyOk ns.length m x) (hs : tySize m x ≤ 150) :
    Calls Tryz.prog 36 #[v] w fun e w' => e = .returned (.string (B (tyCanon m x))) ∧ w.grownBy w' none := by
  have hvl := tyVars_len m x [] ok
  have hgl := goS_len m x [] ok
  obtain ⟨s', q1, q2⟩ := draft_go ⟨[], []⟩ hd m x [] (ds0 []) m ok (Nat.le_refl _) rfl (by simp at hvl; omega) (by simp) (by show 0 + _ ≤ _; omega) (by show 0 + _ ≤ _; omega)
  have e : s'.out = tyCanon m x := by
    rw [q2.out, go_canon ok]
    rfl
  rw [← e]
  exact one_any ⟨m, QRep.et m v x h⟩ q1 hz
end Go.Proofs.YtcdijppegfcoaabGreatDoor

/-
  OUR OWN TEXT. The program's text of a type that was read, by its own names.
-/
namespace Go.Proofs.YtcdijppegfcoaabGreatDoor
open Go.RowKit

theorem TyOk.kids {N m : Nat} {x : Ty} (h : TyOk N (m + 1) x) : ∀ y, y ∈ x.kids → TyOk N m y ∧ tySize m y ≤ tySize (m + 1) x := by
  intro y hy
  rcases h with ⟨h1, h2, h3⟩ | ⟨h1, h2, h3⟩ | ⟨h1, h2, a, h3, h4⟩ | ⟨h1, h2, a, b, h3, h4, h5⟩
  · rw [h3] at hy; cases hy
  · rw [h3] at hy; cases hy
  · rw [h3] at hy
    rw [List.mem_singleton.1 hy]
    exact ⟨h4, by rw [tySize, h3]; simp⟩
  · rw [h3] at hy
    rcases List.mem_cons.1 hy with rfl | hy
    · exact ⟨h4, by rw [tySize, h3]; simp; omega⟩
    · rw [List.mem_singleton.1 hy]
      exact ⟨h5, by rw [tySize, h3]; simp; omega⟩
theorem goS_vars {N m : Nat} {x : Ty} (l : List Nat) (h : TyOk N m x) : (goS m x l).2 = tyVars m x l := by
  rw [go_text (L := tyVars m x l) m x l h (List.prefix_refl _)]
theorem Fz.turned {H : Nat → Option Obj} {w w' : World} {mb : Nat} (h : Fz H w) (hg : w.grownBy w' (some mb)) (hm : H mb = Option.none) : Fz H w' := fun k o e => by
  rw [hg.block k (h.lt e) (fun e' => by cases e'; rw [hm] at e; cases e)]
  exact h k o e
theorem getD_inj {ns : List (List UInt8)} (hd : ns.Nodup) {i j : Nat} (hi : i < ns.length) (hj : j < ns.length) (h : ns.getD i [] = ns.getD j []) : i = j := by
  have e1 : ns.getD i [] = ns[i] := by simp [List.getD, hi]
  have e2 : ns.getD j [] = ns[j] := by simp [List.getD, hj]
  rw [e1, e2] at h
  have a := hd.idxOf_getElem i hi
  have b := hd.idxOf_getElem j hj
  rw [h] at a
  omega
theorem text_len {ns : List (List UInt8)} {N : Nat} (hn : ∀ i, i < N → (ns.getD i []).length ≤ 300) : ∀ (m : Nat) (x : Ty), TyOk N m x → (tyText m ns x).length ≤ 400 * tySize m x
  | 0, _, h => absurd h id
  | m + 1, x, h => by
    rcases h with ⟨h1, h2, h3⟩ | ⟨h1, h2, h3⟩ | ⟨h1, h2, a, h3, h4⟩ | ⟨h1, h2, a, b, h3, h4, h5⟩
    · rw [tyText, if_pos h1, tySize, h3]
      have := hn x.var h2
      simp only [List.map_nil, List.sum_nil]
      omega
    · have hk : x.kind ≠ [] := by rcases h1 with h1 | h1 <;> rw [h1] <;> decide
      rw [tyText, if_neg hk, tySize, h3]
      rcases h1 with h1 | h1 <;> simp [h1, kInt, kBool]
    · have hk : x.kind ≠ [] := by rw [h1]; decide
      have := text_len hn m a h4
      rw [tyText, if_neg hk, tySize, h3]
      simp
      omega
    · have hk : x.kind ≠ [] := by rcases h1 with h1 | h1 <;> rw [h1] <;> decide
      have h6 := text_len hn m a h4
      have h7 := text_len hn m b h5
      rw [tyText, if_neg hk, tySize, h3]
      simp only
      split
      · split <;> simp <;> omega
      · simp; omega
theorem ownText_q {ns : List (List UInt8)} {N : Nat} (hn : ∀ i, i < N → (ns.getD i []).length ≤ 300) (m : Nat) (H : Nat → Option Obj) (v : Value) (x : Ty) (w : World) (h : QRep ns m H v x) (hz : Fz H w) (ok : TyOk N m x) (hs : tySize m x ≤ 150) :
    Calls Tryz.prog 135 #[v] w fun e w' => e = .returned (.string (B (tyText m ns x))) ∧ w.grownBy w' none := by
  have hl := text_len hn m x ok
  obtain ⟨s', q1, q2⟩ := draft_own ⟨[], []⟩ (ns := ns) m x (ds0 []) m ok (Nat.le_refl _) (by show 0 + _ ≤ _; omega) (by show 0 + _ ≤ _; omega)
  have e : s'.out = tyText m ns x := by
    rw [q2.out]
    rfl
  rw [← e]
  exact own_any ⟨m, QRep.et m v x h⟩ q1 hz
end Go.Proofs.YtcdijppegfcoaabGreatDoor
