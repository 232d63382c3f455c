import Derived.Test.YtcdijppegfcoaaaGreatDoorZT09
/-
  OUR OWN TEXT. The program's drafts: addFirst.
-/
namespace Go.Proofs.YtcdijppegfcoaaaGreatDoor
open Go.RowKit
set_option maxRecDepth 100000 in
theorem own_ask (w : World) (t : List UInt8) : Calls Tryz.prog 229 #[.string (B t)] w fun e w' => e = .returned (.string (B t)) ∧ w' = w := by
  go_enter Tryz.func229, Tryz.ntmps229
  go_wp2
  go_ret
  exact ⟨rfl, rfl⟩
/-- What a variable is called. -/
def ANY (H : Nat → Option Obj) (ca : List Nat) (σ : Sto) (d : Nat → Nat) (c : Dc) (bs : Nat) (s : Ds) (n : List UInt8) (s' : Ds) (F : FuncId) (args : Array Value) : Prop :=
  ∀ w, DW H ca σ d c bs s w → Calls Tryz.prog F (#[.string (B n)] ++ args) w fun e w' => ∃ x s1, e = .returned (.string (B x)) ∧ putS x 0 0 s1 = some s' ∧ DW H ca σ d c bs s1 w' ∧ Gb (DG ca c bs) w w'
theorem any_id {H : Nat → Option Obj} {ca : List Nat} {σ : Sto} {d : Nat → Nat} {c : Dc} {bs : Nat} {s s' : Ds} {n : List UInt8} (hs : putS n 0 0 s = some s') : ANY H ca σ d c bs s n s' 229 #[] := fun w h => by
  refine (own_ask w n).mono ?_
  rintro e w' ⟨rfl, rfl⟩
  exact ⟨n, s, rfl, hs, h, Gb.refl _ _⟩
theorem askS_ord (L : List (List UInt8)) (n : List UInt8) : askS L n = ordS L n := by
  unfold askS ordS
  split <;> simp_all
theorem any_ask {H : Nat → Option Obj} {ca : List Nat} {σ : Sto} {d : Nat → Nat} {c : Dc} {bs : Nat} {s s' : Ds} {n : List UInt8} {a : AB} (ha : c.any = some a) (hn : n.length ≤ 300) (hL : s.L.length ≤ 200)
    (hs : putS (letterS ((ordS s.L n).idxOf n)) 0 0 ⟨s.steps, s.out, s.stands, ordS s.L n, s.O⟩ = some s') : ANY H ca σ d c bs s n s' 146 #[.pointer (some ⟨a.kb, 0, none⟩), .pointer (some ⟨a.nb, 0, none⟩)] := fun w h => by
  refine (ask_q w a n s.L hn (h.dr.an a ha).1 hL).mono ?_
  rintro e w' ⟨rfl, i, g⟩
  rw [askS_ord] at i ⊢
  obtain ⟨q1, q2⟩ := h.anyL ha i g
  exact ⟨_, _, rfl, hs, q1, q2⟩

set_option maxRecDepth 100000 in
set_option maxHeartbeats 4000000 in
theorem first_basic {H : Nat → Option Obj} {ca : List Nat} {σ : Sto} {d : Nat → Nat} {c : Dc} {bs : Nat} {s s' : Ds} {w : World} {v : Value} {b : Nat} {x : List UInt8}
    (hN : Calls Tryz.prog 223 #[v] w fun e w' => e = .returned (.iface 346 (.pointer (some ⟨b, 0, none⟩))) ∧ DW H ca σ d c bs s w' ∧ Gb (DG ca c bs) w w')
    (hb : H b = some (.cells #[.string (B x)] 348 (0, 0))) (hp : putS x 0 0 s = some s') :
    Calls Tryz.prog 184 #[CP c.db, v] w (ADP H ca σ d c bs s' w) := by
  have HN := hid hN
  have HB := hid (And.intro hb hp)
  have q1 := e_Basic_Basic b
  clear hN hb hp
  unfold CP
  go_enter Tryz.func184, Tryz.ntmps184
  go_wp2_with fail
  refine HN.out.mono ?_
  rintro e w1 ⟨rfl, r1, g1⟩
  have c0 : w1.cell? ⟨b, 0, none⟩ = some (.string (B x)) := by simp [World.cell?, r1.cs.fz _ _ HB.out.1]
  have HW := hid (word_any r1 HB.out.2)
  have R1 := hid g1
  clear r1 g1 HN
  unfold CP at HW
  go_wp2_with (go_at_call 224; refine HW.out.mono ?_; rintro e w2 ⟨rfl, r2, g2⟩; have R2 := hid (And.intro r2 g2); clear r2 g2)
  first | go_end0 | skip
  exact ⟨rfl, R2.out.1, R1.out.tr R2.out.2⟩
theorem Gb.drewL {R : Nat → Prop} {w w' : World} (h : Gb R w.drew w') : Gb R w w' := ⟨h.os, h.tape, h.output, h.size, h.block⟩
theorem CSd.drew {H : Nat → Option Obj} {ca : List Nat} {σ : Sto} {d : Nat → Nat} {w : World} (h : CSd H ca σ d w) : CSd H ca σ d w.drew := ⟨h.fz, h.len, h.lenc, h.nd, h.off, h.few, h.rr, h.blk⟩
theorem DR.drew {c : Dc} {bs : Nat} {s : Ds} {w : World} (h : DR c bs s w) : DR c bs s w.drew := h.same fun _ _ e _ => e
set_option maxRecDepth 100000 in
set_option maxHeartbeats 8000000 in
theorem first_var_id {H : Nat → Option Obj} {ca : List Nat} {σ : Sto} {d : Nat → Nat} {c : Dc} {bs : Nat} {s s' : Ds} {w : World} {v : Value} {b : Nat} {n : List UInt8} (hx : c.any = none)
    (hN : Calls Tryz.prog 223 #[v] w fun e w' => e = .returned (.iface 309 (.pointer (some ⟨b, 0, none⟩))) ∧ DW H ca σ d c bs s w' ∧ Gb (DG ca c bs) w w')
    (hb : H b = some (.cells #[.string (B n)] 313 (0, 0))) (hA : ANY H ca σ d c bs s n s' 229 #[]) :
    Calls Tryz.prog 184 #[CP c.db, v] w (ADP H ca σ d c bs s' w) := by
  have HN := hid hN
  have HB := hid (And.intro hb hA)
  have q1 := e_Var_Basic b
  have q2 := e_Var_Var b
  have HX := hid hx
  clear hN hb hA hx
  unfold CP
  go_enter Tryz.func184, Tryz.ntmps184
  go_wp2_with fail
  refine HN.out.mono ?_
  rintro e w1 ⟨rfl, r1, g1⟩
  have c0 : w1.cell? ⟨b, 0, none⟩ = some (.string (B n)) := by simp [World.cell?, r1.cs.fz _ _ HB.out.1]
  obtain ⟨sv, hsv, _⟩ := r1.dr.blk
  have c1 : w1.cell? ⟨c.db, 0, none⟩ = some (.func (.func 229) #[] #[]) := by rw [(draft_cells hsv).1]; unfold Dc.anyV; rw [HX.out]; rfl
  have HC := hid (HB.out.2 w1.drew ⟨r1.cs.drew, r1.dr.drew, r1.lowa, r1.lowH, r1.off, r1.big⟩)
  have R1 := hid (And.intro r1 g1)
  clear r1 g1 HN hsv
  go_wp2_with fail
  go_region_with (first
    | (go_at_call 229; refine HC.out.mono ?_; rintro e w2 ⟨x, s1, rfl, hp2, r2, g2⟩; have HW := hid (word_any r2 hp2); have R2 := hid (And.intro r2 g2); clear r2 g2 hp2; unfold CP at HW)
    | (go_at_call 224; refine HW.out.mono ?_; rintro e w3 ⟨rfl, r3, g3⟩; have R3 := hid (And.intro r3 g3); clear r3 g3))
  all_goals
    go_wp2
    first | go_end0 | skip
    exact ⟨rfl, R3.out.1, (R1.out.2.tr (Gb.drewL R2.out.2)).tr R3.out.2⟩
set_option maxRecDepth 100000 in
set_option maxHeartbeats 8000000 in
theorem first_var_ask {H : Nat → Option Obj} {ca : List Nat} {σ : Sto} {d : Nat → Nat} {c : Dc} {bs : Nat} {s s' : Ds} {w : World} {v : Value} {b : Nat} {n : List UInt8} {a : AB} (hx : c.any = some a)
    (hN : Calls Tryz.prog 223 #[v] w fun e w' => e = .returned (.iface 309 (.pointer (some ⟨b, 0, none⟩))) ∧ DW H ca σ d c bs s w' ∧ Gb (DG ca c bs) w w')
    (hb : H b = some (.cells #[.string (B n)] 313 (0, 0))) (hA : ANY H ca σ d c bs s n s' 146 #[.pointer (some ⟨a.kb, 0, none⟩), .pointer (some ⟨a.nb, 0, none⟩)]) :
    Calls Tryz.prog 184 #[CP c.db, v] w (ADP H ca σ d c bs s' w) := by
  have HN := hid hN
  have HB := hid (And.intro hb hA)
  have q1 := e_Var_Basic b
  have q2 := e_Var_Var b
  have HX := hid hx
  clear hN hb hA hx
  unfold CP
  go_enter Tryz.func184, Tryz.ntmps184
  go_wp2_with fail
  refine HN.out.mono ?_
  rintro e w1 ⟨rfl, r1, g1⟩
  have c0 : w1.cell? ⟨b, 0, none⟩ = some (.string (B n)) := by simp [World.cell?, r1.cs.fz _ _ HB.out.1]
  obtain ⟨sv, hsv, _⟩ := r1.dr.blk
  have c1 : w1.cell? ⟨c.db, 0, none⟩ = some (.func (.func 146) #[] #[.pointer (some ⟨a.kb, 0, none⟩), .pointer (some ⟨a.nb, 0, none⟩)]) := by rw [(draft_cells hsv).1]; unfold Dc.anyV; rw [HX.out]; rfl
  have HC := hid (HB.out.2 w1.drew ⟨r1.cs.drew, r1.dr.drew, r1.lowa, r1.lowH, r1.off, r1.big⟩)
  have R1 := hid (And.intro r1 g1)
  clear r1 g1 HN hsv
  go_wp2_with fail
  go_region_with (first
    | (go_at_call 146; refine HC.out.mono ?_; rintro e w2 ⟨x, s1, rfl, hp2, r2, g2⟩; have HW := hid (word_any r2 hp2); have R2 := hid (And.intro r2 g2); clear r2 g2 hp2; unfold CP at HW)
    | (go_at_call 224; refine HW.out.mono ?_; rintro e w3 ⟨rfl, r3, g3⟩; have R3 := hid (And.intro r3 g3); clear r3 g3))
  all_goals
    go_wp2
    first | go_end0 | skip
    exact ⟨rfl, R3.out.1, (R1.out.2.tr (Gb.drewL R2.out.2)).tr R3.out.2⟩
end Go.Proofs.YtcdijppegfcoaaaGreatDoor

/-
  OUR OWN TEXT. The program's types with cells: what lies right below one.
-/
namespace Go.Proofs.YtcdijppegfcoaaaGreatDoor
open Go.RowKit
/-- What Below leaves: a new list. -/
def BLE (H : Nat → Option Obj) (ca : List Nat) (σ : Sto) (d : Nat → Nat) (us : List Value) (w : World) (e : Ending) (w' : World) : Prop :=
  CSd H ca σ d w' ∧ Gb (InAs ca) w w' ∧ ((us = [] ∧ e = .returned (.slice none 0 0)) ∨ ∃ gn, e = .returned (.slice (some ⟨gn, 0, none⟩) us.length us.length) ∧ w.heap.size ≤ gn ∧ w'.heap[gn]? = some (.cells us.toArray 156 (0, 0)))
/-- Values and types, one by one. -/
def KR (H : Nat → Option Obj) (ca : List Nat) (us : List Value) (ks : List Et) : Prop := us.length = ks.length ∧ ∀ (i : Nat) (u : Value) (k : Et), us[i]? = some u → ks[i]? = some k → ER H ca u k
theorem KR.nil {H : Nat → Option Obj} {ca : List Nat} : KR H ca [] [] := ⟨rfl, fun i u k h => by simp at h⟩
theorem KR.one {H : Nat → Option Obj} {ca : List Nat} {u : Value} {k : Et} (h : ER H ca u k) : KR H ca [u] [k] := ⟨rfl, fun i x y e1 e2 => by
  match i, e1, e2 with
  | 0, e1, e2 => simp at e1 e2; subst e1 e2; exact h
  | i + 1, e1, e2 => simp at e1⟩
theorem KR.two {H : Nat → Option Obj} {ca : List Nat} {u z : Value} {k l : Et} (h : ER H ca u k) (h2 : ER H ca z l) : KR H ca [u, z] [k, l] := ⟨rfl, fun i x y e1 e2 => by
  match i, e1, e2 with
  | 0, e1, e2 => simp at e1 e2; subst e1 e2; exact h
  | 1, e1, e2 => simp at e1 e2; subst e1 e2; exact h2
  | i + 2, e1, e2 => simp at e1⟩

theorem eB_Var (b : Nat) (w : World) : (Go.method 567 309 (.pointer (some ⟨b, 0, none⟩)) "Below").run Tryz.prog w = .ok (306, .pointer (some ⟨b, 0, none⟩)) w := by kernel_rfl
theorem eB_Basic (b : Nat) (w : World) : (Go.method 567 346 (.pointer (some ⟨b, 0, none⟩)) "Below").run Tryz.prog w = .ok (307, .pointer (some ⟨b, 0, none⟩)) w := by kernel_rfl
theorem eB_List (b : Nat) (w : World) : (Go.method 567 349 (.pointer (some ⟨b, 0, none⟩)) "Below").run Tryz.prog w = .ok (308, .pointer (some ⟨b, 0, none⟩)) w := by kernel_rfl
theorem eB_Pair (b : Nat) (w : World) : (Go.method 567 361 (.pointer (some ⟨b, 0, none⟩)) "Below").run Tryz.prog w = .ok (309, .pointer (some ⟨b, 0, none⟩)) w := by kernel_rfl
theorem eB_Arrow (b : Nat) (w : World) : (Go.method 567 291 (.pointer (some ⟨b, 0, none⟩)) "Below").run Tryz.prog w = .ok (304, .pointer (some ⟨b, 0, none⟩)) w := by kernel_rfl
theorem eB_Cell (b : Nat) (w : World) : (Go.method 567 265 (.pointer (some ⟨b, 0, none⟩)) "Below").run Tryz.prog w = .ok (201, .pointer (some ⟨b, 0, none⟩)) w := by kernel_rfl

set_option maxRecDepth 100000 in
theorem eb_var (b : Nat) (w : World) : Calls Tryz.prog 306 #[CP b] w fun e w' => e = .returned (.slice none 0 0) ∧ w' = w := by
  unfold CP
  go_enter Tryz.func306, Tryz.ntmps306
  go_wp2
  go_ret
  exact ⟨rfl, rfl⟩
set_option maxRecDepth 100000 in
theorem eb_basic (b : Nat) (w : World) : Calls Tryz.prog 307 #[CP b] w fun e w' => e = .returned (.slice none 0 0) ∧ w' = w := by
  unfold CP
  go_enter Tryz.func307, Tryz.ntmps307
  go_wp2
  go_ret
  exact ⟨rfl, rfl⟩
set_option maxRecDepth 100000 in
theorem eb_list (b : Nat) (w : World) (t1 : TypeId) (b1 : Nat) (h : w.heap[b]? = some (.cells #[(.iface t1 (.pointer (some ⟨b1, 0, none⟩)))] 351 (0, 0))) :
    Calls Tryz.prog 308 #[CP b] w fun e w' => e = .returned (.slice (some ⟨w.heap.size, 0, none⟩) 1 1) ∧ w' = w.alloc (.cells #[(.iface t1 (.pointer (some ⟨b1, 0, none⟩)))] 156) := by
  have c0 : w.cell? ⟨b, 0, none⟩ = some (.iface t1 (.pointer (some ⟨b1, 0, none⟩))) := by simp [World.cell?, h]
  clear h
  unfold CP
  go_enter Tryz.func308, Tryz.ntmps308
  go_wp2
  go_ret
  exact ⟨rfl, rfl⟩
set_option maxRecDepth 100000 in
theorem eb_pair (b : Nat) (w : World) (t1 t2 : TypeId) (b1 b2 : Nat) (h : w.heap[b]? = some (.cells #[(.iface t1 (.pointer (some ⟨b1, 0, none⟩))), (.iface t2 (.pointer (some ⟨b2, 0, none⟩)))] 384 (0, 0))) :
    Calls Tryz.prog 309 #[CP b] w fun e w' => e = .returned (.slice (some ⟨w.heap.size, 0, none⟩) 2 2) ∧ w' = (w.alloc (.cells #[(.iface t1 (.pointer (some ⟨b1, 0, none⟩))), (.iface t2 (.pointer (some ⟨b2, 0, none⟩)))] 156)).drew := by
  have c0 : w.cell? ⟨b, 0, none⟩ = some (.iface t1 (.pointer (some ⟨b1, 0, none⟩))) := by simp [World.cell?, h]
  have c1 : w.cell? ⟨b, 1, none⟩ = some (.iface t2 (.pointer (some ⟨b2, 0, none⟩))) := by simp [World.cell?, h]
  clear h
  unfold CP
  go_enter Tryz.func309, Tryz.ntmps309
  go_wp2_with fail
  (try go_region)
  go_wp2
  go_ret
  exact ⟨rfl, rfl⟩
set_option maxRecDepth 100000 in
theorem eb_arrow (b : Nat) (w : World) (t1 t2 : TypeId) (b1 b2 : Nat) (h : w.heap[b]? = some (.cells #[(.iface t1 (.pointer (some ⟨b1, 0, none⟩))), (.iface t2 (.pointer (some ⟨b2, 0, none⟩)))] 293 (0, 0))) :
    Calls Tryz.prog 304 #[CP b] w fun e w' => e = .returned (.slice (some ⟨w.heap.size, 0, none⟩) 2 2) ∧ w' = (w.alloc (.cells #[(.iface t1 (.pointer (some ⟨b1, 0, none⟩))), (.iface t2 (.pointer (some ⟨b2, 0, none⟩)))] 156)).drew := by
  have c0 : w.cell? ⟨b, 0, none⟩ = some (.iface t1 (.pointer (some ⟨b1, 0, none⟩))) := by simp [World.cell?, h]
  have c1 : w.cell? ⟨b, 1, none⟩ = some (.iface t2 (.pointer (some ⟨b2, 0, none⟩))) := by simp [World.cell?, h]
  clear h
  unfold CP
  go_enter Tryz.func304, Tryz.ntmps304
  go_wp2_with fail
  (try go_region)
  go_wp2
  go_ret
  exact ⟨rfl, rfl⟩

/-- What Below is at a value, and what it gives. -/
def BelowAt (H : Nat → Option Obj) (ca : List Nat) (σ : Sto) (d : Nat → Nat) (T0 : TypeId) (b : Nat) (F : FuncId) (us : List Value) (w : World) : Prop :=
  (∀ w, (Go.method 567 T0 (.pointer (some ⟨b, 0, none⟩)) "Below").run Tryz.prog w = .ok (F, .pointer (some ⟨b, 0, none⟩)) w) ∧ Calls Tryz.prog F #[CP b] w (BLE H ca σ d us w) ∧
  (F = 306 ∨ F = 307 ∨ F = 308 ∨ F = 309 ∨ F = 304 ∨ F = 201)
/-- .. in whatever world. -/
def NodeAt (H : Nat → Option Obj) (ca : List Nat) (σ : Sto) (d : Nat → Nat) (T0 : TypeId) (b : Nat) (F : FuncId) (us : List Value) : Prop := ∀ w, CSd H ca σ d w → BelowAt H ca σ d T0 b F us w
theorem below_node {H : Nat → Option Obj} {ca : List Nat} (σ : Sto) (d : Nat → Nat) {lo m : Nat} {v : Value} {t : Et} (h : ERep lo H ca (m + 1) v t) (hk : t.kind ≠ oCell) :
    ∃ T0 b F us, v = .iface T0 (.pointer (some ⟨b, 0, none⟩)) ∧ T0 ≠ 265 ∧ us.length ≤ 2 ∧ KR H ca us t.kids ∧ NodeAt H ca σ d T0 b F us ∧ (F = 306 ∨ F = 307 ∨ F = 308 ∨ F = 309 ∨ F = 304) := by
  have al : ∀ (w : World) (cs : Array Value), CSd H ca σ d w → CSd H ca σ d (w.alloc (.cells cs 156)) := fun w cs hc => hc.gb (R := fun _ => False) ((Gb.refl _ _).alloc _) (fun _ _ e => e) (fun _ _ _ e => e)
  obtain ⟨b, h⟩ := h
  rcases h with ⟨h1, h2, h3, h4⟩ | ⟨h1, h2, h3, h0, h4, h5⟩ | ⟨h1, h2, h3, h4⟩ | ⟨h1, h0, a, u, h2, h3, h4, h5⟩ | ⟨h1, h0, a, c, u, z, h2, h3, h4, h5, h6⟩ | ⟨h1, h0, a, c, u, z, h2, h3, h4, h5, h6⟩
  · exact absurd h1 hk
  · refine ⟨_, b, _, [], h4, by decide, by simp, by rw [h2]; exact KR.nil, fun w hc => ⟨fun w => eB_Var b w, (eb_var b w).mono ?_, Or.inl rfl⟩, Or.inl rfl⟩
    rintro e w' ⟨rfl, rfl⟩
    exact ⟨hc, Gb.refl _ _, Or.inl ⟨rfl, rfl⟩⟩
  · refine ⟨_, b, _, [], h3, by decide, by simp, by rw [h2]; exact KR.nil, fun w hc => ⟨fun w => eB_Basic b w, (eb_basic b w).mono ?_, Or.inr (Or.inl rfl)⟩, Or.inr (Or.inl rfl)⟩
    rintro e w' ⟨rfl, rfl⟩
    exact ⟨hc, Gb.refl _ _, Or.inl ⟨rfl, rfl⟩⟩
  · obtain ⟨t1, b1, _, rfl⟩ := h5.val
    refine ⟨_, b, _, [_], h3, by decide, by simp, by rw [h2]; exact KR.one ⟨m, h5.ext (Nat.zero_le _) (fun _ _ e => e) (List.prefix_refl _) _ _ _⟩, fun w hc => ⟨fun w => eB_List b w, (eb_list b w t1 b1 (hc.fz _ _ h4)).mono ?_, Or.inr (Or.inr (Or.inl rfl))⟩, Or.inr (Or.inr (Or.inl rfl))⟩
    rintro e w' ⟨rfl, rfl⟩
    exact ⟨al _ _ hc, (Gb.refl _ _).alloc _, Or.inr ⟨_, rfl, Nat.le_refl _, heap_alloc_at _ _ _ rfl⟩⟩
  · obtain ⟨t1, b1, _, rfl⟩ := h5.val
    obtain ⟨t2, b2, _, rfl⟩ := h6.val
    refine ⟨_, b, _, [_, _], h3, by decide, by simp, by rw [h2]; exact KR.two ⟨m, h5.ext (Nat.zero_le _) (fun _ _ e => e) (List.prefix_refl _) _ _ _⟩ ⟨m, h6.ext (Nat.zero_le _) (fun _ _ e => e) (List.prefix_refl _) _ _ _⟩, fun w hc => ⟨fun w => eB_Pair b w, (eb_pair b w t1 t2 b1 b2 (hc.fz _ _ h4)).mono ?_, Or.inr (Or.inr (Or.inr (Or.inl rfl)))⟩, Or.inr (Or.inr (Or.inr (Or.inl rfl)))⟩
    rintro e w' ⟨rfl, rfl⟩
    exact ⟨(al _ _ hc).drew, ((Gb.refl _ _).alloc _).drew, Or.inr ⟨_, rfl, Nat.le_refl _, heap_alloc_at _ _ _ rfl⟩⟩
  · obtain ⟨t1, b1, _, rfl⟩ := h5.val
    obtain ⟨t2, b2, _, rfl⟩ := h6.val
    refine ⟨_, b, _, [_, _], h3, by decide, by simp, by rw [h2]; exact KR.two ⟨m, h5.ext (Nat.zero_le _) (fun _ _ e => e) (List.prefix_refl _) _ _ _⟩ ⟨m, h6.ext (Nat.zero_le _) (fun _ _ e => e) (List.prefix_refl _) _ _ _⟩, fun w hc => ⟨fun w => eB_Arrow b w, (eb_arrow b w t1 t2 b1 b2 (hc.fz _ _ h4)).mono ?_, Or.inr (Or.inr (Or.inr (Or.inr (Or.inl rfl))))⟩, Or.inr (Or.inr (Or.inr (Or.inr rfl)))⟩
    rintro e w' ⟨rfl, rfl⟩
    exact ⟨(al _ _ hc).drew, ((Gb.refl _ _).alloc _).drew, Or.inr ⟨_, rfl, Nat.le_refl _, heap_alloc_at _ _ _ rfl⟩⟩
end Go.Proofs.YtcdijppegfcoaaaGreatDoor
