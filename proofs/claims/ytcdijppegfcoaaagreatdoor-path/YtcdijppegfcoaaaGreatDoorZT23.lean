import Derived.Test.YtcdijppegfcoaaaGreatDoorZT19
import Derived.Deep.QuietTactic
import Derived.BigQuiet
import Derived.Test.YtcdijppegfcoaaaGreatDoorZT15
import Derived.Test.YtcdijppegfcoaaaGreatDoorZT22
import Derived.Deep.RegionLaw
import Derived.Outline
import Derived.Test.YtcdijppegfcoaaaGreatDoorZT13
/-
  OUR OWN TEXT (written by mkqfit.py). The program's types.alike.
-/
namespace Go.Proofs.YtcdijppegfcoaaaGreatDoor
open Go.RowKit
set_option maxRecDepth 100000 in
theorem al_Basic_Basic (w : World) (a b : Nat) (s t : List UInt8) (c0 : w.cell? ⟨a, 0, none⟩ = some (.string (B s))) (c1 : w.cell? ⟨b, 0, none⟩ = some (.string (B t))) : Calls Tryz.prog 152 #[.iface 346 (.pointer (some ⟨a, 0, none⟩)), .iface 346 (.pointer (some ⟨b, 0, none⟩))] w fun e w' => e = .returned (.bool (decide (s = t))) ∧ w.grownBy w' none := by
  have pBasic := e_Basic_Basic a
  have pb := e_Basic_Basic b
  have hd := str_eq s t
  generalize decide (s = t) = r at *
  go_enter Tryz.func152, Tryz.ntmps152
  go_wp2_with fail
  go_quiet (fail)
  go_wp2
  go_ret
  exact ⟨rfl, ⟨rfl, rfl, rfl, Nat.le_refl _, fun _ _ _ => rfl⟩⟩
set_option maxRecDepth 100000 in
theorem al_Basic_List (w : World) (a b : Nat)  : Calls Tryz.prog 152 #[.iface 346 (.pointer (some ⟨a, 0, none⟩)), .iface 349 (.pointer (some ⟨b, 0, none⟩))] w fun e w' => e = .returned (.bool (false)) ∧ w.grownBy w' none := by
  have pBasic := e_Basic_Basic a
  have pb := e_List_Basic b
  go_enter Tryz.func152, Tryz.ntmps152
  go_wp2_with fail
  go_quiet (fail)
  go_wp2
  go_ret
  exact ⟨rfl, ⟨rfl, rfl, rfl, Nat.le_refl _, fun _ _ _ => rfl⟩⟩
set_option maxRecDepth 100000 in
theorem al_Basic_Pair (w : World) (a b : Nat)  : Calls Tryz.prog 152 #[.iface 346 (.pointer (some ⟨a, 0, none⟩)), .iface 361 (.pointer (some ⟨b, 0, none⟩))] w fun e w' => e = .returned (.bool (false)) ∧ w.grownBy w' none := by
  have pBasic := e_Basic_Basic a
  have pb := e_Pair_Basic b
  go_enter Tryz.func152, Tryz.ntmps152
  go_wp2_with fail
  go_quiet (fail)
  go_wp2
  go_ret
  exact ⟨rfl, ⟨rfl, rfl, rfl, Nat.le_refl _, fun _ _ _ => rfl⟩⟩
set_option maxRecDepth 100000 in
theorem al_Basic_Arrow (w : World) (a b : Nat)  : Calls Tryz.prog 152 #[.iface 346 (.pointer (some ⟨a, 0, none⟩)), .iface 291 (.pointer (some ⟨b, 0, none⟩))] w fun e w' => e = .returned (.bool (false)) ∧ w.grownBy w' none := by
  have pBasic := e_Basic_Basic a
  have pb := e_Arrow_Basic b
  go_enter Tryz.func152, Tryz.ntmps152
  go_wp2_with fail
  go_quiet (fail)
  go_wp2
  go_ret
  exact ⟨rfl, ⟨rfl, rfl, rfl, Nat.le_refl _, fun _ _ _ => rfl⟩⟩
set_option maxRecDepth 100000 in
theorem al_List_Basic (w : World) (a b : Nat)  : Calls Tryz.prog 152 #[.iface 349 (.pointer (some ⟨a, 0, none⟩)), .iface 346 (.pointer (some ⟨b, 0, none⟩))] w fun e w' => e = .returned (.bool (false)) ∧ w.grownBy w' none := by
  have pBasic := e_List_Basic a
  have pList := e_List_List a
  have pb := e_Basic_List b
  go_enter Tryz.func152, Tryz.ntmps152
  go_wp2
  go_ret
  exact ⟨rfl, World.grownBy.refl _ _⟩
set_option maxRecDepth 100000 in
theorem al_List_List (w : World) (a b : Nat)  : Calls Tryz.prog 152 #[.iface 349 (.pointer (some ⟨a, 0, none⟩)), .iface 349 (.pointer (some ⟨b, 0, none⟩))] w fun e w' => e = .returned (.bool (true)) ∧ w.grownBy w' none := by
  have pBasic := e_List_Basic a
  have pList := e_List_List a
  have pb := e_List_List b
  go_enter Tryz.func152, Tryz.ntmps152
  go_wp2
  go_ret
  exact ⟨rfl, World.grownBy.refl _ _⟩
set_option maxRecDepth 100000 in
theorem al_List_Pair (w : World) (a b : Nat)  : Calls Tryz.prog 152 #[.iface 349 (.pointer (some ⟨a, 0, none⟩)), .iface 361 (.pointer (some ⟨b, 0, none⟩))] w fun e w' => e = .returned (.bool (false)) ∧ w.grownBy w' none := by
  have pBasic := e_List_Basic a
  have pList := e_List_List a
  have pb := e_Pair_List b
  go_enter Tryz.func152, Tryz.ntmps152
  go_wp2
  go_ret
  exact ⟨rfl, World.grownBy.refl _ _⟩
set_option maxRecDepth 100000 in
theorem al_List_Arrow (w : World) (a b : Nat)  : Calls Tryz.prog 152 #[.iface 349 (.pointer (some ⟨a, 0, none⟩)), .iface 291 (.pointer (some ⟨b, 0, none⟩))] w fun e w' => e = .returned (.bool (false)) ∧ w.grownBy w' none := by
  have pBasic := e_List_Basic a
  have pList := e_List_List a
  have pb := e_Arrow_List b
  go_enter Tryz.func152, Tryz.ntmps152
  go_wp2
  go_ret
  exact ⟨rfl, World.grownBy.refl _ _⟩
set_option maxRecDepth 100000 in
theorem al_Pair_Basic (w : World) (a b : Nat)  : Calls Tryz.prog 152 #[.iface 361 (.pointer (some ⟨a, 0, none⟩)), .iface 346 (.pointer (some ⟨b, 0, none⟩))] w fun e w' => e = .returned (.bool (false)) ∧ w.grownBy w' none := by
  have pBasic := e_Pair_Basic a
  have pList := e_Pair_List a
  have pPair := e_Pair_Pair a
  have pb := e_Basic_Pair b
  go_enter Tryz.func152, Tryz.ntmps152
  go_wp2
  go_ret
  exact ⟨rfl, World.grownBy.refl _ _⟩
set_option maxRecDepth 100000 in
theorem al_Pair_List (w : World) (a b : Nat)  : Calls Tryz.prog 152 #[.iface 361 (.pointer (some ⟨a, 0, none⟩)), .iface 349 (.pointer (some ⟨b, 0, none⟩))] w fun e w' => e = .returned (.bool (false)) ∧ w.grownBy w' none := by
  have pBasic := e_Pair_Basic a
  have pList := e_Pair_List a
  have pPair := e_Pair_Pair a
  have pb := e_List_Pair b
  go_enter Tryz.func152, Tryz.ntmps152
  go_wp2
  go_ret
  exact ⟨rfl, World.grownBy.refl _ _⟩
set_option maxRecDepth 100000 in
theorem al_Pair_Pair (w : World) (a b : Nat)  : Calls Tryz.prog 152 #[.iface 361 (.pointer (some ⟨a, 0, none⟩)), .iface 361 (.pointer (some ⟨b, 0, none⟩))] w fun e w' => e = .returned (.bool (true)) ∧ w.grownBy w' none := by
  have pBasic := e_Pair_Basic a
  have pList := e_Pair_List a
  have pPair := e_Pair_Pair a
  have pb := e_Pair_Pair b
  go_enter Tryz.func152, Tryz.ntmps152
  go_wp2
  go_ret
  exact ⟨rfl, World.grownBy.refl _ _⟩
set_option maxRecDepth 100000 in
theorem al_Pair_Arrow (w : World) (a b : Nat)  : Calls Tryz.prog 152 #[.iface 361 (.pointer (some ⟨a, 0, none⟩)), .iface 291 (.pointer (some ⟨b, 0, none⟩))] w fun e w' => e = .returned (.bool (false)) ∧ w.grownBy w' none := by
  have pBasic := e_Pair_Basic a
  have pList := e_Pair_List a
  have pPair := e_Pair_Pair a
  have pb := e_Arrow_Pair b
  go_enter Tryz.func152, Tryz.ntmps152
  go_wp2
  go_ret
  exact ⟨rfl, World.grownBy.refl _ _⟩
set_option maxRecDepth 100000 in
theorem al_Arrow_Basic (w : World) (a b : Nat)  : Calls Tryz.prog 152 #[.iface 291 (.pointer (some ⟨a, 0, none⟩)), .iface 346 (.pointer (some ⟨b, 0, none⟩))] w fun e w' => e = .returned (.bool (false)) ∧ w.grownBy w' none := by
  have pBasic := e_Arrow_Basic a
  have pList := e_Arrow_List a
  have pPair := e_Arrow_Pair a
  have pArrow := e_Arrow_Arrow a
  have pb := e_Basic_Arrow b
  go_enter Tryz.func152, Tryz.ntmps152
  go_wp2
  go_ret
  exact ⟨rfl, World.grownBy.refl _ _⟩
set_option maxRecDepth 100000 in
theorem al_Arrow_List (w : World) (a b : Nat)  : Calls Tryz.prog 152 #[.iface 291 (.pointer (some ⟨a, 0, none⟩)), .iface 349 (.pointer (some ⟨b, 0, none⟩))] w fun e w' => e = .returned (.bool (false)) ∧ w.grownBy w' none := by
  have pBasic := e_Arrow_Basic a
  have pList := e_Arrow_List a
  have pPair := e_Arrow_Pair a
  have pArrow := e_Arrow_Arrow a
  have pb := e_List_Arrow b
  go_enter Tryz.func152, Tryz.ntmps152
  go_wp2
  go_ret
  exact ⟨rfl, World.grownBy.refl _ _⟩
set_option maxRecDepth 100000 in
theorem al_Arrow_Pair (w : World) (a b : Nat)  : Calls Tryz.prog 152 #[.iface 291 (.pointer (some ⟨a, 0, none⟩)), .iface 361 (.pointer (some ⟨b, 0, none⟩))] w fun e w' => e = .returned (.bool (false)) ∧ w.grownBy w' none := by
  have pBasic := e_Arrow_Basic a
  have pList := e_Arrow_List a
  have pPair := e_Arrow_Pair a
  have pArrow := e_Arrow_Arrow a
  have pb := e_Pair_Arrow b
  go_enter Tryz.func152, Tryz.ntmps152
  go_wp2
  go_ret
  exact ⟨rfl, World.grownBy.refl _ _⟩
set_option maxRecDepth 100000 in
theorem al_Arrow_Arrow (w : World) (a b : Nat)  : Calls Tryz.prog 152 #[.iface 291 (.pointer (some ⟨a, 0, none⟩)), .iface 291 (.pointer (some ⟨b, 0, none⟩))] w fun e w' => e = .returned (.bool (true)) ∧ w.grownBy w' none := by
  have pBasic := e_Arrow_Basic a
  have pList := e_Arrow_List a
  have pPair := e_Arrow_Pair a
  have pArrow := e_Arrow_Arrow a
  have pb := e_Arrow_Arrow b
  go_enter Tryz.func152, Tryz.ntmps152
  go_wp2
  go_ret
  exact ⟨rfl, World.grownBy.refl _ _⟩
end Go.Proofs.YtcdijppegfcoaaaGreatDoor

/-
  OUR OWN TEXT. The program's types.Match; two types over blocks that no longer change.
-/
namespace Go.Proofs.YtcdijppegfcoaaaGreatDoor
open Go.RowKit
def both (H1 H2 : Nat → Option Obj) (k : Nat) : Option Obj := match H1 k with
  | some o => some o
  | none => H2 k
theorem fz_both {H1 H2 : Nat → Option Obj} {w : World} (h1 : Fz H1 w) (h2 : Fz H2 w) : Fz (both H1 H2) w ∧ Ext 0 H1 (both H1 H2) ∧ Ext 0 H2 (both H1 H2) := by
  refine ⟨fun k o e => ?_, ⟨fun k o e => ?_, fun k hk => by omega⟩, ⟨fun k o e => ?_, fun k hk => by omega⟩⟩
  · unfold both at e
    cases e1 : H1 k with
    | some o' => rw [e1] at e; cases e; exact h1 k _ e1
    | none => rw [e1] at e; exact h2 k o e
  · unfold both; rw [e]
  · unfold both
    cases e1 : H1 k with
    | some o' =>
      have a := h1 k o' e1
      have b := h2 k o e
      rw [a] at b
      exact b
    | none => exact e
end Go.Proofs.YtcdijppegfcoaaaGreatDoor

/-
  OUR OWN TEXT. The program's cells: general, General.
-/
namespace Go.Proofs.YtcdijppegfcoaaaGreatDoor
open Go.RowKit
/-- The scheme of a cell, on plain data; none: no fuel, or a number beyond two figures. -/
def generalT (σ : Sto) (but : List Nat) : Nat → Nat → Option Et
  | 0, _ => none
  | f + 1, c => if σ.root c ∈ but then some (cT (σ.root c)) else match σ.is c with
    | none => if σ.root c < 99 then some (vT (dec2 (σ.root c + 1))) else none
    | some nd => match mapS (fun k => generalT σ but f k.num) nd.kids with
      | none => none
      | some ks => some ⟨nd.kind, [], 0, ks⟩
/-- The cells that are reached, as the map holds them. -/
def uV (_ : Unit) : Value := .agg #[]
def ButAt (ca : List Nat) (L : List Nat) (bv : Value) (w : World) : Prop := (bv = .map none ∧ L = []) ∨ ∃ mb, bv = .map (some mb) ∧ mb ∉ ca ∧ GM kI uV 3 w mb (L.map fun n => (n, ()))
theorem ButAt.gb {ca : List Nat} {L : List Nat} {bv : Value} {w w' : World} (h : ButAt ca L bv w) (g : Gb (InAs ca) w w') : ButAt ca L bv w' := by
  rcases h with h | ⟨mb, h1, h2, h3⟩
  · exact Or.inl h
  · exact Or.inr ⟨mb, h1, h2, h3.gb g h2⟩
theorem getL_unit (L : List Nat) (n : Nat) : (getL (L.map fun n => (n, ())) n).isSome = decide (n ∈ L) := by
  induction L with
  | nil => rfl
  | cons a L ih =>
    rw [List.map_cons, getL]
    by_cases h : a = n
    · rw [if_pos h]; simp [h]
    · rw [if_neg h, ih]
      simp [Ne.symm h]
theorem dec2_len (n : Nat) : (dec2 n).length ≤ 300 := by unfold dec2; split <;> simp
theorem look_none (n : Int) (w : World) : (Instr.lookup 336 (.map none) (.int .i64 n) true).run Tryz.prog w = .ok (.tuple #[.agg #[], .bool false]) w := by kernel_rfl
theorem zeroUnit (w : World) : (zeroValue 371).run Tryz.prog w = .ok (.agg #[]) w := by kernel_rfl
theorem ButAt.look {ca : List Nat} {L : List Nat} {bv : Value} {w : World} (h : ButAt ca L bv w) {n : Nat} (hn : n ≤ 1099511627776) : (Instr.lookup 336 bv (.int .i64 ((n : Int) + 1)) true).run Tryz.prog w = .ok (.tuple #[.agg #[], .bool (decide (n ∈ L))]) w := by
  rcases h with ⟨rfl, rfl⟩ | ⟨mb, rfl, _, h⟩
  · exact look_none _ w
  · rw [h.look intLaw Tryz.underlying336 (zeroUnit w) (kI_key hn), getL_unit]
    cases getL (L.map fun n => (n, ())) n <;> rfl

/-- What general leaves: a type over blocks that no longer change, some of them new. -/
def GNP (H : Nat → Option Obj) (ca : List Nat) (σ : Sto) (d : Nat → Nat) (t : Et) (w : World) (e : Ending) (w' : World) : Prop :=
  Gb (InAs ca) w w' ∧ CSd H ca σ d w' ∧ ∃ v H', e = .returned v ∧ Fz H' w' ∧ (∀ k o, H k = some o → H' k = some o) ∧ (∀ k o, H' k = some o → H k = some o ∨ w.heap.size ≤ k) ∧ ER H' ca v t
def GNC (H : Nat → Option Obj) (ca : List Nat) (σ : Sto) (d : Nat → Nat) (L : List Nat) (f : Nat) : Prop := ∀ (c x : Nat) (t : Et) (w : World) (bv : Value), ca[c]? = some x → generalT σ L f c = some t → CSd H ca σ d w → ButAt ca L bv w → Calls Tryz.prog 170 #[CI x, bv] w (GNP H ca σ d t w)
/-- One block more. -/
def onto1 (H : Nat → Option Obj) (p : Nat) (o : Obj) (k : Nat) : Option Obj := if k = p then some o else H k
theorem onto1_fz {H : Nat → Option Obj} {w : World} {p : Nat} {o : Obj} (h : Fz H w) (hp : w.heap[p]? = some o) : Fz (onto1 H p o) w := fun k x e => by
  unfold onto1 at e
  split at e
  · rename_i hk; rw [hk, ← e]; exact hp
  · exact h k x e
theorem onto1_ext {H : Nat → Option Obj} {p : Nat} {o : Obj} (h : H p = none) : ∀ k x, H k = some x → onto1 H p o k = some x := fun k x e => by
  unfold onto1
  rw [if_neg (fun hk => by rw [hk, h] at e; cases e)]
  exact e
theorem onto1_new {H0 H : Nat → Option Obj} {p n : Nat} {o : Obj} (h : ∀ k x, H k = some x → H0 k = some x ∨ n ≤ k) (hp : n ≤ p) : ∀ k x, onto1 H p o k = some x → H0 k = some x ∨ n ≤ k := fun k x e => by
  unfold onto1 at e
  split at e
  · rename_i hk; right; omega
  · exact h k x e
theorem onto1_at {H : Nat → Option Obj} {p : Nat} {o : Obj} : onto1 H p o p = some o := by unfold onto1; rw [if_pos rfl]

theorem CSd.grown0 {H : Nat → Option Obj} {ca : List Nat} {σ : Sto} {d : Nat → Nat} {w w' : World} (h : CSd H ca σ d w) (g : w.grownBy w' none) : CSd H ca σ d w' := h.gb (R := fun _ => False) (Gb.new g) (fun _ _ e => e) (fun _ _ _ e => e)
/-- The two cases without anything below. -/
theorem gnp_cell {H : Nat → Option Obj} {ca : List Nat} {σ : Sto} {d : Nat → Nat} {c b : Nat} {w w' : World} (hc : CSd H ca σ d w') (g : Gb (InAs ca) w w') (eb : ca[c]? = some b) : GNP H ca σ d (cT c) w (.returned (CI b)) w' :=
  ⟨g, hc, CI b, H, rfl, hc.fz, fun _ _ e => e, fun _ _ e => Or.inl e, 1, b, Or.inl ⟨rfl, rfl, eb, rfl⟩⟩

theorem gnp_new {H H1 : Nat → Option Obj} {ca : List Nat} {σ : Sto} {d : Nat → Nat} {w w2 w3 : World} {p : Nat} {o : Obj} {v : Value} {t : Et} (hc : CSd H ca σ d w2) (g : Gb (InAs ca) w w2) (hz : Fz H1 w2) (hx : ∀ k x, H k = some x → H1 k = some x) (hn : ∀ k x, H1 k = some x → H k = some x ∨ w.heap.size ≤ k) (g3 : w2.grownBy w3 none) (hp : w2.heap.size ≤ p) (ho : w3.heap[p]? = some o) (hv : ER (onto1 H1 p o) ca v t) : GNP H ca σ d t w (.returned v) w3 :=
  ⟨g.tr (Gb.new g3), hc.grown0 g3, v, onto1 H1 p o, rfl, onto1_fz (hz.grown g3) ho, fun k x e => onto1_ext (hz.none hp) k x (hx k x e), onto1_new hn (Nat.le_trans g.size hp), hv⟩

theorem grow1 {w : World} {gn : Nat} {u v : Value} {t : TypeId} (h : w.heap[gn]? = some (.cells #[u] t (0, 0))) : w.cell? ⟨gn, 0, none⟩ = some u ∧ w.frozen? ⟨gn, 0, none⟩ = false ∧ (w.setCell ⟨gn, 0, none⟩ v).heap[gn]? = some (.cells #[v] t (0, 0)) := by simp [World.cell?, World.frozen?, World.setCell, Array.getElem?_modify, h]
theorem grow2 {w : World} {gn : Nat} {u z : Value} {t : TypeId} (h : w.heap[gn]? = some (.cells #[u, z] t (0, 0))) : w.cell? ⟨gn, 0, none⟩ = some u ∧ w.cell? ⟨gn, 1, none⟩ = some z ∧ w.frozen? ⟨gn, 0, none⟩ = false ∧ w.frozen? ⟨gn, 1, none⟩ = false ∧ (∀ v, (w.setCell ⟨gn, 0, none⟩ v).heap[gn]? = some (.cells #[v, z] t (0, 0))) ∧ ∀ v, (w.setCell ⟨gn, 1, none⟩ v).heap[gn]? = some (.cells #[u, v] t (0, 0)) := by simp [World.cell?, World.frozen?, World.setCell, Array.getElem?_modify, h]
/-- A store into a new list. -/
theorem csd_setNew {H : Nat → Option Obj} {ca : List Nat} {σ : Sto} {d : Nat → Nat} {w : World} {gn : Nat} (h : CSd H ca σ d w) (hg : ¬ InAs ca gn) (hh : H gn = none) (i : Nat) (v : Value) : CSd H ca σ d (w.setCell ⟨gn, i, none⟩ v) :=
  h.gb (R := fun k => k = gn) ((Gb.refl (fun k => k = gn) w).set (b := gn) (Or.inl rfl) i v) (fun a ha e => hg (e ▸ ha)) (fun k o e e2 => by rw [e2, hh] at e; cases e)
theorem gb_setNew {ca : List Nat} {w w' : World} (h : Gb (InAs ca) w w') {gn : Nat} (hg : w.heap.size ≤ gn) (i : Nat) (v : Value) : Gb (InAs ca) w (w'.setCell ⟨gn, i, none⟩ v) := h.set (b := gn) (Or.inr hg) i v
theorem ERep.onto {H H1 : Nat → Option Obj} {ca : List Nat} {v : Value} {t : Et} (h : ER H ca v t) (e : ∀ k o, H k = some o → H1 k = some o) : ER H1 ca v t := by
  obtain ⟨m, h⟩ := h
  exact ⟨m, ERep.ext (Nat.le_refl _) e (List.prefix_refl _) m v t h⟩
theorem er_val {H : Nat → Option Obj} {ca : List Nat} {v : Value} {t : Et} (h : ER H ca v t) : ∃ T0 b, IsE T0 ∧ v = .iface T0 (.pointer (some ⟨b, 0, none⟩)) := by
  obtain ⟨m, h⟩ := h
  exact h.val
theorem er_list {H : Nat → Option Obj} {ca : List Nat} {p : Nat} {u : Value} {a : Et} (h : ER H ca u a) (hp : H p = some (.cells #[u] 351 (0, 0))) : ER H ca (.iface 349 (.pointer (some ⟨p, 0, none⟩))) ⟨oList, [], 0, [a]⟩ := by
  obtain ⟨m, h⟩ := h
  exact ⟨m + 1, p, Or.inr (Or.inr (Or.inr (Or.inl ⟨rfl, Nat.zero_le _, a, u, rfl, rfl, hp, h⟩)))⟩
theorem er_pair {H : Nat → Option Obj} {ca : List Nat} {p : Nat} {u z : Value} {a b : Et} (h : ER H ca u a) (h2 : ER H ca z b) (hp : H p = some (.cells #[u, z] 384 (0, 0))) : ER H ca (.iface 361 (.pointer (some ⟨p, 0, none⟩))) ⟨oPair, [], 0, [a, b]⟩ := by
  obtain ⟨m, h⟩ := h
  obtain ⟨n, h2⟩ := h2
  exact ⟨max m n + 1, p, Or.inr (Or.inr (Or.inr (Or.inr (Or.inl ⟨rfl, Nat.zero_le _, a, b, u, z, rfl, rfl, hp, h.le (Nat.le_max_left _ _), h2.le (Nat.le_max_right _ _)⟩))))⟩
theorem er_arrow {H : Nat → Option Obj} {ca : List Nat} {p : Nat} {u z : Value} {a b : Et} (h : ER H ca u a) (h2 : ER H ca z b) (hp : H p = some (.cells #[u, z] 293 (0, 0))) : ER H ca (.iface 291 (.pointer (some ⟨p, 0, none⟩))) ⟨kFun, [], 0, [a, b]⟩ := by
  obtain ⟨m, h⟩ := h
  obtain ⟨n, h2⟩ := h2
  exact ⟨max m n + 1, p, Or.inr (Or.inr (Or.inr (Or.inr (Or.inr ⟨rfl, Nat.zero_le _, a, b, u, z, rfl, rfl, hp, h.le (Nat.le_max_left _ _), h2.le (Nat.le_max_right _ _)⟩))))⟩

set_option maxRecDepth 100000 in
set_option maxHeartbeats 4000000 in
theorem general_step {H : Nat → Option Obj} {ca : List Nat} {σ : Sto} {d : Nat → Nat} {L : List Nat} {f : Nat} (ih : GNC H ca σ d L f) : GNC H ca σ d L (f + 1) := by
  intro c x t w bv ec hr hc hb
  have HL := hid (last_any (d c + 1) c x w (by omega) ec hc)
  obtain ⟨b0, er0, eb0⟩ := hc.root_get ec
  have hil := (List.getElem?_eq_some_iff.1 ec).1
  have hrl : σ.root c < σ.rep.length := (List.getElem?_eq_some_iff.1 (hc.rr _ _ er0)).1
  have hfew := hc.few
  have t1 := e2_Cell x
  rw [generalT] at hr
  have HR := hid hr
  have HB := hid hb
  have EC := hid (And.intro ec (And.intro eb0 (hc.rr _ _ er0)))
  have IH := hid ih
  clear hr hc hb ih ec er0 eb0 hil
  unfold CI
  unfold CP at HL
  go_enter Tryz.func170, Tryz.ntmps170
  go_wp2_with fail
  refine HL.out.mono ?_
  rintro e w1 ⟨b1, rfl, h1, h2, h3, h4⟩
  obtain rfl := Option.some.inj (EC.out.2.1.symm.trans h1)
  obtain ⟨v1, hv1, ho1⟩ := h2.root_val (List.getElem?_eq_some_iff.1 EC.out.1).1 h1
  obtain ⟨x0, x1, _, _⟩ := cell_at hv1
  have hlk := (HB.out.gb h3).look (n := σ.root c) (by omega)
  have hbl := lt_of_block hv1
  have C1 := hid (And.intro h2 (And.intro h3 ho1))
  clear h1 h2 h3 h4 ho1 HL
  unfold CP
  by_cases hbut : σ.root c ∈ L
  · rw [decide_eq_true hbut] at hlk
    have er := HR.out
    rw [if_pos hbut] at er
    have er := (Option.some.inj er).symm
    subst er
    have Q := hid (gnp_cell (C1.out.1.grown0 (World.grownBy_alloc w1 (.cells #[] 371) none)) (C1.out.2.1.alloc (.cells #[] 371)) EC.out.2.1)
    unfold CI at Q
    clear HR hbut
    go_wp2
    go_ret
    exact Q.out
  · rw [decide_eq_false hbut] at hlk
    have er := HR.out
    rw [if_neg hbut] at er
    have x1' := cell_past x1 (.cells #[] 371)
    have x0' := cell_past x0 (.cells #[] 371)
    have C2 := hid (And.intro (C1.out.1.grown0 (World.grownBy_alloc w1 (.cells #[] 371) none)) (C1.out.2.1.alloc (.cells #[] 371)))
    rcases C1.out.2.2 with ⟨eis, rfl⟩ | ⟨nd, eis, k1, k2, k3, k4⟩
    · rw [eis] at er
      simp only at er
      split at er
      · rename_i h99
        have er := (Option.some.inj er).symm
        subst er
        have IT := hid (itoa_2 (σ.root c + 1) (by omega) (w1.alloc (.cells #[] 371)))
        rw [show (((σ.root c + 1 : Nat)) : Int) = (σ.root c : Int) + 1 by omega] at IT
        have Q := hid (gnp_new C2.out.1 C2.out.2 C2.out.1.fz (fun _ _ e => e) (fun _ _ e => Or.inl e) (World.grownBy_alloc _ _ _) (Nat.le_refl _) (heap_alloc_new (w1.alloc (.cells #[] 371)) (.cells #[.string (B (dec2 (σ.root c + 1)))] 313))
          (v := .iface 309 (.pointer (some ⟨(w1.alloc (.cells #[] 371)).heap.size, 0, none⟩))) (t := vT (dec2 (σ.root c + 1))) ⟨1, _, Or.inr (Or.inl ⟨rfl, rfl, dec2_len _, Nat.zero_le _, rfl, onto1_at⟩)⟩)
        rw [show (w1.alloc (.cells #[] 371)).heap.size = w1.heap.size + 1 by simp] at Q
        clear HR hbut eis
        go_wp2_with fail
        refine IT.out.mono ?_
        rintro e w2 ⟨rfl, rfl⟩
        clear IT
        go_wp2
        go_ret
        exact Q.out
      · cases er
    · rw [eis] at er
      simp only at er
      cases em : mapS (fun k => generalT σ L f k.num) nd.kids with
      | none => rw [em] at er; cases er
      | some ks =>
        rw [em] at er
        have er := (Option.some.inj er).symm
        subst er
        obtain ⟨us, hul, hK, hBL⟩ := below_cell (σ := σ) (d := d) EC.out.2.1 C2.out.1
        have ekk : kidsS σ (cT c) = nd.kids := by
          have e0 : kidsS σ (cT c) = (match σ.is c with | none => [] | some nd => nd.kids) := by unfold kidsS; rw [if_pos (show (cT c).kind = oCell from rfl)]; rfl
          rw [e0, eis]
        rw [kids_root EC.out.2.2, ekk] at hK
        have HBL := hid hBL
        have HK := hid (And.intro hK (And.intro k3 em))
        have EIS := hid eis
        unfold CP at HBL
        clear HR hbut eis hK hBL ekk em k3
        obtain ⟨q, k4⟩ := k4
        rcases k4 with ⟨q1, _⟩ | ⟨q1, _⟩ | ⟨q1, q2, q3, q4⟩ | ⟨q1, _, a, u, q2, q3, q4, q5⟩ | ⟨q1, _, a, a2, u, z, q2, q3, q4, q5, q6⟩ | ⟨q1, _, a, a2, u, z, q2, q3, q4, q5, q6⟩
        · exact absurd q1 k2
        · exact absurd q1 k1
        · -- int, bool
          subst q3
          have e0 : us = [] := by have := HK.out.1.1; rw [q2] at this; exact List.length_eq_zero_iff.1 this
          have e1 : ks = [] := by have := HK.out.2.2; rw [q2] at this; exact (Option.some.inj this).symm
          subst e0 e1
          have Q1 := hid (And.intro q1 q4)
          clear q1 q2 q4 k1 k2
          go_wp2_with fail
          refine HBL.out.mono ?_
          rintro e w3 ⟨r1, r2, r3⟩
          obtain ⟨ao, cap, he⟩ : ∃ ao cap, e = .returned (.slice ao 0 cap) := by
            rcases r3 with ⟨_, rfl⟩ | ⟨gn, rfl, _⟩
            · exact ⟨none, 0, rfl⟩
            · exact ⟨_, _, rfl⟩
          subst he
          obtain ⟨v3, hv3, ho3⟩ := r1.root_val (List.getElem?_eq_some_iff.1 EC.out.1).1 EC.out.2.1
          have R3 := hid (And.intro r1 (C2.out.2.tr r2))
          clear r1 r2 r3 HBL
          rcases ho3 with ⟨e3, _⟩ | ⟨nd3, e3, _, _, _, k43⟩
          · rw [EIS.out] at e3; cases e3
          · obtain rfl := Option.some.inj (EIS.out.symm.trans e3)
            obtain ⟨y0, y1, _, _⟩ := cell_at hv3
            obtain ⟨q9, k43⟩ := k43
            rcases k43 with ⟨p1, _⟩ | ⟨p1, _⟩ | ⟨p1, p2, p3, p4⟩ | ⟨p1, _⟩ | ⟨p1, _⟩ | ⟨p1, _⟩
            · rcases Q1.out.1 with h | h <;> exact absurd (h.symm.trans p1) (by decide)
            · rcases Q1.out.1 with h | h <;> exact absurd (h.symm.trans p1) (by decide)
            · subst p3
              have QE := hid (show GNP H ca σ d ⟨nd.kind, [], 0, []⟩ w (.returned (.iface 346 (.pointer (some ⟨q9, 0, none⟩)))) w3 from ⟨R3.out.2, R3.out.1, _, H, rfl, R3.out.1.fz, fun _ _ e => e, fun _ _ e => Or.inl e, 1, q9, Or.inr (Or.inr (Or.inl ⟨p1, rfl, rfl, p4⟩))⟩)
              clear p1 p2 p4 hv3 e3
              go_wp2_with fail
              refine wp_loop_rounds 1 ?_
              rw [rounds_succ]
              go_wp2_with fail
              refine (like_basic q9 _ _).mono ?_
              rintro e w4 ⟨rfl, rfl⟩
              go_wp2
              go_ret
              exact QE.out
            · rcases Q1.out.1 with h | h <;> exact absurd (h.symm.trans p1) (by decide)
            · rcases Q1.out.1 with h | h <;> exact absurd (h.symm.trans p1) (by decide)
            · rcases Q1.out.1 with h | h <;> exact absurd (h.symm.trans p1) (by decide)
        · -- a list
          subst q3
          have HQ := hid (And.intro q1 q2)
          clear q1 q2 q4 q5 k1 k2
          obtain ⟨u0, hu0⟩ : ∃ u0, us = [u0] := by
            have h9 := HK.out.1.1
            rw [HQ.out.2] at h9
            match us, h9 with
            | [u0], _ => exact ⟨u0, rfl⟩
          subst hu0
          have hk0 := HK.out.1
          rw [HQ.out.2] at hk0
          obtain ⟨y, ey, rfl⟩ := cell_val2 (hk0.2 0 u0 a rfl rfl) (HK.out.2.1 a (by rw [HQ.out.2]; simp))
          have em := HK.out.2.2
          rw [HQ.out.2, mapS] at em
          cases eg : generalT σ L f a.num with
          | none => rw [eg] at em; cases em
          | some t1 =>
            rw [eg] at em
            have em := (Option.some.inj em).symm
            subst em
            have G9 := hid (And.intro ey eg)
            clear hk0 ey eg
            unfold CI at *
            go_wp2_with fail
            refine HBL.out.mono ?_
            rintro e w3 ⟨r1, r2, r3⟩
            rcases r3 with ⟨h0, _⟩ | ⟨gn, rfl, hg, hgb⟩
            · cases h0
            have hgb : w3.heap[gn]? = some (.cells #[.iface 265 (.pointer (some ⟨y, 0, none⟩))] 156 (0, 0)) := hgb
            obtain ⟨z0, z1, _⟩ := grow1 (v := .nilIface) hgb
            have CI1 := hid (IH.out a.num y t1 w3 bv G9.out.1 G9.out.2 r1 (HB.out.gb (C2.out.2.tr r2)))
            unfold CI at CI1
            have hgn : ¬ InAs ca gn := fun h => by have := InAs.lt C2.out.1 h; omega
            have hHg : H gn = none := C2.out.1.fz.none hg
            have R3 := hid (And.intro r1 (And.intro (C2.out.2.tr r2) hgb))
            have hgw : w.heap.size ≤ gn := Nat.le_trans C2.out.2.size hg
            have hw23 := r2.size
            clear r1 r2 HBL hgb
            go_wp2_with fail
            refine wp_loop_rounds 2 ?_
            rw [rounds_succ]
            go_wp2_with fail
            refine CI1.out.mono ?_
            rintro e w4 ⟨g4, c4, v4, H4, rfl, f4, x4, n4, e4⟩
            have b4 : w4.heap[gn]? = _ := g4.at R3.out.2.2 hgn
            obtain ⟨T4, p4, _, rfl⟩ := er_val e4
            obtain ⟨z0, z1, z2⟩ := grow1 (v := .iface T4 (.pointer (some ⟨p4, 0, none⟩))) b4
            have h4g : H4 gn = none := by
              cases h9 : H4 gn with
              | none => rfl
              | some o =>
                rcases n4 gn o h9 with h | h
                · rw [hHg] at h; cases h
                · have := lt_of_block R3.out.2.2; omega
            have c5 := csd_setNew c4 hgn hHg 0 (.iface T4 (.pointer (some ⟨p4, 0, none⟩)))
            obtain ⟨v5, hv5, ho5⟩ := c5.root_val (List.getElem?_eq_some_iff.1 EC.out.1).1 EC.out.2.1
            obtain ⟨y0, y1, _, _⟩ := cell_at hv5
            have zc := (grow1 (v := .nilIface) z2).1
            rcases ho5 with ⟨e3, _⟩ | ⟨nd3, e3, _, _, _, k43⟩
            · rw [EIS.out] at e3; cases e3
            obtain rfl := Option.some.inj (EIS.out.symm.trans e3)
            obtain ⟨q9, k43⟩ := k43
            have hkind := HQ.out.1
            obtain ⟨q8, hq8⟩ : ∃ q8, v5 = .iface 349 (.pointer (some ⟨q8, 0, none⟩)) := by
              rcases k43 with ⟨p1, _⟩ | ⟨p1, _⟩ | ⟨p1, _⟩ | ⟨p1, _, _, _, _, p3, _⟩ | ⟨p1, _⟩ | ⟨p1, _⟩
              · exact absurd (hkind.symm.trans p1) (by decide)
              · exact absurd (hkind.symm.trans p1) (by decide)
              · rcases p1 with p1 | p1 <;> exact absurd (hkind.symm.trans p1) (by decide)
              · exact ⟨q9, p3⟩
              · exact absurd (hkind.symm.trans p1) (by decide)
              · exact absurd (hkind.symm.trans p1) (by decide)
            subst hq8
            have E5 := hid (And.intro c5 (And.intro (gb_setNew (R3.out.2.1.tr g4) hgw 0 (.iface T4 (.pointer (some ⟨p4, 0, none⟩)))) (And.intro (f4.set h4g 0 (.iface T4 (.pointer (some ⟨p4, 0, none⟩)))) (And.intro x4 (And.intro n4 e4)))))
            have hw3 := R3.out.2.1.size
            have LI := hid (like_list q8 gn 1 T4 p4 _ zc)
            clear g4 c4 f4 x4 n4 e4 b4 z2 c5 hv5 k43 e3 CI1 R3 hkind
            go_wp2_with fail
            rw [rounds_succ]
            go_wp2_with fail
            refine LI.out.mono ?_
            rintro e w6 ⟨g6, p, rfl, hp, hb6⟩
            have QE := hid (gnp_new E5.out.1 E5.out.2.1 E5.out.2.2.1 E5.out.2.2.2.1 (fun k x e => (E5.out.2.2.2.2.1 k x e).imp id (fun h => by omega)) g6 hp hb6 (er_list (ERep.onto E5.out.2.2.2.2.2 (fun k o e => onto1_ext (E5.out.2.2.1.none hp) k o e)) onto1_at))
            rw [← HQ.out.1] at QE
            clear g6 hp hb6 LI
            go_wp2
            go_ret
            exact QE.out
        · -- two
          subst q3
          have HQ := hid (And.intro q1 q2)
          clear q1 q2 q4 q5 q6 k1 k2
          obtain ⟨u0, u1, hu0⟩ : ∃ u0 u1, us = [u0, u1] := by
            have h9 := HK.out.1.1
            rw [HQ.out.2] at h9
            match us, h9 with
            | [u0, u1], _ => exact ⟨u0, u1, rfl⟩
          subst hu0
          have hk0 := HK.out.1
          rw [HQ.out.2] at hk0
          obtain ⟨y, ey, rfl⟩ := cell_val2 (hk0.2 0 u0 a rfl rfl) (HK.out.2.1 a (by rw [HQ.out.2]; simp))
          obtain ⟨y2, ey2, rfl⟩ := cell_val2 (hk0.2 1 u1 a2 rfl rfl) (HK.out.2.1 a2 (by rw [HQ.out.2]; simp))
          have em := HK.out.2.2
          rw [HQ.out.2, mapS] at em
          cases eg : generalT σ L f a.num with
          | none => rw [eg] at em; cases em
          | some t1 =>
            rw [eg] at em
            simp only [mapS] at em
            cases eg2 : generalT σ L f a2.num with
            | none => rw [eg2] at em; cases em
            | some t2 =>
            rw [eg2] at em
            have em := (Option.some.inj em).symm
            subst em
            have G9 := hid (And.intro (And.intro ey eg) (And.intro ey2 eg2))
            clear hk0 ey eg ey2 eg2
            unfold CI at *
            go_wp2_with fail
            refine HBL.out.mono ?_
            rintro e w3 ⟨r1, r2, r3⟩
            rcases r3 with ⟨h0, _⟩ | ⟨gn, rfl, hg, hgb⟩
            · cases h0
            have hgb : w3.heap[gn]? = some (.cells #[.iface 265 (.pointer (some ⟨y, 0, none⟩)), .iface 265 (.pointer (some ⟨y2, 0, none⟩))] 156 (0, 0)) := hgb
            obtain ⟨z0, z1, _⟩ := grow2 hgb
            have CI1 := hid (IH.out a.num y t1 w3 bv G9.out.1.1 G9.out.1.2 r1 (HB.out.gb (C2.out.2.tr r2)))
            unfold CI at CI1
            have hgn : ¬ InAs ca gn := fun h => by have := InAs.lt C2.out.1 h; omega
            have hHg : H gn = none := C2.out.1.fz.none hg
            have R3 := hid (And.intro r1 (And.intro (C2.out.2.tr r2) hgb))
            have hgw : w.heap.size ≤ gn := Nat.le_trans C2.out.2.size hg
            have hw23 := r2.size
            clear r1 r2 HBL hgb
            go_wp2_with fail
            refine wp_loop_rounds 3 ?_
            rw [rounds_succ]
            go_wp2_with fail
            refine CI1.out.mono ?_
            rintro e w4 ⟨g4, c4, v4, H4, rfl, f4, x4, n4, e4⟩
            have b4 : w4.heap[gn]? = _ := g4.at R3.out.2.2 hgn
            obtain ⟨T4, p4, _, rfl⟩ := er_val e4
            obtain ⟨z0, z1, z2, z3, z4, _⟩ := grow2 b4
            have h4g : H4 gn = none := by
              cases h9 : H4 gn with
              | none => rfl
              | some o =>
                rcases n4 gn o h9 with h | h
                · rw [hHg] at h; cases h
                · have := lt_of_block R3.out.2.2; omega
            have c5 := csd_setNew c4 hgn hHg 0 (.iface T4 (.pointer (some ⟨p4, 0, none⟩)))
            have b5 := z4 (.iface T4 (.pointer (some ⟨p4, 0, none⟩)))
            have E5 := hid (And.intro c5 (And.intro (gb_setNew (R3.out.2.1.tr g4) hgw 0 (.iface T4 (.pointer (some ⟨p4, 0, none⟩)))) (And.intro (f4.set h4g 0 (.iface T4 (.pointer (some ⟨p4, 0, none⟩)))) (And.intro x4 (And.intro n4 (And.intro e4 b5))))))
            have hw3 := R3.out.2.1.size
            obtain ⟨y50, y51, _⟩ := grow2 b5
            have CI2 := hid (IH.out a2.num y2 t2 (w4.setCell ⟨gn, 0, none⟩ (.iface T4 (.pointer (some ⟨p4, 0, none⟩)))) bv G9.out.2.1 G9.out.2.2 c5 (HB.out.gb E5.out.2.1))
            unfold CI at CI2
            clear g4 c4 f4 x4 n4 e4 b4 z4 c5 b5 CI1 R3
            go_wp2_with fail
            generalize w4.setCell ⟨gn, 0, none⟩ (.iface T4 (.pointer (some ⟨p4, 0, none⟩))) = W5 at *
            rw [rounds_succ]
            go_wp2_with fail
            refine CI2.out.mono ?_
            rintro e w6 ⟨g6, c6, v6, H6, rfl, f6, x6, n6, e6⟩
            have b6 : w6.heap[gn]? = _ := g6.at E5.out.2.2.2.2.2.2 hgn
            obtain ⟨T6, p6, _, rfl⟩ := er_val e6
            obtain ⟨z0, z1, z2, z3, _, z4⟩ := grow2 b6
            have h6g : H6 gn = none := by
              cases h9 : H6 gn with
              | none => rfl
              | some o =>
                rcases n6 gn o h9 with h | h
                · rw [hHg] at h; cases h
                · have := lt_of_block E5.out.2.2.2.2.2.2; omega
            have c7 := csd_setNew c6 hgn hHg 1 (.iface T6 (.pointer (some ⟨p6, 0, none⟩)))
            have b7 := z4 (.iface T6 (.pointer (some ⟨p6, 0, none⟩)))
            have f46 : Fz H4 w6 := E5.out.2.2.1.gb g6 (fun k o e hk => by
              rcases E5.out.2.2.2.2.1 k o e with h | h
              · rw [E5.out.1.off k hk] at h; cases h
              · have := InAs.lt C2.out.1 hk
                omega)
            have fz7 := fz_both (f46.set h4g 1 (.iface T6 (.pointer (some ⟨p6, 0, none⟩)))) (f6.set h6g 1 (.iface T6 (.pointer (some ⟨p6, 0, none⟩))))
            have hs5 := E5.out.2.1.size
            have E7 := hid (And.intro c7 (And.intro (gb_setNew (E5.out.2.1.tr g6) hgw 1 (.iface T6 (.pointer (some ⟨p6, 0, none⟩)))) (And.intro fz7.1 (And.intro (show ∀ k o, H k = some o → both H4 H6 k = some o from fun k o e => fz7.2.1.1 k o (E5.out.2.2.2.1 k o e)) (And.intro (show ∀ k o, both H4 H6 k = some o → H k = some o ∨ w.heap.size ≤ k from fun k o e => by
              unfold both at e
              split at e
              · rename_i o' h9
                cases e
                exact (E5.out.2.2.2.2.1 k o h9).imp id (fun h => by omega)
              · exact (n6 k o e).imp id (fun h => by omega)) (And.intro (ERep.onto E5.out.2.2.2.2.2.1 fz7.2.1.1) (ERep.onto e6 fz7.2.2.1)))))))
            obtain ⟨v5, hv5, ho5⟩ := c7.root_val (List.getElem?_eq_some_iff.1 EC.out.1).1 EC.out.2.1
            obtain ⟨y0, y1, _, _⟩ := cell_at hv5
            obtain ⟨zc, zd, _⟩ := grow2 b7
            rcases ho5 with ⟨e3, _⟩ | ⟨nd3, e3, _, _, _, k43⟩
            · rw [EIS.out] at e3; cases e3
            obtain rfl := Option.some.inj (EIS.out.symm.trans e3)
            obtain ⟨q9, k43⟩ := k43
            have hkind := HQ.out.1
            obtain ⟨q8, hq8⟩ : ∃ q8, v5 = .iface 361 (.pointer (some ⟨q8, 0, none⟩)) := by
              rcases k43 with ⟨p1, _⟩ | ⟨p1, _⟩ | ⟨p1, _⟩ | ⟨p1, _⟩ | ⟨p1, _, _, _, _, _, _, p3, _⟩ | ⟨p1, _⟩
              · exact absurd (hkind.symm.trans p1) (by decide)
              · exact absurd (hkind.symm.trans p1) (by decide)
              · rcases p1 with p1 | p1 <;> exact absurd (hkind.symm.trans p1) (by decide)
              · exact absurd (hkind.symm.trans p1) (by decide)
              · exact ⟨q9, p3⟩
              · exact absurd (hkind.symm.trans p1) (by decide)
            subst hq8
            have LI := hid (like_pair q8 gn 2 T4 p4 T6 p6 _ zc zd)
            clear g6 c6 f6 x6 n6 e6 b6 z4 c7 b7 f46 fz7 hv5 k43 e3 CI2 E5 hkind
            go_wp2_with fail
            generalize w6.setCell ⟨gn, 1, none⟩ (.iface T6 (.pointer (some ⟨p6, 0, none⟩))) = W7 at *
            rw [rounds_succ]
            go_wp2_with fail
            refine LI.out.mono ?_
            rintro e w8 ⟨g8, p, rfl, hp, hb8⟩
            have QE := hid (gnp_new E7.out.1 E7.out.2.1 E7.out.2.2.1 E7.out.2.2.2.1 E7.out.2.2.2.2.1 g8 hp hb8 (er_pair (ERep.onto E7.out.2.2.2.2.2.1 (fun k o e => onto1_ext (E7.out.2.2.1.none hp) k o e)) (ERep.onto E7.out.2.2.2.2.2.2 (fun k o e => onto1_ext (E7.out.2.2.1.none hp) k o e)) onto1_at))
            rw [← HQ.out.1] at QE
            clear g8 hp hb8 LI
            go_wp2
            go_ret
            exact QE.out
        · -- two
          subst q3
          have HQ := hid (And.intro q1 q2)
          clear q1 q2 q4 q5 q6 k1 k2
          obtain ⟨u0, u1, hu0⟩ : ∃ u0 u1, us = [u0, u1] := by
            have h9 := HK.out.1.1
            rw [HQ.out.2] at h9
            match us, h9 with
            | [u0, u1], _ => exact ⟨u0, u1, rfl⟩
          subst hu0
          have hk0 := HK.out.1
          rw [HQ.out.2] at hk0
          obtain ⟨y, ey, rfl⟩ := cell_val2 (hk0.2 0 u0 a rfl rfl) (HK.out.2.1 a (by rw [HQ.out.2]; simp))
          obtain ⟨y2, ey2, rfl⟩ := cell_val2 (hk0.2 1 u1 a2 rfl rfl) (HK.out.2.1 a2 (by rw [HQ.out.2]; simp))
          have em := HK.out.2.2
          rw [HQ.out.2, mapS] at em
          cases eg : generalT σ L f a.num with
          | none => rw [eg] at em; cases em
          | some t1 =>
            rw [eg] at em
            simp only [mapS] at em
            cases eg2 : generalT σ L f a2.num with
            | none => rw [eg2] at em; cases em
            | some t2 =>
            rw [eg2] at em
            have em := (Option.some.inj em).symm
            subst em
            have G9 := hid (And.intro (And.intro ey eg) (And.intro ey2 eg2))
            clear hk0 ey eg ey2 eg2
            unfold CI at *
            go_wp2_with fail
            refine HBL.out.mono ?_
            rintro e w3 ⟨r1, r2, r3⟩
            rcases r3 with ⟨h0, _⟩ | ⟨gn, rfl, hg, hgb⟩
            · cases h0
            have hgb : w3.heap[gn]? = some (.cells #[.iface 265 (.pointer (some ⟨y, 0, none⟩)), .iface 265 (.pointer (some ⟨y2, 0, none⟩))] 156 (0, 0)) := hgb
            obtain ⟨z0, z1, _⟩ := grow2 hgb
            have CI1 := hid (IH.out a.num y t1 w3 bv G9.out.1.1 G9.out.1.2 r1 (HB.out.gb (C2.out.2.tr r2)))
            unfold CI at CI1
            have hgn : ¬ InAs ca gn := fun h => by have := InAs.lt C2.out.1 h; omega
            have hHg : H gn = none := C2.out.1.fz.none hg
            have R3 := hid (And.intro r1 (And.intro (C2.out.2.tr r2) hgb))
            have hgw : w.heap.size ≤ gn := Nat.le_trans C2.out.2.size hg
            have hw23 := r2.size
            clear r1 r2 HBL hgb
            go_wp2_with fail
            refine wp_loop_rounds 3 ?_
            rw [rounds_succ]
            go_wp2_with fail
            refine CI1.out.mono ?_
            rintro e w4 ⟨g4, c4, v4, H4, rfl, f4, x4, n4, e4⟩
            have b4 : w4.heap[gn]? = _ := g4.at R3.out.2.2 hgn
            obtain ⟨T4, p4, _, rfl⟩ := er_val e4
            obtain ⟨z0, z1, z2, z3, z4, _⟩ := grow2 b4
            have h4g : H4 gn = none := by
              cases h9 : H4 gn with
              | none => rfl
              | some o =>
                rcases n4 gn o h9 with h | h
                · rw [hHg] at h; cases h
                · have := lt_of_block R3.out.2.2; omega
            have c5 := csd_setNew c4 hgn hHg 0 (.iface T4 (.pointer (some ⟨p4, 0, none⟩)))
            have b5 := z4 (.iface T4 (.pointer (some ⟨p4, 0, none⟩)))
            have E5 := hid (And.intro c5 (And.intro (gb_setNew (R3.out.2.1.tr g4) hgw 0 (.iface T4 (.pointer (some ⟨p4, 0, none⟩)))) (And.intro (f4.set h4g 0 (.iface T4 (.pointer (some ⟨p4, 0, none⟩)))) (And.intro x4 (And.intro n4 (And.intro e4 b5))))))
            have hw3 := R3.out.2.1.size
            obtain ⟨y50, y51, _⟩ := grow2 b5
            have CI2 := hid (IH.out a2.num y2 t2 (w4.setCell ⟨gn, 0, none⟩ (.iface T4 (.pointer (some ⟨p4, 0, none⟩)))) bv G9.out.2.1 G9.out.2.2 c5 (HB.out.gb E5.out.2.1))
            unfold CI at CI2
            clear g4 c4 f4 x4 n4 e4 b4 z4 c5 b5 CI1 R3
            go_wp2_with fail
            generalize w4.setCell ⟨gn, 0, none⟩ (.iface T4 (.pointer (some ⟨p4, 0, none⟩))) = W5 at *
            rw [rounds_succ]
            go_wp2_with fail
            refine CI2.out.mono ?_
            rintro e w6 ⟨g6, c6, v6, H6, rfl, f6, x6, n6, e6⟩
            have b6 : w6.heap[gn]? = _ := g6.at E5.out.2.2.2.2.2.2 hgn
            obtain ⟨T6, p6, _, rfl⟩ := er_val e6
            obtain ⟨z0, z1, z2, z3, _, z4⟩ := grow2 b6
            have h6g : H6 gn = none := by
              cases h9 : H6 gn with
              | none => rfl
              | some o =>
                rcases n6 gn o h9 with h | h
                · rw [hHg] at h; cases h
                · have := lt_of_block E5.out.2.2.2.2.2.2; omega
            have c7 := csd_setNew c6 hgn hHg 1 (.iface T6 (.pointer (some ⟨p6, 0, none⟩)))
            have b7 := z4 (.iface T6 (.pointer (some ⟨p6, 0, none⟩)))
            have f46 : Fz H4 w6 := E5.out.2.2.1.gb g6 (fun k o e hk => by
              rcases E5.out.2.2.2.2.1 k o e with h | h
              · rw [E5.out.1.off k hk] at h; cases h
              · have := InAs.lt C2.out.1 hk
                omega)
            have fz7 := fz_both (f46.set h4g 1 (.iface T6 (.pointer (some ⟨p6, 0, none⟩)))) (f6.set h6g 1 (.iface T6 (.pointer (some ⟨p6, 0, none⟩))))
            have hs5 := E5.out.2.1.size
            have E7 := hid (And.intro c7 (And.intro (gb_setNew (E5.out.2.1.tr g6) hgw 1 (.iface T6 (.pointer (some ⟨p6, 0, none⟩)))) (And.intro fz7.1 (And.intro (show ∀ k o, H k = some o → both H4 H6 k = some o from fun k o e => fz7.2.1.1 k o (E5.out.2.2.2.1 k o e)) (And.intro (show ∀ k o, both H4 H6 k = some o → H k = some o ∨ w.heap.size ≤ k from fun k o e => by
              unfold both at e
              split at e
              · rename_i o' h9
                cases e
                exact (E5.out.2.2.2.2.1 k o h9).imp id (fun h => by omega)
              · exact (n6 k o e).imp id (fun h => by omega)) (And.intro (ERep.onto E5.out.2.2.2.2.2.1 fz7.2.1.1) (ERep.onto e6 fz7.2.2.1)))))))
            obtain ⟨v5, hv5, ho5⟩ := c7.root_val (List.getElem?_eq_some_iff.1 EC.out.1).1 EC.out.2.1
            obtain ⟨y0, y1, _, _⟩ := cell_at hv5
            obtain ⟨zc, zd, _⟩ := grow2 b7
            rcases ho5 with ⟨e3, _⟩ | ⟨nd3, e3, _, _, _, k43⟩
            · rw [EIS.out] at e3; cases e3
            obtain rfl := Option.some.inj (EIS.out.symm.trans e3)
            obtain ⟨q9, k43⟩ := k43
            have hkind := HQ.out.1
            obtain ⟨q8, hq8⟩ : ∃ q8, v5 = .iface 291 (.pointer (some ⟨q8, 0, none⟩)) := by
              rcases k43 with ⟨p1, _⟩ | ⟨p1, _⟩ | ⟨p1, _⟩ | ⟨p1, _⟩ | ⟨p1, _⟩ | ⟨p1, _, _, _, _, _, _, p3, _⟩
              · exact absurd (hkind.symm.trans p1) (by decide)
              · exact absurd (hkind.symm.trans p1) (by decide)
              · rcases p1 with p1 | p1 <;> exact absurd (hkind.symm.trans p1) (by decide)
              · exact absurd (hkind.symm.trans p1) (by decide)
              · exact absurd (hkind.symm.trans p1) (by decide)
              · exact ⟨q9, p3⟩
            subst hq8
            have LI := hid (like_arrow q8 gn 2 T4 p4 T6 p6 _ zc zd)
            clear g6 c6 f6 x6 n6 e6 b6 z4 c7 b7 f46 fz7 hv5 k43 e3 CI2 E5 hkind
            go_wp2_with fail
            generalize w6.setCell ⟨gn, 1, none⟩ (.iface T6 (.pointer (some ⟨p6, 0, none⟩))) = W7 at *
            rw [rounds_succ]
            go_wp2_with fail
            refine LI.out.mono ?_
            rintro e w8 ⟨g8, p, rfl, hp, hb8⟩
            have QE := hid (gnp_new E7.out.1 E7.out.2.1 E7.out.2.2.1 E7.out.2.2.2.1 E7.out.2.2.2.2.1 g8 hp hb8 (er_arrow (ERep.onto E7.out.2.2.2.2.2.1 (fun k o e => onto1_ext (E7.out.2.2.1.none hp) k o e)) (ERep.onto E7.out.2.2.2.2.2.2 (fun k o e => onto1_ext (E7.out.2.2.1.none hp) k o e)) onto1_at))
            rw [← HQ.out.1] at QE
            clear g8 hp hb8 LI
            go_wp2
            go_ret
            exact QE.out
theorem general_any {H : Nat → Option Obj} {ca : List Nat} {σ : Sto} {d : Nat → Nat} {L : List Nat} : ∀ f, GNC H ca σ d L f
  | 0 => fun c x t w bv _ h _ _ => by cases h
  | f + 1 => general_step (general_any f)
end Go.Proofs.YtcdijppegfcoaaaGreatDoor
