import Derived.Test.YtcdijppegfcoaabGreatDoorZK09
import Derived.Deep.QuietTactic
import Derived.BigQuiet
import Derived.Deep.RegionLaw
import Derived.Outline
import Derived.Test.YtcdijppegfcoaabGreatDoorZK07
import Derived.Test.YtcdijppegfcoaabGreatDoorZK06
import Derived.Test.YtcdijppegfcoaabGreatDoorZK05
set_option maxRecDepth 100000
set_option maxHeartbeats 4000000
namespace Go.Proofs.YtcdijppegfcoaabGreatDoor
open Go.RowKit
theorem al_Basic_Basic (w : World) (a b : Nat) (s t : List UInt8) (c0 : w.cell? ⟨a,0,none⟩ = some (.string (B s))) (c1 : w.cell? ⟨b,0,none⟩ = some (.string (B t))) : Calls Tryz.prog 97 #[.iface 275 (.pointer (some ⟨a,0,none⟩)),.iface 275 (.pointer (some ⟨b,0,none⟩))] w fun e w' => e = .returned (.bool (decide (s = t))) ∧ w.grownBy w' none := by
  have pBasic := e_Basic_Basic a
  have pb := e_Basic_Basic b
  have hd := str_eq s t
  generalize decide (s = t) = r at *
  go_enter Tryz.func97,Tryz.ntmps97
  go_wp2_with fail
  go_quiet (fail)
  go_wp2
  go_ret
  exact ⟨rfl,⟨rfl,rfl,rfl,Nat.le_refl _,fun _ _ _ => rfl⟩⟩
theorem al_Basic_Var (w : World) (a b : Nat)  : Calls Tryz.prog 97 #[.iface 275 (.pointer (some ⟨a,0,none⟩)),.iface 242 (.pointer (some ⟨b,0,none⟩))] w fun e w' => e = .returned (.bool (false)) ∧ w.grownBy w' none := by
  have pBasic := e_Basic_Basic a
  have pb := e_Var_Basic b
  go_enter Tryz.func97,Tryz.ntmps97
  go_wp2_with fail
  go_quiet (fail)
  go_wp2
  go_ret
  exact ⟨rfl,⟨rfl,rfl,rfl,Nat.le_refl _,fun _ _ _ => rfl⟩⟩
theorem al_Basic_List (w : World) (a b : Nat)  : Calls Tryz.prog 97 #[.iface 275 (.pointer (some ⟨a,0,none⟩)),.iface 279 (.pointer (some ⟨b,0,none⟩))] w fun e w' => e = .returned (.bool (false)) ∧ w.grownBy w' none := by
  have pBasic := e_Basic_Basic a
  have pb := e_List_Basic b
  go_enter Tryz.func97,Tryz.ntmps97
  go_wp2_with fail
  go_quiet (fail)
  go_wp2
  go_ret
  exact ⟨rfl,⟨rfl,rfl,rfl,Nat.le_refl _,fun _ _ _ => rfl⟩⟩
theorem al_Basic_Pair (w : World) (a b : Nat)  : Calls Tryz.prog 97 #[.iface 275 (.pointer (some ⟨a,0,none⟩)),.iface 291 (.pointer (some ⟨b,0,none⟩))] w fun e w' => e = .returned (.bool (false)) ∧ w.grownBy w' none := by
  have pBasic := e_Basic_Basic a
  have pb := e_Pair_Basic b
  go_enter Tryz.func97,Tryz.ntmps97
  go_wp2_with fail
  go_quiet (fail)
  go_wp2
  go_ret
  exact ⟨rfl,⟨rfl,rfl,rfl,Nat.le_refl _,fun _ _ _ => rfl⟩⟩
theorem al_Basic_Arrow (w : World) (a b : Nat)  : Calls Tryz.prog 97 #[.iface 275 (.pointer (some ⟨a,0,none⟩)),.iface 209 (.pointer (some ⟨b,0,none⟩))] w fun e w' => e = .returned (.bool (false)) ∧ w.grownBy w' none := by
  have pBasic := e_Basic_Basic a
  have pb := e_Arrow_Basic b
  go_enter Tryz.func97,Tryz.ntmps97
  go_wp2_with fail
  go_quiet (fail)
  go_wp2
  go_ret
  exact ⟨rfl,⟨rfl,rfl,rfl,Nat.le_refl _,fun _ _ _ => rfl⟩⟩
theorem al_List_Basic (w : World) (a b : Nat)  : Calls Tryz.prog 97 #[.iface 279 (.pointer (some ⟨a,0,none⟩)),.iface 275 (.pointer (some ⟨b,0,none⟩))] w fun e w' => e = .returned (.bool (false)) ∧ w.grownBy w' none := by
  have pBasic := e_List_Basic a
  have pList := e_List_List a
  have pb := e_Basic_List b
  go_enter Tryz.func97,Tryz.ntmps97
  go_wp2
  go_ret
  exact ⟨rfl,World.grownBy.refl _ _⟩
theorem al_List_Var (w : World) (a b : Nat)  : Calls Tryz.prog 97 #[.iface 279 (.pointer (some ⟨a,0,none⟩)),.iface 242 (.pointer (some ⟨b,0,none⟩))] w fun e w' => e = .returned (.bool (false)) ∧ w.grownBy w' none := by
  have pBasic := e_List_Basic a
  have pList := e_List_List a
  have pb := e_Var_List b
  go_enter Tryz.func97,Tryz.ntmps97
  go_wp2
  go_ret
  exact ⟨rfl,World.grownBy.refl _ _⟩
theorem al_List_List (w : World) (a b : Nat)  : Calls Tryz.prog 97 #[.iface 279 (.pointer (some ⟨a,0,none⟩)),.iface 279 (.pointer (some ⟨b,0,none⟩))] w fun e w' => e = .returned (.bool (true)) ∧ w.grownBy w' none := by
  have pBasic := e_List_Basic a
  have pList := e_List_List a
  have pb := e_List_List b
  go_enter Tryz.func97,Tryz.ntmps97
  go_wp2
  go_ret
  exact ⟨rfl,World.grownBy.refl _ _⟩
theorem al_List_Pair (w : World) (a b : Nat)  : Calls Tryz.prog 97 #[.iface 279 (.pointer (some ⟨a,0,none⟩)),.iface 291 (.pointer (some ⟨b,0,none⟩))] w fun e w' => e = .returned (.bool (false)) ∧ w.grownBy w' none := by
  have pBasic := e_List_Basic a
  have pList := e_List_List a
  have pb := e_Pair_List b
  go_enter Tryz.func97,Tryz.ntmps97
  go_wp2
  go_ret
  exact ⟨rfl,World.grownBy.refl _ _⟩
theorem al_List_Arrow (w : World) (a b : Nat)  : Calls Tryz.prog 97 #[.iface 279 (.pointer (some ⟨a,0,none⟩)),.iface 209 (.pointer (some ⟨b,0,none⟩))] w fun e w' => e = .returned (.bool (false)) ∧ w.grownBy w' none := by
  have pBasic := e_List_Basic a
  have pList := e_List_List a
  have pb := e_Arrow_List b
  go_enter Tryz.func97,Tryz.ntmps97
  go_wp2
  go_ret
  exact ⟨rfl,World.grownBy.refl _ _⟩
theorem al_Pair_Basic (w : World) (a b : Nat)  : Calls Tryz.prog 97 #[.iface 291 (.pointer (some ⟨a,0,none⟩)),.iface 275 (.pointer (some ⟨b,0,none⟩))] w fun e w' => e = .returned (.bool (false)) ∧ w.grownBy w' none := by
  have pBasic := e_Pair_Basic a
  have pList := e_Pair_List a
  have pPair := e_Pair_Pair a
  have pb := e_Basic_Pair b
  go_enter Tryz.func97,Tryz.ntmps97
  go_wp2
  go_ret
  exact ⟨rfl,World.grownBy.refl _ _⟩
theorem al_Pair_Var (w : World) (a b : Nat)  : Calls Tryz.prog 97 #[.iface 291 (.pointer (some ⟨a,0,none⟩)),.iface 242 (.pointer (some ⟨b,0,none⟩))] w fun e w' => e = .returned (.bool (false)) ∧ w.grownBy w' none := by
  have pBasic := e_Pair_Basic a
  have pList := e_Pair_List a
  have pPair := e_Pair_Pair a
  have pb := e_Var_Pair b
  go_enter Tryz.func97,Tryz.ntmps97
  go_wp2
  go_ret
  exact ⟨rfl,World.grownBy.refl _ _⟩
theorem al_Pair_List (w : World) (a b : Nat)  : Calls Tryz.prog 97 #[.iface 291 (.pointer (some ⟨a,0,none⟩)),.iface 279 (.pointer (some ⟨b,0,none⟩))] w fun e w' => e = .returned (.bool (false)) ∧ w.grownBy w' none := by
  have pBasic := e_Pair_Basic a
  have pList := e_Pair_List a
  have pPair := e_Pair_Pair a
  have pb := e_List_Pair b
  go_enter Tryz.func97,Tryz.ntmps97
  go_wp2
  go_ret
  exact ⟨rfl,World.grownBy.refl _ _⟩
theorem al_Pair_Pair (w : World) (a b : Nat)  : Calls Tryz.prog 97 #[.iface 291 (.pointer (some ⟨a,0,none⟩)),.iface 291 (.pointer (some ⟨b,0,none⟩))] w fun e w' => e = .returned (.bool (true)) ∧ w.grownBy w' none := by
  have pBasic := e_Pair_Basic a
  have pList := e_Pair_List a
  have pPair := e_Pair_Pair a
  have pb := e_Pair_Pair b
  go_enter Tryz.func97,Tryz.ntmps97
  go_wp2
  go_ret
  exact ⟨rfl,World.grownBy.refl _ _⟩
theorem al_Pair_Arrow (w : World) (a b : Nat)  : Calls Tryz.prog 97 #[.iface 291 (.pointer (some ⟨a,0,none⟩)),.iface 209 (.pointer (some ⟨b,0,none⟩))] w fun e w' => e = .returned (.bool (false)) ∧ w.grownBy w' none := by
  have pBasic := e_Pair_Basic a
  have pList := e_Pair_List a
  have pPair := e_Pair_Pair a
  have pb := e_Arrow_Pair b
  go_enter Tryz.func97,Tryz.ntmps97
  go_wp2
  go_ret
  exact ⟨rfl,World.grownBy.refl _ _⟩
theorem al_Arrow_Basic (w : World) (a b : Nat)  : Calls Tryz.prog 97 #[.iface 209 (.pointer (some ⟨a,0,none⟩)),.iface 275 (.pointer (some ⟨b,0,none⟩))] w fun e w' => e = .returned (.bool (false)) ∧ w.grownBy w' none := by
  have pBasic := e_Arrow_Basic a
  have pList := e_Arrow_List a
  have pPair := e_Arrow_Pair a
  have pArrow := e_Arrow_Arrow a
  have pb := e_Basic_Arrow b
  go_enter Tryz.func97,Tryz.ntmps97
  go_wp2
  go_ret
  exact ⟨rfl,World.grownBy.refl _ _⟩
theorem al_Arrow_Var (w : World) (a b : Nat)  : Calls Tryz.prog 97 #[.iface 209 (.pointer (some ⟨a,0,none⟩)),.iface 242 (.pointer (some ⟨b,0,none⟩))] w fun e w' => e = .returned (.bool (false)) ∧ w.grownBy w' none := by
  have pBasic := e_Arrow_Basic a
  have pList := e_Arrow_List a
  have pPair := e_Arrow_Pair a
  have pArrow := e_Arrow_Arrow a
  have pb := e_Var_Arrow b
  go_enter Tryz.func97,Tryz.ntmps97
  go_wp2
  go_ret
  exact ⟨rfl,World.grownBy.refl _ _⟩
theorem al_Arrow_List (w : World) (a b : Nat)  : Calls Tryz.prog 97 #[.iface 209 (.pointer (some ⟨a,0,none⟩)),.iface 279 (.pointer (some ⟨b,0,none⟩))] w fun e w' => e = .returned (.bool (false)) ∧ w.grownBy w' none := by
  have pBasic := e_Arrow_Basic a
  have pList := e_Arrow_List a
  have pPair := e_Arrow_Pair a
  have pArrow := e_Arrow_Arrow a
  have pb := e_List_Arrow b
  go_enter Tryz.func97,Tryz.ntmps97
  go_wp2
  go_ret
  exact ⟨rfl,World.grownBy.refl _ _⟩
theorem al_Arrow_Pair (w : World) (a b : Nat)  : Calls Tryz.prog 97 #[.iface 209 (.pointer (some ⟨a,0,none⟩)),.iface 291 (.pointer (some ⟨b,0,none⟩))] w fun e w' => e = .returned (.bool (false)) ∧ w.grownBy w' none := by
  have pBasic := e_Arrow_Basic a
  have pList := e_Arrow_List a
  have pPair := e_Arrow_Pair a
  have pArrow := e_Arrow_Arrow a
  have pb := e_Pair_Arrow b
  go_enter Tryz.func97,Tryz.ntmps97
  go_wp2
  go_ret
  exact ⟨rfl,World.grownBy.refl _ _⟩
theorem al_Arrow_Arrow (w : World) (a b : Nat)  : Calls Tryz.prog 97 #[.iface 209 (.pointer (some ⟨a,0,none⟩)),.iface 209 (.pointer (some ⟨b,0,none⟩))] w fun e w' => e = .returned (.bool (true)) ∧ w.grownBy w' none := by
  have pBasic := e_Arrow_Basic a
  have pList := e_Arrow_List a
  have pPair := e_Arrow_Pair a
  have pArrow := e_Arrow_Arrow a
  have pb := e_Arrow_Arrow b
  go_enter Tryz.func97,Tryz.ntmps97
  go_wp2
  go_ret
  exact ⟨rfl,World.grownBy.refl _ _⟩
theorem clone_q (s : ByteArray) (w : World) (h : s.size ≤ 281474976710656) : Calls Tryz.prog 48 #[.string s] w fun e w' => e = .returned (.string s) ∧ w.grownBy w' none := by
  go_enter Tryz.func48,Tryz.ntmps48
  go_wp2_with (go_at_call 76; refine (Tryz.stringslite_Clone _ _ h).mono ?_; rintro e w3 ⟨rfl,g3⟩; have G3 := hid g3; clear g3)
  go_ret
  exact ⟨rfl,G3.out.os,G3.out.tape,G3.out.output,G3.out.size,fun k hk _ => G3.out.block k hk⟩
def both (H1 H2 : Nat → Option Obj) (k : Nat) : Option Obj := match H1 k with
  | some o => some o
  | none => H2 k
theorem fz_both {H1 H2 : Nat → Option Obj} {w : World} (h1 : Fz H1 w) (h2 : Fz H2 w) : Fz (both H1 H2) w ∧ Ext 0 H1 (both H1 H2) ∧ Ext 0 H2 (both H1 H2) := by
  refine ⟨fun k o e => ?_,⟨fun k o e => ?_,fun k hk => by omega⟩,⟨fun k o e => ?_,fun k hk => by omega⟩⟩
  · unfold both at e
    cases e1 : H1 k with
    | some o' => rw [e1] at e; cases e; exact h1 k _ e1
    | none => rw [e1] at e; exact h2 k o e
  · unfold both; rw [e]
  · unfold both
    cases e1 : H1 k with
    | some o' =>
      have a := h1 k o' e1
      have b := h2 k o e
      rw [a] at b
      exact b
    | none => exact e
def uV (_ : Unit) : Value := .agg #[]
def ButAt (ca : List Nat) (L : List Nat) (bv : Value) (w : World) : Prop := (bv = .map none ∧ L = []) ∨ ∃ mb,bv = .map (some mb) ∧ mb ∉ ca ∧ GM kI uV 3 w mb (L.map fun n => (n,()))
theorem ButAt.gb {ca : List Nat} {L : List Nat} {bv : Value} {w w' : World} (h : ButAt ca L bv w) (g : Gb (InAs ca) w w') : ButAt ca L bv w' := by
  rcases h with h | ⟨mb,h1,h2,h3⟩
  · exact Or.inl h
  · exact Or.inr ⟨mb,h1,h2,h3.gb g h2⟩
theorem getL_unit (L : List Nat) (n : Nat) : (getL (L.map fun n => (n,())) n).isSome = decide (n ∈ L) := by
  induction L with
  | nil => rfl
  | cons a L ih =>
    rw [List.map_cons,getL]
    by_cases h : a = n
    · rw [if_pos h]; simp [h]
    · rw [if_neg h,ih]
      simp [Ne.symm h]
theorem look_none (n : Int) (w : World) : (Instr.lookup 267 (.map none) (.int .i64 n) true).run Tryz.prog w = .ok (.tuple #[.agg #[],.bool false]) w := by kernel_rfl
theorem zeroUnit (w : World) : (zeroValue 306).run Tryz.prog w = .ok (.agg #[]) w := by kernel_rfl
theorem ButAt.look {ca : List Nat} {L : List Nat} {bv : Value} {w : World} (h : ButAt ca L bv w) {n : Nat} (hn : n ≤ 1099511627776) : (Instr.lookup 267 bv (.int .i64 ((n : Int) + 1)) true).run Tryz.prog w = .ok (.tuple #[.agg #[],.bool (decide (n ∈ L))]) w := by
  rcases h with ⟨rfl,rfl⟩ | ⟨mb,rfl,_,h⟩
  · exact look_none _ w
  · rw [h.look intLaw Tryz.underlying267 (zeroUnit w) (kI_key hn),getL_unit]
    cases getL (L.map fun n => (n,())) n <;> rfl
def onto1 (H : Nat → Option Obj) (p : Nat) (o : Obj) (k : Nat) : Option Obj := if k = p then some o else H k
theorem onto1_fz {H : Nat → Option Obj} {w : World} {p : Nat} {o : Obj} (h : Fz H w) (hp : w.heap[p]? = some o) : Fz (onto1 H p o) w := fun k x e => by
  unfold onto1 at e
  split at e
  · rename_i hk; rw [hk,← e]; exact hp
  · exact h k x e
theorem onto1_ext {H : Nat → Option Obj} {p : Nat} {o : Obj} (h : H p = none) : ∀ k x,H k = some x → onto1 H p o k = some x := fun k x e => by
  unfold onto1
  rw [if_neg (fun hk => by rw [hk,h] at e; cases e)]
  exact e
theorem onto1_new {H0 H : Nat → Option Obj} {p n : Nat} {o : Obj} (h : ∀ k x,H k = some x → H0 k = some x ∨ n ≤ k) (hp : n ≤ p) : ∀ k x,onto1 H p o k = some x → H0 k = some x ∨ n ≤ k := fun k x e => by
  unfold onto1 at e
  split at e
  · rename_i hk; right; omega
  · exact h k x e
theorem onto1_at {H : Nat → Option Obj} {p : Nat} {o : Obj} : onto1 H p o p = some o := by unfold onto1; rw [if_pos rfl]
theorem CSd.grown0 {H : Nat → Option Obj} {ca : List Nat} {σ : Sto} {d : Nat → Nat} {w w' : World} (h : CSd H ca σ d w) (g : w.grownBy w' none) : CSd H ca σ d w' := h.gb (R := fun _ => False) (Gb.new g) (fun _ _ e => e) (fun _ _ _ e => e)
theorem grow1 {w : World} {gn : Nat} {u v : Value} {t : TypeId} (h : w.heap[gn]? = some (.cells #[u] t (0,0))) : w.cell? ⟨gn,0,none⟩ = some u ∧ w.frozen? ⟨gn,0,none⟩ = false ∧ (w.setCell ⟨gn,0,none⟩ v).heap[gn]? = some (.cells #[v] t (0,0)) := by simp [World.cell?,World.frozen?,World.setCell,Array.getElem?_modify,h]
theorem grow2 {w : World} {gn : Nat} {u z : Value} {t : TypeId} (h : w.heap[gn]? = some (.cells #[u,z] t (0,0))) : w.cell? ⟨gn,0,none⟩ = some u ∧ w.cell? ⟨gn,1,none⟩ = some z ∧ w.frozen? ⟨gn,0,none⟩ = false ∧ w.frozen? ⟨gn,1,none⟩ = false ∧ (∀ v,(w.setCell ⟨gn,0,none⟩ v).heap[gn]? = some (.cells #[v,z] t (0,0))) ∧ ∀ v,(w.setCell ⟨gn,1,none⟩ v).heap[gn]? = some (.cells #[u,v] t (0,0)) := by simp [World.cell?,World.frozen?,World.setCell,Array.getElem?_modify,h]
theorem csd_setNew {H : Nat → Option Obj} {ca : List Nat} {σ : Sto} {d : Nat → Nat} {w : World} {gn : Nat} (h : CSd H ca σ d w) (hg : ¬ InAs ca gn) (hh : H gn = none) (i : Nat) (v : Value) : CSd H ca σ d (w.setCell ⟨gn,i,none⟩ v) :=
  h.gb (R := fun k => k = gn) ((Gb.refl (fun k => k = gn) w).set (b := gn) (Or.inl rfl) i v) (fun a ha e => hg (e ▸ ha)) (fun k o e e2 => by rw [e2,hh] at e; cases e)
theorem gb_setNew {ca : List Nat} {w w' : World} (h : Gb (InAs ca) w w') {gn : Nat} (hg : w.heap.size ≤ gn) (i : Nat) (v : Value) : Gb (InAs ca) w (w'.setCell ⟨gn,i,none⟩ v) := h.set (b := gn) (Or.inr hg) i v
theorem ERep.onto {H H1 : Nat → Option Obj} {ca : List Nat} {v : Value} {t : Et} (h : ER H ca v t) (e : ∀ k o,H k = some o → H1 k = some o) : ER H1 ca v t := by
  obtain ⟨m,h⟩ := h
  exact ⟨m,ERep.ext (Nat.le_refl _) e (List.prefix_refl _) m v t h⟩
theorem er_val {H : Nat → Option Obj} {ca : List Nat} {v : Value} {t : Et} (h : ER H ca v t) : ∃ T0 b,IsE T0 ∧ v = .iface T0 (.pointer (some ⟨b,0,none⟩)) := by
  obtain ⟨m,h⟩ := h
  exact h.val
theorem ORep.ext {H H' : Nat → Option Obj} {ca ca' : List Nat} {o : Option Et} {v : Value} (h : ORep H ca o v) (e : ∀ k x,H k = some x → H' k = some x) (ha : ca <+: ca') : ORep H' ca' o v := by
  rcases h with h | ⟨nd,h1,h2,h3,h4,h5⟩
  · exact Or.inl h
  · exact Or.inr ⟨nd,h1,h2,h3,h4,h5.ext (Nat.le_refl _) e ha _ _ _⟩
theorem CV.ext {H H' : Nat → Option Obj} {ca ca' : List Nat} {σ : Sto} {d : Nat → Nat} {i : Nat} {v : Value} (h : CV H ca σ d i v) (e : ∀ k x,H k = some x → H' k = some x) (ha : ca <+: ca') : CV H' ca' σ d i v := by
  rcases h with ⟨h1,h2⟩ | ⟨j,c,b,h1,h2,h3,h4,h5,h6⟩
  · exact Or.inl ⟨h1,h2.ext e ha⟩
  · exact Or.inr ⟨j,c,b,h1,h2,h3,get_pre ha h4,h5,h6⟩
theorem CSd.more {H H' : Nat → Option Obj} {ca : List Nat} {σ : Sto} {d : Nat → Nat} {w : World} (h : CSd H ca σ d w) (e : ∀ k x,H k = some x → H' k = some x) (hz : Fz H' w) (off : ∀ a,a ∈ ca → H' a = none) : CSd H' ca σ d w :=
  ⟨hz,h.len,h.lenc,h.nd,off,h.few,h.rr,fun i a ei => by
    obtain ⟨v,q1,q2⟩ := h.blk i a ei
    exact ⟨v,q1,q2.ext e (List.prefix_refl _)⟩⟩
theorem CSd.new {H : Nat → Option Obj} {ca : List Nat} {σ : Sto} {d : Nat → Nat} {w w' : World} {o : Option Et} {v : Value} {a : Nat} (h : CSd H ca σ d w) (ho : ORep H ca o v) (hf : σ.rep.length < 1099511627776) (hz : Fz H w')
    (hk : ∀ x,x ∈ ca → w'.heap[x]? = w.heap[x]?) (ha : w.heap.size ≤ a) (hb : w'.heap[a]? = some (cellB σ.rep.length v)) : CSd H (ca ++ [a]) (σ.new o) d w' := by
  have hpre : ca <+: ca ++ [a] := List.prefix_append _ _
  have hlt : ∀ x,x ∈ ca → x < w.heap.size := fun x hx => InAs.lt h hx
  have hna : H a = none := h.fz.none ha
  have hrep : ∀ i,i < σ.rep.length → (σ.new o).rep[i]? = σ.rep[i]? := fun i hi => List.getElem?_append_left hi
  have hcon : ∀ i,i < σ.rep.length → (σ.new o).con.getD i none = σ.con.getD i none := fun i hi => by
    show (σ.con ++ [o]).getD i none = _
    rw [List.getD_eq_getElem?_getD,List.getD_eq_getElem?_getD,List.getElem?_append_left (by rw [h.lenc]; exact hi)]
  refine ⟨hz,by simp [Sto.new,h.len],by simp [Sto.new,h.lenc],?_,fun x hx => ?_,by simp [Sto.new]; omega,fun i c hc => ?_,fun i x hx => ?_⟩
  · rw [List.nodup_append]
    refine ⟨h.nd,by simp,fun x hx y hy e => ?_⟩
    simp at hy
    have := hlt x hx
    omega
  · rcases List.mem_append.1 hx with hx | hx
    · exact h.off x hx
    · rw [List.mem_singleton.1 hx]; exact hna
  · by_cases hi : i < σ.rep.length
    · rw [hrep i hi] at hc
      have h2 := h.rr i c hc
      rw [hrep c (List.getElem?_eq_some_iff.1 h2).1]
      exact h2
    · have hi2 : i = σ.rep.length := by
        have := (List.getElem?_eq_some_iff.1 hc).1
        simp [Sto.new] at this
        omega
      subst hi2
      have : (σ.new o).rep[σ.rep.length]? = some σ.rep.length := by simp [Sto.new]
      rw [this] at hc
      cases hc
      exact this
  · by_cases hi : i < ca.length
    · rw [List.getElem?_append_left hi] at hx
      obtain ⟨u,q1,q2⟩ := h.blk i x hx
      refine ⟨u,(hk x (List.mem_of_getElem? hx)).trans q1,?_⟩
      have hi2 : i < σ.rep.length := by rw [← h.len]; exact hi
      rcases q2 with ⟨p1,p2⟩ | ⟨j,c,b,p1,p2,p3,p4,p5,p6⟩
      · exact Or.inl ⟨(hrep i hi2).trans p1,by rw [hcon i hi2]; exact p2.ext (fun _ _ e => e) hpre⟩
      · exact Or.inr ⟨j,c,b,(hrep i hi2).trans p1,p2,(hrep j (List.getElem?_eq_some_iff.1 p3).1).trans p3,get_pre hpre p4,p5,p6⟩
    · have hi2 : i = ca.length := by
        have := (List.getElem?_eq_some_iff.1 hx).1
        simp at this
        omega
      subst hi2
      rw [List.getElem?_append_right (Nat.le_refl _)] at hx
      simp at hx
      subst hx
      refine ⟨v,by rw [h.len]; exact hb,Or.inl ⟨?_,?_⟩⟩
      · rw [h.len]; simp [Sto.new]
      · have e : (σ.new o).con.getD ca.length none = o := by
          show (σ.con ++ [o]).getD ca.length none = o
          rw [List.getD_eq_getElem?_getD,h.len,← h.lenc,List.getElem?_append_right (Nat.le_refl _)]
          simp
        rw [e]
        exact ho.ext (fun _ _ e => e) hpre
theorem link_get {σ : Sto} {one other i c : Nat} (h : σ.rep[i]? = some c) : (σ.link one other).rep[i]? = some (if c = one then other else c) := by
  unfold Sto.link
  simp [h]
theorem CSd.link {H : Nat → Option Obj} {ca : List Nat} {σ : Sto} {d : Nat → Nat} {w : World} {one other a b : Nat} (h : CSd H ca σ d w) (h1 : σ.rep[one]? = some one) (h2 : σ.rep[other]? = some other) (hne : one ≠ other) (ea : ca[one]? = some a) (eb : ca[other]? = some b) :
    CSd H ca (σ.link one other) (fun i => if i = one then 0 else d i + 1) (w.setCell ⟨a,1,none⟩ (CI b)) := by
  have hlen : (σ.link one other).rep.length = σ.rep.length := by simp [Sto.link]
  refine ⟨h.fz.set (h.off a (List.mem_of_getElem? ea)) 1 _,by rw [hlen]; exact h.len,by rw [hlen]; exact h.lenc,h.nd,h.off,by rw [hlen]; exact h.few,fun i c hc => ?_,fun i x hx => ?_⟩
  · have hi : i < σ.rep.length := by rw [← hlen]; exact (List.getElem?_eq_some_iff.1 hc).1
    obtain ⟨r,hr⟩ : ∃ r,σ.rep[i]? = some r := ⟨_,List.getElem?_eq_getElem hi⟩
    rw [link_get hr] at hc
    have e := Option.some.inj hc
    by_cases hro : r = one
    · rw [if_pos hro] at e
      subst e
      rw [link_get h2,if_neg (Ne.symm hne)]
    · rw [if_neg hro] at e
      subst e
      rw [link_get (h.rr i r hr),if_neg hro]
  · obtain ⟨u,q1,q2⟩ := h.blk i x hx
    by_cases hi : i = one
    · subst hi
      rw [ea] at hx
      cases hx
      refine ⟨CI b,?_,Or.inr ⟨other,other,b,?_,Ne.symm hne,?_,eb,rfl,Or.inl rfl⟩⟩
      · simp [World.setCell,Array.getElem?_modify,q1,cellB]
      · rw [link_get h1,if_pos rfl]
      · rw [link_get h2,if_neg (Ne.symm hne)]
    · refine ⟨u,?_,?_⟩
      · rw [Below.heap_setCell _ _ _ _ (fun e' => hi ?_)]
        · exact q1
        · have e2 : x = a := e'
          subst e2
          exact (List.getElem?_inj (List.getElem?_eq_some_iff.1 hx).1 h.nd).1 (hx.trans ea.symm)
      · rcases q2 with ⟨p1,p2⟩ | ⟨j,c,bb,p1,p2,p3,p4,p5,p6⟩
        · exact Or.inl ⟨by rw [link_get p1,if_neg hi],p2⟩
        · refine Or.inr ⟨j,if c = one then other else c,bb,link_get p1,?_,link_get p3,p4,p5,?_⟩
          · by_cases hc : c = one
            · rw [if_pos hc]
              intro e
              rw [← e,h2] at p1
              rw [hc] at p1
              exact hne (Option.some.inj p1).symm
            · rw [if_neg hc]; exact p2
          · rcases p6 with p6 | p6
            · by_cases hc : c = one
              · right
                show (if j = one then 0 else d j + 1) < (if i = one then 0 else d i + 1)
                rw [if_pos (p6.trans hc),if_neg hi]
                omega
              · left
                rw [if_neg hc]; exact p6
            · right
              show (if j = one then 0 else d j + 1) < (if i = one then 0 else d i + 1)
              rw [if_neg hi]
              split
              · omega
              · omega
theorem CSd.put {H : Nat → Option Obj} {ca : List Nat} {σ : Sto} {d : Nat → Nat} {w : World} {other b : Nat} {o : Option Et} {v : Value} (h : CSd H ca σ d w) (h2 : σ.rep[other]? = some other) (eb : ca[other]? = some b) (ho : ORep H ca o v) :
    CSd H ca (σ.put other o) d (w.setCell ⟨b,1,none⟩ v) := by
  refine ⟨h.fz.set (h.off b (List.mem_of_getElem? eb)) 1 _,h.len,by simp [Sto.put,h.lenc],h.nd,h.off,h.few,h.rr,fun i x hx => ?_⟩
  obtain ⟨u,q1,q2⟩ := h.blk i x hx
  by_cases hi : i = other
  · subst hi
    rw [eb] at hx
    cases hx
    refine ⟨v,by simp [World.setCell,Array.getElem?_modify,q1,cellB],Or.inl ⟨h2,?_⟩⟩
    have hl : i < σ.con.length := by rw [h.lenc]; exact (List.getElem?_eq_some_iff.1 h2).1
    have e : (σ.put i o).con.getD i none = o := by
      show (σ.con.set i o).getD i none = o
      rw [List.getD_eq_getElem?_getD,List.getElem?_set_self hl]
      rfl
    rw [e]
    exact ho
  · refine ⟨u,?_,?_⟩
    · rw [Below.heap_setCell _ _ _ _ (fun e' => hi ?_)]
      · exact q1
      · have e2 : x = b := e'
        subst e2
        exact (List.getElem?_inj (List.getElem?_eq_some_iff.1 hx).1 h.nd).1 (hx.trans eb.symm)
    · rcases q2 with ⟨p1,p2⟩ | q2
      · refine Or.inl ⟨p1,?_⟩
        have e : (σ.put other o).con.getD i none = σ.con.getD i none := by
          show (σ.con.set other o).getD i none = _
          rw [List.getD_eq_getElem?_getD,List.getElem?_set_ne (Ne.symm hi),List.getD_eq_getElem?_getD]
        rw [e]
        exact p2
      · exact Or.inr q2
def OFP (H : Nat → Option Obj) (ca : List Nat) (σ : Sto) (d : Nat → Nat) (tb : Nat) (w : World) (e : Ending) (w' : World) : Prop :=
  ∃ a,e = .returned (CP a) ∧ w.heap.size ≤ a ∧ CSd H (ca ++ [a]) σ d w' ∧ w'.cell? ⟨tb,0,none⟩ = some (.int .i64 (σ.rep.length : Int)) ∧ Gb (fun k => k = tb) w w' ∧ ∀ i,i ≠ 0 → w'.cell? ⟨tb,i,none⟩ = w.cell? ⟨tb,i,none⟩
theorem of_end {H : Nat → Option Obj} {ca : List Nat} {σ : Sto} {d : Nat → Nat} {tb : Nat} {o : Option Et} {v : Value} {w : World} (hc : CSd H ca σ d w) (c0 : w.cell? ⟨tb,0,none⟩ = some (.int .i64 (σ.rep.length : Int))) (htb : tb < w.heap.size) (ht : H tb = none) (hta : tb ∉ ca) (ho : ORep H ca o v) (hr : σ.rep.length < 1099511627776) :
    OFP H ca (σ.new o) d tb w (.returned (CP w.heap.size)) ((w.setCell ⟨tb,0,none⟩ (.int .i64 ((σ.rep.length : Int) + 1))).alloc (.cells #[.int .i64 ((σ.rep.length : Int) + 1),v] 284)) := by
  have hs : (w.setCell ⟨tb,0,none⟩ (.int .i64 ((σ.rep.length : Int) + 1))).heap.size = w.heap.size := by simp [World.setCell]
  have g0 : Gb (fun k => k = tb) w ((w.setCell ⟨tb,0,none⟩ (.int .i64 ((σ.rep.length : Int) + 1))).alloc (.cells #[.int .i64 ((σ.rep.length : Int) + 1),v] 284)) := ((Gb.refl (fun k => k = tb) w).set (b := tb) (Or.inl rfl) 0 _).alloc _
  refine ⟨w.heap.size,rfl,Nat.le_refl _,hc.new ho hr (hc.fz.gb g0 (fun k x e e2 => by rw [e2,ht] at e; cases e)) (fun x hx => g0.block x (InAs.lt hc hx) (fun e => hta (e ▸ hx))) (Nat.le_refl _) ?_,?_,g0,fun i hi => ?_⟩
  · rw [heap_alloc_at _ _ _ hs.symm]
    rfl
  · rw [World.cell?_of_block (a := ⟨tb,0,none⟩) (Below.heap_alloc _ _ _ (by rw [hs]; exact htb))]
    have e : (((σ.new o).rep.length : Nat) : Int) = (σ.rep.length : Int) + 1 := by simp [Sto.new]
    rw [e]
    exact World.cell?_setCell_same _ _ _ c0
  · rw [World.cell?_of_block (a := ⟨tb,i,none⟩) (Below.heap_alloc _ _ _ (by rw [hs]; exact htb))]
    exact World.cell?_setCell_other _ _ _ _ (by simp)
def TB (w : World) (tb n : Nat) (r : List Value) : Prop := w.heap[tb]? = some (.cells (Value.int .i64 (n : Int) :: r).toArray 171 (0,0))
theorem TB.c0 {w : World} {tb n : Nat} {r : List Value} (h : TB w tb n r) : w.cell? ⟨tb,0,none⟩ = some (.int .i64 (n : Int)) ∧ w.frozen? ⟨tb,0,none⟩ = false := by
  unfold TB at h
  simp [World.cell?,World.frozen?,h]
theorem TB.set {w : World} {tb n : Nat} {r : List Value} (h : TB w tb n r) (m : Nat) : TB (w.setCell ⟨tb,0,none⟩ (.int .i64 (m : Int))) tb m r := by
  unfold TB at h ⊢
  simp [World.setCell,Array.getElem?_modify,h]
theorem TB.lt {w : World} {tb n : Nat} {r : List Value} (h : TB w tb n r) : tb < w.heap.size := lt_of_block h
theorem TB.gb {R : Nat → Prop} {w w' : World} {tb n : Nat} {r : List Value} (h : TB w tb n r) (g : Gb R w w') (hn : ¬ R tb) : TB w' tb n r := g.at h hn
theorem of_w {tb n : Nat} {v : Value} {w : World} (h : w.cell? ⟨tb,0,none⟩ = some (.int .i64 (n : Int))) (h0 : w.frozen? ⟨tb,0,none⟩ = false) (hn : n < 1099511627776) (hv : v = .nilIface ∨ ∃ T0 b,v = .iface T0 (.pointer (some ⟨b,0,none⟩))) :
    Calls Tryz.prog 160 #[CP tb,v] w fun e w' => e = .returned (CP w.heap.size) ∧ w' = (w.setCell ⟨tb,0,none⟩ (.int .i64 ((n : Int) + 1))).alloc (.cells #[.int .i64 ((n : Int) + 1),v] 284) := by
  unfold CP
  rcases hv with rfl | ⟨T0,b,rfl⟩
  all_goals
    go_enter Tryz.func160,Tryz.ntmps160
    go_wp2
    go_ret
    exact ⟨rfl,rfl⟩
structure MS (H : Nat → Option Obj) (ca : List Nat) (σ : Sto) (d : Nat → Nat) (tb : Nat) (r : List Value) (w : World) : Prop where
  cs : CSd H ca σ d w
  bk : TB w tb σ.rep.length r
  ht : H tb = none
  hta : tb ∉ ca
structure MX (H H' : Nat → Option Obj) (ca ca' : List Nat) (w : World) : Prop where
  ext : ∀ k o,H k = some o → H' k = some o
  new : ∀ k o,H' k = some o → H k = some o ∨ w.heap.size ≤ k
  pre : ca <+: ca'
  cnew : ∀ a,a ∈ ca' → a ∈ ca ∨ w.heap.size ≤ a
theorem MX.refl (H : Nat → Option Obj) (ca : List Nat) (w : World) : MX H H ca ca w := ⟨fun _ _ e => e,fun _ _ e => Or.inl e,List.prefix_refl _,fun _ h => Or.inl h⟩
theorem MX.trans {H H1 H2 : Nat → Option Obj} {ca ca1 ca2 : List Nat} {w w1 : World} (h : MX H H1 ca ca1 w) (k : MX H1 H2 ca1 ca2 w1) (hs : w.heap.size ≤ w1.heap.size) : MX H H2 ca ca2 w :=
  ⟨fun i o e => k.ext i o (h.ext i o e),fun i o e => (k.new i o e).elim (fun e => h.new i o e) (fun e => Or.inr (by omega)),h.pre.trans k.pre,fun a ha => (k.cnew a ha).elim (fun e => h.cnew a e) (fun e => Or.inr (by omega))⟩
theorem MX.er {H H' : Nat → Option Obj} {ca ca' : List Nat} {w : World} (h : MX H H' ca ca' w) {v : Value} {t : Et} (e : ER H ca v t) : ER H' ca' v t := by
  obtain ⟨m,e⟩ := e
  exact ⟨m,ERep.ext (Nat.le_refl _) h.ext h.pre m v t e⟩
theorem MS.of {H : Nat → Option Obj} {ca : List Nat} {σ : Sto} {d : Nat → Nat} {tb : Nat} {r : List Value} {o : Option Et} {v : Value} {w : World} (h : MS H ca σ d tb r w) (ho : ORep H ca o v) (hr : σ.rep.length < 1099511627776) :
    Calls Tryz.prog 160 #[CP tb,v] w fun e w' => ∃ a,e = .returned (CP a) ∧ MS H (ca ++ [a]) (σ.new o) d tb r w' ∧ w.heap.size ≤ a ∧ Gb (fun k => k = tb) w w' := by
  have hv : v = .nilIface ∨ ∃ T0 b,v = .iface T0 (.pointer (some ⟨b,0,none⟩)) := by
    rcases ho with ⟨_,rfl⟩ | ⟨nd,_,_,_,_,h5⟩
    · exact Or.inl rfl
    · obtain ⟨T0,b,_,e⟩ := h5.val
      exact Or.inr ⟨T0,b,e⟩
  refine (of_w h.bk.c0.1 h.bk.c0.2 hr hv).mono ?_
  rintro e w' ⟨rfl,rfl⟩
  obtain ⟨a,ha,hsz,hcs,_,hg,_⟩ := of_end h.cs h.bk.c0.1 h.bk.lt h.ht h.hta ho hr
  refine ⟨a,ha,⟨hcs,?_,h.ht,fun hm => ?_⟩,hsz,hg⟩
  · have h1 := h.bk.set (σ.rep.length + 1)
    unfold TB at h1 ⊢
    rw [Below.heap_alloc _ _ _ (lt_of_block (by rw [show ((σ.rep.length : Int) + 1) = ((σ.rep.length + 1 : Nat) : Int) by omega]; exact h1))]
    rw [show ((σ.rep.length : Int) + 1) = ((σ.rep.length + 1 : Nat) : Int) by omega,h1]
    simp [Sto.new]
  · rcases List.mem_append.1 hm with hm | hm
    · exact h.hta hm
    · have := List.mem_singleton.1 hm
      have := h.bk.lt
      omega
theorem iA_Cell_Cell (b : Nat) (w : World) : (Instr.typeAssert (.iface 173 (.pointer (some ⟨b,0,none⟩))) 77 173 true).run Tryz.prog w = .ok (.tuple #[.pointer (some ⟨b,0,none⟩),.bool true]) w := by kernel_rfl
theorem iA_Var_Cell (b : Nat) (w : World) : (Instr.typeAssert (.iface 242 (.pointer (some ⟨b,0,none⟩))) 77 173 true).run Tryz.prog w = .ok (.tuple #[.pointer none,.bool false]) w := by kernel_rfl
theorem iA_Var_Var (b : Nat) (w : World) : (Instr.typeAssert (.iface 242 (.pointer (some ⟨b,0,none⟩))) 77 242 true).run Tryz.prog w = .ok (.tuple #[.pointer (some ⟨b,0,none⟩),.bool true]) w := by kernel_rfl
theorem iA_Basic_Cell (b : Nat) (w : World) : (Instr.typeAssert (.iface 275 (.pointer (some ⟨b,0,none⟩))) 77 173 true).run Tryz.prog w = .ok (.tuple #[.pointer none,.bool false]) w := by kernel_rfl
theorem iA_Basic_Var (b : Nat) (w : World) : (Instr.typeAssert (.iface 275 (.pointer (some ⟨b,0,none⟩))) 77 242 true).run Tryz.prog w = .ok (.tuple #[.pointer none,.bool false]) w := by kernel_rfl
theorem iA_List_Cell (b : Nat) (w : World) : (Instr.typeAssert (.iface 279 (.pointer (some ⟨b,0,none⟩))) 77 173 true).run Tryz.prog w = .ok (.tuple #[.pointer none,.bool false]) w := by kernel_rfl
theorem iA_List_Var (b : Nat) (w : World) : (Instr.typeAssert (.iface 279 (.pointer (some ⟨b,0,none⟩))) 77 242 true).run Tryz.prog w = .ok (.tuple #[.pointer none,.bool false]) w := by kernel_rfl
theorem iA_Pair_Cell (b : Nat) (w : World) : (Instr.typeAssert (.iface 291 (.pointer (some ⟨b,0,none⟩))) 77 173 true).run Tryz.prog w = .ok (.tuple #[.pointer none,.bool false]) w := by kernel_rfl
theorem iA_Pair_Var (b : Nat) (w : World) : (Instr.typeAssert (.iface 291 (.pointer (some ⟨b,0,none⟩))) 77 242 true).run Tryz.prog w = .ok (.tuple #[.pointer none,.bool false]) w := by kernel_rfl
theorem iA_Arrow_Cell (b : Nat) (w : World) : (Instr.typeAssert (.iface 209 (.pointer (some ⟨b,0,none⟩))) 77 173 true).run Tryz.prog w = .ok (.tuple #[.pointer none,.bool false]) w := by kernel_rfl
theorem iA_Arrow_Var (b : Nat) (w : World) : (Instr.typeAssert (.iface 209 (.pointer (some ⟨b,0,none⟩))) 77 242 true).run Tryz.prog w = .ok (.tuple #[.pointer none,.bool false]) w := by kernel_rfl
theorem getL_mem {α β : Type} [DecidableEq α] {a : α} {b : β} : ∀ {l : List (α × β)},getL l a = some b → (a,b) ∈ l
  | [],h => by cases h
  | p :: l,h => by
    rw [getL] at h
    split at h
    · rename_i e
      cases h
      rw [← e]
      exact List.mem_cons_self ..
    · exact List.mem_cons_of_mem _ (getL_mem h)
def FR (ca : List Nat) (w : World) (mb : Nat) (g : List (List UInt8 × Nat)) : Prop := GM kS (fun c => CP (ca.getD c 0)) 9 w mb g ∧ ∀ p,p ∈ g → p.2 < ca.length
theorem FR.gb {R : Nat → Prop} {ca : List Nat} {w w' : World} {mb : Nat} {g : List (List UInt8 × Nat)} (h : FR ca w mb g) (k : Gb R w w') (hn : ¬ R mb) : FR ca w' mb g := ⟨h.1.gb k hn,h.2⟩
theorem cgetD_pre {ca ca' : List Nat} (h : ca <+: ca') {c : Nat} (hc : c < ca.length) : ca'.getD c 0 = ca.getD c 0 := by
  obtain ⟨r,rfl⟩ := h
  rw [List.getD_eq_getElem?_getD,List.getD_eq_getElem?_getD,List.getElem?_append_left hc]
theorem FR.pre {ca ca' : List Nat} {w : World} {mb : Nat} {g : List (List UInt8 × Nat)} (h : FR ca w mb g) (hp : ca <+: ca') : FR ca' w mb g := by
  obtain ⟨⟨D,h1,h2,h3,h4,h5⟩,h6⟩ := h
  refine ⟨⟨D,h1,h2,h3,h4,fun a b z e => ?_⟩,fun p hp' => Nat.lt_of_lt_of_le (h6 p hp') hp.length_le⟩
  rw [h5 a b z e]
  show DataW.held (CP (ca.getD b 0)) = DataW.held (CP (ca'.getD b 0))
  rw [cgetD_pre hp (h6 _ (getL_mem e))]
def INP (H : Nat → Option Obj) (ca : List Nat) (d : Nat → Nat) (tb mb : Nat) (r : List Value) (σ' : Sto) (g' : List (List UInt8 × Nat)) (c : Nat) (w : World) (e : Ending) (w' : World) : Prop :=
  ∃ H' ca' x,e = .returned (CP x) ∧ ca'[c]? = some x ∧ MS H' ca' σ' d tb r w' ∧ MX H H' ca ca' w ∧ FR ca' w' mb g' ∧ H' mb = none ∧ mb ∉ ca' ∧ Gb (fun k => k = tb ∨ k = mb ∨ InAs ca k) w w'
def INC (tb mb : Nat) (r : List Value) (f : Nat) : Prop := ∀ (t : Et) (v : Value) (σ : Sto) (g : List (List UInt8 × Nat)) (σ' : Sto) (g' : List (List UInt8 × Nat)) (c : Nat) (H : Nat → Option Obj) (ca : List Nat) (d : Nat → Nat) (w : World),
  ER H ca v t → instS f t σ g = some (σ',g',c) → MS H ca σ d tb r w → FR ca w mb g → H mb = none → mb ∉ ca → Calls Tryz.prog 181 #[CP tb,v,.map (some mb)] w (INP H ca d tb mb r σ' g' c w)
theorem zeroCellP (w : World) : (zeroValue 173).run Tryz.prog w = .ok (.pointer none) w := by kernel_rfl
theorem inst_cell {tb mb : Nat} {r : List Value} (hne : mb ≠ tb) (f : Nat) (t : Et) (v : Value) (σ : Sto) (g : List (List UInt8 × Nat)) (σ' : Sto) (g' : List (List UInt8 × Nat)) (c : Nat) (H : Nat → Option Obj) (ca : List Nat) (d : Nat → Nat) (w : World)
    (hv : ER H ca v t) (hi : instS (f + 1) t σ g = some (σ',g',c)) (hm : MS H ca σ d tb r w) (hf : FR ca w mb g) (hb : H mb = none) (hba : mb ∉ ca) (hk : t.kind = oCell ∨ t.kind = []) : Calls Tryz.prog 181 #[CP tb,v,.map (some mb)] w (INP H ca d tb mb r σ' g' c w) := by
  obtain ⟨m,hv⟩ := hv
  cases m with
  | zero => exact absurd hv id
  | succ m =>
  obtain ⟨b,hv⟩ := hv
  rw [instS] at hi
  rcases hv with ⟨h1,h2,h3,rfl⟩ | ⟨h1,h2,h3,_,rfl,h5⟩ | ⟨h1,_⟩ | ⟨h1,_⟩ | ⟨h1,_⟩ | ⟨h1,_⟩
  · rw [if_pos h1] at hi
    simp only [Option.some.injEq,Prod.mk.injEq] at hi
    obtain ⟨rfl,rfl,rfl⟩ := hi
    have Q := hid (show INP H ca d tb mb r σ g t.num w (.returned (CP b)) w from ⟨H,ca,b,rfl,h3,hm,MX.refl _ _ _,hf,hb,hba,Gb.refl _ _⟩)
    have a1 := iA_Cell_Cell b
    clear hm hf hb hba hk h1 h2 h3
    unfold CP at *
    go_enter Tryz.func181,Tryz.ntmps181
    go_wp2
    go_ret
    exact Q.out
  · have hko : ¬ t.kind = oCell := by rw [h1]; decide
    rw [if_neg hko,if_pos h1] at hi
    have a1 := iA_Var_Cell b
    have a2 := iA_Var_Var b
    have c0 : w.cell? ⟨b,0,none⟩ = some (.string (B t.name)) := by simp [World.cell?,hm.cs.fz _ _ h5]
    have hlk := hf.1.look strLaw Tryz.underlying333 (zeroCellP w) (kS_key h3)
    have hbl : b < w.heap.size := lt_of_block (hm.cs.fz _ _ h5)
    cases eg : getL g t.name with
    | some c9 =>
      rw [eg] at hi hlk
      simp only [Option.some.injEq,Prod.mk.injEq] at hi
      obtain ⟨rfl,rfl,rfl⟩ := hi
      simp only [Option.map_some,Option.getD_some,Option.isSome_some] at hlk
      have hlt := hf.2 _ (getL_mem eg)
      have ex : ca[c9]? = some (ca.getD c9 0) := by rw [List.getD_eq_getElem?_getD,List.getElem?_eq_getElem hlt]; rfl
      have Q := hid (show INP H ca d tb mb r σ g c9 w (.returned (CP (ca.getD c9 0))) w from ⟨H,ca,_,rfl,ex,hm,MX.refl _ _ _,hf,hb,hba,Gb.refl _ _⟩)
      generalize ca.getD c9 0 = xx at *
      clear hm hf hb hba hk h1 h2 h3 h5 hko eg ex
      unfold CP at *
      go_enter Tryz.func181,Tryz.ntmps181
      go_wp2
      go_ret
      exact Q.out
    | none =>
      rw [eg] at hi hlk
      simp only [Option.map_none,Option.getD_none,Option.isSome_none] at hlk
      simp only at hi
      split at hi
      · rename_i hro
        simp only [Option.some.injEq,Prod.mk.injEq] at hi
        obtain ⟨rfl,rfl,rfl⟩ := hi
        have hr9 : σ.rep.length < 1099511627776 := of_decide_eq_true hro.1
        have CO := hid (hm.of (o := none) (v := .nilIface) (Or.inl ⟨rfl,rfl⟩) hr9)
        have HM := hid (And.intro hm (And.intro hf (And.intro hb hba)))
        have HK := hid (And.intro h3 (And.intro eg hro))
        have H5 := hid h5
        clear hm hf hb hba hk h1 h2 h3 h5 hko eg hro
        unfold CP at *
        go_enter Tryz.func181,Tryz.ntmps181
        go_wp2_with fail
        refine CO.out.mono ?_
        rintro e w1 ⟨a,rfl,m1,ha,g1⟩
        have hlen : ca.length = σ.rep.length := HM.out.1.cs.len
        have hpre : ca <+: ca ++ [a] := List.prefix_append _ _
        have fr1 : FR (ca ++ [a]) w1 mb g := (HM.out.2.1.gb g1 hne).pre hpre
        have ea : (ca ++ [a]).getD σ.rep.length 0 = a := by rw [← hlen,List.getD_eq_getElem?_getD]; simp
        obtain ⟨w2,hup,hf2,g2⟩ := fr1.1.store strLaw Tryz.underlying333 kS_inj kS_lit (by have := HK.out.2.2.2; omega) σ.rep.length (kS_key HK.out.1)
        have hup1 : (Instr.mapUpdate 333 (.map (some mb)) (.string (B t.name)) (.pointer (some ⟨a,0,none⟩))).run Tryz.prog w1 = .ok () w2 := by
          have h9 := hup
          simp only [ea] at h9
          exact h9
        rw [putL_new _ HK.out.2.1] at hf2
        have gb2 : Gb (fun k => k = mb) w1 w2 := Gb.of g2 (fun b e => Or.inl (Option.some.inj e).symm)
        have hmb1 : mb ∉ ca ++ [a] := fun h => by
          rcases List.mem_append.1 h with h | h
          · exact HM.out.2.2.2 h
          · have := List.mem_singleton.1 h
            have := HM.out.2.1.1.lt
            omega
        have m2 : MS H (ca ++ [a]) (σ.new none) d tb r w2 := ⟨m1.cs.gb gb2 (fun x hx e => hmb1 (e ▸ hx)) (fun k o e e2 => by rw [e2,HM.out.2.2.1] at e; cases e),m1.bk.gb gb2 (fun e => hne e.symm),m1.ht,m1.hta⟩
        have c0' : w1.cell? ⟨b,0,none⟩ = some (.string (B t.name)) := by simp [World.cell?,m1.cs.fz _ _ H5.out]
        have Q := hid (show INP H ca d tb mb r (σ.new none) (g ++ [(t.name,σ.rep.length)]) σ.rep.length w (.returned (CP a)) w2 from ⟨H,ca ++ [a],a,rfl,by rw [← hlen]; simp,m2,⟨fun _ _ e => e,fun _ _ e => Or.inl e,hpre,fun x hx => (List.mem_append.1 hx).imp id (fun h => by rw [List.mem_singleton.1 h]; exact ha)⟩,
          ⟨hf2,fun p hp => by
            rcases List.mem_append.1 hp with hp | hp
            · exact fr1.2 p hp
            · rw [List.mem_singleton.1 hp]
              simp [hlen]⟩,HM.out.2.2.1,hmb1,(g1.mono (R' := fun k => k = tb ∨ k = mb ∨ InAs ca k) (fun i e => Or.inl e)).tr (gb2.mono (fun i e => Or.inr (Or.inl e)))⟩)
        unfold CP at Q
        clear m1 ha g1 fr1 hup hf2 g2 gb2 m2 CO
        go_wp2
        go_ret
        exact Q.out
      · cases hi
  · rcases hk with hk | hk
    · rcases h1 with h1 | h1 <;> exact absurd (h1.symm.trans hk) (by decide)
    · rcases h1 with h1 | h1 <;> exact absurd (h1.symm.trans hk) (by decide)
  · rcases hk with hk | hk <;> exact absurd (h1.symm.trans hk) (by decide)
  · rcases hk with hk | hk <;> exact absurd (h1.symm.trans hk) (by decide)
  · rcases hk with hk | hk <;> exact absurd (h1.symm.trans hk) (by decide)
theorem MS.grown {H : Nat → Option Obj} {ca : List Nat} {σ : Sto} {d : Nat → Nat} {tb : Nat} {r : List Value} {w w' : World} (h : MS H ca σ d tb r w) (g : w.grownBy w' none) : MS H ca σ d tb r w' := ⟨h.cs.grown0 g,h.bk.gb (R := fun _ => False) (Gb.new g) id,h.ht,h.hta⟩
theorem MS.setNew {H : Nat → Option Obj} {ca : List Nat} {σ : Sto} {d : Nat → Nat} {tb : Nat} {r : List Value} {w : World} (h : MS H ca σ d tb r w) {gn : Nat} (hg : ¬ InAs ca gn) (hh : H gn = none) (ht : gn ≠ tb) (i : Nat) (v : Value) : MS H ca σ d tb r (w.setCell ⟨gn,i,none⟩ v) :=
  ⟨csd_setNew h.cs hg hh i v,h.bk.gb (R := fun k => k = gn) ((Gb.refl (fun k => k = gn) w).set (b := gn) (Or.inl rfl) i v) (fun e => ht e.symm),h.ht,h.hta⟩
theorem MS.more {H : Nat → Option Obj} {ca : List Nat} {σ : Sto} {d : Nat → Nat} {tb : Nat} {r : List Value} {w : World} (h : MS H ca σ d tb r w) {p : Nat} {o : Obj} (hp : w.heap[p]? = some o) (hn : H p = none) (ha : ¬ InAs ca p) (ht : p ≠ tb) : MS (onto1 H p o) ca σ d tb r w :=
  ⟨h.cs.more (onto1_ext hn) (onto1_fz h.cs.fz hp) (fun a hm => by unfold onto1; rw [if_neg (show ¬ a = p from fun e => ha (by rw [← e]; exact hm))]; exact h.cs.off a hm),h.bk,by unfold onto1; rw [if_neg (Ne.symm ht)]; exact h.ht,h.hta⟩
theorem inst_end {H H2 : Nat → Option Obj} {ca ca1 : List Nat} {σ1 : Sto} {d : Nat → Nat} {tb mb : Nat} {r : List Value} {g1 : List (List UInt8 × Nat)} {nd : Et} {vn : Value} {w W : World} (hm : MS H2 ca1 σ1 d tb r W) (hx : MX H H2 ca ca1 w) (ho : ORep H2 ca1 (some nd) vn) (hf : FR ca1 W mb g1) (hb : H2 mb = none) (hba : mb ∉ ca1) (hne : mb ≠ tb)
    (gw : Gb (fun k => k = tb ∨ k = mb ∨ InAs ca k) w W) (hr : roomy σ1 = true) : Calls Tryz.prog 160 #[CP tb,vn] W (INP H ca d tb mb r (σ1.new (some nd)) g1 σ1.rep.length w) := by
  refine (hm.of ho (of_decide_eq_true hr)).mono ?_
  rintro e w' ⟨a,rfl,m1,ha,g⟩
  have hpre : ca1 <+: ca1 ++ [a] := List.prefix_append _ _
  have hlen := hm.cs.len
  have hs := gw.size
  refine ⟨H2,ca1 ++ [a],a,rfl,by rw [← hlen]; simp,m1,⟨hx.ext,hx.new,hx.pre.trans hpre,fun x hx' => ?_⟩,(hf.gb g hne).pre hpre,hb,fun h => ?_,gw.tr (g.mono (fun i e => Or.inl e))⟩
  · rcases List.mem_append.1 hx' with h | h
    · exact hx.cnew x h
    · rw [List.mem_singleton.1 h]; exact Or.inr (by omega)
  · rcases List.mem_append.1 h with h | h
    · exact hba h
    · have := List.mem_singleton.1 h
      have := hf.1.lt
      omega
theorem er_cell {H : Nat → Option Obj} {ca : List Nat} {c x : Nat} (h : ca[c]? = some x) : ERep 0 H ca 1 (CI x) (cT c) := ⟨x,Or.inl ⟨rfl,rfl,h,rfl⟩⟩
theorem instAll_none {I : Et → Sto → List (List UInt8 × Nat) → Option (Sto × List (List UInt8 × Nat) × Nat)} {t : Et} {ts : List Et} {σ : Sto} {g : List (List UInt8 × Nat)} (h : I t σ g = none) : instAllS I (t :: ts) σ g = none := by rw [instAllS,h]
theorem inst_basic {tb mb : Nat} {r : List Value} (hne : mb ≠ tb) (f b : Nat) (t : Et) (σ : Sto) (g : List (List UInt8 × Nat)) (σ' : Sto) (g' : List (List UInt8 × Nat)) (c : Nat) (H : Nat → Option Obj) (ca : List Nat) (d : Nat → Nat) (w : World)
    (hi : instS (f + 1) t σ g = some (σ',g',c)) (hm : MS H ca σ d tb r w) (hf : FR ca w mb g) (hb : H mb = none) (hba : mb ∉ ca) (hk : t.kind = kInt ∨ t.kind = kBool) (hkid : t.kids = []) (h5 : H b = some (.cells #[.string (B t.kind)] 277 (0,0))) :
    Calls Tryz.prog 181 #[CP tb,.iface 275 (.pointer (some ⟨b,0,none⟩)),.map (some mb)] w (INP H ca d tb mb r σ' g' c w) := by
  rw [instS,if_neg (by rcases hk with h | h <;> rw [h] <;> decide),if_neg (by rcases hk with h | h <;> rw [h] <;> decide),hkid] at hi
  simp only [instAllS] at hi
  split at hi
  · rename_i hro
    simp only [Option.some.injEq,Prod.mk.injEq] at hi
    obtain ⟨rfl,rfl,rfl⟩ := hi
    have CO := hid (inst_end (nd := ⟨t.kind,[],0,[]⟩) (vn := .iface 275 (.pointer (some ⟨b,0,none⟩))) hm (MX.refl H ca w) (Or.inr ⟨_,rfl,by rcases hk with h | h <;> rw [h] <;> decide,by rcases hk with h | h <;> rw [h] <;> decide,(fun k hk => by cases hk),b,Or.inr (Or.inr (Or.inl ⟨hk,rfl,rfl,h5⟩))⟩) hf hb hba hne (Gb.refl _ _) hro)
    have a1 := iA_Basic_Cell b
    have a2 := iA_Basic_Var b
    have mt := eB_Basic b
    clear hm hf hb hba hk hkid h5
    unfold CP at *
    go_enter Tryz.func181,Tryz.ntmps181
    go_wp2_with fail
    refine (eb_basic b w).mono ?_
    rintro e w1 ⟨rfl,rfl⟩
    go_wp2_with fail
    refine wp_loop_rounds 1 ?_
    rw [rounds_succ]
    go_wp2_with fail
    refine (like_basic b _ _).mono ?_
    rintro e w2 ⟨rfl,rfl⟩
    go_wp2_with fail
    refine CO.out.mono ?_
    rintro e w3 ho
    have HO := hid ho
    obtain ⟨_,_,x9,rfl,_⟩ := ho
    unfold CP at *
    clear CO
    go_wp2
    go_ret
    exact HO.out
  · cases hi
theorem MX.low {H H' : Nat → Option Obj} {ca ca' : List Nat} {w w1 : World} (h : MX H H' ca ca' w1) (hs : w.heap.size ≤ w1.heap.size) : MX H H' ca ca' w := ⟨h.ext,fun k o e => (h.new k o e).imp id (fun e => by omega),h.pre,fun a ha => (h.cnew a ha).imp id (fun e => by omega)⟩
theorem inst_list {tb mb : Nat} {r : List Value} (hne : mb ≠ tb) (f : Nat) (IH : INC tb mb r f) (b : Nat) (t : Et) (σ : Sto) (g : List (List UInt8 × Nat)) (σ' : Sto) (g' : List (List UInt8 × Nat)) (c : Nat) (H : Nat → Option Obj) (ca : List Nat) (d : Nat → Nat) (w : World)
    (hi : instS (f + 1) t σ g = some (σ',g',c)) (hm : MS H ca σ d tb r w) (hf : FR ca w mb g) (hb : H mb = none) (hba : mb ∉ ca) (hk : t.kind = oList) (k1 : Et) (T1 : TypeId) (b1 : Nat) (hkid : t.kids = [k1]) (e1 : ER H ca (.iface T1 (.pointer (some ⟨b1,0,none⟩))) k1) (h5 : H b = some (.cells #[.iface T1 (.pointer (some ⟨b1,0,none⟩))] 281 (0,0))) :
    Calls Tryz.prog 181 #[CP tb,.iface 279 (.pointer (some ⟨b,0,none⟩)),.map (some mb)] w (INP H ca d tb mb r σ' g' c w) := by
  rw [instS,if_neg (by rw [hk]; decide),if_neg (by rw [hk]; decide),hkid] at hi
  cases i1 : instS f k1 σ g with
  | none => rw [instAll_none i1] at hi; cases hi
  | some r1 =>
  obtain ⟨σ1,g1,c1⟩ := r1
  simp only [instAllS,i1] at hi
  have hi9 := hi
  split at hi9
  · rename_i hro
    simp only [Option.some.injEq,Prod.mk.injEq] at hi9
    obtain ⟨rfl,rfl,rfl⟩ := hi9
    have a1 := iA_List_Cell b
    have a2 := iA_List_Var b
    have mt := eB_List b
    have HH := hid (And.intro hm (And.intro hf (And.intro hb (And.intro hba (And.intro hk (And.intro i1 e1))))))
    have hbw := hm.cs.fz _ _ h5
    have htl := hm.bk.lt
    have hml := hf.1.lt
    have IHH := hid IH
    have HRO := hid hro
    clear hm hf hb hba hk hkid hi hro i1 IH
    unfold CP at *
    go_enter Tryz.func181,Tryz.ntmps181
    go_wp2_with fail
    refine (eb_list b w T1 b1 hbw).mono ?_
    rintro e w1 ⟨rfl,hw1⟩
    have g01 : w.grownBy w1 none := by rw [hw1]; exact World.grownBy_alloc _ _ _
    have gb1 : w1.heap[w.heap.size]? = some (.cells #[.iface T1 (.pointer (some ⟨b1,0,none⟩))] 77 (0,0)) := by rw [hw1]; exact heap_alloc_at _ _ _ rfl
    have hs1 : w.heap.size < w1.heap.size := lt_of_block gb1
    clear hw1 hbw
    have m1 := HH.out.1.grown g01
    have f1 := HH.out.2.1.gb (R := fun _ => False) (Gb.new g01) id
    have hHg : H w.heap.size = none := HH.out.1.cs.fz.none (Nat.le_refl _)
    have hgn : ¬ InAs ca w.heap.size := fun h => by have := InAs.lt HH.out.1.cs h; omega
    have CI1 := hid (IHH.out k1 _ σ g σ1 g1 c1 H ca d w1 HH.out.2.2.2.2.2.2 HH.out.2.2.2.2.2.1 m1 f1 HH.out.2.2.1 HH.out.2.2.2.1)
    have Q1 := hid (And.intro gb1 (And.intro hHg (And.intro hgn g01)))
    obtain ⟨z0,z1,_⟩ := grow1 (v := .nilIface) gb1
    clear m1 f1 gb1 g01 hHg hgn
    unfold CP at CI1
    go_wp2_with fail
    refine wp_loop_rounds 2 ?_
    rw [rounds_succ]
    go_wp2_with fail
    refine CI1.out.mono ?_
    rintro e w2 ⟨H1,ca1,x1,rfl,ex1,m2,mx1,f2,hb1,hba1,gw2⟩
    have gb2 : w2.heap[w.heap.size]? = _ := gw2.at Q1.out.1 (fun e => e.elim (fun e => by omega) (fun e => e.elim (fun e => by omega) Q1.out.2.2.1))
    have hH1 : H1 w.heap.size = none := by
      cases h9 : H1 w.heap.size with
      | none => rfl
      | some o =>
        rcases mx1.new _ o h9 with h | h
        · rw [Q1.out.2.1] at h; cases h
        · omega
    have hg1 : ¬ InAs ca1 w.heap.size := fun h => by
      rcases mx1.cnew _ h with h | h
      · exact Q1.out.2.2.1 h
      · omega
    have m3 := m2.setNew hg1 hH1 (by omega) 0 (CI x1)
    have hs2 := gw2.size
    have gs2 : Gb (fun k => k = w.heap.size) w2 (w2.setCell ⟨w.heap.size,0,none⟩ (CI x1)) := (Gb.refl (fun k => k = w.heap.size) w2).set (b := w.heap.size) (Or.inl rfl) 0 (CI x1)
    have f3 := f2.gb gs2 (by omega)
    have gw3 : Gb (fun k => k = tb ∨ k = mb ∨ InAs ca k) w (w2.setCell ⟨w.heap.size,0,none⟩ (CI x1)) := ((Gb.new Q1.out.2.2.2).tr gw2).set (b := w.heap.size) (Or.inr (Nat.le_refl _)) 0 (CI x1)
    obtain ⟨z0,z1,z2⟩ := grow1 (v := CI x1) gb2
    have zc := (grow1 (v := .nilIface) z2).1
    have E3 := hid (And.intro m3 (And.intro f3 (And.intro gw3 (And.intro mx1 (And.intro hb1 (And.intro hba1 ex1))))))
    have hs3 : (w2.setCell ⟨w.heap.size,0,none⟩ (CI x1)).heap.size = w2.heap.size := by simp [World.setCell]
    unfold CI CP at *
    clear m2 mx1 f2 hb1 hba1 gw2 gb2 hH1 hg1 m3 gs2 f3 gw3 CI1 Q1 ex1
    go_wp2_with fail
    generalize w2.setCell ⟨w.heap.size,0,none⟩ (.iface 173 (.pointer (some ⟨x1,0,none⟩))) = W3 at *
    rw [rounds_succ]
    have LI := hid (like_list b w.heap.size 1 173 x1 W3 zc)
    go_wp2_with fail
    refine LI.out.mono ?_
    rintro e w4 ⟨g4,p,rfl,hp,hb4⟩
    have hsw : w.heap.size ≤ W3.heap.size := E3.out.2.2.1.size
    have hpa : ¬ InAs ca1 p := fun h => by have := InAs.lt E3.out.1.cs h; omega
    have hHp : H1 p = none := E3.out.1.cs.fz.none hp
    have m9 := (E3.out.1.grown g4).more hb4 hHp hpa (by have := E3.out.1.bk.lt; omega)
    have mx9 : MX H (onto1 H1 p (.cells #[.iface 173 (.pointer (some ⟨x1,0,none⟩))] 281 (0,0))) ca ca1 w := MX.low ⟨fun i o e => onto1_ext hHp i o (E3.out.2.2.2.1.ext i o e),onto1_new (n := w1.heap.size) (fun i o e => E3.out.2.2.2.1.new i o e) (by omega),E3.out.2.2.2.1.pre,E3.out.2.2.2.1.cnew⟩ (by omega)
    have CO := hid (inst_end (nd := ⟨t.kind,[],0,[cT c1]⟩) m9 mx9 (Or.inr ⟨_,rfl,by rw [HH.out.2.2.2.2.1]; decide,by rw [HH.out.2.2.2.2.1]; decide,(fun k hk => by rw [List.mem_singleton.1 hk]; rfl),⟨p,Or.inr (Or.inr (Or.inr (Or.inl ⟨HH.out.2.2.2.2.1,Nat.zero_le _,cT c1,_,rfl,rfl,onto1_at,er_cell E3.out.2.2.2.2.2.2⟩)))⟩⟩) (E3.out.2.1.gb (R := fun _ => False) (Gb.new g4) id) (show onto1 H1 p (.cells #[.iface 173 (.pointer (some ⟨x1,0,none⟩))] 281 (0,0)) mb = none by unfold onto1; rw [if_neg (by have := E3.out.2.1.1.lt; omega)]; exact E3.out.2.2.2.2.1) E3.out.2.2.2.2.2.1 hne (E3.out.2.2.1.tr (Gb.new g4)) HRO.out)
    clear m9 mx9 g4 hb4 hHp hpa LI
    unfold CP at CO
    go_wp2_with fail
    refine CO.out.mono ?_
    rintro e w9 ho
    have HO := hid ho
    obtain ⟨_,_,x9,rfl,_⟩ := ho
    unfold CP at *
    clear CO
    go_wp2
    go_ret
    exact HO.out
  · cases hi9
end Go.Proofs.YtcdijppegfcoaabGreatDoor
