import Derived.Test.YtcdijppegfcoaaaGreatDoorZT06
import Derived.Maps.OwnSet
import Derived.Lib.ItoaNum
import Derived.Test.YtcdijppegfcoaaaGreatDoorZT02
import Derived.Laws.Runes
import Derived.Outline
/-
  OUR OWN TEXT. Maps of the program's, whatever their elements: as lists of keys and elements.
-/
namespace Go.Proofs.YtcdijppegfcoaaaGreatDoor
open Go.RowKit Go.Maps Go.WideMaps
def getL {α β : Type} [DecidableEq α] : List (α × β) → α → Option β
  | [], _ => none
  | p :: l, a => if p.1 = a then some p.2 else getL l a
def putL {α β : Type} [DecidableEq α] : List (α × β) → α → β → List (α × β)
  | [], a, b => [(a, b)]
  | p :: l, a, b => if p.1 = a then (a, b) :: l else p :: putL l a b
theorem getL_put {α β : Type} [DecidableEq α] (a : α) (b : β) (c : α) : ∀ (l : List (α × β)), getL (putL l a b) c = if a = c then some b else getL l c
  | [] => rfl
  | p :: l => by
    rw [putL]
    split
    · rename_i h
      rw [getL]
      simp only
      split
      · rfl
      · rename_i h2
        rw [getL, if_neg (by rw [h]; exact h2)]
    · rename_i h
      rw [getL, getL_put a b c l, getL]
      by_cases h1 : p.1 = c
      · rw [if_pos h1, if_neg (fun e => h (h1.trans e.symm)), if_pos h1]
      · rw [if_neg h1, if_neg h1]
theorem getL_none {α β : Type} [DecidableEq α] {a : α} : ∀ {l : List (α × β)}, getL l a = none ↔ a ∉ l.map (·.1)
  | [] => by simp [getL]
  | p :: l => by
    rw [getL]
    split
    · rename_i h; simp [h]
    · rename_i h; rw [getL_none]; simp [Ne.symm h]
theorem putL_new {α β : Type} [DecidableEq α] {a : α} (b : β) : ∀ {l : List (α × β)}, getL l a = none → putL l a b = l ++ [(a, b)]
  | [], _ => rfl
  | p :: l, h => by
    rw [getL] at h
    split at h
    · cases h
    · rename_i h1
      rw [putL, if_neg h1, putL_new b h]
      rfl
theorem putL_keys {α β : Type} [DecidableEq α] {a : α} (b : β) : ∀ {l : List (α × β)}, (getL l a).isSome = true → (putL l a b).map (·.1) = l.map (·.1)
  | [], h => by simp [getL] at h
  | p :: l, h => by
    rw [putL]
    split
    · rename_i h1; simp [h1]
    · rename_i h1
      rw [getL, if_neg h1] at h
      simp [putL_keys b h]
theorem putL_len {α β : Type} [DecidableEq α] (l : List (α × β)) (a : α) (b : β) : (putL l a b).length = l.length + if (getL l a).isSome = true then 0 else 1 := by
  cases e : getL l a with
  | none => rw [putL_new b e]; simp
  | some c =>
    have := congrArg List.length (putL_keys b (l := l) (a := a) (by rw [e]; rfl))
    simpa using this
theorem putL_nodup {α β : Type} [DecidableEq α] {l : List (α × β)} (h : (l.map (·.1)).Nodup) (a : α) (b : β) : ((putL l a b).map (·.1)).Nodup := by
  cases e : getL l a with
  | none =>
    rw [putL_new b e, List.map_append, List.nodup_append]
    refine ⟨h, by simp, fun x hx y hy => ?_⟩
    simp at hy
    rw [hy]
    intro e2
    rw [e2] at hx
    exact (getL_none.1 e) hx
  | some c => rw [putL_keys b (by rw [e]; rfl)]; exact h

def hR (v : Value) : Option (DataW Value × List MemPlace) := some (.held v, [])
/-- Block mb is a map that holds what the list does. -/
def GM {α β : Type} [DecidableEq α] (kl : α → Lit) (ev : β → Value) (k : TypeId) (w : World) (mb : Nat) (l : List (α × β)) : Prop :=
  ∃ D : DataW Value, w.ownsMap Tryz.prog k hR mb l.length D ∧ Maps.size D = l.length ∧ (l.map (·.1)).Nodup ∧ (∀ a, Maps.has D (kl a) = (getL l a).isSome) ∧ ∀ a b z, getL l a = some b → D.atKey (kl a) z = .held (ev b)
section
variable {α β : Type} [DecidableEq α] {kl : α → Lit} {ev : β → Value} {k : TypeId} {w : World} {mb : Nat} {l : List (α × β)}
theorem GM.new : GM kl ev k (w.alloc (.map #[] 0)) w.heap.size ([] : List (α × β)) :=
  ⟨.map [], World.ownsMap_made _ _ _ _, rfl, by simp, fun a => rfl, fun a b z h => by cases h⟩
theorem GM.isMap (h : GM kl ev k w mb l) : ∃ es clock, w.heap[mb]? = some (.map es clock) := by
  obtain ⟨D, ⟨es, clock, hb, _⟩, _⟩ := h
  exact ⟨es, clock, hb⟩
theorem GM.lt (h : GM kl ev k w mb l) : mb < w.heap.size := by
  obtain ⟨D, h1, _⟩ := h
  exact h1.lt
theorem GM.same {w' : World} (h : GM kl ev k w mb l) (hb : w'.heap[mb]? = w.heap[mb]?) : GM kl ev k w' mb l := by
  obtain ⟨D, ⟨es, clock, h1, h2⟩, h3⟩ := h
  exact ⟨D, ⟨es, clock, hb.trans h1, h2⟩, h3⟩
theorem GM.gb {R : Nat → Prop} {w' : World} (h : GM kl ev k w mb l) (g : Gb R w w') (hn : ¬ R mb) : GM kl ev k w' mb l := h.same (g.block mb h.lt hn)
theorem GM.apart {b : Nat} {cs : Array Value} {t : TypeId} {f : Nat × Nat} (h : GM kl ev k w mb l) (hb : w.heap[b]? = some (.cells cs t f)) : b ≠ mb := fun e => by
  obtain ⟨es, cl, h1⟩ := h.isMap
  rw [e, h1] at hb
  cases hb
theorem GM.len {t e : TypeId} (h : GM kl ev k w mb l) (ht : Tryz.prog.underlying t = some (.map k e)) (ty : TypeId) : (Builtin.len_ #[t] ty #[.map (some mb)]).run Tryz.prog w = .ok (.int .i64 (l.length : Int)) w := by
  obtain ⟨D, h1, h2, _⟩ := h
  rw [h1.len ht ty, h2]
theorem GM.look {t e : TypeId} (h : GM kl ev k w mb l) (K : Keyed Tryz.prog k) (ht : Tryz.prog.underlying t = some (.map k e)) {z : Value} (hz : (zeroValue e).run Tryz.prog w = .ok z w) {key : Value} {a : α} (hkey : keyOf Tryz.prog k key = some (kl a)) :
    (Instr.lookup t (.map (some mb)) key true).run Tryz.prog w = .ok (.tuple #[((getL l a).map ev).getD z, .bool (getL l a).isSome]) w := by
  obtain ⟨D, h1, h2, h3, h4, h5⟩ := h
  obtain ⟨u, ps, hr, hu⟩ := h1.look_ok K ht hz (show hR z = some (.held z, []) from rfl) hkey
  rw [hr, h4 a]
  cases e1 : getL l a with
  | none =>
    have hf : Maps.has D (kl a) = false := by rw [h4 a, e1]; rfl
    rw [atKey_of_not_has hf] at hu
    simp [hR] at hu
    rw [hu.1]
    rfl
  | some b =>
    rw [h5 a b _ e1] at hu
    simp [hR] at hu
    rw [hu.1]
    rfl
theorem GM.look1 {t e : TypeId} (h : GM kl ev k w mb l) (K : Keyed Tryz.prog k) (ht : Tryz.prog.underlying t = some (.map k e)) {z : Value} (hz : (zeroValue e).run Tryz.prog w = .ok z w) {key : Value} {a : α} (hkey : keyOf Tryz.prog k key = some (kl a)) :
    (Instr.lookup t (.map (some mb)) key false).run Tryz.prog w = .ok (((getL l a).map ev).getD z) w := by
  obtain ⟨D, h1, h2, h3, h4, h5⟩ := h
  obtain ⟨u, ps, hr, hu⟩ := h1.lookup K ht hz (show hR z = some (.held z, []) from rfl) hkey
  rw [hr]
  cases e1 : getL l a with
  | none =>
    have hf : Maps.has D (kl a) = false := by rw [h4 a, e1]; rfl
    rw [atKey_of_not_has hf] at hu
    simp [hR] at hu
    rw [hu.1]
    rfl
  | some b =>
    rw [h5 a b _ e1] at hu
    simp [hR] at hu
    rw [hu.1]
    rfl
theorem GM.store {t e : TypeId} (h : GM kl ev k w mb l) (K : Keyed Tryz.prog k) (ht : Tryz.prog.underlying t = some (.map k e)) (hinj : ∀ x y, kl x = kl y → x = y) (hlit : ∀ x, WideAt.IsKeyLit (kl x)) (hl : l.length ≤ 1099511627776) {key : Value} {a : α} (b : β) (hkey : keyOf Tryz.prog k key = some (kl a)) :
    ∃ w', (Instr.mapUpdate t (.map (some mb)) key (ev b)).run Tryz.prog w = .ok () w' ∧ GM kl ev k w' mb (putL l a b) ∧ w.grownBy w' (some mb) := by
  obtain ⟨D, h1, h2, h3, h4, h5⟩ := h
  have td := h1.tidy K
  obtain ⟨w', r1, r2, r3⟩ := h1.update K ht (by unfold maxLen; omega) hkey (show hR (ev b) = some (.held (ev b), []) from rfl)
  have hsz : Maps.size (D.put (kl a) (.held (ev b))) = (putL l a b).length := by
    rw [size_put td, h4 a, h2, putL_len]
    cases (getL l a).isSome <;> simp
  refine ⟨w', r1, ⟨_, ?_, hsz, putL_nodup h3 a b, fun c => ?_, fun c x z hc => ?_⟩, r3⟩
  · obtain ⟨es, clock, q1, q2, q3, q4⟩ := r2
    refine ⟨es, clock, q1, q2, ?_, q4⟩
    rw [← hsz, q4]
    simp [Maps.size, length_sorted]
  · rw [getL_put]
    by_cases e : a = c
    · rw [if_pos e, ← e, has_put_same td.isMap (hlit a)]
      rfl
    · rw [if_neg e, has_put_other (fun e2 => e (hinj _ _ e2.symm)), h4 c]
  · rw [getL_put] at hc
    by_cases e : a = c
    · rw [if_pos e] at hc
      cases hc
      rw [← e]
      exact atKey_put_same td.isMap (hlit a) _ _
    · rw [if_neg e] at hc
      rw [atKey_put_other (fun e2 => e (hinj _ _ e2.symm))]
      exact h5 c x z hc
end
/-- Numbers of cells, from 1 on, as keys. -/
def kI (n : Nat) : Lit := .int .i64 ((n : Int) + 1)
theorem kI_inj (x y : Nat) (h : kI x = kI y) : x = y := by
  unfold kI at h
  injection h with _ h2
  omega
theorem kI_lit (x : Nat) : WideAt.IsKeyLit (kI x) := trivial
theorem intLaw : Keyed Tryz.prog 3 := int_keyed Tryz.underlying3
theorem kI_key {n : Nat} (hn : n ≤ 1099511627776) : keyOf Tryz.prog 3 (.int .i64 ((n : Int) + 1)) = some (kI n) :=
  keyOf_int_mk Tryz.underlying3 (WalkArith.wf_i64 (n := (n : Int) + 1) (by omega))
def kS (s : List UInt8) : Lit := .string s
theorem kS_inj (x y : List UInt8) (h : kS x = kS y) : x = y := by
  unfold kS at h
  injection h
theorem kS_lit (x : List UInt8) : WideAt.IsKeyLit (kS x) := trivial
theorem strLaw : Keyed Tryz.prog 9 := string_keyed Tryz.underlying9
theorem kS_key {k : List UInt8} (hk : k.length ≤ 300) : keyOf Tryz.prog 9 (.string (B k)) = some (kS k) := by
  have := keyOf_string_mk (P := Tryz.prog) (k := 9) Tryz.underlying9 (s := B k) (by rw [size_B]; unfold maxLen; omega)
  rw [this]
  rfl
end Go.Proofs.YtcdijppegfcoaaaGreatDoor

/-
  OUR OWN TEXT. The program's typing on plain data: cells by number, schemes, rounds, what is told. None: the fuel of this text ends, or numbers grow beyond what is asked here.
-/
namespace Go.Proofs.YtcdijppegfcoaaaGreatDoor
open Go.RowKit
def Sto.new (σ : Sto) (o : Option Et) : Sto := ⟨σ.rep ++ [σ.rep.length], σ.con ++ [o]⟩
def Sto.link (σ : Sto) (one other : Nat) : Sto := ⟨σ.rep.map fun r => if r = one then other else r, σ.con⟩
def Sto.put (σ : Sto) (c : Nat) (o : Option Et) : Sto := ⟨σ.rep, σ.con.set c o⟩

/-- join: none: no fuel; some none: there is no way. -/
def joinAllS (J : Nat → Nat → Sto → Option (Option Sto)) : List Et → List Et → Sto → Option (Option Sto)
  | a :: ca, b :: bs, σ => match J a.num b.num σ with
    | some (some σ') => joinAllS J ca bs σ'
    | r => r
  | [], [], σ => some (some σ)
  | _, _, _ => none
def joinS : Nat → Nat → Nat → Sto → Option (Option Sto)
  | 0, _, _, _ => none
  | f + 1, a, b, σ =>
    if σ.root a = σ.root b then some (some σ)
    else match σ.is a with
      | none => some (some (σ.link (σ.root a) (σ.root b)))
      | some was => match σ.is b with
        | none => some (some ((σ.link (σ.root a) (σ.root b)).put (σ.root b) (some was)))
        | some nd => if was.kind = nd.kind then joinAllS (joinS f) was.kids nd.kids (σ.link (σ.root a) (σ.root b)) else some none

/-- loops: none: no fuel; some none: it loops. far: 1: on the way; 2: done. -/
def loopsAllS (L : Nat → List (Nat × Nat) → Option (Option (List (Nat × Nat)))) : List Et → List (Nat × Nat) → Option (Option (List (Nat × Nat)))
  | [], far => some (some far)
  | c :: cs, far => match L c.num far with
    | some (some far) => loopsAllS L cs far
    | r => r
def loopsS (σ : Sto) : Nat → Nat → List (Nat × Nat) → Option (Option (List (Nat × Nat)))
  | 0, _, _ => none
  | f + 1, c, far => match getL far (σ.root c) with
    | some 1 => some none
    | some 2 => some (some far)
    | some _ => none
    | none => match loopsAllS (loopsS σ f) (kidsS σ (cT c)) (far ++ [(σ.root c, 1)]) with
      | some (some far) => some (some (putL far (σ.root c) 2))
      | r => r
def equalS (a b : Nat) (σ : Sto) : Option (Option Sto) := match joinS (σ.rep.length + 1) a b σ with
  | some (some σ') => match loopsS σ' (σ.rep.length + 1) a [] with
    | some (some _) => some (some σ')
    | some none => some none
    | none => none
  | r => r

def mapS {α β : Type} (F : α → Option β) : List α → Option (List β)
  | [] => some []
  | a :: ca => match F a with
    | none => none
    | some b => match mapS F ca with
      | none => none
      | some bs => some (b :: bs)
def vT (n : List UInt8) : Et := ⟨[], n, 0, []⟩
/-- A fresh instance; g: the cells of variables met. -/
def instAllS (I : Et → Sto → List (List UInt8 × Nat) → Option (Sto × List (List UInt8 × Nat) × Nat)) : List Et → Sto → List (List UInt8 × Nat) → Option (Sto × List (List UInt8 × Nat) × List Et)
  | [], σ, g => some (σ, g, [])
  | t :: ts, σ, g => match I t σ g with
    | none => none
    | some (σ1, g1, c) => match instAllS I ts σ1 g1 with
      | none => none
      | some (σ2, g2, cs) => some (σ2, g2, cT c :: cs)
def roomy (σ : Sto) : Bool := decide (σ.rep.length < 1099511627776)
def instS : Nat → Et → Sto → List (List UInt8 × Nat) → Option (Sto × List (List UInt8 × Nat) × Nat)
  | 0, _, _, _ => none
  | f + 1, t, σ, g =>
    if t.kind = oCell then some (σ, g, t.num)
    else if t.kind = [] then match getL g t.name with
      | some c => some (σ, g, c)
      | none => if roomy σ = true ∧ g.length < 1000 then some (σ.new none, g ++ [(t.name, σ.rep.length)], σ.rep.length) else none
    else match instAllS (instS f) t.kids σ g with
      | none => none
      | some (σ1, g1, cs) => if roomy σ1 = true then some (σ1.new (some ⟨t.kind, [], 0, cs⟩), g1, σ1.rep.length) else none

def roomAllS (R : Et → Int → Option Int) : List Et → Int → Option Int
  | [], l => some l
  | t :: ts, l => if l < 0 then some l else match R t l with
    | none => none
    | some l => roomAllS R ts l
def roomS (σ : Sto) : Nat → Et → Int → Option Int
  | 0, _, _ => none
  | f + 1, t, left => roomAllS (roomS σ f) (kidsS σ t) (left - 1)

/-- same: none: no fuel; some none: they are not. -/
def ordS {α : Type} [DecidableEq α] (L : List α) (v : α) : List α := if v ∈ L then L else L ++ [v]
/-- How a text is written: the steps, what they write, where cells' texts stand, the names met, the cells met. -/
structure Ds where
  steps : List (List UInt8 × Nat × Nat)
  out : List UInt8
  stands : List (Nat × Nat × Nat)
  L : List (List UInt8)
  O : List Nat
def putS (x : List UInt8) (f t : Nat) (s : Ds) : Option Ds :=
  if f ≤ t ∧ t ≤ s.out.length + x.length ∧ s.out.length + x.length + (t - f) ≤ 100000 ∧ s.steps.length < 100000 then
    some ⟨s.steps ++ [(x, f, t)], s.out ++ x ++ ((s.out ++ x).drop f).take (t - f), s.stands, s.L, s.O⟩
  else none
/-- md: 0: variables are called by their own names; 2: cells have names, too. -/
def anyS (md : Nat) (n : List UInt8) (s : Ds) : Option Ds :=
  if md = 0 then putS n 0 0 s
  else if s.L.length ≤ 200 then putS (letterS ((ordS s.L n).idxOf n)) 0 0 ⟨s.steps, s.out, s.stands, ordS s.L n, s.O⟩
  else none
def ownS (md : Nat) (c : Nat) (s : Ds) : Option Ds :=
  if md = 2 ∧ s.O.length ≤ 200 then putS ([95] ++ letterS ((ordS s.O c).idxOf c)) 0 0 ⟨s.steps, s.out, s.stands, s.L, ordS s.O c⟩ else none
def wordS (x : List UInt8) (s : Option Ds) : Option Ds := match s with
  | none => none
  | some s => putS x 0 0 s
def goOn (A : Et → Ds → Option Ds) (t : Et) (s : Option Ds) : Option Ds := match s with
  | none => none
  | some s => A t s
def fromS (A : Et → Ds → Option Ds) (σ : Sto) (t : Et) (s : Option Ds) : Option Ds :=
  if (nowS σ t).kind = kFun then wordS [41] (goOn A t (wordS [40] s)) else goOn A t s
def firstS (A : Et → Ds → Option Ds) (σ : Sto) (md : Nat) (t : Et) (s : Ds) : Option Ds :=
  if (nowS σ t).kind = [] then anyS md (nowS σ t).name s
  else if (nowS σ t).kind = oCell then ownS md (nowS σ t).num s
  else match (nowS σ t).kids with
    | [] => putS (nowS σ t).kind 0 0 s
    | [a] => wordS [93] (goOn A a (wordS [91] (some s)))
    | [a, b] => if (nowS σ t).kind = kFun then goOn A b (wordS [32, 45, 62, 32] (fromS A σ a (some s))) else wordS [41] (goOn A b (wordS [44, 32] (goOn A a (wordS [40] (some s)))))
    | _ => none
def standS (r n : Nat) (s : Option Ds) : Option Ds := match s with
  | none => none
  | some s => match getL s.stands r with
    | some _ => none
    | none => if s.stands.length < 100000 then some ⟨s.steps, s.out, s.stands ++ [(r, n, s.out.length)], s.L, s.O⟩ else none
def draftS (σ : Sto) (md : Nat) : Nat → Et → Ds → Option Ds
  | 0, _, _ => none
  | f + 1, t, s =>
    if t.kind = oCell then match getL s.stands (σ.root t.num) with
      | some (a, b) => putS [] a b s
      | none => standS (σ.root t.num) s.out.length (firstS (draftS σ md f) σ md t s)
    else firstS (draftS σ md f) σ md t s
def ds0 (O : List Nat) : Ds := ⟨[], [], [], [], O⟩
end Go.Proofs.YtcdijppegfcoaaaGreatDoor

/-
  OUR OWN TEXT (written by mkengc.py). The program's cells: last, now.
-/
namespace Go.Proofs.YtcdijppegfcoaaaGreatDoor
open Go.RowKit
theorem e_Cell_Cell (b : Nat) (w : World) : (Instr.typeAssert (.iface 265 (.pointer (some ⟨b, 0, none⟩))) 156 265 true).run Tryz.prog w = .ok (.tuple #[.pointer (some ⟨b, 0, none⟩), .bool true]) w := by kernel_rfl
theorem e_Cell_Var (b : Nat) (w : World) : (Instr.typeAssert (.iface 265 (.pointer (some ⟨b, 0, none⟩))) 156 309 true).run Tryz.prog w = .ok (.tuple #[.pointer none, .bool false]) w := by kernel_rfl
theorem e_Cell_Basic (b : Nat) (w : World) : (Instr.typeAssert (.iface 265 (.pointer (some ⟨b, 0, none⟩))) 156 346 true).run Tryz.prog w = .ok (.tuple #[.pointer none, .bool false]) w := by kernel_rfl
theorem e_Cell_Arrow (b : Nat) (w : World) : (Instr.typeAssert (.iface 265 (.pointer (some ⟨b, 0, none⟩))) 156 291 true).run Tryz.prog w = .ok (.tuple #[.pointer none, .bool false]) w := by kernel_rfl
theorem e_Var_Cell (b : Nat) (w : World) : (Instr.typeAssert (.iface 309 (.pointer (some ⟨b, 0, none⟩))) 156 265 true).run Tryz.prog w = .ok (.tuple #[.pointer none, .bool false]) w := by kernel_rfl
theorem e_Var_Var (b : Nat) (w : World) : (Instr.typeAssert (.iface 309 (.pointer (some ⟨b, 0, none⟩))) 156 309 true).run Tryz.prog w = .ok (.tuple #[.pointer (some ⟨b, 0, none⟩), .bool true]) w := by kernel_rfl
theorem e_Var_Basic (b : Nat) (w : World) : (Instr.typeAssert (.iface 309 (.pointer (some ⟨b, 0, none⟩))) 156 346 true).run Tryz.prog w = .ok (.tuple #[.pointer none, .bool false]) w := by kernel_rfl
theorem e_Var_Arrow (b : Nat) (w : World) : (Instr.typeAssert (.iface 309 (.pointer (some ⟨b, 0, none⟩))) 156 291 true).run Tryz.prog w = .ok (.tuple #[.pointer none, .bool false]) w := by kernel_rfl
theorem e_Basic_Cell (b : Nat) (w : World) : (Instr.typeAssert (.iface 346 (.pointer (some ⟨b, 0, none⟩))) 156 265 true).run Tryz.prog w = .ok (.tuple #[.pointer none, .bool false]) w := by kernel_rfl
theorem e_Basic_Basic (b : Nat) (w : World) : (Instr.typeAssert (.iface 346 (.pointer (some ⟨b, 0, none⟩))) 156 346 true).run Tryz.prog w = .ok (.tuple #[.pointer (some ⟨b, 0, none⟩), .bool true]) w := by kernel_rfl
theorem e_Basic_List (b : Nat) (w : World) : (Instr.typeAssert (.iface 346 (.pointer (some ⟨b, 0, none⟩))) 156 349 true).run Tryz.prog w = .ok (.tuple #[.pointer none, .bool false]) w := by kernel_rfl
theorem e_Basic_Pair (b : Nat) (w : World) : (Instr.typeAssert (.iface 346 (.pointer (some ⟨b, 0, none⟩))) 156 361 true).run Tryz.prog w = .ok (.tuple #[.pointer none, .bool false]) w := by kernel_rfl
theorem e_Basic_Arrow (b : Nat) (w : World) : (Instr.typeAssert (.iface 346 (.pointer (some ⟨b, 0, none⟩))) 156 291 true).run Tryz.prog w = .ok (.tuple #[.pointer none, .bool false]) w := by kernel_rfl
theorem e_List_Cell (b : Nat) (w : World) : (Instr.typeAssert (.iface 349 (.pointer (some ⟨b, 0, none⟩))) 156 265 true).run Tryz.prog w = .ok (.tuple #[.pointer none, .bool false]) w := by kernel_rfl
theorem e_List_Var (b : Nat) (w : World) : (Instr.typeAssert (.iface 349 (.pointer (some ⟨b, 0, none⟩))) 156 309 true).run Tryz.prog w = .ok (.tuple #[.pointer none, .bool false]) w := by kernel_rfl
theorem e_List_Basic (b : Nat) (w : World) : (Instr.typeAssert (.iface 349 (.pointer (some ⟨b, 0, none⟩))) 156 346 true).run Tryz.prog w = .ok (.tuple #[.pointer none, .bool false]) w := by kernel_rfl
theorem e_List_List (b : Nat) (w : World) : (Instr.typeAssert (.iface 349 (.pointer (some ⟨b, 0, none⟩))) 156 349 true).run Tryz.prog w = .ok (.tuple #[.pointer (some ⟨b, 0, none⟩), .bool true]) w := by kernel_rfl
theorem e_List_Pair (b : Nat) (w : World) : (Instr.typeAssert (.iface 349 (.pointer (some ⟨b, 0, none⟩))) 156 361 true).run Tryz.prog w = .ok (.tuple #[.pointer none, .bool false]) w := by kernel_rfl
theorem e_List_Arrow (b : Nat) (w : World) : (Instr.typeAssert (.iface 349 (.pointer (some ⟨b, 0, none⟩))) 156 291 true).run Tryz.prog w = .ok (.tuple #[.pointer none, .bool false]) w := by kernel_rfl
theorem e_Pair_Cell (b : Nat) (w : World) : (Instr.typeAssert (.iface 361 (.pointer (some ⟨b, 0, none⟩))) 156 265 true).run Tryz.prog w = .ok (.tuple #[.pointer none, .bool false]) w := by kernel_rfl
theorem e_Pair_Var (b : Nat) (w : World) : (Instr.typeAssert (.iface 361 (.pointer (some ⟨b, 0, none⟩))) 156 309 true).run Tryz.prog w = .ok (.tuple #[.pointer none, .bool false]) w := by kernel_rfl
theorem e_Pair_Basic (b : Nat) (w : World) : (Instr.typeAssert (.iface 361 (.pointer (some ⟨b, 0, none⟩))) 156 346 true).run Tryz.prog w = .ok (.tuple #[.pointer none, .bool false]) w := by kernel_rfl
theorem e_Pair_List (b : Nat) (w : World) : (Instr.typeAssert (.iface 361 (.pointer (some ⟨b, 0, none⟩))) 156 349 true).run Tryz.prog w = .ok (.tuple #[.pointer none, .bool false]) w := by kernel_rfl
theorem e_Pair_Pair (b : Nat) (w : World) : (Instr.typeAssert (.iface 361 (.pointer (some ⟨b, 0, none⟩))) 156 361 true).run Tryz.prog w = .ok (.tuple #[.pointer (some ⟨b, 0, none⟩), .bool true]) w := by kernel_rfl
theorem e_Pair_Arrow (b : Nat) (w : World) : (Instr.typeAssert (.iface 361 (.pointer (some ⟨b, 0, none⟩))) 156 291 true).run Tryz.prog w = .ok (.tuple #[.pointer none, .bool false]) w := by kernel_rfl
theorem e_Arrow_Cell (b : Nat) (w : World) : (Instr.typeAssert (.iface 291 (.pointer (some ⟨b, 0, none⟩))) 156 265 true).run Tryz.prog w = .ok (.tuple #[.pointer none, .bool false]) w := by kernel_rfl
theorem e_Arrow_Var (b : Nat) (w : World) : (Instr.typeAssert (.iface 291 (.pointer (some ⟨b, 0, none⟩))) 156 309 true).run Tryz.prog w = .ok (.tuple #[.pointer none, .bool false]) w := by kernel_rfl
theorem e_Arrow_Basic (b : Nat) (w : World) : (Instr.typeAssert (.iface 291 (.pointer (some ⟨b, 0, none⟩))) 156 346 true).run Tryz.prog w = .ok (.tuple #[.pointer none, .bool false]) w := by kernel_rfl
theorem e_Arrow_List (b : Nat) (w : World) : (Instr.typeAssert (.iface 291 (.pointer (some ⟨b, 0, none⟩))) 156 349 true).run Tryz.prog w = .ok (.tuple #[.pointer none, .bool false]) w := by kernel_rfl
theorem e_Arrow_Pair (b : Nat) (w : World) : (Instr.typeAssert (.iface 291 (.pointer (some ⟨b, 0, none⟩))) 156 361 true).run Tryz.prog w = .ok (.tuple #[.pointer none, .bool false]) w := by kernel_rfl
theorem e_Arrow_Arrow (b : Nat) (w : World) : (Instr.typeAssert (.iface 291 (.pointer (some ⟨b, 0, none⟩))) 156 291 true).run Tryz.prog w = .ok (.tuple #[.pointer (some ⟨b, 0, none⟩), .bool true]) w := by kernel_rfl
theorem e_nil_Cell (w : World) : (Instr.typeAssert .nilIface 156 265 true).run Tryz.prog w = .ok (.tuple #[.pointer none, .bool false]) w := by kernel_rfl
def CP (b : Nat) : Value := .pointer (some ⟨b, 0, none⟩)
def CI (b : Nat) : Value := .iface 265 (.pointer (some ⟨b, 0, none⟩))
def InAs (ca : List Nat) (k : Nat) : Prop := k ∈ ca
theorem cell_at {w : World} {a i : Nat} {v : Value} (h : w.heap[a]? = some (cellB i v)) : w.cell? ⟨a, 0, none⟩ = some (.int .i64 ((i : Int) + 1)) ∧ w.cell? ⟨a, 1, none⟩ = some v ∧ w.frozen? ⟨a, 0, none⟩ = false ∧ w.frozen? ⟨a, 1, none⟩ = false := by
  simp [World.cell?, World.frozen?, h, cellB]

set_option maxRecDepth 100000 in
theorem last_nil (a i : Nat) (w : World) (h : w.heap[a]? = some (cellB i .nilIface)) : Calls Tryz.prog 185 #[CP a] w fun e w' => e = .returned (CP a) ∧ w' = w := by
  obtain ⟨c0, c1, _, _⟩ := cell_at h
  have ht := e_nil_Cell w
  clear h
  unfold CP
  go_enter Tryz.func185, Tryz.ntmps185
  go_wp2
  go_ret
  exact ⟨rfl, rfl⟩
set_option maxRecDepth 100000 in
theorem last_node (a i b : Nat) (t : TypeId) (w : World) (h : w.heap[a]? = some (cellB i (.iface t (.pointer (some ⟨b, 0, none⟩))))) (ht : (Instr.typeAssert (.iface t (.pointer (some ⟨b, 0, none⟩))) 156 265 true).run Tryz.prog w = .ok (.tuple #[.pointer none, .bool false]) w) :
    Calls Tryz.prog 185 #[CP a] w fun e w' => e = .returned (CP a) ∧ w' = w := by
  obtain ⟨c0, c1, _, _⟩ := cell_at h
  clear h
  unfold CP
  go_enter Tryz.func185, Tryz.ntmps185
  go_wp2
  go_ret
  exact ⟨rfl, rfl⟩
theorem last_root {H : Nat → Option Obj} {ca : List Nat} {o : Option Et} {a i : Nat} {v : Value} {w : World} (h : w.heap[a]? = some (cellB i v)) (ho : ORep H ca o v) : Calls Tryz.prog 185 #[CP a] w fun e w' => e = .returned (CP a) ∧ w' = w := by
  rcases ho with ⟨_, rfl⟩ | ⟨nd, _, h1, h2, _, b, h3⟩
  · exact last_nil a i w h
  · rcases h3 with ⟨q1, _⟩ | ⟨q1, _⟩ | ⟨_, _, rfl, _⟩ | ⟨_, _, _, _, _, rfl, _⟩ | ⟨_, _, _, _, _, _, _, rfl, _⟩ | ⟨_, _, _, _, _, _, _, rfl, _⟩
    · exact absurd q1 h2
    · exact absurd q1 h1
    · exact last_node a i b _ w h (e_Basic_Cell b w)
    · exact last_node a i b _ w h (e_List_Cell b w)
    · exact last_node a i b _ w h (e_Pair_Cell b w)
    · exact last_node a i b _ w h (e_Arrow_Cell b w)

/-- Those that are none but themselves are as they were. -/
def RTS (ca : List Nat) (σ : Sto) (w w' : World) : Prop := ∀ (j x : Nat), σ.rep[j]? = some j → ca[j]? = some x → w'.heap[x]? = w.heap[x]?
theorem RTS.refl (ca : List Nat) (σ : Sto) (w : World) : RTS ca σ w w := fun _ _ _ _ => rfl
/-- What last leaves. -/
def LST (H : Nat → Option Obj) (ca : List Nat) (σ : Sto) (d : Nat → Nat) (i : Nat) (w : World) (e : Ending) (w' : World) : Prop := ∃ b, e = .returned (CP b) ∧ ca[σ.root i]? = some b ∧ CSd H ca σ d w' ∧ Gb (InAs ca) w w' ∧ RTS ca σ w w'
set_option maxRecDepth 100000 in
theorem last_step {H : Nat → Option Obj} {ca : List Nat} {σ : Sto} {d : Nat → Nat} {i j a b : Nat} {w : World} (hc : CSd H ca σ d w) (ei : ca[i]? = some a) (hne : σ.root i ≠ i) (hrj : σ.root j = σ.root i) (hb : w.heap[a]? = some (cellB i (CI b)))
    (hl : Calls Tryz.prog 185 #[CP b] w (LST H ca σ d j w)) : Calls Tryz.prog 185 #[CP a] w (LST H ca σ d i w) := by
  obtain ⟨c0, c1, _, _⟩ := cell_at hb
  have ht := e_Cell_Cell b w
  have HL := hid hl
  have Q := hid (And.intro hc (And.intro ei (And.intro hne hrj)))
  unfold CI at c1
  unfold CP at *
  clear hl hc ei hne hrj hb
  go_enter Tryz.func185, Tryz.ntmps185
  go_wp2_with fail
  refine HL.out.mono ?_
  rintro e w1 ⟨b1, rfl, h1, h2, h3, h4⟩
  obtain ⟨hc, ei, hne, hrj⟩ := Q.out
  obtain ⟨v1, hv1, _⟩ := h2.blk i a ei
  obtain ⟨_, x1, _, f1⟩ := cell_at hv1
  have Q1 := hid (And.intro h1 (And.intro h2 (And.intro h3 h4)))
  clear h1 h2 h3 h4 hv1 hc ei hne hrj c0 c1
  unfold CP
  go_wp2
  go_ret
  obtain ⟨h1, h2, h3, h4⟩ := Q1.out
  obtain ⟨hc, ei, hne, hrj⟩ := Q.out
  rw [hrj] at h1
  obtain ⟨_, er, _⟩ := h2.root_get ei
  exact ⟨b1, rfl, h1, h2.short ei er hne h1, h3.set (Or.inl (List.mem_of_getElem? ei)) 1 _, fun j x ej ex => by
    rw [Below.heap_setCell _ _ _ _ (fun e' => ?_)]
    · exact h4 j x ej ex
    · have e2 : x = a := e'
      rw [e2] at ex
      have e3 : j = i := (List.getElem?_inj (List.getElem?_eq_some_iff.1 ex).1 h2.nd).1 (ex.trans ei.symm)
      rw [e3, er] at ej
      exact hne (Option.some.inj ej)⟩
theorem last_any {H : Nat → Option Obj} {ca : List Nat} {σ : Sto} {d : Nat → Nat} : ∀ (n i a : Nat) (w : World), d i < n → ca[i]? = some a → CSd H ca σ d w → Calls Tryz.prog 185 #[CP a] w (LST H ca σ d i w)
  | 0, _, _, _, h, _, _ => by omega
  | n + 1, i, a, w, h, ei, hc => by
    obtain ⟨v, hv, hcv⟩ := hc.blk i a ei
    obtain ⟨_, er, _⟩ := hc.root_get ei
    rcases hcv with ⟨q1, q2⟩ | ⟨j, c, b, q1, q2, q3, q4, rfl, q6⟩
    · rw [er] at q1
      refine (last_root hv q2).mono ?_
      rintro e w' ⟨rfl, rfl⟩
      exact ⟨a, rfl, by rw [Option.some.inj q1]; exact ei, hc, Gb.refl _ _, RTS.refl _ _ _⟩
    · rw [er] at q1
      have e1 := Option.some.inj q1
      obtain ⟨_, erj, _⟩ := hc.root_get q4
      rw [q3] at erj
      have e2 := Option.some.inj erj
      refine last_step hc ei (by rw [e1]; exact q2) (by rw [← e2, e1]) hv ?_
      rcases q6 with rfl | q6
      · obtain ⟨v2, hv2, hcv2⟩ := hc.blk j b q4
        rcases hcv2 with ⟨_, p2⟩ | ⟨_, c', _, p1, p2, _⟩
        · refine (last_root hv2 p2).mono ?_
          rintro e w' ⟨rfl, rfl⟩
          exact ⟨b, rfl, by rw [← e2]; exact q4, hc, Gb.refl _ _, RTS.refl _ _ _⟩
        · rw [q3] at p1
          exact absurd (Option.some.inj p1).symm p2
      · exact last_any n j b w (by omega) q4 hc

theorem CSd.root_val {H : Nat → Option Obj} {ca : List Nat} {σ : Sto} {d : Nat → Nat} {w : World} (h : CSd H ca σ d w) {i b : Nat} (hi : i < ca.length) (eb : ca[σ.root i]? = some b) : ∃ v, w.heap[b]? = some (cellB (σ.root i) v) ∧ ORep H ca (σ.is i) v := by
  obtain ⟨v, hv, hcv⟩ := h.blk _ b eb
  refine ⟨v, hv, ?_⟩
  obtain ⟨_, er, _⟩ := h.root_get (List.getElem?_eq_getElem hi)
  have er2 := h.rr _ _ er
  rcases hcv with ⟨_, p2⟩ | ⟨_, c', _, p1, p2, _⟩
  · exact p2
  · rw [er2] at p1
    exact absurd (Option.some.inj p1).symm p2

theorem nowS_cell (σ : Sto) (i : Nat) : nowS σ (cT i) = (match σ.is i with | none => cT (σ.root i) | some nd => nd) := by
  unfold nowS
  rw [if_pos (show (cT i).kind = oCell from rfl)]
  rfl
/-- What now leaves. -/
def NOW (H : Nat → Option Obj) (ca : List Nat) (σ : Sto) (d : Nat → Nat) (v : Value) (w : World) (e : Ending) (w' : World) : Prop := e = .returned v ∧ CSd H ca σ d w' ∧ Gb (InAs ca) w w'
theorem now_other {t : TypeId} (b : Nat) (w : World) (ht : (Instr.typeAssert (.iface t (.pointer (some ⟨b, 0, none⟩))) 156 265 true).run Tryz.prog w = .ok (.tuple #[.pointer none, .bool false]) w) :
    Calls Tryz.prog 223 #[.iface t (.pointer (some ⟨b, 0, none⟩))] w fun e w' => e = .returned (.iface t (.pointer (some ⟨b, 0, none⟩))) ∧ w' = w := by
  go_enter Tryz.func223, Tryz.ntmps223
  go_wp2
  go_ret
  exact ⟨rfl, rfl⟩
set_option maxRecDepth 100000 in
theorem now_cell {H : Nat → Option Obj} {ca : List Nat} {σ : Sto} {d : Nat → Nat} (i a : Nat) (w : World) (ei : ca[i]? = some a) (hc : CSd H ca σ d w) : ∃ v, ERep 0 H ca 2 v (nowS σ (cT i)) ∧ Calls Tryz.prog 223 #[CI a] w (NOW H ca σ d v w) := by
  obtain ⟨b0, er0, eb0⟩ := hc.root_get ei
  have hil := (List.getElem?_eq_some_iff.1 ei).1
  obtain ⟨v0, hv0, ho⟩ := hc.root_val hil eb0
  have HL := hid (last_any (d i + 1) i a w (by omega) ei hc)
  have ht := e_Cell_Cell a w
  have E0 := hid (And.intro eb0 (And.intro hv0 (hc.rr _ _ er0)))
  unfold CI
  unfold CP at HL
  rcases ho with ⟨he, rfl⟩ | ⟨nd, he, k1, k2, k3, k4⟩
  · refine ⟨CI b0, ⟨b0, Or.inl ?_⟩, ?_⟩
    · rw [nowS_cell, he]
      exact ⟨rfl, rfl, eb0, rfl⟩
    clear ei hc er0 eb0 hv0 hil he
    unfold CI
    go_enter Tryz.func223, Tryz.ntmps223
    go_wp2_with fail
    refine HL.out.mono ?_
    rintro e w1 ⟨b1, rfl, h1, h2, h3, h4⟩
    obtain rfl := Option.some.inj (E0.out.1.symm.trans h1)
    have x1 := (cell_at ((h4 _ _ E0.out.2.2 h1).trans E0.out.2.1)).2.1
    have Q1 := hid (And.intro h2 h3)
    clear h1 h2 h3 h4
    unfold CP
    go_wp2
    go_ret
    exact ⟨rfl, Q1.out.1, Q1.out.2⟩
  · refine ⟨v0, by rw [nowS_cell, he]; exact k4, ?_⟩
    obtain ⟨t0, c0, ht0, rfl⟩ := k4.val
    clear ei hc er0 eb0 hv0 hil he k1 k2 k3 k4
    rcases ht0 with rfl | rfl | rfl | rfl | rfl | rfl
    all_goals
      go_enter Tryz.func223, Tryz.ntmps223
      go_wp2_with fail
      refine HL.out.mono ?_
      rintro e w1 ⟨b1, rfl, h1, h2, h3, h4⟩
      obtain rfl := Option.some.inj (E0.out.1.symm.trans h1)
      have x1 := (cell_at ((h4 _ _ E0.out.2.2 h1).trans E0.out.2.1)).2.1
      have Q1 := hid (And.intro h2 h3)
      clear h1 h2 h3 h4
      unfold CP
      go_wp2
      go_ret
      exact ⟨rfl, Q1.out.1, Q1.out.2⟩
/-- now, at any type. -/
theorem now_any {H : Nat → Option Obj} {ca : List Nat} {σ : Sto} {d : Nat → Nat} {lo m : Nat} {v : Value} {t : Et} {w : World} (h : ERep lo H ca (m + 2) v t) (hc : CSd H ca σ d w) : ∃ v1, ERep (if t.kind = oCell then 0 else lo) H ca (m + 2) v1 (nowS σ t) ∧ (t.kind ≠ oCell → v1 = v) ∧ Calls Tryz.prog 223 #[v] w (NOW H ca σ d v1 w) := by
  have hh := h
  obtain ⟨b, h⟩ := h
  have other : ∀ (t0 : TypeId), v = .iface t0 (.pointer (some ⟨b, 0, none⟩)) → t.kind ≠ oCell → (Instr.typeAssert (.iface t0 (.pointer (some ⟨b, 0, none⟩))) 156 265 true).run Tryz.prog w = .ok (.tuple #[.pointer none, .bool false]) w →
      ∃ v1, ERep (if t.kind = oCell then 0 else lo) H ca (m + 2) v1 (nowS σ t) ∧ (t.kind ≠ oCell → v1 = v) ∧ Calls Tryz.prog 223 #[v] w (NOW H ca σ d v1 w) := fun t0 hv hk ht => by
    have en : nowS σ t = t := by unfold nowS; rw [if_neg hk]
    rw [en, if_neg hk]
    refine ⟨v, hh, fun _ => rfl, ?_⟩
    subst hv
    refine (now_other b w ht).mono ?_
    rintro e w' ⟨rfl, rfl⟩
    exact ⟨rfl, hc, Gb.refl _ _⟩
  rcases h with ⟨h1, h2, h3, h4⟩ | ⟨h1, h2, h3, h0, h4, h5⟩ | ⟨h1, h2, h3, h4⟩ | ⟨h1, h0, a, u, h2, h3, h4, h5⟩ | ⟨h1, h0, a, c, u, z, h2, h3, h4, h5, h6⟩ | ⟨h1, h0, a, c, u, z, h2, h3, h4, h5, h6⟩
  · have en : nowS σ t = nowS σ (cT t.num) := by unfold nowS; rw [if_pos h1, if_pos (show (cT t.num).kind = oCell from rfl)]; rfl
    rw [en, if_pos h1]
    obtain ⟨v1, q1, q2⟩ := now_cell t.num b w h3 hc
    subst h4
    exact ⟨v1, q1.le (by omega), fun hk => absurd h1 hk, q2⟩
  · exact other _ h4 (by rw [h1]; decide) (e_Var_Cell b w)
  · exact other _ h3 (by rcases h1 with h1 | h1 <;> rw [h1] <;> decide) (e_Basic_Cell b w)
  · exact other _ h3 (by rw [h1]; decide) (e_List_Cell b w)
  · exact other _ h3 (by rw [h1]; decide) (e_Pair_Cell b w)
  · exact other _ h3 (by rw [h1]; decide) (e_Arrow_Cell b w)
end Go.Proofs.YtcdijppegfcoaaaGreatDoor

/-
  OUR OWN TEXT. The program's names of variables: types.nthName.
-/
namespace Go.Proofs.YtcdijppegfcoaaaGreatDoor
open Go.RowKit
set_option maxRecDepth 100000 in
set_option maxHeartbeats 4000000 in
theorem itoa_q (w : World) : ∀ (d : Nat), d < 10 → Calls Tryz.prog 188 #[.int .i64 (d : Int)] w fun e w' => e = .returned (.string (B [UInt8.ofNat (48 + d)])) ∧ w' = w
  | 0, _ => by go_enter Tryz.func188, Tryz.ntmps188; go_wp2; go_ret; exact ⟨rfl, rfl⟩
  | 1, _ => by go_enter Tryz.func188, Tryz.ntmps188; go_wp2; go_ret; exact ⟨rfl, rfl⟩
  | 2, _ => by go_enter Tryz.func188, Tryz.ntmps188; go_wp2; go_ret; exact ⟨rfl, rfl⟩
  | 3, _ => by go_enter Tryz.func188, Tryz.ntmps188; go_wp2; go_ret; exact ⟨rfl, rfl⟩
  | 4, _ => by go_enter Tryz.func188, Tryz.ntmps188; go_wp2; go_ret; exact ⟨rfl, rfl⟩
  | 5, _ => by go_enter Tryz.func188, Tryz.ntmps188; go_wp2; go_ret; exact ⟨rfl, rfl⟩
  | 6, _ => by go_enter Tryz.func188, Tryz.ntmps188; go_wp2; go_ret; exact ⟨rfl, rfl⟩
  | 7, _ => by go_enter Tryz.func188, Tryz.ntmps188; go_wp2; go_ret; exact ⟨rfl, rfl⟩
  | 8, _ => by go_enter Tryz.func188, Tryz.ntmps188; go_wp2; go_ret; exact ⟨rfl, rfl⟩
  | 9, _ => by go_enter Tryz.func188, Tryz.ntmps188; go_wp2; go_ret; exact ⟨rfl, rfl⟩
  | n + 10, h => by omega

theorem encode_one (r : Nat) (hr : r < 128) : Utf8.encode (r : Int) = B [UInt8.ofNat r] := by
  have hv : Utf8.valid (r : Int) = true := by
    unfold Utf8.valid
    simp
    omega
  unfold Utf8.encode
  simp only [hv, if_true, Int.toNat_natCast]
  rw [if_pos hr]
  rfl

set_option maxRecDepth 100000 in
set_option maxHeartbeats 1000000 in
theorem nth_q (w : World) (n : Nat) (hn : n < 260) :
    Calls Tryz.prog 147 #[.int .i64 (n : Int)] w fun e w' => e = .returned (.string (B (letterS n))) ∧ w' = w := by
  have hr : n % 26 < 26 := Nat.mod_lt _ (by omega)
  have he := encode_one (97 + n % 26) (by omega)
  have hc : ((97 + n % 26 : Nat) : Int) = 97 + (n : Int) % 26 := by omega
  rw [hc] at he
  obtain ⟨b, hb⟩ : ∃ b, b = UInt8.ofNat (97 + n % 26) := ⟨_, rfl⟩
  rw [← hb] at he
  have hm : (n : Int).tmod 26 = (n : Int) % 26 := Int.tmod_eq_emod_of_nonneg (by omega)
  have hq : (n : Int).tdiv 26 = ((n / 26 : Nat) : Int) := by rw [Int.tdiv_eq_ediv_of_nonneg (by omega)]; omega
  have hr0 : 0 ≤ (n : Int) % 26 := by omega
  have hr1 : (n : Int) % 26 < 26 := by omega
  by_cases h25 : 25 < n
  · have e : letterS n = [b] ++ [UInt8.ofNat (48 + n / 26)] := by unfold letterS; rw [if_pos h25, hb]
    rw [e]
    have h25' : ¬ (n : Int) < 26 := by omega
    have HF := hid (itoa_q w (n / 26) (by omega))
    generalize UInt8.ofNat (48 + n / 26) = b2 at *
    clear hb hc e hr
    have sz1 : (B [b]).size = 1 := rfl
    have sz2 : (B [b2]).size = 1 := rfl
    go_enter Tryz.func147, Tryz.ntmps147
    go_wp2_with (go_at_call 188; refine HF.out.mono ?_; rintro e w1 ⟨rfl, rfl⟩)
    go_ret
    refine ⟨?_, rfl⟩
    show Ending.returned (.string (B [b] ++ B [b2])) = _
    rw [append_B]
    rfl
  · have e : letterS n = [b] := by unfold letterS; rw [if_neg h25, hb]; rfl
    rw [e]
    have h25' : (n : Int) < 26 := by omega
    clear hb hc e hr
    go_enter Tryz.func147, Tryz.ntmps147
    go_wp2
    go_ret
    exact ⟨rfl, rfl⟩
end Go.Proofs.YtcdijppegfcoaaaGreatDoor

/-
  OUR OWN TEXT. The numbers of variables' names, in a map of the program's.
-/
namespace Go.Proofs.YtcdijppegfcoaaaGreatDoor
open Go.RowKit Go.Maps Go.WideMaps
theorem keyLaw : Keyed Tryz.prog 9 := string_keyed Tryz.underlying9
theorem zeroInt (w : World) : (zeroValue 3).run Tryz.prog w = .ok (.int .i64 0) w := by kernel_rfl

/-- Block mb is a map from each name of the list to its place in it. -/
def MP (w : World) (mb : Nat) (L : List (List UInt8)) : Prop :=
  ∃ D : DataW Unit, w.ownsMap Tryz.prog 9 (plainElem Tryz.prog 3) mb L.length D ∧ Maps.size D = L.length ∧ (∀ k : List UInt8, Maps.has D (.string k) = decide (k ∈ L)) ∧ ∀ k, k ∈ L → D.atKey (.string k) (.lit (.int .i64 0)) = .lit (.int .i64 (L.idxOf k : Int))
theorem MP.new (w : World) : MP (w.alloc (.map #[] 0)) w.heap.size [] :=
  ⟨.map [], World.ownsMap_made _ _ _ _, rfl, fun k => rfl, fun k h => by cases h⟩
theorem MP.kept {w w' : World} {mb : Nat} {L : List (List UInt8)} {r : Option Nat} (h : MP w mb L) (hg : w.grownBy w' r) (hne : some mb ≠ r) : MP w' mb L := by
  obtain ⟨D, h1, h2⟩ := h
  exact ⟨D, h1.kept hg hne, h2⟩
theorem MP.lt {w : World} {mb : Nat} {L : List (List UInt8)} (h : MP w mb L) : mb < w.heap.size := by
  obtain ⟨D, h1, _⟩ := h
  exact h1.lt
theorem MP.isMap {w : World} {mb : Nat} {L : List (List UInt8)} (h : MP w mb L) : ∃ es clock, w.heap[mb]? = some (.map es clock) := by
  obtain ⟨D, ⟨es, clock, hb, _⟩, _⟩ := h
  exact ⟨es, clock, hb⟩
theorem keyB {k : List UInt8} (hk : k.length ≤ 300) : keyOf Tryz.prog 9 (.string (B k)) = some (.string k) := by
  have := keyOf_string_mk (P := Tryz.prog) (k := 9) Tryz.underlying9 (s := B k) (by rw [size_B]; unfold maxLen; omega)
  rw [this]
  rfl
theorem MP.look_in {w : World} {mb : Nat} {L : List (List UInt8)} (h : MP w mb L) {k : List UInt8} (hk : k.length ≤ 300) (hm : k ∈ L) :
    (Instr.lookup 358 (.map (some mb)) (.string (B k)) true).run Tryz.prog w = .ok (.tuple #[.int .i64 (L.idxOf k : Int), .bool true]) w := by
  obtain ⟨D, h1, h2, h3, h4⟩ := h
  obtain ⟨v, ps, hr, hv⟩ := h1.look_ok keyLaw Tryz.underlying358 (zeroInt w) (plainElem_int Tryz.underlying3 (by decide)) (keyB hk)
  obtain ⟨c, rfl, hc, _⟩ := plainElem_int_inv Tryz.underlying3 hv
  rw [hr, h3 k, decide_eq_true hm]
  rw [h4 k hm] at hc
  have := congrArg Prod.fst hc
  simp at this
  rw [this]
theorem MP.look_out {w : World} {mb : Nat} {L : List (List UInt8)} (h : MP w mb L) {k : List UInt8} (hk : k.length ≤ 300) (hm : k ∉ L) :
    (Instr.lookup 358 (.map (some mb)) (.string (B k)) true).run Tryz.prog w = .ok (.tuple #[.int .i64 0, .bool false]) w := by
  obtain ⟨D, h1, h2, h3, h4⟩ := h
  obtain ⟨v, ps, hr, hv⟩ := h1.look_ok keyLaw Tryz.underlying358 (zeroInt w) (plainElem_int Tryz.underlying3 (by decide)) (keyB hk)
  obtain ⟨c, rfl, hc, _⟩ := plainElem_int_inv Tryz.underlying3 hv
  have hf : Maps.has D (.string k) = false := by rw [h3 k, decide_eq_false hm]
  rw [hr, hf]
  rw [atKey_of_not_has hf] at hc
  have := congrArg Prod.fst hc
  simp at this
  rw [this]
theorem MP.len {w : World} {mb : Nat} {L : List (List UInt8)} (h : MP w mb L) (ty : TypeId) : (Builtin.len_ #[358] ty #[.map (some mb)]).run Tryz.prog w = .ok (.int .i64 (L.length : Int)) w := by
  obtain ⟨D, h1, h2, h3, h4⟩ := h
  rw [h1.len Tryz.underlying358 ty, h2]
theorem MP.store {w : World} {mb : Nat} {L : List (List UInt8)} (h : MP w mb L) {k : List UInt8} (hk : k.length ≤ 300) (hm : k ∉ L) (hL : L.length ≤ 1000) :
    ∃ w', (Instr.mapUpdate 358 (.map (some mb)) (.string (B k)) (.int .i64 (L.length : Int))).run Tryz.prog w = .ok () w' ∧ MP w' mb (L ++ [k]) ∧ w.grownBy w' (some mb) := by
  obtain ⟨D, h1, h2, h3, h4⟩ := h
  have td := h1.tidy keyLaw
  obtain ⟨w', r1, r2, r3⟩ := h1.update keyLaw Tryz.underlying358 (by unfold maxLen; omega) (keyB hk) (plainElem_int Tryz.underlying3 (a := (L.length : Int)) (WalkArith.wf_i64 (n := (L.length : Int)) (by omega)))
  have hf : Maps.has D (.string k) = false := by rw [h3 k, decide_eq_false hm]
  refine ⟨w', r1, ⟨_, by rw [List.length_append]; exact r2, ?_, fun k' => ?_, fun k' hk' => ?_⟩, r3⟩
  · rw [size_put td, hf, h2]
    simp
  · by_cases e : k' = k
    · subst e
      rw [has_put_same (k := .string k') td.isMap (by trivial)]
      simp
    · rw [has_put_other (by simpa using e), h3 k']
      simp [e]
  · by_cases e : k' = k
    · subst e
      rw [atKey_put_same (k := .string k') td.isMap (by trivial)]
      rw [List.idxOf_append, if_neg hm]
      simp
    · rw [atKey_put_other (by simpa using e)]
      have hin : k' ∈ L := by
        rcases List.mem_append.1 hk' with h | h
        · exact h
        · exact absurd (List.mem_singleton.1 h) e
      rw [h4 k' hin, List.idxOf_append, if_pos hin]
end Go.Proofs.YtcdijppegfcoaaaGreatDoor
