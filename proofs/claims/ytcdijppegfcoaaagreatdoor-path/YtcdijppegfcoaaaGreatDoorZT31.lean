import Derived.Test.YtcdijppegfcoaaaGreatDoorZT30
import Derived.Test.YtcdijppegfcoaaaGreatDoorZT23
import Derived.RangeFuncNested
import Derived.RangeFuncBound
import Derived.RangeFuncCalls
import Derived.RangeFuncLeaves
import Derived.Shelf.Abstract
import Derived.Shelf.RegionOpen
import Derived.WalkKit
import Derived.OwnWalkIn
import Derived.TacticsInMore
import Derived.LoopNIn
import Derived.LoopIn
import Derived.Test.YtcdijppegfcoaaaGreatDoorZT25
/-
  OUR OWN TEXT. The program's cells: Equal.
-/
namespace Go.Proofs.YtcdijppegfcoaaaGreatDoor
open Go.RowKit
theorem mk_far (w : World) : (Instr.makeMap 424 none).run Tryz.prog w = .ok (.map (some w.heap.size)) (w.alloc (.map #[] 0)) := by kernel_rfl
/-- What Equal leaves. -/
def EQP (H : Nat → Option Obj) (ca : List Nat) (r : Option Sto) (w : World) (e : Ending) (w' : World) : Prop :=
  Gb (InAs ca) w w' ∧ match r with
    | none => e = .returned (.bool false)
    | some σ' => e = .returned (.bool true) ∧ ∃ d', CSd H ca σ' d' w'
set_option maxRecDepth 100000 in
set_option maxHeartbeats 2000000 in
theorem cequal_any {H : Nat → Option Obj} {ca : List Nat} {σ : Sto} {d : Nat → Nat} {a b x y : Nat} {r : Option Sto} {w : World} (ea : ca[a]? = some x) (eb : ca[b]? = some y) (hr : equalS a b σ = some r) (hc : CSd H ca σ d w) :
    Calls Tryz.prog 245 #[CP x, CP y] w (EQP H ca r w) := by
  unfold equalS at hr
  cases ej : joinS (σ.rep.length + 1) a b σ with
  | none => rw [ej] at hr; cases hr
  | some rj =>
    rw [ej] at hr
    have CJ := hid (fun (W : World) (hW : CSd H ca σ d W) => join_any (σ.rep.length + 1) a b x y σ d rj W ea eb ej hW)
    have HC := hid hc
    have EA := hid ea
    have HR := hid hr
    clear hr hc ea eb ej
    unfold CI at CJ
    unfold CP
    cases rj with
    | none =>
      have er := (Option.some.inj HR.out).symm
      subst er
      go_enter Tryz.func245, Tryz.ntmps245
      go_wp2_with fail
      refine (CJ.out _ HC.out).mono ?_
      rintro e w1 ⟨g1, rfl⟩
      have G1 := hid g1
      clear g1 CJ HC
      go_wp2
      go_ret
      exact ⟨G1.out, rfl⟩
    | some σ1 =>
      go_enter Tryz.func245, Tryz.ntmps245
      go_wp2_with fail
      refine (CJ.out _ HC.out).mono ?_
      rintro e w1 ⟨g1, rfl, d1, c1⟩
      have hr := HR.out
      cases el : loopsS σ1 (σ.rep.length + 1) a [] with
      | none => rw [el] at hr; cases hr
      | some rl =>
        rw [el] at hr
        have hmk := mk_far w1
        have ga : w1.grownBy (w1.alloc (.map #[] 0)) none := World.grownBy_alloc _ _ _
        have hma : w1.heap.size ∉ ca := fun h => by have := InAs.lt c1 h; omega
        have CL := hid (loops_any (σ := σ1) (d := d1) (c1.fz.none (Nat.le_refl _)) hma (σ.rep.length + 1) a x [] rl (w1.alloc (.map #[] 0)) EA.out el (c1.grown0 ga) GM.new (fun p hp => by cases hp))
        have G1 := hid (And.intro g1 (And.intro c1 hma))
        unfold CI at CL
        clear g1 c1 CJ HC el ga hma
        cases rl with
        | none =>
          have er := (Option.some.inj hr).symm
          subst er
          clear hr HR
          go_wp2_with fail
          refine CL.out.mono ?_
          rintro e w2 ⟨g2, rfl⟩
          have G2 := hid g2
          clear g2 CL
          go_wp2
          go_ret
          exact ⟨(G1.out.1.tr (Gb.new (World.grownBy_alloc _ _ _))).trans G2.out (fun i h => h.imp id (fun e => by have := G1.out.1.size; omega)), rfl⟩
        | some fl =>
          have er := (Option.some.inj hr).symm
          subst er
          clear hr HR
          go_wp2_with fail
          refine CL.out.mono ?_
          rintro e w2 ⟨g2, rfl, c2, _⟩
          have G2 := hid (And.intro g2 c2)
          clear g2 c2 CL
          go_wp2
          go_ret
          exact ⟨(G1.out.1.tr (Gb.new (World.grownBy_alloc _ _ _))).trans G2.out.1 (fun i h => h.imp id (fun e => by have := G1.out.1.size; omega)), rfl, d1, G2.out.2⟩
end Go.Proofs.YtcdijppegfcoaaaGreatDoor

/-
  OUR OWN TEXT. Package typing: slices.Backward over the row of names: its contract.
-/
namespace Go.Proofs.YtcdijppegfcoaaaGreatDoor
open Go.RowKit Go.Shelf
attribute [local go_sem] Oper.semAt_some
/-- A name, and what it stands for, in a row: its bytes, the type and the block of what it stands for. -/
def NE : Type := List UInt8 × TypeId × Nat
def NE.v (x : NE) : Value := .iface x.2.1 (.pointer (some ⟨x.2.2, 0, none⟩))
def NE.at (vs : List NE) (j : Nat) : NE := (vs[j]?).getD (([], 0, 0) : List UInt8 × TypeId × Nat)
/-- The cells of a row of names. -/
def nmCells : List NE → List Value
  | [] => []
  | p :: l => .string (B p.1) :: p.v :: nmCells l
/-- What comes of k rounds. -/
def bupto (vs : List NE) (n : Nat) (k : Nat) : List (Nat × NE) := (List.range k).map fun j => (n - 1 - j, NE.at vs (n - 1 - j))
theorem bupto_succ (vs : List NE) (n k : Nat) : bupto vs n (k + 1) = bupto vs n k ++ [(n - 1 - k, NE.at vs (n - 1 - k))] := by simp [bupto, List.range_succ]
theorem bupto_length (vs : List NE) (n k : Nat) : (bupto vs n k).length = k := by simp [bupto]

set_option maxRecDepth 100000 in
set_option maxHeartbeats 2000000 in
theorem back1_in (F : Fence) (n : Nat) (h8 : F.fn 244) (hro : F.round = none) (hn : 1 ≤ n) (l Bs n₀ b len cap : Nat) (vs : List NE) (hreach : len * 24 ≤ 140737488351232) (hb : b < n₀) (J Jx : List (Nat × NE) → World → Prop)
    (hY : ∀ pre (x : Nat × NE) W, J pre W → pre.length < len → YieldAt F (n - 1) Tryz.prog l #[.int .i64 (x.1 : Int), .agg #[.string (B x.2.1), .iface x.2.2.1 (.pointer (some ⟨x.2.2.2, 0, none⟩))]] W fun e W' =>
      (e = .returned (.bool true) ∧ J (pre ++ [x]) W' ∧ Below n₀ W W') ∨ (e = .returned (.bool false) ∧ Jx (pre ++ [x]) W'))
    (W : World) (hBs : W.cell? ⟨Bs, 0, none⟩ = some (.slice (some ⟨b, 0, none⟩) len cap)) (hBl : Bs < n₀) (hc : ∀ j, j < len → W.cell? ⟨b, j * 2, none⟩ = some (.string (B (NE.at vs j).1)) ∧ W.cell? ⟨b, j * 2 + 1, none⟩ = some (.iface (NE.at vs j).2.1 (.pointer (some ⟨(NE.at vs j).2.2, 0, none⟩)))) (h0 : J [] W) :
    CallsIn F n Tryz.prog 244 #[.func (.yield l) #[] #[], .pointer (some ⟨Bs, 0, none⟩)] W fun e W' => (∃ v, e = .returned v) ∧
      ((∃ ys, ys = bupto vs len len ∧ J ys W') ∨ (∃ pre, (∃ k, k ≤ len ∧ pre = bupto vs len k) ∧ Jx pre W')) := by
  refine callsIn_of_wp Tryz.func244 rfl h8 ?_ hro
  simp only [Tryz.ntmps244, List.size_toArray, List.length_cons, List.length_nil, Nat.reduceAdd, Nat.reduceSub, Array.replicate_succ, Array.replicate_zero, List.push_toArray, List.append_toArray, List.nil_append, List.cons_append]
  gi_wp2
  gi_loopw [3] (fun i wr => ∃ k : Nat, k ≤ len ∧ i = .int .i64 ((k : Int) - 1) ∧ J (bupto vs len (len - k)) wr ∧ Below n₀ W wr)
    (fun i _ => (intOf i + 1).toNat)
  case atStart => exact ⟨len, Nat.le_refl _, rfl, by simpa [bupto] using h0, Below.refl _ _⟩
  case round =>
    obtain ⟨k, hk, rfl, hJs, hnx⟩ := hrel
    have hBs' := (hnx.cell (p := ⟨Bs, 0, none⟩) hBl).trans hBs
    cases k with
    | zero =>
      rw [show (((0 : Nat) : Int) - 1) = -1 by omega]
      rw [Nat.sub_zero] at hJs
      gi_wp2
      go_end0
      exact ⟨⟨_, rfl⟩, .inl ⟨_, rfl, hJs⟩⟩
    | succ k =>
      rw [show (((k + 1 : Nat) : Int) - 1) = (k : Int) by omega]
      have hcx := hc k (by omega)
      have hc1 : wr.cell? ⟨b, k * 2, none⟩ = some (.string (B (NE.at vs k).1)) := (hnx.cell (p := ⟨b, k * 2, none⟩) hb).trans hcx.1
      have hc2 : wr.cell? ⟨b, k * 2 + 1, none⟩ = some (.iface (NE.at vs k).2.1 (.pointer (some ⟨(NE.at vs k).2.2, 0, none⟩))) := (hnx.cell (p := ⟨b, k * 2 + 1, none⟩) hb).trans hcx.2
      obtain ⟨fn, tmps, assign, body, hy, hR⟩ := hY _ (k, NE.at vs k) wr hJs (by rw [bupto_length]; omega)
      dsimp only at hy
      gi_wp2
      refine hR.mono ?_
      rintro e W3 (⟨rfl, hJ3, hk3⟩ | ⟨rfl, hJx3⟩)
      · gi_wp2
        go_roundw
        case rel => exact ⟨k, by omega, rfl, by rw [show len - k = len - (k + 1) + 1 by omega, bupto_succ, show len - 1 - (len - (k + 1)) = k by omega]; exact hJ3, hnx.trans hk3⟩
        case measure => simp [intOf]
      · gi_wp2
        refine bodyPost_ret (results_none rfl _ _ _) rfl ?_
        exact ⟨⟨_, rfl⟩, .inr ⟨_, ⟨len - (k + 1) + 1, by omega, by rw [bupto_succ, show len - 1 - (len - (k + 1)) = k by omega]⟩, hJx3⟩⟩

set_option maxRecDepth 100000 in
set_option maxHeartbeats 1000000 in
/-- .. at the nil row: no round. -/
theorem back1_nil_in (F : Fence) (n : Nat) (h8 : F.fn 244) (hro : F.round = none) (l Bs : Nat) (J : List (Nat × NE) → World → Prop) (W : World) (hBs : W.cell? ⟨Bs, 0, none⟩ = some (.slice none 0 0)) (h0 : J [] W) :
    CallsIn F n Tryz.prog 244 #[.func (.yield l) #[] #[], .pointer (some ⟨Bs, 0, none⟩)] W fun e W' => (∃ v, e = .returned v) ∧ J [] W' := by
  refine callsIn_of_wp Tryz.func244 rfl h8 ?_ hro
  simp only [Tryz.ntmps244, List.size_toArray, List.length_cons, List.length_nil, Nat.reduceAdd, Nat.reduceSub, Array.replicate_succ, Array.replicate_zero, List.push_toArray, List.append_toArray, List.nil_append, List.cons_append]
  gi_wp2
  gi_loopw [3] (fun i wr => i = .int .i64 (-1) ∧ J [] wr) (fun _ _ => 0)
  case atStart => exact ⟨rfl, h0⟩
  case round =>
    obtain ⟨rfl, hJs⟩ := hrel
    gi_wp2
    go_end0
    exact ⟨⟨_, rfl⟩, hJs⟩

set_option maxHeartbeats 1000000 in
theorem back_in (F : Fence) (n : Nat) (h6 : F.fn 233) (hro : F.round = none) (a : Option Addr) (len cap : Nat) (w : World) :
    CallsIn F n Tryz.prog 233 #[.slice a len cap] w fun e w' => e = .returned (.func (.func 244) #[] #[.pointer (some ⟨w.heap.size, 0, none⟩)]) ∧ w' = w.alloc (.cells #[.slice a len cap] 261) := by
  refine callsIn_of_wp Tryz.func233 rfl h6 ?_ hro
  simp only [Tryz.ntmps233, List.size_toArray, List.length_cons, List.length_nil, Nat.reduceAdd, Nat.reduceSub, Array.replicate_succ, Array.replicate_zero, List.push_toArray, List.append_toArray, List.nil_append, List.cons_append]
  gi_wp2
  go_ret
  exact ⟨rfl, rfl⟩

/-- A row of names, in blocks below n₀. -/
def NIs (n₀ : Nat) (W : World) (sv : Value) (vs : List NE) : Prop :=
  (sv = .slice none 0 0 ∧ vs = []) ∨ ∃ b cap, sv = .slice (some ⟨b, 0, none⟩) vs.length cap ∧ b < n₀ ∧ ∀ j, j < vs.length → W.cell? ⟨b, j * 2, none⟩ = some (.string (B (NE.at vs j).1)) ∧ W.cell? ⟨b, j * 2 + 1, none⟩ = some (.iface (NE.at vs j).2.1 (.pointer (some ⟨(NE.at vs j).2.2, 0, none⟩)))
theorem NIs.below {n₀ : Nat} {A B : World} (h : Below n₀ A B) {sv : Value} {zs : List NE} : NIs n₀ A sv zs → NIs n₀ B sv zs
  | .inl e => .inl e
  | .inr ⟨b, cap, e, hb, hc⟩ => .inr ⟨b, cap, e, hb, fun j hj => ⟨(h.cell (p := ⟨b, j * 2, none⟩) hb).trans (hc j hj).1, (h.cell (p := ⟨b, j * 2 + 1, none⟩) hb).trans (hc j hj).2⟩⟩

theorem back_stops (F : Fence) (n : Nat) (h8 : F.fn 244) (hro : F.round = none) (hn : 1 ≤ n) (Bs n₀ : Nat) (sv : Value) (zs : List NE) (hreach : zs.length * 24 ≤ 140737488351232) (w : World) (hBs : Bs < n₀) (hn₀ : n₀ ≤ w.heap.size)
    (hc : w.cell? ⟨Bs, 0, none⟩ = some sv) (hI : NIs n₀ w sv zs) :
    SeqStopsK F n Tryz.prog 244 #[.pointer (some ⟨Bs, 0, none⟩)] (fun x : Nat × NE => #[.int .i64 (x.1 : Int), .agg #[.string (B x.2.1), .iface x.2.2.1 (.pointer (some ⟨x.2.2.2, 0, none⟩))]]) (Below n₀) (fun ys => ys = bupto zs zs.length zs.length)
      (fun pre => ∃ k, k ≤ zs.length ∧ pre = bupto zs zs.length k) zs.length w := fun l J Jx W hW _ _ hY h0 => by
  have hc' := (hW.cell (p := ⟨Bs, 0, none⟩) (Nat.lt_of_lt_of_le hBs hn₀)).trans hc
  rcases hI.below (hW.mono hn₀) with ⟨rfl, rfl⟩ | ⟨b, cap, rfl, hb, hcs⟩
  · exact (back1_nil_in F n h8 hro l Bs J W hc' h0).mono fun e W' ⟨he, hj⟩ => ⟨he, .inl ⟨_, rfl, hj⟩⟩
  · exact back1_in F n h8 hro hn l Bs n₀ b zs.length cap zs hreach hb J Jx hY W hc' hBs hcs h0
end Go.Proofs.YtcdijppegfcoaaaGreatDoor
