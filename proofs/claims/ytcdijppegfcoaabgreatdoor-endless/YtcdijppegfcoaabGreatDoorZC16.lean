import Derived.Test.YtcdijppegfcoaabGreatDoorZC15
import Derived.Test.YtcdijppegfcoaabGreatDoorZC09
import Derived.RangeFuncNested
import Derived.RangeFuncBound
import Derived.RangeFuncCalls
import Derived.RangeFuncLeaves
import Derived.Shelf.Abstract
import Derived.Shelf.RegionOpen
import Derived.WalkKit
import Derived.OwnWalkIn
import Derived.TacticsInMore
import Derived.LoopNIn
import Derived.LoopIn
import Derived.Test.YtcdijppegfcoaabGreatDoorZC10
import Derived.Test.YtcdijppegfcoaabGreatDoorZC02
set_option maxRecDepth 100000
set_option maxHeartbeats 4000000
namespace Go.Proofs.YtcdijppegfcoaabGreatDoor
open Go.RowKit
theorem mk_far (w : World) : (Instr.makeMap 359 none).run Tryz.prog w = .ok (.map (some w.heap.size)) (w.alloc (.map #[] 0)) := by kernel_rfl
def EQP (H : Nat → Option Obj) (ca : List Nat) (r : Option Sto) (w : World) (e : Ending) (w' : World) : Prop :=
  Gb (InAs ca) w w' ∧ match r with
    | none => e = .returned (.bool false)
    | some σ' => e = .returned (.bool true) ∧ ∃ d',CSd H ca σ' d' w'
theorem cequal_any {H : Nat → Option Obj} {ca : List Nat} {σ : Sto} {d : Nat → Nat} {a b x y : Nat} {r : Option Sto} {w : World} (ea : ca[a]? = some x) (eb : ca[b]? = some y) (hr : equalS a b σ = some r) (hc : CSd H ca σ d w) :
    Calls Tryz.prog 194 #[CP x,CP y] w (EQP H ca r w) := by
  unfold equalS at hr
  cases ej : joinS (σ.rep.length + 1) a b σ with
  | none => rw [ej] at hr; cases hr
  | some rj =>
    rw [ej] at hr
    have CJ := hid (fun (W : World) (hW : CSd H ca σ d W) => join_any (σ.rep.length + 1) a b x y σ d rj W ea eb ej hW)
    have HC := hid hc
    have EA := hid ea
    have HR := hid hr
    clear hr hc ea eb ej
    unfold CI at CJ
    unfold CP
    cases rj with
    | none =>
      have er := (Option.some.inj HR.out).symm
      subst er
      go_enter Tryz.func194,Tryz.ntmps194
      go_wp2_with fail
      refine (CJ.out _ HC.out).mono ?_
      rintro e w1 ⟨g1,rfl⟩
      have G1 := hid g1
      clear g1 CJ HC
      go_wp2
      go_ret
      exact ⟨G1.out,rfl⟩
    | some σ1 =>
      go_enter Tryz.func194,Tryz.ntmps194
      go_wp2_with fail
      refine (CJ.out _ HC.out).mono ?_
      rintro e w1 ⟨g1,rfl,d1,c1⟩
      have hr := HR.out
      cases el : loopsS σ1 (σ.rep.length + 1) a [] with
      | none => rw [el] at hr; cases hr
      | some rl =>
        rw [el] at hr
        have hmk := mk_far w1
        have ga : w1.grownBy (w1.alloc (.map #[] 0)) none := World.grownBy_alloc _ _ _
        have hma : w1.heap.size ∉ ca := fun h => by have := InAs.lt c1 h; omega
        have CL := hid (loops_any (σ := σ1) (d := d1) (c1.fz.none (Nat.le_refl _)) hma (σ.rep.length + 1) a x [] rl (w1.alloc (.map #[] 0)) EA.out el (c1.grown0 ga) GM.new (fun p hp => by cases hp))
        have G1 := hid (And.intro g1 (And.intro c1 hma))
        unfold CI at CL
        clear g1 c1 CJ HC el ga hma
        cases rl with
        | none =>
          have er := (Option.some.inj hr).symm
          subst er
          clear hr HR
          go_wp2_with fail
          refine CL.out.mono ?_
          rintro e w2 ⟨g2,rfl⟩
          have G2 := hid g2
          clear g2 CL
          go_wp2
          go_ret
          exact ⟨(G1.out.1.tr (Gb.new (World.grownBy_alloc _ _ _))).trans G2.out (fun i h => h.imp id (fun e => by have := G1.out.1.size; omega)),rfl⟩
        | some fl =>
          have er := (Option.some.inj hr).symm
          subst er
          clear hr HR
          go_wp2_with fail
          refine CL.out.mono ?_
          rintro e w2 ⟨g2,rfl,c2,_⟩
          have G2 := hid (And.intro g2 c2)
          clear g2 c2 CL
          go_wp2
          go_ret
          exact ⟨(G1.out.1.tr (Gb.new (World.grownBy_alloc _ _ _))).trans G2.out.1 (fun i h => h.imp id (fun e => by have := G1.out.1.size; omega)),rfl,d1,G2.out.2⟩
end Go.Proofs.YtcdijppegfcoaabGreatDoor
namespace Go.Proofs.YtcdijppegfcoaabGreatDoor
open Go.RowKit Go.Shelf
attribute [local go_sem] Oper.semAt_some
def NE : Type := List UInt8 × TypeId × Nat
def NE.v (x : NE) : Value := .iface x.2.1 (.pointer (some ⟨x.2.2,0,none⟩))
def NE.at (vs : List NE) (j : Nat) : NE := (vs[j]?).getD (([],0,0) : List UInt8 × TypeId × Nat)
def nmCells : List NE → List Value
  | [] => []
  | p :: l => .string (B p.1) :: p.v :: nmCells l
def bupto (vs : List NE) (n : Nat) (k : Nat) : List (Nat × NE) := (List.range k).map fun j => (n - 1 - j,NE.at vs (n - 1 - j))
theorem bupto_succ (vs : List NE) (n k : Nat) : bupto vs n (k + 1) = bupto vs n k ++ [(n - 1 - k,NE.at vs (n - 1 - k))] := by simp [bupto,List.range_succ]
theorem bupto_length (vs : List NE) (n k : Nat) : (bupto vs n k).length = k := by simp [bupto]
theorem back1_in (F : Fence) (n : Nat) (h8 : F.fn 193) (hro : F.round = none) (hn : 1 ≤ n) (l Bs n₀ b len cap : Nat) (vs : List NE) (hreach : len * 24 ≤ 140737488351232) (hb : b < n₀) (J Jx : List (Nat × NE) → World → Prop)
    (hY : ∀ pre (x : Nat × NE) W,J pre W → pre.length < len → YieldAt F (n - 1) Tryz.prog l #[.int .i64 (x.1 : Int),.agg #[.string (B x.2.1),.iface x.2.2.1 (.pointer (some ⟨x.2.2.2,0,none⟩))]] W fun e W' =>
      (e = .returned (.bool true) ∧ J (pre ++ [x]) W' ∧ Below n₀ W W') ∨ (e = .returned (.bool false) ∧ Jx (pre ++ [x]) W'))
    (W : World) (hBs : W.cell? ⟨Bs,0,none⟩ = some (.slice (some ⟨b,0,none⟩) len cap)) (hBl : Bs < n₀) (hc : ∀ j,j < len → W.cell? ⟨b,j * 2,none⟩ = some (.string (B (NE.at vs j).1)) ∧ W.cell? ⟨b,j * 2 + 1,none⟩ = some (.iface (NE.at vs j).2.1 (.pointer (some ⟨(NE.at vs j).2.2,0,none⟩)))) (h0 : J [] W) :
    CallsIn F n Tryz.prog 193 #[.func (.yield l) #[] #[],.pointer (some ⟨Bs,0,none⟩)] W fun e W' => (∃ v,e = .returned v) ∧
      ((∃ ys,ys = bupto vs len len ∧ J ys W') ∨ (∃ pre,(∃ k,k ≤ len ∧ pre = bupto vs len k) ∧ Jx pre W')) := by
  refine callsIn_of_wp Tryz.func193 rfl h8 ?_ hro
  simp only [Tryz.ntmps193,List.size_toArray,List.length_cons,List.length_nil,Nat.reduceAdd,Nat.reduceSub,Array.replicate_succ,Array.replicate_zero,List.push_toArray,List.append_toArray,List.nil_append,List.cons_append]
  gi_wp2
  gi_loopw [3] (fun i wr => ∃ k : Nat,k ≤ len ∧ i = .int .i64 ((k : Int) - 1) ∧ J (bupto vs len (len - k)) wr ∧ Below n₀ W wr)
    (fun i _ => (intOf i + 1).toNat)
  case atStart => exact ⟨len,Nat.le_refl _,rfl,by simpa [bupto] using h0,Below.refl _ _⟩
  case round =>
    obtain ⟨k,hk,rfl,hJs,hnx⟩ := hrel
    have hBs' := (hnx.cell (p := ⟨Bs,0,none⟩) hBl).trans hBs
    cases k with
    | zero =>
      rw [show (((0 : Nat) : Int) - 1) = -1 by omega]
      rw [Nat.sub_zero] at hJs
      gi_wp2
      go_end0
      exact ⟨⟨_,rfl⟩,.inl ⟨_,rfl,hJs⟩⟩
    | succ k =>
      rw [show (((k + 1 : Nat) : Int) - 1) = (k : Int) by omega]
      have hcx := hc k (by omega)
      have hc1 : wr.cell? ⟨b,k * 2,none⟩ = some (.string (B (NE.at vs k).1)) := (hnx.cell (p := ⟨b,k * 2,none⟩) hb).trans hcx.1
      have hc2 : wr.cell? ⟨b,k * 2 + 1,none⟩ = some (.iface (NE.at vs k).2.1 (.pointer (some ⟨(NE.at vs k).2.2,0,none⟩))) := (hnx.cell (p := ⟨b,k * 2 + 1,none⟩) hb).trans hcx.2
      obtain ⟨fn,tmps,assign,body,hy,hR⟩ := hY _ (k,NE.at vs k) wr hJs (by rw [bupto_length]; omega)
      dsimp only at hy
      gi_wp2
      refine hR.mono ?_
      rintro e W3 (⟨rfl,hJ3,hk3⟩ | ⟨rfl,hJx3⟩)
      · gi_wp2
        go_roundw
        case rel => exact ⟨k,by omega,rfl,by rw [show len - k = len - (k + 1) + 1 by omega,bupto_succ,show len - 1 - (len - (k + 1)) = k by omega]; exact hJ3,hnx.trans hk3⟩
        case measure => simp [intOf]
      · gi_wp2
        refine bodyPost_ret (results_none rfl _ _ _) rfl ?_
        exact ⟨⟨_,rfl⟩,.inr ⟨_,⟨len - (k + 1) + 1,by omega,by rw [bupto_succ,show len - 1 - (len - (k + 1)) = k by omega]⟩,hJx3⟩⟩
theorem back1_nil_in (F : Fence) (n : Nat) (h8 : F.fn 193) (hro : F.round = none) (l Bs : Nat) (J : List (Nat × NE) → World → Prop) (W : World) (hBs : W.cell? ⟨Bs,0,none⟩ = some (.slice none 0 0)) (h0 : J [] W) :
    CallsIn F n Tryz.prog 193 #[.func (.yield l) #[] #[],.pointer (some ⟨Bs,0,none⟩)] W fun e W' => (∃ v,e = .returned v) ∧ J [] W' := by
  refine callsIn_of_wp Tryz.func193 rfl h8 ?_ hro
  simp only [Tryz.ntmps193,List.size_toArray,List.length_cons,List.length_nil,Nat.reduceAdd,Nat.reduceSub,Array.replicate_succ,Array.replicate_zero,List.push_toArray,List.append_toArray,List.nil_append,List.cons_append]
  gi_wp2
  gi_loopw [3] (fun i wr => i = .int .i64 (-1) ∧ J [] wr) (fun _ _ => 0)
  case atStart => exact ⟨rfl,h0⟩
  case round =>
    obtain ⟨rfl,hJs⟩ := hrel
    gi_wp2
    go_end0
    exact ⟨⟨_,rfl⟩,hJs⟩
theorem back_in (F : Fence) (n : Nat) (h6 : F.fn 182) (hro : F.round = none) (a : Option Addr) (len cap : Nat) (w : World) :
    CallsIn F n Tryz.prog 182 #[.slice a len cap] w fun e w' => e = .returned (.func (.func 193) #[] #[.pointer (some ⟨w.heap.size,0,none⟩)]) ∧ w' = w.alloc (.cells #[.slice a len cap] 169) := by
  refine callsIn_of_wp Tryz.func182 rfl h6 ?_ hro
  simp only [Tryz.ntmps182,List.size_toArray,List.length_cons,List.length_nil,Nat.reduceAdd,Nat.reduceSub,Array.replicate_succ,Array.replicate_zero,List.push_toArray,List.append_toArray,List.nil_append,List.cons_append]
  gi_wp2
  go_ret
  exact ⟨rfl,rfl⟩
def NIs (n₀ : Nat) (W : World) (sv : Value) (vs : List NE) : Prop :=
  (sv = .slice none 0 0 ∧ vs = []) ∨ ∃ b cap,sv = .slice (some ⟨b,0,none⟩) vs.length cap ∧ b < n₀ ∧ ∀ j,j < vs.length → W.cell? ⟨b,j * 2,none⟩ = some (.string (B (NE.at vs j).1)) ∧ W.cell? ⟨b,j * 2 + 1,none⟩ = some (.iface (NE.at vs j).2.1 (.pointer (some ⟨(NE.at vs j).2.2,0,none⟩)))
theorem NIs.below {n₀ : Nat} {A B : World} (h : Below n₀ A B) {sv : Value} {zs : List NE} : NIs n₀ A sv zs → NIs n₀ B sv zs
  | .inl e => .inl e
  | .inr ⟨b,cap,e,hb,hc⟩ => .inr ⟨b,cap,e,hb,fun j hj => ⟨(h.cell (p := ⟨b,j * 2,none⟩) hb).trans (hc j hj).1,(h.cell (p := ⟨b,j * 2 + 1,none⟩) hb).trans (hc j hj).2⟩⟩
theorem back_stops (F : Fence) (n : Nat) (h8 : F.fn 193) (hro : F.round = none) (hn : 1 ≤ n) (Bs n₀ : Nat) (sv : Value) (zs : List NE) (hreach : zs.length * 24 ≤ 140737488351232) (w : World) (hBs : Bs < n₀) (hn₀ : n₀ ≤ w.heap.size)
    (hc : w.cell? ⟨Bs,0,none⟩ = some sv) (hI : NIs n₀ w sv zs) :
    SeqStopsK F n Tryz.prog 193 #[.pointer (some ⟨Bs,0,none⟩)] (fun x : Nat × NE => #[.int .i64 (x.1 : Int),.agg #[.string (B x.2.1),.iface x.2.2.1 (.pointer (some ⟨x.2.2.2,0,none⟩))]]) (Below n₀) (fun ys => ys = bupto zs zs.length zs.length)
      (fun pre => ∃ k,k ≤ zs.length ∧ pre = bupto zs zs.length k) zs.length w := fun l J Jx W hW _ _ hY h0 => by
  have hc' := (hW.cell (p := ⟨Bs,0,none⟩) (Nat.lt_of_lt_of_le hBs hn₀)).trans hc
  rcases hI.below (hW.mono hn₀) with ⟨rfl,rfl⟩ | ⟨b,cap,rfl,hb,hcs⟩
  · exact (back1_nil_in F n h8 hro l Bs J W hc' h0).mono fun e W' ⟨he,hj⟩ => ⟨he,.inl ⟨_,rfl,hj⟩⟩
  · exact back1_in F n h8 hro hn l Bs n₀ b zs.length cap zs hreach hb J Jx hY W hc' hBs hcs h0
theorem atom_p (T : List Tok) (n : Nat) (hl : T.length ≤ 400) (hE : EXPP T n) (w : World) (rb : Nat) (s : ByteArray) (H : Nat → Option Obj) (st : St) (ex : Ex) (st' : St)
    (hs : atomS (expS T n) T st = some (ex,st')) (h : PSt exKw w rb s T st) (hz : Fz H w) (hr : H rb = none) :
    Calls Tryz.prog 146 #[rdV rb] w fun e w' => EOut w w' rb s T H st.k st' e ex := by
  have hlt := h.lt
  have hss := h.size
  have hneg := h.neg
  have hsl : s.data.toList.length = s.size := by rw [Array.length_toList]; rfl
  have HP := hid (h.alloc (.cells #[.pointer (some ⟨rb,0,none⟩)] 153))
  have HZ := hid (hz.alloc (.cells #[.pointer (some ⟨rb,0,none⟩)] 153))
  have HE := hid hE
  have HS := hid hs
  have K0 := hid ((Kept.refl rb w).alloc (.cells #[.pointer (some ⟨rb,0,none⟩)] 153))
  clear h hz hE hs
  unfold rdV
  go_enter Tryz.func146,Tryz.ntmps146
  go_wp2_with fail
  refine (isName_p _ rb s T st HP.out).mono ?_
  rintro e w1 ⟨rfl,g1⟩
  have bx1 : w1.cell? ⟨w.heap.size,0,none⟩ = some (.pointer (some ⟨rb,0,none⟩)) := by
    rw [World.cell?_of_block (a := ⟨w.heap.size,0,none⟩) (g1.block w.heap.size (by simp) (by simp))]
    simp [go_sem]
  have hw1 : w.heap.size < w1.heap.size := by have := g1.size; simp at this; omega
  have p1 := HP.out.grown g1
  have K1 := hid (K0.out.trans (Kept.of0 rb g1))
  have Z1 := hid (HZ.out.grown g1)
  clear g1 HP HZ K0
  obtain ⟨J,hat,hrd⟩ := p1.place
  have ha := asked exKw exKw_ok s.data.toList J hat.1
  have P1 := hid p1
  have hlt1 := p1.lt
  clear p1
  cases hi : isS T st kName with
  | true =>
    have hk := isS_is hi
    have hnx := hat.next exKw_ok (by rw [hk]; decide) (by rw [hk]; decide)
    have hre := ha.real (by rw [← hat.tk,hk]; decide) (by rw [← hat.tk,hk]; decide)
    have HN := hid hnx.1
    have HJ := hid (show J + (nxT s.data.toList J).length ≤ s.size by rw [← hsl]; exact hnx.2)
    have HT := hid (show nxT s.data.toList J = (tk T st.k).s by rw [hat.tk]; exact hre.1)
    have HO := hid (show (tk T st.k).pos = J by rw [hat.tk,ha.pos])
    have RD := hid hrd
    obtain ⟨_,_,_,c3,_,_,_⟩ := four_p hrd
    have e4 := HS.out
    unfold atomS at e4
    rw [if_pos (Or.inl hi)] at e4
    cases e4
    have HK := hid hk
    clear hat hrd ha hi hk hnx hre
    go_wp2_with fail
    go_region_with (first | (go_at_call 143; refine (above_0 _).mono ?_; rintro e wA ⟨rfl,gA⟩; have GA := hid gA; have bxA := (World.cell?_of_block (a := ⟨w.heap.size,0,none⟩) (gA.block w.heap.size (by show _ < _; first | (show w.heap.size < w1.heap.size; omega) | omega) (by simp))).trans (by first | exact bx1 | assumption); clear gA) | (go_at_call 125; refine (take_p _ rb s J hss (by first | exact RD.out | exact Rdr.grown (w := w1.drew) RD.out GA.out) HJ.out).mono ?_; rintro e wT ⟨rfl,rT,kT⟩; have hwT : w1.heap.size ≤ wT.heap.size := (by first | exact kT.size | exact Nat.le_trans GA.out.size kT.size); have bxT := (kept_cell kT (b := w.heap.size) (o := 0) (by first | (show w.heap.size < w1.heap.size; omega) | (exact Nat.lt_of_lt_of_le hw1 GA.out.size)) (by omega)).trans (by first | exact bx1 | assumption); have RT := hid rT; have KT := hid kT; clear rT kT))
    all_goals
      go_wp2
      go_ret
      rw [HK.out,← HT.out,HO.out]
      exact leaf_out ((K1.out.drew.trans (Kept.of0 rb GA.out)).trans KT.out) ⟨hneg,⟨_,HN.out,RT.out⟩,hss⟩ ((Z1.out.drew.grown GA.out).kept KT.out hr) kName _ _ _ (Or.inl ⟨rfl,rfl⟩)
  | false =>
    have hn := ha.num
    rw [← hat.tk] at hn
    obtain ⟨c0,c1,c2,c3,f1,f2,f3⟩ := four_p hrd
    clear c0 c2 c3 f1 f2 f3
    by_cases hk3 : nxK s.data.toList J = 3
    · have hk := hn.1 hk3
      rw [hk3] at c1
      have hnx := hat.next exKw_ok (by rw [hk]; decide) (by rw [hk]; decide)
      have hre := ha.real (by rw [← hat.tk,hk]; decide) (by rw [← hat.tk,hk]; decide)
      have HN := hid hnx.1
      have HJ := hid (show J + (nxT s.data.toList J).length ≤ s.size by rw [← hsl]; exact hnx.2)
      have HT := hid (show nxT s.data.toList J = (tk T st.k).s by rw [hat.tk]; exact hre.1)
      have RD := hid hrd
      have e4 := HS.out
      unfold atomS at e4
      rw [if_pos (Or.inr (by simp [isS,hneg,hk]))] at e4
      cases e4
      have HK := hid hk
      clear hat hrd ha hi hk hnx hre hn hk3
      go_wp2_with fail
      go_region_with (first | (go_at_call 143; refine (above_0 _).mono ?_; rintro e wA ⟨rfl,gA⟩; have GA := hid gA; have bxA := (World.cell?_of_block (a := ⟨w.heap.size,0,none⟩) (gA.block w.heap.size (by show _ < _; first | (show w.heap.size < w1.heap.size; omega) | omega) (by simp))).trans (by first | exact bx1 | assumption); clear gA) | (go_at_call 125; refine (take_p _ rb s J hss (by first | exact RD.out | exact Rdr.grown (w := w1.drew) RD.out GA.out) HJ.out).mono ?_; rintro e wT ⟨rfl,rT,kT⟩; have hwT : w1.heap.size ≤ wT.heap.size := (by first | exact kT.size | exact Nat.le_trans GA.out.size kT.size); have bxT := (kept_cell kT (b := w.heap.size) (o := 0) (by first | (show w.heap.size < w1.heap.size; omega) | (exact Nat.lt_of_lt_of_le hw1 GA.out.size)) (by omega)).trans (by first | exact bx1 | assumption); have RT := hid rT; have KT := hid kT; clear rT kT))
      all_goals
        go_wp2
        go_ret
        rw [HK.out,← HT.out]
        exact leaf_out ((K1.out.drew.trans (Kept.of0 rb GA.out)).trans KT.out) ⟨hneg,⟨_,HN.out,RT.out⟩,hss⟩ ((Z1.out.drew.grown GA.out).kept KT.out hr) kNum _ _ _ (Or.inr ⟨rfl,rfl⟩)
    · have hq : (((nxK s.data.toList J : Nat) : Int) == 3) = false := by simp; omega
      have hkn : isS T st kNum = false := by
        have : ¬ (tk T st.k).is = kNum := fun e => hk3 (hn.2 e)
        simp [isS,this]
      have e4 := HS.out
      unfold atomS at e4
      rw [if_neg (by rw [hi,hkn]; decide)] at e4
      have HA := hid e4
      clear hat hrd ha hi hn hk3 hkn e4
      generalize nxK s.data.toList J = kk at *
      go_wp2_with fail
      refine (must_p exKw exKw_ok _ rb s T st kOpen P1.out (Or.inr (by decide))).mono ?_
      rintro e w2 ⟨k2,(⟨rfl,p2⟩ | ⟨hb,b,rfl,hrf⟩)⟩
      case inr =>
        have e4 := HA.out
        cases hx : expS T n (needS T st kOpen) with
        | none => rw [hx] at e4; cases e4
        | some q =>
        obtain ⟨x,s1⟩ := q
        rw [hx] at e4
        have e5 := exp_bad_st hb hx
        rw [e5] at e4
        dsimp only at e4
        rw [if_neg (by rw [isS_bad hb]; decide),need_bad hb] at e4
        cases e4
        unfold refusal
        go_wp2
        exact ⟨rfl,K1.out.trans k2,Or.inr ⟨hb,b,rfl,hrf⟩⟩
      case inl =>
      have bx2 : w2.cell? ⟨w.heap.size,0,none⟩ = some (.pointer (some ⟨rb,0,none⟩)) := by
        rw [kept_cell k2 hw1 (by omega)]
        exact bx1
      have hw2 : w1.heap.size ≤ w2.heap.size := k2.size
      have hn := need_good p2.neg
      have P2 := hid p2
      have K2 := hid (K1.out.trans k2)
      have Z2 := hid (Z1.out.kept k2 hr)
      clear p2 k2 bx1
      have e4 := HA.out
      cases hx : expS T n (needS T st kOpen) with
      | none => rw [hx] at e4; cases e4
      | some q =>
      obtain ⟨x,s1⟩ := q
      rw [hx] at e4
      have HX := hid hx
      have HY := hid e4
      clear e4 hx c1
      go_wp2_with fail
      refine (bracketed_p T n hl HE.out _ rb s H _ x s1 ex st' (tk T st.k).pos HX.out HY.out P2.out Z2.out hr).mono ?_
      rintro e w3 ⟨k3,(⟨v2,H3,m2,rfl,p3,z3,e3,r3,d3⟩ | ⟨hb,b,rfl,hrf⟩)⟩
      case inr =>
        unfold refusal
        go_wp2
        exact ⟨rfl,K2.out.trans k3,Or.inr ⟨hb,b,rfl,hrf⟩⟩
      case inl =>
      have Q := hid (And.intro p3 (And.intro (K2.out.trans k3) (And.intro z3 (And.intro (e3.from (n := w.heap.size) (by omega)) (And.intro r3 d3)))))
      clear p3 k3 z3 e3 r3 d3
      go_wp2
      go_ret
      obtain ⟨p3,k3,z3,e3,r3,d3⟩ := Q.out
      exact ⟨k3,Or.inl ⟨_,H3,m2,rfl,p3,z3,e3,r3,by omega⟩⟩
end Go.Proofs.YtcdijppegfcoaabGreatDoor
