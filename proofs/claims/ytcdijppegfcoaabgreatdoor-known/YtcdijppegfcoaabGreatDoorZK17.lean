import Derived.Test.YtcdijppegfcoaabGreatDoorZK16
import Derived.Test.YtcdijppegfcoaabGreatDoorZK10
import Derived.RangeFuncNested
import Derived.RangeFuncBound
import Derived.RangeFuncCalls
import Derived.RangeFuncLeaves
import Derived.Shelf.Abstract
import Derived.Shelf.RegionOpen
import Derived.WalkKit
import Derived.OwnWalkIn
import Derived.TacticsInMore
import Derived.LoopNIn
import Derived.LoopIn
import Derived.Test.YtcdijppegfcoaabGreatDoorZK11
import Derived.Test.YtcdijppegfcoaabGreatDoorZK02
import Derived.Test.YtcdijppegfcoaabGreatDoorZK07
set_option maxRecDepth 100000
set_option maxHeartbeats 8000000
namespace Go.Proofs.YtcdijppegfcoaabGreatDoor
open Go.RowKit
theorem mk_far (w : World) : (Instr.makeMap 359 none).run Tryz.prog w = .ok (.map (some w.heap.size)) (w.alloc (.map #[] 0)) := by kernel_rfl
def EQP (H : Nat → Option Obj) (ca : List Nat) (r : Option Sto) (w : World) (e : Ending) (w' : World) : Prop :=
  Gb (InAs ca) w w' ∧ match r with
    | none => e = .returned (.bool false)
    | some σ' => e = .returned (.bool true) ∧ ∃ d',CSd H ca σ' d' w'
theorem cequal_any {H : Nat → Option Obj} {ca : List Nat} {σ : Sto} {d : Nat → Nat} {a b x y : Nat} {r : Option Sto} {w : World} (ea : ca[a]? = some x) (eb : ca[b]? = some y) (hr : equalS a b σ = some r) (hc : CSd H ca σ d w) :
    Calls Tryz.prog 194 #[CP x,CP y] w (EQP H ca r w) := by
  unfold equalS at hr
  cases ej : joinS (σ.rep.length + 1) a b σ with
  | none => rw [ej] at hr; cases hr
  | some rj =>
    rw [ej] at hr
    have CJ := hid (fun (W : World) (hW : CSd H ca σ d W) => join_any (σ.rep.length + 1) a b x y σ d rj W ea eb ej hW)
    have HC := hid hc
    have EA := hid ea
    have HR := hid hr
    clear hr hc ea eb ej
    unfold CI at CJ
    unfold CP
    cases rj with
    | none =>
      have er := (Option.some.inj HR.out).symm
      subst er
      go_enter Tryz.func194,Tryz.ntmps194
      go_wp2_with fail
      refine (CJ.out _ HC.out).mono ?_
      rintro e w1 ⟨g1,rfl⟩
      have G1 := hid g1
      clear g1 CJ HC
      go_wp2
      go_ret
      exact ⟨G1.out,rfl⟩
    | some σ1 =>
      go_enter Tryz.func194,Tryz.ntmps194
      go_wp2_with fail
      refine (CJ.out _ HC.out).mono ?_
      rintro e w1 ⟨g1,rfl,d1,c1⟩
      have hr := HR.out
      cases el : loopsS σ1 (σ.rep.length + 1) a [] with
      | none => rw [el] at hr; cases hr
      | some rl =>
        rw [el] at hr
        have hmk := mk_far w1
        have ga : w1.grownBy (w1.alloc (.map #[] 0)) none := World.grownBy_alloc _ _ _
        have hma : w1.heap.size ∉ ca := fun h => by have := InAs.lt c1 h; omega
        have CL := hid (loops_any (σ := σ1) (d := d1) (c1.fz.none (Nat.le_refl _)) hma (σ.rep.length + 1) a x [] rl (w1.alloc (.map #[] 0)) EA.out el (c1.grown0 ga) GM.new (fun p hp => by cases hp))
        have G1 := hid (And.intro g1 (And.intro c1 hma))
        unfold CI at CL
        clear g1 c1 CJ HC el ga hma
        cases rl with
        | none =>
          have er := (Option.some.inj hr).symm
          subst er
          clear hr HR
          go_wp2_with fail
          refine CL.out.mono ?_
          rintro e w2 ⟨g2,rfl⟩
          have G2 := hid g2
          clear g2 CL
          go_wp2
          go_ret
          exact ⟨(G1.out.1.tr (Gb.new (World.grownBy_alloc _ _ _))).trans G2.out (fun i h => h.imp id (fun e => by have := G1.out.1.size; omega)),rfl⟩
        | some fl =>
          have er := (Option.some.inj hr).symm
          subst er
          clear hr HR
          go_wp2_with fail
          refine CL.out.mono ?_
          rintro e w2 ⟨g2,rfl,c2,_⟩
          have G2 := hid (And.intro g2 c2)
          clear g2 c2 CL
          go_wp2
          go_ret
          exact ⟨(G1.out.1.tr (Gb.new (World.grownBy_alloc _ _ _))).trans G2.out.1 (fun i h => h.imp id (fun e => by have := G1.out.1.size; omega)),rfl,d1,G2.out.2⟩
end Go.Proofs.YtcdijppegfcoaabGreatDoor
namespace Go.Proofs.YtcdijppegfcoaabGreatDoor
open Go.RowKit Go.Shelf
attribute [local go_sem] Oper.semAt_some
def NE : Type := List UInt8 × TypeId × Nat
def NE.v (x : NE) : Value := .iface x.2.1 (.pointer (some ⟨x.2.2,0,none⟩))
def NE.at (vs : List NE) (j : Nat) : NE := (vs[j]?).getD (([],0,0) : List UInt8 × TypeId × Nat)
def nmCells : List NE → List Value
  | [] => []
  | p :: l => .string (B p.1) :: p.v :: nmCells l
def bupto (vs : List NE) (n : Nat) (k : Nat) : List (Nat × NE) := (List.range k).map fun j => (n - 1 - j,NE.at vs (n - 1 - j))
theorem bupto_succ (vs : List NE) (n k : Nat) : bupto vs n (k + 1) = bupto vs n k ++ [(n - 1 - k,NE.at vs (n - 1 - k))] := by simp [bupto,List.range_succ]
theorem bupto_length (vs : List NE) (n k : Nat) : (bupto vs n k).length = k := by simp [bupto]
theorem back1_in (F : Fence) (n : Nat) (h8 : F.fn 193) (hro : F.round = none) (hn : 1 ≤ n) (l Bs n₀ b len cap : Nat) (vs : List NE) (hreach : len * 24 ≤ 140737488351232) (hb : b < n₀) (J Jx : List (Nat × NE) → World → Prop)
    (hY : ∀ pre (x : Nat × NE) W,J pre W → pre.length < len → YieldAt F (n - 1) Tryz.prog l #[.int .i64 (x.1 : Int),.agg #[.string (B x.2.1),.iface x.2.2.1 (.pointer (some ⟨x.2.2.2,0,none⟩))]] W fun e W' =>
      (e = .returned (.bool true) ∧ J (pre ++ [x]) W' ∧ Below n₀ W W') ∨ (e = .returned (.bool false) ∧ Jx (pre ++ [x]) W'))
    (W : World) (hBs : W.cell? ⟨Bs,0,none⟩ = some (.slice (some ⟨b,0,none⟩) len cap)) (hBl : Bs < n₀) (hc : ∀ j,j < len → W.cell? ⟨b,j * 2,none⟩ = some (.string (B (NE.at vs j).1)) ∧ W.cell? ⟨b,j * 2 + 1,none⟩ = some (.iface (NE.at vs j).2.1 (.pointer (some ⟨(NE.at vs j).2.2,0,none⟩)))) (h0 : J [] W) :
    CallsIn F n Tryz.prog 193 #[.func (.yield l) #[] #[],.pointer (some ⟨Bs,0,none⟩)] W fun e W' => (∃ v,e = .returned v) ∧
      ((∃ ys,ys = bupto vs len len ∧ J ys W') ∨ (∃ pre,(∃ k,k ≤ len ∧ pre = bupto vs len k) ∧ Jx pre W')) := by
  refine callsIn_of_wp Tryz.func193 rfl h8 ?_ hro
  simp only [Tryz.ntmps193,List.size_toArray,List.length_cons,List.length_nil,Nat.reduceAdd,Nat.reduceSub,Array.replicate_succ,Array.replicate_zero,List.push_toArray,List.append_toArray,List.nil_append,List.cons_append]
  gi_wp2
  gi_loopw [3] (fun i wr => ∃ k : Nat,k ≤ len ∧ i = .int .i64 ((k : Int) - 1) ∧ J (bupto vs len (len - k)) wr ∧ Below n₀ W wr)
    (fun i _ => (intOf i + 1).toNat)
  case atStart => exact ⟨len,Nat.le_refl _,rfl,by simpa [bupto] using h0,Below.refl _ _⟩
  case round =>
    obtain ⟨k,hk,rfl,hJs,hnx⟩ := hrel
    have hBs' := (hnx.cell (p := ⟨Bs,0,none⟩) hBl).trans hBs
    cases k with
    | zero =>
      rw [show (((0 : Nat) : Int) - 1) = -1 by omega]
      rw [Nat.sub_zero] at hJs
      gi_wp2
      go_end0
      exact ⟨⟨_,rfl⟩,.inl ⟨_,rfl,hJs⟩⟩
    | succ k =>
      rw [show (((k + 1 : Nat) : Int) - 1) = (k : Int) by omega]
      have hcx := hc k (by omega)
      have hc1 : wr.cell? ⟨b,k * 2,none⟩ = some (.string (B (NE.at vs k).1)) := (hnx.cell (p := ⟨b,k * 2,none⟩) hb).trans hcx.1
      have hc2 : wr.cell? ⟨b,k * 2 + 1,none⟩ = some (.iface (NE.at vs k).2.1 (.pointer (some ⟨(NE.at vs k).2.2,0,none⟩))) := (hnx.cell (p := ⟨b,k * 2 + 1,none⟩) hb).trans hcx.2
      obtain ⟨fn,tmps,assign,body,hy,hR⟩ := hY _ (k,NE.at vs k) wr hJs (by rw [bupto_length]; omega)
      dsimp only at hy
      gi_wp2
      refine hR.mono ?_
      rintro e W3 (⟨rfl,hJ3,hk3⟩ | ⟨rfl,hJx3⟩)
      · gi_wp2
        go_roundw
        case rel => exact ⟨k,by omega,rfl,by rw [show len - k = len - (k + 1) + 1 by omega,bupto_succ,show len - 1 - (len - (k + 1)) = k by omega]; exact hJ3,hnx.trans hk3⟩
        case measure => simp [intOf]
      · gi_wp2
        refine bodyPost_ret (results_none rfl _ _ _) rfl ?_
        exact ⟨⟨_,rfl⟩,.inr ⟨_,⟨len - (k + 1) + 1,by omega,by rw [bupto_succ,show len - 1 - (len - (k + 1)) = k by omega]⟩,hJx3⟩⟩
theorem back1_nil_in (F : Fence) (n : Nat) (h8 : F.fn 193) (hro : F.round = none) (l Bs : Nat) (J : List (Nat × NE) → World → Prop) (W : World) (hBs : W.cell? ⟨Bs,0,none⟩ = some (.slice none 0 0)) (h0 : J [] W) :
    CallsIn F n Tryz.prog 193 #[.func (.yield l) #[] #[],.pointer (some ⟨Bs,0,none⟩)] W fun e W' => (∃ v,e = .returned v) ∧ J [] W' := by
  refine callsIn_of_wp Tryz.func193 rfl h8 ?_ hro
  simp only [Tryz.ntmps193,List.size_toArray,List.length_cons,List.length_nil,Nat.reduceAdd,Nat.reduceSub,Array.replicate_succ,Array.replicate_zero,List.push_toArray,List.append_toArray,List.nil_append,List.cons_append]
  gi_wp2
  gi_loopw [3] (fun i wr => i = .int .i64 (-1) ∧ J [] wr) (fun _ _ => 0)
  case atStart => exact ⟨rfl,h0⟩
  case round =>
    obtain ⟨rfl,hJs⟩ := hrel
    gi_wp2
    go_end0
    exact ⟨⟨_,rfl⟩,hJs⟩
theorem back_in (F : Fence) (n : Nat) (h6 : F.fn 182) (hro : F.round = none) (a : Option Addr) (len cap : Nat) (w : World) :
    CallsIn F n Tryz.prog 182 #[.slice a len cap] w fun e w' => e = .returned (.func (.func 193) #[] #[.pointer (some ⟨w.heap.size,0,none⟩)]) ∧ w' = w.alloc (.cells #[.slice a len cap] 169) := by
  refine callsIn_of_wp Tryz.func182 rfl h6 ?_ hro
  simp only [Tryz.ntmps182,List.size_toArray,List.length_cons,List.length_nil,Nat.reduceAdd,Nat.reduceSub,Array.replicate_succ,Array.replicate_zero,List.push_toArray,List.append_toArray,List.nil_append,List.cons_append]
  gi_wp2
  go_ret
  exact ⟨rfl,rfl⟩
def NIs (n₀ : Nat) (W : World) (sv : Value) (vs : List NE) : Prop :=
  (sv = .slice none 0 0 ∧ vs = []) ∨ ∃ b cap,sv = .slice (some ⟨b,0,none⟩) vs.length cap ∧ b < n₀ ∧ ∀ j,j < vs.length → W.cell? ⟨b,j * 2,none⟩ = some (.string (B (NE.at vs j).1)) ∧ W.cell? ⟨b,j * 2 + 1,none⟩ = some (.iface (NE.at vs j).2.1 (.pointer (some ⟨(NE.at vs j).2.2,0,none⟩)))
theorem NIs.below {n₀ : Nat} {A B : World} (h : Below n₀ A B) {sv : Value} {zs : List NE} : NIs n₀ A sv zs → NIs n₀ B sv zs
  | .inl e => .inl e
  | .inr ⟨b,cap,e,hb,hc⟩ => .inr ⟨b,cap,e,hb,fun j hj => ⟨(h.cell (p := ⟨b,j * 2,none⟩) hb).trans (hc j hj).1,(h.cell (p := ⟨b,j * 2 + 1,none⟩) hb).trans (hc j hj).2⟩⟩
theorem back_stops (F : Fence) (n : Nat) (h8 : F.fn 193) (hro : F.round = none) (hn : 1 ≤ n) (Bs n₀ : Nat) (sv : Value) (zs : List NE) (hreach : zs.length * 24 ≤ 140737488351232) (w : World) (hBs : Bs < n₀) (hn₀ : n₀ ≤ w.heap.size)
    (hc : w.cell? ⟨Bs,0,none⟩ = some sv) (hI : NIs n₀ w sv zs) :
    SeqStopsK F n Tryz.prog 193 #[.pointer (some ⟨Bs,0,none⟩)] (fun x : Nat × NE => #[.int .i64 (x.1 : Int),.agg #[.string (B x.2.1),.iface x.2.2.1 (.pointer (some ⟨x.2.2.2,0,none⟩))]]) (Below n₀) (fun ys => ys = bupto zs zs.length zs.length)
      (fun pre => ∃ k,k ≤ zs.length ∧ pre = bupto zs zs.length k) zs.length w := fun l J Jx W hW _ _ hY h0 => by
  have hc' := (hW.cell (p := ⟨Bs,0,none⟩) (Nat.lt_of_lt_of_le hBs hn₀)).trans hc
  rcases hI.below (hW.mono hn₀) with ⟨rfl,rfl⟩ | ⟨b,cap,rfl,hb,hcs⟩
  · exact (back1_nil_in F n h8 hro l Bs J W hc' h0).mono fun e W' ⟨he,hj⟩ => ⟨he,.inl ⟨_,rfl,hj⟩⟩
  · exact back1_in F n h8 hro hn l Bs n₀ b zs.length cap zs hreach hb J Jx hY W hc' hBs hcs h0
theorem atom_p (T : List Tok) (n : Nat) (hl : T.length ≤ 400) (hE : EXPP T n) (w : World) (rb : Nat) (s : ByteArray) (H : Nat → Option Obj) (st : St) (ex : Ex) (st' : St)
    (hs : atomS (expS T n) T st = some (ex,st')) (h : PSt exKw w rb s T st) (hz : Fz H w) (hr : H rb = none) :
    Calls Tryz.prog 146 #[rdV rb] w fun e w' => EOut w w' rb s T H st.k st' e ex := by
  have hlt := h.lt
  have hss := h.size
  have hneg := h.neg
  have hsl : s.data.toList.length = s.size := by rw [Array.length_toList]; rfl
  have HP := hid (h.alloc (.cells #[.pointer (some ⟨rb,0,none⟩)] 153))
  have HZ := hid (hz.alloc (.cells #[.pointer (some ⟨rb,0,none⟩)] 153))
  have HE := hid hE
  have HS := hid hs
  have K0 := hid ((Kept.refl rb w).alloc (.cells #[.pointer (some ⟨rb,0,none⟩)] 153))
  clear h hz hE hs
  unfold rdV
  go_enter Tryz.func146,Tryz.ntmps146
  go_wp2_with fail
  refine (isName_p _ rb s T st HP.out).mono ?_
  rintro e w1 ⟨rfl,g1⟩
  have bx1 : w1.cell? ⟨w.heap.size,0,none⟩ = some (.pointer (some ⟨rb,0,none⟩)) := by
    rw [World.cell?_of_block (a := ⟨w.heap.size,0,none⟩) (g1.block w.heap.size (by simp) (by simp))]
    simp [go_sem]
  have hw1 : w.heap.size < w1.heap.size := by have := g1.size; simp at this; omega
  have p1 := HP.out.grown g1
  have K1 := hid (K0.out.trans (Kept.of0 rb g1))
  have Z1 := hid (HZ.out.grown g1)
  clear g1 HP HZ K0
  obtain ⟨J,hat,hrd⟩ := p1.place
  have ha := asked exKw exKw_ok s.data.toList J hat.1
  have P1 := hid p1
  have hlt1 := p1.lt
  clear p1
  cases hi : isS T st kName with
  | true =>
    have hk := isS_is hi
    have hnx := hat.next exKw_ok (by rw [hk]; decide) (by rw [hk]; decide)
    have hre := ha.real (by rw [← hat.tk,hk]; decide) (by rw [← hat.tk,hk]; decide)
    have HN := hid hnx.1
    have HJ := hid (show J + (nxT s.data.toList J).length ≤ s.size by rw [← hsl]; exact hnx.2)
    have HT := hid (show nxT s.data.toList J = (tk T st.k).s by rw [hat.tk]; exact hre.1)
    have HO := hid (show (tk T st.k).pos = J by rw [hat.tk,ha.pos])
    have RD := hid hrd
    obtain ⟨_,_,_,c3,_,_,_⟩ := four_p hrd
    have e4 := HS.out
    unfold atomS at e4
    rw [if_pos (Or.inl hi)] at e4
    cases e4
    have HK := hid hk
    clear hat hrd ha hi hk hnx hre
    go_wp2_with fail
    go_region_with (first | (go_at_call 143; refine (above_0 _).mono ?_; rintro e wA ⟨rfl,gA⟩; have GA := hid gA; have bxA := (World.cell?_of_block (a := ⟨w.heap.size,0,none⟩) (gA.block w.heap.size (by show _ < _; first | (show w.heap.size < w1.heap.size; omega) | omega) (by simp))).trans (by first | exact bx1 | assumption); clear gA) | (go_at_call 125; refine (take_p _ rb s J hss (by first | exact RD.out | exact Rdr.grown (w := w1.drew) RD.out GA.out) HJ.out).mono ?_; rintro e wT ⟨rfl,rT,kT⟩; have hwT : w1.heap.size ≤ wT.heap.size := (by first | exact kT.size | exact Nat.le_trans GA.out.size kT.size); have bxT := (kept_cell kT (b := w.heap.size) (o := 0) (by first | (show w.heap.size < w1.heap.size; omega) | (exact Nat.lt_of_lt_of_le hw1 GA.out.size)) (by omega)).trans (by first | exact bx1 | assumption); have RT := hid rT; have KT := hid kT; clear rT kT))
    all_goals
      go_wp2
      go_ret
      rw [HK.out,← HT.out,HO.out]
      exact leaf_out ((K1.out.drew.trans (Kept.of0 rb GA.out)).trans KT.out) ⟨hneg,⟨_,HN.out,RT.out⟩,hss⟩ ((Z1.out.drew.grown GA.out).kept KT.out hr) kName _ _ _ (Or.inl ⟨rfl,rfl⟩)
  | false =>
    have hn := ha.num
    rw [← hat.tk] at hn
    obtain ⟨c0,c1,c2,c3,f1,f2,f3⟩ := four_p hrd
    clear c0 c2 c3 f1 f2 f3
    by_cases hk3 : nxK s.data.toList J = 3
    · have hk := hn.1 hk3
      rw [hk3] at c1
      have hnx := hat.next exKw_ok (by rw [hk]; decide) (by rw [hk]; decide)
      have hre := ha.real (by rw [← hat.tk,hk]; decide) (by rw [← hat.tk,hk]; decide)
      have HN := hid hnx.1
      have HJ := hid (show J + (nxT s.data.toList J).length ≤ s.size by rw [← hsl]; exact hnx.2)
      have HT := hid (show nxT s.data.toList J = (tk T st.k).s by rw [hat.tk]; exact hre.1)
      have RD := hid hrd
      have e4 := HS.out
      unfold atomS at e4
      rw [if_pos (Or.inr (by simp [isS,hneg,hk]))] at e4
      cases e4
      have HK := hid hk
      clear hat hrd ha hi hk hnx hre hn hk3
      go_wp2_with fail
      go_region_with (first | (go_at_call 143; refine (above_0 _).mono ?_; rintro e wA ⟨rfl,gA⟩; have GA := hid gA; have bxA := (World.cell?_of_block (a := ⟨w.heap.size,0,none⟩) (gA.block w.heap.size (by show _ < _; first | (show w.heap.size < w1.heap.size; omega) | omega) (by simp))).trans (by first | exact bx1 | assumption); clear gA) | (go_at_call 125; refine (take_p _ rb s J hss (by first | exact RD.out | exact Rdr.grown (w := w1.drew) RD.out GA.out) HJ.out).mono ?_; rintro e wT ⟨rfl,rT,kT⟩; have hwT : w1.heap.size ≤ wT.heap.size := (by first | exact kT.size | exact Nat.le_trans GA.out.size kT.size); have bxT := (kept_cell kT (b := w.heap.size) (o := 0) (by first | (show w.heap.size < w1.heap.size; omega) | (exact Nat.lt_of_lt_of_le hw1 GA.out.size)) (by omega)).trans (by first | exact bx1 | assumption); have RT := hid rT; have KT := hid kT; clear rT kT))
      all_goals
        go_wp2
        go_ret
        rw [HK.out,← HT.out]
        exact leaf_out ((K1.out.drew.trans (Kept.of0 rb GA.out)).trans KT.out) ⟨hneg,⟨_,HN.out,RT.out⟩,hss⟩ ((Z1.out.drew.grown GA.out).kept KT.out hr) kNum _ _ _ (Or.inr ⟨rfl,rfl⟩)
    · have hq : (((nxK s.data.toList J : Nat) : Int) == 3) = false := by simp; omega
      have hkn : isS T st kNum = false := by
        have : ¬ (tk T st.k).is = kNum := fun e => hk3 (hn.2 e)
        simp [isS,this]
      have e4 := HS.out
      unfold atomS at e4
      rw [if_neg (by rw [hi,hkn]; decide)] at e4
      have HA := hid e4
      clear hat hrd ha hi hn hk3 hkn e4
      generalize nxK s.data.toList J = kk at *
      go_wp2_with fail
      refine (must_p exKw exKw_ok _ rb s T st kOpen P1.out (Or.inr (by decide))).mono ?_
      rintro e w2 ⟨k2,(⟨rfl,p2⟩ | ⟨hb,b,rfl,hrf⟩)⟩
      case inr =>
        have e4 := HA.out
        cases hx : expS T n (needS T st kOpen) with
        | none => rw [hx] at e4; cases e4
        | some q =>
        obtain ⟨x,s1⟩ := q
        rw [hx] at e4
        have e5 := exp_bad_st hb hx
        rw [e5] at e4
        dsimp only at e4
        rw [if_neg (by rw [isS_bad hb]; decide),need_bad hb] at e4
        cases e4
        unfold refusal
        go_wp2
        exact ⟨rfl,K1.out.trans k2,Or.inr ⟨hb,b,rfl,hrf⟩⟩
      case inl =>
      have bx2 : w2.cell? ⟨w.heap.size,0,none⟩ = some (.pointer (some ⟨rb,0,none⟩)) := by
        rw [kept_cell k2 hw1 (by omega)]
        exact bx1
      have hw2 : w1.heap.size ≤ w2.heap.size := k2.size
      have hn := need_good p2.neg
      have P2 := hid p2
      have K2 := hid (K1.out.trans k2)
      have Z2 := hid (Z1.out.kept k2 hr)
      clear p2 k2 bx1
      have e4 := HA.out
      cases hx : expS T n (needS T st kOpen) with
      | none => rw [hx] at e4; cases e4
      | some q =>
      obtain ⟨x,s1⟩ := q
      rw [hx] at e4
      have HX := hid hx
      have HY := hid e4
      clear e4 hx c1
      go_wp2_with fail
      refine (bracketed_p T n hl HE.out _ rb s H _ x s1 ex st' (tk T st.k).pos HX.out HY.out P2.out Z2.out hr).mono ?_
      rintro e w3 ⟨k3,(⟨v2,H3,m2,rfl,p3,z3,e3,r3,d3⟩ | ⟨hb,b,rfl,hrf⟩)⟩
      case inr =>
        unfold refusal
        go_wp2
        exact ⟨rfl,K2.out.trans k3,Or.inr ⟨hb,b,rfl,hrf⟩⟩
      case inl =>
      have Q := hid (And.intro p3 (And.intro (K2.out.trans k3) (And.intro z3 (And.intro (e3.from (n := w.heap.size) (by omega)) (And.intro r3 d3)))))
      clear p3 k3 z3 e3 r3 d3
      go_wp2
      go_ret
      obtain ⟨p3,k3,z3,e3,r3,d3⟩ := Q.out
      exact ⟨k3,Or.inl ⟨_,H3,m2,rfl,p3,z3,e3,r3,by omega⟩⟩
theorem app_bad {A : St → Option (Ex × St)} {T : List Tok} {f : Nat} {x : Ex} {st : St} {ex : Ex} {st' : St} (hb : 0 ≤ st.bad) (h : appS A T f x st = some (ex,st')) : st' = st := by
  cases f with
  | zero => simp [appS] at h
  | succ f =>
    rw [appS,if_neg (by rw [isS_bad hb,isS_bad hb,isS_bad hb]; decide)] at h
    cases h
    rfl
theorem applied_p (T : List Tok) (n : Nat) (hl : T.length ≤ 400) (hE : EXPP T n) (w : World) (rb : Nat) (s : ByteArray) (H : Nat → Option Obj) (st : St) (x : Ex) (s1 : St) (ex : Ex) (st' : St)
    (hs : atomS (expS T n) T st = some (x,s1)) (ha : appS (atomS (expS T n) T) T (T.length + 1) x s1 = some (ex,st')) (h : PSt exKw w rb s T st) (hz : Fz H w) (hr : H rb = none) :
    Calls Tryz.prog 114 #[rdV rb] w fun e w' => EOut w w' rb s T H st.k st' e ex := by
  have hlt := h.lt
  have HP := hid (h.alloc (.cells #[.pointer (some ⟨rb,0,none⟩)] 153))
  have HZ := hid (hz.alloc (.cells #[.pointer (some ⟨rb,0,none⟩)] 153))
  have HE := hid hE
  have HS := hid hs
  have HA := hid ha
  have K0 := hid ((Kept.refl rb w).alloc (.cells #[.pointer (some ⟨rb,0,none⟩)] 153))
  clear h hz hE hs ha
  unfold rdV
  go_enter Tryz.func114,Tryz.ntmps114
  go_wp2_with fail
  refine (atom_p T n hl HE.out _ rb s H st x s1 HS.out HP.out HZ.out hr).mono ?_
  rintro e w1 ⟨k1,(⟨v1,H1,m1,rfl,p1,z1,e1,r1,d1⟩ | ⟨hb,b,rfl,hrf⟩)⟩
  case inr =>
    have e4 := app_bad hb HA.out
    unfold refusal
    go_wp2
    exact ⟨rfl,K0.out.trans k1,Or.inr ⟨by rw [e4]; exact hb,b,rfl,by rw [e4]; exact hrf⟩⟩
  case inl =>
  obtain ⟨t1,b1,ht1,rfl,hb1,hc1⟩ := r1.dat z1
  have bx1 : w1.cell? ⟨w.heap.size,0,none⟩ = some (.pointer (some ⟨rb,0,none⟩)) := by
    rw [kept_cell k1 (by simp) (by omega)]
    simp [go_sem]
  have hw1 : w.heap.size < w1.heap.size := by have := k1.size; simp at this; omega
  have P1 := hid p1
  have K1 := hid (K0.out.trans k1)
  have Z1 := hid z1
  have E1 := hid (e1.from (n := w.heap.size) (by simp))
  have R1 := hid r1
  have D1 := hid d1
  clear p1 k1 z1 e1 r1 d1 hb1 hc1
  go_wp2_with fail
  go_loopg [3] (T.length + 1) (fun g v wi => ∃ t b Hi m y sy,v = (.iface t (.pointer (some ⟨b,0,none⟩))) ∧ Hid (appS (atomS (expS T n) T) T g y sy = some (ex,st')) ∧ Hid (PSt exKw wi rb s T sy) ∧ Hid (Kept rb w wi) ∧ Hid (Fz Hi wi) ∧ Hid (Ext w.heap.size H Hi) ∧ Hid (PRep m Hi (.iface t (.pointer (some ⟨b,0,none⟩))) y) ∧ Hid (exDeep m y + st.k ≤ sy.k) ∧ wi.cell? ⟨w.heap.size,0,none⟩ = some (.pointer (some ⟨rb,0,none⟩)) ∧ w.heap.size < wi.heap.size)
  case atStart => exact ⟨t1,b1,H1,m1,x,s1,rfl,HA,P1,K1,Z1,E1,R1,D1,bx1,hw1⟩
  case round =>
    obtain ⟨t2,b2,H2,m2,y,sy,rfl,AA,P2,K2,Z2,E2,R2,D2,bx2,hw2⟩ := hrel
    rename World => w2
    obtain ⟨F,rfl⟩ : ∃ F,gk = F + 1 := by
      cases gk with
      | zero => have := AA.out; simp [appS] at this
      | succ F => exact ⟨F,rfl⟩
    go_wp2_with fail
    refine (isAtom_p _ rb s T sy P2.out).mono ?_
    rintro e w3 ⟨rfl,g3⟩
    have bx3 : w3.cell? ⟨w.heap.size,0,none⟩ = some (.pointer (some ⟨rb,0,none⟩)) := by
      rw [World.cell?_of_block (a := ⟨w.heap.size,0,none⟩) (g3.block w.heap.size hw2 (by simp))]
      exact bx2
    have hw3 : w2.heap.size ≤ w3.heap.size := g3.size
    have P3 := hid (P2.out.grown g3)
    have K3 := hid (K2.out.trans (Kept.of0 rb g3))
    have Z3 := hid (Z2.out.grown g3)
    have hr2 : H2 rb = none := by rw [E2.out.2 rb hlt]; exact hr
    have e4 := AA.out
    rw [appS] at e4
    clear g3 bx2 P2 K2 Z2 AA
    cases hm : moreT T sy with
    | false =>
      have hm' : ¬ (isS T sy kName = true ∨ isS T sy kNum = true ∨ isS T sy kOpen = true) := by
        simp only [moreT,Bool.or_eq_false_iff] at hm
        rw [hm.1,hm.2.1,hm.2.2]
        decide
      rw [if_neg hm'] at e4
      cases e4
      clear hm hm'
      go_wp2
      go_ret
      exact ⟨K3.out,Or.inl ⟨_,H2,m2,rfl,P3.out,Z3.out,E2.out,R2.out,D2.out⟩⟩
    | true =>
      have hm' : isS T sy kName = true ∨ isS T sy kNum = true ∨ isS T sy kOpen = true := by simpa [moreT] using hm
      rw [if_pos hm'] at e4
      cases hx : atomS (expS T n) T sy with
      | none => rw [hx] at e4; cases e4
      | some q =>
      obtain ⟨z,s4⟩ := q
      rw [hx] at e4
      have HX := hid hx
      have AA := hid e4
      clear hm hm' hx e4
      go_wp2_with fail
      refine (atom_p T n hl HE.out _ rb s H2 sy z s4 HX.out P3.out Z3.out hr2).mono ?_
      rintro e w4 ⟨k4,(⟨v2,H3,m3,rfl,p4,z4,e4,r4,d4⟩ | ⟨hb,b,rfl,hrf⟩)⟩
      case inr =>
        have e4 := app_bad hb AA.out
        unfold refusal
        go_wp2
        exact ⟨rfl,K3.out.trans k4,Or.inr ⟨by rw [e4]; exact hb,b,rfl,by rw [e4]; exact hrf⟩⟩
      case inl =>
      obtain ⟨t3,b3,ht3,rfl,hb3,hc3⟩ := r4.dat z4
      have bx4 : w4.cell? ⟨w.heap.size,0,none⟩ = some (.pointer (some ⟨rb,0,none⟩)) := by
        rw [kept_cell k4 (by omega) (by omega)]
        exact bx3
      have hw4 : w3.heap.size ≤ w4.heap.size := k4.size
      have hkk := p4.klt
      obtain ⟨M,hM⟩ : ∃ M,M = max m2 m3 := ⟨_,rfl⟩
      have RA : Hid (PRep M H3 (.iface t2 (.pointer (some ⟨b2,0,none⟩))) y) := (PRep.ext e4 _ _ _ R2.out).le (by omega)
      have RB : Hid (PRep M H3 (.iface t3 (.pointer (some ⟨b3,0,none⟩))) z) := r4.le (by omega)
      have q1 : exDeep M y = exDeep m2 y := deep_le (PRep.shape _ _ _ R2.out) (by omega)
      have q2 : exDeep M z = exDeep m3 z := deep_le (PRep.shape _ _ _ r4) (by omega)
      have D5 := hid (show max (exDeep M y) (exDeep M z) + 1 + st.k ≤ s4.k ∧ s4.k < T.length by
        have := D2.out
        have := deep_pos R2.out
        have := deep_pos r4
        omega)
      have ZA := hid (z4.alloc (.cells #[(.iface t2 (.pointer (some ⟨b2,0,none⟩))),(.iface t3 (.pointer (some ⟨b3,0,none⟩)))] 101))
      have P5 := hid p4
      have K5 := hid (K3.out.trans k4)
      have E5 := hid (E2.out.trans (e4.from (n := w.heap.size) (by omega)) (Nat.le_refl _))
      clear p4 k4 z4 e4 r4 d4 hb3 hc3 bx3 hM q1 q2
      have AB : Hid (Calls Tryz.prog 143 #[.slice (some ⟨w4.heap.size,0,none⟩) 2 2] (w4.alloc (.cells #[(.iface t2 (.pointer (some ⟨b2,0,none⟩))),(.iface t3 (.pointer (some ⟨b3,0,none⟩)))] 101)) fun e w' => e = .returned (.agg #[.int .i64 ((maxl [exDeep M y,exDeep M z] + 1 : Nat) : Int)]) ∧ (w4.alloc (.cells #[(.iface t2 (.pointer (some ⟨b2,0,none⟩))),(.iface t3 (.pointer (some ⟨b3,0,none⟩)))] 101)).grownBy w' none) :=
        above_p _ (some ⟨w4.heap.size,0,none⟩) 2 [(.iface t2 (.pointer (some ⟨b2,0,none⟩))),(.iface t3 (.pointer (some ⟨b3,0,none⟩)))] [exDeep M y,exDeep M z] rfl (by simp) (row2 (w := w4) (t := 101)) (all2 (p := fun u d => DAt _ u d) (RA.out.dat ZA.out) (RB.out.dat ZA.out)) (by have := D5.out; simp [maxl]; omega)
      go_wp2_with fail
      refine AB.out.mono ?_
      rintro e w6 ⟨rfl,g6⟩
      have bx6 : w6.cell? ⟨w.heap.size,0,none⟩ = some (.pointer (some ⟨rb,0,none⟩)) := by
        rw [World.cell?_of_block (a := ⟨w.heap.size,0,none⟩) (g6.block w.heap.size (by simp; omega) (by simp))]
        exact cell_past bx4 _
      have hw6 : w4.heap.size ≤ w6.heap.size := by have := g6.size; simp at this; omega
      have G6 := hid g6
      clear g6 bx4
      go_wp2_with fail
      go_roundg F
      case measure => omega
      case rel =>
        obtain ⟨H7,z7,x7,r7⟩ := node_rep (w := w6) (H := H3) (ZA.out.grown G6.out) ⟨oApp,[],[y,z],y.pos⟩ [(.iface t2 (.pointer (some ⟨b2,0,none⟩))),(.iface t3 (.pointer (some ⟨b3,0,none⟩)))] M (.cells #[.int .i64 ((exDeep (M + 1) ⟨oApp,[],[y,z],y.pos⟩ : Nat) : Int),(.iface t2 (.pointer (some ⟨b2,0,none⟩))),(.iface t3 (.pointer (some ⟨b3,0,none⟩)))] 197) rfl
          (kids2 (p := fun u q => PRep M H3 u q) RA.out RB.out)
          (fun H' _ h2 => Or.inr (Or.inr (Or.inr (Or.inr (Or.inr (Or.inr (Or.inl ⟨rfl,_,_,rfl,rfl,h2⟩)))))))
        refine ⟨_,_,H7,M + 1,⟨oApp,[],[y,z],y.pos⟩,s4,rfl,AA,((P5.out.alloc _).grown G6.out).alloc _,((K5.out.alloc _).trans (Kept.of0 rb G6.out)).alloc _,z7,E5.out.trans x7 (by omega),r7,?_,cell_past bx6 _,by simp; omega⟩
        have hd : exDeep (M + 1) ⟨oApp,[],[y,z],y.pos⟩ = max (exDeep M y) (exDeep M z) + 1 := by simp [exDeep,maxl]
        have := D5.out
        show exDeep (M + 1) _ + st.k ≤ s4.k
        omega
theorem str_beq (a b : List UInt8) : ((B a).toList == (B b).toList) = (a == b) := by rw [toList_B,toList_B]
theorem nofClosure (nm tt : List UInt8) (u : Value) (bx rb : Nat) (w : World) (hbx : w.cell? ⟨bx,0,none⟩ = some (.pointer (some ⟨rb,0,none⟩))) (hc2 : w.cell? ⟨rb,2,none⟩ = some (.string (B tt))) :
    Calls Tryz.prog 178 #[.agg #[.string (B nm),u],.pointer (some ⟨bx,0,none⟩)] w fun e w' => e = .returned (.bool (nm == tt)) ∧ w.grownBy w' none := by
  have a0 := fun x => cell_past hbx x
  have a2 := fun x => cell_past hc2 x
  go_enter Tryz.func178,Tryz.ntmps178
  go_wp2_with fail
  go_region
  go_wp2
  go_ret
  exact ⟨congrArg (fun b => Ending.returned (.bool b)) (str_beq nm tt),grown_drew (World.grownBy_alloc _ _ _)⟩
def GAt (w : World) (g : Nat) (ns : List (List UInt8)) (us : List Value) : Prop :=
  us.length = ns.length ∧ g < w.heap.size ∧ ∀ (i : Nat) (nm : List UInt8) (u : Value),ns[i]? = some nm → us[i]? = some u → w.cell? ⟨g,i * 2,none⟩ = some (.string (B nm)) ∧ w.cell? ⟨g,i * 2 + 1,none⟩ = some u ∧ u.oneCell' = true
theorem GAt.grown {w w' : World} {g : Nat} {ns : List (List UInt8)} {us : List Value} (h : GAt w g ns us) (hg : w.grownBy w' none) : GAt w' g ns us := by
  obtain ⟨h1,h2,h3⟩ := h
  refine ⟨h1,Nat.lt_of_lt_of_le h2 hg.size,fun i nm u e1 e2 => ?_⟩
  obtain ⟨q1,q2,q3⟩ := h3 i nm u e1 e2
  have hb := hg.block g h2 (by simp)
  exact ⟨by rw [World.cell?_of_block (a := ⟨g,i * 2,none⟩) hb]; exact q1,by rw [World.cell?_of_block (a := ⟨g,i * 2 + 1,none⟩) hb]; exact q2,q3⟩
theorem mem_step {l : List (List UInt8)} {j : Nat} {a x : List UInt8} (h : l[j]? = some a) : x ∈ l.take (j + 1) ↔ x ∈ l.take j ∨ x = a := by
  rw [List.take_add_one,h]
  simp
theorem nofIndex (tt : List UInt8) (g cap bx rb : Nat) (ns : List (List UInt8)) (us : List Value) (w : World) (hn : ns.length ≤ 400) (hg : GAt w g ns us) (hbx : w.cell? ⟨bx,0,none⟩ = some (.pointer (some ⟨rb,0,none⟩))) (hbl : bx < w.heap.size) (hc2 : w.cell? ⟨rb,2,none⟩ = some (.string (B tt))) (hrl : rb < w.heap.size) :
    Calls Tryz.prog 192 #[.slice (some ⟨g,0,none⟩) ns.length cap,.func (.func 178) #[] #[.pointer (some ⟨bx,0,none⟩)]] w fun e w' => (∃ k : Int,e = .returned (.int .i64 k) ∧ (0 ≤ k ↔ tt ∈ ns)) ∧ w.grownBy w' none := by
  have HG := hid hg
  clear hg
  go_enter Tryz.func192,Tryz.ntmps192
  go_wp2_with fail
  go_loopg [8] (ns.length + 1) (fun q i wi => ∃ j : Nat,j ≤ ns.length ∧ i = .int .i64 j ∧ q = ns.length - j + 1 ∧ tt ∉ ns.take j ∧ w.grownBy wi none)
  case atStart => exact ⟨0,by omega,rfl,by omega,by simp,World.grownBy.refl _ _⟩
  case round =>
    obtain ⟨j,hj,rfl,hq,hnot,hgr⟩ := hrel
    rename World => wi
    by_cases hlt : j < ns.length
    · obtain ⟨nm,hnm⟩ : ∃ nm,ns[j]? = some nm := ⟨ns[j],List.getElem?_eq_getElem _⟩
      have hul := HG.out.1
      obtain ⟨u,hu⟩ : ∃ u,us[j]? = some u := ⟨us[j]'(by omega),List.getElem?_eq_getElem _⟩
      obtain ⟨c0,c1,hone⟩ := (HG.out.grown hgr).2.2 j nm u hnm hu
      have d0 := hbx
      rw [← World.cell?_of_block (a := ⟨bx,0,none⟩) (hgr.block bx hbl (by simp))] at d0
      have d2 := hc2
      rw [← World.cell?_of_block (a := ⟨rb,2,none⟩) (hgr.block rb hrl (by simp))] at d2
      have hj2 : (j : Int) < (ns.length : Int) := by omega
      have HGR := hid hgr
      have HM := hid (mem_step (x := tt) hnm)
      clear hgr
      by_cases he : nm = tt
      · have hb : (nm == tt) = true := by simp [he]
        have hmem : tt ∈ ns := by rw [← he]; exact List.mem_of_getElem? hnm
        clear he
        go_wp2_with (go_at_call 178; refine (nofClosure nm tt u bx rb _ d0 d2).mono ?_; rintro e w' ⟨rfl,g7⟩; rw [hb]; have G7 := hid g7; clear g7)
        go_ret
        exact ⟨⟨(j : Int),rfl,fun _ => hmem,fun _ => Int.natCast_nonneg j⟩,HGR.out.trans G7.out⟩
      · have hb : (nm == tt) = false := by simp [he]
        go_wp2_with (go_at_call 178; refine (nofClosure nm tt u bx rb _ d0 d2).mono ?_; rintro e w' ⟨rfl,g7⟩; rw [hb]; have G7 := hid g7; clear g7)
        go_roundg (ns.length - (j + 1) + 1)
        case measure => omega
        case rel => exact ⟨j + 1,by omega,by go_num,rfl,fun h => ((HM.out).1 h).elim hnot (fun e => he e.symm),HGR.out.trans G7.out⟩
    · have hj3 : j = ns.length := by omega
      subst hj3
      rw [List.take_of_length_le (Nat.le_refl _)] at hnot
      go_wp2
      go_ret
      exact ⟨⟨-1,rfl,by simp [hnot]⟩,hgr⟩
theorem nameOf_p (w : World) (rb : Nat) (s : ByteArray) (J : Nat) (g cap : Nat) (ns : List (List UInt8)) (us : List Value) (hn : ns.length ≤ 400) (hrd : Rdr w rb s J) (hg : GAt w g ns us) :
    Calls Tryz.prog 145 #[rdV rb,.slice (some ⟨g,0,none⟩) ns.length cap] w fun e w' => e = .returned (.bool (decide (nxT s.data.toList J ∈ ns))) ∧ w.grownBy w' none := by
  have hmf : ∀ (fn : Fn) (first cap : Array Value) (w : World),(Instr.makeFunc fn first cap).run Tryz.prog w = .ok (.func fn first cap) w := fun _ _ _ _ => rfl
  have hlt := lt_of_block hrd
  obtain ⟨c0,c1,c2,c3,f1,f2,f3⟩ := four_p hrd
  generalize nxT s.data.toList J = tt at *
  have HIX := hid (nofIndex tt g cap w.heap.size rb ns us (w.alloc (.cells #[.pointer (some ⟨rb,0,none⟩)] 153)) hn (hg.grown (World.grownBy_alloc _ _ _)) (by simp [go_sem]) (by simp) (cell_past c2 _) (by simp; omega))
  clear c0 c1 c2 c3 f1 f2 f3 hrd hg
  unfold rdV
  by_cases hm : tt ∈ ns
  · have hd : decide (tt ∈ ns) = true := by simp [hm]
    rw [hd]
    go_enter Tryz.func145,Tryz.ntmps145
    go_wp2_with (first | (go_at_call 192; refine HIX.out.mono ?_; rintro e w' ⟨⟨k,rfl,hk⟩,g7⟩; have G7 := hid g7; have hk2 := hk.2 hm; clear g7) | go_in)
    go_ret
    exact ⟨rfl,(World.grownBy_alloc _ _ _).trans G7.out⟩
  · have hd : decide (tt ∈ ns) = false := by simp [hm]
    rw [hd]
    go_enter Tryz.func145,Tryz.ntmps145
    go_wp2_with (first | (go_at_call 192; refine HIX.out.mono ?_; rintro e w' ⟨⟨k,rfl,hk⟩,g7⟩; have G7 := hid g7; have hk2 : ¬ 0 ≤ k := fun h => hm (hk.1 h); clear g7) | go_in)
    go_ret
    exact ⟨rfl,(World.grownBy_alloc _ _ _).trans G7.out⟩
theorem binds_bad {E : St → Option (Ex × St)} {T : List Tok} {f : Nat} {x : Ex} {st : St} {y : Ex} {s2 : St} (hb : 0 ≤ st.bad) (h : bindsS E T f x st = some (y,s2)) : s2 = st := by
  cases f with
  | zero => simp [bindsS] at h
  | succ f =>
    rw [bindsS,if_neg (by rw [isS_bad hb]; simp)] at h
    cases h
    rfl
theorem bindCells_snoc : ∀ (ns : List (List UInt8)) (us : List Value) (n : List UInt8) (u : Value),us.length = ns.length → bindCells (ns ++ [n]) (us ++ [u]) = bindCells ns us ++ [.string (B n),u]
  | [],[],_,_,_ => rfl
  | [],_ :: _,_,_,h => by simp at h
  | _ :: _,[],_,_,h => by simp at h
  | a :: ns,b :: us,n,u,h => by
    have := bindCells_snoc ns us n u (by simpa using h)
    simp [bindCells,this]
theorem bindCells_get : ∀ (ns : List (List UInt8)) (us : List Value) (i : Nat) (nm : List UInt8) (u : Value),us.length = ns.length → ns[i]? = some nm → us[i]? = some u → (bindCells ns us)[i * 2]? = some (.string (B nm)) ∧ (bindCells ns us)[i * 2 + 1]? = some u
  | [],_,_,_,_,_,h,_ => by simp at h
  | _ :: _,[],_,_,_,h,_,_ => by simp at h
  | a :: ns,b :: us,0,nm,u,_,h1,h2 => by
    simp at h1 h2
    subst h1 h2
    exact ⟨rfl,rfl⟩
  | a :: ns,b :: us,i + 1,nm,u,h,h1,h2 => by
    have := bindCells_get ns us i nm u (by simpa using h) (by simpa using h1) (by simpa using h2)
    rw [show (i + 1) * 2 = i * 2 + 2 from by omega,show i * 2 + 2 + 1 = i * 2 + 1 + 2 from by omega]
    simpa [bindCells] using this
def AllX (us : List Value) : Prop := ∀ u,u ∈ us → ∃ t b,u = (.iface t (.pointer (some ⟨b,0,none⟩)))
theorem own_gat {w : World} {base : Nat} {gv : Value} {ns : List (List UInt8)} {us : List Value} (h : w.ownsRow base 187 2 gv ns.length (bindCells ns us)) (hl : us.length = ns.length) (h0 : 0 < ns.length) (hx : AllX us) :
    ∃ g cap,gv = .slice (some ⟨g,0,none⟩) ns.length cap ∧ base ≤ g ∧ g < w.heap.size ∧ GAt w g ns us := by
  obtain ⟨_,h2⟩ := h
  rcases h2 with ⟨_,h3⟩ | ⟨g,cap,cur,h1,h2,h3,h4,h5,h6,h7⟩
  · omega
  · refine ⟨g,cap,h1,h2,lt_of_block h3,hl,lt_of_block h3,fun i nm u e1 e2 => ?_⟩
    have hi : i < ns.length := by
      rcases Nat.lt_or_ge i ns.length with h | h
      · exact h
      · rw [List.getElem?_eq_none h] at e1; cases e1
    obtain ⟨q1,q2⟩ := bindCells_get ns us i nm u hl e1 e2
    rw [← h7,List.getElem?_take,if_pos (by omega)] at q1 q2
    obtain ⟨t,b,rfl⟩ := hx u (List.mem_of_getElem? e2)
    refine ⟨?_,?_,rfl⟩
    · simp only [World.cell?,h3]
      simpa using q1
    · simp only [World.cell?,h3]
      simpa using q2
def NmOK (nm : List UInt8) : Prop := (∃ c r,nm = c :: r ∧ low c = true) ∧ nm ∉ exKw
theorem name_ok {l : List UInt8} {T : List Tok} {k J : Nat} (h : At exKw l T k J) (hk : (tk T k).is = kName) : NmOK (tk T k).s := by
  have ha := asked exKw exKw_ok l J h.1
  rw [h.tk] at hk ⊢
  have h1 := ha.name.2 hk
  have h2 := ha.real (by rw [hk]; decide) (by rw [hk]; decide)
  rw [← h2.1]
  exact ⟨ha.isWord h1.1,h1.2⟩
theorem ok_name {l : List UInt8} {T : List Tok} {k J : Nat} (h : At exKw l T k J) (hn : NmOK (nxT l J)) : (tk T k).is = kName := by
  have ha := asked exKw exKw_ok l J h.1
  rw [h.tk]
  obtain ⟨⟨c,r,h1,h2⟩,h3⟩ := hn
  by_cases hk : nxK l J = 2
  · exact ha.name.1 ⟨hk,h3⟩
  · have := ha.notWord hk _ rfl c r h1
    rw [h2] at this
    cases this
theorem info_bind : (Tryz.prog.info? 187).map (fun i => (i.zero,i.size,i.bytes)) = some (some (.agg #[.string (B []),.nilIface]),2,32) := by kernel_rfl
theorem info_exp : (Tryz.prog.info? 101).map (fun i => (i.zero,i.size,i.bytes)) = some (some .nilIface,1,16) := by kernel_rfl
theorem two_new (w : World) (a b : Value) (t : TypeId) : ∀ (j : Nat) (u : Value),[a,b][j]? = some u → (w.alloc (.cells #[a,b] t)).cell? (Addr.add ⟨w.heap.size,0,none⟩ j) = some u := by
  intro j u h
  match j,h with
  | 0,h => simp at h; subst h; simp [go_sem]
  | 1,h => simp at h; subst h; simp [go_sem]
  | j + 2,h => simp at h
theorem bind_one (nm : List UInt8) (t b : Nat) : ∀ u,u ∈ [Value.string (B nm),(.iface t (.pointer (some ⟨b,0,none⟩)))] → u.oneCell' = true := by
  intro u hu
  simp at hu
  rcases hu with rfl | rfl <;> rfl
theorem exp_one (t b : Nat) : ∀ u,u ∈ [((.iface t (.pointer (some ⟨b,0,none⟩))) : Value)] → u.oneCell' = true := by
  intro u hu
  simp at hu
  subst hu
  rfl
theorem own_first (w : World) (base : Nat) (hb : base ≤ w.heap.size) (nm : List UInt8) (u : Value) : (w.alloc (.cells #[.string (B nm),u] 187)).ownsRow base 187 2 (.slice (some ⟨w.heap.size,0,none⟩) 1 1) 1 (bindCells [nm] [u]) :=
  ⟨rfl,Or.inr ⟨w.heap.size,1,#[.string (B nm),u],rfl,hb,heap_alloc_new _ _,by omega,by unfold maxLen; omega,rfl,rfl⟩⟩
theorem own_kept {w w' : World} {rb base e size n : Nat} {v : Value} {xs : List Value} (h : w.ownsRow base e size v n xs) (hk : Kept rb w w') (hr : rb < base) : w'.ownsRow base e size v n xs :=
  own_at h fun k hk' => hk.block k (own_lt h hk').2 (by have := (own_lt h hk').1; simp; omega)
theorem own_grown {w w' : World} {base e size n : Nat} {v : Value} {xs : List Value} (h : w.ownsRow base e size v n xs) (hk : w.grownBy w' none) : w'.ownsRow base e size v n xs :=
  own_at h fun k hk' => hk.block k (own_lt h hk').2 (by simp)
structure RI (T : List Tok) (w wi : World) (rb : Nat) (s : ByteArray) (H : Nat → Option Obj) (k0 : Nat) (gv : Value) (y : Ex) (sy : St) (us : List Value) (Hi : Nat → Option Obj) (m : Nat) : Prop where
  own : wi.ownsRow (w.heap.size + 1) 187 2 gv y.names.length (bindCells y.names us)
  ulen : us.length = y.names.length
  some' : 0 < y.names.length
  allx : AllX us
  free : ∀ k,some k = gv.ownBlock → Hi k = none
  op : y.op = kRec
  klen : y.kids.length = y.names.length
  reps : ∀ (i : Nat) (k : Ex) (u : Value),us[i]? = some u → y.kids[i]? = some k → PRep m Hi u k
  nms : ∀ nm,nm ∈ y.names → NmOK nm
  st : PSt exKw wi rb s T sy
  kept : Kept rb w wi
  fz : Fz Hi wi
  ext : Ext w.heap.size H Hi
  deep : ∀ k,k ∈ y.kids → exDeep m k + k0 + 1 ≤ sy.k
  count : y.names.length + k0 ≤ sy.k
  box : wi.cell? ⟨w.heap.size,0,none⟩ = some (.pointer (some ⟨rb,0,none⟩))
  more : w.heap.size < wi.heap.size
theorem RI.rb {T : List Tok} {w wi : World} {rb : Nat} {s : ByteArray} {H : Nat → Option Obj} {k0 : Nat} {gv : Value} {y : Ex} {sy : St} {us : List Value} {Hi : Nat → Option Obj} {m : Nat} (h : RI T w wi rb s H k0 gv y sy us Hi m) (hrb : rb < w.heap.size) (hr : H rb = none) : Hi rb = none := by
  rw [h.ext.2 rb hrb]
  exact hr
theorem RI.step {T : List Tok} {w wi w' : World} {rb : Nat} {s : ByteArray} {H : Nat → Option Obj} {k0 : Nat} {gv : Value} {y : Ex} {sy sy' : St} {us : List Value} {Hi : Nat → Option Obj} {m : Nat} (h : RI T w wi rb s H k0 gv y sy us Hi m)
    (hk : Kept rb wi w') (hp : PSt exKw w' rb s T sy') (hle : sy.k ≤ sy'.k) (hrb : rb < w.heap.size) (hr : H rb = none) : RI T w w' rb s H k0 gv y sy' us Hi m :=
  ⟨own_kept h.own hk (by omega),h.ulen,h.some',h.allx,h.free,h.op,h.klen,h.reps,h.nms,hp,h.kept.trans hk,h.fz.kept hk (h.rb hrb hr),h.ext,fun k hk' => by have := h.deep k hk'; omega,by have := h.count; omega,
    by rw [kept_cell hk h.more (by omega)]; exact h.box,Nat.lt_of_lt_of_le h.more hk.size⟩
theorem RI.grown {T : List Tok} {w wi w' : World} {rb : Nat} {s : ByteArray} {H : Nat → Option Obj} {k0 : Nat} {gv : Value} {y : Ex} {sy : St} {us : List Value} {Hi : Nat → Option Obj} {m : Nat} (h : RI T w wi rb s H k0 gv y sy us Hi m)
    (hg : wi.grownBy w' none) (hrb : rb < w.heap.size) (hr : H rb = none) : RI T w w' rb s H k0 gv y sy us Hi m :=
  h.step (Kept.of0 rb hg) (h.st.grown hg) (Nat.le_refl _) hrb hr
theorem RI.start {T : List Tok} {w w1 : World} {rb : Nat} {s : ByteArray} {H : Nat → Option Obj} {st s1 : St} {t b : TypeId} {H1 : Nat → Option Obj} {m : Nat} {x : Ex} (p : Nat) (hrb : rb < w.heap.size) (hnm : NmOK (tk T st.k).s)
    (hk : Kept rb (w.alloc (.cells #[.pointer (some ⟨rb,0,none⟩)] 153)) w1) (hp : PSt exKw w1 rb s T s1) (hz : Fz H1 w1) (he : Ext (w.alloc (.cells #[.pointer (some ⟨rb,0,none⟩)] 153)).heap.size H H1) (hx : PRep m H1 (.iface t (.pointer (some ⟨b,0,none⟩))) x) (hd : exDeep m x + st.k + 2 ≤ s1.k) :
    RI T w (w1.alloc (.cells #[.string (B (tk T st.k).s),(.iface t (.pointer (some ⟨b,0,none⟩)))] 187)) rb s H st.k (.slice (some ⟨w1.heap.size,0,none⟩) 1 1) ⟨kRec,[(tk T st.k).s],[x],p⟩ s1 [(.iface t (.pointer (some ⟨b,0,none⟩)))] H1 m := by
  have hs : w.heap.size + 1 ≤ w1.heap.size := by have := hk.size; simp at this; omega
  refine ⟨own_first w1 _ hs _ _,rfl,by simp,fun u hu => by simp at hu; exact ⟨t,b,hu⟩,fun k hk' => ?_,rfl,rfl,fun i k u h1 h2 => ?_,fun nm hn => by simp at hn; rw [hn]; exact hnm,hp.alloc _,(((Kept.refl rb w).alloc (.cells #[.pointer (some ⟨rb,0,none⟩)] 153)).trans hk).alloc _,hz.alloc _,he.from (by simp),fun k hk' => ?_,?_,?_,by simp; omega⟩
  · simp [Value.ownBlock] at hk'
    subst hk'
    exact hz.none (Nat.le_refl _)
  · cases i with
    | zero => simp at h1 h2; subst h1 h2; exact hx
    | succ i => simp at h1
  · simp at hk'
    subst hk'
    omega
  · have := deep_pos hx
    simp
    omega
  · refine cell_past ?_ _
    rw [kept_cell hk (by simp) (by omega)]
    simp [go_sem]
theorem RI.add {T : List Tok} {w wi w5 w6 : World} {rb : Nat} {s : ByteArray} {H : Nat → Option Obj} {k0 : Nat} {gv : Value} {y : Ex} {sy s4 : St} {us : List Value} {Hi : Nat → Option Obj} {m : Nat} (h : RI T w wi rb s H k0 gv y sy us Hi m) (hrb : rb < w.heap.size)
    {t b : TypeId} {H' : Nat → Option Obj} {m' : Nat} {x : Ex} {nm : List UInt8} (hnm : NmOK nm) (hk : Kept rb wi w5) (hp : PSt exKw w5 rb s T s4) (hz : Fz H' w5) (he : Ext wi.heap.size Hi H') (hx : PRep m' H' (.iface t (.pointer (some ⟨b,0,none⟩))) x) (hd : exDeep m' x + sy.k + 2 ≤ s4.k)
    {g cap : Nat} (hown : w6.ownsRow (w.heap.size + 1) 187 2 (.slice (some ⟨g,0,none⟩) (y.names.length + 1) cap) (y.names.length + 1) (bindCells y.names us ++ [.string (B nm),(.iface t (.pointer (some ⟨b,0,none⟩)))]))
    (hg : (w5.alloc (.cells #[.string (B nm),(.iface t (.pointer (some ⟨b,0,none⟩)))] 187)).grownBy w6 gv.ownBlock) (hat : gv.ownBlock = some g ∨ g = w5.heap.size + 1) :
    RI T w w6 rb s H k0 (.slice (some ⟨g,0,none⟩) (y.names.length + 1) cap) ⟨y.op,y.names ++ [nm],y.kids ++ [x],y.pos⟩ s4 (us ++ [(.iface t (.pointer (some ⟨b,0,none⟩)))]) H' (max m m') := by
  have hsz : wi.heap.size ≤ w5.heap.size := hk.size
  have hmore := h.more
  have glt : ∀ k,some k = gv.ownBlock → w.heap.size + 1 ≤ k ∧ k < wi.heap.size := fun k e => own_lt h.own e
  have same : ∀ k,k < w5.heap.size → some k ≠ gv.ownBlock → w6.heap[k]? = w5.heap[k]? := fun k h1 h2 => by
    rw [hg.block k (by simp; omega) h2,Below.heap_alloc _ _ _ h1]
  have hfree' : ∀ k,some k = gv.ownBlock → H' k = none := fun k e => by
    rw [he.2 k (glt k e).2]
    exact h.free k e
  have hs6 : w5.heap.size ≤ w6.heap.size := by have := hg.size; simp at this; omega
  refine ⟨?_,by simp [h.ulen],by simp,?_,?_,h.op,by simp [h.klen],?_,?_,?_,?_,?_,h.ext.trans he (Nat.le_of_lt hmore),?_,?_,?_,by omega⟩
  · rw [List.length_append,bindCells_snoc _ _ _ _ h.ulen]
    exact hown
  · intro u hu
    rcases List.mem_append.1 hu with hu | hu
    · exact h.allx u hu
    · simp at hu; exact ⟨t,b,hu⟩
  · intro k e
    simp [Value.ownBlock] at e
    subst e
    rcases hat with hat | hat
    · exact hfree' _ hat.symm
    · exact hz.none (by omega)
  · intro i k u h1 h2
    rcases Nat.lt_or_ge i us.length with hi | hi
    · rw [List.getElem?_append_left hi] at h1
      rw [List.getElem?_append_left (by rw [h.klen,← h.ulen]; exact hi)] at h2
      exact (PRep.ext he _ _ _ (h.reps i k u h1 h2)).le (by omega)
    · rw [List.getElem?_append_right hi] at h1
      rw [List.getElem?_append_right (by rw [h.klen,← h.ulen]; exact hi)] at h2
      rw [h.klen,← h.ulen] at h2
      cases e : i - us.length with
      | zero =>
        rw [e] at h1 h2
        simp at h1 h2
        subst h1 h2
        exact hx.le (by omega)
      | succ j => rw [e] at h1; simp at h1
  · intro n hn
    rcases List.mem_append.1 hn with hn | hn
    · exact h.nms n hn
    · simp at hn; rw [hn]; exact hnm
  · obtain ⟨q1,⟨J,q2,q3⟩,q4⟩ := hp
    exact ⟨q1,⟨J,q2,by unfold Rdr; rw [same rb (lt_of_block q3) (fun e => by have := (glt rb e).1; omega)]; exact q3⟩,q4⟩
  · have k1 := h.kept.trans hk
    exact ⟨hg.os.trans k1.os,hg.tape.trans k1.tape,hg.output.trans k1.output,by have := k1.size; omega,fun k hk' hn => by
      rw [same k (by omega) (fun e => by have := (glt k e).1; omega)]
      exact k1.block k hk' hn⟩
  · intro k o e
    rw [same k (hz.lt e) (fun e' => by rw [hfree' k e'] at e; cases e)]
    exact hz k o e
  · intro k hk'
    rcases List.mem_append.1 hk' with hk' | hk'
    · obtain ⟨i,hi,rfl⟩ := List.mem_iff_getElem.1 hk'
      have hui : i < us.length := by rw [h.ulen,← h.klen]; exact hi
      have hr := h.reps i (y.kids[i]) (us[i]) (List.getElem?_eq_getElem hui) (List.getElem?_eq_getElem hi)
      rw [deep_le (PRep.shape _ _ _ hr) (show m ≤ max m m' by omega)]
      have := h.deep _ hk'
      omega
    · simp at hk'
      subst hk'
      rw [deep_le (PRep.shape _ _ _ hx) (show m' ≤ max m m' by omega)]
      have := h.count
      have := h.some'
      omega
  · have := h.count
    have := deep_pos hx
    simp
    omega
  · rw [World.cell?_of_block (a := ⟨w.heap.size,0,none⟩) (same w.heap.size (by omega) (fun e => by have := (glt _ e).1; omega)),kept_cell hk hmore (by omega)]
    exact h.box
theorem twice_same {names : List (List UInt8)} {nm : List UInt8} {p : Nat} {st : St} (h : ¬ (nm ∈ names ∧ st.bad < 0)) : twiceS names nm p st = st := by
  unfold twiceS
  rw [if_neg h]
theorem own_exp1 (w : World) (u : Value) : (w.alloc (.cells #[u] 101)).ownsRow w.heap.size 101 1 (.slice (some ⟨w.heap.size,0,none⟩) 1 1) 1 [u] :=
  ⟨rfl,Or.inr ⟨w.heap.size,1,#[u],rfl,Nat.le_refl _,heap_alloc_new _ _,by omega,by unfold maxLen; omega,rfl,rfl⟩⟩
theorem grown_own {a b c : World} {row : Option Nat} (h : a.grownBy b none) (hg : b.grownBy c row) (hr : ∀ k,some k = row → a.heap.size ≤ k) : a.grownBy c none :=
  ⟨hg.os.trans h.os,hg.tape.trans h.tape,hg.output.trans h.output,Nat.le_trans h.size hg.size,fun k hk hn => by
    rw [hg.block k (Nat.lt_of_lt_of_le hk h.size) (fun e => by have := hr k e; omega)]
    exact h.block k hk hn⟩
theorem own_row {w : World} {base n : Nat} {v : Value} {xs : List Value} (h : w.ownsRow base 101 1 v n xs) (h0 : 0 < n) : ∃ g cap,v = .slice (some ⟨g,0,none⟩) n cap ∧ g < w.heap.size ∧ ∀ (i : Nat) (u : Value),xs[i]? = some u → w.cell? ⟨g,i,none⟩ = some u := by
  obtain ⟨h1,h2⟩ := h
  rcases h2 with ⟨_,h3⟩ | ⟨g,cap,cur,e1,e2,e3,e4,e5,e6,e7⟩
  · omega
  · refine ⟨g,cap,e1,lt_of_block e3,fun i u hu => ?_⟩
    rw [← e7,List.getElem?_take] at hu
    split at hu
    · simp only [World.cell?,e3]
      simpa using hu
    · cases hu
theorem maxl_cons (a : Nat) (l : List Nat) : maxl (a :: l) = maxl (l ++ [a]) := by
  rw [maxl_snoc]
  unfold maxl
  rw [List.foldl_cons,foldl_max]
  omega
theorem maxl_le {l : List Nat} {b : Nat} (h : ∀ a,a ∈ l → a ≤ b) : maxl l ≤ b := by
  induction l with
  | nil => simp [maxl]
  | cons a l ih =>
    rw [maxl_cons,maxl_snoc]
    have := ih (fun x hx => h x (List.mem_cons_of_mem _ hx))
    have := h a (List.mem_cons_self ..)
    omega
theorem letRec_p (T : List Tok) (n : Nat) (hl : T.length ≤ 400) (hE : EXPP T n) (w : World) (rb : Nat) (s : ByteArray) (H : Nat → Option Obj) (st : St) (x y b : Ex) (s1 s2 s3 : St) (p : Nat)
    (hx : boundS (expS T n) T ⟨kRec,[],[],p⟩ st = some (x,s1)) (hy : bindsS (expS T n) T (T.length + 1) x s1 = some (y,s2)) (hw : expS T n (needS T s2 kIn) = some (b,s3)) (h : PSt exKw w rb s T st) (hz : Fz H w) (hr : H rb = none) :
    Calls Tryz.prog 112 #[rdV rb] w fun e w' => EOut w w' rb s T H st.k s3 e ⟨y.op,y.names,y.kids ++ [b],y.pos⟩ := by
  have hlt := h.lt
  have HP := hid (h.alloc (.cells #[.pointer (some ⟨rb,0,none⟩)] 153))
  have HZ := hid (hz.alloc (.cells #[.pointer (some ⟨rb,0,none⟩)] 153))
  have HE := hid hE
  have K0 := hid ((Kept.refl rb w).alloc (.cells #[.pointer (some ⟨rb,0,none⟩)] 153))
  have F2 := hid (show 0 ≤ s2.bad → s3 = s2 from fun hb => by
    have e := exp_bad_st (by rw [need_bad hb]; exact hb) hw
    rw [e,need_bad hb])
  have F3 := hid (show 0 ≤ (needS T s2 kIn).bad → s3 = needS T s2 kIn from fun hb => exp_bad_st hb hw)
  unfold boundS at hx
  rw [twice_same (by simp)] at hx
  dsimp only at hx
  cases hex : expS T n (needS T (needS T st kName) kEq) with
  | none => rw [hex] at hx; cases hx
  | some q =>
  obtain ⟨a,s1'⟩ := q
  rw [hex] at hx
  cases hx
  have HX := hid hex
  have HY := hid hy
  have HW := hid hw
  obtain ⟨J0,hat0,_⟩ := h.place
  have HNM := hid (show (tk T st.k).is = kName → NmOK (tk T st.k).s from fun e => name_ok hat0 e)
  have hnegs := h.neg
  clear h hz hE hex hy hw hat0
  unfold rdV
  go_enter Tryz.func112,Tryz.ntmps112
  go_wp2_with fail
  refine (bind_p T n HE.out _ rb s H st a s1 HX.out HP.out HZ.out hr).mono ?_
  rintro e w1 ⟨k1,(⟨t1,b1,H1,m1,ht1,rfl,p1,z1,e1,r1,d1⟩ | ⟨hb,bb,rfl,hrf⟩)⟩
  case inr =>
    have e4 := binds_bad hb HY.out
    have e5 := F2.out (by rw [e4]; exact hb)
    rw [e4] at e5
    unfold refusal
    go_wp2
    exact ⟨rfl,K0.out.trans k1,Or.inr ⟨by rw [e5]; exact hb,bb,rfl,by rw [e5]; exact hrf⟩⟩
  case inl =>
  have hnm0 : (needS T st kName).bad < 0 := by
    rcases Int.lt_or_le (needS T st kName).bad 0 with h | h
    · exact h
    · have e3 : needS T (needS T st kName) kEq = needS T st kName := need_bad h
      have e4 := exp_bad_st (by rw [e3]; exact h) HX.out
      have := p1.neg
      rw [e4,e3] at this
      omega
  have hnmk : (tk T st.k).is = kName := by
    cases hi : isS T st kName with
    | true => exact isS_is hi
    | false =>
      rw [need_no hnegs hi] at hnm0
      simp at hnm0
      omega
  have RI0 := hid (RI.start (T := T) (st := st) p hlt (HNM.out hnmk) k1 p1 z1 e1 r1 d1)
  have hw1 : w.heap.size < w1.heap.size := by have := k1.size; simp at this; omega
  have bx1 : w1.cell? ⟨w.heap.size,0,none⟩ = some (.pointer (some ⟨rb,0,none⟩)) := by
    rw [kept_cell k1 (by simp) (by omega)]
    simp [go_sem]
  clear k1 p1 z1 e1 r1 d1 hnm0 hnmk HNM HP HZ K0
  go_wp2_with fail
  go_loopg [3] (T.length + 1) (fun g v wi => ∃ yy sy us Hi m,Hid (bindsS (expS T n) T g yy sy = some (y,s2)) ∧ Hid (RI T w wi rb s H st.k v yy sy us Hi m))
  case atStart => exact ⟨_,_,_,_,_,HY,RI0⟩
  case round =>
    obtain ⟨yy,sy,us,Hi,m,BB,RR⟩ := hrel
    rename World => w2
    obtain ⟨F,rfl⟩ : ∃ F,gk = F + 1 := by
      cases gk with
      | zero => have := BB.out; simp [bindsS] at this
      | succ F => exact ⟨F,rfl⟩
    have bx2 := RR.out.box
    go_wp2_with fail
    refine (skips_p exKw exKw_ok _ rb s T sy kAnd RR.out.st (Or.inl (by decide))).mono ?_
    rintro e w3 ⟨rfl,p3,k3⟩
    have e4 := BB.out
    rw [bindsS] at e4
    cases hi : isS T sy kAnd with
    | false =>
      rw [if_neg (by rw [hi]; simp)] at e4
      cases e4
      rw [take_no hi] at p3
      have R3 := hid (RR.out.step k3 p3 (Nat.le_refl _) hlt hr)
      have bx3 := R3.out.box
      clear hi p3 k3 BB RR RI0 HY bx2
      go_wp2_with fail
      refine (must_p exKw exKw_ok _ rb s T s2 kIn R3.out.st (Or.inl (by decide))).mono ?_
      rintro e w4 ⟨k4,(⟨rfl,p4⟩ | ⟨hb,bb,rfl,hrf⟩)⟩
      case inr =>
        have e5 := F3.out hb
        unfold refusal
        go_wp2
        exact ⟨rfl,R3.out.kept.trans k4,Or.inr ⟨by rw [e5]; exact hb,bb,rfl,by rw [e5]; exact hrf⟩⟩
      case inl =>
      have R4 := hid (R3.out.step k4 p4 need_k hlt hr)
      have bx4 := R4.out.box
      clear R3 bx3 k4 p4
      go_wp2_with fail
      refine (HE.out _ rb s Hi _ b s3 HW.out R4.out.st R4.out.fz (R4.out.rb hlt hr)).mono ?_
      rintro e w5 ⟨k5,(⟨v5,H5,m5,rfl,p5,z5,e5,r5,d5⟩ | ⟨hb,bb,rfl,hrf⟩)⟩
      case inr =>
        unfold refusal
        go_wp2
        exact ⟨rfl,R4.out.kept.trans k5,Or.inr ⟨hb,bb,rfl,hrf⟩⟩
      case inl =>
      obtain ⟨t5,b5,ht5,rfl,hb5,hc5⟩ := r5.dat z5
      have own5 := own_kept R4.out.own k5 (by omega)
      obtain ⟨g,cap,rfl,hg1,hg2,hga⟩ := own_gat own5 R4.out.ulen R4.out.some' R4.out.allx
      have hnl : y.names.length ≤ 400 := by have := R4.out.count; have := R4.out.st.klt; omega
      have hul := R4.out.ulen
      have hs5 : w.heap.size < w5.heap.size := Nat.lt_of_lt_of_le R4.out.more k5.size
      have Q5 := hid (And.intro k5 (And.intro p5 (And.intro z5 (And.intro e5 (And.intro r5 d5)))))
      have GA := hid hga
      have O5 := hid own5
      obtain ⟨i1,hi,hz0,hz1,hz2⟩ := info_parts info_exp
      clear k5 p5 z5 e5 r5 d5 hb5 hc5 own5 hga bx4
      go_wp2_with fail
      go_loopg [5,34] (y.names.length + 1) (fun q bv i wi => ∃ j : Nat,j ≤ y.names.length ∧ i = .int .i64 j ∧ q = y.names.length - j + 1 ∧ Hid (wi.ownsRow w5.heap.size 101 1 bv (j + 1) ((.iface t5 (.pointer (some ⟨b5,0,none⟩))) :: us.take j)) ∧ Hid (w5.grownBy wi none))
      case atStart => exact ⟨0,by omega,rfl,by omega,own_exp1 _ _,World.grownBy_alloc _ _ _⟩
      case round =>
        obtain ⟨j,hj,rfl,hq,OW,GR⟩ := hrel
        rename World => w6
        by_cases hlt6 : j < y.names.length
        · obtain ⟨nm,hnm⟩ : ∃ nm,y.names[j]? = some nm := ⟨y.names[j],List.getElem?_eq_getElem _⟩
          obtain ⟨u,hu⟩ : ∃ u,us[j]? = some u := ⟨us[j]'(by omega),List.getElem?_eq_getElem _⟩
          obtain ⟨c0,c1,_⟩ := (GA.out.grown GR.out).2.2 j nm u hnm hu
          obtain ⟨t6,b6,rfl⟩ := R4.out.allx u (List.mem_of_getElem? hu)
          have hj2 : (j : Int) < (y.names.length : Int) := by omega
          have own6 := OW.out
          have HU := hid hu
          have hs6 : w5.heap.size ≤ w6.heap.size := GR.out.size
          clear hu
          go_wp2_with (at_builtin; refine wpList_append_lies _ rfl (.tmp 38) (.tmp 41) 303 rfl w5.heap.size 101 i1 .nilIface 1 16 Tryz.underlying303 hi hz0 hz1 hz2 rfl (by decide) _ _ _ rfl ((own6.alloc _).alloc _) ⟨w6.heap.size + 1,0,none⟩ 1 1 [(.iface t6 (.pointer (some ⟨b6,0,none⟩)))] rfl rfl ?d1 ?d2 (by decide) ?d3 ?d4 ?d5 (w6.heap.size + 2) ?d6 ?_)
          case d1 =>
            intro q uu hq'
            have := one_new (w6.alloc (.cells #[.string (B nm),(.iface t6 (.pointer (some ⟨b6,0,none⟩)))] 187)) (.iface t6 (.pointer (some ⟨b6,0,none⟩))) 101 q uu hq'
            simpa using this
          case d2 => exact exp_one _ _
          case d3 => unfold maxLen; omega
          case d4 => omega
          case d5 => simp; omega
          case d6 => simp
          intro g7 cap7 w7 hown7 hgrow7 _ _
          have ON := hid hown7
          have GN := hid (grown_own ((GR.out.trans (World.grownBy_alloc _ _ _)).trans (World.grownBy_alloc _ _ _)) hgrow7 (fun k e => (own_lt own6 e).1))
          clear hown7 hgrow7 own6 c0 c1
          go_wp2_with fail
          go_roundg (y.names.length - (j + 1) + 1)
          case measure => omega
          case rel =>
            refine ⟨j + 1,by omega,by go_num,rfl,?_,GN⟩
            have e : us.take (j + 1) = us.take j ++ [(.iface t6 (.pointer (some ⟨b6,0,none⟩)))] := by rw [List.take_add_one,HU.out]; rfl
            rw [e]
            exact ON
        · have hj3 : j = y.names.length := by omega
          subst hj3
          have own6 := OW.out
          rw [List.take_of_length_le (by omega)] at own6
          obtain ⟨g6,cap6,rfl,hg6,hrow6⟩ := own_row own6 (by omega)
          have ulen := R4.out.ulen
          have klen := R4.out.klen
          have hs6 : w5.heap.size ≤ w6.heap.size := GR.out.size
          obtain ⟨M,hM⟩ : ∃ M,M = max m m5 := ⟨_,rfl⟩
          obtain ⟨k5,p5,z5,e5,r5,d5⟩ := Q5.out
          have hs3 := p5.klt
          have RB : Hid (PRep M H5 (.iface t5 (.pointer (some ⟨b5,0,none⟩))) b) := r5.le (by omega)
          have RK : Hid (∀ (i : Nat) (k : Ex) (u : Value),us[i]? = some u → y.kids[i]? = some k → PRep M H5 u k) := fun i k u h1 h2 => (PRep.ext e5 _ _ _ (R4.out.reps i k u h1 h2)).le (by omega)
          have Z6 := hid (z5.grown GR.out)
          have hnk : (needS T s2 kIn).k = s2.k + 1 := need_good R4.out.st.neg
          have DK : Hid (∀ k,k ∈ y.kids → exDeep M k + st.k + 1 ≤ s3.k) := fun k hk => by
            obtain ⟨i,hi,rfl⟩ := List.mem_iff_getElem.1 hk
            have hui : i < us.length := by omega
            have hr' := R4.out.reps i (y.kids[i]) (us[i]) (List.getElem?_eq_getElem hui) (List.getElem?_eq_getElem hi)
            rw [deep_le (PRep.shape _ _ _ hr') (show m ≤ M by omega)]
            have := R4.out.deep _ hk
            have := deep_pos r5
            omega
          have DB : Hid (exDeep M b + st.k + 1 ≤ s3.k) := by
            show exDeep M b + st.k + 1 ≤ s3.k
            rw [deep_le (PRep.shape _ _ _ r5) (show m5 ≤ M by omega)]
            have := R4.out.count
            have := R4.out.some'
            omega
          have hml : maxl (exDeep M b :: y.kids.map (exDeep M)) + 1 + st.k ≤ s3.k := by
            have : maxl (exDeep M b :: y.kids.map (exDeep M)) ≤ s3.k - st.k - 1 := maxl_le fun a ha => by
              rcases List.mem_cons.1 ha with rfl | ha
              · have := DB.out; omega
              · obtain ⟨k,hk,rfl⟩ := List.mem_map.1 ha
                have := DK.out k hk
                omega
            have := DB.out
            omega
          have AB := above_p w6 (some ⟨g6,0,none⟩) cap6 ((.iface t5 (.pointer (some ⟨b5,0,none⟩))) :: us) (exDeep M b :: y.kids.map (exDeep M)) (by simp; omega) (by simp; omega) (fun i u hu => ⟨g6,rfl,hg6,hrow6 i u hu⟩)
            (fun i u d h1 h2 => by
              cases i with
              | zero => simp at h1 h2; subst h1 h2; exact RB.out.dat Z6.out
              | succ i =>
                simp only [List.getElem?_cons_succ,List.getElem?_map,Option.map_eq_some_iff] at h1 h2
                obtain ⟨k,hk,rfl⟩ := h2
                exact (RK.out i k u h1 hk).dat Z6.out) (by omega)
          have hln : ((.iface t5 (.pointer (some ⟨b5,0,none⟩))) :: us).length = y.names.length + 1 := by simp [ulen]
          rw [hln] at AB
          obtain ⟨_,hO⟩ := O5.out
          rcases hO with ⟨hO,_⟩ | ⟨gg,cc,cur,hO1,hO2,hO3,hO4,hO5,hO6,hO7⟩
          · cases hO
          cases hO1
          have hfree : H5 g = none := by
            rw [e5.2 g (own_lt R4.out.own (k := g) rfl).2]
            exact R4.out.free g rfl
          have CUR := hid (And.intro hO3 (And.intro hO7 hfree))
          have ABH := hid AB
          have HML := hid hml
          have K5 := hid (R4.out.kept.trans k5)
          have P5 := hid p5
          have E5 := hid (R4.out.ext.trans (e5.from (n := w.heap.size) (Nat.le_of_lt R4.out.more)) (Nat.le_refl _))
          have hop := hid R4.out.op
          have hsm := hid R4.out.some'
          clear AB hO3 hO7 hfree hml own6 hrow6 k5 p5 z5 e5 r5 d5 hM hO2 hO4 hO5 hO6
          go_wp2_with fail
          refine ABH.out.mono ?_
          rintro e w8 ⟨rfl,g8⟩
          have G8 := hid g8
          have hs8 : w6.heap.size ≤ w8.heap.size := g8.size
          clear g8
          go_wp2
          go_ret
          obtain ⟨hO3,hO7,hfree⟩ := CUR.out
          have hgl : g < w5.heap.size := lt_of_block hO3
          have blk : w8.heap[g]? = some (.cells cur 187 (0,0)) := by
            rw [G8.out.block g (by omega) (by simp),GR.out.block g hgl (by simp)]
            exact hO3
          have ext6 : Ext w.heap.size H5 (Fz.more H5 g (.cells cur 187 (0,0))) := (Ext.refl _ _).add (by omega) hfree
          have z8 : Fz (Fz.more H5 g (.cells cur 187 (0,0))) w8 := (Z6.out.grown G8.out).add blk
          have hdep : exDeep (M + 1) ⟨kRec,y.names,y.kids ++ [b],y.pos⟩ = maxl (exDeep M b :: y.kids.map (exDeep M)) + 1 := by
            show maxl ((y.kids ++ [b]).map (exDeep M)) + 1 = _
            rw [List.map_append,maxl_cons]
            rfl
          rw [hop.out]
          obtain ⟨H9,z9,x9,r9⟩ := node_rep (w := w8) z8 ⟨kRec,y.names,y.kids ++ [b],y.pos⟩ (us ++ [(.iface t5 (.pointer (some ⟨b5,0,none⟩)))]) M (.cells #[.int .i64 ((maxl (exDeep M b :: y.kids.map (exDeep M)) + 1 : Nat) : Int),.slice (some ⟨g,0,none⟩) y.names.length cap,(.iface t5 (.pointer (some ⟨b5,0,none⟩)))] 194) (by simp; omega)
            (fun i k u h1 h2 => by
              rcases Nat.lt_or_ge i us.length with hi | hi
              · rw [List.getElem?_append_left hi] at h1
                rw [List.getElem?_append_left (by omega)] at h2
                exact PRep.ext ext6 _ _ _ (RK.out i k u h1 h2)
              · rw [List.getElem?_append_right hi] at h1
                rw [List.getElem?_append_right (by omega),klen,← ulen] at h2
                cases e : i - us.length with
                | zero =>
                  rw [e] at h1 h2
                  simp at h1 h2
                  subst h1 h2
                  exact PRep.ext ext6 _ _ _ RB.out
                | succ q => rw [e] at h1; simp at h1)
            (fun H' hx h2 => by
              rw [hdep]
              exact Or.inr (Or.inr (Or.inr (Or.inr (Or.inr (Or.inl ⟨rfl,us,(.iface t5 (.pointer (some ⟨b5,0,none⟩))),_,hsm.out,ulen,by simp [klen],rfl,⟨g,cap,cur,rfl,hx.1 _ _ (Fz.more_same _ _ _),hO7⟩,h2⟩))))))
          refine ⟨((K5.out.trans (Kept.of0 rb GR.out)).trans (Kept.of0 rb G8.out)).alloc _,Or.inl ⟨_,H9,M + 1,rfl,((P5.out.grown GR.out).grown G8.out).alloc _,z9,(E5.out.trans ext6 (Nat.le_refl _)).trans x9 (by omega),r9,?_⟩⟩
          rw [hdep]
          exact HML.out
    | true =>
      rw [if_pos ⟨RR.out.op,hi⟩] at e4
      rw [take_yes hi] at p3
      have hupk : sy.up.k = sy.k + 1 := rfl
      have R3 := hid (RR.out.step k3 p3 (by rw [hupk]; omega) hlt hr)
      clear hi p3 k3 BB RR RI0 HY bx2
      obtain ⟨g,cap,rfl,hg1,hg2,hga⟩ := own_gat R3.out.own R3.out.ulen R3.out.some' R3.out.allx
      obtain ⟨J,hat,hrd⟩ := R3.out.st.place
      have bx3 := R3.out.box
      have hcnt := R3.out.count
      have hklt := R3.out.st.klt
      have hpos := (asked exKw exKw_ok s.data.toList J hat.1).pos
      rw [← hat.tk] at hpos
      have NO := hid (nameOf_p w3 rb s J g cap yy.names us (by omega) hrd hga)
      unfold boundS at e4
      go_wp2_with fail
      refine NO.out.mono ?_
      rintro e w4 ⟨rfl,g4⟩
      by_cases hm : nxT s.data.toList J ∈ yy.names
      · have hd : decide (nxT s.data.toList J ∈ yy.names) = true := by simp [hm]
        have hk := ok_name hat (R3.out.nms _ hm)
        have hre := (asked exKw exKw_ok s.data.toList J hat.1).real (by rw [← hat.tk,hk]; decide) (by rw [← hat.tk,hk]; decide)
        rw [← hat.tk] at hre
        have hys : isS T sy.up kName = true := by simp [isS,R3.out.st.neg,hk]
        have htw : twiceS yy.names (tk T sy.up.k).s (tk T sy.up.k).pos (needS T sy.up kName) = ⟨sy.up.k + 1,((tk T sy.up.k).pos : Int)⟩ := by
          unfold twiceS
          rw [need_yes hys,take_yes hys,if_pos ⟨by rw [← hre.1]; exact hm,R3.out.st.neg⟩]
          rfl
        rw [htw] at e4
        have hbad : (0 : Int) ≤ (⟨sy.up.k + 1,((tk T sy.up.k).pos : Int)⟩ : St).bad := by simp
        rw [need_bad hbad] at e4
        have S3 : Hid (s3.bad = (J : Int)) := by
          cases hq : expS T n ⟨sy.up.k + 1,((tk T sy.up.k).pos : Int)⟩ with
          | none => rw [hq] at e4; cases e4
          | some q =>
            obtain ⟨c,s4⟩ := q
            rw [hq] at e4
            have e5 := exp_bad_st hbad hq
            rw [e5] at e4
            dsimp only at e4
            have e6 := binds_bad hbad e4
            have e7 := F2.out (by rw [e6]; exact hbad)
            show s3.bad = (J : Int)
            rw [e7,e6]
            show ((tk T sy.up.k).pos : Int) = (J : Int)
            rw [hpos]
        have K4 := hid (R3.out.kept.trans (Kept.of0 rb g4))
        have bx4 : w4.cell? ⟨w.heap.size,0,none⟩ = some (.pointer (some ⟨rb,0,none⟩)) := by
          rw [World.cell?_of_block (a := ⟨w.heap.size,0,none⟩) (g4.block w.heap.size R3.out.more (by simp))]
          exact bx3
        have RF := hid (refuse_p w4 rb s J (hrd.grown g4))
        rw [hd]
        clear g4 hm hd hk hre hys htw hbad e4 hpos hga hat hrd NO bx3
        go_wp2_with fail
        refine RF.out.mono ?_
        rintro e w5 ⟨⟨bb,rfl,hbb⟩,g5⟩
        have HB := hid hbb
        have G5 := hid g5
        clear hbb g5
        unfold refusal
        go_wp2
        exact ⟨rfl,K4.out.trans (Kept.of0 rb G5.out),Or.inr ⟨by rw [S3.out]; simp,bb,rfl,by rw [S3.out]; exact HB.out⟩⟩
      · have hd : decide (nxT s.data.toList J ∈ yy.names) = false := by simp [hm]
        have hgood : (needS T sy.up kName).bad < 0 → (tk T sy.up.k).is = kName := by
          intro hh
          cases hi : isS T sy.up kName with
          | true => exact isS_is hi
          | false =>
            rw [need_no R3.out.st.neg hi] at hh
            simp at hh
            omega
        have hno : ¬ ((tk T sy.up.k).s ∈ yy.names ∧ (needS T sy.up kName).bad < 0) := by
          rintro ⟨h1,h2⟩
          have hk := hgood h2
          have hre := (asked exKw exKw_ok s.data.toList J hat.1).real (by rw [← hat.tk,hk]; decide) (by rw [← hat.tk,hk]; decide)
          rw [← hat.tk] at hre
          rw [← hre.1] at h1
          exact hm h1
        rw [twice_same hno] at e4
        have R4 := hid (R3.out.grown g4 hlt hr)
        have bx4 := R4.out.box
        have HNM := hid (show (needS T sy.up kName).bad < 0 → NmOK (tk T sy.up.k).s from fun h => name_ok hat (hgood h))
        cases hq : expS T n (needS T (needS T sy.up kName) kEq) with
        | none => rw [hq] at e4; cases e4
        | some q =>
        obtain ⟨c,s4⟩ := q
        rw [hq] at e4
        dsimp only at e4
        have HQ := hid hq
        have AA := hid e4
        rw [hd]
        clear g4 hm hd hgood hno e4 hpos hga hat hrd NO bx3 R3 hq
        go_wp2_with fail
        refine (bind_p T n HE.out _ rb s Hi sy.up c s4 HQ.out R4.out.st R4.out.fz (R4.out.rb hlt hr)).mono ?_
        rintro e w5 ⟨k5,(⟨t5,b5,H5,m5,ht5,rfl,p5,z5,e5,r5,d5⟩ | ⟨hb,bb,rfl,hrf⟩)⟩
        case inr =>
          have e5 := binds_bad hb AA.out
          have e6 := F2.out (by rw [e5]; exact hb)
          rw [e5] at e6
          unfold refusal
          go_wp2
          exact ⟨rfl,R4.out.kept.trans k5,Or.inr ⟨by rw [e6]; exact hb,bb,rfl,by rw [e6]; exact hrf⟩⟩
        case inl =>
        have hnb : (needS T sy.up kName).bad < 0 := by
          rcases Int.lt_or_le (needS T sy.up kName).bad 0 with h | h
          · exact h
          · have e3 : needS T (needS T sy.up kName) kEq = needS T sy.up kName := need_bad h
            have e4 := exp_bad_st (by rw [e3]; exact h) HQ.out
            have := p5.neg
            rw [e4,e3] at this
            omega
        have hown5 := own_kept R4.out.own k5 (by omega)
        have hs5 : w.heap.size + 1 ≤ w5.heap.size := by have := R4.out.more; have := k5.size; omega
        have Q5 := hid (And.intro k5 (And.intro p5 (And.intro z5 (And.intro e5 (And.intro r5 d5)))))
        have HNB := hid hnb
        obtain ⟨i0,hi,hz0,hz1,hz2⟩ := info_parts info_bind
        clear k5 p5 z5 e5 r5 d5 hnb bx4
        go_wp2_with (at_builtin; refine wpList_append_lies _ rfl (.tmp 20) (.tmp 23) 192 rfl (w.heap.size + 1) 187 i0 (.agg #[.string (B []),.nilIface]) 2 32 Tryz.underlying192 hi hz0 hz1 hz2 rfl (by decide) _ _ _ rfl (hown5.alloc _) ⟨w5.heap.size,0,none⟩ 1 1 [.string (B (tk T sy.up.k).s),(.iface t5 (.pointer (some ⟨b5,0,none⟩)))] rfl rfl ?d1 ?d2 (by decide) ?d3 ?d4 ?d5 (w5.heap.size + 1) ?d6 ?_)
        case d1 => exact two_new _ _ _ _
        case d2 => exact bind_one _ _ _
        case d3 => unfold maxLen; omega
        case d4 => omega
        case d5 => simp; omega
        case d6 => simp
        intro g7 cap7 w7 hown7 hgrow7 hat7 _
        obtain ⟨k5,p5,z5,e5,r5,d5⟩ := Q5.out
        have R7 := hid (R4.out.add hlt (HNM.out HNB.out) k5 p5 z5 e5 r5 d5 hown7 hgrow7 hat7)
        clear hown7 hgrow7 hat7 k5 p5 z5 e5 r5 d5 hown5
        go_wp2_with fail
        go_roundg F
        case measure => omega
        case rel => exact ⟨_,s4,_,_,_,AA,R7⟩
end Go.Proofs.YtcdijppegfcoaabGreatDoor
