import Derived.Test.YtcdijppegfcoaabGreatDoorZC03
set_option maxRecDepth 100000
set_option maxHeartbeats 4000000
namespace Go.Proofs.YtcdijppegfcoaabGreatDoor
open Go.RowKit
theorem below_cell {H : Nat → Option Obj} {ca : List Nat} {σ : Sto} {d : Nat → Nat} {i a : Nat} {w : World} (ei : ca[i]? = some a) (hc : CSd H ca σ d w) :
    ∃ us,us.length ≤ 2 ∧ KR H ca us (kidsS σ (cT i)) ∧ Calls Tryz.prog 150 #[CP a] w (BLE H ca σ d us w) := by
  obtain ⟨b0,er0,eb0⟩ := hc.root_get ei
  have hil := (List.getElem?_eq_some_iff.1 ei).1
  obtain ⟨v0,hv0,ho⟩ := hc.root_val hil eb0
  have HL := hid (last_any (d i + 1) i a w (by omega) ei hc)
  have E0 := hid (And.intro eb0 (And.intro hv0 (hc.rr _ _ er0)))
  have ek : kidsS σ (cT i) = (match σ.is i with | none => [] | some nd => nd.kids) := by unfold kidsS; rw [if_pos (show (cT i).kind = oCell from rfl)]; rfl
  unfold CP at HL ⊢
  rcases ho with ⟨he,rfl⟩ | ⟨nd,he,k1,k2,k3,k4⟩
  · refine ⟨[],by simp,by rw [ek,he]; exact KR.nil,?_⟩
    clear ei hc er0 eb0 hv0 hil he ek
    go_enter Tryz.func150,Tryz.ntmps150
    go_wp2_with fail
    refine HL.out.mono ?_
    rintro e w1 ⟨b1,rfl,h1,h2,h3,h4⟩
    obtain rfl := Option.some.inj (E0.out.1.symm.trans h1)
    have x1 := (cell_at ((h4 _ _ E0.out.2.2 h1).trans E0.out.2.1)).2.1
    have Q1 := hid (And.intro h2 h3)
    clear h1 h2 h3 h4
    unfold CP
    go_wp2
    go_ret
    exact ⟨Q1.out.1,Q1.out.2,Or.inl ⟨rfl,rfl⟩⟩
  · -- what it is,in whatever world
    obtain ⟨T0,c0,F0,us,hv,hT,hl,hk,hN,hF⟩ := below_node σ d (m := 1) k4 k2
    refine ⟨us,hl,by rw [ek,he]; exact hk,?_⟩
    subst hv
    have HN := hid hN
    have hm := fun W hW => (hN W hW).1
    have hnil : ∀ (W : World),True := fun _ => trivial
    obtain ⟨t0,b9,ht0,e9⟩ := k4.val
    injection e9 with e9 _
    subst e9
    have HM := hid (hN w hc).1
    clear hN ei hc er0 eb0 hv0 hil he ek k1 k2 k3 k4 hm hnil hk hT
    rcases hF with rfl | rfl | rfl | rfl | rfl
    all_goals
      have hm := HM.out
      rcases ht0 with rfl | rfl | rfl | rfl | rfl | rfl
      all_goals
        go_enter Tryz.func150,Tryz.ntmps150
        go_wp2_with fail
        refine HL.out.mono ?_
        rintro e w1 ⟨b1,rfl,h1,h2,h3,h4⟩
        obtain rfl := Option.some.inj (E0.out.1.symm.trans h1)
        have x1 := (cell_at ((h4 _ _ E0.out.2.2 h1).trans E0.out.2.1)).2.1
        have C1 := hid (HN.out w1 h2).2.1
        have Q1 := hid h3
        clear h1 h2 h3 h4
        unfold CP at *
        go_wp2_with fail
        refine C1.out.mono ?_
        rintro e w2 ⟨r1,r2,r3⟩
        have Q2 := hid (And.intro r1 (And.intro r2 r3))
        have hs1 := Q1.out.size
        rcases r3 with ⟨rfl,rfl⟩ | ⟨gn,rfl,r4,r5⟩
        all_goals
          clear r1 r2
          go_wp2
          go_ret
        · exact ⟨Q2.out.1,Q1.out.tr Q2.out.2.1,Or.inl ⟨rfl,rfl⟩⟩
        · exact ⟨Q2.out.1,Q1.out.tr Q2.out.2.1,Or.inr ⟨gn,rfl,by omega,r5⟩⟩
end Go.Proofs.YtcdijppegfcoaabGreatDoor
