import Derived.Test.YtcdijppegfcoaabGreatDoorZC11
import Derived.Test.YtcdijppegfcoaabGreatDoorZC12
import Derived.Test.YtcdijppegfcoaabGreatDoorZC13
import Derived.Test.YtcdijppegfcoaabGreatDoorZC14
set_option maxRecDepth 100000
set_option maxHeartbeats 2000000
namespace Go.Proofs.YtcdijppegfcoaabGreatDoor
open Go.RowKit
theorem join_step {H : Nat → Option Obj} {ca : List Nat} {f : Nat} (hJ : JNC H ca f) : JNC H ca (f + 1) := by
  intro a b x y σ d r w ea eb hj hc
  by_cases hdeep : ∃ na nb,¬ σ.root a = σ.root b ∧ σ.is a = some na ∧ σ.is b = some nb ∧ na.kind = nb.kind
  · obtain ⟨na,nb,h1,ha,hb,hk⟩ := hdeep
    obtain ⟨_,_,era⟩ := hc.root_get ea
    obtain ⟨va,_,hoa⟩ := hc.root_val (List.getElem?_eq_some_iff.1 ea).1 era
    rcases hoa with ⟨e0,_⟩ | ⟨n0,e0,q1,q2,_,q4⟩
    · rw [ha] at e0; cases e0
    · obtain rfl := Option.some.inj (ha.symm.trans e0)
      obtain ⟨_,_,hN⟩ := nk_any (show Node H ca va na from ⟨q1,q2,2,q4⟩)
      rcases hN with ⟨k0,_⟩ | ⟨k0,_⟩ | ⟨k0,_⟩ | ⟨k0,_⟩
      · exact join_deep0 hJ a b x y σ d r w ea eb hj hc h1 na nb ha hb hk k0
      · exact join_deep1 hJ a b x y σ d r w ea eb hj hc h1 na nb ha hb hk k0
      · exact join_deep2 hJ a b x y σ d r w ea eb hj hc h1 na nb ha hb hk k0
      · exact join_deep3 hJ a b x y σ d r w ea eb hj hc h1 na nb ha hb hk k0
  have HDEEP := hid hdeep
  clear hdeep
  have HL1 := hid (fun (W : World) (hW : CSd H ca σ d W) => last_any (d a + 1) a x W (by omega) ea hW)
  have HL2 := hid (fun (W : World) (hW : CSd H ca σ d W) => last_any (d b + 1) b y W (by omega) eb hW)
  have t1 := e1_Cell x
  have t2 := e1_Cell y
  have HC := hid hc
  have HD := hid hc.drew
  rw [joinS] at hj
  have HJ := hid hj
  have EE := hid (And.intro ea eb)
  have hla := (List.getElem?_eq_some_iff.1 ea).1
  have hlb := (List.getElem?_eq_some_iff.1 eb).1
  unfold CI
  unfold CP at HL1 HL2
  clear hj ea eb hc
  go_enter Tryz.func203,Tryz.ntmps203
  go_wp2_with fail
  go_region_held3 (fun wx => CSd H ca σ d wx) (first | assumption | exact HD.out | exact CSd.drew (by assumption) | go_keep) (first
    | (go_at_call_of 129 (Value.pointer (some ⟨x,0,none⟩)); first
      | (refine (HL1.out _ HD.out).mono ?_; rintro e w1 ⟨ba,rfl,ha1,hc1,hg1,_⟩; have C1 := hid (And.intro hc1 hg1); have EA := hid ha1; clear ha1 hg1)
      | (refine (HL1.out _ C1.out.1).mono ?_; rintro e w2 ⟨ba,rfl,ha1,hc2,hg2,_⟩; have C2 := hid (And.intro hc2 (Gb.drewL (C1.out.2.tr hg2))); have EA := hid ha1; clear ha1 hg2))
    | (go_at_call_of 129 (Value.pointer (some ⟨y,0,none⟩)); first
      | (refine (HL2.out _ HD.out).mono ?_; rintro e w1 ⟨bb,rfl,hb1,hc1,hg1,_⟩; have C1 := hid (And.intro hc1 hg1); have EB := hid hb1; clear hb1 hg1)
      | (refine (HL2.out _ C1.out.1).mono ?_; rintro e w2 ⟨bb,rfl,hb1,hc2,hg2,_⟩; have C2 := hid (And.intro hc2 (Gb.drewL (C1.out.2.tr hg2))); have EB := hid hb1; clear hb1 hg2)))
  all_goals
    have hd2 := C2.out.1
    obtain ⟨va,hva,hoa⟩ := hd2.root_val hla EA.out
    obtain ⟨vb,hvb,hob⟩ := hd2.root_val hlb EB.out
    obtain ⟨_,xa,_,fa⟩ := cell_at hva
    obtain ⟨_,xb,_,fb⟩ := cell_at hvb
    obtain ⟨_,era,_⟩ := hd2.root_get (List.getElem?_eq_getElem hla)
    obtain ⟨_,erb,_⟩ := hd2.root_get (List.getElem?_eq_getElem hlb)
    have era2 := hd2.rr _ _ era
    have erb2 := hd2.rr _ _ erb
    have nd := hd2.nd
    have RT := hid (And.intro era2 erb2)
    have HVV := hid (And.intro hva hvb)
    clear hva hvb era erb era2 erb2 hd2 HL1 HL2 HC HD
    unfold CP
    by_cases h1 : σ.root a = σ.root b
    · have eab : ba = bb := by
        have e1 := EA.out
        rw [h1,EB.out] at e1
        exact (Option.some.inj e1).symm
      have er := HJ.out
      rw [if_pos h1] at er
      have er := Option.some.inj er
      subst er eab
      clear hoa hob xa xb fa fb nd
      have pq := ptr_same ba w2
      go_wp2
      go_ret
      exact ⟨C2.out.2,rfl,d,C2.out.1⟩
    · have hne : ba ≠ bb := fun e => h1 (by
        have e1 := EA.out
        rw [e] at e1
        exact (List.getElem?_inj (List.getElem?_eq_some_iff.1 e1).1 nd).1 (e1.trans EB.out.symm))
      have hne' : bb ≠ ba := Ne.symm hne
      have pq := ptr_other hne HVV.out.1 HVV.out.2
      have er := HJ.out
      rw [if_neg h1] at er
      have LK := hid (C2.out.1.link RT.out.1 RT.out.2 h1 EA.out EB.out)
      have GL := hid (C2.out.2.set (b := ba) (Or.inl (List.mem_of_getElem? EA.out)) 1 (CI bb))
      unfold CI at LK GL
      clear nd
      rcases hoa with ⟨ha0,rfl⟩ | ⟨na,ha0,ka1,ka2,ka3,ka4⟩
      · rw [ha0] at er
        have er := Option.some.inj er
        subst er
        clear hob xb fb
        go_wp2
        go_ret
        exact ⟨GL.out,rfl,_,LK.out⟩
      · rw [ha0] at er
        simp only at er
        obtain ⟨Ta,pa,hTa,rfl⟩ := ka4.val
        rcases hob with ⟨hb0,rfl⟩ | ⟨nb,hb0,kb1,kb2,kb3,kb4⟩
        · rw [hb0] at er
          have er := Option.some.inj er
          subst er
          have PT := hid (LK.out.put (other := σ.root b) (by rw [link_get RT.out.2,if_neg (fun e => h1 e.symm)]) EB.out (Or.inr ⟨na,rfl,ka1,ka2,ka3,ka4⟩))
          have GP := hid (GL.out.set (b := bb) (Or.inl (List.mem_of_getElem? EB.out)) 1 (.iface Ta (.pointer (some ⟨pa,0,none⟩))))
          clear ka1 ka2 ka3 ka4 ha0 hb0 LK GL hTa
          go_wp2
          go_ret
          exact ⟨GP.out,rfl,_,PT.out⟩
        · rw [hb0] at er
          simp only at er
          have ea3 : ORep H ca (some na) (.iface Ta (.pointer (some ⟨pa,0,none⟩))) := Or.inr ⟨na,rfl,ka1,ka2,ka3,ka4⟩
          have NA : Node H ca (.iface Ta (.pointer (some ⟨pa,0,none⟩))) na := ⟨ka1,ka2,2,ka4⟩
          have NB : Node H ca vb nb := ⟨kb1,kb2,2,kb4⟩
          have AL := hid (fun (W : World) (hW : Fz H W) => alike_e (w := W) NA NB hW)
          have AC := hid (And.intro (show AllC na.kids from ka3) (show AllC nb.kids from kb3))
          have ER := hid er
          obtain ⟨w3,hw3⟩ : ∃ w3,w3 = w2.setCell ⟨ba,1,none⟩ (.iface 173 (.pointer (some ⟨bb,0,none⟩))) := ⟨_,rfl⟩
          rw [← hw3] at LK GL
          have y3 : w3.cell? ⟨bb,1,none⟩ = some vb := by rw [hw3,World.cell?_of_block (a := ⟨bb,1,none⟩) (Below.heap_setCell _ _ _ _ (by exact hne'))]; exact xb
          have hb3 := lt_of_block (LK.out.blk _ bb EB.out).choose_spec.1
          have C3 := hid LK.out
          have G3 := hid GL.out
          have HAG := hid (fun (x : World) (g : w3.grownBy x none) => And.intro (LK.out.fz.grown g) (grown_cell y3 hb3 g))
          by_cases hk : na.kind = nb.kind
          · exact absurd ⟨na,nb,h1,ha0,hb0,hk⟩ HDEEP.out
          · have hr := ER.out
            rw [if_neg hk] at hr
            have hr := (Option.some.inj hr).symm
            subst hr
            rw [decide_eq_false hk] at AL
            obtain ⟨Tb,pb,_,rfl⟩ := kb4.val
            have y3d : w3.drew.cell? ⟨bb,1,none⟩ = some (.iface Tb (.pointer (some ⟨pb,0,none⟩))) := y3
            have A3 := hid (AL.out w3.drew C3.out.fz)
            clear ka1 ka2 ka3 ka4 kb1 kb2 kb3 kb4 ha0 hb0 er hk AL ea3 NA NB HAG AC ER LK GL hTa
            subst hw3
            go_wp2_with fail
            first | go_region_with (go_at_call 97; refine A3.out.mono ?_; rintro e w5 ⟨rfl,g5⟩; have G5 := hid g5; clear g5) | fail
            all_goals
              go_wp2
              go_ret
              exact ⟨G3.out.tr (Gb.drewL (Gb.new G5.out)),rfl⟩
theorem join_any {H : Nat → Option Obj} {ca : List Nat} : ∀ f,JNC H ca f
  | 0 => fun a b x y σ d r w _ _ hj _ => by cases hj
  | f + 1 => join_step (join_any f)
end Go.Proofs.YtcdijppegfcoaabGreatDoor
