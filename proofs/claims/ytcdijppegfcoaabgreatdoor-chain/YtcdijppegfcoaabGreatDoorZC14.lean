import Derived.Test.YtcdijppegfcoaabGreatDoorZC10
set_option maxRecDepth 100000
set_option maxHeartbeats 8000000
namespace Go.Proofs.YtcdijppegfcoaabGreatDoor
open Go.RowKit
theorem join_deep3 {H : Nat → Option Obj} {ca : List Nat} {f : Nat} (hJ : JNC H ca f) (a b x y : Nat) (σ : Sto) (d : Nat → Nat) (r : Option Sto) (w : World) (ea : ca[a]? = some x) (eb : ca[b]? = some y) (hj : joinS (f + 1) a b σ = some r) (hc : CSd H ca σ d w) (h1 : ¬ σ.root a = σ.root b) (na nb : Et) (ha9 : σ.is a = some na) (hb9 : σ.is b = some nb) (hk : na.kind = nb.kind) (hX : na.kind = kFun) : Calls Tryz.prog 203 #[CI x,CI y] w (JNP H ca r w) := by
  have HL1 := hid (fun (W : World) (hW : CSd H ca σ d W) => last_any (d a + 1) a x W (by omega) ea hW)
  have HL2 := hid (fun (W : World) (hW : CSd H ca σ d W) => last_any (d b + 1) b y W (by omega) eb hW)
  have t1 := e1_Cell x
  have t2 := e1_Cell y
  have HC := hid hc
  have HD := hid hc.drew
  rw [joinS,if_neg h1,ha9,hb9] at hj
  simp only at hj
  rw [if_pos hk] at hj
  have HJ := hid hj
  have HKK := hid (And.intro h1 (And.intro ha9 (And.intro hb9 hk)))
  have HJC := hid hJ
  have EE := hid (And.intro ea eb)
  have hla := (List.getElem?_eq_some_iff.1 ea).1
  have hlb := (List.getElem?_eq_some_iff.1 eb).1
  unfold CI
  unfold CP at HL1 HL2
  have HX := hid hX
  clear hj ea eb hc h1 ha9 hb9 hk hJ hX
  go_enter Tryz.func203,Tryz.ntmps203
  go_wp2_with fail
  go_region_held3 (fun wx => CSd H ca σ d wx) (first | assumption | exact HD.out | exact CSd.drew (by assumption) | go_keep) (first
    | (go_at_call_of 129 (Value.pointer (some ⟨x,0,none⟩)); first
      | (refine (HL1.out _ HD.out).mono ?_; rintro e w1 ⟨ba,rfl,ha1,hc1,hg1,_⟩; have C1 := hid (And.intro hc1 hg1); have EA := hid ha1; clear ha1 hg1)
      | (refine (HL1.out _ C1.out.1).mono ?_; rintro e w2 ⟨ba,rfl,ha1,hc2,hg2,_⟩; have C2 := hid (And.intro hc2 (Gb.drewL (C1.out.2.tr hg2))); have EA := hid ha1; clear ha1 hg2))
    | (go_at_call_of 129 (Value.pointer (some ⟨y,0,none⟩)); first
      | (refine (HL2.out _ HD.out).mono ?_; rintro e w1 ⟨bb,rfl,hb1,hc1,hg1,_⟩; have C1 := hid (And.intro hc1 hg1); have EB := hid hb1; clear hb1 hg1)
      | (refine (HL2.out _ C1.out.1).mono ?_; rintro e w2 ⟨bb,rfl,hb1,hc2,hg2,_⟩; have C2 := hid (And.intro hc2 (Gb.drewL (C1.out.2.tr hg2))); have EB := hid hb1; clear hb1 hg2)))
  all_goals
    have hd2 := C2.out.1
    obtain ⟨va,hva,hoa⟩ := hd2.root_val hla EA.out
    obtain ⟨vb,hvb,hob⟩ := hd2.root_val hlb EB.out
    obtain ⟨_,xa,_,fa⟩ := cell_at hva
    obtain ⟨_,xb,_,fb⟩ := cell_at hvb
    obtain ⟨_,era,_⟩ := hd2.root_get (List.getElem?_eq_getElem hla)
    obtain ⟨_,erb,_⟩ := hd2.root_get (List.getElem?_eq_getElem hlb)
    have era2 := hd2.rr _ _ era
    have erb2 := hd2.rr _ _ erb
    have nd := hd2.nd
    have RT := hid (And.intro era2 erb2)
    have HVV := hid (And.intro hva hvb)
    clear hva hvb era erb era2 erb2 hd2 HL1 HL2 HC HD
    unfold CP
    have hne : ba ≠ bb := fun e => HKK.out.1 (by
      have e1 := EA.out
      rw [e] at e1
      exact (List.getElem?_inj (List.getElem?_eq_some_iff.1 e1).1 nd).1 (e1.trans EB.out.symm))
    have hne' : bb ≠ ba := Ne.symm hne
    have pq := ptr_other hne HVV.out.1 HVV.out.2
    have LK := hid (C2.out.1.link RT.out.1 RT.out.2 HKK.out.1 EA.out EB.out)
    have GL := hid (C2.out.2.set (b := ba) (Or.inl (List.mem_of_getElem? EA.out)) 1 (CI bb))
    unfold CI at LK GL
    clear nd
    rcases hoa with ⟨ha0,_⟩ | ⟨na',ha0,ka1,ka2,ka3,ka4⟩
    · rw [HKK.out.2.1] at ha0; cases ha0
    · obtain rfl := Option.some.inj (HKK.out.2.1.symm.trans ha0)
      rcases hob with ⟨hb0,_⟩ | ⟨nb',hb0,kb1,kb2,kb3,kb4⟩
      · rw [HKK.out.2.2.1] at hb0; cases hb0
      · obtain rfl := Option.some.inj (HKK.out.2.2.1.symm.trans hb0)
        have NA : Node H ca va na := ⟨ka1,ka2,2,ka4⟩
        have NB : Node H ca vb nb := ⟨kb1,kb2,2,kb4⟩
        have AL := hid (fun (W : World) (hW : Fz H W) => alike_e (w := W) NA NB hW)
        rw [decide_eq_true HKK.out.2.2.2] at AL
        obtain ⟨p1,us,p2,vs,T0,F0,n1,n2,hTF⟩ := nk_same NA NB HKK.out.2.2.2
        have AC := hid (And.intro (show AllC na.kids from ka3) (show AllC nb.kids from kb3))
        obtain ⟨w3,hw3⟩ : ∃ w3,w3 = w2.setCell ⟨ba,1,none⟩ (.iface 173 (.pointer (some ⟨bb,0,none⟩))) := ⟨_,rfl⟩
        rw [← hw3] at LK GL
        obtain rfl := n1.val
        obtain rfl := n2.val
        have y3 : w3.cell? ⟨bb,1,none⟩ = some (.iface T0 (.pointer (some ⟨p2,0,none⟩))) := by rw [hw3,World.cell?_of_block (a := ⟨bb,1,none⟩) (Below.heap_setCell _ _ _ _ (by exact hne'))]; exact xb
        have hb3 := lt_of_block (LK.out.blk _ bb EB.out).choose_spec.1
        have y3d : w3.drew.cell? ⟨bb,1,none⟩ = some (.iface T0 (.pointer (some ⟨p2,0,none⟩))) := y3
        have A3 := hid (AL.out w3.drew LK.out.fz)
        have KN := hid (And.intro n1 n2)
        have m1 := n1.meth
        have m2 := n2.meth
        have HD3 := hid (show CSd H ca (σ.link (σ.root a) (σ.root b)) (fun i => if i = σ.root a then 0 else d i + 1) w3.drew from LK.out.drew)
        have JA := hid (fun (W : World) (v1 v2 : Value) (gW : w3.drew.grownBy W none) (h1 : SLC ca W v1 us) (h2 : SLC ca W v2 vs) => joinAll_any HJC.out (us := us) (vs := vs) (ks := na.kids) (ls := nb.kids) (r := r) (w := W) h1 h2 n1.two n1.kr n2.kr AC.out.1 AC.out.2 (nk_len NA NB HKK.out.2.2.2) HJ.out (CSd.grown HD3.out gW))
        clear ka1 ka2 ka3 ka4 kb1 kb2 kb3 kb4 ha0 hb0 NA NB AL n1 n2
        subst hw3
        have hTF : T0 = 209 ∧ F0 = 242 := by
          rcases hTF with h | h | h | h
          · exact absurd HX.out (by rcases h.1 with e | e <;> rw [e] <;> decide)
          · exact absurd (h.1.symm.trans HX.out) (by decide)
          · exact absurd (h.1.symm.trans HX.out) (by decide)
          · exact h.2
        obtain ⟨rfl,rfl⟩ := hTF
        cases r with
        | none =>
            go_wp2_with fail
            first | go_region_with (first
              | (go_at_call 97; refine A3.out.mono ?_; rintro e w5 ⟨rfl,g5⟩; have y5 := grown_cell y3d hb3 g5; have G5 := hid g5; clear g5)
              | (go_at_call_of 242 (Value.pointer (some ⟨p1,0,none⟩)); refine (KN.out.1.run _ (HD3.out.fz.grown G5.out)).mono ?_; rintro e w6 ⟨g6,h6⟩; obtain ⟨v1,rfl,sl1⟩ := slc_of HD3.out G5.out.size h6 (World.grownBy.refl _ _); have y6 := grown_cell y5 (Nat.lt_of_lt_of_le hb3 G5.out.size) g6; have G6 := hid (And.intro (G5.out.trans g6) sl1); clear g6 h6 sl1)
              | (go_at_call_of 242 (Value.pointer (some ⟨p2,0,none⟩)); refine (KN.out.2.run _ (HD3.out.fz.grown G6.out.1)).mono ?_; rintro e w7 ⟨g7,h7⟩; obtain ⟨v2,rfl,sl2⟩ := slc_of HD3.out G6.out.1.size h7 (World.grownBy.refl _ _); have G7 := hid (And.intro (G6.out.1.trans g7) (And.intro (G6.out.2.grown g7) sl2)); clear g7 h7 sl2)
              | (go_at_call 211; refine (JA.out _ _ _ G7.out.1 G7.out.2.1 G7.out.2.2).mono ?_; rintro e w8 ⟨g8,rfl⟩; have G8 := hid g8; clear g8)) | fail
            all_goals
              go_wp2
              go_ret
              exact ⟨GL.out.tr (Gb.drewL ((Gb.new G7.out.1).tr G8.out)),rfl⟩
        | some σ9 =>
            go_wp2_with fail
            first | go_region_with (first
              | (go_at_call 97; refine A3.out.mono ?_; rintro e w5 ⟨rfl,g5⟩; have y5 := grown_cell y3d hb3 g5; have G5 := hid g5; clear g5)
              | (go_at_call_of 242 (Value.pointer (some ⟨p1,0,none⟩)); refine (KN.out.1.run _ (HD3.out.fz.grown G5.out)).mono ?_; rintro e w6 ⟨g6,h6⟩; obtain ⟨v1,rfl,sl1⟩ := slc_of HD3.out G5.out.size h6 (World.grownBy.refl _ _); have y6 := grown_cell y5 (Nat.lt_of_lt_of_le hb3 G5.out.size) g6; have G6 := hid (And.intro (G5.out.trans g6) sl1); clear g6 h6 sl1)
              | (go_at_call_of 242 (Value.pointer (some ⟨p2,0,none⟩)); refine (KN.out.2.run _ (HD3.out.fz.grown G6.out.1)).mono ?_; rintro e w7 ⟨g7,h7⟩; obtain ⟨v2,rfl,sl2⟩ := slc_of HD3.out G6.out.1.size h7 (World.grownBy.refl _ _); have G7 := hid (And.intro (G6.out.1.trans g7) (And.intro (G6.out.2.grown g7) sl2)); clear g7 h7 sl2)
              | (go_at_call 211; refine (JA.out _ _ _ G7.out.1 G7.out.2.1 G7.out.2.2).mono ?_; rintro e w8 ⟨g8,rfl,c8⟩; have G8 := hid (And.intro g8 c8); clear g8 c8)) | fail
            all_goals
              go_wp2
              go_ret
              exact ⟨GL.out.tr (Gb.drewL ((Gb.new G7.out.1).tr G8.out.1)),rfl,G8.out.2⟩
end Go.Proofs.YtcdijppegfcoaabGreatDoor
