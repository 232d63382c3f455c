import Derived.Test.YtcdijppegfcoaabGreatDoorZK10
import Derived.Deep.RegionHeld3
import Derived.LaidEqlPtr
import Derived.Test.YtcdijppegfcoaabGreatDoorZK01
set_option maxRecDepth 100000
set_option maxHeartbeats 4000000
namespace Go.Proofs.YtcdijppegfcoaabGreatDoor
open Go.RowKit
theorem inst_pair {tb mb : Nat} {r : List Value} (hne : mb ≠ tb) (f : Nat) (IH : INC tb mb r f) (b : Nat) (t : Et) (σ : Sto) (g : List (List UInt8 × Nat)) (σ' : Sto) (g' : List (List UInt8 × Nat)) (c : Nat) (H : Nat → Option Obj) (ca : List Nat) (d : Nat → Nat) (w : World)
    (hi : instS (f + 1) t σ g = some (σ',g',c)) (hm : MS H ca σ d tb r w) (hf : FR ca w mb g) (hb : H mb = none) (hba : mb ∉ ca) (hk : t.kind = oPair) (k1 : Et) (T1 : TypeId) (b1 : Nat) (k2 : Et) (T2 : TypeId) (b2 : Nat) (hkid : t.kids = [k1,k2]) (e1 : ER H ca (.iface T1 (.pointer (some ⟨b1,0,none⟩))) k1) (e2 : ER H ca (.iface T2 (.pointer (some ⟨b2,0,none⟩))) k2) (h5 : H b = some (.cells #[.iface T1 (.pointer (some ⟨b1,0,none⟩)),.iface T2 (.pointer (some ⟨b2,0,none⟩))] 319 (0,0))) :
    Calls Tryz.prog 181 #[CP tb,.iface 291 (.pointer (some ⟨b,0,none⟩)),.map (some mb)] w (INP H ca d tb mb r σ' g' c w) := by
  rw [instS,if_neg (by rw [hk]; decide),if_neg (by rw [hk]; decide),hkid] at hi
  cases i1 : instS f k1 σ g with
  | none => rw [instAll_none i1] at hi; cases hi
  | some r1 =>
  obtain ⟨σ1,g1,c1⟩ := r1
  cases i2 : instS f k2 σ1 g1 with
  | none => simp only [instAllS,i1,i2] at hi; cases hi
  | some r2 =>
  obtain ⟨σ2,g2,c2⟩ := r2
  simp only [instAllS,i1,i2] at hi
  have hi9 := hi
  split at hi9
  · rename_i hro
    simp only [Option.some.injEq,Prod.mk.injEq] at hi9
    obtain ⟨rfl,rfl,rfl⟩ := hi9
    have a1 := iA_Pair_Cell b
    have a2 := iA_Pair_Var b
    have mt := eB_Pair b
    have HH := hid (And.intro hm (And.intro hf (And.intro hb (And.intro hba (And.intro hk (And.intro i1 (And.intro e1 (And.intro i2 e2))))))))
    have hbw := hm.cs.fz _ _ h5
    have htl := hm.bk.lt
    have hml := hf.1.lt
    have IHH := hid IH
    have HRO := hid hro
    clear hm hf hb hba hk hkid hi hro i1 i2 IH
    unfold CP at *
    go_enter Tryz.func181,Tryz.ntmps181
    go_wp2_with fail
    refine (eb_pair b w T1 T2 b1 b2 hbw).mono ?_
    rintro e w1 ⟨rfl,hw1⟩
    have g01 : w.grownBy w1 none := by rw [hw1]; exact grown_drew (World.grownBy_alloc _ _ _)
    have gb1 : w1.heap[w.heap.size]? = some (.cells #[.iface T1 (.pointer (some ⟨b1,0,none⟩)),.iface T2 (.pointer (some ⟨b2,0,none⟩))] 77 (0,0)) := by rw [hw1]; exact heap_alloc_at _ _ _ rfl
    have hs1 : w.heap.size < w1.heap.size := lt_of_block gb1
    clear hw1 hbw
    have m1 := HH.out.1.grown g01
    have f1 := HH.out.2.1.gb (R := fun _ => False) (Gb.new g01) id
    have hHg : H w.heap.size = none := HH.out.1.cs.fz.none (Nat.le_refl _)
    have hgn : ¬ InAs ca w.heap.size := fun h => by have := InAs.lt HH.out.1.cs h; omega
    have CI1 := hid (IHH.out k1 _ σ g σ1 g1 c1 H ca d w1 HH.out.2.2.2.2.2.2.1 HH.out.2.2.2.2.2.1 m1 f1 HH.out.2.2.1 HH.out.2.2.2.1)
    have Q1 := hid (And.intro gb1 (And.intro hHg (And.intro hgn g01)))
    obtain ⟨z0,z1,_⟩ := grow2 gb1
    clear m1 f1 gb1 g01 hHg hgn
    unfold CP at CI1
    go_wp2_with fail
    refine wp_loop_rounds 3 ?_
    rw [rounds_succ]
    go_wp2_with fail
    refine CI1.out.mono ?_
    rintro e w2 ⟨H1,ca1,x1,rfl,ex1,m2,mx1,f2,hb1,hba1,gw2⟩
    have gb2 : w2.heap[w.heap.size]? = _ := gw2.at Q1.out.1 (fun e => e.elim (fun e => by omega) (fun e => e.elim (fun e => by omega) Q1.out.2.2.1))
    have hH1 : H1 w.heap.size = none := by
      cases h9 : H1 w.heap.size with
      | none => rfl
      | some o =>
        rcases mx1.new _ o h9 with h | h
        · rw [Q1.out.2.1] at h; cases h
        · omega
    have hg1 : ¬ InAs ca1 w.heap.size := fun h => by
      rcases mx1.cnew _ h with h | h
      · exact Q1.out.2.2.1 h
      · omega
    have m3 := m2.setNew hg1 hH1 (by omega) 0 (CI x1)
    have hs2 := gw2.size
    have gs2 : Gb (fun k => k = w.heap.size) w2 (w2.setCell ⟨w.heap.size,0,none⟩ (CI x1)) := (Gb.refl (fun k => k = w.heap.size) w2).set (b := w.heap.size) (Or.inl rfl) 0 (CI x1)
    have f3 := f2.gb gs2 (by omega)
    have gw3 : Gb (fun k => k = tb ∨ k = mb ∨ InAs ca k) w (w2.setCell ⟨w.heap.size,0,none⟩ (CI x1)) := ((Gb.new Q1.out.2.2.2).tr gw2).set (b := w.heap.size) (Or.inr (Nat.le_refl _)) 0 (CI x1)
    obtain ⟨z0,z1,z2,z3,z4,_⟩ := grow2 gb2
    have gb3 := z4 (CI x1)
    have E3 := hid (And.intro m3 (And.intro f3 (And.intro gw3 (And.intro mx1 (And.intro hb1 (And.intro hba1 (And.intro ex1 (And.intro gb3 (And.intro hH1 hg1)))))))))
    have hs3 : (w2.setCell ⟨w.heap.size,0,none⟩ (CI x1)).heap.size = w2.heap.size := by simp [World.setCell]
    obtain ⟨y0,y1,_⟩ := grow2 gb3
    have CI2 := hid (IHH.out k2 _ σ1 g1 σ2 g2 c2 H1 ca1 d (w2.setCell ⟨w.heap.size,0,none⟩ (CI x1)) (mx1.er HH.out.2.2.2.2.2.2.2.2) HH.out.2.2.2.2.2.2.2.1 m3 f3 hb1 hba1)
    unfold CI CP at *
    clear m2 mx1 f2 hb1 hba1 gw2 gb2 hH1 hg1 m3 gs2 f3 gw3 CI1 Q1 ex1 z4 gb3
    go_wp2_with fail
    generalize w2.setCell ⟨w.heap.size,0,none⟩ (.iface 173 (.pointer (some ⟨x1,0,none⟩))) = W3 at *
    rw [rounds_succ]
    go_wp2_with fail
    refine CI2.out.mono ?_
    rintro e w5 ⟨H3,ca3,x2,rfl,ex2,m5,mx3,f5,hb5,hba5,gw5⟩
    have gb5 : w5.heap[w.heap.size]? = _ := gw5.at E3.out.2.2.2.2.2.2.2.1 (fun e => e.elim (fun e => by omega) (fun e => e.elim (fun e => by omega) E3.out.2.2.2.2.2.2.2.2.2))
    have hH3 : H3 w.heap.size = none := by
      cases h9 : H3 w.heap.size with
      | none => rfl
      | some o =>
        rcases mx3.new _ o h9 with h | h
        · rw [E3.out.2.2.2.2.2.2.2.2.1] at h; cases h
        · omega
    have hg3 : ¬ InAs ca3 w.heap.size := fun h => by
      rcases mx3.cnew _ h with h | h
      · exact E3.out.2.2.2.2.2.2.2.2.2 h
      · omega
    have m7 := m5.setNew hg3 hH3 (by omega) 1 (CI x2)
    have hs5 := gw5.size
    have gs5 : Gb (fun k => k = w.heap.size) w5 (w5.setCell ⟨w.heap.size,1,none⟩ (CI x2)) := (Gb.refl (fun k => k = w.heap.size) w5).set (b := w.heap.size) (Or.inl rfl) 1 (CI x2)
    have f7 := f5.gb gs5 (by omega)
    have mx7 : MX H H3 ca ca3 w := (MX.trans E3.out.2.2.2.1 mx3 (by omega)).low (by omega)
    have gw7 : Gb (fun k => k = tb ∨ k = mb ∨ InAs ca k) w (w5.setCell ⟨w.heap.size,1,none⟩ (CI x2)) := (E3.out.2.2.1.trans gw5 (fun i e => e.elim (fun e => Or.inl (Or.inl e)) (fun e => e.elim (fun e => Or.inl (Or.inr (Or.inl e))) (fun e => (E3.out.2.2.2.1.cnew i e).elim (fun e => Or.inl (Or.inr (Or.inr e))) (fun e => Or.inr (by omega)))))).set (b := w.heap.size) (Or.inr (Nat.le_refl _)) 1 (CI x2)
    obtain ⟨z0,z1,z2,z3,_,z4⟩ := grow2 gb5
    have gb7 := z4 (CI x2)
    have ex13 := get_pre mx3.pre E3.out.2.2.2.2.2.2.1
    have E7 := hid (And.intro m7 (And.intro f7 (And.intro gw7 (And.intro mx7 (And.intro hb5 (And.intro hba5 (And.intro ex13 ex2)))))))
    have hs7 : (w5.setCell ⟨w.heap.size,1,none⟩ (CI x2)).heap.size = w5.heap.size := by simp [World.setCell]
    obtain ⟨zc,zd,_⟩ := grow2 gb7
    unfold CI CP at *
    clear ex2 m5 mx3 f5 hb5 hba5 gw5 gb5 hH3 hg3 m7 gs5 f7 mx7 gw7 z4 gb7 ex13 CI2 E3
    go_wp2_with fail
    generalize w5.setCell ⟨w.heap.size,1,none⟩ (.iface 173 (.pointer (some ⟨x2,0,none⟩))) = W7 at *
    rw [rounds_succ]
    have LI := hid (like_pair b w.heap.size 2 173 x1 173 x2 W7 zc zd)
    go_wp2_with fail
    refine LI.out.mono ?_
    rintro e w4 ⟨g4,p,rfl,hp,hb4⟩
    have hsw : w.heap.size ≤ W7.heap.size := E7.out.2.2.1.size
    have hpa : ¬ InAs ca3 p := fun h => by have := InAs.lt E7.out.1.cs h; omega
    have hHp : H3 p = none := E7.out.1.cs.fz.none hp
    have m9 := (E7.out.1.grown g4).more hb4 hHp hpa (by have := E7.out.1.bk.lt; omega)
    have mx9 : MX H (onto1 H3 p (.cells #[.iface 173 (.pointer (some ⟨x1,0,none⟩)),.iface 173 (.pointer (some ⟨x2,0,none⟩))] 319 (0,0))) ca ca3 w := ⟨fun i o e => onto1_ext hHp i o (E7.out.2.2.2.1.ext i o e),onto1_new (fun i o e => E7.out.2.2.2.1.new i o e) (by omega),E7.out.2.2.2.1.pre,E7.out.2.2.2.1.cnew⟩
    have CO := hid (inst_end (nd := ⟨t.kind,[],0,[cT c1,cT c2]⟩) m9 mx9 (Or.inr ⟨_,rfl,by rw [HH.out.2.2.2.2.1]; decide,by rw [HH.out.2.2.2.2.1]; decide,(fun k hk => by simp at hk; rcases hk with rfl | rfl <;> rfl),⟨p,Or.inr (Or.inr (Or.inr (Or.inr (Or.inl ⟨HH.out.2.2.2.2.1,Nat.zero_le _,cT c1,cT c2,_,_,rfl,rfl,onto1_at,er_cell E7.out.2.2.2.2.2.2.1,er_cell E7.out.2.2.2.2.2.2.2⟩))))⟩⟩) (E7.out.2.1.gb (R := fun _ => False) (Gb.new g4) id) (show onto1 H3 p (.cells #[.iface 173 (.pointer (some ⟨x1,0,none⟩)),.iface 173 (.pointer (some ⟨x2,0,none⟩))] 319 (0,0)) mb = none by unfold onto1; rw [if_neg (by have := E7.out.2.1.1.lt; omega)]; exact E7.out.2.2.2.2.1) E7.out.2.2.2.2.2.1 hne (E7.out.2.2.1.tr (Gb.new g4)) HRO.out)
    clear m9 mx9 g4 hb4 hHp hpa LI
    unfold CP at CO
    go_wp2_with fail
    refine CO.out.mono ?_
    rintro e w9 ho
    have HO := hid ho
    obtain ⟨_,_,x9,rfl,_⟩ := ho
    unfold CP at *
    clear CO
    go_wp2
    go_ret
    exact HO.out
  · cases hi9
theorem inst_arrow {tb mb : Nat} {r : List Value} (hne : mb ≠ tb) (f : Nat) (IH : INC tb mb r f) (b : Nat) (t : Et) (σ : Sto) (g : List (List UInt8 × Nat)) (σ' : Sto) (g' : List (List UInt8 × Nat)) (c : Nat) (H : Nat → Option Obj) (ca : List Nat) (d : Nat → Nat) (w : World)
    (hi : instS (f + 1) t σ g = some (σ',g',c)) (hm : MS H ca σ d tb r w) (hf : FR ca w mb g) (hb : H mb = none) (hba : mb ∉ ca) (hk : t.kind = kFun) (k1 : Et) (T1 : TypeId) (b1 : Nat) (k2 : Et) (T2 : TypeId) (b2 : Nat) (hkid : t.kids = [k1,k2]) (e1 : ER H ca (.iface T1 (.pointer (some ⟨b1,0,none⟩))) k1) (e2 : ER H ca (.iface T2 (.pointer (some ⟨b2,0,none⟩))) k2) (h5 : H b = some (.cells #[.iface T1 (.pointer (some ⟨b1,0,none⟩)),.iface T2 (.pointer (some ⟨b2,0,none⟩))] 211 (0,0))) :
    Calls Tryz.prog 181 #[CP tb,.iface 209 (.pointer (some ⟨b,0,none⟩)),.map (some mb)] w (INP H ca d tb mb r σ' g' c w) := by
  rw [instS,if_neg (by rw [hk]; decide),if_neg (by rw [hk]; decide),hkid] at hi
  cases i1 : instS f k1 σ g with
  | none => rw [instAll_none i1] at hi; cases hi
  | some r1 =>
  obtain ⟨σ1,g1,c1⟩ := r1
  cases i2 : instS f k2 σ1 g1 with
  | none => simp only [instAllS,i1,i2] at hi; cases hi
  | some r2 =>
  obtain ⟨σ2,g2,c2⟩ := r2
  simp only [instAllS,i1,i2] at hi
  have hi9 := hi
  split at hi9
  · rename_i hro
    simp only [Option.some.injEq,Prod.mk.injEq] at hi9
    obtain ⟨rfl,rfl,rfl⟩ := hi9
    have a1 := iA_Arrow_Cell b
    have a2 := iA_Arrow_Var b
    have mt := eB_Arrow b
    have HH := hid (And.intro hm (And.intro hf (And.intro hb (And.intro hba (And.intro hk (And.intro i1 (And.intro e1 (And.intro i2 e2))))))))
    have hbw := hm.cs.fz _ _ h5
    have htl := hm.bk.lt
    have hml := hf.1.lt
    have IHH := hid IH
    have HRO := hid hro
    clear hm hf hb hba hk hkid hi hro i1 i2 IH
    unfold CP at *
    go_enter Tryz.func181,Tryz.ntmps181
    go_wp2_with fail
    refine (eb_arrow b w T1 T2 b1 b2 hbw).mono ?_
    rintro e w1 ⟨rfl,hw1⟩
    have g01 : w.grownBy w1 none := by rw [hw1]; exact grown_drew (World.grownBy_alloc _ _ _)
    have gb1 : w1.heap[w.heap.size]? = some (.cells #[.iface T1 (.pointer (some ⟨b1,0,none⟩)),.iface T2 (.pointer (some ⟨b2,0,none⟩))] 77 (0,0)) := by rw [hw1]; exact heap_alloc_at _ _ _ rfl
    have hs1 : w.heap.size < w1.heap.size := lt_of_block gb1
    clear hw1 hbw
    have m1 := HH.out.1.grown g01
    have f1 := HH.out.2.1.gb (R := fun _ => False) (Gb.new g01) id
    have hHg : H w.heap.size = none := HH.out.1.cs.fz.none (Nat.le_refl _)
    have hgn : ¬ InAs ca w.heap.size := fun h => by have := InAs.lt HH.out.1.cs h; omega
    have CI1 := hid (IHH.out k1 _ σ g σ1 g1 c1 H ca d w1 HH.out.2.2.2.2.2.2.1 HH.out.2.2.2.2.2.1 m1 f1 HH.out.2.2.1 HH.out.2.2.2.1)
    have Q1 := hid (And.intro gb1 (And.intro hHg (And.intro hgn g01)))
    obtain ⟨z0,z1,_⟩ := grow2 gb1
    clear m1 f1 gb1 g01 hHg hgn
    unfold CP at CI1
    go_wp2_with fail
    refine wp_loop_rounds 3 ?_
    rw [rounds_succ]
    go_wp2_with fail
    refine CI1.out.mono ?_
    rintro e w2 ⟨H1,ca1,x1,rfl,ex1,m2,mx1,f2,hb1,hba1,gw2⟩
    have gb2 : w2.heap[w.heap.size]? = _ := gw2.at Q1.out.1 (fun e => e.elim (fun e => by omega) (fun e => e.elim (fun e => by omega) Q1.out.2.2.1))
    have hH1 : H1 w.heap.size = none := by
      cases h9 : H1 w.heap.size with
      | none => rfl
      | some o =>
        rcases mx1.new _ o h9 with h | h
        · rw [Q1.out.2.1] at h; cases h
        · omega
    have hg1 : ¬ InAs ca1 w.heap.size := fun h => by
      rcases mx1.cnew _ h with h | h
      · exact Q1.out.2.2.1 h
      · omega
    have m3 := m2.setNew hg1 hH1 (by omega) 0 (CI x1)
    have hs2 := gw2.size
    have gs2 : Gb (fun k => k = w.heap.size) w2 (w2.setCell ⟨w.heap.size,0,none⟩ (CI x1)) := (Gb.refl (fun k => k = w.heap.size) w2).set (b := w.heap.size) (Or.inl rfl) 0 (CI x1)
    have f3 := f2.gb gs2 (by omega)
    have gw3 : Gb (fun k => k = tb ∨ k = mb ∨ InAs ca k) w (w2.setCell ⟨w.heap.size,0,none⟩ (CI x1)) := ((Gb.new Q1.out.2.2.2).tr gw2).set (b := w.heap.size) (Or.inr (Nat.le_refl _)) 0 (CI x1)
    obtain ⟨z0,z1,z2,z3,z4,_⟩ := grow2 gb2
    have gb3 := z4 (CI x1)
    have E3 := hid (And.intro m3 (And.intro f3 (And.intro gw3 (And.intro mx1 (And.intro hb1 (And.intro hba1 (And.intro ex1 (And.intro gb3 (And.intro hH1 hg1)))))))))
    have hs3 : (w2.setCell ⟨w.heap.size,0,none⟩ (CI x1)).heap.size = w2.heap.size := by simp [World.setCell]
    obtain ⟨y0,y1,_⟩ := grow2 gb3
    have CI2 := hid (IHH.out k2 _ σ1 g1 σ2 g2 c2 H1 ca1 d (w2.setCell ⟨w.heap.size,0,none⟩ (CI x1)) (mx1.er HH.out.2.2.2.2.2.2.2.2) HH.out.2.2.2.2.2.2.2.1 m3 f3 hb1 hba1)
    unfold CI CP at *
    clear m2 mx1 f2 hb1 hba1 gw2 gb2 hH1 hg1 m3 gs2 f3 gw3 CI1 Q1 ex1 z4 gb3
    go_wp2_with fail
    generalize w2.setCell ⟨w.heap.size,0,none⟩ (.iface 173 (.pointer (some ⟨x1,0,none⟩))) = W3 at *
    rw [rounds_succ]
    go_wp2_with fail
    refine CI2.out.mono ?_
    rintro e w5 ⟨H3,ca3,x2,rfl,ex2,m5,mx3,f5,hb5,hba5,gw5⟩
    have gb5 : w5.heap[w.heap.size]? = _ := gw5.at E3.out.2.2.2.2.2.2.2.1 (fun e => e.elim (fun e => by omega) (fun e => e.elim (fun e => by omega) E3.out.2.2.2.2.2.2.2.2.2))
    have hH3 : H3 w.heap.size = none := by
      cases h9 : H3 w.heap.size with
      | none => rfl
      | some o =>
        rcases mx3.new _ o h9 with h | h
        · rw [E3.out.2.2.2.2.2.2.2.2.1] at h; cases h
        · omega
    have hg3 : ¬ InAs ca3 w.heap.size := fun h => by
      rcases mx3.cnew _ h with h | h
      · exact E3.out.2.2.2.2.2.2.2.2.2 h
      · omega
    have m7 := m5.setNew hg3 hH3 (by omega) 1 (CI x2)
    have hs5 := gw5.size
    have gs5 : Gb (fun k => k = w.heap.size) w5 (w5.setCell ⟨w.heap.size,1,none⟩ (CI x2)) := (Gb.refl (fun k => k = w.heap.size) w5).set (b := w.heap.size) (Or.inl rfl) 1 (CI x2)
    have f7 := f5.gb gs5 (by omega)
    have mx7 : MX H H3 ca ca3 w := (MX.trans E3.out.2.2.2.1 mx3 (by omega)).low (by omega)
    have gw7 : Gb (fun k => k = tb ∨ k = mb ∨ InAs ca k) w (w5.setCell ⟨w.heap.size,1,none⟩ (CI x2)) := (E3.out.2.2.1.trans gw5 (fun i e => e.elim (fun e => Or.inl (Or.inl e)) (fun e => e.elim (fun e => Or.inl (Or.inr (Or.inl e))) (fun e => (E3.out.2.2.2.1.cnew i e).elim (fun e => Or.inl (Or.inr (Or.inr e))) (fun e => Or.inr (by omega)))))).set (b := w.heap.size) (Or.inr (Nat.le_refl _)) 1 (CI x2)
    obtain ⟨z0,z1,z2,z3,_,z4⟩ := grow2 gb5
    have gb7 := z4 (CI x2)
    have ex13 := get_pre mx3.pre E3.out.2.2.2.2.2.2.1
    have E7 := hid (And.intro m7 (And.intro f7 (And.intro gw7 (And.intro mx7 (And.intro hb5 (And.intro hba5 (And.intro ex13 ex2)))))))
    have hs7 : (w5.setCell ⟨w.heap.size,1,none⟩ (CI x2)).heap.size = w5.heap.size := by simp [World.setCell]
    obtain ⟨zc,zd,_⟩ := grow2 gb7
    unfold CI CP at *
    clear ex2 m5 mx3 f5 hb5 hba5 gw5 gb5 hH3 hg3 m7 gs5 f7 mx7 gw7 z4 gb7 ex13 CI2 E3
    go_wp2_with fail
    generalize w5.setCell ⟨w.heap.size,1,none⟩ (.iface 173 (.pointer (some ⟨x2,0,none⟩))) = W7 at *
    rw [rounds_succ]
    have LI := hid (like_arrow b w.heap.size 2 173 x1 173 x2 W7 zc zd)
    go_wp2_with fail
    refine LI.out.mono ?_
    rintro e w4 ⟨g4,p,rfl,hp,hb4⟩
    have hsw : w.heap.size ≤ W7.heap.size := E7.out.2.2.1.size
    have hpa : ¬ InAs ca3 p := fun h => by have := InAs.lt E7.out.1.cs h; omega
    have hHp : H3 p = none := E7.out.1.cs.fz.none hp
    have m9 := (E7.out.1.grown g4).more hb4 hHp hpa (by have := E7.out.1.bk.lt; omega)
    have mx9 : MX H (onto1 H3 p (.cells #[.iface 173 (.pointer (some ⟨x1,0,none⟩)),.iface 173 (.pointer (some ⟨x2,0,none⟩))] 211 (0,0))) ca ca3 w := ⟨fun i o e => onto1_ext hHp i o (E7.out.2.2.2.1.ext i o e),onto1_new (fun i o e => E7.out.2.2.2.1.new i o e) (by omega),E7.out.2.2.2.1.pre,E7.out.2.2.2.1.cnew⟩
    have CO := hid (inst_end (nd := ⟨t.kind,[],0,[cT c1,cT c2]⟩) m9 mx9 (Or.inr ⟨_,rfl,by rw [HH.out.2.2.2.2.1]; decide,by rw [HH.out.2.2.2.2.1]; decide,(fun k hk => by simp at hk; rcases hk with rfl | rfl <;> rfl),⟨p,Or.inr (Or.inr (Or.inr (Or.inr (Or.inr ⟨HH.out.2.2.2.2.1,Nat.zero_le _,cT c1,cT c2,_,_,rfl,rfl,onto1_at,er_cell E7.out.2.2.2.2.2.2.1,er_cell E7.out.2.2.2.2.2.2.2⟩))))⟩⟩) (E7.out.2.1.gb (R := fun _ => False) (Gb.new g4) id) (show onto1 H3 p (.cells #[.iface 173 (.pointer (some ⟨x1,0,none⟩)),.iface 173 (.pointer (some ⟨x2,0,none⟩))] 211 (0,0)) mb = none by unfold onto1; rw [if_neg (by have := E7.out.2.1.1.lt; omega)]; exact E7.out.2.2.2.2.1) E7.out.2.2.2.2.2.1 hne (E7.out.2.2.1.tr (Gb.new g4)) HRO.out)
    clear m9 mx9 g4 hb4 hHp hpa LI
    unfold CP at CO
    go_wp2_with fail
    refine CO.out.mono ?_
    rintro e w9 ho
    have HO := hid ho
    obtain ⟨_,_,x9,rfl,_⟩ := ho
    unfold CP at *
    clear CO
    go_wp2
    go_ret
    exact HO.out
  · cases hi9
theorem inst_any {tb mb : Nat} {r : List Value} (hne : mb ≠ tb) : ∀ f,INC tb mb r f
  | 0 => fun t v σ g σ' g' c H ca d w _ hi _ _ _ _ => by cases hi
  | f + 1 => fun t v σ g σ' g' c H ca d w hv hi hm hf hb hba => by
    have hv0 := hv
    obtain ⟨m,hv⟩ := hv
    cases m with
    | zero => exact absurd hv id
    | succ m =>
    obtain ⟨b,hv⟩ := hv
    rcases hv with ⟨h1,_⟩ | ⟨h1,_⟩ | ⟨h1,h2,rfl,h4⟩ | ⟨h1,_,a,u,h2,rfl,h4,h5⟩ | ⟨h1,_,a,a2,u,z,h2,rfl,h4,h5,h6⟩ | ⟨h1,_,a,a2,u,z,h2,rfl,h4,h5,h6⟩
    · exact inst_cell hne f t v σ g σ' g' c H ca d w hv0 hi hm hf hb hba (Or.inl h1)
    · exact inst_cell hne f t v σ g σ' g' c H ca d w hv0 hi hm hf hb hba (Or.inr h1)
    · exact inst_basic hne f b t σ g σ' g' c H ca d w hi hm hf hb hba h1 h2 h4
    · obtain ⟨T1,b1,_,rfl⟩ := h5.val
      exact inst_list hne f (inst_any hne f) b t σ g σ' g' c H ca d w hi hm hf hb hba h1 a T1 b1 h2 ⟨m,h5⟩ h4
    · obtain ⟨T1,b1,_,rfl⟩ := h5.val
      obtain ⟨T2,b2,_,rfl⟩ := h6.val
      exact inst_pair hne f (inst_any hne f) b t σ g σ' g' c H ca d w hi hm hf hb hba h1 a T1 b1 a2 T2 b2 h2 ⟨m,h5⟩ ⟨m,h6⟩ h4
    · obtain ⟨T1,b1,_,rfl⟩ := h5.val
      obtain ⟨T2,b2,_,rfl⟩ := h6.val
      exact inst_arrow hne f (inst_any hne f) b t σ g σ' g' c H ca d w hi hm hf hb hba h1 a T1 b1 a2 T2 b2 h2 ⟨m,h5⟩ ⟨m,h6⟩ h4
theorem mk_fresh (w : World) : (Instr.makeMap 333 none).run Tryz.prog w = .ok (.map (some w.heap.size)) (w.alloc (.map #[] 0)) := by kernel_rfl
def STP (H : Nat → Option Obj) (ca : List Nat) (tb : Nat) (r : List Value) (σ' : Sto) (c : Nat) (w : World) (e : Ending) (w' : World) : Prop :=
  ∃ H' ca' d' x,e = .returned (CP x) ∧ ca'[c]? = some x ∧ MS H' ca' σ' d' tb r w' ∧ MX H H' ca ca' w ∧ Gb (fun k => k = tb ∨ InAs ca k) w w'
theorem Instance_any {H : Nat → Option Obj} {ca : List Nat} {σ σ' : Sto} {d : Nat → Nat} {tb : Nat} {r : List Value} {f : Nat} {t : Et} {v : Value} {g' : List (List UInt8 × Nat)} {c : Nat} {w : World} (hv : ER H ca v t) (hi : instS f t σ [] = some (σ',g',c)) (hm : MS H ca σ d tb r w) :
    Calls Tryz.prog 152 #[CP tb,.agg #[v]] w (STP H ca tb r σ' c w) := by
  obtain ⟨T0,b0,_,rfl⟩ := er_val hv
  have htl := hm.bk.lt
  have g1 : w.grownBy (w.alloc (.cells #[.iface T0 (.pointer (some ⟨b0,0,none⟩))] 109)) none := World.grownBy_alloc _ _ _
  have s1 : (w.alloc (.cells #[.iface T0 (.pointer (some ⟨b0,0,none⟩))] 109)).heap.size = w.heap.size + 1 := by simp
  have hmk := mk_fresh (w.alloc (.cells #[.iface T0 (.pointer (some ⟨b0,0,none⟩))] 109))
  have g2 := g1.trans (World.grownBy_alloc (w.alloc (.cells #[.iface T0 (.pointer (some ⟨b0,0,none⟩))] 109)) (.map #[] 0) none)
  have F0 : FR ca ((w.alloc (.cells #[.iface T0 (.pointer (some ⟨b0,0,none⟩))] 109)).alloc (.map #[] 0)) (w.alloc (.cells #[.iface T0 (.pointer (some ⟨b0,0,none⟩))] 109)).heap.size [] := ⟨GM.new,fun p hp => by cases hp⟩
  rw [s1] at F0 hmk
  have CI := hid (inst_any (tb := tb) (mb := w.heap.size + 1) (r := r) (by omega) f t _ σ [] σ' g' c H ca d _ hv hi (hm.grown g2) F0 (hm.cs.fz.none (by omega)) (fun h => by have := InAs.lt hm.cs h; omega))
  have G2 := hid g2
  unfold CP at CI ⊢
  clear hv hi hm F0 g1 g2 s1
  go_enter Tryz.func152,Tryz.ntmps152
  go_wp2_with fail
  refine CI.out.mono ?_
  rintro e w1 ⟨H',ca',x,rfl,ex,m1,mx,_,_,_,gw⟩
  have Q := hid (show STP H ca tb r σ' c w (.returned (CP x)) w1 from ⟨H',ca',d,x,rfl,ex,m1,mx.low G2.out.size,(Gb.new G2.out).trans gw (fun i e => e.elim (fun e => Or.inl (Or.inl e)) (fun e => e.elim (fun e => Or.inr (by omega)) (fun e => Or.inl (Or.inr e))))⟩)
  unfold CP at *
  clear ex m1 mx gw CI
  go_wp2
  go_ret
  exact Q.out
def Node (H : Nat → Option Obj) (ca : List Nat) (v : Value) (t : Et) : Prop := t.kind ≠ [] ∧ t.kind ≠ oCell ∧ ER H ca v t
theorem Node.cases {H : Nat → Option Obj} {ca : List Nat} {v : Value} {t : Et} (h : Node H ca v t) : ∃ b,((t.kind = kInt ∨ t.kind = kBool) ∧ v = .iface 275 (.pointer (some ⟨b,0,none⟩)) ∧ H b = some (.cells #[.string (B t.kind)] 277 (0,0))) ∨
    (t.kind = oList ∧ v = .iface 279 (.pointer (some ⟨b,0,none⟩))) ∨ (t.kind = oPair ∧ v = .iface 291 (.pointer (some ⟨b,0,none⟩))) ∨ (t.kind = kFun ∧ v = .iface 209 (.pointer (some ⟨b,0,none⟩))) := by
  obtain ⟨h1,h2,m,h⟩ := h
  cases m with
  | zero => exact absurd h id
  | succ m =>
  obtain ⟨b,h⟩ := h
  refine ⟨b,?_⟩
  rcases h with ⟨q1,_⟩ | ⟨q1,_⟩ | ⟨q1,_,q3,q4⟩ | ⟨q1,_,_,_,_,q3,_⟩ | ⟨q1,_,_,_,_,_,_,q3,_⟩ | ⟨q1,_,_,_,_,_,_,q3,_⟩
  · exact absurd q1 h2
  · exact absurd q1 h1
  · exact Or.inl ⟨q1,q3,q4⟩
  · exact Or.inr (Or.inl ⟨q1,q3⟩)
  · exact Or.inr (Or.inr (Or.inl ⟨q1,q3⟩))
  · exact Or.inr (Or.inr (Or.inr ⟨q1,q3⟩))
theorem alike_e {H : Nat → Option Obj} {ca : List Nat} {u v : Value} {x y : Et} {w : World} (hu : Node H ca u x) (hv : Node H ca v y) (hz : Fz H w) : Calls Tryz.prog 97 #[u,v] w fun e w' => e = .returned (.bool (decide (x.kind = y.kind))) ∧ w.grownBy w' none := by
  obtain ⟨a,hu⟩ := hu.cases
  obtain ⟨b,hv⟩ := hv.cases
  rcases hu with ⟨h1,rfl,h3⟩ | ⟨h1,rfl⟩ | ⟨h1,rfl⟩ | ⟨h1,rfl⟩
  · rcases hv with ⟨g1,rfl,g3⟩ | ⟨g1,rfl⟩ | ⟨g1,rfl⟩ | ⟨g1,rfl⟩
    · exact al_Basic_Basic w a b _ _ (by simp [World.cell?,hz _ _ h3]) (by simp [World.cell?,hz _ _ g3])
    · rw [decide_eq_false (by rcases h1 with h1 | h1 <;> rw [h1,g1] <;> decide)]; exact al_Basic_List w a b
    · rw [decide_eq_false (by rcases h1 with h1 | h1 <;> rw [h1,g1] <;> decide)]; exact al_Basic_Pair w a b
    · rw [decide_eq_false (by rcases h1 with h1 | h1 <;> rw [h1,g1] <;> decide)]; exact al_Basic_Arrow w a b
  · rcases hv with ⟨g1,rfl,g3⟩ | ⟨g1,rfl⟩ | ⟨g1,rfl⟩ | ⟨g1,rfl⟩
    · rw [decide_eq_false (by rcases g1 with g1 | g1 <;> rw [h1,g1] <;> decide)]; exact al_List_Basic w a b
    · rw [decide_eq_true (h1.trans g1.symm)]; exact al_List_List w a b
    · rw [decide_eq_false (by rw [h1,g1] <;> decide)]; exact al_List_Pair w a b
    · rw [decide_eq_false (by rw [h1,g1] <;> decide)]; exact al_List_Arrow w a b
  · rcases hv with ⟨g1,rfl,g3⟩ | ⟨g1,rfl⟩ | ⟨g1,rfl⟩ | ⟨g1,rfl⟩
    · rw [decide_eq_false (by rcases g1 with g1 | g1 <;> rw [h1,g1] <;> decide)]; exact al_Pair_Basic w a b
    · rw [decide_eq_false (by rw [h1,g1] <;> decide)]; exact al_Pair_List w a b
    · rw [decide_eq_true (h1.trans g1.symm)]; exact al_Pair_Pair w a b
    · rw [decide_eq_false (by rw [h1,g1] <;> decide)]; exact al_Pair_Arrow w a b
  · rcases hv with ⟨g1,rfl,g3⟩ | ⟨g1,rfl⟩ | ⟨g1,rfl⟩ | ⟨g1,rfl⟩
    · rw [decide_eq_false (by rcases g1 with g1 | g1 <;> rw [h1,g1] <;> decide)]; exact al_Arrow_Basic w a b
    · rw [decide_eq_false (by rw [h1,g1] <;> decide)]; exact al_Arrow_List w a b
    · rw [decide_eq_false (by rw [h1,g1] <;> decide)]; exact al_Arrow_Pair w a b
    · rw [decide_eq_true (h1.trans g1.symm)]; exact al_Arrow_Arrow w a b
theorem e1_Cell (b : Nat) (w : World) : (Instr.typeAssert (.iface 173 (.pointer (some ⟨b,0,none⟩))) 77 173 false).run Tryz.prog w = .ok (.pointer (some ⟨b,0,none⟩)) w := by kernel_rfl
theorem info_cell : (Tryz.prog.info? 284).map (·.size) = some 2 := by kernel_rfl
theorem ptr_same (a : Nat) (w : World) : (binOp .eql 173 (.pointer (some ⟨a,0,none⟩)) (.pointer (some ⟨a,0,none⟩))).run Tryz.prog w = .ok (.bool true) w := by
  obtain ⟨j,hj,_⟩ := Option.map_eq_some_iff.1 info_cell
  exact run_eql_ptr_same w _ Tryz.underlying173 hj
theorem ptr_other {a b i k : Nat} {u v : Value} {w : World} (h : a ≠ b) (ha : w.heap[a]? = some (cellB i u)) (hb : w.heap[b]? = some (cellB k v)) : (binOp .eql 173 (.pointer (some ⟨a,0,none⟩)) (.pointer (some ⟨b,0,none⟩))).run Tryz.prog w = .ok (.bool false) w := by
  obtain ⟨j,hj,hs⟩ := Option.map_eq_some_iff.1 info_cell
  exact run_eql_ptr_other w Tryz.underlying173 hj (by rw [hs]; decide) (fun e => h (by injection e)) ha hb
def JNP (H : Nat → Option Obj) (ca : List Nat) (r : Option Sto) (w : World) (e : Ending) (w' : World) : Prop :=
  Gb (InAs ca) w w' ∧ match r with
    | none => e = .returned (.bool false)
    | some σ' => e = .returned (.bool true) ∧ ∃ d',CSd H ca σ' d' w'
def JNC (H : Nat → Option Obj) (ca : List Nat) (f : Nat) : Prop := ∀ (a b x y : Nat) (σ : Sto) (d : Nat → Nat) (r : Option Sto) (w : World),ca[a]? = some x → ca[b]? = some y → joinS f a b σ = some r → CSd H ca σ d w → Calls Tryz.prog 203 #[CI x,CI y] w (JNP H ca r w)
def SLC (ca : List Nat) (w : World) (v : Value) (us : List Value) : Prop := ∃ ao cap,v = .slice ao us.length cap ∧ ∀ (j : Nat) (u : Value),us[j]? = some u → ∃ gn,ao = some ⟨gn,0,none⟩ ∧ gn < w.heap.size ∧ ¬ InAs ca gn ∧ w.cell? ⟨gn,j,none⟩ = some u
def AllC (ks : List Et) : Prop := ∀ k,k ∈ ks → k.kind = oCell
theorem cell_val {H : Nat → Option Obj} {ca : List Nat} {u : Value} {k : Et} (h : ER H ca u k) (hk : k.kind = oCell) : ∃ x,ca[k.num]? = some x ∧ u = CI x := by
  obtain ⟨m,h⟩ := h
  cases m with
  | zero => exact absurd h id
  | succ m =>
  obtain ⟨b,h⟩ := h
  rcases h with ⟨h1,h2,h3,h4⟩ | ⟨h1,_⟩ | ⟨h1,_⟩ | ⟨h1,_⟩ | ⟨h1,_⟩ | ⟨h1,_⟩
  · exact ⟨b,h3,h4⟩
  · exact absurd (h1.symm.trans hk) (by decide)
  · rcases h1 with h1 | h1 <;> exact absurd (h1.symm.trans hk) (by decide)
  · exact absurd (h1.symm.trans hk) (by decide)
  · exact absurd (h1.symm.trans hk) (by decide)
  · exact absurd (h1.symm.trans hk) (by decide)
theorem joinAll_any {H : Nat → Option Obj} {ca : List Nat} {f : Nat} (hJ : JNC H ca f) {us vs : List Value} {ks ls : List Et} {σ : Sto} {d : Nat → Nat} {r : Option Sto} {w : World} {v1 v2 : Value}
    (h1 : SLC ca w v1 us) (h2 : SLC ca w v2 vs) (hn : us.length ≤ 2) (k1 : KR H ca us ks) (k2 : KR H ca vs ls) (a1 : AllC ks) (a2 : AllC ls) (hl : ks.length = ls.length) (hj : joinAllS (joinS f) ks ls σ = some r) (hc : CSd H ca σ d w) :
    Calls Tryz.prog 211 #[v1,v2] w (JNP H ca r w) := by
  obtain ⟨ao1,cp1,rfl,e1⟩ := h1
  obtain ⟨ao2,cp2,rfl,e2⟩ := h2
  have hvs : vs.length = us.length := by rw [k1.1,k2.1,hl]
  rw [hvs]
  have E1 := hid e1
  have E2 := hid e2
  have K1 := hid (And.intro k1 a1)
  have K2 := hid (And.intro k2 a2)
  have HJ := hid hJ
  have J0 := hid (show joinAllS (joinS f) (ks.drop 0) (ls.drop 0) σ = some r from hj)
  have C0 := hid (And.intro (show ∃ d,CSd H ca σ d w from ⟨d,hc⟩) (Gb.refl (InAs ca) w))
  have HL := hid (And.intro hl hvs)
  clear e1 e2 k1 k2 a1 a2 hJ hj hc hl hvs
  go_enter Tryz.func211,Tryz.ntmps211
  go_wp2_with fail
  go_loopg [8] (us.length + 1) (fun gh i wi => ∃ (j : Nat) (σj : Sto),j ≤ us.length ∧ i = .int .i64 j ∧ gh = us.length - j + 1 ∧ Hid (joinAllS (joinS f) (ks.drop j) (ls.drop j) σj = some r) ∧ Hid ((∃ d,CSd H ca σj d wi) ∧ Gb (InAs ca) w wi))
  case atStart => exact ⟨0,σ,by omega,rfl,by omega,J0,C0⟩
  case round =>
    obtain ⟨j,σj,hj,rfl,hgj,HJJ,HG⟩ := hrel
    by_cases hjl : j < us.length
    · have hj1 : j < ks.length := by rw [← K1.out.1.1]; exact hjl
      have hj2 : j < ls.length := by rw [← HL.out.1]; exact hj1
      have hj3 : j < vs.length := by rw [HL.out.2]; exact hjl
      obtain ⟨u,hu⟩ : ∃ u,us[j]? = some u := ⟨_,List.getElem?_eq_getElem hjl⟩
      obtain ⟨z,hz⟩ : ∃ z,vs[j]? = some z := ⟨_,List.getElem?_eq_getElem hj3⟩
      obtain ⟨y,hy⟩ : ∃ y,ks[j]? = some y := ⟨_,List.getElem?_eq_getElem hj1⟩
      obtain ⟨q,hq⟩ : ∃ q,ls[j]? = some q := ⟨_,List.getElem?_eq_getElem hj2⟩
      obtain ⟨g1,rfl,hg1,hn1,c1⟩ := E1.out j u hu
      obtain ⟨g2,rfl,hg2,hn2,c2⟩ := E2.out j z hz
      have d1 : wr.cell? ⟨g1,j,none⟩ = some u := HG.out.2.cell c1 hg1 hn1
      have d2 : wr.cell? ⟨g2,j,none⟩ = some z := HG.out.2.cell c2 hg2 hn2
      obtain ⟨x1,ex1,rfl⟩ := cell_val (K1.out.1.2 j u y hu hy) (K1.out.2 y (List.mem_of_getElem? hy))
      obtain ⟨x2,ex2,rfl⟩ := cell_val (K2.out.1.2 j z q hz hq) (K2.out.2 q (List.mem_of_getElem? hq))
      have hd1 : ks.drop j = y :: ks.drop (j + 1) := by
        rw [List.drop_eq_getElem_cons hj1]
        rw [List.getElem?_eq_getElem hj1] at hy
        rw [Option.some.inj hy]
      have hd2 : ls.drop j = q :: ls.drop (j + 1) := by
        rw [List.drop_eq_getElem_cons hj2]
        rw [List.getElem?_eq_getElem hj2] at hq
        rw [Option.some.inj hq]
      have hjj := HJJ.out
      rw [hd1,hd2,joinAllS] at hjj
      obtain ⟨dj,hcj⟩ := HG.out.1
      cases er : joinS f y.num q.num σj with
      | none => rw [er] at hjj; cases hjj
      | some rj =>
        rw [er] at hjj
        have CON := hid (fun (W : World) (hW : CSd H ca σj dj W) => HJ.out y.num q.num x1 x2 σj dj rj W ex1 ex2 er hW)
        have HCJ := hid hcj
        have HJ2 := hid hjj
        clear hu hz hy hq c1 c2 hd1 hd2 hjj hcj er ex1 ex2 HJJ
        unfold CI at *
        cases rj with
        | none =>
          have hr : r = none := (Option.some.inj HJ2.out).symm
          subst hr
          go_wp2_with fail
          go_region_with (go_at_call 203; refine (CON.out _ HCJ.out.drew).mono ?_; rintro e w5 ⟨g5,rfl⟩; have G5 := hid g5; clear g5)
          all_goals
            go_wp2
            go_ret
            exact ⟨HG.out.2.tr (Gb.drewL G5.out),rfl⟩
        | some σ' =>
          have J2 := hid (show joinAllS (joinS f) (ks.drop (j + 1)) (ls.drop (j + 1)) σ' = some r from HJ2.out)
          go_wp2_with fail
          go_region_with (go_at_call 203; refine (CON.out _ HCJ.out.drew).mono ?_; rintro e w5 ⟨g5,rfl,c5⟩; have G5 := hid (And.intro g5 c5); clear g5 c5)
          all_goals
            go_wp2_with fail
            go_roundg (us.length - (j + 1) + 1)
            case measure => omega
            case rel => exact ⟨j + 1,σ',by omega,by go_num,rfl,J2,hid ⟨G5.out.2,HG.out.2.tr (Gb.drewL G5.out.1)⟩⟩
    · have hje : j = us.length := by omega
      subst hje
      have hr : r = some σj := by
        have h3 := HJJ.out
        rw [K1.out.1.1,List.drop_length,HL.out.1,List.drop_length] at h3
        exact (Option.some.inj h3).symm
      subst hr
      go_wp2
      go_ret
      exact ⟨HG.out.2,rfl,HG.out.1⟩
structure NK (H : Nat → Option Obj) (ca : List Nat) (t : Et) (v : Value) (T0 : TypeId) (b : Nat) (F : FuncId) (us : List Value) : Prop where
  val : v = .iface T0 (.pointer (some ⟨b,0,none⟩))
  kr : KR H ca us t.kids
  two : us.length ≤ 2
  meth : ∀ w,(Go.method 502 T0 (.pointer (some ⟨b,0,none⟩)) "Below").run Tryz.prog w = .ok (F,.pointer (some ⟨b,0,none⟩)) w
  run : ∀ w,Fz H w → Calls Tryz.prog F #[.pointer (some ⟨b,0,none⟩)] w fun e w' => w.grownBy w' none ∧ ((us = [] ∧ e = .returned (.slice none 0 0)) ∨ ∃ gn,e = .returned (.slice (some ⟨gn,0,none⟩) us.length us.length) ∧ w.heap.size ≤ gn ∧ w'.heap[gn]? = some (.cells us.toArray 77 (0,0)))
theorem nk_any {H : Nat → Option Obj} {ca : List Nat} {v : Value} {t : Et} (h : Node H ca v t) : ∃ b us,((t.kind = kInt ∨ t.kind = kBool) ∧ NK H ca t v 275 b 256 us) ∨ (t.kind = oList ∧ NK H ca t v 279 b 257 us) ∨
    (t.kind = oPair ∧ NK H ca t v 291 b 258 us) ∨ (t.kind = kFun ∧ NK H ca t v 209 b 242 us) := by
  obtain ⟨h1,h2,m,h⟩ := h
  cases m with
  | zero => exact absurd h id
  | succ m =>
  obtain ⟨b,h⟩ := h
  rcases h with ⟨q1,_⟩ | ⟨q1,_⟩ | ⟨q1,q2,q3,q4⟩ | ⟨q1,_,a,u,q2,q3,q4,q5⟩ | ⟨q1,_,a,c,u,z,q2,q3,q4,q5,q6⟩ | ⟨q1,_,a,c,u,z,q2,q3,q4,q5,q6⟩
  · exact absurd q1 h2
  · exact absurd q1 h1
  · refine ⟨b,[],Or.inl ⟨q1,q3,by rw [q2]; exact KR.nil,by simp,fun w => eB_Basic b w,fun w _ => (eb_basic b w).mono ?_⟩⟩
    rintro e w' ⟨rfl,rfl⟩
    exact ⟨World.grownBy.refl _ _,Or.inl ⟨rfl,rfl⟩⟩
  · obtain ⟨t1,b1,_,rfl⟩ := q5.val
    refine ⟨b,[_],Or.inr (Or.inl ⟨q1,q3,by rw [q2]; exact KR.one ⟨m,q5⟩,by simp,fun w => eB_List b w,fun w hz => (eb_list b w t1 b1 (hz _ _ q4)).mono ?_⟩)⟩
    rintro e w' ⟨rfl,rfl⟩
    exact ⟨World.grownBy_alloc _ _ _,Or.inr ⟨_,rfl,Nat.le_refl _,heap_alloc_at _ _ _ rfl⟩⟩
  · obtain ⟨t1,b1,_,rfl⟩ := q5.val
    obtain ⟨t2,b2,_,rfl⟩ := q6.val
    refine ⟨b,[_,_],Or.inr (Or.inr (Or.inl ⟨q1,q3,by rw [q2]; exact KR.two ⟨m,q5⟩ ⟨m,q6⟩,by simp,fun w => eB_Pair b w,fun w hz => (eb_pair b w t1 t2 b1 b2 (hz _ _ q4)).mono ?_⟩))⟩
    rintro e w' ⟨rfl,rfl⟩
    exact ⟨grown_drew (World.grownBy_alloc _ _ _),Or.inr ⟨_,rfl,Nat.le_refl _,heap_alloc_at _ _ _ rfl⟩⟩
  · obtain ⟨t1,b1,_,rfl⟩ := q5.val
    obtain ⟨t2,b2,_,rfl⟩ := q6.val
    refine ⟨b,[_,_],Or.inr (Or.inr (Or.inr ⟨q1,q3,by rw [q2]; exact KR.two ⟨m,q5⟩ ⟨m,q6⟩,by simp,fun w => eB_Arrow b w,fun w hz => (eb_arrow b w t1 t2 b1 b2 (hz _ _ q4)).mono ?_⟩))⟩
    rintro e w' ⟨rfl,rfl⟩
    exact ⟨grown_drew (World.grownBy_alloc _ _ _),Or.inr ⟨_,rfl,Nat.le_refl _,heap_alloc_at _ _ _ rfl⟩⟩
theorem slc_of {H : Nat → Option Obj} {ca : List Nat} {σ : Sto} {d : Nat → Nat} {w0 w w' w2 : World} {e : Ending} {us : List Value} (hc : CSd H ca σ d w0) (hw : w0.heap.size ≤ w.heap.size) (h : (us = [] ∧ e = .returned (.slice none 0 0)) ∨ ∃ gn,e = .returned (.slice (some ⟨gn,0,none⟩) us.length us.length) ∧ w.heap.size ≤ gn ∧ w'.heap[gn]? = some (.cells us.toArray 77 (0,0))) (g : w'.grownBy w2 none) :
    ∃ v,e = .returned v ∧ SLC ca w2 v us := by
  rcases h with ⟨rfl,rfl⟩ | ⟨gn,rfl,q1,q2⟩
  · exact ⟨_,rfl,none,0,rfl,fun j u h => by simp at h⟩
  · refine ⟨_,rfl,some ⟨gn,0,none⟩,us.length,rfl,fun j u h => ⟨gn,rfl,Nat.lt_of_lt_of_le (lt_of_block q2) g.size,fun hk => ?_,?_⟩⟩
    · have := InAs.lt hc hk
      omega
    · have h9 : w2.heap[gn]? = some (.cells us.toArray 77 (0,0)) := by rw [g.block gn (lt_of_block q2) (by simp)]; exact q2
      rw [cell_of_row w2 gn j _ _ _ h9]
      simpa using h
theorem grown_cell {w wx : World} {b i : Nat} {v : Value} (h : w.cell? ⟨b,i,none⟩ = some v) (hl : b < w.heap.size) (hg : w.grownBy wx none) : wx.cell? ⟨b,i,none⟩ = some v := by
  rw [World.cell?_of_block (a := ⟨b,i,none⟩) (hg.block b hl (by simp))]
  exact h
theorem SLC.grown {ca : List Nat} {w w' : World} {v : Value} {us : List Value} (h : SLC ca w v us) (g : w.grownBy w' none) : SLC ca w' v us := by
  obtain ⟨ao,cap,h1,h2⟩ := h
  refine ⟨ao,cap,h1,fun j u hu => ?_⟩
  obtain ⟨gn,q1,q2,q3,q4⟩ := h2 j u hu
  exact ⟨gn,q1,Nat.lt_of_lt_of_le q2 g.size,q3,by rw [World.cell?_of_block (a := ⟨gn,j,none⟩) (g.block gn q2 (by simp))]; exact q4⟩
theorem CSd.grown {H : Nat → Option Obj} {ca : List Nat} {σ : Sto} {d : Nat → Nat} {w w' : World} (h : CSd H ca σ d w) (g : w.grownBy w' none) : CSd H ca σ d w' := h.gb (R := fun _ => False) (Gb.new g) (fun _ _ e => e) (fun _ _ _ e => e)
theorem nk_len {H : Nat → Option Obj} {ca : List Nat} {u v : Value} {x y : Et} (hu : Node H ca u x) (hv : Node H ca v y) (hk : x.kind = y.kind) : x.kids.length = y.kids.length := by
  have one : ∀ {v : Value} {t : Et},Node H ca v t → t.kids.length = if t.kind = oList then 1 else if t.kind = oPair ∨ t.kind = kFun then 2 else 0 := by
    intro v t h
    obtain ⟨h1,h2,m,h⟩ := h
    cases m with
    | zero => exact absurd h id
    | succ m =>
    obtain ⟨b,h⟩ := h
    rcases h with ⟨q1,_⟩ | ⟨q1,_⟩ | ⟨q1,q2,_⟩ | ⟨q1,_,a,u,q2,_⟩ | ⟨q1,_,a,c,u,z,q2,_⟩ | ⟨q1,_,a,c,u,z,q2,_⟩
    · exact absurd q1 h2
    · exact absurd q1 h1
    · rw [q2]; rcases q1 with q1 | q1 <;> rw [q1] <;> rfl
    · rw [q1,q2]; rfl
    · rw [q1,q2]; rfl
    · rw [q1,q2]; rfl
  rw [one hu,one hv,hk]
theorem nk_same {H : Nat → Option Obj} {ca : List Nat} {u v : Value} {x y : Et} (hu : Node H ca u x) (hv : Node H ca v y) (hk : x.kind = y.kind) : ∃ p1 us p2 vs T0 F0,NK H ca x u T0 p1 F0 us ∧ NK H ca y v T0 p2 F0 vs ∧
    (((x.kind = kInt ∨ x.kind = kBool) ∧ T0 = 275 ∧ F0 = 256) ∨ (x.kind = oList ∧ T0 = 279 ∧ F0 = 257) ∨ (x.kind = oPair ∧ T0 = 291 ∧ F0 = 258) ∨ (x.kind = kFun ∧ T0 = 209 ∧ F0 = 242)) := by
  obtain ⟨p1,us,h1⟩ := nk_any hu
  obtain ⟨p2,vs,h2⟩ := nk_any hv
  rcases h1 with ⟨k1,n1⟩ | ⟨k1,n1⟩ | ⟨k1,n1⟩ | ⟨k1,n1⟩
  · rcases h2 with ⟨k2,n2⟩ | ⟨k2,n2⟩ | ⟨k2,n2⟩ | ⟨k2,n2⟩
    · exact ⟨p1,us,p2,vs,_,_,n1,n2,Or.inl ⟨k1,rfl,rfl⟩⟩
    all_goals exact absurd (hk.trans k2) (by rcases k1 with k1 | k1 <;> rw [k1] <;> decide)
  · rcases h2 with ⟨k2,n2⟩ | ⟨k2,n2⟩ | ⟨k2,n2⟩ | ⟨k2,n2⟩
    · exact absurd (hk.symm.trans k1) (by rcases k2 with k2 | k2 <;> rw [k2] <;> decide)
    · exact ⟨p1,us,p2,vs,_,_,n1,n2,Or.inr (Or.inl ⟨k1,rfl,rfl⟩)⟩
    all_goals exact absurd (hk.symm.trans k1) (by rw [k2]; decide)
  · rcases h2 with ⟨k2,n2⟩ | ⟨k2,n2⟩ | ⟨k2,n2⟩ | ⟨k2,n2⟩
    · exact absurd (hk.symm.trans k1) (by rcases k2 with k2 | k2 <;> rw [k2] <;> decide)
    · exact absurd (hk.symm.trans k1) (by rw [k2]; decide)
    · exact ⟨p1,us,p2,vs,_,_,n1,n2,Or.inr (Or.inr (Or.inl ⟨k1,rfl,rfl⟩))⟩
    · exact absurd (hk.symm.trans k1) (by rw [k2]; decide)
  · rcases h2 with ⟨k2,n2⟩ | ⟨k2,n2⟩ | ⟨k2,n2⟩ | ⟨k2,n2⟩
    · exact absurd (hk.symm.trans k1) (by rcases k2 with k2 | k2 <;> rw [k2] <;> decide)
    · exact absurd (hk.symm.trans k1) (by rw [k2]; decide)
    · exact absurd (hk.symm.trans k1) (by rw [k2]; decide)
    · exact ⟨p1,us,p2,vs,_,_,n1,n2,Or.inr (Or.inr (Or.inr ⟨k1,rfl,rfl⟩))⟩
end Go.Proofs.YtcdijppegfcoaabGreatDoor
