import Derived.Test.YtcdijppegfcoaabGreatDoorZK28
set_option maxRecDepth 100000
set_option maxHeartbeats 8000000
namespace Go.Proofs.YtcdijppegfcoaabGreatDoor
open Go.RowKit
def SMC (H H0 : Nat → Option Obj) (lo : Nat) (ca : List Nat) (σ : Sto) (d : Nat → Nat) (c1 m1 c2 m2 f : Nat) : Prop := ∀ (ta tb : Et) (va vb : Value) (p q : List (List UInt8)) (r : Option (List (List UInt8) × List (List UInt8))) (w : World),
  (∃ m,ERep 0 H0 ca m va ta) → (∃ m,ERep lo H ca m vb tb) → sameS σ f ta tb p q = some r → CSd H ca σ d w → NU w c1 m1 p → NU w c2 m2 q →
  Calls Tryz.prog 206 #[smV c1 c2,va,vb] w (SMP H ca σ d c1 m1 c2 m2 r w)
theorem row_of2 {H : Nat → Option Obj} {ca : List Nat} {σ : Sto} {d : Nat → Nat} {m1 m2 : Nat} {us : List Value} {w w3 : World} {e : Ending} (hc : CSd H ca σ d w) (hm : m1 < w.heap.size) (hm2 : m2 < w.heap.size)
    (r3 : (us = [] ∧ e = .returned (.slice none 0 0)) ∨ ∃ gn,e = .returned (.slice (some ⟨gn,0,none⟩) us.length us.length) ∧ w.heap.size ≤ gn ∧ w3.heap[gn]? = some (.cells us.toArray 77 (0,0))) :
    ∃ ao cap,e = .returned (.slice ao us.length cap) ∧ ∀ (j : Nat) (u : Value),us[j]? = some u → ∃ gn,ao = some ⟨gn,0,none⟩ ∧ gn < w3.heap.size ∧ ¬ (InAs ca gn ∨ gn = m1 ∨ gn = m2) ∧ w3.cell? ⟨gn,j,none⟩ = some u := by
  rcases r3 with ⟨rfl,rfl⟩ | ⟨gn,rfl,q1,q2⟩
  · exact ⟨none,0,rfl,fun j u h => by simp at h⟩
  · refine ⟨_,_,rfl,fun j u h => ⟨gn,rfl,lt_of_block q2,?_,?_⟩⟩
    · rintro (h9 | h9 | h9)
      · have := InAs.lt hc h9; omega
      · omega
      · omega
    · rw [cell_of_row w3 gn j _ _ _ q2]
      simpa using h
def AtB (H : Nat → Option Obj) (ca : List Nat) (b : Nat) : Prop := (∃ cs t,H b = some (.cells cs t (0,0))) ∨ b ∈ ca
theorem AtB.in {H : Nat → Option Obj} {ca : List Nat} {σ : Sto} {d : Nat → Nat} {w : World} {b : Nat} (h : AtB H ca b) (hc : CSd H ca σ d w) : ∃ cs t,w.heap[b]? = some (.cells cs t (0,0)) := by
  rcases h with ⟨cs,t,h⟩ | h
  · exact ⟨cs,t,hc.fz _ _ h⟩
  · obtain ⟨i,hi⟩ := List.getElem?_of_mem h
    obtain ⟨v,hv,_⟩ := hc.blk i b hi
    exact ⟨_,_,hv⟩
theorem ieq_no {H : Nat → Option Obj} {ca : List Nat} {σ : Sto} {d : Nat → Nat} {w : World} {T1 T2 b1 b2 : Nat} (h1 : IsE T1) (h2 : IsE T2) (a1 : AtB H ca b1) (a2 : AtB H ca b2) (hc : CSd H ca σ d w) (hne : ¬ (T1 = T2 ∧ b1 = b2)) : (binOp .eql 77 (.iface T1 (.pointer (some ⟨b1,0,none⟩))) (.iface T2 (.pointer (some ⟨b2,0,none⟩)))).run Tryz.prog w = .ok (.bool false) w := by
  by_cases hT : T1 = T2
  · subst hT
    obtain ⟨cs,t,q1⟩ := a1.in hc
    obtain ⟨cs2,t2,q2⟩ := a2.in hc
    exact ieq_other h1 (fun e => hne ⟨rfl,e⟩) q1 q2
  · exact iface_ne h1 h2 hT b1 b2 w
structure SGo (H H0 : Nat → Option Obj) (lo : Nat) (ca : List Nat) (σ : Sto) (d : Nat → Nat) (f T1 T2 F : Nat) (A1 A2 : Nat → Prop) (Ex : Nat → Nat → Prop) (ks ls : List Et) (p q : List (List UInt8)) (r : Option (List (List UInt8) × List (List UInt8))) : Prop where
  hF : F = 256 ∨ F = 257 ∨ F = 258 ∨ F = 242
  len : ks.length = ls.length
  one : ∀ b,A1 b → ∃ us,NodeAt H ca σ d T1 b F us ∧ us.length = ks.length ∧ us.length ≤ 2 ∧ ∀ (i : Nat) (u : Value) (k : Et),us[i]? = some u → ks[i]? = some k → ∃ m,ERep 0 H0 ca m u k
  two : ∀ b,A2 b → ∃ vs,NodeAt H ca σ d T2 b F vs ∧ vs.length = ls.length ∧ ∀ (i : Nat) (u : Value) (k : Et),vs[i]? = some u → ls[i]? = some k → ∃ m,ERep lo H ca m u k
  hr : ∀ b1 b2,A1 b1 → A2 b2 → Ex b1 b2 → ¬ (T1 = T2 ∧ b1 = b2) → sameAllS (sameS σ f) ks ls p q = some r
theorem same_n {H H0 : Nat → Option Obj} {lo : Nat} {ca : List Nat} {σ : Sto} {d : Nat → Nat} {c1 m1 c2 m2 f : Nat} {w : World} {Ta ba Tb bb T1 T2 F : Nat} {al : Bool} {A1 A2 : Nat → Prop} {J1 J2 : World → Nat → Prop} {Ex : Nat → Nat → Prop} {ks ls : List Et} {p q : List (List UInt8)} {r : Option (List (List UInt8) × List (List UInt8))} (ih : SMC H H0 lo ca σ d c1 m1 c2 m2 f) (hc : CSd H ca σ d w) (hT : IsE T1) (hT2 : IsE T2) (hn : T1 ≠ 242) (N1 : NU w c1 m1 p) (N2 : NU w c2 m2 q) (no : NUo H ca c1 m1 c2 m2)
    (at1 : ∀ b,A1 b → AtB H ca b) (at2 : ∀ b,A2 b → AtB H ca b)
    (CA : ∀ w,CSd H ca σ d w → ∃ b,A1 b ∧ J1 w b ∧ Calls Tryz.prog 168 #[.iface Ta (.pointer (some ⟨ba,0,none⟩))] w fun e w' => NOW H ca σ d (.iface T1 (.pointer (some ⟨b,0,none⟩))) w e w' ∧ RTS ca σ w w')
    (CB : ∀ w,CSd H ca σ d w → ∃ b,A2 b ∧ J2 w b ∧ Calls Tryz.prog 168 #[.iface Tb (.pointer (some ⟨bb,0,none⟩))] w (NOW H ca σ d (.iface T2 (.pointer (some ⟨b,0,none⟩))) w))
    (HJ : ∀ W w1 b1 b2,J1 W b1 → RTS ca σ W w1 → J2 w1 b2 → Ex b1 b2)
    (HEQ : T1 = T2 → ∀ b,A1 b → A2 b → r = some (p,q))
    (AL : ∀ b1 b2 w,A1 b1 → A2 b2 → CSd H ca σ d w → Calls Tryz.prog 97 #[.iface T1 (.pointer (some ⟨b1,0,none⟩)),.iface T2 (.pointer (some ⟨b2,0,none⟩))] w fun e w' => e = .returned (.bool al) ∧ w.grownBy w' none)
    (HN : al = false → ∀ b1 b2,A1 b1 → A2 b2 → Ex b1 b2 → ¬ (T1 = T2 ∧ b1 = b2) → r = none)
    (HG : al = true → SGo H H0 lo ca σ d f T1 T2 F A1 A2 Ex ks ls p q r) :
    Calls Tryz.prog 206 #[smV c1 c2,.iface Ta (.pointer (some ⟨ba,0,none⟩)),.iface Tb (.pointer (some ⟨bb,0,none⟩))] w (SMP H ca σ d c1 m1 c2 m2 r w) := by
  have g0 : w.grownBy (w.alloc (.cells #[numV c1,numV c2] 363)) none := World.grownBy_alloc _ _ _
  have nb0 : (w.alloc (.cells #[numV c1,numV c2] 363)).heap[w.heap.size]? = some (.cells #[numV c1,numV c2] 363 (0,0)) := heap_alloc_new _ _
  have hwa : ¬ InAs ca w.heap.size := fun hm => by have := InAs.lt hc hm; omega
  have hm1 := N1.mp.lt
  have hm2 := N2.mp.lt
  obtain ⟨b1,hA1,hJ1,C1'⟩ := CA _ (hc.grown0 g0)
  have C1 := hid C1'
  have C2 := hid CB
  have a1 := not_var hT hn b1
  have Q0 := hid (And.intro g0 (And.intro HEQ AL))
  have QJ := hid (And.intro hJ1 HJ)
  have QN := hid (And.intro HN (And.intro HG (And.intro at1 (And.intro at2 (And.intro hT (And.intro hT2 hA1))))))
  have Q1 := hid (And.intro nb0 (And.intro hwa (And.intro N1 (And.intro N2 no))))
  have IH := hid ih
  clear CA CB hc g0 HEQ AL nb0 hwa N1 N2 no ih HN HG at1 at2 hT hT2 hA1 C1' HJ hJ1
  unfold smV numV at *
  go_enter Tryz.func206,Tryz.ntmps206
  go_wp2_with fail
  refine C1.out.mono ?_
  rintro e w1 ⟨⟨rfl,h1,h2⟩,h3⟩
  obtain ⟨b2,hA2,hJ2,C3'⟩ := C2.out w1 h1
  have C3 := hid C3'
  have EX := hid (QJ.out.2 _ w1 b1 b2 QJ.out.1 h3 hJ2)
  have G1 := hid (And.intro hA2 ((Gb.new Q0.out.1 (R := InAs ca)).tr h2))
  have B1 := hid (h2.at Q1.out.1 Q1.out.2.1)
  clear h1 h2 h3 C1 C2 hA2 C3' hJ2 QJ
  go_wp2_with fail
  refine C3.out.mono ?_
  rintro e w2 ⟨rfl,h1,h2⟩
  by_cases heq : T1 = T2 ∧ b1 = b2
  · obtain ⟨rfl,rfl⟩ := heq
    have a2 := ieq_same QN.out.2.2.2.2.1 b1
    have hr := Q0.out.2.1 rfl b1 QN.out.2.2.2.2.2.2 G1.out.1
    subst hr
    have Q9 := hid (SMP.last Q1.out.2.2.1 Q1.out.2.2.2.1 Q1.out.2.2.2.2 h1 (G1.out.2.tr h2))
    clear h1 h2 C3
    go_wp2
    go_ret
    exact Q9.out
  have a2 := ieq_no QN.out.2.2.2.2.1 QN.out.2.2.2.2.2.1 (QN.out.2.2.1 b1 QN.out.2.2.2.2.2.2) (QN.out.2.2.2.1 b2 G1.out.1) h1 heq
  have CL := hid (Q0.out.2.2 b1 b2 w2 QN.out.2.2.2.2.2.2 G1.out.1 h1)
  have G2 := hid (And.intro h1 (And.intro (G1.out.2.tr h2) (h2.at B1.out Q1.out.2.1)))
  clear h1 h2 C3
  cases al with
  | false =>
    have hr := QN.out.1 rfl b1 b2 QN.out.2.2.2.2.2.2 G1.out.1 EX.out heq
    subst hr
    clear heq
    go_wp2_with fail
    refine CL.out.mono ?_
    rintro e w3 ⟨rfl,g3⟩
    have Q9 := hid (show SMP H ca σ d c1 m1 c2 m2 none w (.returned (.bool false)) w3 from ⟨G2.out.1.grown0 g3,(G2.out.2.1.tr (Gb.new g3)).mono (fun _ e => Or.inl e),rfl⟩)
    clear g3 CL
    go_wp2
    go_ret
    exact Q9.out
  | true =>
  have hG := QN.out.2.1 rfl
  obtain ⟨us,n1,hul,hz,hk⟩ := hG.one b1 QN.out.2.2.2.2.2.2
  obtain ⟨vs,n2,hvl,hl⟩ := hG.two b2 G1.out.1
  have Q2 := hid (And.intro n1 n2)
  have KK := hid (And.intro hul (And.intro hvl (And.intro hG.len (And.intro hk hl))))
  have HR := hid (show sameAllS (sameS σ f) (ks.drop 0) (ls.drop 0) p q = some r from hG.hr b1 b2 QN.out.2.2.2.2.2.2 G1.out.1 EX.out heq)
  have hF := hG.hF
  clear hG n1 n2 hul hvl hk hl heq QN
  rcases hF with rfl | rfl | rfl | rfl
  all_goals
    go_wp2_with fail
    refine CL.out.mono ?_
    rintro e w3 ⟨rfl,g3⟩
    have c3 := G2.out.1.grown0 g3
    obtain ⟨tm2,hB2,_⟩ := Q2.out.2 w3 c3
    have HB2 := hid hB2
    have G3 := hid (And.intro c3 (And.intro (G2.out.2.1.tr (Gb.new g3)) ((Gb.new g3 (R := fun _ => False)).at G2.out.2.2 id)))
    clear g3 CL c3 hB2
    unfold CP at HB2
    go_wp2_with fail
    refine HB2.out.mono ?_
    rintro e w4 ⟨r1,r2,r3⟩
    obtain ⟨ao2,cap2,he,hrow⟩ := row_of2 (m1 := m1) (m2 := m2) G3.out.1 (Nat.lt_of_lt_of_le hm1 G3.out.2.1.size) (Nat.lt_of_lt_of_le hm2 G3.out.2.1.size) r3
    subst he
    have HROW2 := hid hrow
    obtain ⟨tm1,hB1,_⟩ := Q2.out.1 w4 r1
    have HB1 := hid hB1
    have G4 := hid (And.intro r1 (And.intro (G3.out.2.1.tr r2) (r2.at G3.out.2.2 Q1.out.2.1)))
    clear r1 r2 r3 hrow hB1 HB2
    unfold CP at HB1
    go_wp2_with fail
    refine HB1.out.mono ?_
    rintro e w5 ⟨r1,r2,r3⟩
    obtain ⟨ao1,cap1,he,hrow⟩ := row_of2 (m1 := m1) (m2 := m2) G4.out.1 (Nat.lt_of_lt_of_le hm1 G4.out.2.1.size) (Nat.lt_of_lt_of_le hm2 G4.out.2.1.size) r3
    subst he
    have HROW1 := hid hrow
    have G5 := hid (And.intro r1 (And.intro (G4.out.2.1.tr r2) (And.intro r2 (r2.at G4.out.2.2 Q1.out.2.1))))
    clear r1 r2 r3 hrow HB1
    go_wp2_with fail
    have HV := hid (show vs.length = us.length by rw [KK.out.1,KK.out.2.1,KK.out.2.2.1])
    have nbw : ¬ (InAs ca w.heap.size ∨ w.heap.size = m1 ∨ w.heap.size = m2) := by
      rintro (h9 | h9 | h9)
      · exact Q1.out.2.1 h9
      · omega
      · omega
    have NB := hid nbw
    clear nbw
    go_loopg [59] (us.length + 1) (fun gh i wi => ∃ (j : Nat) (pj qj : List (List UInt8)),j ≤ us.length ∧ i = .int .i64 j ∧ gh = us.length - j + 1 ∧ Hid (sameAllS (sameS σ f) (ks.drop j) (ls.drop j) pj qj = some r) ∧ Hid ((CSd H ca σ d wi ∧ NU wi c1 m1 pj ∧ NU wi c2 m2 qj) ∧ Gb (fun k => InAs ca k ∨ k = m1 ∨ k = m2) w5 wi))
    case atStart => exact ⟨0,p,q,by omega,rfl,by omega,HR,hid ⟨⟨G5.out.1,Q1.out.2.2.1.gb G5.out.2.1 Q1.out.2.2.2.2.a3 Q1.out.2.2.2.2.a1,Q1.out.2.2.2.1.gb G5.out.2.1 Q1.out.2.2.2.2.a4 Q1.out.2.2.2.2.a2⟩,Gb.refl _ _⟩⟩
    case round =>
      obtain ⟨j,pj,qj,hj,rfl,hgj,HJ,HG⟩ := hrel
      by_cases hjl : j < us.length
      · have hjv : j < vs.length := by rw [HV.out]; exact hjl
        obtain ⟨u,hu⟩ : ∃ u,us[j]? = some u := ⟨_,List.getElem?_eq_getElem hjl⟩
        obtain ⟨v,hv⟩ : ∃ v,vs[j]? = some v := ⟨_,List.getElem?_eq_getElem hjv⟩
        have hjk : j < ks.length := by rw [← KK.out.1]; exact hjl
        have hjs : j < ls.length := by rw [← KK.out.2.1]; exact hjv
        obtain ⟨y,hy⟩ : ∃ y,ks[j]? = some y := ⟨_,List.getElem?_eq_getElem hjk⟩
        obtain ⟨z,hz9⟩ : ∃ z,ls[j]? = some z := ⟨_,List.getElem?_eq_getElem hjs⟩
        obtain ⟨gn,rfl,hg1,hn1,cu⟩ := HROW1.out j u hu
        obtain ⟨gm,rfl,hg2,hn2,cv⟩ := HROW2.out j v hv
        have du : wr.cell? ⟨gn,j,none⟩ = some u := HG.out.2.cell cu hg1 hn1
        have dv : wr.cell? ⟨gm,j,none⟩ = some v := HG.out.2.cell (G5.out.2.2.1.cell cv hg2 (fun e => hn2 (Or.inl e))) (Nat.lt_of_lt_of_le hg2 G5.out.2.2.1.size) hn2
        have nbk := HG.out.2.at G5.out.2.2.2 NB.out
        have s1 := blk_c nbk 0 rfl
        have s2 := blk_c nbk 1 rfl
        have lsz := lt_of_block nbk
        have hd : ks.drop j = y :: ks.drop (j + 1) := by
          rw [List.drop_eq_getElem_cons hjk]
          rw [List.getElem?_eq_getElem hjk] at hy
          rw [Option.some.inj hy]
        have hd2 : ls.drop j = z :: ls.drop (j + 1) := by
          rw [List.drop_eq_getElem_cons hjs]
          rw [List.getElem?_eq_getElem hjs] at hz9
          rw [Option.some.inj hz9]
        have hjj := HJ.out
        rw [hd,hd2,sameAllS] at hjj
        cases er : sameS σ f y z pj qj with
        | none => rw [er] at hjj; cases hjj
        | some rj =>
          rw [er] at hjj
          have CON := hid (IH.out y z u v pj qj rj wr.drew (KK.out.2.2.2.1 j u y hu hy) (KK.out.2.2.2.2 j v z hv hz9) er HG.out.1.1.drew HG.out.1.2.1.drew HG.out.1.2.2.drew)
          have JJ := hid hjj
          clear hu hv hy hz9 cu cv hd hd2 hjj er HJ nbk hn1 hn2 hjk hjs
          unfold smV numV at *
          cases rj with
          | none =>
            have hr9 : r = none := (Option.some.inj JJ.out).symm
            subst hr9
            go_wp2_with fail
            go_region_with (go_at_call 206; refine CON.out.mono ?_; rintro e w6 ⟨c6,g6,rfl⟩; have Q9 := hid (show SMP H ca σ d c1 m1 c2 m2 none w (.returned (.bool false)) w6 from ⟨c6,((G5.out.2.1.mono (fun k e => Or.inl e)).tr HG.out.2).tr g6.drewL,rfl⟩); clear c6 g6)
            all_goals go_wp2
            all_goals go_ret
            all_goals exact Q9.out
          | some x =>
            have J2 := hid (show sameAllS (sameS σ f) (ks.drop (j + 1)) (ls.drop (j + 1)) x.1 x.2 = some r from JJ.out)
            go_wp2_with fail
            go_region_with (go_at_call 206; refine CON.out.mono ?_; rintro e w6 ⟨c6,g6,rfl,q1,q2⟩; have G6 := hid (And.intro (And.intro c6 (And.intro q1 q2)) (HG.out.2.tr g6.drewL)); clear c6 g6 q1 q2)
            all_goals
              go_wp2_with fail
              go_roundg (us.length - (j + 1) + 1)
              case measure => omega
              case rel => exact ⟨j + 1,x.1,x.2,by omega,by go_num,rfl,J2,G6⟩
      · have hje : j = us.length := by omega
        have hr9 : r = some (pj,qj) := by
          have h3 := HJ.out
          rw [hje,KK.out.1,List.drop_length,KK.out.2.2.1,List.drop_length] at h3
          exact (Option.some.inj h3).symm
        have Q9 := hid (show SMP H ca σ d c1 m1 c2 m2 r w (.returned (.bool true)) wr from by
          rw [hr9]
          exact ⟨HG.out.1.1,(G5.out.2.1.mono (fun k e => Or.inl e)).tr HG.out.2,rfl,HG.out.1.2.1,HG.out.1.2.2⟩)
        subst hje
        clear HJ hr9
        go_wp2
        go_ret
        exact Q9.out
end Go.Proofs.YtcdijppegfcoaabGreatDoor
