import Derived.Test.YtcdijppegfcoaabGreatDoorZK41
import Derived.Test.YtcdijppegfcoaabGreatDoorZK42
import Derived.Test.YtcdijppegfcoaabGreatDoorZK37
import Derived.Test.YtcdijppegfcoaabGreatDoorZK26
set_option maxRecDepth 100000
set_option maxHeartbeats 4000000
namespace Go.Proofs.YtcdijppegfcoaabGreatDoor
open Go.RowKit
theorem une_Let {H : Nat → Option Obj} {mb b m : Nat} {ge : List (List UInt8 × Et)} {l : List (List (List UInt8))} {kv dep u1 u2 : Value} {p : List UInt8} {e1 e2 : Ex} {r s : UR} {P : Ex → List (List (List UInt8)) → Option UR} (hP : UNE H mb ge P) {w : World} (hb : H b = some (.cells #[dep,.string (B p),u1,u2] 189 (0,0))) (hp1 : PRep m H u1 e1) (hp2 : PRep m H u2 e2) (h1 : P e1 l = some r) (h2 : P e2 ([p] :: l) = some s) (hz : Fz H w) (hg : GE2 H w mb ge) (hk : KF mb w l (kv)) :
    Calls Tryz.prog 71 #[.iface 184 (.pointer (some ⟨b,0,none⟩)),kv] w (UNP1 H (orU r s) w) := by
  rcases hk.form with ⟨q1,rfl⟩ | ⟨q1,q2,rfl⟩
  · exact une_Let0 hP hb hp1 hp2 h1 h2 hz hg hk
  · exact une_Let1 hP hb hp1 hp2 h1 h2 hz hg hk
theorem own_strs2 {w : World} {base n : Nat} {v : Value} {ys : List (List UInt8)} (h : w.ownsRow base 9 1 v n (strs ys)) (h0 : 0 < n) : ∃ g cap cur,v = .slice (some ⟨g,0,none⟩) n cap ∧ w.heap[g]? = some (.cells cur 9 (0,0)) ∧ ∀ (j : Nat) x,ys[j]? = some x → cur[j]? = some (.string (B x)) := by
  obtain ⟨h1,h2⟩ := h
  rcases h2 with ⟨_,h3⟩ | ⟨g,cap,cur,e1,e2,e3,e4,e5,e6,e7⟩
  · omega
  · refine ⟨g,cap,cur,e1,e3,fun j x hx => ?_⟩
    have hx2 : (strs ys)[j]? = some (.string (B x)) := by simp [strs,hx]
    rw [← e7,List.getElem?_take] at hx2
    split at hx2
    · simpa using hx2
    · cases hx2
theorem group_un {H : Nat → Option Obj} {mb b m m2 gB capB : Nat} {ge : List (List UInt8 × Et)} {l : List (List (List UInt8))} {kv dep u : Value} {ns : List (List UInt8)} {us : List Value} {es : List Ex} {eb : Ex} {r : UR} {P : Ex → List (List (List UInt8)) → Option UR} (hP : UNE H mb ge P) {w : World} (hb : H b = some (.cells #[dep,.slice (some ⟨gB,0,none⟩) ns.length capB,u] 194 (0,0))) (hga : GAt w gB ns us) (le : es.length = ns.length) (his : ∀ (i : Nat) (u : Value) (e : Ex),us[i]? = some u → es[i]? = some e → PRep m H u e) (hp : PRep m2 H u eb) (h0 : 0 < ns.length) (hn : ns.length ≤ 300) (hr : unR P (es ++ [eb]) (ns :: l) = some r) (hz : Fz H w) (hg : GE2 H w mb ge) (hk : KF mb w l kv) :
    Calls Tryz.prog 118 #[.pointer (some ⟨b,0,none⟩),kv] w (UNP1 H r w) := by
  have hul := hga.1
  have hbw := hz _ _ hb
  have k1 := blk_c hbw 1 rfl
  have k2 := blk_c hbw 2 rfl
  have hbl := lt_of_block hbw
  have pn := ptr_ne
  have pn1 := ptr_ne1
  obtain ⟨i0,hi,hz0,hz1,hz2⟩ := info_parts info_str
  obtain ⟨Tb,bb,rfl⟩ := hp.val
  have Q := hid (And.intro hP (And.intro hga (And.intro his (And.intro hp (And.intro hz (And.intro hg (And.intro hk hbw)))))))
  have HR := hid hr
  have hf := hk.form
  clear hP hga his hp hr hz hg hk hb hbw
  rcases hf with ⟨q1,rfl⟩ | ⟨q1,q2,rfl⟩
  all_goals
    go_enter Tryz.func118,Tryz.ntmps118
    go_wp2_with fail
    go_loopg [5,17] (ns.length + 1) (fun q bv i wi => ∃ j : Nat,j ≤ ns.length ∧ i = .int .i64 j ∧ q = ns.length - j + 1 ∧ Hid (wi.ownsRow w.heap.size 9 1 bv j (strs (ns.take j))) ∧ Hid (w.grownBy wi none))
    case atStart => exact ⟨0,by omega,rfl,by omega,World.ownsRow_nil _ _ _ _,World.grownBy.refl _ _⟩
    case round =>
      obtain ⟨j,hj1,rfl,hq,OW,GR⟩ := hrel
      rename World => w2
      have hs2 : w.heap.size ≤ w2.heap.size := GR.out.size
      by_cases hlt : j < ns.length
      · obtain ⟨nm,hnm⟩ : ∃ nm,ns[j]? = some nm := ⟨ns[j],List.getElem?_eq_getElem _⟩
        obtain ⟨u,hu⟩ : ∃ u,us[j]? = some u := ⟨us[j]'(by omega),List.getElem?_eq_getElem _⟩
        obtain ⟨c0,c1,_⟩ := (Q.out.2.1.grown GR.out).2.2 j nm u hnm hu
        have lB := (Q.out.2.1.grown GR.out).2.1
        obtain ⟨y,hy⟩ : ∃ y,es[j]? = some y := ⟨es[j]'(by omega),List.getElem?_eq_getElem _⟩
        obtain ⟨t6,b6,rfl⟩ := (Q.out.2.2.1 j u y hu hy).val
        have hj2 : (j : Int) < (ns.length : Int) := by omega
        have HY := hid hnm
        have own2 := (OW.out.alloc (.cells #[.string (B nm),(.iface t6 (.pointer (some ⟨b6,0,none⟩)))] 187))
        have GR3 := hid (GR.out.trans (World.grownBy_alloc w2 (.cells #[.string (B nm),(.iface t6 (.pointer (some ⟨b6,0,none⟩)))] 187) none))
        clear hu hnm hy
        go_wp2_with (at_builtin; refine wpList_append_lies _ rfl (.tmp 21) (.tmp 24) 26 rfl w.heap.size 9 i0 (.string (B [])) 1 16 Tryz.underlying26 hi hz0 hz1 hz2 rfl (by decide) _ _ _ rfl (own2.alloc _) ⟨w2.heap.size + 1,0,none⟩ 1 1 [.string (B nm)] rfl rfl ?d1 ?d2 (by decide) ?d3 ?d4 ?d5 (w2.heap.size + 1 + 1) ?d6 ?_)
        case d1 => simpa using one_new (w2.alloc (.cells #[.string (B nm),(.iface t6 (.pointer (some ⟨b6,0,none⟩)))] 187)) _ _
        case d2 => exact one_str _
        case d3 => unfold maxLen; omega
        case d4 => omega
        case d5 => simp; omega
        case d6 => simp
        intro g7 cap7 w7 hown7 hgrow7 _ _
        have ON := hid hown7
        have GN := hid (grown_own (GR3.out.trans (World.grownBy_alloc _ _ _)) hgrow7 (fun k e => (own_lt own2 e).1))
        clear hown7 hgrow7 own2
        go_wp2_with fail
        go_roundg (ns.length - (j + 1) + 1)
        case measure => omega
        case rel =>
          refine ⟨j + 1,by omega,by go_num,rfl,?_,GN⟩
          rw [strs_step HY.out]
          exact ON
      · have hj3 : j = ns.length := by omega
        subst hj3
        have own6 := OW.out
        rw [List.take_of_length_le (by omega)] at own6
        obtain ⟨g6,cap6,cur6,rfl,hg6,hrow6⟩ := own_strs2 own6 h0
        have CN := hid (and_any (cap := cap6) (Q.out.2.2.2.2.2.2.1.grown GR.out) hg6 hrow6 (by omega))
        clear own6 hg6 hrow6 OW
        go_wp2_with fail
        refine CN.out.mono ?_
        rintro e w3 ⟨y1,y2,rfl,kf3,gr3⟩
        have hb3 : w3.heap[b]? = _ := ((GR.out.trans gr3).block b hbl (by simp)).trans Q.out.2.2.2.2.2.2.2
        have k3 := blk_c hb3 1 rfl
        have hbl3 := lt_of_block hb3
        have K3 := hid (And.intro (GR.out.trans gr3) kf3)
        clear gr3 kf3 CN hb3 GR
        go_wp2_with fail
        go_loopg [35] (ns.length + 1) (fun q i wi => ∃ j : Nat,j ≤ ns.length ∧ i = .int .i64 j ∧ q = ns.length - j + 1 ∧ Hid (unR P (es.drop j ++ [eb]) (ns :: l) = some r) ∧ Hid (w.grownBy wi none ∧ KF mb wi (ns :: l) (.func (.func 148) #[] #[.pointer (some ⟨y1,0,none⟩),.pointer (some ⟨y2,0,none⟩)])))
        case atStart => exact ⟨0,by omega,rfl,by omega,HR,K3⟩
        case round =>
          obtain ⟨j,hj1,rfl,hq,HJ,KJ⟩ := hrel
          rename World => w4
          by_cases hlt : j < ns.length
          · obtain ⟨nm,hnm⟩ : ∃ nm,ns[j]? = some nm := ⟨ns[j],List.getElem?_eq_getElem _⟩
            obtain ⟨u,hu⟩ : ∃ u,us[j]? = some u := ⟨us[j]'(by omega),List.getElem?_eq_getElem _⟩
            obtain ⟨c0,c1,_⟩ := (Q.out.2.1.grown KJ.out.1).2.2 j nm u hnm hu
            have lB := (Q.out.2.1.grown KJ.out.1).2.1
            obtain ⟨y,hy⟩ : ∃ y,es[j]? = some y := ⟨es[j]'(by omega),List.getElem?_eq_getElem _⟩
            have hpy := Q.out.2.2.1 j u y hu hy
            obtain ⟨t6,b6,rfl⟩ := hpy.val
            have hj2 : (j : Int) < (ns.length : Int) := by omega
            have hJ := HJ.out
            rw [List.drop_eq_getElem_cons (by omega),List.cons_append,show es[j]'(by omega) = y from (List.getElem?_eq_some_iff.1 hy).2] at hJ
            have gN : w4.grownBy (w4.alloc (.cells #[.string (B nm),(.iface t6 (.pointer (some ⟨b6,0,none⟩)))] 187)) none := World.grownBy_alloc _ _ _
            have gM := KJ.out.1.trans gN
            cases hr1 : P y (ns :: l) with
            | none => simp only [unR,hr1] at hJ; cases hJ
            | some r1 =>
              have CU := hid (Q.out.1 y _ m _ _ r1 _ hpy hr1 (Q.out.2.2.2.2.1.grown gM) (Q.out.2.2.2.2.2.1.grown gM) (KJ.out.2.grown gN))
              have HN := hid hJ
              have K4 := hid (And.intro gM (KJ.out.2.grown gN))
              have R1 := hid hr1
              clear hu hnm hy hpy hJ gN gM hr1
              cases r1 with
              | none =>
                go_wp2_with fail
                refine CU.out.mono ?_
                rintro e w5 ⟨x,rfl,rfl,g5⟩
                have K5 := hid (And.intro (K4.out.1.trans g5) (K4.out.2.grown g5))
                clear g5 CU
                go_wp2_with fail
                go_roundg (ns.length - (j + 1) + 1)
                case measure => omega
                case rel =>
                  refine ⟨j + 1,by omega,by go_num,rfl,?_,K5⟩
                  have h9 := HN.out
                  simp only [unR,R1.out] at h9
                  exact h9
              | some z =>
                go_wp2_with fail
                refine CU.out.mono ?_
                rintro e w5 ⟨x,rfl,⟨b9,d9,rfl,hb9⟩,g5⟩
                have K5 := hid (And.intro (K4.out.1.trans g5) hb9)
                clear g5 hb9 CU
                go_wp2
                go_ret
                have h9 := HN.out
                simp only [unR,R1.out] at h9
                cases h9
                exact ⟨_,rfl,⟨b9,d9,rfl,K5.out.2⟩,K5.out.1⟩
          · have hj3 : j = ns.length := by omega
            subst hj3
            have hJ := HJ.out
            rw [List.drop_of_length_le (by omega),List.nil_append] at hJ
            have hr1 : P eb (ns :: l) = some r := by
              simp only [unR] at hJ
              cases h9 : P eb (ns :: l) with
              | none => rw [h9] at hJ; cases hJ
              | some r1 =>
                rw [h9] at hJ
                cases r1 with
                | none => exact hJ
                | some z => exact hJ
            have hb4 : w4.heap[b]? = _ := (KJ.out.1.block b hbl (by simp)).trans Q.out.2.2.2.2.2.2.2
            have k4 := blk_c hb4 2 rfl
            have hbl4 := lt_of_block hb4
            have CU := hid (Q.out.1 eb _ m2 _ _ r _ Q.out.2.2.2.1 hr1 (Q.out.2.2.2.2.1.grown KJ.out.1) (Q.out.2.2.2.2.2.1.grown KJ.out.1) KJ.out.2)
            clear hJ hr1 hb4
            go_wp2_with fail
            refine CU.out.mono ?_
            rintro e w5 ⟨x,rfl,ux,g5⟩
            have K5 := hid (And.intro ux (KJ.out.1.trans g5))
            clear g5 ux CU
            go_wp2
            go_ret
            exact ⟨x,rfl,K5.out.1,K5.out.2⟩
end Go.Proofs.YtcdijppegfcoaabGreatDoor
