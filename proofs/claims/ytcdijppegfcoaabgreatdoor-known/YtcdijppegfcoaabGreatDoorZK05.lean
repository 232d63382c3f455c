import Derived.Test.YtcdijppegfcoaabGreatDoorZK04
import Derived.Deep.LoopGhost
set_option maxRecDepth 100000
set_option maxHeartbeats 4000000
namespace Go.Proofs.YtcdijppegfcoaabGreatDoor
open Go.RowKit
theorem ebelow {H : Nat → Option Obj} {ca : List Nat} {σ : Sto} {d : Nat → Nat} {v : Value} {t : Et} {w : World} (h : ER H ca v t) (hc : CSd H ca σ d w) :
    ∃ T0 b F us,v = .iface T0 (.pointer (some ⟨b,0,none⟩)) ∧ us.length ≤ 2 ∧ KR H ca us (kidsS σ t) ∧ BelowAt H ca σ d T0 b F us w := by
  obtain ⟨m,h⟩ := h
  cases m with
  | zero => exact absurd h id
  | succ m =>
  by_cases hk : t.kind = oCell
  · obtain ⟨b,h⟩ := h
    rcases h with ⟨h1,h2,h3,h4⟩ | ⟨h1,_⟩ | ⟨h1,_⟩ | ⟨h1,_⟩ | ⟨h1,_⟩ | ⟨h1,_⟩
    · obtain ⟨us,q1,q2,q3⟩ := below_cell (σ := σ) (d := d) h3 hc
      have ek : kidsS σ t = kidsS σ (cT t.num) := by unfold kidsS; rw [if_pos hk,if_pos (show (cT t.num).kind = oCell from rfl)]; rfl
      exact ⟨_,b,_,us,h4,q1,by rw [ek]; exact q2,fun w => eB_Cell b w,q3,Or.inr (Or.inr (Or.inr (Or.inr (Or.inr rfl))))⟩
    · exact absurd (h1.symm.trans hk) (by decide)
    · rcases h1 with h1 | h1 <;> exact absurd (h1.symm.trans hk) (by decide)
    · exact absurd (h1.symm.trans hk) (by decide)
    · exact absurd (h1.symm.trans hk) (by decide)
    · exact absurd (h1.symm.trans hk) (by decide)
  · obtain ⟨T0,b,F,us,q1,_,q3,q4,q5,q6⟩ := below_node σ d h hk
    have ek : kidsS σ t = t.kids := by unfold kidsS; rw [if_neg hk]
    exact ⟨T0,b,F,us,q1,q3,by rw [ek]; exact q4,q5 w hc⟩
theorem roomAll_bound {R : Et → Int → Option Int} (hR : ∀ t l r,0 ≤ l → R t l = some r → -1 ≤ r ∧ r < l) : ∀ (ts : List Et) (l r : Int),-1 ≤ l → roomAllS R ts l = some r → -1 ≤ r ∧ r ≤ l
  | [],l,r,h,e => by cases e; omega
  | t :: ts,l,r,h,e => by
    rw [roomAllS] at e
    split at e
    · cases e; omega
    · rename_i hl
      cases e1 : R t l with
      | none => rw [e1] at e; cases e
      | some l1 =>
        rw [e1] at e
        have b1 := hR t l l1 (by omega) e1
        have b2 := roomAll_bound hR ts l1 r b1.1 e
        omega
theorem room_bound (σ : Sto) : ∀ (f : Nat) (t : Et) (l r : Int),0 ≤ l → roomS σ f t l = some r → -1 ≤ r ∧ r < l
  | 0,_,_,_,_,e => by cases e
  | f + 1,t,l,r,h,e => by
    have := roomAll_bound (room_bound σ f) (kidsS σ t) (l - 1) r (by omega) e
    omega
theorem InAs.lt {H : Nat → Option Obj} {ca : List Nat} {σ : Sto} {d : Nat → Nat} {w : World} (h : CSd H ca σ d w) {k : Nat} (hk : InAs ca k) : k < w.heap.size := by
  obtain ⟨i,hi⟩ := List.getElem?_of_mem hk
  obtain ⟨v,hv,_⟩ := h.blk i k hi
  exact lt_of_block hv
theorem eroom {H : Nat → Option Obj} {ca : List Nat} {σ : Sto} {d : Nat → Nat} : ∀ (f : Nat) (t : Et) (v : Value) (l r : Int) (w : World),ER H ca v t → roomS σ f t l = some r → 0 ≤ l → l ≤ 100000 → CSd H ca σ d w →
    Calls Tryz.prog 86 #[v,.int .i64 l] w fun e w' => e = .returned (.int .i64 r) ∧ CSd H ca σ d w' ∧ Gb (InAs ca) w w' := by
  intro f
  induction f with
  | zero => intro t v l r w _ h; cases h
  | succ f ih =>
    intro t v l r w hv hr hl0 hl1 hc
    obtain ⟨T0,b,F,us,rfl,hul,hK,hm,hB,hF⟩ := ebelow (σ := σ) (d := d) hv hc
    have hm1 := hm w
    have HB := hid hB
    have HK := hid hK
    have IH := hid ih
    have hr' : roomAllS (roomS σ f) (kidsS σ t) (l - 1) = some r := hr
    have HR := hid hr'
    have HC := hid hc
    clear hv hr hc hm hB ih hr' hK
    unfold CP at HB
    rcases hF with rfl | rfl | rfl | rfl | rfl | rfl
    all_goals
      go_enter Tryz.func86,Tryz.ntmps86
      go_wp2_with fail
      refine HB.out.mono ?_
      rintro e w1 ⟨r1,r2,r3⟩
      have R1 := hid (And.intro r1 r2)
      obtain ⟨ao,cap,he,hrow⟩ : ∃ ao cap,e = .returned (.slice ao us.length cap) ∧ ∀ (j : Nat) (u : Value),us[j]? = some u → ∃ gn,ao = some ⟨gn,0,none⟩ ∧ gn < w1.heap.size ∧ ¬ InAs ca gn ∧ w1.cell? ⟨gn,j,none⟩ = some u := by
        rcases r3 with ⟨rfl,rfl⟩ | ⟨gn,rfl,q1,q2⟩
        · exact ⟨none,0,rfl,fun j u h => by simp at h⟩
        · refine ⟨_,_,rfl,fun j u h => ⟨gn,rfl,lt_of_block q2,fun hk => ?_,?_⟩⟩
          · have := InAs.lt HC.out hk
            omega
          · rw [cell_of_row w1 gn j _ _ _ q2]
            simpa using h
      subst he
      have HROW := hid hrow
      clear hrow r1 r2 r3 HB hm1
      go_wp2_with fail
      go_loopg [1,12] (us.length + 1) (fun gh v i wi => ∃ (j : Nat) (k : Int),j ≤ us.length ∧ i = .int .i64 j ∧ gh = us.length - j + 1 ∧ -1 ≤ k ∧ k ≤ 100000 ∧ Hid (roomAllS (roomS σ f) ((kidsS σ t).drop j) k = some r) ∧ v = .int .i64 k ∧ Hid (CSd H ca σ d wi ∧ Gb (InAs ca) w1 wi))
      case atStart => exact ⟨0,l - 1,by omega,rfl,by omega,by omega,by omega,HR,by first | rfl | (congr 1) | (go_num),hid ⟨R1.out.1,Gb.refl _ _⟩⟩
      case round =>
        obtain ⟨j,k,hj,rfl,hgj,hk0,hk1,HKJ,rfl,HG⟩ := hrel
        by_cases hjl : j < us.length
        · obtain ⟨u,hu⟩ : ∃ u,us[j]? = some u := ⟨us[j],List.getElem?_eq_getElem hjl⟩
          have hjk : j < (kidsS σ t).length := by rw [← HK.out.1]; exact hjl
          obtain ⟨y,hy⟩ : ∃ y,(kidsS σ t)[j]? = some y := ⟨_,List.getElem?_eq_getElem hjk⟩
          obtain ⟨gn,rfl,hgl,hgn,hcell0⟩ := HROW.out j u hu
          have hcell : wr.cell? ⟨gn,j,none⟩ = some u := HG.out.2.cell hcell0 hgl hgn
          have hry := HK.out.2 j u y hu hy
          have hd : (kidsS σ t).drop j = y :: (kidsS σ t).drop (j + 1) := by
            rw [List.drop_eq_getElem_cons hjk]
            rw [List.getElem?_eq_getElem hjk] at hy
            rw [Option.some.inj hy]
          have hkj := HKJ.out
          rw [hd,roomAllS] at hkj
          by_cases hneg : k < 0
          · rw [if_pos hneg] at hkj
            have er := Option.some.inj hkj
            subst er
            clear hkj hu hy hry hd hcell0 HKJ HR
            go_wp2
            go_ret
            exact ⟨rfl,HG.out.1,R1.out.2.tr HG.out.2⟩
          · rw [if_neg hneg] at hkj
            cases e1 : roomS σ f y k with
            | none => rw [e1] at hkj; cases hkj
            | some k1 =>
              rw [e1] at hkj
              have hb1 := room_bound σ f y k k1 (by omega) e1
              have CON := hid (IH.out y u k k1 wr hry e1 (by omega) hk1 HG.out.1)
              have HK1 := hid hkj
              clear hkj hu hy hry hd hcell0 e1
              go_wp2_with fail
              refine CON.out.mono ?_
              rintro e w' ⟨rfl,c',g'⟩
              have G' := hid (And.intro c' g')
              clear c' g'
              go_wp2_with fail
              go_roundg (us.length - (j + 1) + 1)
              case measure => omega
              case rel => exact ⟨j + 1,k1,by omega,by go_num,rfl,by omega,by omega,HK1,rfl,hid ⟨G'.out.1,HG.out.2.tr G'.out.2⟩⟩
        · have hje : j = us.length := by omega
          subst hje
          have er : r = k := by
            have h1 := HKJ.out
            rw [HK.out.1,List.drop_length] at h1
            exact (Option.some.inj h1).symm
          subst er
          go_wp2
          go_ret
          exact ⟨rfl,HG.out.1,R1.out.2.tr HG.out.2⟩
def bigS (σ : Sto) (t : Et) : Option Bool := match roomS σ 130 t 120 with
  | none => none
  | some r => some (decide (r < 0))
theorem ebig {H : Nat → Option Obj} {ca : List Nat} {σ : Sto} {d : Nat → Nat} {t : Et} {v : Value} {q : Bool} {w : World} (hv : ER H ca v t) (hb : bigS σ t = some q) (hc : CSd H ca σ d w) :
    Calls Tryz.prog 53 #[v] w fun e w' => e = .returned (.bool q) ∧ CSd H ca σ d w' ∧ Gb (InAs ca) w w' := by
  unfold bigS at hb
  cases e1 : roomS σ 130 t 120 with
  | none => rw [e1] at hb; cases hb
  | some r =>
    rw [e1] at hb
    have hq := Option.some.inj hb
    subst hq
    have CON := hid (eroom 130 t v 120 r w hv e1 (by decide) (by decide) hc)
    have hb1 := room_bound σ 130 t 120 r (by decide) e1
    clear hv hb hc e1
    go_enter Tryz.func53,Tryz.ntmps53
    go_wp2_with fail
    refine CON.out.mono ?_
    rintro e w1 ⟨rfl,c1,g1⟩
    have G1 := hid (And.intro c1 g1)
    clear c1 g1 CON
    go_wp2
    go_ret
    exact ⟨rfl,G1.out.1,G1.out.2⟩
def nV (n : Nat) : Value := .int .i64 (n : Int)
def FarAt (w : World) (mb : Nat) (far : List (Nat × Nat)) : Prop := GM kI nV 3 w mb far
def FarOk (σ : Sto) (far : List (Nat × Nat)) : Prop := ∀ p,p ∈ far → p.1 < σ.rep.length
def LPP (H : Nat → Option Obj) (ca : List Nat) (σ : Sto) (d : Nat → Nat) (mb : Nat) (r : Option (List (Nat × Nat))) (w : World) (e : Ending) (w' : World) : Prop :=
  Gb (fun k => InAs ca k ∨ k = mb) w w' ∧ match r with
    | none => e = .returned (.bool true)
    | some far => e = .returned (.bool false) ∧ CSd H ca σ d w' ∧ FarAt w' mb far ∧ FarOk σ far
theorem e2_Cell (b : Nat) (w : World) : (Instr.typeAssert (.iface 173 (.pointer (some ⟨b,0,none⟩))) 77 173 false).run Tryz.prog w = .ok (.pointer (some ⟨b,0,none⟩)) w := by kernel_rfl
theorem far_len {σ : Sto} {w : World} {mb : Nat} {far : List (Nat × Nat)} (h : FarAt w mb far) (ok : FarOk σ far) : far.length ≤ σ.rep.length := by
  obtain ⟨D,_,_,hn,_⟩ := h
  have h1 : (far.map (·.1)).Subset (List.range σ.rep.length) := fun a ha => by
    obtain ⟨p,hp,rfl⟩ := List.mem_map.1 ha
    exact List.mem_range.2 (ok p hp)
  have h2 := List.Nodup.length_le_of_subset hn h1
  simpa using h2
theorem far_put {σ : Sto} {far : List (Nat × Nat)} (ok : FarOk σ far) {c n : Nat} (hc : c < σ.rep.length) : FarOk σ (putL far c n) := by
  induction far with
  | nil => intro p hp; simp [putL] at hp; rw [hp]; exact hc
  | cons q l ih =>
    intro p hp
    rw [putL] at hp
    split at hp
    · rcases List.mem_cons.1 hp with rfl | hp
      · exact hc
      · exact ok p (List.mem_cons_of_mem _ hp)
    · rcases List.mem_cons.1 hp with rfl | hp
      · exact ok _ (List.mem_cons_self ..)
      · exact ih (fun x hx => ok x (List.mem_cons_of_mem _ hx)) p hp
theorem cell_val2 {H : Nat → Option Obj} {ca : List Nat} {u : Value} {k : Et} (h : ER H ca u k) (hk : k.kind = oCell) : ∃ x,ca[k.num]? = some x ∧ u = CI x := by
  obtain ⟨m,h⟩ := h
  cases m with
  | zero => exact absurd h id
  | succ m =>
  obtain ⟨b,h⟩ := h
  rcases h with ⟨h1,h2,h3,h4⟩ | ⟨h1,_⟩ | ⟨h1,_⟩ | ⟨h1,_⟩ | ⟨h1,_⟩ | ⟨h1,_⟩
  · exact ⟨b,h3,h4⟩
  · exact absurd (h1.symm.trans hk) (by decide)
  · rcases h1 with h1 | h1 <;> exact absurd (h1.symm.trans hk) (by decide)
  · exact absurd (h1.symm.trans hk) (by decide)
  · exact absurd (h1.symm.trans hk) (by decide)
  · exact absurd (h1.symm.trans hk) (by decide)
theorem kids_root {σ : Sto} {c : Nat} (h : σ.rep[σ.root c]? = some (σ.root c)) : kidsS σ (cT (σ.root c)) = kidsS σ (cT c) := by
  have e : σ.root (σ.root c) = σ.root c := by
    show σ.rep.getD (σ.root c) (σ.root c) = σ.root c
    rw [List.getD_eq_getElem?_getD,h]
    rfl
  unfold kidsS Sto.is
  show (if oCell = oCell then (match σ.con.getD (σ.root (σ.root c)) none with | none => [] | some nd => nd.kids) else _) = (if oCell = oCell then (match σ.con.getD (σ.root c) none with | none => [] | some nd => nd.kids) else _)
  rw [e]
  rfl
theorem loops_any {H : Nat → Option Obj} {ca : List Nat} {σ : Sto} {d : Nat → Nat} {mb : Nat} (hmb : H mb = none) (hma : mb ∉ ca) : ∀ (f c x : Nat) (far : List (Nat × Nat)) (r : Option (List (Nat × Nat))) (w : World),ca[c]? = some x → loopsS σ f c far = some r → CSd H ca σ d w → FarAt w mb far → FarOk σ far →
    Calls Tryz.prog 204 #[CI x,.map (some mb)] w (LPP H ca σ d mb r w) := by
  intro f
  induction f with
  | zero => intro c x far r w _ h; cases h
  | succ f ih =>
    intro c x far r w ec hr hc hf ok
    have HL := hid (last_any (d c + 1) c x w (by omega) ec hc)
    obtain ⟨b0,er0,eb0⟩ := hc.root_get ec
    have hil := (List.getElem?_eq_some_iff.1 ec).1
    have hrl : σ.root c < σ.rep.length := (List.getElem?_eq_some_iff.1 (hc.rr _ _ er0)).1
    have hfew := hc.few
    have ek := kI_key (n := σ.root c) (by omega)
    have hlt := hf.lt
    have t1 := e2_Cell x
    rw [loopsS] at hr
    have HR := hid hr
    have HF := hid (And.intro hf ok)
    have EC := hid (And.intro ec (And.intro eb0 (hc.rr _ _ er0)))
    have IH := hid ih
    clear hr hc hf ok ih ec er0 eb0 hil
    unfold CI
    unfold CP at HL
    go_enter Tryz.func204,Tryz.ntmps204
    go_wp2_with fail
    refine HL.out.mono ?_
    rintro e w1 ⟨b1,rfl,h1,h2,h3,h4⟩
    obtain rfl := Option.some.inj (EC.out.2.1.symm.trans h1)
    obtain ⟨v1,hv1,ho1⟩ := h2.root_val (List.getElem?_eq_some_iff.1 EC.out.1).1 h1
    obtain ⟨x0,x1,_,_⟩ := cell_at hv1
    have hf1 : FarAt w1 mb far := HF.out.1.gb h3 hma
    have hlk := GM.look1 hf1 intLaw Tryz.underlying359 (zeroInt w1) ek
    have C1 := hid (And.intro h2 (And.intro h3 (And.intro hf1 ho1)))
    clear h1 h2 h3 h4 hv1 hf1 ho1 HL ek
    unfold CP
    cases eg : getL far (σ.root c) with
    | some n =>
      rw [eg] at hlk
      simp only [Option.map_some,Option.getD_some] at hlk
      have hr := HR.out
      rw [eg] at hr
      have G1 := hid (C1.out.2.1.mono (R' := fun k => InAs ca k ∨ k = mb) (fun i e => Or.inl e))
      by_cases n1 : n = 1
      · subst n1
        have er := (Option.some.inj hr).symm
        subst er
        unfold nV at hlk
        clear eg hr HR
        go_wp2
        go_ret
        exact ⟨G1.out,rfl⟩
      · by_cases n2 : n = 2
        · subst n2
          have er := (Option.some.inj hr).symm
          subst er
          unfold nV at hlk
          clear eg hr HR
          go_wp2
          go_ret
          exact ⟨G1.out,rfl,C1.out.1,C1.out.2.2.1,HF.out.2⟩
        · exfalso
          revert hr
          split
          · rename_i e; cases e; omega
          · rename_i e; cases e; omega
          · intro h; cases h
          · rename_i e; cases e
    | none =>
      rw [eg] at hlk
      simp only [Option.map_none,Option.getD_none] at hlk
      have hroot := C1.out.1.few
      obtain ⟨w2,hup,hf2,g2⟩ := GM.store C1.out.2.2.1 intLaw Tryz.underlying359 kI_inj kI_lit (by have := far_len C1.out.2.2.1 HF.out.2; omega) 1 (kI_key (n := σ.root c) (by omega))
      have hup1 : (Instr.mapUpdate 359 (.map (some mb)) (.int .i64 ((σ.root c : Int) + 1)) (.int .i64 1)).run Tryz.prog w1 = .ok () w2 := hup
      rw [putL_new 1 eg] at hf2
      have ok2 : FarOk σ (far ++ [(σ.root c,1)]) := by rw [← putL_new 1 eg]; exact far_put HF.out.2 hrl
      have gb2 : Gb (fun k => k = mb) w1 w2 := Gb.of g2 (fun b e => Or.inl (Option.some.inj e).symm)
      have c2 : CSd H ca σ d w2 := C1.out.1.gb gb2 (fun a ha e => hma (e ▸ ha)) (fun k o e e2 => by rw [e2,hmb] at e; cases e)
      obtain ⟨us,hul,hK,hB⟩ := below_cell (σ := σ) (d := d) EC.out.2.1 c2
      rw [kids_root EC.out.2.2] at hK
      have hkk : ∀ k,k ∈ kidsS σ (cT c) → k.kind = oCell := by
        intro k hk
        have e0 : kidsS σ (cT c) = (match σ.is c with | none => [] | some nd => nd.kids) := by unfold kidsS; rw [if_pos (show (cT c).kind = oCell from rfl)]; rfl
        rw [e0] at hk
        rcases C1.out.2.2.2 with ⟨e1,_⟩ | ⟨nd,e1,_,_,h3,_⟩
        · rw [e1] at hk; cases hk
        · rw [e1] at hk; exact h3 k hk
      have hr := HR.out
      rw [eg] at hr
      simp only at hr
      have HB := hid hB
      have HK := hid (And.intro hK hkk)
      have G2 := hid (And.intro (C1.out.2.1.mono (R' := fun k => InAs ca k ∨ k = mb) (fun i e => Or.inl e)) (gb2.mono (R' := fun k => InAs ca k ∨ k = mb) (fun i e => Or.inr e)))
      have F2 := hid (And.intro hf2 ok2)
      have HR2 := hid hr
      have x0' : w2.cell? ⟨b0,0,none⟩ = some (.int .i64 ((σ.root c : Int) + 1)) := by
        obtain ⟨v2,hv2,_⟩ := c2.root_val (List.getElem?_eq_some_iff.1 EC.out.1).1 EC.out.2.1
        exact (cell_at hv2).1
      clear eg hup hf2 g2 ok2 gb2 c2 hK hB hkk hr HF HR hroot
      unfold CP at HB
      go_wp2_with fail
      refine HB.out.mono ?_
      rintro e w3 ⟨r1,r2,r3⟩
      obtain ⟨ao,cap,he,hrow⟩ : ∃ ao cap,e = .returned (.slice ao us.length cap) ∧ ∀ (j : Nat) (u : Value),us[j]? = some u → ∃ gn,ao = some ⟨gn,0,none⟩ ∧ gn < w3.heap.size ∧ ¬ InAs ca gn ∧ gn ≠ mb ∧ w3.cell? ⟨gn,j,none⟩ = some u := by
        rcases r3 with ⟨rfl,rfl⟩ | ⟨gn,rfl,q1,q2⟩
        · exact ⟨none,0,rfl,fun j u h => by simp at h⟩
        · refine ⟨_,_,rfl,fun j u h => ⟨gn,rfl,lt_of_block q2,fun hk => ?_,?_,?_⟩⟩
          · have h9 := InAs.lt C1.out.1 hk
            have := G2.out.2.size
            omega
          · have h9 := F2.out.1.lt
            omega
          · rw [cell_of_row w3 gn j _ _ _ q2]
            simpa using h
      subst he
      have HROW := hid hrow
      have G3 := hid (And.intro r1 (And.intro (F2.out.1.gb r2 hma) (G2.out.1.tr (G2.out.2.tr (r2.mono (fun i e => Or.inl e))))))
      have OK3 := hid F2.out.2
      clear hrow r1 r2 r3 HB x0 x1 x0' hlk hup1 G2 F2 C1
      obtain ⟨R0,hR0⟩ : ∃ R0,R0 = loopsAllS (loopsS σ f) (kidsS σ (cT c)) (far ++ [(σ.root c,1)]) := ⟨_,rfl⟩
      rw [← hR0] at HR2
      have J0 := hid (show loopsAllS (loopsS σ f) ((kidsS σ (cT c)).drop 0) (far ++ [(σ.root c,1)]) = R0 from hR0.symm)
      clear hR0
      go_wp2_with fail
      go_loopg [29] (us.length + 1) (fun gh i wi => ∃ (j : Nat) (fj : List (Nat × Nat)),j ≤ us.length ∧ i = .int .i64 j ∧ gh = us.length - j + 1 ∧ Hid (loopsAllS (loopsS σ f) ((kidsS σ (cT c)).drop j) fj = R0) ∧ Hid ((CSd H ca σ d wi ∧ FarAt wi mb fj ∧ FarOk σ fj) ∧ Gb (fun k => InAs ca k ∨ k = mb) w3 wi))
      case atStart => exact ⟨0,_,by omega,rfl,by omega,J0,hid ⟨⟨G3.out.1,G3.out.2.1,OK3.out⟩,Gb.refl _ _⟩⟩
      case round =>
        obtain ⟨j,fj,hj,rfl,hgj,HJ,HG⟩ := hrel
        by_cases hjl : j < us.length
        · have hjk : j < (kidsS σ (cT c)).length := by rw [← HK.out.1.1]; exact hjl
          obtain ⟨u,hu⟩ : ∃ u,us[j]? = some u := ⟨_,List.getElem?_eq_getElem hjl⟩
          obtain ⟨y,hy⟩ : ∃ y,(kidsS σ (cT c))[j]? = some y := ⟨_,List.getElem?_eq_getElem hjk⟩
          obtain ⟨gn,rfl,hg1,hn1,hn2,cu⟩ := HROW.out j u hu
          have du : wr.cell? ⟨gn,j,none⟩ = some u := HG.out.2.cell cu hg1 (fun e => e.elim hn1 hn2)
          obtain ⟨y1,ey,rfl⟩ := cell_val2 (HK.out.1.2 j u y hu hy) (HK.out.2 y (List.mem_of_getElem? hy))
          have hd : (kidsS σ (cT c)).drop j = y :: (kidsS σ (cT c)).drop (j + 1) := by
            rw [List.drop_eq_getElem_cons hjk]
            rw [List.getElem?_eq_getElem hjk] at hy
            rw [Option.some.inj hy]
          have hjj := HJ.out
          rw [hd,loopsAllS] at hjj
          cases er : loopsS σ f y.num fj with
          | none =>
            rw [er] at hjj
            have h9 := HR2.out
            rw [← hjj] at h9
            cases h9
          | some rj =>
            rw [er] at hjj
            have CON := hid (IH.out y.num y1 fj rj wr ey er HG.out.1.1 HG.out.1.2.1 HG.out.1.2.2)
            have HJ2 := hid hjj
            clear hu hy cu hd hjj er ey HJ
            unfold CI at *
            cases rj with
            | none =>
              have hr : r = none := by
                have h9 := HR2.out
                rw [← HJ2.out] at h9
                exact (Option.some.inj h9).symm
              subst hr
              go_wp2_with fail
              refine CON.out.mono ?_
              rintro e w5 ⟨g5,rfl⟩
              have G5 := hid g5
              clear g5 CON
              go_wp2
              go_ret
              exact ⟨(G3.out.2.2.tr HG.out.2).tr G5.out,rfl⟩
            | some fj2 =>
              have J2 := hid (show loopsAllS (loopsS σ f) ((kidsS σ (cT c)).drop (j + 1)) fj2 = R0 from HJ2.out)
              go_wp2_with fail
              refine CON.out.mono ?_
              rintro e w5 ⟨g5,rfl,c5⟩
              have G5 := hid (And.intro c5 g5)
              clear g5 c5 CON
              go_wp2_with fail
              go_roundg (us.length - (j + 1) + 1)
              case measure => omega
              case rel => exact ⟨j + 1,fj2,by omega,by go_num,rfl,J2,hid ⟨G5.out.1,HG.out.2.tr G5.out.2⟩⟩
        · have hje : j = us.length := by omega
          subst hje
          have hR : R0 = some (some fj) := by
            have h3 := HJ.out
            rw [HK.out.1.1,List.drop_length] at h3
            exact h3.symm
          have hr : r = some (putL fj (σ.root c) 2) := by
            have h9 := HR2.out
            rw [hR] at h9
            exact (Option.some.inj h9).symm
          subst hr
          obtain ⟨v2,hv2,_⟩ := HG.out.1.1.root_val (List.getElem?_eq_some_iff.1 EC.out.1).1 EC.out.2.1
          have x0 := (cell_at hv2).1
          obtain ⟨w6,hup,hf6,g6⟩ := GM.store HG.out.1.2.1 intLaw Tryz.underlying359 kI_inj kI_lit (by have := far_len HG.out.1.2.1 HG.out.1.2.2; omega) 2 (kI_key (n := σ.root c) (by omega))
          have hup1 : (Instr.mapUpdate 359 (.map (some mb)) (.int .i64 ((σ.root c : Int) + 1)) (.int .i64 2)).run Tryz.prog wr = .ok () w6 := hup
          have gb6 : Gb (fun k => k = mb) wr w6 := Gb.of g6 (fun b e => Or.inl (Option.some.inj e).symm)
          have E6 := hid (And.intro (HG.out.1.1.gb gb6 (fun a ha e => hma (e ▸ ha)) (fun k o e e2 => by rw [e2,hmb] at e; cases e)) (And.intro hf6 (And.intro (far_put HG.out.1.2.2 (n := 2) hrl) (gb6.mono (R' := fun k => InAs ca k ∨ k = mb) (fun i e => Or.inr e)))))
          clear hv2 hup hf6 g6 gb6 hR
          go_wp2
          go_ret
          exact ⟨(G3.out.2.2.tr HG.out.2).tr E6.out.2.2.2,rfl,E6.out.1,E6.out.2.1,E6.out.2.2.1⟩
end Go.Proofs.YtcdijppegfcoaabGreatDoor
