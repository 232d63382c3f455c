import Derived.Test.YtcdijppegfcoaabGreatDoorZC04
import Derived.Test.YtcdijppegfcoaabGreatDoorZC03
set_option maxRecDepth 100000
set_option maxHeartbeats 8000000
namespace Go.Proofs.YtcdijppegfcoaabGreatDoor
open Go.RowKit
theorem ebelow {H : Nat → Option Obj} {ca : List Nat} {σ : Sto} {d : Nat → Nat} {v : Value} {t : Et} {w : World} (h : ER H ca v t) (hc : CSd H ca σ d w) :
    ∃ T0 b F us,v = .iface T0 (.pointer (some ⟨b,0,none⟩)) ∧ us.length ≤ 2 ∧ KR H ca us (kidsS σ t) ∧ BelowAt H ca σ d T0 b F us w := by
  obtain ⟨m,h⟩ := h
  cases m with
  | zero => exact absurd h id
  | succ m =>
  by_cases hk : t.kind = oCell
  · obtain ⟨b,h⟩ := h
    rcases h with ⟨h1,h2,h3,h4⟩ | ⟨h1,_⟩ | ⟨h1,_⟩ | ⟨h1,_⟩ | ⟨h1,_⟩ | ⟨h1,_⟩
    · obtain ⟨us,q1,q2,q3⟩ := below_cell (σ := σ) (d := d) h3 hc
      have ek : kidsS σ t = kidsS σ (cT t.num) := by unfold kidsS; rw [if_pos hk,if_pos (show (cT t.num).kind = oCell from rfl)]; rfl
      exact ⟨_,b,_,us,h4,q1,by rw [ek]; exact q2,fun w => eB_Cell b w,q3,Or.inr (Or.inr (Or.inr (Or.inr (Or.inr rfl))))⟩
    · exact absurd (h1.symm.trans hk) (by decide)
    · rcases h1 with h1 | h1 <;> exact absurd (h1.symm.trans hk) (by decide)
    · exact absurd (h1.symm.trans hk) (by decide)
    · exact absurd (h1.symm.trans hk) (by decide)
    · exact absurd (h1.symm.trans hk) (by decide)
  · obtain ⟨T0,b,F,us,q1,_,q3,q4,q5,q6⟩ := below_node σ d h hk
    have ek : kidsS σ t = t.kids := by unfold kidsS; rw [if_neg hk]
    exact ⟨T0,b,F,us,q1,q3,by rw [ek]; exact q4,q5 w hc⟩
theorem roomAll_bound {R : Et → Int → Option Int} (hR : ∀ t l r,0 ≤ l → R t l = some r → -1 ≤ r ∧ r < l) : ∀ (ts : List Et) (l r : Int),-1 ≤ l → roomAllS R ts l = some r → -1 ≤ r ∧ r ≤ l
  | [],l,r,h,e => by cases e; omega
  | t :: ts,l,r,h,e => by
    rw [roomAllS] at e
    split at e
    · cases e; omega
    · rename_i hl
      cases e1 : R t l with
      | none => rw [e1] at e; cases e
      | some l1 =>
        rw [e1] at e
        have b1 := hR t l l1 (by omega) e1
        have b2 := roomAll_bound hR ts l1 r b1.1 e
        omega
theorem room_bound (σ : Sto) : ∀ (f : Nat) (t : Et) (l r : Int),0 ≤ l → roomS σ f t l = some r → -1 ≤ r ∧ r < l
  | 0,_,_,_,_,e => by cases e
  | f + 1,t,l,r,h,e => by
    have := roomAll_bound (room_bound σ f) (kidsS σ t) (l - 1) r (by omega) e
    omega
theorem InAs.lt {H : Nat → Option Obj} {ca : List Nat} {σ : Sto} {d : Nat → Nat} {w : World} (h : CSd H ca σ d w) {k : Nat} (hk : InAs ca k) : k < w.heap.size := by
  obtain ⟨i,hi⟩ := List.getElem?_of_mem hk
  obtain ⟨v,hv,_⟩ := h.blk i k hi
  exact lt_of_block hv
theorem eroom {H : Nat → Option Obj} {ca : List Nat} {σ : Sto} {d : Nat → Nat} : ∀ (f : Nat) (t : Et) (v : Value) (l r : Int) (w : World),ER H ca v t → roomS σ f t l = some r → 0 ≤ l → l ≤ 100000 → CSd H ca σ d w →
    Calls Tryz.prog 86 #[v,.int .i64 l] w fun e w' => e = .returned (.int .i64 r) ∧ CSd H ca σ d w' ∧ Gb (InAs ca) w w' := by
  intro f
  induction f with
  | zero => intro t v l r w _ h; cases h
  | succ f ih =>
    intro t v l r w hv hr hl0 hl1 hc
    obtain ⟨T0,b,F,us,rfl,hul,hK,hm,hB,hF⟩ := ebelow (σ := σ) (d := d) hv hc
    have hm1 := hm w
    have HB := hid hB
    have HK := hid hK
    have IH := hid ih
    have hr' : roomAllS (roomS σ f) (kidsS σ t) (l - 1) = some r := hr
    have HR := hid hr'
    have HC := hid hc
    clear hv hr hc hm hB ih hr' hK
    unfold CP at HB
    rcases hF with rfl | rfl | rfl | rfl | rfl | rfl
    all_goals
      go_enter Tryz.func86,Tryz.ntmps86
      go_wp2_with fail
      refine HB.out.mono ?_
      rintro e w1 ⟨r1,r2,r3⟩
      have R1 := hid (And.intro r1 r2)
      obtain ⟨ao,cap,he,hrow⟩ : ∃ ao cap,e = .returned (.slice ao us.length cap) ∧ ∀ (j : Nat) (u : Value),us[j]? = some u → ∃ gn,ao = some ⟨gn,0,none⟩ ∧ gn < w1.heap.size ∧ ¬ InAs ca gn ∧ w1.cell? ⟨gn,j,none⟩ = some u := by
        rcases r3 with ⟨rfl,rfl⟩ | ⟨gn,rfl,q1,q2⟩
        · exact ⟨none,0,rfl,fun j u h => by simp at h⟩
        · refine ⟨_,_,rfl,fun j u h => ⟨gn,rfl,lt_of_block q2,fun hk => ?_,?_⟩⟩
          · have := InAs.lt HC.out hk
            omega
          · rw [cell_of_row w1 gn j _ _ _ q2]
            simpa using h
      subst he
      have HROW := hid hrow
      clear hrow r1 r2 r3 HB hm1
      go_wp2_with fail
      go_loopg [1,12] (us.length + 1) (fun gh v i wi => ∃ (j : Nat) (k : Int),j ≤ us.length ∧ i = .int .i64 j ∧ gh = us.length - j + 1 ∧ -1 ≤ k ∧ k ≤ 100000 ∧ Hid (roomAllS (roomS σ f) ((kidsS σ t).drop j) k = some r) ∧ v = .int .i64 k ∧ Hid (CSd H ca σ d wi ∧ Gb (InAs ca) w1 wi))
      case atStart => exact ⟨0,l - 1,by omega,rfl,by omega,by omega,by omega,HR,by first | rfl | (congr 1) | (go_num),hid ⟨R1.out.1,Gb.refl _ _⟩⟩
      case round =>
        obtain ⟨j,k,hj,rfl,hgj,hk0,hk1,HKJ,rfl,HG⟩ := hrel
        by_cases hjl : j < us.length
        · obtain ⟨u,hu⟩ : ∃ u,us[j]? = some u := ⟨us[j],List.getElem?_eq_getElem hjl⟩
          have hjk : j < (kidsS σ t).length := by rw [← HK.out.1]; exact hjl
          obtain ⟨y,hy⟩ : ∃ y,(kidsS σ t)[j]? = some y := ⟨_,List.getElem?_eq_getElem hjk⟩
          obtain ⟨gn,rfl,hgl,hgn,hcell0⟩ := HROW.out j u hu
          have hcell : wr.cell? ⟨gn,j,none⟩ = some u := HG.out.2.cell hcell0 hgl hgn
          have hry := HK.out.2 j u y hu hy
          have hd : (kidsS σ t).drop j = y :: (kidsS σ t).drop (j + 1) := by
            rw [List.drop_eq_getElem_cons hjk]
            rw [List.getElem?_eq_getElem hjk] at hy
            rw [Option.some.inj hy]
          have hkj := HKJ.out
          rw [hd,roomAllS] at hkj
          by_cases hneg : k < 0
          · rw [if_pos hneg] at hkj
            have er := Option.some.inj hkj
            subst er
            clear hkj hu hy hry hd hcell0 HKJ HR
            go_wp2
            go_ret
            exact ⟨rfl,HG.out.1,R1.out.2.tr HG.out.2⟩
          · rw [if_neg hneg] at hkj
            cases e1 : roomS σ f y k with
            | none => rw [e1] at hkj; cases hkj
            | some k1 =>
              rw [e1] at hkj
              have hb1 := room_bound σ f y k k1 (by omega) e1
              have CON := hid (IH.out y u k k1 wr hry e1 (by omega) hk1 HG.out.1)
              have HK1 := hid hkj
              clear hkj hu hy hry hd hcell0 e1
              go_wp2_with fail
              refine CON.out.mono ?_
              rintro e w' ⟨rfl,c',g'⟩
              have G' := hid (And.intro c' g')
              clear c' g'
              go_wp2_with fail
              go_roundg (us.length - (j + 1) + 1)
              case measure => omega
              case rel => exact ⟨j + 1,k1,by omega,by go_num,rfl,by omega,by omega,HK1,rfl,hid ⟨G'.out.1,HG.out.2.tr G'.out.2⟩⟩
        · have hje : j = us.length := by omega
          subst hje
          have er : r = k := by
            have h1 := HKJ.out
            rw [HK.out.1,List.drop_length] at h1
            exact (Option.some.inj h1).symm
          subst er
          go_wp2
          go_ret
          exact ⟨rfl,HG.out.1,R1.out.2.tr HG.out.2⟩
def bigS (σ : Sto) (t : Et) : Option Bool := match roomS σ 130 t 120 with
  | none => none
  | some r => some (decide (r < 0))
theorem ebig {H : Nat → Option Obj} {ca : List Nat} {σ : Sto} {d : Nat → Nat} {t : Et} {v : Value} {q : Bool} {w : World} (hv : ER H ca v t) (hb : bigS σ t = some q) (hc : CSd H ca σ d w) :
    Calls Tryz.prog 53 #[v] w fun e w' => e = .returned (.bool q) ∧ CSd H ca σ d w' ∧ Gb (InAs ca) w w' := by
  unfold bigS at hb
  cases e1 : roomS σ 130 t 120 with
  | none => rw [e1] at hb; cases hb
  | some r =>
    rw [e1] at hb
    have hq := Option.some.inj hb
    subst hq
    have CON := hid (eroom 130 t v 120 r w hv e1 (by decide) (by decide) hc)
    have hb1 := room_bound σ 130 t 120 r (by decide) e1
    clear hv hb hc e1
    go_enter Tryz.func53,Tryz.ntmps53
    go_wp2_with fail
    refine CON.out.mono ?_
    rintro e w1 ⟨rfl,c1,g1⟩
    have G1 := hid (And.intro c1 g1)
    clear c1 g1 CON
    go_wp2
    go_ret
    exact ⟨rfl,G1.out.1,G1.out.2⟩
theorem ORep.ext {H H' : Nat → Option Obj} {ca ca' : List Nat} {o : Option Et} {v : Value} (h : ORep H ca o v) (e : ∀ k x,H k = some x → H' k = some x) (ha : ca <+: ca') : ORep H' ca' o v := by
  rcases h with h | ⟨nd,h1,h2,h3,h4,h5⟩
  · exact Or.inl h
  · exact Or.inr ⟨nd,h1,h2,h3,h4,h5.ext (Nat.le_refl _) e ha _ _ _⟩
theorem CV.ext {H H' : Nat → Option Obj} {ca ca' : List Nat} {σ : Sto} {d : Nat → Nat} {i : Nat} {v : Value} (h : CV H ca σ d i v) (e : ∀ k x,H k = some x → H' k = some x) (ha : ca <+: ca') : CV H' ca' σ d i v := by
  rcases h with ⟨h1,h2⟩ | ⟨j,c,b,h1,h2,h3,h4,h5,h6⟩
  · exact Or.inl ⟨h1,h2.ext e ha⟩
  · exact Or.inr ⟨j,c,b,h1,h2,h3,get_pre ha h4,h5,h6⟩
theorem CSd.more {H H' : Nat → Option Obj} {ca : List Nat} {σ : Sto} {d : Nat → Nat} {w : World} (h : CSd H ca σ d w) (e : ∀ k x,H k = some x → H' k = some x) (hz : Fz H' w) (off : ∀ a,a ∈ ca → H' a = none) : CSd H' ca σ d w :=
  ⟨hz,h.len,h.lenc,h.nd,off,h.few,h.rr,fun i a ei => by
    obtain ⟨v,q1,q2⟩ := h.blk i a ei
    exact ⟨v,q1,q2.ext e (List.prefix_refl _)⟩⟩
theorem CSd.new {H : Nat → Option Obj} {ca : List Nat} {σ : Sto} {d : Nat → Nat} {w w' : World} {o : Option Et} {v : Value} {a : Nat} (h : CSd H ca σ d w) (ho : ORep H ca o v) (hf : σ.rep.length < 1099511627776) (hz : Fz H w')
    (hk : ∀ x,x ∈ ca → w'.heap[x]? = w.heap[x]?) (ha : w.heap.size ≤ a) (hb : w'.heap[a]? = some (cellB σ.rep.length v)) : CSd H (ca ++ [a]) (σ.new o) d w' := by
  have hpre : ca <+: ca ++ [a] := List.prefix_append _ _
  have hlt : ∀ x,x ∈ ca → x < w.heap.size := fun x hx => InAs.lt h hx
  have hna : H a = none := h.fz.none ha
  have hrep : ∀ i,i < σ.rep.length → (σ.new o).rep[i]? = σ.rep[i]? := fun i hi => List.getElem?_append_left hi
  have hcon : ∀ i,i < σ.rep.length → (σ.new o).con.getD i none = σ.con.getD i none := fun i hi => by
    show (σ.con ++ [o]).getD i none = _
    rw [List.getD_eq_getElem?_getD,List.getD_eq_getElem?_getD,List.getElem?_append_left (by rw [h.lenc]; exact hi)]
  refine ⟨hz,by simp [Sto.new,h.len],by simp [Sto.new,h.lenc],?_,fun x hx => ?_,by simp [Sto.new]; omega,fun i c hc => ?_,fun i x hx => ?_⟩
  · rw [List.nodup_append]
    refine ⟨h.nd,by simp,fun x hx y hy e => ?_⟩
    simp at hy
    have := hlt x hx
    omega
  · rcases List.mem_append.1 hx with hx | hx
    · exact h.off x hx
    · rw [List.mem_singleton.1 hx]; exact hna
  · by_cases hi : i < σ.rep.length
    · rw [hrep i hi] at hc
      have h2 := h.rr i c hc
      rw [hrep c (List.getElem?_eq_some_iff.1 h2).1]
      exact h2
    · have hi2 : i = σ.rep.length := by
        have := (List.getElem?_eq_some_iff.1 hc).1
        simp [Sto.new] at this
        omega
      subst hi2
      have : (σ.new o).rep[σ.rep.length]? = some σ.rep.length := by simp [Sto.new]
      rw [this] at hc
      cases hc
      exact this
  · by_cases hi : i < ca.length
    · rw [List.getElem?_append_left hi] at hx
      obtain ⟨u,q1,q2⟩ := h.blk i x hx
      refine ⟨u,(hk x (List.mem_of_getElem? hx)).trans q1,?_⟩
      have hi2 : i < σ.rep.length := by rw [← h.len]; exact hi
      rcases q2 with ⟨p1,p2⟩ | ⟨j,c,b,p1,p2,p3,p4,p5,p6⟩
      · exact Or.inl ⟨(hrep i hi2).trans p1,by rw [hcon i hi2]; exact p2.ext (fun _ _ e => e) hpre⟩
      · exact Or.inr ⟨j,c,b,(hrep i hi2).trans p1,p2,(hrep j (List.getElem?_eq_some_iff.1 p3).1).trans p3,get_pre hpre p4,p5,p6⟩
    · have hi2 : i = ca.length := by
        have := (List.getElem?_eq_some_iff.1 hx).1
        simp at this
        omega
      subst hi2
      rw [List.getElem?_append_right (Nat.le_refl _)] at hx
      simp at hx
      subst hx
      refine ⟨v,by rw [h.len]; exact hb,Or.inl ⟨?_,?_⟩⟩
      · rw [h.len]; simp [Sto.new]
      · have e : (σ.new o).con.getD ca.length none = o := by
          show (σ.con ++ [o]).getD ca.length none = o
          rw [List.getD_eq_getElem?_getD,h.len,← h.lenc,List.getElem?_append_right (Nat.le_refl _)]
          simp
        rw [e]
        exact ho.ext (fun _ _ e => e) hpre
theorem link_get {σ : Sto} {one other i c : Nat} (h : σ.rep[i]? = some c) : (σ.link one other).rep[i]? = some (if c = one then other else c) := by
  unfold Sto.link
  simp [h]
theorem CSd.link {H : Nat → Option Obj} {ca : List Nat} {σ : Sto} {d : Nat → Nat} {w : World} {one other a b : Nat} (h : CSd H ca σ d w) (h1 : σ.rep[one]? = some one) (h2 : σ.rep[other]? = some other) (hne : one ≠ other) (ea : ca[one]? = some a) (eb : ca[other]? = some b) :
    CSd H ca (σ.link one other) (fun i => if i = one then 0 else d i + 1) (w.setCell ⟨a,1,none⟩ (CI b)) := by
  have hlen : (σ.link one other).rep.length = σ.rep.length := by simp [Sto.link]
  refine ⟨h.fz.set (h.off a (List.mem_of_getElem? ea)) 1 _,by rw [hlen]; exact h.len,by rw [hlen]; exact h.lenc,h.nd,h.off,by rw [hlen]; exact h.few,fun i c hc => ?_,fun i x hx => ?_⟩
  · have hi : i < σ.rep.length := by rw [← hlen]; exact (List.getElem?_eq_some_iff.1 hc).1
    obtain ⟨r,hr⟩ : ∃ r,σ.rep[i]? = some r := ⟨_,List.getElem?_eq_getElem hi⟩
    rw [link_get hr] at hc
    have e := Option.some.inj hc
    by_cases hro : r = one
    · rw [if_pos hro] at e
      subst e
      rw [link_get h2,if_neg (Ne.symm hne)]
    · rw [if_neg hro] at e
      subst e
      rw [link_get (h.rr i r hr),if_neg hro]
  · obtain ⟨u,q1,q2⟩ := h.blk i x hx
    by_cases hi : i = one
    · subst hi
      rw [ea] at hx
      cases hx
      refine ⟨CI b,?_,Or.inr ⟨other,other,b,?_,Ne.symm hne,?_,eb,rfl,Or.inl rfl⟩⟩
      · simp [World.setCell,Array.getElem?_modify,q1,cellB]
      · rw [link_get h1,if_pos rfl]
      · rw [link_get h2,if_neg (Ne.symm hne)]
    · refine ⟨u,?_,?_⟩
      · rw [Below.heap_setCell _ _ _ _ (fun e' => hi ?_)]
        · exact q1
        · have e2 : x = a := e'
          subst e2
          exact (List.getElem?_inj (List.getElem?_eq_some_iff.1 hx).1 h.nd).1 (hx.trans ea.symm)
      · rcases q2 with ⟨p1,p2⟩ | ⟨j,c,bb,p1,p2,p3,p4,p5,p6⟩
        · exact Or.inl ⟨by rw [link_get p1,if_neg hi],p2⟩
        · refine Or.inr ⟨j,if c = one then other else c,bb,link_get p1,?_,link_get p3,p4,p5,?_⟩
          · by_cases hc : c = one
            · rw [if_pos hc]
              intro e
              rw [← e,h2] at p1
              rw [hc] at p1
              exact hne (Option.some.inj p1).symm
            · rw [if_neg hc]; exact p2
          · rcases p6 with p6 | p6
            · by_cases hc : c = one
              · right
                show (if j = one then 0 else d j + 1) < (if i = one then 0 else d i + 1)
                rw [if_pos (p6.trans hc),if_neg hi]
                omega
              · left
                rw [if_neg hc]; exact p6
            · right
              show (if j = one then 0 else d j + 1) < (if i = one then 0 else d i + 1)
              rw [if_neg hi]
              split
              · omega
              · omega
theorem CSd.put {H : Nat → Option Obj} {ca : List Nat} {σ : Sto} {d : Nat → Nat} {w : World} {other b : Nat} {o : Option Et} {v : Value} (h : CSd H ca σ d w) (h2 : σ.rep[other]? = some other) (eb : ca[other]? = some b) (ho : ORep H ca o v) :
    CSd H ca (σ.put other o) d (w.setCell ⟨b,1,none⟩ v) := by
  refine ⟨h.fz.set (h.off b (List.mem_of_getElem? eb)) 1 _,h.len,by simp [Sto.put,h.lenc],h.nd,h.off,h.few,h.rr,fun i x hx => ?_⟩
  obtain ⟨u,q1,q2⟩ := h.blk i x hx
  by_cases hi : i = other
  · subst hi
    rw [eb] at hx
    cases hx
    refine ⟨v,by simp [World.setCell,Array.getElem?_modify,q1,cellB],Or.inl ⟨h2,?_⟩⟩
    have hl : i < σ.con.length := by rw [h.lenc]; exact (List.getElem?_eq_some_iff.1 h2).1
    have e : (σ.put i o).con.getD i none = o := by
      show (σ.con.set i o).getD i none = o
      rw [List.getD_eq_getElem?_getD,List.getElem?_set_self hl]
      rfl
    rw [e]
    exact ho
  · refine ⟨u,?_,?_⟩
    · rw [Below.heap_setCell _ _ _ _ (fun e' => hi ?_)]
      · exact q1
      · have e2 : x = b := e'
        subst e2
        exact (List.getElem?_inj (List.getElem?_eq_some_iff.1 hx).1 h.nd).1 (hx.trans eb.symm)
    · rcases q2 with ⟨p1,p2⟩ | q2
      · refine Or.inl ⟨p1,?_⟩
        have e : (σ.put other o).con.getD i none = σ.con.getD i none := by
          show (σ.con.set other o).getD i none = _
          rw [List.getD_eq_getElem?_getD,List.getElem?_set_ne (Ne.symm hi),List.getD_eq_getElem?_getD]
        rw [e]
        exact p2
      · exact Or.inr q2
theorem two_cells {w : World} {n : Nat} {x y : Value} {t : TypeId} {p : Nat × Nat} (h : w.heap[n]? = some (.cells #[x,y] t p)) : w.cell? ⟨n,0,none⟩ = some x ∧ w.cell? ⟨n,1,none⟩ = some y := by
  constructor <;> simp [World.cell?,h]
theorem one_cj {w : World} {b : Nat} {p : Value} {t : TypeId} (h : w.heap[b]? = some (.cells #[p] t (0,0))) : w.cell? ⟨b,0,none⟩ = some p ∧ w.frozen? ⟨b,0,none⟩ = false := by simp [World.cell?,World.frozen?,h]
theorem DW.drew {H : Nat → Option Obj} {ca : List Nat} {σ : Sto} {d : Nat → Nat} {c : Dc} {bs : Nat} {s : Ds} {w : World} (h : DW H ca σ d c bs s w) : DW H ca σ d c bs s w.drew := ⟨h.cs.drew,h.dr.drew,h.lowa,h.lowH,h.off,h.big⟩
theorem first_cell {H : Nat → Option Obj} {ca : List Nat} {σ : Sto} {d : Nat → Nat} {c : Dc} {bs : Nat} {s s' : Ds} {w : World} {v : Value} {b : Nat} {n : Nat} {a : AB} (hx : c.own = some a) (hn : n ≤ 1099511627776) (hO : s.O.length ≤ 200)
    (hN : Calls Tryz.prog 168 #[v] w fun e w' => e = .returned (.iface 173 (.pointer (some ⟨b,0,none⟩))) ∧ DW H ca σ d c bs s w' ∧ Gb (DG ca c bs) w w')
    (hb : ca[n]? = some b) (hp : putS ([95] ++ letterS ((ordS s.O n).idxOf n)) 0 0 ⟨s.steps,s.out,s.stands,s.L,ordS s.O n⟩ = some s') :
    Calls Tryz.prog 128 #[CP c.db,v] w (ADP H ca σ d c bs s' w) := by
  have HN := hid hN
  have HB := hid (And.intro hb (And.intro hp (And.intro hn hO)))
  have q0 := e_Cell_Basic b
  have q1 := e_Cell_Var b
  have q2 := e_Cell_Cell b
  have HX := hid hx
  clear hN hb hx hn hO hp
  unfold CP
  go_enter Tryz.func128,Tryz.ntmps128
  go_wp2_with fail
  refine HN.out.mono ?_
  rintro e w1 ⟨rfl,r1,g1⟩
  obtain ⟨v1,hv1,_⟩ := r1.cs.blk n b HB.out.1
  have c0 := (cell_at hv1).1
  obtain ⟨sv,hsv,_⟩ := r1.dr.blk
  have c1 : w1.cell? ⟨c.db,1,none⟩ = some (.func (.func 213) #[] #[.pointer (some ⟨a.kb,0,none⟩),.pointer (some ⟨a.nb,0,none⟩)]) := by rw [(draft_cells hsv).2.1]; unfold Dc.ownV; rw [HX.out]; rfl
  have HC := hid (ask_i w1.drew a n s.O HB.out.2.2.1 ((r1.dr.drew).ow a HX.out).1 HB.out.2.2.2)
  have R1 := hid (And.intro r1 g1)
  clear r1 g1 HN hsv hv1
  go_wp2_with fail
  go_region_with (first
    | (go_at_call 213; refine HC.out.mono ?_; rintro e w2 ⟨rfl,i2,g2⟩; have R2 := hid ((DW.drew R1.out.1).ownL HX.out i2 g2); have HW := hid (word_any R2.out.1 HB.out.2.1); clear i2 g2; unfold CP at HW)
    | (go_at_call 169; refine HW.out.mono ?_; rintro e w3 ⟨rfl,r3,g3⟩; have R3 := hid (And.intro r3 g3); clear r3 g3))
  all_goals
    go_wp2
    first | go_end0 | skip
    exact ⟨rfl,R3.out.1,(R1.out.2.tr (Gb.drewL R2.out.2)).tr R3.out.2⟩
theorem first_list {H : Nat → Option Obj} {ca : List Nat} {σ : Sto} {d : Nat → Nat} {c : Dc} {bs : Nat} {s s' : Ds} {w : World} {v : Value} {b : Nat} {md f : Nat} {u : Value} {a : Et} {s1 s2 : Ds}
    (hN : Calls Tryz.prog 168 #[v] w fun e w' => e = .returned (.iface 279 (.pointer (some ⟨b,0,none⟩))) ∧ DW H ca σ d c bs s w' ∧ Gb (DG ca c bs) w w')
    (hb : H b = some (.cells #[u] 281 (0,0))) (hA : ADDC H ca σ d c bs md f) (hu : ER H ca u a) (p1 : putS [91] 0 0 s = some s1) (p2 : draftS σ md f a s1 = some s2) (p3 : putS [93] 0 0 s2 = some s') :
    Calls Tryz.prog 128 #[CP c.db,v] w (ADP H ca σ d c bs s' w) := by
  have HF := hid (show ∀ w,Fz H w → w.cell? ⟨b,0,none⟩ = some u from (fun w hz => (one_cj (hz _ _ hb)).1))
  have HN := hid hN
  have HA := hid hA
  have q0 := e_List_Basic b
  have q1 := e_List_Var b
  have q2 := e_List_Cell b
  have q3 := e_List_List b
  have P := hid (And.intro hu (And.intro p1 (And.intro p2 p3)))
  clear hu p1 p2 p3
  clear hN hb hA
  unfold CP
  go_enter Tryz.func128,Tryz.ntmps128
  go_wp2_with fail
  refine HN.out.mono ?_
  rintro e w1 ⟨rfl,r1,g1⟩
  have G1 := hid g1
  clear g1 HN
  have c0 := HF.out w1 r1.cs.fz
  have C1 := hid (word_any r1 P.out.2.1)
  clear r1
  unfold CP at C1
  go_wp2_with fail
  refine C1.out.mono ?_
  rintro e w2 ⟨rfl,r2,g2⟩
  have G2 := hid g2
  clear g2
  have c0 := HF.out w2 r2.cs.fz
  have C2 := hid (HA.out u a s1 s2 _ P.out.1 P.out.2.2.1 r2)
  clear r2
  unfold CP at C2
  go_wp2_with fail
  refine C2.out.mono ?_
  rintro e w3 ⟨rfl,r3,g3⟩
  have G3 := hid g3
  clear g3
  have c0 := HF.out w3 r3.cs.fz
  have C3 := hid (word_any r3 P.out.2.2.2)
  clear r3
  unfold CP at C3
  go_wp2_with fail
  refine C3.out.mono ?_
  rintro e w4 ⟨rfl,r4,g4⟩
  have G4 := hid g4
  clear g4
  have RR := hid r4
  clear r4
  go_wp2
  first | go_end0 | skip
  exact ⟨rfl,RR.out,(((G1.out.tr G2.out).tr G3.out).tr G4.out)⟩
theorem first_pair {H : Nat → Option Obj} {ca : List Nat} {σ : Sto} {d : Nat → Nat} {c : Dc} {bs : Nat} {s s' : Ds} {w : World} {v : Value} {b : Nat} {md f : Nat} {u z : Value} {a k : Et} {s1 s2 s3 s4 : Ds}
    (hN : Calls Tryz.prog 168 #[v] w fun e w' => e = .returned (.iface 291 (.pointer (some ⟨b,0,none⟩))) ∧ DW H ca σ d c bs s w' ∧ Gb (DG ca c bs) w w')
    (hb : H b = some (.cells #[u,z] 319 (0,0))) (hA : ADDC H ca σ d c bs md f) (hu : ER H ca u a) (hz : ER H ca z k) (p1 : putS [40] 0 0 s = some s1) (p2 : draftS σ md f a s1 = some s2) (p3 : putS [44,32] 0 0 s2 = some s3) (p4 : draftS σ md f k s3 = some s4) (p5 : putS [41] 0 0 s4 = some s') :
    Calls Tryz.prog 128 #[CP c.db,v] w (ADP H ca σ d c bs s' w) := by
  have HF := hid (show ∀ w,Fz H w → w.cell? ⟨b,0,none⟩ = some u ∧ w.cell? ⟨b,1,none⟩ = some z from (fun w hz => two_cells (hz _ _ hb)))
  have HN := hid hN
  have HA := hid hA
  have q0 := e_Pair_Basic b
  have q1 := e_Pair_Var b
  have q2 := e_Pair_Cell b
  have q3 := e_Pair_List b
  have q4 := e_Pair_Pair b
  have P := hid (And.intro hu (And.intro hz (And.intro p1 (And.intro p2 (And.intro p3 (And.intro p4 p5))))))
  clear hu hz p1 p2 p3 p4 p5
  clear hN hb hA
  unfold CP
  go_enter Tryz.func128,Tryz.ntmps128
  go_wp2_with fail
  refine HN.out.mono ?_
  rintro e w1 ⟨rfl,r1,g1⟩
  have G1 := hid g1
  clear g1 HN
  have c0 := (HF.out w1 r1.cs.fz).1
  have c1 := (HF.out w1 r1.cs.fz).2
  have C1 := hid (word_any r1 P.out.2.2.1)
  clear r1
  unfold CP at C1
  go_wp2_with fail
  refine C1.out.mono ?_
  rintro e w2 ⟨rfl,r2,g2⟩
  have G2 := hid g2
  clear g2
  have c0 := (HF.out w2 r2.cs.fz).1
  have c1 := (HF.out w2 r2.cs.fz).2
  have C2 := hid (HA.out u a s1 s2 _ P.out.1 P.out.2.2.2.1 r2)
  clear r2
  unfold CP at C2
  go_wp2_with fail
  refine C2.out.mono ?_
  rintro e w3 ⟨rfl,r3,g3⟩
  have G3 := hid g3
  clear g3
  have c0 := (HF.out w3 r3.cs.fz).1
  have c1 := (HF.out w3 r3.cs.fz).2
  have C3 := hid (word_any r3 P.out.2.2.2.2.1)
  clear r3
  unfold CP at C3
  go_wp2_with fail
  refine C3.out.mono ?_
  rintro e w4 ⟨rfl,r4,g4⟩
  have G4 := hid g4
  clear g4
  have c0 := (HF.out w4 r4.cs.fz).1
  have c1 := (HF.out w4 r4.cs.fz).2
  have C4 := hid (HA.out z k s3 s4 _ P.out.2.1 P.out.2.2.2.2.2.1 r4)
  clear r4
  unfold CP at C4
  go_wp2_with fail
  refine C4.out.mono ?_
  rintro e w5 ⟨rfl,r5,g5⟩
  have G5 := hid g5
  clear g5
  have c0 := (HF.out w5 r5.cs.fz).1
  have c1 := (HF.out w5 r5.cs.fz).2
  have C5 := hid (word_any r5 P.out.2.2.2.2.2.2)
  clear r5
  unfold CP at C5
  go_wp2_with fail
  refine C5.out.mono ?_
  rintro e w6 ⟨rfl,r6,g6⟩
  have G6 := hid g6
  clear g6
  have RR := hid r6
  clear r6
  go_wp2
  first | go_end0 | skip
  exact ⟨rfl,RR.out,(((((G1.out.tr G2.out).tr G3.out).tr G4.out).tr G5.out).tr G6.out)⟩
theorem first_arrow {H : Nat → Option Obj} {ca : List Nat} {σ : Sto} {d : Nat → Nat} {c : Dc} {bs : Nat} {s s' : Ds} {w : World} {v : Value} {b : Nat} {md f : Nat} {u z : Value} {a k : Et} {s1 s2 : Ds}
    (hN : Calls Tryz.prog 168 #[v] w fun e w' => e = .returned (.iface 209 (.pointer (some ⟨b,0,none⟩))) ∧ DW H ca σ d c bs s w' ∧ Gb (DG ca c bs) w w')
    (hb : H b = some (.cells #[u,z] 211 (0,0))) (hA : ADDC H ca σ d c bs md f) (hR : FRMC H ca σ d c bs md f) (hu : ER H ca u a) (hz : ER H ca z k) (p1 : fromS (draftS σ md f) σ a (some s) = some s1) (p2 : putS [32,45,62,32] 0 0 s1 = some s2) (p3 : draftS σ md f k s2 = some s') :
    Calls Tryz.prog 128 #[CP c.db,v] w (ADP H ca σ d c bs s' w) := by
  have HF := hid (show ∀ w,Fz H w → w.cell? ⟨b,0,none⟩ = some u ∧ w.cell? ⟨b,1,none⟩ = some z from (fun w hz => two_cells (hz _ _ hb)))
  have HN := hid hN
  have HA := hid hA
  have q0 := e_Arrow_Basic b
  have q1 := e_Arrow_Var b
  have q2 := e_Arrow_Cell b
  have q3 := e_Arrow_List b
  have q4 := e_Arrow_Pair b
  have q5 := e_Arrow_Arrow b
  have P := hid (And.intro hu (And.intro hz (And.intro p1 (And.intro p2 p3))))
  have HR := hid hR
  clear hu hz p1 p2 p3 hR
  clear hN hb hA
  unfold CP
  go_enter Tryz.func128,Tryz.ntmps128
  go_wp2_with fail
  refine HN.out.mono ?_
  rintro e w1 ⟨rfl,r1,g1⟩
  have G1 := hid g1
  clear g1 HN
  have c0 := (HF.out w1 r1.cs.fz).1
  have c1 := (HF.out w1 r1.cs.fz).2
  have C1 := hid (HR.out u a s s1 _ P.out.1 P.out.2.2.1 r1)
  clear r1
  unfold CP at C1
  go_wp2_with fail
  refine C1.out.mono ?_
  rintro e w2 ⟨rfl,r2,g2⟩
  have G2 := hid g2
  clear g2
  have c0 := (HF.out w2 r2.cs.fz).1
  have c1 := (HF.out w2 r2.cs.fz).2
  have C2 := hid (word_any r2 P.out.2.2.2.1)
  clear r2
  unfold CP at C2
  go_wp2_with fail
  refine C2.out.mono ?_
  rintro e w3 ⟨rfl,r3,g3⟩
  have G3 := hid g3
  clear g3
  have c0 := (HF.out w3 r3.cs.fz).1
  have c1 := (HF.out w3 r3.cs.fz).2
  have C3 := hid (HA.out z k s2 s' _ P.out.2.1 P.out.2.2.2.2 r3)
  clear r3
  unfold CP at C3
  go_wp2_with fail
  refine C3.out.mono ?_
  rintro e w4 ⟨rfl,r4,g4⟩
  have G4 := hid g4
  clear g4
  have RR := hid r4
  clear r4
  go_wp2
  first | go_end0 | skip
  exact ⟨rfl,RR.out,(((G1.out.tr G2.out).tr G3.out).tr G4.out)⟩
theorem first_any {H : Nat → Option Obj} {ca : List Nat} {σ : Sto} {d : Nat → Nat} {c : Dc} {bs md f : Nat} (hM : Md md c) (hA : ADDC H ca σ d c bs md f) (hR : FRMC H ca σ d c bs md f) : FSTC H ca σ d c bs md f := by
  intro v t s s' w hv hs h
  obtain ⟨v1,m,hr1,_,hN⟩ := now_q (σ := σ) (d := d) hv h.cs
  -- now leaves one of the kinds: each by its own walk
  have key : ∀ v1,ERep 0 H ca (m + 2) v1 (nowS σ t) → Calls Tryz.prog 168 #[v] w (fun e w' => e = .returned v1 ∧ DW H ca σ d c bs s w' ∧ Gb (DG ca c bs) w w') →
      Calls Tryz.prog 128 #[CP c.db,v] w (ADP H ca σ d c bs s' w) := by
    intro v1 hr hC
    unfold firstS at hs
    generalize nowS σ t = u at hs hr
    obtain ⟨b,hr⟩ := hr
    rcases hr with ⟨h1,h2,h3,h4⟩ | ⟨h1,h2,h3,h0,h4,h5⟩ | ⟨h1,h2,h3,h4⟩ | ⟨h1,h0,a,u1,h2,h3,h4,h5⟩ | ⟨h1,h0,a,k,u1,z,h2,h3,h4,h5,h6⟩ | ⟨h1,h0,a,k,u1,z,h2,h3,h4,h5,h6⟩
    · rw [if_neg (by rw [h1]; decide),if_pos h1] at hs
      unfold ownS at hs
      split at hs
      · rename_i hc
        obtain ⟨a,ha⟩ := Option.isSome_iff_exists.1 (hM.2 hc.1)
        subst h4
        have hl : u.num < σ.rep.length := by rw [← h.cs.len]; exact (List.getElem?_eq_some_iff.1 h3).1
        exact first_cell ha (by have := h.cs.few; omega) hc.2 hC h3 hs
      · cases hs
    · rw [if_pos h1] at hs
      unfold anyS at hs
      subst h4
      by_cases hm : md = 0
      · rw [if_pos hm] at hs
        exact first_var_id (hM.1.1 hm) hC h5 (any_id hs)
      · rw [if_neg hm] at hs
        split at hs
        · rename_i hL
          cases ha : c.any with
          | none => exact absurd (hM.1.2 ha) hm
          | some a => exact first_var_ask ha hC h5 (any_ask ha h3 hL hs)
        · cases hs
    · rw [if_neg (by rcases h1 with h1 | h1 <;> rw [h1] <;> decide),if_neg (by rcases h1 with h1 | h1 <;> rw [h1] <;> decide),h2] at hs
      subst h3
      exact first_basic hC h4 hs
    · rw [if_neg (by rw [h1]; decide),if_neg (by rw [h1]; decide),h2] at hs
      subst h3
      obtain ⟨s2,e2,p3⟩ := wordS_some hs
      obtain ⟨s1,e1,p2⟩ := goOn_some e2
      exact first_list hC h4 hA ⟨_,h5⟩ e1 p2 p3
    · rw [if_neg (by rw [h1]; decide),if_neg (by rw [h1]; decide),h2] at hs
      subst h3
      have hs' : (if u.kind = kFun then goOn (draftS σ md f) k (wordS [32,45,62,32] (fromS (draftS σ md f) σ a (some s))) else wordS [41] (goOn (draftS σ md f) k (wordS [44,32] (goOn (draftS σ md f) a (wordS [40] (some s)))))) = some s' := hs
      rw [if_neg (by rw [h1]; decide)] at hs'
      obtain ⟨s4,e4,p5⟩ := wordS_some hs'
      obtain ⟨s3,e3,p4⟩ := goOn_some e4
      obtain ⟨s2,e2,p3⟩ := wordS_some e3
      obtain ⟨s1,e1,p2⟩ := goOn_some e2
      exact first_pair hC h4 hA ⟨_,h5⟩ ⟨_,h6⟩ e1 p2 p3 p4 p5
    · rw [if_neg (by rw [h1]; decide),if_neg (by rw [h1]; decide),h2] at hs
      subst h3
      have hs' : (if u.kind = kFun then goOn (draftS σ md f) k (wordS [32,45,62,32] (fromS (draftS σ md f) σ a (some s))) else wordS [41] (goOn (draftS σ md f) k (wordS [44,32] (goOn (draftS σ md f) a (wordS [40] (some s)))))) = some s' := hs
      rw [if_pos h1] at hs'
      obtain ⟨s2,e2,p3⟩ := goOn_some hs'
      obtain ⟨s1,e1,p2⟩ := wordS_some e2
      exact first_arrow hC h4 hA hR ⟨_,h5⟩ ⟨_,h6⟩ e1 p2 p3
  refine key v1 hr1 (hN.mono ?_)
  rintro e w' ⟨rfl,q2,q3⟩
  exact ⟨rfl,h.cells q2 q3,DG.cells q3⟩
theorem kinds_ne : (kInt ≠ kFun ∧ kBool ≠ kFun ∧ oList ≠ kFun ∧ oPair ≠ kFun ∧ oCell ≠ kFun ∧ ([] : List UInt8) ≠ kFun) := by decide
theorem ERep.arrow {lo m : Nat} {H : Nat → Option Obj} {ca : List Nat} {v : Value} {t : Et} (h : ERep lo H ca m v t) : ∃ T0 b,v = .iface T0 (.pointer (some ⟨b,0,none⟩)) ∧
    ((t.kind = kFun ∧ ∀ w,(Instr.typeAssert (.iface T0 (.pointer (some ⟨b,0,none⟩))) 77 209 true).run Tryz.prog w = .ok (.tuple #[.pointer (some ⟨b,0,none⟩),.bool true]) w) ∨
     (t.kind ≠ kFun ∧ ∀ w,(Instr.typeAssert (.iface T0 (.pointer (some ⟨b,0,none⟩))) 77 209 true).run Tryz.prog w = .ok (.tuple #[.pointer none,.bool false]) w)) := by
  cases m with
  | zero => exact absurd h id
  | succ m =>
  obtain ⟨b,h⟩ := h
  obtain ⟨n1,n2,n3,n4,n5,n6⟩ := kinds_ne
  rcases h with ⟨h1,h2,h3,h4⟩ | ⟨h1,h2,h3,h0,h4,h5⟩ | ⟨h1,h2,h3,h4⟩ | ⟨h1,h0,a,u,h2,h3,h4,h5⟩ | ⟨h1,h0,a,c,u,z,h2,h3,h4,h5,h6⟩ | ⟨h1,h0,a,c,u,z,h2,h3,h4,h5,h6⟩
  · exact ⟨_,b,h4,Or.inr ⟨by rw [h1]; exact n5,fun w => e_Cell_Arrow b w⟩⟩
  · exact ⟨_,b,h4,Or.inr ⟨by rw [h1]; exact n6,fun w => e_Var_Arrow b w⟩⟩
  · exact ⟨_,b,h3,Or.inr ⟨by rcases h1 with h1 | h1 <;> rw [h1] <;> assumption,fun w => e_Basic_Arrow b w⟩⟩
  · exact ⟨_,b,h3,Or.inr ⟨by rw [h1]; exact n3,fun w => e_List_Arrow b w⟩⟩
  · exact ⟨_,b,h3,Or.inr ⟨by rw [h1]; exact n4,fun w => e_Pair_Arrow b w⟩⟩
  · exact ⟨_,b,h3,Or.inl ⟨h1,fun w => e_Arrow_Arrow b w⟩⟩
theorem from_any {H : Nat → Option Obj} {ca : List Nat} {σ : Sto} {d : Nat → Nat} {c : Dc} {bs md f : Nat} (hA : ADDC H ca σ d c bs md f) : FRMC H ca σ d c bs md f := by
  intro v t s s' w hv hs h
  obtain ⟨v1,m,hr1,_,hN⟩ := now_q (σ := σ) (d := d) hv h.cs
  obtain ⟨T0,b,rfl,hq⟩ := hr1.arrow
  have HN := hid hN
  have HD := hid h
  have HA := hid hA
  have HV := hid hv
  clear hN h hA hv hr1
  unfold fromS at hs
  unfold CP
  rcases hq with ⟨hk,hq⟩ | ⟨hk,hq⟩
  · rw [if_pos hk] at hs
    obtain ⟨s2,e2,p3⟩ := wordS_some hs
    obtain ⟨s1,e1,p2⟩ := goOn_some e2
    have P := hid (And.intro (show putS [40] 0 0 s = some s1 from e1) (And.intro p2 p3))
    clear hs e2 e1 p2 p3 hk
    go_enter Tryz.func170,Tryz.ntmps170
    go_wp2_with fail
    refine HN.out.mono ?_
    rintro e w1 ⟨rfl,r0,g0⟩
    have r1 := HD.out.cells r0 g0
    have G1 := hid (DG.cells (c := c) (bs := bs) g0)
    have C1 := hid (word_any r1 P.out.1)
    clear r0 g0 r1 HN
    unfold CP at C1
    go_wp2_with fail
    refine C1.out.mono ?_
    rintro e w2 ⟨rfl,r2,g2⟩
    have G2 := hid g2
    have C2 := hid (HA.out _ _ _ _ _ HV.out P.out.2.1 r2)
    clear r2 g2 C1
    unfold CP at C2
    go_wp2_with fail
    refine C2.out.mono ?_
    rintro e w3 ⟨rfl,r3,g3⟩
    have G3 := hid g3
    have C3 := hid (word_any r3 P.out.2.2)
    clear r3 g3 C2
    unfold CP at C3
    go_wp2_with fail
    refine C3.out.mono ?_
    rintro e w4 ⟨rfl,r4,g4⟩
    have R4 := hid (And.intro r4 g4)
    clear r4 g4 C3
    go_wp2
    first | go_end0 | skip
    exact ⟨rfl,R4.out.1,((G1.out.tr G2.out).tr G3.out).tr R4.out.2⟩
  · rw [if_neg hk] at hs
    have P := hid (show draftS σ md f t s = some s' from hs)
    clear hs hk
    go_enter Tryz.func170,Tryz.ntmps170
    go_wp2_with fail
    refine HN.out.mono ?_
    rintro e w1 ⟨rfl,r0,g0⟩
    have r1 := HD.out.cells r0 g0
    have G1 := hid (DG.cells (c := c) (bs := bs) g0)
    have C1 := hid (HA.out _ _ _ _ _ HV.out P.out r1)
    clear r0 g0 r1 HN
    unfold CP at C1
    go_wp2_with fail
    refine C1.out.mono ?_
    rintro e w2 ⟨rfl,r2,g2⟩
    have R2 := hid (And.intro r2 g2)
    clear r2 g2 C1
    go_wp2
    first | go_end0 | skip
    exact ⟨rfl,R2.out.1,G1.out.tr R2.out.2⟩
theorem DR.stand {c : Dc} {bs : Nat} {s : Ds} {w w' : World} {l : List (Nat × Nat × Nat)} (h : DR c bs s w) (hm : GM kI standA 3 w' c.mb l) (g : w.grownBy w' (some c.mb)) : DR c bs ⟨s.steps,s.out,l,s.L,s.O⟩ w' := by
  obtain ⟨sv,hb,ho⟩ := h.blk
  have hk : ∀ (k : Nat) (o : Obj),w.heap[k]? = some o → k ≠ c.mb → w'.heap[k]? = some o := fun k o e hn => (g.block k (lt_of_block e) (by simpa using hn)).trans e
  have hc : ∀ (k : Nat) (cs : Array Value) (t : TypeId) (fz : Nat × Nat),w.heap[k]? = some (Obj.cells cs t fz) → k ≠ c.mb := fun k cs t fz e => h.st.apart e
  have s1 : ∀ (k : Nat) (o : Obj),w.heap[k]? = some o → k ≠ c.mb → w'.heap[k]? = w.heap[k]? := fun k o e hn => (hk k o e hn).trans e.symm
  refine ⟨⟨sv,hk _ _ hb (hc _ _ _ _ hb),ho.1,?_⟩,h.run,h.ok,h.short,hm,fun b hb2 => ?_,fun b hb2 => ?_,h.ap,h.lo⟩
  · rcases ho.2 with q | ⟨gb,cap,cur,q1,q2,q3,q4⟩
    · exact Or.inl q
    · exact Or.inr ⟨gb,cap,cur,q1,q2,hk _ _ q3 (hc _ _ _ _ q3),q4⟩
  · obtain ⟨j,l3,l4⟩ := h.an b hb2
    obtain ⟨D,⟨es,clock,q1,q2⟩,q3⟩ := j.mp
    exact ⟨j.same (s1 _ _ j.mrk (hc _ _ _ _ j.mrk)) (s1 _ _ j.nf (hc _ _ _ _ j.nf)) (s1 _ _ j.blk (hc _ _ _ _ j.blk)) (s1 _ _ q1 l4),l3,l4⟩
  · obtain ⟨j,l3⟩ := h.ow b hb2
    obtain ⟨es,cl,e⟩ := j.mp.isMap
    exact ⟨j.same (s1 _ _ j.mrk (hc _ _ _ _ j.mrk)) (s1 _ _ j.nf (hc _ _ _ _ j.nf)) (s1 _ _ j.blk (hc _ _ _ _ j.blk)) (s1 _ _ e l3),l3⟩
theorem zero_step (w : World) : (zeroValue 225).run Tryz.prog w = .ok (.agg #[.string (B []),.int .i64 0,.int .i64 0]) w := by kernel_rfl
theorem DW.stand {H : Nat → Option Obj} {ca : List Nat} {σ : Sto} {d : Nat → Nat} {c : Dc} {bs : Nat} {s : Ds} {w w' : World} {l : List (Nat × Nat × Nat)} (h : DW H ca σ d c bs s w) (hm : GM kI standA 3 w' c.mb l) (g : w.grownBy w' (some c.mb)) : DW H ca σ d c bs ⟨s.steps,s.out,l,s.L,s.O⟩ w' ∧ Gb (DG ca c bs) w w' := by
  have g1 : Gb (fun k => bs ≤ k) w w' := Gb.of g (fun b e => by cases e; exact Or.inl h.dr.lo.2)
  exact ⟨h.put (h.dr.stand hm g) g1,DG.put g1⟩
theorem DW.alloc {H : Nat → Option Obj} {ca : List Nat} {σ : Sto} {d : Nat → Nat} {c : Dc} {bs : Nat} {s : Ds} {w : World} (h : DW H ca σ d c bs s w) (o : Obj) : DW H ca σ d c bs s (w.alloc o) :=
  ⟨h.cs.gb (R := fun _ => False) ((Gb.refl _ _).alloc o) (fun _ _ e => e) (fun _ _ _ e => e),h.dr.same fun k x e _ => by rw [Below.heap_alloc _ _ _ (lt_of_block e)]; exact e,h.lowa,h.lowH,h.off,by simp; have := h.big; omega⟩
theorem Gb.allocL {R : Nat → Prop} {w w' : World} {o : Obj} (h : Gb R (w.alloc o) w') : Gb R w w' := ((Gb.refl R w).alloc o).tr h
theorem add_other {H : Nat → Option Obj} {ca : List Nat} {σ : Sto} {d : Nat → Nat} {c : Dc} {bs : Nat} {s' : Ds} {w : World} {T0 : TypeId} {b : Nat}
    (hq : ∀ w,(Instr.typeAssert (.iface T0 (.pointer (some ⟨b,0,none⟩))) 77 173 true).run Tryz.prog w = .ok (.tuple #[.pointer none,.bool false]) w)
    (hF : Calls Tryz.prog 128 #[CP c.db,.iface T0 (.pointer (some ⟨b,0,none⟩))] w (ADP H ca σ d c bs s' w)) :
    Calls Tryz.prog 87 #[CP c.db,.iface T0 (.pointer (some ⟨b,0,none⟩))] w (ADP H ca σ d c bs s' w) := by
  have HF := hid hF
  clear hF
  unfold CP at HF ⊢
  go_enter Tryz.func87,Tryz.ntmps87
  go_wp2_with fail
  refine HF.out.mono ?_
  rintro e w1 ⟨rfl,r1,g1⟩
  have R1 := hid (And.intro r1 g1)
  clear r1 g1 HF
  go_wp2
  first | go_end0 | skip
  exact ⟨rfl,R1.out.1,R1.out.2⟩
theorem add_again {H : Nat → Option Obj} {ca : List Nat} {σ : Sto} {d : Nat → Nat} {c : Dc} {bs : Nat} {s s' : Ds} {w : World} {n b x y : Nat} (hb : ca[n]? = some b) (h : DW H ca σ d c bs s w) (hg : getL s.stands (σ.root n) = some (x,y)) (hp : putS [] x y s = some s') :
    Calls Tryz.prog 87 #[CP c.db,CI b] w (ADP H ca σ d c bs s' w) := by
  have HL := hid (last_any (d n + 1) n b w (by omega) hb h.cs)
  have q1 := e_Cell_Cell b
  have Q := hid (And.intro hb (And.intro h (And.intro hg hp)))
  clear hb h hg hp
  unfold CP at HL ⊢
  unfold CI
  go_enter Tryz.func87,Tryz.ntmps87
  go_wp2_with fail
  refine HL.out.mono ?_
  rintro e w1 ⟨b1,rfl,h1,h2,h3,_⟩
  have r1 := Q.out.2.1.cells h2 h3
  have G1 := hid (DG.cells (c := c) (bs := bs) h3)
  obtain ⟨v1,hv1,_⟩ := h2.blk _ b1 h1
  have c0 := (cell_at hv1).1
  obtain ⟨sv,hsv,_⟩ := r1.dr.blk
  have c4 := (draft_cells hsv).2.2.2.2.1
  have hfew : σ.root n ≤ 1099511627776 := by
    have := (List.getElem?_eq_some_iff.1 h1).1
    rw [h2.len] at this
    have := h2.few
    omega
  have hlk := r1.dr.st.look intLaw Tryz.underlying213 (zero_step w1) (kI_key hfew)
  rw [Q.out.2.2.1] at hlk
  simp only [Option.map_some,Option.getD_some,standA,Option.isSome_some] at hlk
  have C1 := hid (put_any (r1.alloc (.cells #[.string (B []),.int .i64 (x : Int),.int .i64 (y : Int)] 225)).dr Q.out.2.2.2 (r1.alloc (.cells #[.string (B []),.int .i64 (x : Int),.int .i64 (y : Int)] 225)).big)
  have R1 := hid r1
  clear h1 h2 h3 hv1 r1 hsv hfew HL
  unfold CP stepA at C1
  unfold CP
  go_wp2_with fail
  refine C1.out.mono ?_
  rintro e w2 ⟨rfl,r2,g2⟩
  have R2 := hid (And.intro r2 g2)
  clear r2 g2 C1
  go_wp2
  first | go_end0 | skip
  exact ⟨rfl,(R1.out.alloc _).put R2.out.1 R2.out.2,G1.out.tr (Gb.allocL (DG.put R2.out.2))⟩
theorem add_first {H : Nat → Option Obj} {ca : List Nat} {σ : Sto} {d : Nat → Nat} {c : Dc} {bs : Nat} {s s1 : Ds} {w : World} {n b : Nat} (hb : ca[n]? = some b) (h : DW H ca σ d c bs s w) (hg : getL s.stands (σ.root n) = none) (hg1 : getL s1.stands (σ.root n) = none) (hl : s1.stands.length < 100000)
    (hF : ∀ w,DW H ca σ d c bs s w → Calls Tryz.prog 128 #[CP c.db,CI b] w (ADP H ca σ d c bs s1 w)) :
    Calls Tryz.prog 87 #[CP c.db,CI b] w (ADP H ca σ d c bs ⟨s1.steps,s1.out,s1.stands ++ [(σ.root n,s.out.length,s1.out.length)],s1.L,s1.O⟩ w) := by
  have HL := hid (last_any (d n + 1) n b w (by omega) hb h.cs)
  have q1 := e_Cell_Cell b
  have Q := hid (And.intro hb (And.intro h (And.intro hg (And.intro hg1 hl))))
  have HF := hid hF
  clear hb h hg hg1 hl hF
  unfold CP at HL ⊢
  unfold CI
  go_enter Tryz.func87,Tryz.ntmps87
  go_wp2_with fail
  refine HL.out.mono ?_
  rintro e w1 ⟨b1,rfl,h1,h2,h3,_⟩
  have r1 := Q.out.2.1.cells h2 h3
  have G1 := hid (DG.cells (c := c) (bs := bs) h3)
  obtain ⟨v1,hv1,_⟩ := h2.blk _ b1 h1
  have c0 := (cell_at hv1).1
  obtain ⟨sv,hsv,_⟩ := r1.dr.blk
  have c4 := (draft_cells hsv).2.2.2.2.1
  have c3 := (draft_cells hsv).2.2.2.1
  have hdl := lt_of_block hsv
  have hfew : σ.root n ≤ 1099511627776 := by
    have := (List.getElem?_eq_some_iff.1 h1).1
    rw [h2.len] at this
    have := h2.few
    omega
  have hlk := r1.dr.st.look intLaw Tryz.underlying213 (zero_step w1) (kI_key hfew)
  rw [Q.out.2.2.1] at hlk
  simp only [Option.map_none,Option.getD_none,Option.isSome_none] at hlk
  have C1 := hid (HF.out _ (r1.alloc (.cells #[.string (B []),.int .i64 0,.int .i64 0] 225)))
  have R1 := hid (And.intro r1 hfew)
  clear h1 h2 h3 hv1 r1 hsv hfew HL
  unfold CP CI at C1
  unfold CP
  go_wp2_with fail
  refine C1.out.mono ?_
  rintro e w2 ⟨rfl,r2,g2⟩
  obtain ⟨sv2,hsv2,_⟩ := r2.dr.blk
  have x3 := (draft_cells hsv2).2.2.2.1
  have x4 := (draft_cells hsv2).2.2.2.2.1
  obtain ⟨w5,hst,hmp,hg5⟩ := GM.store r2.drew.dr.st intLaw Tryz.underlying213 kI_inj kI_lit (by have := Q.out.2.2.2.2; omega) (s.out.length,s1.out.length) (kI_key R1.out.2)
  rw [putL_new _ Q.out.2.2.2.1] at hmp
  have R2 := hid (And.intro r2 (And.intro g2 (And.intro hmp hg5)))
  unfold standA at hst
  change (Instr.mapUpdate _ _ _ (.agg #[.string ⟨#[]⟩,_,_])).run _ _ = _ at hst
  clear r2 g2 hmp hg5 hsv2 C1
  go_wp2_with fail
  go_region
  all_goals
    go_wp2
    first | go_end0 | skip
    obtain ⟨r2,g2,hmp,hg5⟩ := R2.out
    obtain ⟨a1,a2⟩ := r2.drew.stand hmp hg5
    exact ⟨rfl,a1,(G1.out.tr (Gb.allocL g2)).tr (Gb.drewL a2)⟩
theorem add_step {H : Nat → Option Obj} {ca : List Nat} {σ : Sto} {d : Nat → Nat} {c : Dc} {bs md f : Nat} (hF : FSTC H ca σ d c bs md f) : ADDC H ca σ d c bs md (f + 1) := by
  intro v t s s' w hv hs h
  have hv0 := hv
  obtain ⟨m,hv⟩ := hv
  cases m with
  | zero => exact absurd hv id
  | succ m =>
  obtain ⟨b,hv⟩ := hv
  rw [draftS] at hs
  have other : ∀ (T0 : TypeId),v = .iface T0 (.pointer (some ⟨b,0,none⟩)) → t.kind ≠ oCell → (∀ w,(Instr.typeAssert (.iface T0 (.pointer (some ⟨b,0,none⟩))) 77 173 true).run Tryz.prog w = .ok (.tuple #[.pointer none,.bool false]) w) →
      Calls Tryz.prog 87 #[CP c.db,v] w (ADP H ca σ d c bs s' w) := fun T0 e hk hq => by
    rw [if_neg hk] at hs
    subst e
    exact add_other hq (hF _ _ _ _ _ hv0 hs h)
  rcases hv with ⟨h1,h2,h3,h4⟩ | ⟨h1,h2,h3,h0,h4,h5⟩ | ⟨h1,h2,h3,h4⟩ | ⟨h1,h0,a,u,h2,h3,h4,h5⟩ | ⟨h1,h0,a,k,u,z,h2,h3,h4,h5,h6⟩ | ⟨h1,h0,a,k,u,z,h2,h3,h4,h5,h6⟩
  · rw [if_pos h1] at hs
    subst h4
    cases hg : getL s.stands (σ.root t.num) with
    | some p =>
      rw [hg] at hs
      exact add_again h3 h hg hs
    | none =>
      rw [hg] at hs
      simp only at hs
      cases e1 : firstS (draftS σ md f) σ md t s with
      | none => rw [e1] at hs; cases hs
      | some s1 =>
        rw [e1] at hs
        unfold standS at hs
        simp only at hs
        cases hg1 : getL s1.stands (σ.root t.num) with
        | some p => rw [hg1] at hs; cases hs
        | none =>
          rw [hg1] at hs
          simp only at hs
          split at hs
          · rename_i hl
            cases hs
            exact add_first h3 h hg hg1 hl (fun w' h' => hF _ _ _ _ _ hv0 e1 h')
          · cases hs
  · exact other _ h4 (by rw [h1]; decide) (fun w => e_Var_Cell b w)
  · exact other _ h3 (by rcases h1 with h1 | h1 <;> rw [h1] <;> decide) (fun w => e_Basic_Cell b w)
  · exact other _ h3 (by rw [h1]; decide) (fun w => e_List_Cell b w)
  · exact other _ h3 (by rw [h1]; decide) (fun w => e_Pair_Cell b w)
  · exact other _ h3 (by rw [h1]; decide) (fun w => e_Arrow_Cell b w)
theorem add_any {H : Nat → Option Obj} {ca : List Nat} {σ : Sto} {d : Nat → Nat} {c : Dc} {bs md : Nat} (hM : Md md c) : ∀ f,ADDC H ca σ d c bs md f
  | 0 => fun v t s s' w _ hs _ => by cases hs
  | f + 1 => add_step (first_any hM (add_any hM f) (from_any (add_any hM f)))
end Go.Proofs.YtcdijppegfcoaabGreatDoor
