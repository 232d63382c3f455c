import Derived.Test.YtcdijppegfcoaaaGreatDoorZT36
/-
  OUR OWN TEXT. Package typing: find, by kind.
-/
namespace Go.Proofs.YtcdijppegfcoaaaGreatDoor
open Go.RowKit
set_option maxRecDepth 100000 in
set_option maxHeartbeats 2000000 in
theorem find_name {C : TC} {nm : List UInt8} {dep pos : Value} {b : Nat} {σ : Sto} {nb : List (List UInt8 × Et)} {σ' : Sto} {c : Nat} {H : Nat → Option Obj} {ca : List Nat} {d : Nat → Nat} {nv : Value} {vs : List NE} {w : World}
    (hb : H b = some (.cells #[dep, .string (B nm), pos] 190 (0, 0))) (hr : nameT C.ge nm nb σ = some (σ', c)) (h : TSv C H ca σ d nb nv vs w) :
    Calls Tryz.prog 171 #[CP C.tb, .iface 186 (.pointer (some ⟨b, 0, none⟩))] w (TSP C H ca σ' c nb w) := by
  unfold nameT at hr
  split at hr
  case isFalse => cases hr
  rename_i hl
  cases i1 : lookT nb C.ge nm with
  | none => rw [i1] at hr; cases hr
  | some t =>
  rw [i1] at hr
  simp only [] at hr
  cases i2 : instS 400 t σ [] with
  | none => rw [i2] at hr; cases hr
  | some r2 =>
  obtain ⟨σ1, g1, c1⟩ := r2
  rw [i2] at hr
  cases hr
  have CS := hid (scheme_t h.drew hl i1)
  have hbw := h.ms.cs.fz _ _ hb
  have k1 := blk_c hbw 1 rfl
  have hbl := lt_of_block hbw
  have Q := hid (And.intro h i2)
  have a0 := xA_Name_Name b
  clear hb i1 i2 h hbw hl
  unfold CP at *
  go_enter Tryz.func171, Tryz.ntmps171
  go_wp2_with fail
  go_region_with (first
    | (go_at_call 204; refine CS.out.mono ?_; rintro e w1 ⟨v1, rfl, er1, gr1⟩; have CI := hid (Instance_any er1 Q.out.2 (Q.out.1.drew.grown gr1).ms); have Q1 := hid gr1; obtain ⟨T1, b1, _, rfl⟩ := er_val er1; clear gr1 er1; unfold CP at CI)
    | (go_at_call 203; refine CI.out.mono ?_; rintro e w2 ⟨H2, ca2, d2, x, rfl, ex, m2, mx, g2⟩; have Q2 := hid (show TSP C H ca σ' c nb w (.returned (CP x)) w2 from ⟨H2, ca2, d2, x, nv, vs, rfl, ex, (Q.out.1.drew.grown Q1.out).step m2 mx g2, mx.low Q1.out.size, (Gb.new Q1.out).drewL.tr ((Q.out.1.drew.grown Q1.out).gbase g2)⟩); clear ex m2 mx g2; unfold CP at *))
  all_goals go_wp2
  all_goals go_ret
  all_goals exact Q2.out

set_option maxRecDepth 100000 in
set_option maxHeartbeats 2000000 in
theorem find_fun {C : TC} {P : Ex → List (List UInt8 × Et) → Sto → Option (Sto × Nat)} (hP : PAC C P) {e : Ex} {u dep : Value} {p : List UInt8} {b m : Nat} {σ : Sto} {nb : List (List UInt8 × Et)} {σ' : Sto} {c : Nat} {H : Nat → Option Obj} {ca : List Nat} {d : Nat → Nat} {nv : Value} {vs : List NE} {w : World}
    (hb : H b = some (.cells #[dep, .string (B p), u] 196 (0, 0))) (hp : PRep m H u e) (hr : funT P p e nb σ = some (σ', c)) (h : TSv C H ca σ d nb nv vs w) :
    Calls Tryz.prog 171 #[CP C.tb, .iface 194 (.pointer (some ⟨b, 0, none⟩))] w (TSP C H ca σ' c nb w) := by
  have CF := hid (fun_t hP hb hp hr h)
  have a0 := xA_Fun_Name b
  have a1 := xA_Fun_Fun b
  clear hb hp hr h hP
  unfold CP at *
  go_enter Tryz.func171, Tryz.ntmps171
  go_wp2_with fail
  refine CF.out.mono ?_
  rintro e w9 h9
  have H9 := hid h9
  obtain ⟨_, _, _, x9, _, _, rfl, _⟩ := h9
  clear CF
  unfold CP at *
  go_wp2
  go_ret
  exact H9.out

set_option maxRecDepth 100000 in
set_option maxHeartbeats 2000000 in
theorem find_apply {C : TC} {P : Ex → List (List UInt8 × Et) → Sto → Option (Sto × Nat)} (hP : PAC C P) {e1 e2 : Ex} {u1 u2 dep : Value} {b m : Nat} {σ : Sto} {nb : List (List UInt8 × Et)} {σ' : Sto} {c : Nat} {H : Nat → Option Obj} {ca : List Nat} {d : Nat → Nat} {nv : Value} {vs : List NE} {w : World}
    (hb : H b = some (.cells #[dep, u1, u2] 213 (0, 0))) (hp1 : PRep m H u1 e1) (hp2 : PRep m H u2 e2) (hr : applyT P e1 e2 nb σ = some (σ', c)) (h : TSv C H ca σ d nb nv vs w) :
    Calls Tryz.prog 171 #[CP C.tb, .iface 211 (.pointer (some ⟨b, 0, none⟩))] w (TSP C H ca σ' c nb w) := by
  have CF := hid (apply_t hP hb hp1 hp2 hr h)
  have a0 := xA_Apply_Name b
  have a1 := xA_Apply_Fun b
  have a2 := xA_Apply_If b
  have a3 := xA_Apply_Let b
  have a4 := xA_Apply_LetRec b
  have a5 := xA_Apply_Apply b
  clear hb hp1 hp2 hr h hP
  unfold CP at *
  go_enter Tryz.func171, Tryz.ntmps171
  go_wp2_with fail
  refine CF.out.mono ?_
  rintro e w9 h9
  have H9 := hid h9
  obtain ⟨_, _, _, x9, _, _, rfl, _⟩ := h9
  clear CF
  unfold CP at *
  go_wp2
  go_ret
  exact H9.out

set_option maxRecDepth 100000 in
set_option maxHeartbeats 2000000 in
theorem find_pair {C : TC} {P : Ex → List (List UInt8 × Et) → Sto → Option (Sto × Nat)} (hP : PAC C P) {e1 e2 : Ex} {u1 u2 dep : Value} {b m : Nat} {σ : Sto} {nb : List (List UInt8 × Et)} {σ' : Sto} {c : Nat} {H : Nat → Option Obj} {ca : List Nat} {d : Nat → Nat} {nv : Value} {vs : List NE} {w : World}
    (hb : H b = some (.cells #[dep, u1, u2] 216 (0, 0))) (hp1 : PRep m H u1 e1) (hp2 : PRep m H u2 e2) (hr : pairT P e1 e2 nb σ = some (σ', c)) (h : TSv C H ca σ d nb nv vs w) :
    Calls Tryz.prog 171 #[CP C.tb, .iface 214 (.pointer (some ⟨b, 0, none⟩))] w (TSP C H ca σ' c nb w) := by
  unfold pairT at hr
  cases i1 : P e1 nb σ with
  | none => rw [i1] at hr; cases hr
  | some r1 =>
  obtain ⟨σ1, c1⟩ := r1
  rw [i1] at hr
  simp only [] at hr
  cases i2 : P e2 nb σ1 with
  | none => rw [i2] at hr; cases hr
  | some r2 =>
  obtain ⟨σ2, c2⟩ := r2
  rw [i2] at hr
  simp only [] at hr
  obtain ⟨T1, b1, rfl⟩ := hp1.val
  obtain ⟨T2, b2, rfl⟩ := hp2.val
  have CA := hid (hP e1 _ m σ nb σ1 c1 H ca d nv vs w hp1 i1 h)
  have hbw := h.ms.cs.fz _ _ hb
  have k1 := blk_c hbw 1 rfl
  have Q := hid (And.intro hb (And.intro hp2 (And.intro i2 (And.intro hr hP))))
  have a0 := xA_Pair_Name b
  have a1 := xA_Pair_Fun b
  have a2 := xA_Pair_If b
  have a3 := xA_Pair_Let b
  have a4 := xA_Pair_LetRec b
  have a5 := xA_Pair_Apply b
  have a6 := xA_Pair_Pair b
  clear hP hb hp1 hp2 i1 i2 hr h hbw
  unfold CP at *
  go_enter Tryz.func171, Tryz.ntmps171
  go_wp2_with fail
  refine CA.out.mono ?_
  rintro e w1 ⟨H1, ca1, d1, x1, nv1, vs1, rfl, ex1, t1, mx1, g1⟩
  have hb1 := mx1.ext _ _ Q.out.1
  have hbw1 := t1.ms.cs.fz _ _ hb1
  have k2 := blk_c hbw1 2 rfl
  have hbl1 := lt_of_block hbw1
  have CB := hid (Q.out.2.2.2.2 e2 _ m σ1 nb σ2 c2 H1 ca1 d1 nv1 vs1 w1.drew (mx1.prep Q.out.2.1) Q.out.2.2.1 t1.drew)
  have Q1 := hid (And.intro ex1 (And.intro mx1 g1))
  clear ex1 t1 mx1 g1 CA hb1 hbw1
  unfold CP at *
  go_wp2_with fail
  go_region_with (first
    | (go_at_call 128; refine CB.out.mono ?_; rintro e w2 ⟨H2, ca2, d2, x2, nv2, vs2, rfl, ex2, t2, mx2, g2⟩; have CM := hid ((t2.made (cs := #[CI x1, CI x2]) (T := 384) (or_pair (get_pre mx2.pre Q1.out.1) ex2 onto1_at) Q.out.2.2.2.1).mono fun e w9 h9 => TSP.low (H := H) (ca := ca) (w := w) h9 (Q1.out.2.1.trans mx2 Q1.out.2.2.size) (Q1.out.2.2.tr g2.drewL)); clear ex2 t2 mx2 g2; unfold CI CP at *)
    | (go_at_call 211; refine CM.out.mono ?_; rintro e w9 h9; have H9 := hid h9; obtain ⟨_, _, _, x9, _, _, rfl, _⟩ := h9; unfold CP at *))
  all_goals go_wp2
  all_goals go_ret
  all_goals exact H9.out

set_option maxRecDepth 100000 in
set_option maxHeartbeats 2000000 in
theorem find_int {C : TC} {b : Nat} {σ : Sto} {nb : List (List UInt8 × Et)} {σ' : Sto} {c : Nat} {H : Nat → Option Obj} {ca : List Nat} {d : Nat → Nat} {nv : Value} {vs : List NE} {w : World}
    (hr : ofT (some ⟨kInt, [], 0, []⟩) σ = some (σ', c)) (h : TSv C H ca σ d nb nv vs w) :
    Calls Tryz.prog 171 #[CP C.tb, .iface 191 (.pointer (some ⟨b, 0, none⟩))] w (TSP C H ca σ' c nb w) := by
  have a1 := nA_Name b
  have a2 := nA_Fun b
  have a3 := nA_If b
  have a4 := nA_Let b
  have a5 := nA_LetRec b
  have a6 := nA_Apply b
  have a7 := nA_Pair b
  have CM := hid (h.made (cs := #[.string (B kInt)]) (T := 348) (or_int onto1_at) hr)
  clear hr h
  unfold CP kInt at *
  go_enter Tryz.func171, Tryz.ntmps171
  go_wp2_with fail
  refine CM.out.mono ?_
  rintro e w9 h9
  have H9 := hid h9
  obtain ⟨_, _, _, x9, _, _, rfl, _⟩ := h9
  clear CM
  unfold CP at *
  go_wp2
  go_ret
  exact H9.out
end Go.Proofs.YtcdijppegfcoaaaGreatDoor

/-
  OUR OWN TEXT. Package typing: part, whole.
-/
namespace Go.Proofs.YtcdijppegfcoaaaGreatDoor
open Go.RowKit
theorem kids1 {m : Nat} {H : Nat → Option Obj} {e : Ex} {u : Value} (hl : e.kids.length = 1) (hk : ∀ (i : Nat) (y : Ex) (v : Value), [u][i]? = some v → e.kids[i]? = some y → PRep m H v y) : ∃ y, e.kids = [y] ∧ PRep m H u y := by
  match he : e.kids, hl with
  | [y], _ => exact ⟨y, rfl, hk 0 y u rfl (by rw [he]; rfl)⟩
theorem kids2' {m : Nat} {H : Nat → Option Obj} {e : Ex} {u v : Value} (hl : e.kids.length = 2) (hk : ∀ (i : Nat) (y : Ex) (x : Value), [u, v][i]? = some x → e.kids[i]? = some y → PRep m H x y) : ∃ y z, e.kids = [y, z] ∧ PRep m H u y ∧ PRep m H v z := by
  match he : e.kids, hl with
  | [y, z], _ => exact ⟨y, z, rfl, hk 0 y u rfl (by rw [he]; rfl), hk 1 z v rfl (by rw [he]; rfl)⟩
theorem fic_any {C : TC} {P : Ex → List (List UInt8 × Et) → Sto → Option (Sto × Nat)} (hP : PAC C P) (e : Ex) : FIC C (fun e nb σ => findT P C.ge e nb σ) e := by
  intro v m σ nb σ' c H ca d nv vs w hp hr h
  simp only [] at hr
  cases m with
  | zero => exact absurd hp id
  | succ m =>
  obtain ⟨b, us, rfl, hn, hl, hk⟩ := hp
  unfold findT at hr
  rcases hn with ⟨h0, t, h1, h2, h3, h4⟩ | ⟨h0, t, h1, h2, h3, h4⟩ | ⟨h0, t, u, h1, h2, rfl, h4⟩ | ⟨h0, u, v, y, h1, h2, h4⟩ | ⟨h0, t, u, v, h1, h2, h3, h4⟩ | ⟨h0, us, u, gv, h1, h2, h3, h4, h5, h6⟩ | ⟨h0, u, v, h1, rfl, h4⟩ | ⟨h0, u, v, h1, rfl, h4⟩
  · rw [if_pos h0, h1] at hr
    rw [h0]
    exact find_name h4 hr h
  · rw [h0, if_neg (by decide), if_neg (by decide), if_neg (by decide), if_neg (by decide), if_pos rfl] at hr
    rw [h0]
    exact find_int hr h
  · obtain ⟨y, hy, hp⟩ := kids1 h2 hk
    rw [h0, if_neg (by decide), if_pos rfl, h1, hy] at hr
    rw [h0]
    exact find_fun hP h4 hp hr h
  · rw [h0, if_neg (by decide), if_neg (by decide), if_neg (by decide), if_neg (by decide), if_neg (by decide)] at hr
    cases hr
  · rw [h0, if_neg (by decide), if_neg (by decide), if_neg (by decide), if_neg (by decide), if_neg (by decide)] at hr
    cases hr
  · rw [h0, if_neg (by decide), if_neg (by decide), if_neg (by decide), if_neg (by decide), if_neg (by decide)] at hr
    cases hr
  · obtain ⟨y, z, hy, hp1, hp2⟩ := kids2' h1 hk
    rw [h0, if_neg (by decide), if_neg (by decide), if_pos rfl, hy] at hr
    rw [h0]
    exact find_apply hP h4 hp1 hp2 hr h
  · obtain ⟨y, z, hy, hp1, hp2⟩ := kids2' h1 hk
    rw [h0, if_neg (by decide), if_neg (by decide), if_neg (by decide), if_pos rfl, hy] at hr
    rw [h0]
    exact find_pair hP h4 hp1 hp2 hr h
theorem part_any {C : TC} : ∀ f, PAC C (partT C.ge f)
  | 0 => fun _ _ _ _ _ _ _ _ _ _ _ _ _ _ hr _ => by cases hr
  | f + 1 => part_t (fun e => fic_any (part_any f) e)
end Go.Proofs.YtcdijppegfcoaaaGreatDoor

/-
  OUR OWN TEXT. Package typing: General, typing.Of.
-/
namespace Go.Proofs.YtcdijppegfcoaaaGreatDoor
open Go.RowKit
/-- No cell stands in it. -/
def ncB : Nat → Et → Bool
  | 0, _ => false
  | f + 1, t => decide (t.kind ≠ oCell) && t.kids.all (ncB f)
theorem er_nc {H : Nat → Option Obj} {ca : List Nat} : ∀ (f m : Nat) (v : Value) (t : Et), ncB f t = true → ERep 0 H ca m v t → ERep 0 H [] m v t
  | 0, _, _, _, h, _ => by cases h
  | f + 1, 0, _, _, _, h => absurd h id
  | f + 1, m + 1, v, t, hn, h => by
    simp only [ncB, Bool.and_eq_true, decide_eq_true_eq, List.all_eq_true] at hn
    obtain ⟨h0, hk⟩ := hn
    obtain ⟨b, h⟩ := h
    refine ⟨b, ?_⟩
    rcases h with ⟨h1, _⟩ | h | h | ⟨h1, hlo, a, u, h2, h3, h4, h5⟩ | ⟨h1, hlo, a, a2, u, z, h2, h3, h4, h5, h6⟩ | ⟨h1, hlo, a, a2, u, z, h2, h3, h4, h5, h6⟩
    · exact absurd h1 h0
    · exact Or.inr (Or.inl h)
    · exact Or.inr (Or.inr (Or.inl h))
    · exact Or.inr (Or.inr (Or.inr (Or.inl ⟨h1, hlo, a, u, h2, h3, h4, er_nc f m u a (hk a (by rw [h2]; simp)) h5⟩)))
    · exact Or.inr (Or.inr (Or.inr (Or.inr (Or.inl ⟨h1, hlo, a, a2, u, z, h2, h3, h4, er_nc f m u a (hk a (by rw [h2]; simp)) h5, er_nc f m z a2 (hk a2 (by rw [h2]; simp)) h6⟩))))
    · exact Or.inr (Or.inr (Or.inr (Or.inr (Or.inr ⟨h1, hlo, a, a2, u, z, h2, h3, h4, er_nc f m u a (hk a (by rw [h2]; simp)) h5, er_nc f m z a2 (hk a2 (by rw [h2]; simp)) h6⟩))))

set_option maxRecDepth 100000 in
set_option maxHeartbeats 1000000 in
theorem General_t {H : Nat → Option Obj} {ca : List Nat} {σ : Sto} {d : Nat → Nat} {L : List Nat} {f c x : Nat} {t : Et} {bv : Value} {w : World} (ex : ca[c]? = some x) (hg : generalT σ L f c = some t) (hc : CSd H ca σ d w) (hb : ButAt ca L bv w) :
    Calls Tryz.prog 127 #[CP x, bv] w fun e w' => Gb (InAs ca) w w' ∧ CSd H ca σ d w' ∧ ∃ v H', e = .returned (.agg #[v]) ∧ Fz H' w' ∧ (∀ k o, H k = some o → H' k = some o) ∧ (∀ k o, H' k = some o → H k = some o ∨ w.heap.size ≤ k) ∧ ER H' ca v t := by
  have g1 : w.grownBy (w.alloc (.cells #[.nilIface] 174)) none := World.grownBy_alloc _ _ _
  have CG := hid (general_any f c x t (w.alloc (.cells #[.nilIface] 174)) bv ex hg (hc.grown0 g1) (hb.gb (Gb.new g1)))
  have hz0 := hc.fz.none (Nat.le_refl w.heap.size)
  have hza : ¬ InAs ca w.heap.size := fun hm => by have := InAs.lt hc hm; omega
  have hbv : bv = .map none ∨ ∃ mb, bv = .map (some mb) := by
    rcases hb with ⟨h, _⟩ | ⟨mb, h, _⟩
    · exact Or.inl h
    · exact Or.inr ⟨mb, h⟩
  clear ex hg hc hb
  unfold CI CP at *
  rcases hbv with rfl | ⟨mb, rfl⟩
  all_goals
    go_enter Tryz.func127, Tryz.ntmps127
    go_wp2_with fail
    refine CG.out.mono ?_
    rintro e w' ⟨g, cs, v, H', rfl, z, x1, x2, er⟩
    have n0 : w'.heap[w.heap.size]? = some (.cells #[.nilIface] 174 (0, 0)) := g.at (heap_alloc_new _ _) hza
    have hz1 : H' w.heap.size = none := by
      cases h9 : H' w.heap.size with
      | none => rfl
      | some o =>
        rcases x2 _ o h9 with h | h
        · rw [hz0] at h; cases h
        · simp at h; omega
    obtain ⟨T0, b0, _, rfl⟩ := er_val er
    have c0 : w'.cell? ⟨w.heap.size, 0, none⟩ = some .nilIface := blk_c n0 0 rfl
    have f0 : w'.frozen? ⟨w.heap.size, 0, none⟩ = false := blk_f n0 0
    have c1 : (w'.setCell ⟨w.heap.size, 0, none⟩ (.iface T0 (.pointer (some ⟨b0, 0, none⟩)))).cell? ⟨w.heap.size, 0, none⟩ = some (.iface T0 (.pointer (some ⟨b0, 0, none⟩))) := blk_c (put_c n0 _) 0 rfl
    have z2 : Fz H' (w'.setCell ⟨w.heap.size, 0, none⟩ (.iface T0 (.pointer (some ⟨b0, 0, none⟩)))) := fun k o e => by
      rw [Below.heap_setCell _ _ _ _ (show k ≠ w.heap.size from fun e2 => by rw [e2, hz1] at e; cases e)]; exact z k o e
    have Q := hid (And.intro (show Gb (InAs ca) w (w'.setCell ⟨w.heap.size, 0, none⟩ (.iface T0 (.pointer (some ⟨b0, 0, none⟩)))) from ((Gb.new g1).tr g).set (b := w.heap.size) (Or.inr (Nat.le_refl _)) 0 _) (And.intro (csd_setNew cs hza hz0 0 (.iface T0 (.pointer (some ⟨b0, 0, none⟩)))) (And.intro z2 (And.intro x1 (And.intro x2 er)))))
    clear g cs z x1 x2 er n0 z2 CG
    go_wp2
    refine bodyPost_ret (v := .agg #[.iface T0 (.pointer (some ⟨b0, 0, none⟩))]) (by simp [results, Tryz.results127, go_sem, c1]) rfl ?_
    obtain ⟨q1, q2, q3, q4, q5, q6⟩ := Q.out
    exact ⟨q1, q2, _, H', rfl, q3, q4, fun k o e => (q5 k o e).imp id (fun e => by simp at e; omega), q6⟩

/-- The start of a typing. -/
theorem TSv.start {H : Nat → Option Obj} {w : World} {fuel : Int} {each : Value} {mb : Nat} {ge : List (List UInt8 × Et)} (hz : Fz H w) (hge : GE H [] w mb ge) :
    TSv ⟨w.heap.size, .int .i64 fuel, each, mb, w.heap.size, ge⟩ H [] ⟨[], []⟩ (fun _ => 0) [] (.slice none 0 0) [] (w.alloc (.cells #[.int .i64 0, .int .i64 fuel, each, .map (some mb), .slice none 0 0] 263)) := by
  have g : w.grownBy (w.alloc (.cells #[.int .i64 0, .int .i64 fuel, each, .map (some mb), .slice none 0 0] 263)) none := World.grownBy_alloc _ _ _
  have hlt : mb < w.heap.size := by
    obtain ⟨gv, h1, _⟩ := hge
    exact h1.lt
  refine ⟨⟨CSd.nil (hz.alloc _), ?_, hz.none (Nat.le_refl _), by simp⟩, ⟨rfl, World.ownsRow_nil _ _ _ _, (fun i p q e _ => by cases e), (fun k hk => by cases hk), Nat.zero_le _⟩, hge.step (R := fun _ => False) (MX.refl _ _ w) (Gb.new g) id, hlt, Nat.le_refl _, fun a ha => by cases ha⟩
  unfold TB TC.r
  exact heap_alloc_new _ _

set_option maxRecDepth 100000 in
set_option maxHeartbeats 4000000 in
theorem of_t {H : Nat → Option Obj} {e : Ex} {v : Value} {m mb f : Nat} {fuel : Int} {ge : List (List UInt8 × Et)} {σ : Sto} {c : Nat} {t : Et} {w : World} (hp : PRep m H v e) (hz : Fz H w) (hge : GE H [] w mb ge) (hr : partT ge f e [] ⟨[], []⟩ = some (σ, c)) (hg : generalT σ [] f c = some t) (hn : ncB f t = true) :
    Calls Tryz.prog 93 #[v, .map (some mb), .agg #[.int .i64 fuel, .nilFunc]] w fun e w' => w.grownBy w' none ∧ ∃ u H', e = .returned (.tuple #[.agg #[u], .nilIface]) ∧ ER H' [] u t ∧ Fz H' w' := by
  have hmf : ∀ (fn : Fn) (first cap : Array Value) (w : World), (Instr.makeFunc fn first cap).run Tryz.prog w = .ok (.func fn first cap) w := fun _ _ _ _ => rfl
  obtain ⟨T0, b0, rfl⟩ := hp.val
  have Q := hid (And.intro hp (And.intro hz (And.intro hge (And.intro hr (And.intro hg hn)))))
  clear hp hz hge hr hg hn
  go_enter_defers Tryz.func93, Tryz.ntmps93
  go_wp2_with fail
  generalize hW : (((w.alloc (.cells #[.int .i64 fuel, .nilFunc] 178)).alloc (.cells #[.nilIface] 174)).alloc (.cells #[.nilIface] 72)) = W3
  have s3 : W3.heap.size = w.heap.size + 1 + 1 + 1 := by rw [← hW]; simp
  have g3 : w.grownBy W3 none := by rw [← hW]; exact (World.grownBy_alloc _ _ _).trans ((World.grownBy_alloc _ _ _).trans (World.grownBy_alloc _ _ _))
  have n1 : W3.heap[w.heap.size + 1]? = some (.cells #[.nilIface] 174 (0, 0)) := by
    rw [← hW, Below.heap_alloc _ _ _ (by simp)]
    exact heap_alloc_at _ _ _ (by simp)
  have n2 : W3.heap[w.heap.size + 1 + 1]? = some (.cells #[.nilIface] 72 (0, 0)) := by
    rw [← hW]
    exact heap_alloc_at _ _ _ (by simp)
  clear hW
  rw [← s3]
  have z3 : Fz H W3 := Q.out.2.1.grown g3
  have t0 := TSv.start (fuel := fuel) (each := .nilFunc) z3 (Q.out.2.2.1.step (R := fun _ => False) (MX.refl _ _ w) (Gb.new g3) id)
  have HP := hid (part_any (C := ⟨W3.heap.size, .int .i64 fuel, .nilFunc, mb, W3.heap.size, ge⟩) f e _ m ⟨[], []⟩ [] σ c H [] (fun _ => 0) _ _ _ Q.out.1 Q.out.2.2.2.1 t0)
  clear t0
  unfold CP at HP
  refine HP.out.mono ?_
  rintro e w4 ⟨H4, ca4, d4, x4, nv4, vs4, rfl, ex4, t4, mx4, g4⟩
  have gA : w.grownBy w4 none := ⟨g4.os.trans g3.os, g4.tape.trans g3.tape, g4.output.trans g3.output, by have := g4.size; simp at this; omega, fun k hk _ => by
    rw [g4.block k (by simp; omega) (by simp; omega), Below.heap_alloc _ _ _ (by omega), g3.block k hk (by simp)]⟩
  have m1 : w4.heap[w.heap.size + 1]? = some (.cells #[.nilIface] 174 (0, 0)) := by
    rw [g4.block _ (by simp; omega) (by simp; omega), Below.heap_alloc _ _ _ (by omega)]; exact n1
  have m2 : w4.heap[w.heap.size + 1 + 1]? = some (.cells #[.nilIface] 72 (0, 0)) := by
    rw [g4.block _ (by simp; omega) (by simp; omega), Below.heap_alloc _ _ _ (by omega)]; exact n2
  have hlow : ∀ k, k < W3.heap.size → H k = none → H4 k = none := fun k hk h => mx4.none (by simp; omega) h
  have hHz : H (w.heap.size + 1) = none ∧ H (w.heap.size + 1 + 1) = none := ⟨Q.out.2.1.none (by omega), Q.out.2.1.none (by omega)⟩
  have h41 := hlow _ (by omega) hHz.1
  have h42 := hlow _ (by omega) hHz.2
  have hlo4 : ∀ k, InAs ca4 k → W3.heap.size ≤ k := t4.clo
  have HG := hid (General_t (bv := .map none) ex4 Q.out.2.2.2.2.1 t4.ms.cs (Or.inl ⟨rfl, rfl⟩))
  have Q4 := hid (And.intro gA (And.intro m1 (And.intro m2 (And.intro h41 (And.intro h42 hlo4)))))
  have hs4 := gA.size
  have hs5 := t4.bs
  clear ex4 t4 mx4 g4 gA m1 m2 HP n1 n2 g3 z3 hlow hHz h41 h42 hlo4
  unfold CP at *
  go_wp2_with fail
  refine HG.out.mono ?_
  rintro e w5 ⟨g5, _, u, H5, rfl, z5, x5, y5, er5⟩
  have hb5 : ∀ k, k < W3.heap.size → ¬ InAs ca4 k := fun k hk hm => by have := Q4.out.2.2.2.2.2 k hm; omega
  have m1 : w5.heap[w.heap.size + 1]? = some (.cells #[.nilIface] 174 (0, 0)) := g5.at Q4.out.2.1 (hb5 _ (by omega))
  have m2 : w5.heap[w.heap.size + 1 + 1]? = some (.cells #[.nilIface] 72 (0, 0)) := g5.at Q4.out.2.2.1 (hb5 _ (by omega))
  have gB : w.grownBy w5 none := ⟨g5.os.trans Q4.out.1.os, g5.tape.trans Q4.out.1.tape, g5.output.trans Q4.out.1.output, by have := g5.size; omega, fun k hk _ => by
    rw [g5.block k (by omega) (hb5 k (by omega)), Q4.out.1.block k hk (by simp)]⟩
  have hn5 : ∀ k, k < w4.heap.size → H4 k = none → H5 k = none := fun k hk h => by
    cases h9 : H5 k with
    | none => rfl
    | some o =>
      rcases y5 _ o h9 with h1 | h1
      · rw [h] at h1; cases h1
      · omega
  have q51 := hn5 _ (lt_of_block Q4.out.2.1) Q4.out.2.2.2.1
  have q52 := hn5 _ (lt_of_block Q4.out.2.2.1) Q4.out.2.2.2.2.1
  obtain ⟨T1, b1, _, rfl⟩ := er_val er5
  obtain ⟨m5, er5⟩ := er5
  have er6 : ER H5 [] (.iface T1 (.pointer (some ⟨b1, 0, none⟩))) t := ⟨m5, er_nc f m5 _ t Q.out.2.2.2.2.2 er5⟩
  have a0 : w5.cell? ⟨w.heap.size + 1, 0, none⟩ = some .nilIface := blk_c m1 0 rfl
  have a1 : w5.cell? ⟨w.heap.size + 1 + 1, 0, none⟩ = some .nilIface := blk_c m2 0 rfl
  have u0 : w5.frozen? ⟨w.heap.size + 1, 0, none⟩ = false := blk_f m1 0
  have u1 : w5.frozen? ⟨w.heap.size + 1 + 1, 0, none⟩ = false := blk_f m2 0
  have M := hid (And.intro gB (And.intro m1 (And.intro m2 (And.intro z5 (And.intro er6 (And.intro q51 q52))))))
  clear g5 z5 x5 y5 er5 er6 m1 m2 gB hb5 hn5 q51 q52 HG Q4
  go_wp2
  refine leaves_cons (f := 126) (args := #[.pointer (some ⟨w.heap.size + 1 + 1, 0, none⟩)]) (by simp) (by simp [go_sem]) ?_
  refine (idle_of ⟨w.heap.size + 1 + 1, 0, none⟩ _).mono ?_
  rintro e u' w'' ⟨rfl, rfl, hw''⟩
  obtain ⟨g, m1, m2, z5, er6, q51, q52⟩ := M.out
  have q1 : w''.heap[w.heap.size + 1]? = some (.cells #[.iface T1 (.pointer (some ⟨b1, 0, none⟩))] 174 (0, 0)) := by
    rw [hw'', Below.heap_setCell _ _ _ _ (by show w.heap.size + 1 ≠ w.heap.size + 1 + 1; omega)]
    exact put_c m1 _
  have q2 : w''.heap[w.heap.size + 1 + 1]? = some (.cells #[.nilIface] 72 (0, 0)) := by
    rw [hw'']
    exact put_c (by rw [Below.heap_setCell _ _ _ _ (by show w.heap.size + 1 + 1 ≠ w.heap.size + 1; omega)]; exact m2) _
  have q3 : Fz H5 w'' := fun k o e => by
    rw [hw'', Below.heap_setCell _ _ _ _ (show k ≠ w.heap.size + 1 + 1 from fun e2 => by rw [e2, q52] at e; cases e), Below.heap_setCell _ _ _ _ (show k ≠ w.heap.size + 1 from fun e2 => by rw [e2, q51] at e; cases e)]
    exact z5 k o e
  have r1 := blk_c q1 0 rfl
  have r2 := blk_c q2 0 rfl
  refine ⟨.tuple #[.agg #[.iface T1 (.pointer (some ⟨b1, 0, none⟩))], .nilIface], ?_, ?_, _, H5, rfl, er6, q3⟩
  · simp [results, Tryz.results93, go_sem, r1, r2]
  · rw [hw'']
    exact gset (gset g (by omega) 0 _) (by omega) 0 _
end Go.Proofs.YtcdijppegfcoaaaGreatDoor

/-
  OUR OWN TEXT. expr.Unbound: the names that stand for something: slices.Contains, and, the closures.
-/
namespace Go.Proofs.YtcdijppegfcoaaaGreatDoor
open Go.RowKit
set_option maxRecDepth 100000 in
set_option maxHeartbeats 1000000 in
theorem index_s (w : World) (gn cp : Nat) (l : List (List UInt8)) (n : List UInt8) (hl : l.length ≤ 1000000) (hrow : ∀ (j : Nat) (x : List UInt8), l[j]? = some x → w.cell? ⟨gn, j, none⟩ = some (.string (B x))) :
    Calls Tryz.prog 231 #[.slice (some ⟨gn, 0, none⟩) l.length cp, .string (B n)] w fun e w' => w' = w ∧ ∃ r : Int, e = .returned (.int .i64 r) ∧ decide (0 ≤ r) = decide (n ∈ l) := by
  have HROW := hid hrow
  clear hrow
  go_enter Tryz.func231, Tryz.ntmps231
  go_wp2_with fail
  go_loopg [8] (l.length + 1) (fun gh i wi => ∃ j : Nat, j ≤ l.length ∧ i = .int .i64 j ∧ gh = l.length - j + 1 ∧ wi = w ∧ Hid (n ∉ l.take j))
  case atStart => exact ⟨0, by omega, rfl, by omega, rfl, hid (by simp)⟩
  case round =>
    obtain ⟨j, hj, rfl, hgj, rfl, HN⟩ := hrel
    by_cases hjl : j < l.length
    · obtain ⟨x, hx⟩ : ∃ x, l[j]? = some x := ⟨l[j], List.getElem?_eq_getElem hjl⟩
      have hcell := HROW.out j x hx
      have HX := hid hx
      clear hx
      by_cases hA : x = n
      · subst hA
        have h1 : ((B x).toList == (B x).toList) = true := beq_self_eq_true _
        go_wp2
        go_ret
        exact ⟨rfl, _, rfl, by rw [decide_eq_true (List.mem_of_getElem? HX.out), decide_eq_true (by omega)]⟩
      · have h1 : ((B n).toList == (B x).toList) = false := by rw [toList_B, toList_B]; exact beq_eq_false_iff_ne.2 (Ne.symm hA)
        have HN2 := hid (show n ∉ l.take (j + 1) from fun hm => by
          rw [List.take_add_one, HX.out] at hm
          rcases List.mem_append.1 hm with hm | hm
          · exact HN.out hm
          · simp at hm; exact hA hm.symm)
        clear hA
        go_wp2
        go_roundg (l.length - (j + 1) + 1)
        case measure => omega
        case rel => exact ⟨j + 1, by omega, by go_num, rfl, rfl, HN2⟩
    · have hje : j = l.length := by omega
      subst hje
      have HN2 := hid (show n ∉ l by have := HN.out; rwa [List.take_length] at this)
      clear HN
      go_wp2
      go_ret
      exact ⟨rfl, _, rfl, by rw [decide_eq_false HN2.out]; rfl⟩
set_option maxRecDepth 100000 in
theorem contains_s (w : World) (gn cp : Nat) (l : List (List UInt8)) (n : List UInt8) (hl : l.length ≤ 1000000) (hrow : ∀ (j : Nat) (x : List UInt8), l[j]? = some x → w.cell? ⟨gn, j, none⟩ = some (.string (B x))) :
    Calls Tryz.prog 200 #[.slice (some ⟨gn, 0, none⟩) l.length cp, .string (B n)] w fun e w' => w' = w ∧ e = .returned (.bool (decide (n ∈ l))) := by
  have CI := hid (index_s w gn cp l n hl hrow)
  clear hrow
  go_enter Tryz.func200, Tryz.ntmps200
  go_wp2_with fail
  refine CI.out.mono ?_
  rintro e w' ⟨rfl, r, rfl, hr⟩
  have HR := hid hr
  clear hr CI
  go_wp2
  go_ret
  exact ⟨rfl, by rw [HR.out]; rfl⟩

/-- The env's schemes, both ways. -/
def GE2 (H : Nat → Option Obj) (w : World) (mb : Nat) (ge : List (List UInt8 × Et)) : Prop :=
  ∃ gv : List (List UInt8 × Value), GM kS (fun v => .agg #[v]) 9 w mb gv ∧ ∀ nm, (getL gv nm = none ∧ getL ge nm = none) ∨ ∃ v t, getL gv nm = some v ∧ getL ge nm = some t ∧ ER H [] v t
theorem GE2.ge {H : Nat → Option Obj} {w : World} {mb : Nat} {ge : List (List UInt8 × Et)} (h : GE2 H w mb ge) : GE H [] w mb ge := by
  obtain ⟨gv, h1, h2⟩ := h
  refine ⟨gv, h1, fun nm t e => ?_⟩
  rcases h2 nm with ⟨_, h3⟩ | ⟨v, t', h3, h4, h5⟩
  · rw [h3] at e; cases e
  · rw [h4] at e; cases e; exact ⟨v, h3, h5⟩
theorem GE2.grown {H : Nat → Option Obj} {w w' : World} {mb : Nat} {ge : List (List UInt8 × Et)} (h : GE2 H w mb ge) (g : w.grownBy w' none) : GE2 H w' mb ge := by
  obtain ⟨gv, h1, h2⟩ := h
  exact ⟨gv, h1.gb (R := fun _ => False) (Gb.new g) id, h2⟩
/-- A closure that tells whether a name stands for something. -/
def KF (mb : Nat) (w : World) : List (List (List UInt8)) → Value → Prop
  | [], v => ∃ b, v = .func (.func 125) #[] #[.pointer (some ⟨b, 0, none⟩)] ∧ w.heap[b]? = some (.cells #[.map (some mb)] 169 (0, 0))
  | ns :: l, v => ∃ bn bk g cap u cs, v = .func (.func 199) #[] #[.pointer (some ⟨bn, 0, none⟩), .pointer (some ⟨bk, 0, none⟩)] ∧ w.heap[bn]? = some (.cells #[.slice (some ⟨g, 0, none⟩) ns.length cap] 34 (0, 0)) ∧ w.heap[g]? = some (.cells cs 9 (0, 0)) ∧ (∀ (j : Nat) x, ns[j]? = some x → cs[j]? = some (.string (B x))) ∧ w.heap[bk]? = some (.cells #[u] 32 (0, 0)) ∧ ns.length ≤ 1000 ∧ KF mb w l u
theorem KF.grown {mb : Nat} {w w' : World} (g : w.grownBy w' none) : ∀ {l : List (List (List UInt8))} {v : Value}, KF mb w l v → KF mb w' l v
  | [], _, ⟨b, h1, h2⟩ => ⟨b, h1, (g.block b (lt_of_block h2) (by simp)).trans h2⟩
  | _ :: _, _, ⟨bn, bk, gg, cap, u, cs, h1, h2, h3, h4, h5, h6, h7⟩ => ⟨bn, bk, gg, cap, u, cs, h1, (g.block _ (lt_of_block h2) (by simp)).trans h2, (g.block _ (lt_of_block h3) (by simp)).trans h3, h4, (g.block _ (lt_of_block h5) (by simp)).trans h5, h6, KF.grown g h7⟩
/-- The names that stand for something. -/
def kn (ge : List (List UInt8 × Et)) (l : List (List (List UInt8))) (nm : List UInt8) : Bool := l.any (fun ns => decide (nm ∈ ns)) || (getL ge nm).isSome
/-- A call of the closure. -/
def KCall (v : Value) (nm : List UInt8) (w : World) (q : Bool) : Prop := match v with
  | .func (.func k) #[] cap => Calls Tryz.prog k (#[.string (B nm)] ++ cap) w fun e w' => e = .returned (.bool q) ∧ w.grownBy w' none
  | _ => False

set_option maxRecDepth 100000 in
set_option maxHeartbeats 1000000 in
theorem known0 {H : Nat → Option Obj} {mb b : Nat} {ge : List (List UInt8 × Et)} {nm : List UInt8} {w : World} (hn : nm.length ≤ 300) (hb : w.heap[b]? = some (.cells #[.map (some mb)] 169 (0, 0))) (h : GE2 H w mb ge) :
    Calls Tryz.prog 125 #[.string (B nm), .pointer (some ⟨b, 0, none⟩)] w fun e w' => e = .returned (.bool (getL ge nm).isSome) ∧ w.grownBy w' none := by
  obtain ⟨gv, h1, h2⟩ := h
  have c0 := blk_c hb 0 rfl
  have hlk := GM.look h1 strLaw Tryz.underlying169 (zeroScheme w) (kS_key hn)
  rcases h2 nm with ⟨e1, e2⟩ | ⟨v, t, e1, e2, e3⟩
  · rw [e1] at hlk
    rw [e2]
    simp only [Option.map_none, Option.getD_none, Option.isSome_none] at hlk ⊢
    clear h1 h2
    go_enter Tryz.func125, Tryz.ntmps125
    go_wp2
    go_ret
    exact ⟨rfl, World.grownBy_alloc _ _ _⟩
  · rw [e1] at hlk
    rw [e2]
    obtain ⟨T0, b0, _, rfl⟩ := er_val e3
    simp only [Option.map_some, Option.getD_some, Option.isSome_some] at hlk ⊢
    clear h1 h2 e3
    go_enter Tryz.func125, Tryz.ntmps125
    go_wp2
    go_ret
    exact ⟨rfl, World.grownBy_alloc _ _ _⟩
end Go.Proofs.YtcdijppegfcoaaaGreatDoor

/-
  OUR OWN TEXT. expr.Unbound: the closures, and, cmp.Or.
-/
namespace Go.Proofs.YtcdijppegfcoaaaGreatDoor
open Go.RowKit
set_option maxRecDepth 100000 in
set_option maxHeartbeats 1000000 in
theorem known1a {bn bk gg cap b2 : Nat} {q : Bool} {ns : List (List UInt8)} {cs : Array Value} {nm : List UInt8} {w : World} (h2 : w.heap[bn]? = some (.cells #[.slice (some ⟨gg, 0, none⟩) ns.length cap] 34 (0, 0))) (h3 : w.heap[gg]? = some (.cells cs 9 (0, 0))) (h4 : ∀ (j : Nat) x, ns[j]? = some x → cs[j]? = some (.string (B x))) (h6 : ns.length ≤ 1000)
    (h5 : w.heap[bk]? = some (.cells #[.func (.func 125) #[] #[.pointer (some ⟨b2, 0, none⟩)]] 32 (0, 0))) (ih : Calls Tryz.prog 125 #[.string (B nm), .pointer (some ⟨b2, 0, none⟩)] w fun e w' => e = .returned (.bool q) ∧ w.grownBy w' none) :
    Calls Tryz.prog 199 #[.string (B nm), .pointer (some ⟨bn, 0, none⟩), .pointer (some ⟨bk, 0, none⟩)] w fun e w' => e = .returned (.bool (decide (nm ∈ ns) || q)) ∧ w.grownBy w' none := by
  have c2 := blk_c h2 0 rfl
  have c5 := blk_c h5 0 rfl
  have CC := hid (contains_s w gg cap ns nm (by omega) (fun j x hx => blk_c h3 j (h4 j x hx)))
  have IH := hid ih
  clear h2 h3 h4 h5 ih
  by_cases hm : nm ∈ ns
  · rw [decide_eq_true hm] at CC ⊢
    clear hm
    go_enter Tryz.func199, Tryz.ntmps199
    go_wp2_with fail
    refine CC.out.mono ?_
    rintro e w' ⟨rfl, rfl⟩
    clear CC
    go_wp2
    go_ret
    exact ⟨rfl, (Gb.refl _ _).none⟩
  · rw [decide_eq_false hm] at CC ⊢
    clear hm
    go_enter Tryz.func199, Tryz.ntmps199
    go_wp2_with fail
    refine CC.out.mono ?_
    rintro e w' ⟨rfl, rfl⟩
    clear CC
    go_wp2_with fail
    refine IH.out.mono ?_
    rintro e w2 ⟨rfl, g2⟩
    have G2 := hid g2
    clear g2
    go_wp2
    go_ret
    exact ⟨by simp, G2.out⟩

set_option maxRecDepth 100000 in
set_option maxHeartbeats 1000000 in
theorem known1b {bn bk gg cap b2 b3 : Nat} {q : Bool} {ns : List (List UInt8)} {cs : Array Value} {nm : List UInt8} {w : World} (h2 : w.heap[bn]? = some (.cells #[.slice (some ⟨gg, 0, none⟩) ns.length cap] 34 (0, 0))) (h3 : w.heap[gg]? = some (.cells cs 9 (0, 0))) (h4 : ∀ (j : Nat) x, ns[j]? = some x → cs[j]? = some (.string (B x))) (h6 : ns.length ≤ 1000)
    (h5 : w.heap[bk]? = some (.cells #[.func (.func 199) #[] #[.pointer (some ⟨b2, 0, none⟩), .pointer (some ⟨b3, 0, none⟩)]] 32 (0, 0))) (ih : Calls Tryz.prog 199 #[.string (B nm), .pointer (some ⟨b2, 0, none⟩), .pointer (some ⟨b3, 0, none⟩)] w fun e w' => e = .returned (.bool q) ∧ w.grownBy w' none) :
    Calls Tryz.prog 199 #[.string (B nm), .pointer (some ⟨bn, 0, none⟩), .pointer (some ⟨bk, 0, none⟩)] w fun e w' => e = .returned (.bool (decide (nm ∈ ns) || q)) ∧ w.grownBy w' none := by
  have c2 := blk_c h2 0 rfl
  have c5 := blk_c h5 0 rfl
  have CC := hid (contains_s w gg cap ns nm (by omega) (fun j x hx => blk_c h3 j (h4 j x hx)))
  have IH := hid ih
  clear h2 h3 h4 h5 ih
  by_cases hm : nm ∈ ns
  · rw [decide_eq_true hm] at CC ⊢
    clear hm
    go_enter Tryz.func199, Tryz.ntmps199
    go_wp2_with fail
    refine CC.out.mono ?_
    rintro e w' ⟨rfl, rfl⟩
    clear CC
    go_wp2
    go_ret
    exact ⟨rfl, (Gb.refl _ _).none⟩
  · rw [decide_eq_false hm] at CC ⊢
    clear hm
    go_enter Tryz.func199, Tryz.ntmps199
    go_wp2_with fail
    refine CC.out.mono ?_
    rintro e w' ⟨rfl, rfl⟩
    clear CC
    go_wp2_with fail
    refine IH.out.mono ?_
    rintro e w2 ⟨rfl, g2⟩
    have G2 := hid g2
    clear g2
    go_wp2
    go_ret
    exact ⟨by simp, G2.out⟩

theorem known_any {H : Nat → Option Obj} {mb : Nat} {ge : List (List UInt8 × Et)} {nm : List UInt8} {w : World} (hn : nm.length ≤ 300) (hg : GE2 H w mb ge) : ∀ (l : List (List (List UInt8))) (v : Value), KF mb w l v → KCall v nm w (kn ge l nm)
  | [], v, ⟨b, h1, h2⟩ => by
    subst h1
    exact known0 hn h2 hg
  | ns :: l, v, ⟨bn, bk, gg, cap, u, cs, h1, h2, h3, h4, h5, h6, h7⟩ => by
    subst h1
    have ih := known_any hn hg l u h7
    have e : kn ge (ns :: l) nm = (decide (nm ∈ ns) || kn ge l nm) := by simp [kn, Bool.or_assoc]
    rw [e]
    cases l with
    | nil =>
      obtain ⟨b2, rfl, _⟩ := h7
      exact known1a h2 h3 h4 h6 h5 ih
    | cons ns2 l =>
      obtain ⟨b2, b3, _, _, _, _, rfl, _⟩ := h7
      exact known1b h2 h3 h4 h6 h5 ih
/-- and. -/
theorem KF.form {mb : Nat} {w : World} : ∀ {l : List (List (List UInt8))} {v : Value}, KF mb w l v → (∃ b, v = .func (.func 125) #[] #[.pointer (some ⟨b, 0, none⟩)]) ∨ ∃ b b2, v = .func (.func 199) #[] #[.pointer (some ⟨b, 0, none⟩), .pointer (some ⟨b2, 0, none⟩)]
  | [], _, ⟨b, h1, _⟩ => Or.inl ⟨b, h1⟩
  | _ :: _, _, ⟨bn, bk, _, _, _, _, h1, _⟩ => Or.inr ⟨bn, bk, h1⟩
set_option maxRecDepth 100000 in
set_option maxHeartbeats 1000000 in
theorem and_any {mb gg cap : Nat} {l : List (List (List UInt8))} {v : Value} {ns : List (List UInt8)} {cs : Array Value} {w : World} (h : KF mb w l v) (h3 : w.heap[gg]? = some (.cells cs 9 (0, 0))) (h4 : ∀ (j : Nat) x, ns[j]? = some x → cs[j]? = some (.string (B x))) (h6 : ns.length ≤ 1000) :
    Calls Tryz.prog 167 #[v, .slice (some ⟨gg, 0, none⟩) ns.length cap] w fun e w' => ∃ b b2, e = .returned (.func (.func 199) #[] #[.pointer (some ⟨b, 0, none⟩), .pointer (some ⟨b2, 0, none⟩)]) ∧ KF mb w' (ns :: l) (.func (.func 199) #[] #[.pointer (some ⟨b, 0, none⟩), .pointer (some ⟨b2, 0, none⟩)]) ∧ w.grownBy w' none := by
  have hmf : ∀ (fn : Fn) (first cap : Array Value) (w : World), (Instr.makeFunc fn first cap).run Tryz.prog w = .ok (.func fn first cap) w := fun _ _ _ _ => rfl
  have g1 : w.grownBy ((w.alloc (.cells #[v] 32)).alloc (.cells #[.slice (some ⟨gg, 0, none⟩) ns.length cap] 34)) none := (World.grownBy_alloc _ _ _).trans (World.grownBy_alloc _ _ _)
  have n1 : ((w.alloc (.cells #[v] 32)).alloc (.cells #[.slice (some ⟨gg, 0, none⟩) ns.length cap] 34)).heap[w.heap.size]? = some (.cells #[v] 32 (0, 0)) := by
    rw [Below.heap_alloc _ _ _ (by simp)]; exact heap_alloc_new _ _
  have n2 : ((w.alloc (.cells #[v] 32)).alloc (.cells #[.slice (some ⟨gg, 0, none⟩) ns.length cap] 34)).heap[w.heap.size + 1]? = some (.cells #[.slice (some ⟨gg, 0, none⟩) ns.length cap] 34 (0, 0)) := heap_alloc_at _ _ _ (by simp)
  have Q := hid (show KF mb ((w.alloc (.cells #[v] 32)).alloc (.cells #[.slice (some ⟨gg, 0, none⟩) ns.length cap] 34)) (ns :: l) (.func (.func 199) #[] #[.pointer (some ⟨w.heap.size + 1, 0, none⟩), .pointer (some ⟨w.heap.size, 0, none⟩)]) from ⟨w.heap.size + 1, w.heap.size, gg, cap, v, cs, rfl, n2, (g1.block _ (lt_of_block h3) (by simp)).trans h3, h4, n1, h6, h.grown g1⟩)
  have G := hid g1
  have hf := h.form
  clear h h3 h4 n1 n2 g1
  rcases hf with ⟨b, rfl⟩ | ⟨b, b2, rfl⟩
  all_goals
    go_enter Tryz.func167, Tryz.ntmps167
    go_wp2
    go_ret
    exact ⟨_, _, rfl, Q.out, G.out⟩
theorem ptr_ne (w : World) : (binOp .neq 186 (.pointer none) (.pointer none)).run Tryz.prog w = .ok (.bool false) w := by kernel_rfl
set_option maxRecDepth 100000 in
set_option maxHeartbeats 1000000 in
theorem or_nil2 (gg : Nat) (w : World) (h : w.heap[gg]? = some (.cells #[.pointer none, .pointer none] 186 (0, 0))) :
    Calls Tryz.prog 168 #[.slice (some ⟨gg, 0, none⟩) 2 2] w fun e w' => e = .returned (.pointer none) ∧ w' = w := by
  have c0 := blk_c h 0 rfl
  have c1 := blk_c h 1 rfl
  have hp := ptr_ne
  clear h
  go_enter Tryz.func168, Tryz.ntmps168
  go_wp2_with fail
  refine wp_loop_rounds 3 ?_
  rw [rounds_succ]
  go_wp2_with fail
  rw [rounds_succ]
  go_wp2_with fail
  rw [rounds_succ]
  go_wp2
  go_ret
  exact ⟨rfl, rfl⟩
end Go.Proofs.YtcdijppegfcoaaaGreatDoor

/-
  OUR OWN TEXT. expr.Unbound, where each name stands for something.
-/
namespace Go.Proofs.YtcdijppegfcoaaaGreatDoor
open Go.RowKit
/-- Each name stands for something, on plain data. -/
def okF (P : Ex → List (List (List UInt8)) → Bool) (ge : List (List UInt8 × Et)) (e : Ex) (l : List (List (List UInt8))) : Bool :=
  if e.op = kName then (match e.names with | [nm] => decide (nm.length ≤ 300) && kn ge l nm | _ => false)
  else if e.op = kFun then (match e.names, e.kids with | [p], [b] => P b ([p] :: l) | _, _ => false)
  else if e.op = oApp then (match e.kids with | [a, b] => P a l && P b l | _ => false)
  else if e.op = oPair then (match e.kids with | [a, b] => P a l && P b l | _ => false)
  else if e.op = kNum then true
  else false
def okT (ge : List (List UInt8 × Et)) : Nat → Ex → List (List (List UInt8)) → Bool
  | 0, _, _ => false
  | f + 1, e, l => okF (okT ge f) ge e l
/-- What Unbound leaves. -/
def UNP0 (w : World) (e : Ending) (w' : World) : Prop := e = .returned (.pointer none) ∧ w.grownBy w' none
def UNC (H : Nat → Option Obj) (mb : Nat) (ge : List (List UInt8 × Et)) (P : Ex → List (List (List UInt8)) → Bool) : Prop := ∀ (e : Ex) (v : Value) (m : Nat) (l : List (List (List UInt8))) (kv : Value) (w : World),
  PRep m H v e → P e l = true → Fz H w → GE2 H w mb ge → KF mb w l kv → Calls Tryz.prog 124 #[v, kv] w (UNP0 w)
theorem grown_drew' {w w' : World} (h : w.drew.grownBy w' none) : w.grownBy w' none := ⟨h.os, h.tape, h.output, h.size, h.block⟩

set_option maxRecDepth 100000 in
set_option maxHeartbeats 2000000 in
theorem unb_name {H : Nat → Option Obj} {mb b : Nat} {ge : List (List UInt8 × Et)} {l : List (List (List UInt8))} {kv dep pos : Value} {nm : List UInt8} {w : World} (hb : H b = some (.cells #[dep, .string (B nm), pos] 190 (0, 0))) (hn : nm.length ≤ 300) (ho : kn ge l nm = true) (hz : Fz H w) (hg : GE2 H w mb ge) (hk : KF mb w l kv) :
    Calls Tryz.prog 124 #[.iface 186 (.pointer (some ⟨b, 0, none⟩)), kv] w (UNP0 w) := by
  have hc := known_any hn hg l kv hk
  rw [ho] at hc
  have hbw := hz _ _ hb
  have k1 := blk_c hbw 1 rfl
  have hf := hk.form
  have a0 := xA_Name_Name b
  clear hb hg hk hbw hz ho
  rcases hf with ⟨q1, rfl⟩ | ⟨q1, q2, rfl⟩
  all_goals
    have CK := hid hc
    unfold KCall at CK
    clear hc
    go_enter Tryz.func124, Tryz.ntmps124
    go_wp2_with fail
    refine CK.out.mono ?_
    rintro e w1 ⟨rfl, g1⟩
    have G1 := hid g1
    clear g1 CK
    go_wp2
    go_ret
    exact ⟨rfl, G1.out⟩

set_option maxRecDepth 100000 in
set_option maxHeartbeats 2000000 in
theorem unb_fun {H : Nat → Option Obj} {mb b m : Nat} {ge : List (List UInt8 × Et)} {l : List (List (List UInt8))} {kv dep u : Value} {p : List UInt8} {e1 : Ex} {P : Ex → List (List (List UInt8)) → Bool} (hP : UNC H mb ge P) {w : World} (hb : H b = some (.cells #[dep, .string (B p), u] 196 (0, 0))) (hp1 : PRep m H u e1) (h1 : P e1 ([p] :: l) = true) (hz : Fz H w) (hg : GE2 H w mb ge) (hk : KF mb w l kv) :
    Calls Tryz.prog 124 #[.iface 194 (.pointer (some ⟨b, 0, none⟩)), kv] w (UNP0 w) := by
  obtain ⟨T1, b1, rfl⟩ := hp1.val
  have hbw := hz _ _ hb
  have k1 := blk_c hbw 1 rfl
  have k2 := blk_c hbw 2 rfl
  have hbl := lt_of_block hbw
  have gW : w.grownBy (w.alloc (.cells #[.string (B p)] 9)).drew none := grown_drew (World.grownBy_alloc _ _ _)
  have CA := hid (and_any (ns := [p]) (gg := w.heap.size) (cap := 1) (w := (w.alloc (.cells #[.string (B p)] 9)).drew) (hk.grown gW) (heap_alloc_new w _) (fun j x hx => by
    cases j with
    | zero => cases hx; rfl
    | succ j => cases hx) (by simp))
  have Q := hid (And.intro hP (And.intro hp1 (And.intro h1 (And.intro hz (And.intro hg (And.intro gW hbw))))))
  have hf := hk.form
  have a0 := xA_Fun_Name b
  have a1 := xA_Fun_Fun b
  clear hP hp1 h1 hz hg hk hb hbw gW
  rcases hf with ⟨q1, rfl⟩ | ⟨q1, q2, rfl⟩
  all_goals
    go_enter Tryz.func124, Tryz.ntmps124
    go_wp2_with fail
    go_region_with (first
      | (go_at_call 167; refine CA.out.mono ?_; rintro e w1 ⟨y1, y2, rfl, kf1, gr1⟩; have CB := hid (Q.out.1 e1 _ m _ _ w1 Q.out.2.1 Q.out.2.2.1 (Q.out.2.2.2.1.grown (Q.out.2.2.2.2.2.1.trans gr1)) (Q.out.2.2.2.2.1.grown (Q.out.2.2.2.2.2.1.trans gr1)) kf1); have hb1 : w1.heap[b]? = _ := ((Q.out.2.2.2.2.2.1.trans gr1).block b hbl (by simp)).trans Q.out.2.2.2.2.2.2; have k3 := blk_c hb1 2 rfl; have hbl1 := lt_of_block hb1; have G1 := hid (Q.out.2.2.2.2.2.1.trans gr1); clear gr1 CA hb1 kf1)
      | (go_at_call 124; refine CB.out.mono ?_; rintro e w2 ⟨rfl, gr2⟩; have G2 := hid (G1.out.trans gr2); clear gr2 CB))
    all_goals go_wp2
    all_goals go_ret
    all_goals exact ⟨rfl, G2.out⟩
end Go.Proofs.YtcdijppegfcoaaaGreatDoor

/-
  OUR OWN TEXT. expr.Unbound at an application, a pair.
-/
namespace Go.Proofs.YtcdijppegfcoaaaGreatDoor
open Go.RowKit
set_option maxRecDepth 100000 in
set_option maxHeartbeats 2000000 in
theorem unb_apply {H : Nat → Option Obj} {mb b m : Nat} {ge : List (List UInt8 × Et)} {l : List (List (List UInt8))} {kv dep u1 u2 : Value} {e1 e2 : Ex} {P : Ex → List (List (List UInt8)) → Bool} (hP : UNC H mb ge P) {w : World} (hb : H b = some (.cells #[dep, u1, u2] 213 (0, 0))) (hp1 : PRep m H u1 e1) (hp2 : PRep m H u2 e2) (h1 : P e1 l = true) (h2 : P e2 l = true) (hz : Fz H w) (hg : GE2 H w mb ge) (hk : KF mb w l kv) :
    Calls Tryz.prog 124 #[.iface 211 (.pointer (some ⟨b, 0, none⟩)), kv] w (UNP0 w) := by
  obtain ⟨T1, b1, rfl⟩ := hp1.val
  obtain ⟨T2, b2, rfl⟩ := hp2.val
  have hbw := hz _ _ hb
  have k1 := blk_c hbw 1 rfl
  have k2 := blk_c hbw 2 rfl
  have hbl := lt_of_block hbw
  have CA := hid (hP e1 _ m l kv w.drew hp1 h1 hz hg (hk.grown (grown_drew (Gb.refl (fun k => w.heap.size ≤ k) w).none)))
  have Q := hid (And.intro hP (And.intro hp2 (And.intro h2 (And.intro hz (And.intro hg (And.intro hk hbw))))))
  have hf := hk.form
  have a0 := xA_Apply_Name b
  have a1 := xA_Apply_Fun b
  have a2 := xA_Apply_If b
  have a3 := xA_Apply_Let b
  have a4 := xA_Apply_LetRec b
  have a5 := xA_Apply_Apply b
  clear hP hp1 hp2 h1 h2 hz hg hk hb hbw
  rcases hf with ⟨q1, rfl⟩ | ⟨q1, q2, rfl⟩
  all_goals
    go_enter Tryz.func124, Tryz.ntmps124
    go_wp2_with fail
    go_region_with (first
      | (go_at_call 124; refine CA.out.mono ?_; rintro e w1 ⟨rfl, gr1⟩; have CB := hid (Q.out.1 e2 _ m _ _ w1 Q.out.2.1 Q.out.2.2.1 (Q.out.2.2.2.1.grown (grown_drew' gr1)) (Q.out.2.2.2.2.1.grown (grown_drew' gr1)) (Q.out.2.2.2.2.2.1.grown (grown_drew' gr1))); have hb1 : w1.heap[b]? = _ := (gr1.block b hbl (by simp)).trans Q.out.2.2.2.2.2.2; have k3 := blk_c hb1 2 rfl; have hbl1 := lt_of_block hb1; have G1 := hid gr1; clear gr1 CA hb1)
      | (go_at_call 124; refine CB.out.mono ?_; rintro e w2 ⟨rfl, gr2⟩; have CO := hid (or_nil2 w2.heap.size (w2.alloc (.cells #[.pointer none, .pointer none] 186)) (heap_alloc_new _ _)); have G2 := hid gr2; clear gr2 CB)
      | (go_at_call 168; refine CO.out.mono ?_; rintro e w3 ⟨rfl, rfl⟩))
    all_goals go_wp2
    all_goals go_ret
    all_goals exact ⟨rfl, grown_drew' (G1.out.trans (G2.out.trans (World.grownBy_alloc _ _ _)))⟩
end Go.Proofs.YtcdijppegfcoaaaGreatDoor

/-
  OUR OWN TEXT. expr.Unbound at an application, a pair.
-/
namespace Go.Proofs.YtcdijppegfcoaaaGreatDoor
open Go.RowKit
set_option maxRecDepth 100000 in
set_option maxHeartbeats 2000000 in
theorem unb_pair {H : Nat → Option Obj} {mb b m : Nat} {ge : List (List UInt8 × Et)} {l : List (List (List UInt8))} {kv dep u1 u2 : Value} {e1 e2 : Ex} {P : Ex → List (List (List UInt8)) → Bool} (hP : UNC H mb ge P) {w : World} (hb : H b = some (.cells #[dep, u1, u2] 216 (0, 0))) (hp1 : PRep m H u1 e1) (hp2 : PRep m H u2 e2) (h1 : P e1 l = true) (h2 : P e2 l = true) (hz : Fz H w) (hg : GE2 H w mb ge) (hk : KF mb w l kv) :
    Calls Tryz.prog 124 #[.iface 214 (.pointer (some ⟨b, 0, none⟩)), kv] w (UNP0 w) := by
  obtain ⟨T1, b1, rfl⟩ := hp1.val
  obtain ⟨T2, b2, rfl⟩ := hp2.val
  have hbw := hz _ _ hb
  have k1 := blk_c hbw 1 rfl
  have k2 := blk_c hbw 2 rfl
  have hbl := lt_of_block hbw
  have CA := hid (hP e1 _ m l kv w.drew hp1 h1 hz hg (hk.grown (grown_drew (Gb.refl (fun k => w.heap.size ≤ k) w).none)))
  have Q := hid (And.intro hP (And.intro hp2 (And.intro h2 (And.intro hz (And.intro hg (And.intro hk hbw))))))
  have hf := hk.form
  have a0 := xA_Pair_Name b
  have a1 := xA_Pair_Fun b
  have a2 := xA_Pair_If b
  have a3 := xA_Pair_Let b
  have a4 := xA_Pair_LetRec b
  have a5 := xA_Pair_Apply b
  have a6 := xA_Pair_Pair b
  clear hP hp1 hp2 h1 h2 hz hg hk hb hbw
  rcases hf with ⟨q1, rfl⟩ | ⟨q1, q2, rfl⟩
  all_goals
    go_enter Tryz.func124, Tryz.ntmps124
    go_wp2_with fail
    go_region_with (first
      | (go_at_call 124; refine CA.out.mono ?_; rintro e w1 ⟨rfl, gr1⟩; have CB := hid (Q.out.1 e2 _ m _ _ w1 Q.out.2.1 Q.out.2.2.1 (Q.out.2.2.2.1.grown (grown_drew' gr1)) (Q.out.2.2.2.2.1.grown (grown_drew' gr1)) (Q.out.2.2.2.2.2.1.grown (grown_drew' gr1))); have hb1 : w1.heap[b]? = _ := (gr1.block b hbl (by simp)).trans Q.out.2.2.2.2.2.2; have k3 := blk_c hb1 2 rfl; have hbl1 := lt_of_block hb1; have G1 := hid gr1; clear gr1 CA hb1)
      | (go_at_call 124; refine CB.out.mono ?_; rintro e w2 ⟨rfl, gr2⟩; have CO := hid (or_nil2 w2.heap.size (w2.alloc (.cells #[.pointer none, .pointer none] 186)) (heap_alloc_new _ _)); have G2 := hid gr2; clear gr2 CB)
      | (go_at_call 168; refine CO.out.mono ?_; rintro e w3 ⟨rfl, rfl⟩))
    all_goals go_wp2
    all_goals go_ret
    all_goals exact ⟨rfl, grown_drew' (G1.out.trans (G2.out.trans (World.grownBy_alloc _ _ _)))⟩
end Go.Proofs.YtcdijppegfcoaaaGreatDoor
