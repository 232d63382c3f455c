import Derived.Test.YtcdijppegfcoaabGreatDoorPTree
/-
  OUR OWN TEXT. The program's expr.above.
-/
namespace Go.Proofs.YtcdijppegfcoaabGreatDoor
open Go.RowKit

theorem mDepthName (b : Nat) (w : World) : (Go.method 502 157 (.pointer (some ⟨b, 0, none⟩)) "Depth").run Tryz.prog w = (do let v ← loadVar 161 ⟨b, 0, none⟩; pure (241, v) : Sem (FuncId × Value)).run Tryz.prog w := by kernel_rfl
theorem mDepthNumber (b : Nat) (w : World) : (Go.method 502 175 (.pointer (some ⟨b, 0, none⟩)) "Depth").run Tryz.prog w = (do let v ← loadVar 161 ⟨b, 0, none⟩; pure (241, v) : Sem (FuncId × Value)).run Tryz.prog w := by kernel_rfl
theorem mDepthFun (b : Nat) (w : World) : (Go.method 502 178 (.pointer (some ⟨b, 0, none⟩)) "Depth").run Tryz.prog w = (do let v ← loadVar 161 ⟨b, 0, none⟩; pure (241, v) : Sem (FuncId × Value)).run Tryz.prog w := by kernel_rfl
theorem mDepthIf (b : Nat) (w : World) : (Go.method 502 181 (.pointer (some ⟨b, 0, none⟩)) "Depth").run Tryz.prog w = (do let v ← loadVar 161 ⟨b, 0, none⟩; pure (241, v) : Sem (FuncId × Value)).run Tryz.prog w := by kernel_rfl
theorem mDepthLet (b : Nat) (w : World) : (Go.method 502 184 (.pointer (some ⟨b, 0, none⟩)) "Depth").run Tryz.prog w = (do let v ← loadVar 161 ⟨b, 0, none⟩; pure (241, v) : Sem (FuncId × Value)).run Tryz.prog w := by kernel_rfl
theorem mDepthLetRec (b : Nat) (w : World) : (Go.method 502 190 (.pointer (some ⟨b, 0, none⟩)) "Depth").run Tryz.prog w = (do let v ← loadVar 161 ⟨b, 0, none⟩; pure (241, v) : Sem (FuncId × Value)).run Tryz.prog w := by kernel_rfl
theorem mDepthApply (b : Nat) (w : World) : (Go.method 502 195 (.pointer (some ⟨b, 0, none⟩)) "Depth").run Tryz.prog w = (do let v ← loadVar 161 ⟨b, 0, none⟩; pure (241, v) : Sem (FuncId × Value)).run Tryz.prog w := by kernel_rfl
theorem mDepthPair (b : Nat) (w : World) : (Go.method 502 198 (.pointer (some ⟨b, 0, none⟩)) "Depth").run Tryz.prog w = (do let v ← loadVar 161 ⟨b, 0, none⟩; pure (241, v) : Sem (FuncId × Value)).run Tryz.prog w := by kernel_rfl
theorem grown_set {w wi : World} {o : Obj} (hg : (w.alloc o).grownBy wi none) (v : Value) : w.grownBy (wi.setCell ⟨w.heap.size, 0, none⟩ v) none :=
  ⟨hg.os, hg.tape, hg.output, by have := hg.size; simp [World.setCell] at this ⊢; omega, fun k hk _ => by
    rw [Below.heap_setCell _ _ _ _ (by show k ≠ w.heap.size; omega), hg.block k (by simp; omega) (by simp), Below.heap_alloc _ _ _ hk]⟩
theorem load_part (b : Nat) (d : Nat) (w : World) (h : w.cell? ⟨b, 0, none⟩ = some (.int .i64 (d : Int))) : (loadVar 161 ⟨b, 0, none⟩).run Tryz.prog w = .ok (.agg #[.int .i64 (d : Int)]) w := by
  simp [go_sem, h]
theorem bind_part (b : Nat) (d : Nat) (w : World) (h : w.cell? ⟨b, 0, none⟩ = some (.int .i64 (d : Int))) : (do let v ← loadVar 161 ⟨b, 0, none⟩; pure (241, v) : Sem (FuncId × Value)).run Tryz.prog w = .ok (241, .agg #[.int .i64 (d : Int)]) w := by
  simp [go_sem, h]
theorem mDepth_any {t : TypeId} (ht : IsTy t) (b d : Nat) (w : World) (h : w.cell? ⟨b, 0, none⟩ = some (.int .i64 (d : Int))) : (Go.method 502 t (.pointer (some ⟨b, 0, none⟩)) "Depth").run Tryz.prog w = .ok (241, .agg #[.int .i64 (d : Int)]) w := by
  rcases ht with rfl | rfl | rfl | rfl | rfl | rfl | rfl | rfl
  · rw [mDepthName]; exact bind_part b d w h
  · rw [mDepthNumber]; exact bind_part b d w h
  · rw [mDepthFun]; exact bind_part b d w h
  · rw [mDepthIf]; exact bind_part b d w h
  · rw [mDepthLet]; exact bind_part b d w h
  · rw [mDepthLetRec]; exact bind_part b d w h
  · rw [mDepthApply]; exact bind_part b d w h
  · rw [mDepthPair]; exact bind_part b d w h

set_option maxRecDepth 100000 in
theorem depth_p (d : Nat) (w : World) : Calls Tryz.prog 241 #[.agg #[.int .i64 (d : Int)]] w fun e w' => e = .returned (.int .i64 (d : Int)) ∧ w' = w.alloc (.cells #[.int .i64 (d : Int)] 161) := by
  go_enter Tryz.func241, Tryz.ntmps241
  go_wp2
  go_ret
  exact ⟨rfl, rfl⟩

set_option maxRecDepth 100000 in
set_option maxHeartbeats 2000000 in
theorem above_p (w : World) (ao : Option Addr) (cap : Nat) (us : List Value) (ds : List Nat) (hl : ds.length = us.length) (hn : us.length ≤ 1000) (hrow : ∀ (i : Nat) (u : Value), us[i]? = some u → ∃ g, ao = some ⟨g, 0, none⟩ ∧ g < w.heap.size ∧ w.cell? ⟨g, i, none⟩ = some u) (hd : ∀ (i : Nat) (u : Value) (d : Nat), us[i]? = some u → ds[i]? = some d → DAt w u d) (hb : maxl ds ≤ 1000) :
    Calls Tryz.prog 143 #[.slice ao us.length cap] w fun e w' => e = .returned (.agg #[.int .i64 ((maxl ds + 1 : Nat) : Int)]) ∧ w.grownBy w' none := by
  go_enter Tryz.func143, Tryz.ntmps143
  go_wp2_with fail
  go_loopg [3, 8] (us.length + 1) (fun q m i wi => ∃ j : Nat, j ≤ us.length ∧ i = .int .i64 j ∧ q = us.length - j + 1 ∧ m = .int .i64 ((maxl (ds.take j) : Nat) : Int) ∧ (w.alloc (.cells #[.int .i64 0] 161)).grownBy wi none)
  case atStart => exact ⟨0, by omega, rfl, by omega, rfl, World.grownBy.refl _ _⟩
  case round =>
    obtain ⟨j, hj, rfl, hq, rfl, hgr⟩ := hrel
    by_cases hlt : j < us.length
    · obtain ⟨u, hu⟩ : ∃ u, us[j]? = some u := ⟨us[j], List.getElem?_eq_getElem _⟩
      obtain ⟨d, hdd⟩ : ∃ d, ds[j]? = some d := ⟨ds[j]'(by omega), List.getElem?_eq_getElem _⟩
      have hgr2 := (World.grownBy_alloc w (.cells #[.int .i64 0] 161) none).trans hgr
      obtain ⟨g, rfl, hg, hc⟩ := hrow j u hu
      rw [← World.cell?_of_block (a := ⟨g, j, none⟩) (hgr2.block g hg (by simp))] at hc
      obtain ⟨t, b, ht, rfl, hbl, hbc⟩ := (hd j u d hu hdd).grown hgr2
      have hts : maxl (ds.take (j + 1)) = max (maxl (ds.take j)) d := by
        rw [List.take_add_one, hdd]
        exact maxl_snoc _ _
      have htk := maxl_take ds (j + 1)
      have hmm : ((max (maxl (ds.take j)) d : Nat) : Int) = max ((maxl (ds.take j) : Nat) : Int) (d : Int) := by omega
      have hj2 : (j : Int) < (us.length : Int) := by omega
      have HG := hid hgr
      have HT := hid hts
      have HM := hid hmm
      clear hgr hgr2 hrow hd hts hmm
      have hme := mDepth_any ht b d _ hbc
      go_wp2_with (go_at_call 241; refine (depth_p d _).mono ?_; rintro e w' ⟨rfl, rfl⟩)
      all_goals
        go_roundg (us.length - (j + 1) + 1)
        case measure => omega
        case rel => exact ⟨j + 1, by omega, by go_num, rfl, by rw [HT.out]; congr 1; omega, HG.out.trans (World.grownBy_alloc _ _ _)⟩
    · have hj3 : j = us.length := by omega
      subst hj3
      rw [List.take_of_length_le (by omega)] at *
      have HG := hid hgr
      have hle : ((maxl ds : Nat) : Int) ≤ 1000 := by omega
      rename World => wi
      have e0 : wi.heap[w.heap.size]? = some (.cells #[.int .i64 0] 161 (0, 0)) := by
        rw [hgr.block w.heap.size (by simp) (by simp)]
        exact heap_alloc_new _ _
      have l0 := lt_of_block e0
      have c0 : wi.cell? ⟨w.heap.size, 0, none⟩ = some (.int .i64 0) := by simp [World.cell?, e0]
      have f0 : wi.frozen? ⟨w.heap.size, 0, none⟩ = false := by simp [World.frozen?, e0]
      clear hgr hrow hd
      go_wp2
      refine bodyPost_ret (v := .agg #[.int .i64 ((maxl ds + 1 : Nat) : Int)]) (by simp [results, Tryz.results143, go_sem, c0]) rfl ?_
      exact ⟨rfl, grown_set HG.out _⟩

theorem above_0 (w : World) : Calls Tryz.prog 143 #[.slice none 0 0] w fun e w' => e = .returned (.agg #[.int .i64 1]) ∧ w.grownBy w' none :=
  above_p w none 0 [] [] rfl (by simp) (fun i u h => by simp at h) (fun i u d h => by simp at h) (by simp [maxl])
end Go.Proofs.YtcdijppegfcoaabGreatDoor

/-
  OUR OWN TEXT. The program's reader: what it leaves; a function, a choice.
-/
namespace Go.Proofs.YtcdijppegfcoaabGreatDoor
open Go.RowKit

/-- What a reader of the program leaves: an expression, or a refusal where typerref's reader is wrong. -/
def EOut (w w' : World) (rb : Nat) (s : ByteArray) (T : List Tok) (H : Nat → Option Obj) (k0 : Nat) (st' : St) (e : Ending) (ex : Ex) : Prop :=
  Kept rb w w' ∧ ((∃ v H' m, e = .returned v ∧ PSt exKw w' rb s T st' ∧ Fz H' w' ∧ Ext w.heap.size H H' ∧ PRep m H' v ex ∧ exDeep m ex + k0 ≤ st'.k) ∨ (0 ≤ st'.bad ∧ Refused w' e st'.bad))
def EXPP (T : List Tok) (n : Nat) : Prop := ∀ (w : World) (rb : Nat) (s : ByteArray) (H : Nat → Option Obj) (st : St) (ex : Ex) (st' : St), expS T n st = some (ex, st') → PSt exKw w rb s T st → Fz H w → H rb = none →
  Calls Tryz.prog 69 #[rdV rb] w fun e w' => EOut w w' rb s T H st.k st' e ex

theorem need_bad {T : List Tok} {st : St} {x : List UInt8} (h : 0 ≤ st.bad) : needS T st x = st := by
  unfold needS
  rw [if_neg (by simp [isS]; intro h'; omega), if_neg (by omega)]
theorem exp_bad_st {T : List Tok} {n : Nat} {st : St} {x : Ex} {st' : St} (h : 0 ≤ st.bad) (hs : expS T n st = some (x, st')) : st' = st := by
  cases n with
  | zero => simp [expS] at hs
  | succ n =>
    rw [expS, if_pos h] at hs
    cases hs
    rfl
theorem need_k {T : List Tok} {st : St} {x : List UInt8} : st.k ≤ (needS T st x).k := by
  unfold needS
  split
  · show st.k ≤ st.k + 1; omega
  · exact Nat.le_refl _
theorem need_good {T : List Tok} {st : St} {x : List UInt8} (h : (needS T st x).bad < 0) : (needS T st x).k = st.k + 1 := by
  unfold needS at h ⊢
  split
  · rfl
  · rename_i hn
    rw [if_neg hn] at h
    simp only at h
    split at h
    · omega
    · omega

/-- A new expression over its parts. -/
theorem node_rep {w : World} {H : Nat → Option Obj} (hz : Fz H w) (e : Ex) (vs : List Value) (n : Nat) (o : Obj) (hk : vs.length = e.kids.length) (hkids : ∀ (i : Nat) (y : Ex) (u : Value), vs[i]? = some u → e.kids[i]? = some y → PRep n H u y)
    (hn : ∀ H', Ext w.heap.size H H' → H' w.heap.size = some o → PNode H' e vs (exDeep (n + 1) e) w.heap.size) :
    ∃ H', Fz H' (w.alloc o) ∧ Ext w.heap.size H H' ∧ PRep (n + 1) H' (.iface (pT e.op) (.pointer (some ⟨w.heap.size, 0, none⟩))) e := by
  have n1 : H w.heap.size = none := hz.none (Nat.le_refl _)
  have ext : Ext w.heap.size H (Fz.more H w.heap.size o) := (Ext.refl _ _).add (Nat.le_refl _) n1
  refine ⟨Fz.more H w.heap.size o, (hz.alloc _).add (heap_alloc_new _ _), ext, w.heap.size, vs, rfl, hn _ ext (Fz.more_same _ _ _), hk, fun i y u h1 h2 => PRep.ext ext _ _ _ (hkids i y u h1 h2)⟩
theorem Fz.grown {H : Nat → Option Obj} {w w' : World} (h : Fz H w) (hg : w.grownBy w' Option.none) : Fz H w' := fun k o e => by
  rw [hg.block k (h.lt e) (by simp)]
  exact h k o e
theorem Ext.from {n m : Nat} {H H' : Nat → Option Obj} (h : Ext m H H') (hn : n ≤ m) : Ext n H H' := ⟨h.1, fun k hk => h.2 k (by omega)⟩
theorem deep_pos {m : Nat} {H : Nat → Option Obj} {v : Value} {x : Ex} (h : PRep m H v x) : 0 < exDeep m x := by
  cases m with
  | zero => exact absurd h id
  | succ m => show 0 < maxl _ + 1; omega

set_option maxRecDepth 100000 in
set_option maxHeartbeats 1000000 in
theorem fun_p (T : List Tok) (n : Nat) (hl : T.length ≤ 400) (hE : EXPP T n) (w : World) (rb : Nat) (s : ByteArray) (H : Nat → Option Obj) (st : St) (y : Ex) (st4 : St) (p : Nat)
    (hs : expS T n (needS T (needS T st kName) kArrow) = some (y, st4)) (h : PSt exKw w rb s T st) (hz : Fz H w) (hr : H rb = none) :
    Calls Tryz.prog 110 #[rdV rb] w fun e w' => EOut w w' rb s T H st.k st4 e ⟨kFun, [(tk T st.k).s], [y], p⟩ := by
  have hlt := h.lt
  have HP := hid (h.alloc (.cells #[.pointer (some ⟨rb, 0, none⟩)] 153))
  have HZ := hid hz
  have HE := hid hE
  have HS := hid hs
  have HK0 := hid ((Kept.refl rb w).alloc (.cells #[.pointer (some ⟨rb, 0, none⟩)] 153))
  clear h hz hE hs
  unfold rdV
  go_enter Tryz.func110, Tryz.ntmps110
  go_wp2_with fail
  refine (name_p _ rb s T st HP.out).mono ?_
  rintro e w1 ⟨k1, (⟨rfl, p1⟩ | ⟨hb, b, rfl, hrf⟩)⟩
  · have b1 : w1.cell? ⟨w.heap.size, 0, none⟩ = some (.pointer (some ⟨rb, 0, none⟩)) := by
      rw [kept_cell k1 (by simp) (by omega)]
      simp [go_sem]
    have hw1 : w.heap.size < w1.heap.size := by have := k1.size; simp at this; omega
    have P1 := hid p1
    have K1 := hid (HK0.out.trans k1)
    clear p1 k1
    go_wp2_with fail
    refine (must_p exKw exKw_ok _ rb s T (needS T st kName) kArrow P1.out (Or.inr (by decide))).mono ?_
    rintro e w2 ⟨k2, (⟨rfl, p2⟩ | ⟨hb, b, rfl, hrf⟩)⟩
    · have b2 : w2.cell? ⟨w.heap.size, 0, none⟩ = some (.pointer (some ⟨rb, 0, none⟩)) := by
        rw [kept_cell k2 hw1 (by omega)]
        exact b1
      have hw2 : w1.heap.size ≤ w2.heap.size := k2.size
      have P2 := hid p2
      have K2 := hid (K1.out.trans k2)
      clear p2 k2 b1
      go_wp2_with fail
      refine (HE.out _ rb s H _ y st4 HS.out P2.out (HZ.out.kept K2.out hr) hr).mono ?_
      rintro e w3 ⟨k3, (⟨v, H3, m, rfl, p3, z3, e3, r3, d3⟩ | ⟨hb, b, rfl, hrf⟩)⟩
      · obtain ⟨tv, bv, htv, rfl, hbv, hcv⟩ := r3.dat z3
        have P3 := hid p3
        have K3 := hid (K2.out.trans k3)
        have Z3 := hid z3
        have E3 := hid e3
        have R3 := hid r3
        have D3 := hid d3
        have hkk := p3.klt
        have dat := r3.dat (w := w3.alloc (.cells #[.iface tv (.pointer (some ⟨bv, 0, none⟩))] 101)) (z3.alloc _)
        have DA := hid dat
        have hw4 : w2.heap.size ≤ w3.heap.size := k3.size
        have hn1 := need_good P1.out.neg
        have hn2 := need_good P2.out.neg
        clear p3 k3 z3 e3 r3 dat b2
        go_wp2_with fail
        refine (above_p _ (some ⟨w3.heap.size, 0, none⟩) 1 [.iface tv (.pointer (some ⟨bv, 0, none⟩))] [exDeep m y] rfl (by simp) ?_ ?_ ?_).mono ?_
        · intro i u hu
          cases i with
          | zero => simp at hu; subst hu; exact ⟨_, rfl, by simp, by simp [go_sem]⟩
          | succ i => simp at hu
        · intro i u d hu hd
          cases i with
          | zero => simp at hu hd; subst hu hd; exact DA.out
          | succ i => simp at hu
        · simp [maxl]; omega
        rintro e w4 ⟨rfl, g4⟩
        have G4 := hid g4
        clear g4
        go_wp2
        go_ret
        obtain ⟨H5, z5, x5, r5⟩ := node_rep (w := w4) (H := H3) ((Z3.out.alloc _).grown G4.out) ⟨kFun, [(tk T st.k).s], [y], p⟩ [.iface tv (.pointer (some ⟨bv, 0, none⟩))] m (.cells #[.int .i64 ((exDeep (m + 1) ⟨kFun, [(tk T st.k).s], [y], p⟩ : Nat) : Int), .string (B (tk T st.k).s), .iface tv (.pointer (some ⟨bv, 0, none⟩))] 180) rfl
          (fun i z u h1 h2 => by
            cases i with
            | zero => simp at h1 h2; subst h1 h2; exact R3.out
            | succ i => simp at h1)
          (fun H' _ h2 => Or.inr (Or.inr (Or.inl ⟨rfl, _, _, rfl, rfl, rfl, h2⟩)))
        have hw3 : w3.heap.size ≤ w4.heap.size := by have := G4.out.size; simp at this; omega
        refine ⟨((K3.out.alloc _).trans (Kept.of0 rb G4.out)).alloc _, Or.inl ⟨_, H5, m + 1, rfl, ((P3.out.alloc _).grown G4.out).alloc _, z5, (E3.out.from (by omega)).trans x5 (by omega), r5, ?_⟩⟩
        have hd : exDeep (m + 1) ⟨kFun, [(tk T st.k).s], [y], p⟩ = exDeep m y + 1 := by simp [exDeep, maxl]
        have := D3.out
        omega
      · unfold refusal
        go_wp2
        exact ⟨rfl, K2.out.trans k3, Or.inr ⟨hb, b, rfl, hrf⟩⟩
    · have e4 := exp_bad_st hb HS.out
      unfold refusal
      go_wp2
      exact ⟨rfl, K1.out.trans k2, Or.inr ⟨by rw [e4]; exact hb, b, rfl, by rw [e4]; exact hrf⟩⟩
  · have e3 : needS T (needS T st kName) kArrow = needS T st kName := need_bad hb
    have e4 := exp_bad_st (by rw [e3]; exact hb) HS.out
    rw [e3] at e4
    unfold refusal
    go_wp2
    exact ⟨rfl, HK0.out.trans k1, Or.inr ⟨by rw [e4]; exact hb, b, rfl, by rw [e4]; exact hrf⟩⟩
end Go.Proofs.YtcdijppegfcoaabGreatDoor

/-
  OUR OWN TEXT. The program's reader: a choice.
-/
namespace Go.Proofs.YtcdijppegfcoaabGreatDoor
open Go.RowKit

theorem row3 {w : World} {t : TypeId} {a b c : Value} : ∀ (i : Nat) (u : Value), [a, b, c][i]? = some u → ∃ g, some (⟨w.heap.size, 0, none⟩ : Addr) = some ⟨g, 0, none⟩ ∧ g < (w.alloc (.cells #[a, b, c] t)).heap.size ∧ (w.alloc (.cells #[a, b, c] t)).cell? ⟨g, i, none⟩ = some u := by
  intro i u hu
  match i, hu with
  | 0, hu => simp at hu; subst hu; exact ⟨_, rfl, by simp, by simp [go_sem]⟩
  | 1, hu => simp at hu; subst hu; exact ⟨_, rfl, by simp, by simp [go_sem]⟩
  | 2, hu => simp at hu; subst hu; exact ⟨_, rfl, by simp, by simp [go_sem]⟩
  | i + 3, hu => simp at hu
theorem row2 {w : World} {t : TypeId} {a b : Value} : ∀ (i : Nat) (u : Value), [a, b][i]? = some u → ∃ g, some (⟨w.heap.size, 0, none⟩ : Addr) = some ⟨g, 0, none⟩ ∧ g < (w.alloc (.cells #[a, b] t)).heap.size ∧ (w.alloc (.cells #[a, b] t)).cell? ⟨g, i, none⟩ = some u := by
  intro i u hu
  match i, hu with
  | 0, hu => simp at hu; subst hu; exact ⟨_, rfl, by simp, by simp [go_sem]⟩
  | 1, hu => simp at hu; subst hu; exact ⟨_, rfl, by simp, by simp [go_sem]⟩
  | i + 2, hu => simp at hu
theorem all3 {p : Value → Nat → Prop} {a b c : Value} {x y z : Nat} (h1 : p a x) (h2 : p b y) (h3 : p c z) : ∀ (i : Nat) (u : Value) (d : Nat), [a, b, c][i]? = some u → [x, y, z][i]? = some d → p u d := by
  intro i u d hu hd
  match i, hu, hd with
  | 0, hu, hd => simp at hu hd; subst hu hd; exact h1
  | 1, hu, hd => simp at hu hd; subst hu hd; exact h2
  | 2, hu, hd => simp at hu hd; subst hu hd; exact h3
  | i + 3, hu, hd => simp at hu
theorem all2 {p : Value → Nat → Prop} {a b : Value} {x y : Nat} (h1 : p a x) (h2 : p b y) : ∀ (i : Nat) (u : Value) (d : Nat), [a, b][i]? = some u → [x, y][i]? = some d → p u d := by
  intro i u d hu hd
  match i, hu, hd with
  | 0, hu, hd => simp at hu hd; subst hu hd; exact h1
  | 1, hu, hd => simp at hu hd; subst hu hd; exact h2
  | i + 2, hu, hd => simp at hu
theorem kids3 {p : Value → Ex → Prop} {a b c : Value} {x y z : Ex} (h1 : p a x) (h2 : p b y) (h3 : p c z) : ∀ (i : Nat) (q : Ex) (u : Value), [a, b, c][i]? = some u → [x, y, z][i]? = some q → p u q := by
  intro i q u hu hd
  match i, hu, hd with
  | 0, hu, hd => simp at hu hd; subst hu hd; exact h1
  | 1, hu, hd => simp at hu hd; subst hu hd; exact h2
  | 2, hu, hd => simp at hu hd; subst hu hd; exact h3
  | i + 3, hu, hd => simp at hu
theorem kids2 {p : Value → Ex → Prop} {a b : Value} {x y : Ex} (h1 : p a x) (h2 : p b y) : ∀ (i : Nat) (q : Ex) (u : Value), [a, b][i]? = some u → [x, y][i]? = some q → p u q := by
  intro i q u hu hd
  match i, hu, hd with
  | 0, hu, hd => simp at hu hd; subst hu hd; exact h1
  | 1, hu, hd => simp at hu hd; subst hu hd; exact h2
  | i + 2, hu, hd => simp at hu

set_option maxRecDepth 100000 in
set_option maxHeartbeats 1000000 in
theorem choice_p (T : List Tok) (n : Nat) (hl : T.length ≤ 400) (hE : EXPP T n) (w : World) (rb : Nat) (s : ByteArray) (H : Nat → Option Obj) (st : St) (x y z : Ex) (s1 s2 s3 : St) (p : Nat)
    (hx : expS T n st = some (x, s1)) (hy : expS T n (needS T s1 kThen) = some (y, s2)) (hw : expS T n (needS T s2 kElse) = some (z, s3)) (h : PSt exKw w rb s T st) (hz : Fz H w) (hr : H rb = none) :
    Calls Tryz.prog 111 #[rdV rb] w fun e w' => EOut w w' rb s T H st.k s3 e ⟨kIf, [], [x, y, z], p⟩ := by
  have hlt := h.lt
  have HP := hid (h.alloc (.cells #[.pointer (some ⟨rb, 0, none⟩)] 153))
  have HZ := hid (hz.alloc (.cells #[.pointer (some ⟨rb, 0, none⟩)] 153))
  have HE := hid hE
  have HX := hid hx
  have HY := hid hy
  have HW := hid hw
  have K0 := hid ((Kept.refl rb w).alloc (.cells #[.pointer (some ⟨rb, 0, none⟩)] 153))
  have fail2 : 0 ≤ (needS T s2 kElse).bad → s3 = needS T s2 kElse := fun hb => exp_bad_st hb hw
  have fail1 : 0 ≤ (needS T s1 kThen).bad → s3 = needS T s1 kThen := fun hb => by
    have e1 := exp_bad_st hb hy
    have e2 : needS T s2 kElse = s2 := need_bad (by rw [e1]; exact hb)
    rw [e2] at fail2
    rw [fail2 (by rw [e1]; exact hb), e1]
  have F1 := hid fail1
  have F2 := hid fail2
  clear h hz hE hx hy hw fail1 fail2
  unfold rdV
  go_enter Tryz.func111, Tryz.ntmps111
  go_wp2_with fail
  refine (HE.out _ rb s H st x s1 HX.out HP.out HZ.out hr).mono ?_
  rintro e w1 ⟨k1, (⟨v1, H1, m1, rfl, p1, z1, e1, r1, d1⟩ | ⟨hb, b, rfl, hrf⟩)⟩
  case inr =>
    have e3 : needS T s1 kThen = s1 := need_bad hb
    have e4 := F1.out (by rw [e3]; exact hb)
    rw [e3] at e4
    unfold refusal
    go_wp2
    exact ⟨rfl, K0.out.trans k1, Or.inr ⟨by rw [e4]; exact hb, b, rfl, by rw [e4]; exact hrf⟩⟩
  case inl =>
  obtain ⟨t1, b1, ht1, rfl, hb1, hc1⟩ := r1.dat z1
  have bx1 : w1.cell? ⟨w.heap.size, 0, none⟩ = some (.pointer (some ⟨rb, 0, none⟩)) := by
    rw [kept_cell k1 (by simp) (by omega)]
    simp [go_sem]
  have hw1 : w.heap.size < w1.heap.size := by have := k1.size; simp at this; omega
  have hr1 : H1 rb = none := by rw [e1.2 rb (by simp; omega)]; exact hr
  have P1 := hid p1
  have K1 := hid (K0.out.trans k1)
  have Z1 := hid z1
  have E1 := hid (e1.from (n := w.heap.size) (by simp))
  have R1 := hid r1
  have D1 := hid d1
  clear p1 k1 z1 e1 r1 d1 hb1 hc1
  go_wp2_with fail
  refine (must_p exKw exKw_ok _ rb s T s1 kThen P1.out (Or.inl (by decide))).mono ?_
  rintro e w2 ⟨k2, (⟨rfl, p2⟩ | ⟨hb, b, rfl, hrf⟩)⟩
  case inr =>
    have e4 := F1.out hb
    unfold refusal
    go_wp2
    exact ⟨rfl, K1.out.trans k2, Or.inr ⟨by rw [e4]; exact hb, b, rfl, by rw [e4]; exact hrf⟩⟩
  case inl =>
  have bx2 : w2.cell? ⟨w.heap.size, 0, none⟩ = some (.pointer (some ⟨rb, 0, none⟩)) := by
    rw [kept_cell k2 hw1 (by omega)]
    exact bx1
  have hw2 : w1.heap.size ≤ w2.heap.size := k2.size
  have P2 := hid p2
  have K2 := hid (K1.out.trans k2)
  have Z2 := hid (Z1.out.kept k2 hr1)
  clear p2 k2 bx1
  go_wp2_with fail
  refine (HE.out _ rb s H1 _ y s2 HY.out P2.out Z2.out hr1).mono ?_
  rintro e w3 ⟨k3, (⟨v2, H3, m2, rfl, p3, z3, e3, r3, d3⟩ | ⟨hb, b, rfl, hrf⟩)⟩
  case inr =>
    have e3 : needS T s2 kElse = s2 := need_bad hb
    have e4 := F2.out (by rw [e3]; exact hb)
    rw [e3] at e4
    unfold refusal
    go_wp2
    exact ⟨rfl, K2.out.trans k3, Or.inr ⟨by rw [e4]; exact hb, b, rfl, by rw [e4]; exact hrf⟩⟩
  case inl =>
  obtain ⟨t2, b2, ht2, rfl, hb2, hc2⟩ := r3.dat z3
  have bx3 : w3.cell? ⟨w.heap.size, 0, none⟩ = some (.pointer (some ⟨rb, 0, none⟩)) := by
    rw [kept_cell k3 (by omega) (by omega)]
    exact bx2
  have hw3 : w2.heap.size ≤ w3.heap.size := k3.size
  have hr3 : H3 rb = none := by rw [e3.2 rb (by omega)]; exact hr1
  have P3 := hid p3
  have K3 := hid (K2.out.trans k3)
  have Z3 := hid z3
  have E3 := hid (e3.from (n := w.heap.size) (by omega))
  have R3 := hid r3
  have D3 := hid d3
  clear p3 k3 z3 e3 r3 d3 hb2 hc2 bx2
  go_wp2_with fail
  refine (must_p exKw exKw_ok _ rb s T s2 kElse P3.out (Or.inl (by decide))).mono ?_
  rintro e w4 ⟨k4, (⟨rfl, p4⟩ | ⟨hb, b, rfl, hrf⟩)⟩
  case inr =>
    have e4 := F2.out hb
    unfold refusal
    go_wp2
    exact ⟨rfl, K3.out.trans k4, Or.inr ⟨by rw [e4]; exact hb, b, rfl, by rw [e4]; exact hrf⟩⟩
  case inl =>
  have bx4 : w4.cell? ⟨w.heap.size, 0, none⟩ = some (.pointer (some ⟨rb, 0, none⟩)) := by
    rw [kept_cell k4 (by omega) (by omega)]
    exact bx3
  have hw4 : w3.heap.size ≤ w4.heap.size := k4.size
  have P4 := hid p4
  have K4 := hid (K3.out.trans k4)
  have Z4 := hid (Z3.out.kept k4 hr3)
  clear p4 k4 bx3
  go_wp2_with fail
  refine (HE.out _ rb s H3 _ z s3 HW.out P4.out Z4.out hr3).mono ?_
  rintro e w5 ⟨k5, (⟨v3, H5, m3, rfl, p5, z5, e5, r5, d5⟩ | ⟨hb, b, rfl, hrf⟩)⟩
  case inr =>
    unfold refusal
    go_wp2
    exact ⟨rfl, K4.out.trans k5, Or.inr ⟨hb, b, rfl, hrf⟩⟩
  case inl =>
  obtain ⟨t3, b3, ht3, rfl, hb3, hc3⟩ := r5.dat z5
  have hw5 : w4.heap.size ≤ w5.heap.size := k5.size
  have hn1 := need_good P2.out.neg
  have hn2 := need_good P4.out.neg
  have hkk := p5.klt
  obtain ⟨M, hM⟩ : ∃ M, M = max m1 (max m2 m3) := ⟨_, rfl⟩
  have RA : Hid (PRep M H5 (.iface t1 (.pointer (some ⟨b1, 0, none⟩))) x) := (PRep.ext e5 _ _ _ (PRep.ext E3.out _ _ _ R1.out)).le (by omega)
  have RB : Hid (PRep M H5 (.iface t2 (.pointer (some ⟨b2, 0, none⟩))) y) := (PRep.ext e5 _ _ _ R3.out).le (by omega)
  have RC : Hid (PRep M H5 (.iface t3 (.pointer (some ⟨b3, 0, none⟩))) z) := r5.le (by omega)
  have q1 : exDeep M x = exDeep m1 x := deep_le (PRep.shape _ _ _ R1.out) (by omega)
  have q2 : exDeep M y = exDeep m2 y := deep_le (PRep.shape _ _ _ R3.out) (by omega)
  have q3 : exDeep M z = exDeep m3 z := deep_le (PRep.shape _ _ _ r5) (by omega)
  have D5 := hid (show max (exDeep M x) (max (exDeep M y) (exDeep M z)) + 1 + st.k ≤ s3.k ∧ s3.k < T.length by
    have := D1.out
    have := D3.out
    have := deep_pos R1.out
    have := deep_pos R3.out
    have := deep_pos r5
    omega)
  have ZA := hid (z5.alloc (.cells #[(.iface t1 (.pointer (some ⟨b1, 0, none⟩))), (.iface t2 (.pointer (some ⟨b2, 0, none⟩))), (.iface t3 (.pointer (some ⟨b3, 0, none⟩)))] 101))
  have P5 := hid p5
  have K5 := hid (K4.out.trans k5)
  have E5 := hid (((E1.out.trans E3.out (Nat.le_refl _)).trans (e5.from (n := w.heap.size) (by omega)) (Nat.le_refl _)))
  clear p5 k5 z5 e5 r5 d5 hb3 hc3 bx4 hM q1 q2 q3
  go_wp2_with fail
  refine (above_p _ (some ⟨w5.heap.size, 0, none⟩) 3 [(.iface t1 (.pointer (some ⟨b1, 0, none⟩))), (.iface t2 (.pointer (some ⟨b2, 0, none⟩))), (.iface t3 (.pointer (some ⟨b3, 0, none⟩)))] [exDeep M x, exDeep M y, exDeep M z] rfl (by simp) row3 (all3 (p := fun u d => DAt _ u d) (RA.out.dat ZA.out) (RB.out.dat ZA.out) (RC.out.dat ZA.out)) (by have := D5.out; simp [maxl]; omega)).mono ?_
  rintro e w6 ⟨rfl, g6⟩
  have G6 := hid g6
  clear g6
  go_wp2
  go_ret
  obtain ⟨H7, z7, x7, r7⟩ := node_rep (w := w6) (H := H5) (ZA.out.grown G6.out) ⟨kIf, [], [x, y, z], p⟩ [(.iface t1 (.pointer (some ⟨b1, 0, none⟩))), (.iface t2 (.pointer (some ⟨b2, 0, none⟩))), (.iface t3 (.pointer (some ⟨b3, 0, none⟩)))] M (.cells #[.int .i64 ((exDeep (M + 1) ⟨kIf, [], [x, y, z], p⟩ : Nat) : Int), (.iface t1 (.pointer (some ⟨b1, 0, none⟩))), (.iface t2 (.pointer (some ⟨b2, 0, none⟩))), (.iface t3 (.pointer (some ⟨b3, 0, none⟩)))] 183) rfl
    (kids3 (p := fun u q => PRep M H5 u q) RA.out RB.out RC.out)
    (fun H' _ h2 => Or.inr (Or.inr (Or.inr (Or.inl ⟨rfl, _, _, _, rfl, rfl, h2⟩))))
  have hw6 : w5.heap.size ≤ w6.heap.size := by have := G6.out.size; simp at this; omega
  refine ⟨((K5.out.alloc _).trans (Kept.of0 rb G6.out)).alloc _, Or.inl ⟨_, H7, M + 1, rfl, ((P5.out.alloc _).grown G6.out).alloc _, z7, E5.out.trans x7 (by omega), r7, ?_⟩⟩
  have hd : exDeep (M + 1) ⟨kIf, [], [x, y, z], p⟩ = max (exDeep M x) (max (exDeep M y) (exDeep M z)) + 1 := by simp [exDeep, maxl]
  have := D5.out
  omega
end Go.Proofs.YtcdijppegfcoaabGreatDoor

/-
  OUR OWN TEXT. The program's reader: a name and what it is; let.
-/
namespace Go.Proofs.YtcdijppegfcoaabGreatDoor
open Go.RowKit

theorem row2h {wx : World} {g : Nat} {t : TypeId} {a b : Value} (h : wx.heap[g]? = some (.cells #[a, b] t (0, 0))) : ∀ (i : Nat) (u : Value), [a, b][i]? = some u → ∃ g', some (⟨g, 0, none⟩ : Addr) = some ⟨g', 0, none⟩ ∧ g' < wx.heap.size ∧ wx.cell? ⟨g', i, none⟩ = some u := by
  intro i u hu
  have hl := lt_of_block h
  match i, hu with
  | 0, hu => simp at hu; subst hu; exact ⟨_, rfl, hl, by simp [World.cell?, h]⟩
  | 1, hu => simp at hu; subst hu; exact ⟨_, rfl, hl, by simp [World.cell?, h]⟩
  | i + 2, hu => simp at hu
theorem two_c {w : World} {b : Nat} {p q : Value} {t : TypeId} (h : w.heap[b]? = some (.cells #[p, q] t (0, 0))) : w.cell? ⟨b, 0, none⟩ = some p ∧ w.cell? ⟨b, 1, none⟩ = some q := by
  simp [World.cell?, h]
/-- What bind leaves. -/
def BOut (w w' : World) (rb : Nat) (s : ByteArray) (T : List Tok) (H : Nat → Option Obj) (st st' : St) (e : Ending) (ex : Ex) : Prop :=
  Kept rb w w' ∧ ((∃ t b H' m, IsTy t ∧ e = .returned (.agg #[.string (B (tk T st.k).s), (.iface t (.pointer (some ⟨b, 0, none⟩)))]) ∧ PSt exKw w' rb s T st' ∧ Fz H' w' ∧ Ext w.heap.size H H' ∧ PRep m H' (.iface t (.pointer (some ⟨b, 0, none⟩))) ex ∧ exDeep m ex + st.k + 2 ≤ st'.k) ∨ (0 ≤ st'.bad ∧ Refused w' e st'.bad))

theorem Kept.setNew {rb : Nat} {w w' : World} (h : Kept rb w w') {b : Nat} (hb : w.heap.size ≤ b) (i : Nat) (v : Value) : Kept rb w (w'.setCell ⟨b, i, none⟩ v) :=
  ⟨h.os, h.tape, h.output, by have := h.size; simp [World.setCell] at this ⊢; omega, fun k hk hn => by rw [Below.heap_setCell _ _ _ _ (by show k ≠ b; omega)]; exact h.block k hk hn⟩
theorem PSt.set {kw : List (List UInt8)} {w : World} {rb : Nat} {s : ByteArray} {T : List Tok} {st : St} (h : PSt kw w rb s T st) {b : Nat} (hb : b ≠ rb) (i : Nat) (v : Value) : PSt kw (w.setCell ⟨b, i, none⟩ v) rb s T st := by
  obtain ⟨h1, ⟨J, h2, h3⟩, h4⟩ := h
  exact ⟨h1, ⟨J, h2, by unfold Rdr; rw [Below.heap_setCell _ _ _ _ (by show rb ≠ b; omega)]; exact h3⟩, h4⟩

set_option maxRecDepth 100000 in
set_option maxHeartbeats 1000000 in
theorem bind_p (T : List Tok) (n : Nat) (hE : EXPP T n) (w : World) (rb : Nat) (s : ByteArray) (H : Nat → Option Obj) (st : St) (y : Ex) (st4 : St)
    (hs : expS T n (needS T (needS T st kName) kEq) = some (y, st4)) (h : PSt exKw w rb s T st) (hz : Fz H w) (hr : H rb = none) :
    Calls Tryz.prog 144 #[rdV rb] w fun e w' => BOut w w' rb s T H st st4 e y := by
  have hlt := h.lt
  have hn1 : H (w.heap.size + 1) = none := hz.none (by omega)
  have HP := hid ((h.alloc (.cells #[.pointer (some ⟨rb, 0, none⟩)] 153)).alloc (.cells #[.string (B []), .nilIface] 187))
  have HZ := hid ((hz.alloc (.cells #[.pointer (some ⟨rb, 0, none⟩)] 153)).alloc (.cells #[.string (B []), .nilIface] 187))
  have HE := hid hE
  have HS := hid hs
  have K0 := hid (((Kept.refl rb w).alloc (.cells #[.pointer (some ⟨rb, 0, none⟩)] 153)).alloc (.cells #[.string (B []), .nilIface] 187))
  clear h hz hE hs
  unfold rdV
  go_enter Tryz.func144, Tryz.ntmps144
  go_wp2_with fail
  refine (name_p _ rb s T st HP.out).mono ?_
  rintro e w1 ⟨k1, (⟨rfl, p1⟩ | ⟨hb, b, rfl, hrf⟩)⟩
  case inr =>
    have e3 : needS T (needS T st kName) kEq = needS T st kName := need_bad hb
    have e4 := exp_bad_st (by rw [e3]; exact hb) HS.out
    rw [e3] at e4
    unfold refusal
    go_wp2
    exact ⟨rfl, K0.out.trans k1, Or.inr ⟨by rw [e4]; exact hb, b, rfl, by rw [e4]; exact hrf⟩⟩
  case inl =>
  have bx1 : w1.cell? ⟨w.heap.size, 0, none⟩ = some (.pointer (some ⟨rb, 0, none⟩)) := by
    rw [kept_cell k1 (by simp; omega) (by omega)]
    exact cell_past (by simp [go_sem]) _
  have rc1 : w1.heap[w.heap.size + 1]? = some (.cells #[.string (B []), .nilIface] 187 (0, 0)) := by
    rw [k1.block _ (by simp) (by simp; omega)]
    exact heap_alloc_at _ _ _ (by simp)
  have hw1 : w.heap.size + 1 < w1.heap.size := lt_of_block rc1
  have P1 := hid p1
  have K1 := hid (K0.out.trans k1)
  have Z1 := hid (HZ.out.kept k1 hr)
  clear p1 k1
  go_wp2_with fail
  refine (must_p exKw exKw_ok _ rb s T (needS T st kName) kEq P1.out (Or.inr (by decide))).mono ?_
  rintro e w2 ⟨k2, (⟨rfl, p2⟩ | ⟨hb, b, rfl, hrf⟩)⟩
  case inr =>
    have e4 := exp_bad_st hb HS.out
    unfold refusal
    go_wp2
    exact ⟨rfl, K1.out.trans k2, Or.inr ⟨by rw [e4]; exact hb, b, rfl, by rw [e4]; exact hrf⟩⟩
  case inl =>
  have bx2 : w2.cell? ⟨w.heap.size, 0, none⟩ = some (.pointer (some ⟨rb, 0, none⟩)) := by
    rw [kept_cell k2 (by omega) (by omega)]
    exact bx1
  have rc2 : w2.heap[w.heap.size + 1]? = some (.cells #[.string (B []), .nilIface] 187 (0, 0)) := by
    rw [k2.block _ (by omega) (by simp; omega)]
    exact rc1
  have hw2 : w1.heap.size ≤ w2.heap.size := k2.size
  have P2 := hid p2
  have K2 := hid (K1.out.trans k2)
  have Z2 := hid (Z1.out.kept k2 hr)
  clear p2 k2 bx1 rc1
  go_wp2_with fail
  refine (HE.out _ rb s H _ y st4 HS.out P2.out Z2.out hr).mono ?_
  rintro e w3 ⟨k3, (⟨v1, H3, m, rfl, p3, z3, e3, r3, d3⟩ | ⟨hb, b, rfl, hrf⟩)⟩
  case inr =>
    unfold refusal
    go_wp2
    exact ⟨rfl, K2.out.trans k3, Or.inr ⟨hb, b, rfl, hrf⟩⟩
  case inl =>
  obtain ⟨t1, b1, ht1, rfl, hb1, hc1⟩ := r3.dat z3
  have rc3 : w3.heap[w.heap.size + 1]? = some (.cells #[.string (B []), .nilIface] 187 (0, 0)) := by
    rw [k3.block _ (by omega) (by simp; omega)]
    exact rc2
  have c0 : w3.cell? ⟨w.heap.size + 1, 0, none⟩ = some (.string (B [])) := by simp [World.cell?, rc3]
  have c1 : w3.cell? ⟨w.heap.size + 1, 1, none⟩ = some .nilIface := by simp [World.cell?, rc3]
  have f0 : w3.frozen? ⟨w.heap.size + 1, 0, none⟩ = false := by simp [World.frozen?, rc3]
  have f1 : w3.frozen? ⟨w.heap.size + 1, 1, none⟩ = false := by simp [World.frozen?, rc3]
  have hH : H3 (w.heap.size + 1) = none := by rw [e3.2 _ (by omega)]; exact hn1
  have hq1 := need_good P1.out.neg
  have hq2 := need_good P2.out.neg
  have Q := hid (And.intro p3 (And.intro (K2.out.trans k3) (And.intro z3 (And.intro (e3.from (n := w.heap.size) (by omega)) (And.intro r3 d3)))))
  clear p3 k3 z3 e3 r3 d3 bx2 rc2 rc3 hb1 hc1
  go_wp2
  refine bodyPost_ret (v := .agg #[.string (B (tk T st.k).s), (.iface t1 (.pointer (some ⟨b1, 0, none⟩)))]) (by simp [results, Tryz.results144, go_sem, c0, c1]) rfl ?_
  obtain ⟨p3, k3, z3, e3, r3, d3⟩ := Q.out
  refine ⟨(k3.setNew (by omega) _ _).setNew (by omega) _ _, Or.inl ⟨t1, b1, H3, m, ht1, rfl, (p3.set (by omega) _ _).set (by omega) _ _, (z3.set hH _ _).set hH _ _, e3, r3, by omega⟩⟩

set_option maxRecDepth 100000 in
set_option maxHeartbeats 4000000 in
theorem let_p (T : List Tok) (n : Nat) (hl : T.length ≤ 400) (hE : EXPP T n) (w : World) (rb : Nat) (s : ByteArray) (H : Nat → Option Obj) (st : St) (x y : Ex) (s1 s3 : St) (p : Nat)
    (hx : expS T n (needS T (needS T st kName) kEq) = some (x, s1)) (hw : expS T n (needS T s1 kIn) = some (y, s3)) (h : PSt exKw w rb s T st) (hz : Fz H w) (hr : H rb = none) :
    Calls Tryz.prog 113 #[rdV rb] w fun e w' => EOut w w' rb s T H st.k s3 e ⟨kLet, [(tk T st.k).s], [x, y], p⟩ := by
  have hlt := h.lt
  have HP := hid (h.alloc (.cells #[.pointer (some ⟨rb, 0, none⟩)] 153))
  have HZ := hid (hz.alloc (.cells #[.pointer (some ⟨rb, 0, none⟩)] 153))
  have HE := hid hE
  have HX := hid hx
  have HW := hid hw
  have K0 := hid ((Kept.refl rb w).alloc (.cells #[.pointer (some ⟨rb, 0, none⟩)] 153))
  have F2 := hid (show 0 ≤ (needS T s1 kIn).bad → s3 = needS T s1 kIn from fun hb => exp_bad_st hb hw)
  clear h hz hE hx hw
  unfold rdV
  go_enter Tryz.func113, Tryz.ntmps113
  go_wp2_with fail
  refine (bind_p T n HE.out _ rb s H st x s1 HX.out HP.out HZ.out hr).mono ?_
  rintro e w1 ⟨k1, (⟨t1, b1, H1, m1, ht1, rfl, p1, z1, e1, r1, d1⟩ | ⟨hb, b, rfl, hrf⟩)⟩
  case inr =>
    have e3 : needS T s1 kIn = s1 := need_bad hb
    have e4 := F2.out (by rw [e3]; exact hb)
    rw [e3] at e4
    unfold refusal
    go_wp2
    exact ⟨rfl, K0.out.trans k1, Or.inr ⟨by rw [e4]; exact hb, b, rfl, by rw [e4]; exact hrf⟩⟩
  case inl =>
  have bx1 : (w1.alloc (.cells #[.string (B (tk T st.k).s), (.iface t1 (.pointer (some ⟨b1, 0, none⟩)))] 187)).cell? ⟨w.heap.size, 0, none⟩ = some (.pointer (some ⟨rb, 0, none⟩)) := by
    refine cell_past ?_ _
    rw [kept_cell k1 (by simp) (by omega)]
    simp [go_sem]
  have hw1 : w.heap.size < w1.heap.size := by have := k1.size; simp at this; omega
  have hr1 : H1 rb = none := by rw [e1.2 rb (by simp; omega)]; exact hr
  have P1 := hid (p1.alloc (.cells #[.string (B (tk T st.k).s), (.iface t1 (.pointer (some ⟨b1, 0, none⟩)))] 187))
  have K1 := hid ((K0.out.trans k1).alloc (.cells #[.string (B (tk T st.k).s), (.iface t1 (.pointer (some ⟨b1, 0, none⟩)))] 187))
  have Z1 := hid (z1.alloc (.cells #[.string (B (tk T st.k).s), (.iface t1 (.pointer (some ⟨b1, 0, none⟩)))] 187))
  have E1 := hid (e1.from (n := w.heap.size) (by simp))
  have R1 := hid r1
  have D1 := hid d1
  clear p1 k1 z1 e1 r1 d1
  go_wp2_with fail
  refine (must_p exKw exKw_ok _ rb s T s1 kIn P1.out (Or.inl (by decide))).mono ?_
  rintro e w2 ⟨k2, (⟨rfl, p2⟩ | ⟨hb, b, rfl, hrf⟩)⟩
  case inr =>
    have e4 := F2.out hb
    unfold refusal
    go_wp2
    exact ⟨rfl, K1.out.trans k2, Or.inr ⟨by rw [e4]; exact hb, b, rfl, by rw [e4]; exact hrf⟩⟩
  case inl =>
  have bx2 : w2.cell? ⟨w.heap.size, 0, none⟩ = some (.pointer (some ⟨rb, 0, none⟩)) := by
    rw [kept_cell k2 (by simp; omega) (by omega)]
    exact bx1
  have rc2 : w2.heap[w1.heap.size]? = some (.cells #[.string (B (tk T st.k).s), (.iface t1 (.pointer (some ⟨b1, 0, none⟩)))] 187 (0, 0)) := by
    rw [k2.block _ (by simp) (by simp; omega)]
    exact heap_alloc_new _ _
  have hw2 : w1.heap.size < w2.heap.size := lt_of_block rc2
  have P2 := hid p2
  have K2 := hid (K1.out.trans k2)
  have Z2 := hid (Z1.out.kept k2 hr1)
  clear p2 k2 bx1
  go_wp2_with fail
  refine (HE.out _ rb s H1 _ y s3 HW.out P2.out Z2.out hr1).mono ?_
  rintro e w3 ⟨k3, (⟨v2, H3, m2, rfl, p3, z3, e3, r3, d3⟩ | ⟨hb, b, rfl, hrf⟩)⟩
  case inr =>
    unfold refusal
    go_wp2
    exact ⟨rfl, K2.out.trans k3, Or.inr ⟨hb, b, rfl, hrf⟩⟩
  case inl =>
  obtain ⟨t2, b2, ht2, rfl, hb2, hc2⟩ := r3.dat z3
  have rc3 : w3.heap[w1.heap.size]? = some (.cells #[.string (B (tk T st.k).s), (.iface t1 (.pointer (some ⟨b1, 0, none⟩)))] 187 (0, 0)) := by
    rw [k3.block _ (by omega) (by simp; omega)]
    exact rc2
  have hw3 : w2.heap.size ≤ w3.heap.size := k3.size
  have hq1 := need_good P2.out.neg
  have hkk := p3.klt
  obtain ⟨M, hM⟩ : ∃ M, M = max m1 m2 := ⟨_, rfl⟩
  have RA : Hid (PRep M H3 (.iface t1 (.pointer (some ⟨b1, 0, none⟩))) x) := (PRep.ext e3 _ _ _ R1.out).le (by omega)
  have RB : Hid (PRep M H3 (.iface t2 (.pointer (some ⟨b2, 0, none⟩))) y) := r3.le (by omega)
  have q1 : exDeep M x = exDeep m1 x := deep_le (PRep.shape _ _ _ R1.out) (by omega)
  have q2 : exDeep M y = exDeep m2 y := deep_le (PRep.shape _ _ _ r3) (by omega)
  have D5 := hid (show max (exDeep M x) (exDeep M y) + 1 + st.k ≤ s3.k ∧ s3.k < T.length by
    have := D1.out
    have := deep_pos R1.out
    have := deep_pos r3
    omega)
  have ZA := hid (z3.alloc (.cells #[(.iface t1 (.pointer (some ⟨b1, 0, none⟩))), (.iface t2 (.pointer (some ⟨b2, 0, none⟩)))] 101))
  have Z3 := hid z3
  have P5 := hid p3
  have K5 := hid (K2.out.trans k3)
  have E5 := hid ((E1.out.trans (e3.from (n := w.heap.size) (by omega)) (Nat.le_refl _)))
  have c0 : w3.cell? ⟨w1.heap.size, 0, none⟩ = some (.string (B (tk T st.k).s)) := by simp [World.cell?, rc3]
  have c1 : w3.cell? ⟨w1.heap.size, 1, none⟩ = some (.iface t1 (.pointer (some ⟨b1, 0, none⟩))) := by simp [World.cell?, rc3]
  have hl1 := lt_of_block rc3
  have a0 := fun x => cell_past c0 x
  have a1 := fun x => cell_past c1 x
  have RC3 := hid rc3
  have AB : Hid (Calls Tryz.prog 143 #[.slice (some ⟨w3.heap.size, 0, none⟩) 2 2] (w3.alloc (.cells #[(.iface t1 (.pointer (some ⟨b1, 0, none⟩))), (.iface t2 (.pointer (some ⟨b2, 0, none⟩)))] 101)).drew fun e w' => e = .returned (.agg #[.int .i64 ((maxl [exDeep M x, exDeep M y] + 1 : Nat) : Int)]) ∧ (w3.alloc (.cells #[(.iface t1 (.pointer (some ⟨b1, 0, none⟩))), (.iface t2 (.pointer (some ⟨b2, 0, none⟩)))] 101)).drew.grownBy w' none) :=
    above_p _ (some ⟨w3.heap.size, 0, none⟩) 2 [(.iface t1 (.pointer (some ⟨b1, 0, none⟩))), (.iface t2 (.pointer (some ⟨b2, 0, none⟩)))] [exDeep M x, exDeep M y] rfl (by simp) (row2 (w := w3) (t := 101)) (all2 (p := fun u d => DAt _ u d) (RA.out.dat ZA.out.drew) (RB.out.dat ZA.out.drew)) (by have := D5.out; simp [maxl]; omega)
  clear p3 k3 z3 e3 r3 d3 hb2 hc2 bx2 rc2 hM q1 q2 rc3
  go_wp2_with fail
  go_region_with (go_at_call 143; refine AB.out.mono ?_; rintro e w6 ⟨rfl, g6⟩; have cc := two_c ((g6.block w1.heap.size (by simp; omega) (by simp)).trans ((Below.heap_alloc _ _ _ hl1).trans RC3.out)); have G6 := hid g6; clear g6; obtain ⟨cc0, cc1⟩ := cc)
  all_goals
    go_wp2
    go_ret
    obtain ⟨H7, z7, x7, r7⟩ := node_rep (w := w6) (H := H3) (ZA.out.drew.grown G6.out) ⟨kLet, [(tk T st.k).s], [x, y], p⟩ [(.iface t1 (.pointer (some ⟨b1, 0, none⟩))), (.iface t2 (.pointer (some ⟨b2, 0, none⟩)))] M (.cells #[.int .i64 ((exDeep (M + 1) ⟨kLet, [(tk T st.k).s], [x, y], p⟩ : Nat) : Int), .string (B (tk T st.k).s), (.iface t1 (.pointer (some ⟨b1, 0, none⟩))), (.iface t2 (.pointer (some ⟨b2, 0, none⟩)))] 189) rfl
      (kids2 (p := fun u q => PRep M H3 u q) RA.out RB.out)
      (fun H' _ h2 => Or.inr (Or.inr (Or.inr (Or.inr (Or.inl ⟨rfl, _, _, _, rfl, rfl, rfl, h2⟩)))))
    have hw6 : w3.heap.size ≤ w6.heap.size := by have := G6.out.size; simp at this; omega
    refine ⟨((K5.out.alloc _).drew.trans (Kept.of0 rb G6.out)).alloc _, Or.inl ⟨_, H7, M + 1, rfl, ((P5.out.alloc _).drew.grown G6.out).alloc _, z7, E5.out.trans x7 (by omega), r7, ?_⟩⟩
    have hd : exDeep (M + 1) ⟨kLet, [(tk T st.k).s], [x, y], p⟩ = max (exDeep M x) (exDeep M y) + 1 := by simp [exDeep, maxl]
    have := D5.out
    omega
end Go.Proofs.YtcdijppegfcoaabGreatDoor

/-
  OUR OWN TEXT. The program's reader: brackets, atoms.
-/
namespace Go.Proofs.YtcdijppegfcoaabGreatDoor
open Go.RowKit

theorem isS_bad {T : List Tok} {st : St} {x : List UInt8} (h : 0 ≤ st.bad) : isS T st x = false := by
  simp only [isS, Bool.and_eq_false_iff, decide_eq_false_iff_not]
  exact Or.inl (by omega)

set_option maxRecDepth 100000 in
set_option maxHeartbeats 2000000 in
theorem bracketed_p (T : List Tok) (n : Nat) (hl : T.length ≤ 400) (hE : EXPP T n) (w : World) (rb : Nat) (s : ByteArray) (H : Nat → Option Obj) (st : St) (x : Ex) (s1 : St) (ex : Ex) (st' : St) (p : Nat)
    (hx : expS T n st = some (x, s1)) (hy : (if isS T s1 kComma = true then match expS T n s1.up with
        | none => none
        | some (y, s2) => some (⟨oPair, [], [x, y], p⟩, needS T s2 kShut)
      else some (x, needS T s1 kShut)) = some (ex, st')) (h : PSt exKw w rb s T st) (hz : Fz H w) (hr : H rb = none) :
    Calls Tryz.prog 179 #[rdV rb] w fun e w' => EOut w w' rb s T H st.k st' e ex := by
  have hlt := h.lt
  have HP := hid (h.alloc (.cells #[.pointer (some ⟨rb, 0, none⟩)] 153))
  have HZ := hid (hz.alloc (.cells #[.pointer (some ⟨rb, 0, none⟩)] 153))
  have HE := hid hE
  have HX := hid hx
  have HY := hid hy
  have K0 := hid ((Kept.refl rb w).alloc (.cells #[.pointer (some ⟨rb, 0, none⟩)] 153))
  clear h hz hE hx hy
  unfold rdV
  go_enter Tryz.func179, Tryz.ntmps179
  go_wp2_with fail
  refine (HE.out _ rb s H st x s1 HX.out HP.out HZ.out hr).mono ?_
  rintro e w1 ⟨k1, (⟨v1, H1, m1, rfl, p1, z1, e1, r1, d1⟩ | ⟨hb, b, rfl, hrf⟩)⟩
  case inr =>
    have e4 := HY.out
    rw [if_neg (by rw [isS_bad hb]; decide), need_bad hb] at e4
    cases e4
    unfold refusal
    go_wp2
    exact ⟨rfl, K0.out.trans k1, Or.inr ⟨hb, b, rfl, hrf⟩⟩
  case inl =>
  obtain ⟨t1, b1, ht1, rfl, hb1, hc1⟩ := r1.dat z1
  have bx1 : w1.cell? ⟨w.heap.size, 0, none⟩ = some (.pointer (some ⟨rb, 0, none⟩)) := by
    rw [kept_cell k1 (by simp) (by omega)]
    simp [go_sem]
  have hw1 : w.heap.size < w1.heap.size := by have := k1.size; simp at this; omega
  have hr1 : H1 rb = none := by rw [e1.2 rb (by simp; omega)]; exact hr
  have P1 := hid p1
  have K1 := hid (K0.out.trans k1)
  have Z1 := hid z1
  have E1 := hid (e1.from (n := w.heap.size) (by simp))
  have R1 := hid r1
  have D1 := hid d1
  clear p1 k1 z1 e1 r1 d1 hb1 hc1
  go_wp2_with fail
  refine (skips_p exKw exKw_ok _ rb s T s1 kComma P1.out (Or.inr (by decide))).mono ?_
  rintro e w2 ⟨rfl, p2, k2⟩
  have bx2 : w2.cell? ⟨w.heap.size, 0, none⟩ = some (.pointer (some ⟨rb, 0, none⟩)) := by
    rw [kept_cell k2 hw1 (by omega)]
    exact bx1
  have hw2 : w1.heap.size ≤ w2.heap.size := k2.size
  have P2 := hid p2
  have K2 := hid (K1.out.trans k2)
  have Z2 := hid (Z1.out.kept k2 hr1)
  clear p2 k2 bx1
  cases hi : isS T s1 kComma with
  | false =>
    have p2 := P2.out
    rw [take_no hi] at p2
    have P2' := hid p2
    have e4 := HY.out
    rw [if_neg (by rw [hi]; decide)] at e4
    cases e4
    clear hi p2
    go_wp2_with fail
    refine (must_p exKw exKw_ok _ rb s T s1 kShut P2'.out (Or.inr (by decide))).mono ?_
    rintro e w3 ⟨k3, (⟨rfl, p3⟩ | ⟨hb, b, rfl, hrf⟩)⟩
    case inr =>
      unfold refusal
      go_wp2
      exact ⟨rfl, K2.out.trans k3, Or.inr ⟨hb, b, rfl, hrf⟩⟩
    case inl =>
      have Q := hid (And.intro p3 k3)
      have hn := need_good p3.neg
      clear p3 k3
      go_wp2
      go_ret
      refine ⟨K2.out.trans Q.out.2, Or.inl ⟨_, H1, m1, rfl, Q.out.1, Z2.out.kept Q.out.2 hr1, E1.out, R1.out, ?_⟩⟩
      have := D1.out
      omega
  | true =>
    have p2 := P2.out
    rw [take_yes hi] at p2
    have P2' := hid p2
    have e4 := HY.out
    rw [if_pos hi] at e4
    cases hey : expS T n s1.up with
    | none => rw [hey] at e4; cases e4
    | some q =>
    obtain ⟨y, s2⟩ := q
    rw [hey] at e4
    cases e4
    have HEY := hid hey
    clear hi p2 hey
    go_wp2_with fail
    refine (HE.out _ rb s H1 _ y s2 HEY.out P2'.out Z2.out hr1).mono ?_
    rintro e w3 ⟨k3, (⟨v2, H3, m2, rfl, p3, z3, e3, r3, d3⟩ | ⟨hb, b, rfl, hrf⟩)⟩
    case inr =>
      unfold refusal
      go_wp2
      exact ⟨rfl, K2.out.trans k3, Or.inr ⟨by rw [need_bad hb]; exact hb, b, rfl, by rw [need_bad hb]; exact hrf⟩⟩
    case inl =>
    obtain ⟨t2, b2, ht2, rfl, hb2, hc2⟩ := r3.dat z3
    have bx3 : w3.cell? ⟨w.heap.size, 0, none⟩ = some (.pointer (some ⟨rb, 0, none⟩)) := by
      rw [kept_cell k3 (by omega) (by omega)]
      exact bx2
    have hw3 : w2.heap.size ≤ w3.heap.size := k3.size
    have hr3 : H3 rb = none := by rw [e3.2 rb (by omega)]; exact hr1
    have P3 := hid p3
    have K3 := hid (K2.out.trans k3)
    have Z3 := hid z3
    have E3 := hid (e3.from (n := w.heap.size) (by omega))
    have R3 := hid r3
    have D3 := hid d3
    clear p3 k3 z3 e3 r3 d3 hb2 hc2 bx2
    go_wp2_with fail
    refine (must_p exKw exKw_ok _ rb s T s2 kShut P3.out (Or.inr (by decide))).mono ?_
    rintro e w4 ⟨k4, (⟨rfl, p4⟩ | ⟨hb, b, rfl, hrf⟩)⟩
    case inr =>
      unfold refusal
      go_wp2
      exact ⟨rfl, K3.out.trans k4, Or.inr ⟨hb, b, rfl, hrf⟩⟩
    case inl =>
    have hw4 : w3.heap.size ≤ w4.heap.size := k4.size
    have hn := need_good p4.neg
    have hkk := p4.klt
    obtain ⟨M, hM⟩ : ∃ M, M = max m1 m2 := ⟨_, rfl⟩
    have RA : Hid (PRep M H3 (.iface t1 (.pointer (some ⟨b1, 0, none⟩))) x) := (PRep.ext E3.out _ _ _ R1.out).le (by omega)
    have RB : Hid (PRep M H3 (.iface t2 (.pointer (some ⟨b2, 0, none⟩))) y) := R3.out.le (by omega)
    have q1 : exDeep M x = exDeep m1 x := deep_le (PRep.shape _ _ _ R1.out) (by omega)
    have q2 : exDeep M y = exDeep m2 y := deep_le (PRep.shape _ _ _ R3.out) (by omega)
    have D5 := hid (show max (exDeep M x) (exDeep M y) + 1 + st.k ≤ (needS T s2 kShut).k ∧ (needS T s2 kShut).k < T.length by
      have := D1.out
      have := D3.out
      have := deep_pos R1.out
      have := deep_pos R3.out
      have e5 : s1.up.k = s1.k + 1 := rfl
      omega)
    have ZA := hid ((Z3.out.kept k4 hr3).alloc (.cells #[(.iface t1 (.pointer (some ⟨b1, 0, none⟩))), (.iface t2 (.pointer (some ⟨b2, 0, none⟩)))] 101))
    have P5 := hid p4
    have K5 := hid (K3.out.trans k4)
    have E5 := hid (E1.out.trans E3.out (Nat.le_refl _))
    clear p4 k4 bx3 hM q1 q2
    have AB : Hid (Calls Tryz.prog 143 #[.slice (some ⟨w4.heap.size, 0, none⟩) 2 2] (w4.alloc (.cells #[(.iface t1 (.pointer (some ⟨b1, 0, none⟩))), (.iface t2 (.pointer (some ⟨b2, 0, none⟩)))] 101)) fun e w' => e = .returned (.agg #[.int .i64 ((maxl [exDeep M x, exDeep M y] + 1 : Nat) : Int)]) ∧ (w4.alloc (.cells #[(.iface t1 (.pointer (some ⟨b1, 0, none⟩))), (.iface t2 (.pointer (some ⟨b2, 0, none⟩)))] 101)).grownBy w' none) :=
      above_p _ (some ⟨w4.heap.size, 0, none⟩) 2 [(.iface t1 (.pointer (some ⟨b1, 0, none⟩))), (.iface t2 (.pointer (some ⟨b2, 0, none⟩)))] [exDeep M x, exDeep M y] rfl (by simp) (row2 (w := w4) (t := 101)) (all2 (p := fun u d => DAt _ u d) (RA.out.dat ZA.out) (RB.out.dat ZA.out)) (by have := D5.out; simp [maxl]; omega)
    go_wp2_with fail
    refine AB.out.mono ?_
    rintro e w6 ⟨rfl, g6⟩
    have G6 := hid g6
    clear g6
    go_wp2
    go_ret
    obtain ⟨H7, z7, x7, r7⟩ := node_rep (w := w6) (H := H3) (ZA.out.grown G6.out) ⟨oPair, [], [x, y], p⟩ [(.iface t1 (.pointer (some ⟨b1, 0, none⟩))), (.iface t2 (.pointer (some ⟨b2, 0, none⟩)))] M (.cells #[.int .i64 ((exDeep (M + 1) ⟨oPair, [], [x, y], p⟩ : Nat) : Int), (.iface t1 (.pointer (some ⟨b1, 0, none⟩))), (.iface t2 (.pointer (some ⟨b2, 0, none⟩)))] 200) rfl
      (kids2 (p := fun u q => PRep M H3 u q) RA.out RB.out)
      (fun H' _ h2 => Or.inr (Or.inr (Or.inr (Or.inr (Or.inr (Or.inr (Or.inr ⟨rfl, _, _, rfl, rfl, h2⟩)))))))
    have hw6 : w4.heap.size ≤ w6.heap.size := by have := G6.out.size; simp at this; omega
    refine ⟨((K5.out.alloc _).trans (Kept.of0 rb G6.out)).alloc _, Or.inl ⟨_, H7, M + 1, rfl, ((P5.out.alloc _).grown G6.out).alloc _, z7, E5.out.trans x7 (by omega), r7, ?_⟩⟩
    have hd : exDeep (M + 1) ⟨oPair, [], [x, y], p⟩ = max (exDeep M x) (exDeep M y) + 1 := by simp [exDeep, maxl]
    have := D5.out
    omega

theorem Rdr.grown {w w' : World} {rb : Nat} {s : ByteArray} {J : Nat} (h : Rdr w rb s J) (hg : w.grownBy w' none) : Rdr w' rb s J := by
  unfold Rdr
  rw [hg.block rb (lt_of_block h) (by simp)]
  exact h
/-- A name, or a number, of the program's. -/
theorem leaf_out {w w9 : World} {rb : Nat} {s : ByteArray} {T : List Tok} {H : Nat → Option Obj} {st : St} (k : Kept rb w w9) (q : PSt exKw w9 rb s T st.up) (z : Fz H w9) (op txt : List UInt8) (p : Nat) (obj : Obj)
    (hop : (op = kName ∧ obj = .cells #[.int .i64 1, .string (B txt), .int .i64 (p : Int)] 163) ∨ (op = kNum ∧ obj = .cells #[.int .i64 1, .string (B txt)] 177)) :
    EOut w (w9.alloc obj) rb s T H st.k st.up (.returned (.iface (pT op) (.pointer (some ⟨w9.heap.size, 0, none⟩)))) ⟨op, [txt], [], p⟩ := by
  obtain ⟨H7, z7, x7, r7⟩ := node_rep z ⟨op, [txt], [], p⟩ [] 0 obj rfl (fun i y u h1 => by simp at h1) (fun H' _ h2 => by
    rcases hop with ⟨rfl, rfl⟩ | ⟨rfl, rfl⟩
    · exact Or.inl ⟨rfl, txt, rfl, rfl, rfl, h2⟩
    · exact Or.inr (Or.inl ⟨rfl, txt, rfl, rfl, rfl, h2⟩))
  refine ⟨k.alloc _, Or.inl ⟨_, H7, 1, rfl, q.alloc _, z7, (x7.from k.size), r7, ?_⟩⟩
  show exDeep 1 _ + st.k ≤ st.k + 1
  simp [exDeep, maxl]
  omega
end Go.Proofs.YtcdijppegfcoaabGreatDoor
