import Derived.Test.YtcdijppegfcoaaaGreatDoorZT06
/-
  OUR OWN TEXT. The expressions of Path.
-/
namespace Go.Proofs.YtcdijppegfcoaaaGreatDoor
open Go.RowKit
def paL : List (List UInt8) := [[49], [116, 114, 117, 101], [110, 105, 108], [97, 100, 100], [104, 100]]
def paY : List (List UInt8) := [[105, 110, 116], [98, 111, 111, 108], [91, 97, 93], [105, 110, 116, 32, 45, 62, 32, 105, 110, 116, 32, 45, 62, 32, 105, 110, 116], [91, 97, 93, 32, 45, 62, 32, 97]]
def odd (p : List UInt8) : Bool := match p with
  | [] => false
  | b :: _ => decide (b % 2 = 1)
/-- tree. -/
def trS : Nat → List UInt8 → Nat → List UInt8 × List UInt8 × Nat
  | 0, _, n => (paL.getD (n % 5) [], paY.getD (n % 5) [], n + 1)
  | d + 1, p, n =>
    ([40] ++ (trS d (p.drop 1) n).1 ++ [44, 32] ++ (trS d (p.drop 1) (trS d (p.drop 1) n).2.2).1 ++ [41],
      if odd p = true then (trS d (p.drop 1) (trS d (p.drop 1) n).2.2).2.1 else (trS d (p.drop 1) n).2.1, (trS d (p.drop 1) (trS d (p.drop 1) n).2.2).2.2)
/-- The ways fst and snd, put around. -/
def paW (p : List UInt8) (s : List UInt8) : Nat → List UInt8
  | 0 => s
  | k + 1 => (if odd (p.drop k) = true then [115, 110, 100] else [102, 115, 116]) ++ [32, 40] ++ paW p s k ++ [41]
theorem bit_or (b : UInt8) : b % 2 = 0 ∨ b % 2 = 1 := by
  have h : (b % 2).toNat = b.toNat % 2 := by simp
  rcases Nat.mod_two_eq_zero_or_one b.toNat with e | e
  · exact Or.inl (UInt8.toNat.inj (by rw [h, e]; rfl))
  · exact Or.inr (UInt8.toNat.inj (by rw [h, e]; rfl))
theorem odd_mod (b : UInt8) (p : List UInt8) : odd (b % 2 :: p) = odd (b :: p) := by
  show decide (b % 2 % 2 = 1) = decide (b % 2 = 1)
  rcases bit_or b with e | e <;> rw [e] <;> rfl
theorem odd_bits : ∀ (d : Nat) (p : List UInt8), odd ((p.take (d + 1)).map (· % 2)) = odd p
  | _, [] => by simp
  | d, b :: p => by rw [List.take_succ_cons, List.map_cons, odd_mod]; rfl
theorem trS_bits : ∀ (d : Nat) (p : List UInt8) (n : Nat), trS d ((p.take d).map (· % 2)) n = trS d p n
  | 0, _, _ => rfl
  | d + 1, p, n => by
    have h1 : ((p.take (d + 1)).map (· % 2)).drop 1 = ((p.drop 1).take d).map (· % 2) := by
      rw [← List.map_drop, List.drop_take]
      rfl
    rw [trS, trS, h1, trS_bits d (p.drop 1), trS_bits d (p.drop 1), odd_bits]
theorem paW_bits (D : Nat) (p s : List UInt8) : ∀ k, k ≤ D → paW ((p.take D).map (· % 2)) s k = paW p s k
  | 0, _ => rfl
  | k + 1, h => by
    have h1 : ((p.take D).map (· % 2)).drop k = ((p.drop k).take (D - k - 1 + 1)).map (· % 2) := by
      rw [show D - k - 1 + 1 = D - k by omega, ← List.map_drop, List.drop_take]
    rw [paW, paW, h1, odd_bits, paW_bits D p s k (by omega)]
/-- The whole expression, its type. -/
def paX (d : Nat) (p : List UInt8) : List UInt8 := paW p (trS d p 0).1 d
theorem paX_bits (d : Nat) (p : List UInt8) : paX d ((p.take d).map (· % 2)) = paX d p ∧ (trS d ((p.take d).map (· % 2)) 0).2.1 = (trS d p 0).2.1 := by
  unfold paX
  rw [trS_bits, paW_bits d p _ d (Nat.le_refl _)]
  exact ⟨rfl, rfl⟩
end Go.Proofs.YtcdijppegfcoaaaGreatDoor

/-
  OUR OWN TEXT. typerkeep.tree.
-/
namespace Go.Proofs.YtcdijppegfcoaaaGreatDoor
open Go.RowKit
def PNB (w : World) (b n : Nat) : Prop := w.heap[b]? = some (.cells #[.int .i64 (n : Int)] 3 (0, 0))
theorem PNB.set {w : World} {b n : Nat} (h : PNB w b n) (m : Nat) : PNB (w.setCell ⟨b, 0, none⟩ (.int .i64 (m : Int))) b m := by
  unfold PNB at *
  simp [World.setCell, Array.getElem?_modify, h]
theorem pa_c {w : World} {b : Nat} {cs : Array Value} {t : TypeId} (h : w.heap[b]? = some (.cells cs t (0, 0))) (i : Nat) {v : Value} (hi : cs[i]? = some v) : w.cell? ⟨b, i, none⟩ = some v := by simp [World.cell?, h, hi]
structure PTR (nb lb yb : Nat) (n : Nat) (w : World) : Prop where
  num : PNB w nb n
  lv : w.heap[lb]? = some (.cells (paL.map fun x => Value.string (B x)).toArray 9 (0, 0))
  ty : w.heap[yb]? = some (.cells (paY.map fun x => Value.string (B x)).toArray 9 (0, 0))
  nl : ¬ lb = nb
  ny : ¬ yb = nb
theorem PTR.gb {nb lb yb n m : Nat} {w w' : World} (h : PTR nb lb yb n w) (g : Gb (fun k => k = nb) w w') (hn : PNB w' nb m) : PTR nb lb yb m w' :=
  ⟨hn, g.at h.lv h.nl, g.at h.ty h.ny, h.nl, h.ny⟩
theorem trS_n : ∀ (d : Nat) (p : List UInt8) (n : Nat), (trS d p n).2.2 = n + 2 ^ d
  | 0, _, n => rfl
  | d + 1, p, n => by
    show (trS d (p.drop 1) (trS d (p.drop 1) n).2.2).2.2 = _
    rw [trS_n d, trS_n d, Nat.pow_succ]
    omega
theorem five {p : Nat → Prop} (i : Nat) (hi : i < 5) (h0 : p 0) (h1 : p 1) (h2 : p 2) (h3 : p 3) (h4 : p 4) : p i := by
  have : i = 0 ∨ i = 1 ∨ i = 2 ∨ i = 3 ∨ i = 4 := by omega
  rcases this with rfl | rfl | rfl | rfl | rfl <;> assumption
theorem trS_len : ∀ (d : Nat) (p : List UInt8) (n : Nat), (trS d p n).1.length + 4 ≤ 8 * 2 ^ d
  | 0, p, n => by
    show (paL.getD (n % 5) []).length + 4 ≤ 8
    exact five (p := fun i => (paL.getD i []).length + 4 ≤ 8) (n % 5) (Nat.mod_lt _ (by omega)) (by decide) (by decide) (by decide) (by decide) (by decide)
  | d + 1, p, n => by
    have h1 := trS_len d (p.drop 1) n
    have h2 := trS_len d (p.drop 1) (trS d (p.drop 1) n).2.2
    show ([40] ++ (trS d (p.drop 1) n).1 ++ [44, 32] ++ (trS d (p.drop 1) (trS d (p.drop 1) n).2.2).1 ++ [41]).length + 4 ≤ _
    simp only [List.length_append, List.length_cons, List.length_nil, Nat.pow_succ]
    omega
def TRP (d : Nat) (p : List UInt8) (n nb lb yb : Nat) (w : World) (e : Ending) (w' : World) : Prop :=
  e = .returned (.tuple #[.string (B (trS d p n).1), .string (B (trS d p n).2.1)]) ∧ PTR nb lb yb (n + 2 ^ d) w' ∧ Gb (fun k => k = nb) w w'
def TRC (nb lb yb : Nat) (d : Nat) : Prop := ∀ (D : Int) (s : ByteArray) (n : Nat) (w : World), D = (d : Int) → s.size ≤ 6 → n + 2 ^ d ≤ 8 → PTR nb lb yb n w →
  Calls Tryz.prog 34 #[.int .i64 D, .string s, .pointer (some ⟨nb, 0, none⟩), .slice (some ⟨lb, 0, none⟩) 5 5, .slice (some ⟨yb, 0, none⟩) 5 5] w (TRP d s.data.toList n nb lb yb w)
set_option maxRecDepth 100000 in
set_option maxHeartbeats 1000000 in
theorem tree_0 (nb lb yb : Nat) : TRC nb lb yb 0 := by
  rintro D s n w rfl hs hn h
  have hl := lt_of_block h.num
  have cn : w.cell? ⟨nb, 0, none⟩ = some (.int .i64 (n : Int)) := pa_c h.num 0 rfl
  have l0 : w.cell? ⟨lb, 0, none⟩ = some (.string (B [49])) := pa_c h.lv 0 rfl
  have l1 : w.cell? ⟨lb, 1, none⟩ = some (.string (B [116, 114, 117, 101])) := pa_c h.lv 1 rfl
  have l2 : w.cell? ⟨lb, 2, none⟩ = some (.string (B [110, 105, 108])) := pa_c h.lv 2 rfl
  have l3 : w.cell? ⟨lb, 3, none⟩ = some (.string (B [97, 100, 100])) := pa_c h.lv 3 rfl
  have l4 : w.cell? ⟨lb, 4, none⟩ = some (.string (B [104, 100])) := pa_c h.lv 4 rfl
  have y0 : w.cell? ⟨yb, 0, none⟩ = some (.string (B [105, 110, 116])) := pa_c h.ty 0 rfl
  have y1 : w.cell? ⟨yb, 1, none⟩ = some (.string (B [98, 111, 111, 108])) := pa_c h.ty 1 rfl
  have y2 : w.cell? ⟨yb, 2, none⟩ = some (.string (B [91, 97, 93])) := pa_c h.ty 2 rfl
  have y3 : w.cell? ⟨yb, 3, none⟩ = some (.string (B [105, 110, 116, 32, 45, 62, 32, 105, 110, 116, 32, 45, 62, 32, 105, 110, 116])) := pa_c h.ty 3 rfl
  have y4 : w.cell? ⟨yb, 4, none⟩ = some (.string (B [91, 97, 93, 32, 45, 62, 32, 97])) := pa_c h.ty 4 rfl
  have fn : w.frozen? ⟨nb, 0, none⟩ = false := by have h1 := h.num; unfold PNB at h1; simp [World.frozen?, h1]
  have nl := h.nl
  have ny := h.ny
  have Q := hid (show ∀ e nq, e = .returned (.tuple #[.string (B (trS 0 s.data.toList n).1), .string (B (trS 0 s.data.toList n).2.1)]) → TRP 0 s.data.toList n nb lb yb w e ((w.setCell ⟨nb, 0, none⟩ (.int .i64 ((n + 1 : Nat) : Int))).drewN nq) from fun e nq he => by
    have gq : ∀ W : World, Gb (fun k => k = nb) W (W.drewN nq) := fun W => ⟨rfl, rfl, rfl, Nat.le_refl _, fun _ _ _ => rfl⟩
    have g1 := ((Gb.refl (fun k => k = nb) w).set (b := nb) (Or.inl rfl) 0 (.int .i64 ((n + 1 : Nat) : Int))).tr (gq _)
    exact ⟨he, h.gb g1 (h.num.set (n + 1)), g1⟩)
  clear h
  have hn8 : n = 0 ∨ n = 1 ∨ n = 2 ∨ n = 3 ∨ n = 4 ∨ n = 5 ∨ n = 6 ∨ n = 7 := by omega
  clear hn
  rcases hn8 with rfl | rfl | rfl | rfl | rfl | rfl | rfl | rfl
  all_goals
    go_enter Tryz.func34, Tryz.ntmps34
    go_wp2_with fail
    go_quiet (fail)
    go_wp2
    go_ret2
    exact Q.out _ _ rfl
theorem trS_step {d : Nat} {s r : ByteArray} {n : Nat} (hr : r.data.toList = s.data.toList.drop 1) : (trS (d + 1) s.data.toList n).1 = [40] ++ (trS d r.data.toList n).1 ++ [44, 32] ++ (trS d r.data.toList (n + 2 ^ d)).1 ++ [41] ∧ (trS (d + 1) s.data.toList n).2.1 = if odd s.data.toList = true then (trS d r.data.toList (n + 2 ^ d)).2.1 else (trS d r.data.toList n).2.1 := by
  rw [hr, ← trS_n d (s.data.toList.drop 1) n]
  exact ⟨rfl, rfl⟩
set_option maxRecDepth 100000 in
set_option maxHeartbeats 2000000 in
theorem tree_s (nb lb yb d : Nat) (hd : d < 3) (ih : TRC nb lb yb d) : TRC nb lb yb (d + 1) := by
  rintro D s n w hD hs hn h
  have hp : 2 ^ (d + 1) = 2 ^ d + 2 ^ d := by rw [Nat.pow_succ]; omega
  have h2d : 0 < 2 ^ d := Nat.pow_pos (by decide)
  have hn2 : n + 2 ^ d + 2 ^ d ≤ 8 := by rw [hp] at hn; omega
  have hsz : s.size = s.data.toList.length := by show s.data.size = _; rw [Array.length_toList]
  obtain ⟨r, hr1, hr2, hr6, hrd⟩ : ∃ r : ByteArray, (1 < s.size → s.extract 1 s.size = r) ∧ (¬ 1 < s.size → r = ⟨#[]⟩) ∧ r.size ≤ 6 ∧ r.data.toList = s.data.toList.drop 1 := by
    by_cases h1 : 1 < s.size
    · exact ⟨_, fun _ => rfl, fun h2 => absurd h1 h2, by rw [(drop_list s 1 (by omega)).2]; omega, (drop_list s 1 (by omega)).1⟩
    · refine ⟨⟨#[]⟩, fun h2 => absurd h2 h1, fun _ => rfl, by decide, ?_⟩
      rw [List.drop_eq_nil_of_le (by omega)]
  have C1 := hid (fun D' (e : D' = (d : Int)) => ih D' r n w e hr6 (by omega) h)
  have C2 := hid (fun D' (e : D' = (d : Int)) w1 (h1 : PTR nb lb yb (n + 2 ^ d) w1) => ih D' r (n + 2 ^ d) w1 e hr6 hn2 h1)
  have ES := hid (trS_step (d := d) (n := n) hrd)
  have LA := trS_len d r.data.toList n
  have LB := trS_len d r.data.toList (n + 2 ^ d)
  have hd8 : 2 ^ d ≤ 8 := by omega
  obtain ⟨a, ha⟩ : ∃ a, a = B (trS d r.data.toList n).1 := ⟨_, rfl⟩
  obtain ⟨b, hb⟩ : ∃ b, b = B (trS d r.data.toList (n + 2 ^ d)).1 := ⟨_, rfl⟩
  have za : a.size ≤ 60 := by rw [ha, size_B]; omega
  have zb : b.size ≤ 60 := by rw [hb, size_B]; omega
  have hj : ({ data := #[40] } : ByteArray) ++ a ++ ({ data := #[44, 32] } : ByteArray) ++ b ++ ({ data := #[41] } : ByteArray) = B (trS (d + 1) s.data.toList n).1 := by
    rw [ES.out.1, ha, hb, ← append_B, ← append_B, ← append_B, ← append_B]
    rfl
  have z1 : (({ data := #[40] } : ByteArray) ++ a).size ≤ 61 := by rw [ByteArray.size_append]; show 1 + a.size ≤ 61; omega
  have z2 : (({ data := #[40] } : ByteArray) ++ a ++ ({ data := #[44, 32] } : ByteArray)).size ≤ 63 := by rw [ByteArray.size_append]; show _ + 2 ≤ 63; omega
  have z3 : (({ data := #[40] } : ByteArray) ++ a ++ ({ data := #[44, 32] } : ByteArray) ++ b).size ≤ 123 := by rw [ByteArray.size_append]; omega
  have HJ := hid hj
  have HA := hid ha
  have HB := hid hb
  have Q := hid (show ∀ (u : ByteArray) (w2 : World) (nq : Nat), u = B (trS (d + 1) s.data.toList n).2.1 → Gb (fun k => k = nb) w w2 → PTR nb lb yb (n + 2 ^ d + 2 ^ d) w2 → TRP (d + 1) s.data.toList n nb lb yb w (.returned (.tuple #[.string (({ data := #[40] } : ByteArray) ++ a ++ ({ data := #[44, 32] } : ByteArray) ++ b ++ ({ data := #[41] } : ByteArray)), .string u])) (w2.drewN nq) from fun u w2 nq hu g2 h2 => by
    have gq : Gb (fun k => k = nb) w2 (w2.drewN nq) := ⟨rfl, rfl, rfl, Nat.le_refl _, fun _ _ _ => rfl⟩
    rw [hj, hu]
    exact ⟨rfl, by rw [hp, ← Nat.add_assoc]; exact h2.gb gq h2.num, g2.tr gq⟩)
  have hD0 : D ≠ 0 := by omega
  have hD1 : D - 1 = (d : Int) := by omega
  have hDb : 0 < D ∧ D ≤ 3 := by omega
  clear hp hn hn2 LA LB ha hb hj h ih hrd hd8 hD
  have hodd : ∀ (h0 : 0 < s.size), (s[0].toNat % 2 = 1 ∧ odd s.data.toList = true) ∨ (s[0].toNat % 2 = 0 ∧ odd s.data.toList = false) := by
    intro h0
    have hl : 0 < s.data.toList.length := by rw [← hsz]; exact h0
    have hc : s.data.toList = s[0] :: s.data.toList.drop 1 := by
      have h1 := List.drop_eq_getElem_cons hl
      rw [List.drop_zero] at h1
      exact h1
    rw [hc]
    show (s[0].toNat % 2 = 1 ∧ decide (s[0] % 2 = 1) = true) ∨ (s[0].toNat % 2 = 0 ∧ decide (s[0] % 2 = 1) = false)
    rcases bit_or s[0] with e | e
    · right
      have := congrArg UInt8.toNat e
      rw [e]
      exact ⟨by simpa using this, rfl⟩
    · left
      have := congrArg UInt8.toNat e
      rw [e]
      exact ⟨by simpa using this, rfl⟩
  clear hsz
  have EV := hid (show ∀ (u v : ByteArray), u = B (trS d r.data.toList n).2.1 → v = B (trS d r.data.toList (n + 2 ^ d)).2.1 → (odd s.data.toList = true → v = B (trS (d + 1) s.data.toList n).2.1) ∧ (odd s.data.toList = false → u = B (trS (d + 1) s.data.toList n).2.1) from fun u v hu hv => by
    rw [ES.out.2]
    exact ⟨fun h => by rw [if_pos h]; exact hv, fun h => by rw [if_neg (by rw [h]; decide)]; exact hu⟩)
  clear ES HJ
  by_cases h1 : 1 < s.size
  · have e1 := hr1 h1
    have h0 : 0 < s.size := by omega
    clear hr1 hr2
    rcases hodd h0 with ⟨o1, o2⟩ | ⟨o1, o2⟩
    all_goals
      have HO := hid o2
      clear hodd o2
      go_enter Tryz.func34, Tryz.ntmps34
      go_wp2_with fail
      refine (C1.out _ rfl).mono ?_
      rintro e w1 ⟨h1e, p1, g1⟩
      obtain ⟨u1, hu1⟩ : ∃ u, u = B (trS d r.data.toList n).2.1 := ⟨_, rfl⟩
      rw [← HA.out, ← hu1] at h1e
      subst h1e
      have CC := hid (C2.out _ rfl w1 p1)
      have G1 := hid (And.intro hu1 g1)
      clear p1 g1 hu1 C1 C2
      go_wp2_with fail
      refine CC.out.mono ?_
      rintro e w2 ⟨h2e, p2, g2⟩
      obtain ⟨u2, hu2⟩ : ∃ u, u = B (trS d r.data.toList (n + 2 ^ d)).2.1 := ⟨_, rfl⟩
      rw [← HB.out, ← hu2] at h2e
      subst h2e
      have EE := hid (EV.out u1 u2 G1.out.1 hu2)
      have G2 := hid (And.intro p2 (G1.out.2.tr g2))
      clear p2 g2 hu2 CC G1 EV
      go_wp2_with fail
      go_ret2
      first
      | exact Q.out _ w2 0 (EE.out.1 HO.out) G2.out.2 G2.out.1
      | exact Q.out _ w2 0 (EE.out.2 HO.out) G2.out.2 G2.out.1
      | exact Q.out _ w2 1 (EE.out.1 HO.out) G2.out.2 G2.out.1
      | exact Q.out _ w2 1 (EE.out.2 HO.out) G2.out.2 G2.out.1
  · have e1 := hr2 h1
    subst e1
    clear hr1 hr2
    by_cases h0 : 0 < s.size
    · have h9 : s.size = 1 := by omega
      rcases hodd h0 with ⟨o1, o2⟩ | ⟨o1, o2⟩
      all_goals
        have HO := hid o2
        clear hodd o2 h1 hs
        go_enter Tryz.func34, Tryz.ntmps34
        go_wp2_with fail
        refine (C1.out _ rfl).mono ?_
        rintro e w1 ⟨h1e, p1, g1⟩
        obtain ⟨u1, hu1⟩ : ∃ u, u = B (trS d (⟨#[]⟩ : ByteArray).data.toList n).2.1 := ⟨_, rfl⟩
        rw [← HA.out, ← hu1] at h1e
        subst h1e
        have CC := hid (C2.out _ rfl w1 p1)
        have G1 := hid (And.intro hu1 g1)
        clear p1 g1 hu1 C1 C2
        go_wp2_with fail
        refine CC.out.mono ?_
        rintro e w2 ⟨h2e, p2, g2⟩
        obtain ⟨u2, hu2⟩ : ∃ u, u = B (trS d (⟨#[]⟩ : ByteArray).data.toList (n + 2 ^ d)).2.1 := ⟨_, rfl⟩
        rw [← HB.out, ← hu2] at h2e
        subst h2e
        have EE := hid (EV.out u1 u2 G1.out.1 hu2)
        have G2 := hid (And.intro p2 (G1.out.2.tr g2))
        clear p2 g2 hu2 CC G1 EV
        go_wp2_with fail
        go_ret2
        first
        | exact Q.out _ w2 0 (EE.out.1 HO.out) G2.out.2 G2.out.1
        | exact Q.out _ w2 0 (EE.out.2 HO.out) G2.out.2 G2.out.1
        | exact Q.out _ w2 1 (EE.out.1 HO.out) G2.out.2 G2.out.1
        | exact Q.out _ w2 1 (EE.out.2 HO.out) G2.out.2 G2.out.1
    · have h9 : s.size = 0 := by omega
      have HO := hid (show odd s.data.toList = false by
        have : s.data.toList = [] := List.eq_nil_of_length_eq_zero (by rw [Array.length_toList]; exact h9)
        rw [this]; rfl)
      clear hodd h1 hs h0
      go_enter Tryz.func34, Tryz.ntmps34
      go_wp2_with fail
      refine (C1.out _ rfl).mono ?_
      rintro e w1 ⟨h1e, p1, g1⟩
      obtain ⟨u1, hu1⟩ : ∃ u, u = B (trS d (⟨#[]⟩ : ByteArray).data.toList n).2.1 := ⟨_, rfl⟩
      rw [← HA.out, ← hu1] at h1e
      subst h1e
      have CC := hid (C2.out _ rfl w1 p1)
      have G1 := hid (And.intro hu1 g1)
      clear p1 g1 hu1 C1 C2
      go_wp2_with fail
      refine CC.out.mono ?_
      rintro e w2 ⟨h2e, p2, g2⟩
      obtain ⟨u2, hu2⟩ : ∃ u, u = B (trS d (⟨#[]⟩ : ByteArray).data.toList (n + 2 ^ d)).2.1 := ⟨_, rfl⟩
      rw [← HB.out, ← hu2] at h2e
      subst h2e
      have EE := hid (EV.out u1 u2 G1.out.1 hu2)
      have G2 := hid (And.intro p2 (G1.out.2.tr g2))
      clear p2 g2 hu2 CC G1 EV
      go_wp2_with fail
      go_ret2
      first
      | exact Q.out _ w2 0 (EE.out.1 HO.out) G2.out.2 G2.out.1
      | exact Q.out _ w2 0 (EE.out.2 HO.out) G2.out.2 G2.out.1
      | exact Q.out _ w2 1 (EE.out.1 HO.out) G2.out.2 G2.out.1
      | exact Q.out _ w2 1 (EE.out.2 HO.out) G2.out.2 G2.out.1
theorem tree_any (nb lb yb : Nat) : ∀ d, d < 4 → TRC nb lb yb d
  | 0, _ => tree_0 nb lb yb
  | d + 1, h => tree_s nb lb yb d (by omega) (tree_any nb lb yb d (by omega))
end Go.Proofs.YtcdijppegfcoaaaGreatDoor

/-
  OUR OWN TEXT. typerkeep.Path, walked.
-/
namespace Go.Proofs.YtcdijppegfcoaaaGreatDoor
open Go.RowKit
/-- A world that has grown. -/
structure PGn (w w' : World) : Prop where
  os : w'.os = w.os
  output : w'.output = w.output
  size : w.heap.size ≤ w'.heap.size
  block : ∀ k, k < w.heap.size → w'.heap[k]? = w.heap[k]?
theorem PGn.trans {a b c : World} (h : PGn a b) (k : PGn b c) : PGn a c := ⟨k.os.trans h.os, k.output.trans h.output, Nat.le_trans h.size k.size, fun i hi => (k.block i (Nat.lt_of_lt_of_le hi h.size)).trans (h.block i hi)⟩
theorem paW_len (p s : List UInt8) : ∀ k, (paW p s k).length = s.length + 6 * k
  | 0 => rfl
  | k + 1 => by
    rw [paW]
    simp only [List.length_append, paW_len p s k]
    split <;> simp <;> omega
theorem paW_step {p s : List UInt8} {k : Nat} {f : ByteArray} (hf : f = if odd (p.drop k) = true then B [115, 110, 100] else B [102, 115, 116]) : f ++ ({ data := #[32, 40] } : ByteArray) ++ B (paW p s k) ++ ({ data := #[41] } : ByteArray) = B (paW p s (k + 1)) := by
  rw [show ({ data := #[32, 40] } : ByteArray) = B [32, 40] from rfl, show ({ data := #[41] } : ByteArray) = B [41] from rfl, hf, paW]
  split <;> rw [append_B, append_B, append_B]
theorem odd_at (p : ByteArray) (j : Nat) (h : j < p.size) : (p[j].toNat % 2 = 1 ∧ odd (p.data.toList.drop j) = true) ∨ (p[j].toNat % 2 = 0 ∧ odd (p.data.toList.drop j) = false) := by
  have hl : j < p.data.toList.length := by rw [Array.length_toList]; exact h
  have hc : p.data.toList.drop j = p[j] :: p.data.toList.drop (j + 1) := List.drop_eq_getElem_cons hl
  rw [hc]
  show (p[j].toNat % 2 = 1 ∧ decide (p[j] % 2 = 1) = true) ∨ (p[j].toNat % 2 = 0 ∧ decide (p[j] % 2 = 1) = false)
  rcases bit_or p[j] with e | e
  · right
    have := congrArg UInt8.toNat e
    rw [e]
    exact ⟨by simpa using this, rfl⟩
  · left
    have := congrArg UInt8.toNat e
    rw [e]
    exact ⟨by simpa using this, rfl⟩
/-- The path's first six bytes. -/
def six (s : ByteArray) : ByteArray := s.extract 0 (min s.size 6)
theorem six_size (s : ByteArray) : (six s).size ≤ 6 := by
  unfold six
  rw [ByteArray.size_extract]
  omega
/-- The leaves, their types, the count, laid. -/
def paStart (w : World) : World := ((w.alloc (.cells #[.string ⟨#[49]⟩, .string ⟨#[116, 114, 117, 101]⟩, .string ⟨#[110, 105, 108]⟩, .string ⟨#[97, 100, 100]⟩, .string ⟨#[104, 100]⟩] 9)).alloc (.cells #[.string ⟨#[105, 110, 116]⟩, .string ⟨#[98, 111, 111, 108]⟩, .string ⟨#[91, 97, 93]⟩, .string ⟨#[105, 110, 116, 32, 45, 62, 32, 105, 110, 116, 32, 45, 62, 32, 105, 110, 116]⟩, .string ⟨#[91, 97, 93, 32, 45, 62, 32, 97]⟩] 9)).alloc (.cells #[.int .i64 0] 3)
theorem pa_leaves : (#[.string ⟨#[49]⟩, .string ⟨#[116, 114, 117, 101]⟩, .string ⟨#[110, 105, 108]⟩, .string ⟨#[97, 100, 100]⟩, .string ⟨#[104, 100]⟩] : Array Value) = (paL.map fun x => Value.string (B x)).toArray := rfl
theorem pa_types : (#[.string ⟨#[105, 110, 116]⟩, .string ⟨#[98, 111, 111, 108]⟩, .string ⟨#[91, 97, 93]⟩, .string ⟨#[105, 110, 116, 32, 45, 62, 32, 105, 110, 116, 32, 45, 62, 32, 105, 110, 116]⟩, .string ⟨#[91, 97, 93, 32, 45, 62, 32, 97]⟩] : Array Value) = (paY.map fun x => Value.string (B x)).toArray := rfl
theorem pa_start (w : World) : PTR (w.heap.size + 1 + 1) w.heap.size (w.heap.size + 1) 0 (paStart w) ∧ w.grownBy (paStart w) none := by
  have g1 : w.grownBy (w.alloc (.cells #[.string ⟨#[49]⟩, .string ⟨#[116, 114, 117, 101]⟩, .string ⟨#[110, 105, 108]⟩, .string ⟨#[97, 100, 100]⟩, .string ⟨#[104, 100]⟩] 9)) none := World.grownBy_alloc _ _ _
  have g2 : (w.alloc (.cells #[.string ⟨#[49]⟩, .string ⟨#[116, 114, 117, 101]⟩, .string ⟨#[110, 105, 108]⟩, .string ⟨#[97, 100, 100]⟩, .string ⟨#[104, 100]⟩] 9)).grownBy ((w.alloc (.cells #[.string ⟨#[49]⟩, .string ⟨#[116, 114, 117, 101]⟩, .string ⟨#[110, 105, 108]⟩, .string ⟨#[97, 100, 100]⟩, .string ⟨#[104, 100]⟩] 9)).alloc (.cells #[.string ⟨#[105, 110, 116]⟩, .string ⟨#[98, 111, 111, 108]⟩, .string ⟨#[91, 97, 93]⟩, .string ⟨#[105, 110, 116, 32, 45, 62, 32, 105, 110, 116, 32, 45, 62, 32, 105, 110, 116]⟩, .string ⟨#[91, 97, 93, 32, 45, 62, 32, 97]⟩] 9)) none := World.grownBy_alloc _ _ _
  have g3 : ((w.alloc (.cells #[.string ⟨#[49]⟩, .string ⟨#[116, 114, 117, 101]⟩, .string ⟨#[110, 105, 108]⟩, .string ⟨#[97, 100, 100]⟩, .string ⟨#[104, 100]⟩] 9)).alloc (.cells #[.string ⟨#[105, 110, 116]⟩, .string ⟨#[98, 111, 111, 108]⟩, .string ⟨#[91, 97, 93]⟩, .string ⟨#[105, 110, 116, 32, 45, 62, 32, 105, 110, 116, 32, 45, 62, 32, 105, 110, 116]⟩, .string ⟨#[91, 97, 93, 32, 45, 62, 32, 97]⟩] 9)).grownBy (paStart w) none := World.grownBy_alloc _ _ _
  refine ⟨⟨heap_alloc_at _ _ _ (by simp), ?_, ?_, by omega, by omega⟩, (g1.trans g2).trans g3⟩
  · rw [← pa_leaves]
    exact ((g2.trans g3).block _ (by simp) (by simp)).trans (heap_alloc_new _ _)
  · rw [← pa_types]
    exact (g3.block _ (by simp) (by simp)).trans (heap_alloc_at _ _ _ (by simp))
theorem gn_start {w w2 : World} (g : Gb (fun k => k = w.heap.size + 1 + 1) (paStart w) w2) : PGn w w2 := by
  have g1 := (pa_start w).2
  exact ⟨g.os.trans g1.os, g.output.trans g1.output, Nat.le_trans g1.size g.size, fun k hk => by
    rw [g.block k (Nat.lt_of_lt_of_le hk g1.size) (by omega)]
    exact g1.block k hk (by simp)⟩
set_option maxRecDepth 100000 in
set_option maxHeartbeats 2000000 in
theorem path_w (s : ByteArray) (k : Int) (d : Nat) (hd : d < 4) (hp : ∀ w, Calls Tryz.prog 32 #[.int .i64 k, .int .i64 4] w fun e w' => e = .returned (.int .i64 d) ∧ w' = w) (w : World)
    (HH : d ≤ (six s).size → ∀ w', PGn w w' → Calls Tryz.prog 33 #[.string (B (paX d (six s).data.toList)), .string (B (trS d (six s).data.toList 0).2.1)] w' fun e w'' => e = .returned (.bool true) ∧ PGn w' w'') :
    Calls Tryz.prog 12 #[.string s, .int .i64 k] w fun e w' => e = .returned (.bool true) ∧ PGn w w' := by
  have h6 := six_size s
  obtain ⟨p, hpe⟩ : ∃ p, p = six s := ⟨_, rfl⟩
  have hz : (s.size ≤ 6 → s.extract 0 s.size = p) ∧ (¬ s.size ≤ 6 → s.extract 0 6 = p) := by
    rw [hpe]
    unfold six
    exact ⟨fun h => by rw [Nat.min_eq_left h], fun h => by rw [Nat.min_eq_right (by omega)]⟩
  rw [← hpe] at h6 HH
  have HH' := hid HH
  have HP := hid hp
  clear HH hp hpe
  have h8 : 0 + 2 ^ d ≤ 8 := by
    have : d = 0 ∨ d = 1 ∨ d = 2 ∨ d = 3 := by omega
    rcases this with rfl | rfl | rfl | rfl <;> decide
  by_cases hs : s.size ≤ 6
  · have e1 := hz.1 hs
    clear hz
    go_enter Tryz.func12, Tryz.ntmps12
    go_wp2_with fail
    refine (HP.out _).mono ?_
    rintro e w1 ⟨rfl, rfl⟩
    clear HP
    go_wp2_with fail
    refine (tree_any _ _ _ d hd _ p 0 (paStart w1) rfl h6 h8 (pa_start w1).1).mono ?_
    rintro e w2 ⟨rfl, _, g2⟩
    have GN := hid (gn_start g2)
    clear g2
    have hL := trS_len d p.data.toList 0
    obtain ⟨X, hX⟩ : ∃ X, X = (trS d p.data.toList 0).1 := ⟨_, rfl⟩
    obtain ⟨Y, hY⟩ : ∃ Y, Y = (trS d p.data.toList 0).2.1 := ⟨_, rfl⟩
    rw [← hX, ← hY]
    rw [← hX] at hL
    unfold paX at HH'
    rw [← hX, ← hY] at HH'
    clear hX hY
    have hL2 : X.length ≤ 60 := by omega
    clear hL
    go_wp2_with fail
    go_loopg [8, 10] (d + 1) (fun gh x i wi => ∃ j : Nat, j ≤ d ∧ j ≤ p.size ∧ x = .string (B (paW p.data.toList X j)) ∧ i = .int .i64 j ∧ gh = d - j + 1 ∧ wi = w2)
    case atStart => exact ⟨0, by omega, by omega, rfl, rfl, by omega, rfl⟩
    case round =>
      obtain ⟨j, hj, hjp, rfl, rfl, hgj, rfl⟩ := hrel
      have z0 : (B (paW p.data.toList X j)).size ≤ 78 := by rw [size_B, paW_len]; omega
      by_cases hc : j < p.size ∧ j < d
      · obtain ⟨hc1, hc2⟩ := hc
        have hi1 : (j : Int) < p.size := by omega
        have hi2 : (j : Int) < d := by omega
        rcases odd_at p j hc1 with ⟨o1, o2⟩ | ⟨o1, o2⟩
        · have e2 := paW_step (p := p.data.toList) (s := X) (k := j) (f := { data := #[115, 110, 100] }) (by rw [if_pos o2]; rfl)
          have z1 : (({ data := #[115, 110, 100] } : ByteArray) ++ ({ data := #[32, 40] } : ByteArray) ++ B (paW p.data.toList X j)).size ≤ 83 := by rw [ByteArray.size_append]; show 5 + _ ≤ 83; omega
          clear o2
          go_wp2_with fail
          go_roundg (d - (j + 1) + 1)
          case measure => omega
          case rel => exact ⟨j + 1, by omega, by omega, rfl, by go_num, rfl, rfl⟩
        · have e2 := paW_step (p := p.data.toList) (s := X) (k := j) (f := { data := #[102, 115, 116] }) (by rw [if_neg (by rw [o2]; decide)]; rfl)
          have z1 : (({ data := #[102, 115, 116] } : ByteArray) ++ ({ data := #[32, 40] } : ByteArray) ++ B (paW p.data.toList X j)).size ≤ 83 := by rw [ByteArray.size_append]; show 5 + _ ≤ 83; omega
          clear o2
          go_wp2_with fail
          go_roundg (d - (j + 1) + 1)
          case measure => omega
          case rel => exact ⟨j + 1, by omega, by omega, rfl, by go_num, rfl, rfl⟩
      · by_cases hdp : d ≤ p.size
        · have hje : j = d := by omega
          subst hje
          have CH := hid (HH'.out hdp wr GN.out)
          clear hc hj hgj HH'
          have hi : ¬ (j : Int) < j := by omega
          have hi3 : ¬ (p.size : Int) < j := by omega
          go_wp2_with fail
          all_goals
            refine CH.out.mono ?_
            rintro e w3 ⟨rfl, g3⟩
            have G3 := hid (GN.out.trans g3)
            clear g3 CH
            go_wp2
            go_ret
            exact ⟨rfl, G3.out⟩
        · have hje : j = p.size := by omega
          subst hje
          have hi3 : (p.size : Int) < d := by omega
          clear hc hj hgj HH'
          go_wp2
          go_ret
          exact ⟨rfl, GN.out⟩
  · have e1 := hz.2 hs
    have hs7 : 6 < s.size := by omega
    clear hz hs
    go_enter Tryz.func12, Tryz.ntmps12
    go_wp2_with fail
    refine (HP.out _).mono ?_
    rintro e w1 ⟨rfl, rfl⟩
    clear HP
    go_wp2_with fail
    refine (tree_any _ _ _ d hd _ p 0 (paStart w1) rfl h6 h8 (pa_start w1).1).mono ?_
    rintro e w2 ⟨rfl, _, g2⟩
    have GN := hid (gn_start g2)
    clear g2
    have hL := trS_len d p.data.toList 0
    obtain ⟨X, hX⟩ : ∃ X, X = (trS d p.data.toList 0).1 := ⟨_, rfl⟩
    obtain ⟨Y, hY⟩ : ∃ Y, Y = (trS d p.data.toList 0).2.1 := ⟨_, rfl⟩
    rw [← hX, ← hY]
    rw [← hX] at hL
    unfold paX at HH'
    rw [← hX, ← hY] at HH'
    clear hX hY
    have hL2 : X.length ≤ 60 := by omega
    clear hL
    go_wp2_with fail
    go_loopg [8, 10] (d + 1) (fun gh x i wi => ∃ j : Nat, j ≤ d ∧ j ≤ p.size ∧ x = .string (B (paW p.data.toList X j)) ∧ i = .int .i64 j ∧ gh = d - j + 1 ∧ wi = w2)
    case atStart => exact ⟨0, by omega, by omega, rfl, rfl, by omega, rfl⟩
    case round =>
      obtain ⟨j, hj, hjp, rfl, rfl, hgj, rfl⟩ := hrel
      have z0 : (B (paW p.data.toList X j)).size ≤ 78 := by rw [size_B, paW_len]; omega
      by_cases hc : j < p.size ∧ j < d
      · obtain ⟨hc1, hc2⟩ := hc
        have hi1 : (j : Int) < p.size := by omega
        have hi2 : (j : Int) < d := by omega
        rcases odd_at p j hc1 with ⟨o1, o2⟩ | ⟨o1, o2⟩
        · have e2 := paW_step (p := p.data.toList) (s := X) (k := j) (f := { data := #[115, 110, 100] }) (by rw [if_pos o2]; rfl)
          have z1 : (({ data := #[115, 110, 100] } : ByteArray) ++ ({ data := #[32, 40] } : ByteArray) ++ B (paW p.data.toList X j)).size ≤ 83 := by rw [ByteArray.size_append]; show 5 + _ ≤ 83; omega
          clear o2
          go_wp2_with fail
          go_roundg (d - (j + 1) + 1)
          case measure => omega
          case rel => exact ⟨j + 1, by omega, by omega, rfl, by go_num, rfl, rfl⟩
        · have e2 := paW_step (p := p.data.toList) (s := X) (k := j) (f := { data := #[102, 115, 116] }) (by rw [if_neg (by rw [o2]; decide)]; rfl)
          have z1 : (({ data := #[102, 115, 116] } : ByteArray) ++ ({ data := #[32, 40] } : ByteArray) ++ B (paW p.data.toList X j)).size ≤ 83 := by rw [ByteArray.size_append]; show 5 + _ ≤ 83; omega
          clear o2
          go_wp2_with fail
          go_roundg (d - (j + 1) + 1)
          case measure => omega
          case rel => exact ⟨j + 1, by omega, by omega, rfl, by go_num, rfl, rfl⟩
      · by_cases hdp : d ≤ p.size
        · have hje : j = d := by omega
          subst hje
          have CH := hid (HH'.out hdp wr GN.out)
          clear hc hj hgj HH'
          have hi : ¬ (j : Int) < j := by omega
          have hi3 : ¬ (p.size : Int) < j := by omega
          go_wp2_with fail
          all_goals
            refine CH.out.mono ?_
            rintro e w3 ⟨rfl, g3⟩
            have G3 := hid (GN.out.trans g3)
            clear g3 CH
            go_wp2
            go_ret
            exact ⟨rfl, G3.out⟩
        · have hje : j = p.size := by omega
          subst hje
          have hi3 : (p.size : Int) < d := by omega
          clear hc hj hgj HH'
          go_wp2
          go_ret
          exact ⟨rfl, GN.out⟩
end Go.Proofs.YtcdijppegfcoaaaGreatDoor
