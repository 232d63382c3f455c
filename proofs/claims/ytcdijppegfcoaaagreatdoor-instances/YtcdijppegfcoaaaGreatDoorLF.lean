import Derived.Test.YtcdijppegfcoaaaGreatDoorLE
import Derived.Test.YtcdijppegfcoaaaGreatDoorLA
import Derived.Laws.Cover1
/-
  OUR OWN TEXT. typerref.Parsed in the words of RdF, RdT.
-/
namespace Go.Proofs.YtcdijppegfcoaaaGreatDoor
open Go.RowKit

/-- Where the keywords of types lie. -/
structure KW (w : World) (kb ko kc : Nat) : Prop where
  g : w.cell? ⟨1, 0, none⟩ = some (.slice (some ⟨kb, ko, none⟩) tyKw.length kc)
  gl : 1 < w.heap.size
  k : KwO w kb ko tyKw
  kl : kb < w.heap.size
theorem KW.gn {w w' : World} {kb ko kc : Nat} (h : KW w kb ko kc) (hg : Gn w w') : KW w' kb ko kc :=
  ⟨Gn.cell h.g h.gl hg, Nat.lt_of_lt_of_le h.gl hg.size, h.k.gn h.kl hg, Nat.lt_of_lt_of_le h.kl hg.size⟩
theorem parsed_f (s : ByteArray) (a b : Int) (w : World) (kb ko kc : Nat) (hk : KW w kb ko kc) (h : RdF s a b) :
    Calls Tryz.prog 19 #[.string s] w fun e w' => Below w.heap.size w w' ∧ e = .returned (.tuple #[.pointer none, .slice none 0 0, fv a b]) := by
  rcases h with ⟨hs, rfl, rfl⟩ | ⟨hs, x, ns, s1, hx, hk1, h⟩
  · exact parsed_long s w hs
  · refine (parsed_any s kb ko kc tyKw w hk.g hk.gl hk.k hk.kl (by decide) hs x ns s1 _ hx).mono ?_
    rintro e w' ⟨hb, (⟨hb1, rfl⟩ | ⟨hb1, m, ok, hd⟩)⟩
    · rcases h with ⟨_, rfl, rfl⟩ | ⟨h2, _⟩
      · exact ⟨hb, rfl⟩
      · omega
    · rcases h with ⟨h2, _⟩ | ⟨_, rfl, rfl, hbig⟩
      · omega
      · rcases hd with ⟨_, rfl⟩ | ⟨hd, _⟩
        · exact ⟨hb, rfl⟩
        · exact absurd (hbig _ _ ok) (by omega)
theorem parsed_t (s : ByteArray) (x : Ty) (ns : List (List UInt8)) (w : World) (kb ko kc : Nat) (hk : KW w kb ko kc) (h : RdT s x ns) :
    Calls Tryz.prog 19 #[.string s] w fun e w' => Below w.heap.size w w' ∧ ∃ b H v m, e = .returned (.tuple #[.pointer (some ⟨b, 0, none⟩), v, fv 0 0]) ∧ Fz H w' ∧ TRep m H b x ∧ TyOk ns.length m x ∧ tySize m x ≤ 120 ∧ w'.ownsRow w.heap.size 9 1 v ns.length (strs ns) ∧ ∀ k, some k = v.ownBlock → H k = none := by
  obtain ⟨hs, s1, hx, hk1, hb0, hsz⟩ := h
  refine (parsed_any s kb ko kc tyKw w hk.g hk.gl hk.k hk.kl (by decide) hs x ns s1 _ hx).mono ?_
  rintro e w' ⟨hb, (⟨hb1, _⟩ | ⟨hb1, m, ok, (⟨hd, _⟩ | ⟨hd, b, H, v, rfl, hz, hr, hrow, hn⟩)⟩)⟩
  · omega
  · exact absurd (hsz _ _ ok) (by omega)
  · exact ⟨hb, b, H, v, m, rfl, hz, hr, ok, hd, hrow, hn⟩

set_option maxRecDepth 100000 in
set_option maxHeartbeats 8000000 in
/-- The law where the first text is no type. -/
theorem ins_f1 (s1 s2 : ByteArray) (a b : Int) (w : World) (ad : Nat → Addr) (cs : Nat → Array Value) (ts : Nat → TypeId) (S : SW w ad cs ts) (kb ko kc : Nat) (hk : KW w kb ko kc) (h : RdF s1 a b) (ha : 0 < a) :
    Calls Tryz.prog 5 #[.string s1, .string s2] w fun e w' => e = .returned (.bool true) ∧ Gn w w' := by
  have HP := hid (pinst_err s1 s2 a b w ad cs ts S (fun W SW' => inst_f1 s1 s2 a b W ad cs ts SW' h))
  have RA : Hid (∀ W, Gn w W → Calls Tryz.prog 19 #[.string s1] W fun e w' => Below W.heap.size W w' ∧ e = .returned (.tuple #[.pointer none, .slice none 0 0, fv a b])) := fun W hW => parsed_f s1 a b W kb ko kc (hk.gn hW) h
  clear S hk h
  go_enter Tryz.func5, Tryz.ntmps5
  go_wp2_with fail
  refine HP.out.mono ?_
  rintro e w1 ⟨rfl, g1⟩
  have G1 := hid g1
  have RL := hid (RA.out (w1.alloc (.cells #[.int .i64 a, .int .i64 b, .string (B []), .int .i64 0, .int .i64 0] 23)) (g1.trans (Gn.of (World.grownBy_alloc _ _ _))))
  clear g1 HP RA
  unfold fv
  go_wp2_with fail
  refine RL.out.mono ?_
  rintro e w3 ⟨g3, rfl⟩
  have GW := hid (Gn.below g3)
  clear g3 RL
  have n1 : (w3.alloc (.cells #[.int .i64 a, .int .i64 b, .string (B []), .int .i64 0, .int .i64 0] 27)).heap[w1.heap.size]? = some (.cells #[.int .i64 a, .int .i64 b, .string (B []), .int .i64 0, .int .i64 0] 23 (0, 0)) := by
    rw [Below.heap_alloc _ _ _ (by have := GW.out.size; simp at this; omega), GW.out.block _ (by simp)]
    exact heap_alloc_new _ _
  have n2 : (w3.alloc (.cells #[.int .i64 a, .int .i64 b, .string (B []), .int .i64 0, .int .i64 0] 27)).heap[w3.heap.size]? = some (.cells #[.int .i64 a, .int .i64 b, .string (B []), .int .i64 0, .int .i64 0] 27 (0, 0)) := heap_alloc_new _ _
  have l1 := lt_of_block n1
  have l2 := lt_of_block n2
  obtain ⟨⟨q0, q1, q2, q3, q4⟩, _⟩ := five_c n1
  obtain ⟨⟨p0, p1, p2, p3, p4⟩, _⟩ := five_c n2
  have tB : (B []).toList = [] := toList_B []
  have N2 := hid n2
  have heq := fv_eq a b
  unfold fv at heq
  clear n1 n2
  unfold fv
  go_wp2_with fail
  go_region_with (go_at_call 16; refine (said_p a b _).mono ?_; rintro e w6 ⟨rfl, g6⟩; have ff := (five_c ((g6.block _ l2 (by simp)).trans N2.out)).1; have G6 := hid g6; clear g6; obtain ⟨r0, r1, r2, r3, r4⟩ := ff; unfold fv)
  all_goals
    go_wp2
    go_ret
    exact ⟨rfl, ((G1.out.trans (Gn.of (World.grownBy_alloc _ _ _))).trans GW.out).trans ((Gn.of (World.grownBy_alloc _ _ _)).trans (Gn.of ((grown_drew (World.grownBy.refl _ _)).trans G6.out)))⟩
end Go.Proofs.YtcdijppegfcoaaaGreatDoor

/-
  OUR OWN TEXT. The law Instances where the second text is no type.
-/
namespace Go.Proofs.YtcdijppegfcoaaaGreatDoor
open Go.RowKit

theorem set5_blk {w3 : World} {fb : Nat} {t : TypeId} {p q r s u : Value} (h : w3.heap[fb]? = some (.cells #[p, q, r, s, u] t (0, 0))) (v0 v1 v2 v3 v4 : Value) : (((((w3.setCell ⟨fb, 0, none⟩ v0).setCell ⟨fb, 1, none⟩ v1).setCell ⟨fb, 2, none⟩ v2).setCell ⟨fb, 3, none⟩ v3).setCell ⟨fb, 4, none⟩ v4).heap[fb]? = some (.cells #[v0, v1, v2, v3, v4] t (0, 0)) := by
  simp [World.setCell, Array.getElem?_modify, h]
theorem set5_size (w3 : World) (fb : Nat) (v0 v1 v2 v3 v4 : Value) : (((((w3.setCell ⟨fb, 0, none⟩ v0).setCell ⟨fb, 1, none⟩ v1).setCell ⟨fb, 2, none⟩ v2).setCell ⟨fb, 3, none⟩ v3).setCell ⟨fb, 4, none⟩ v4).heap.size = w3.heap.size := by
  simp [World.setCell]

set_option maxRecDepth 100000 in
set_option maxHeartbeats 8000000 in
theorem ins_f2 (s1 s2 : ByteArray) (x : Ty) (na : List (List UInt8)) (a b : Int) (w : World) (ad : Nat → Addr) (cs : Nat → Array Value) (ts : Nat → TypeId) (S : SW w ad cs ts) (kb ko kc : Nat) (hk : KW w kb ko kc) (h1 : RdT s1 x na) (h : RdF s2 a b) (ha : 0 < a) :
    Calls Tryz.prog 5 #[.string s1, .string s2] w fun e w' => e = .returned (.bool true) ∧ Gn w w' := by
  have HP := hid (pinst_err s1 s2 a b w ad cs ts S (fun W SW' => inst_f2 s1 s2 x na a b W ad cs ts SW' h1 h))
  have RT := hid (fun (W : World) (hW : Gn w W) => parsed_t s1 x na W kb ko kc (hk.gn hW) h1)
  have RA : Hid (∀ W, Gn w W → Calls Tryz.prog 19 #[.string s2] W fun e w' => Below W.heap.size W w' ∧ e = .returned (.tuple #[.pointer none, .slice none 0 0, fv a b])) := fun W hW => parsed_f s2 a b W kb ko kc (hk.gn hW) h
  clear S hk h h1
  go_enter Tryz.func5, Tryz.ntmps5
  go_wp2_with fail
  refine HP.out.mono ?_
  rintro e w1 ⟨rfl, g1⟩
  have G1 := hid g1
  have RL := hid (RT.out (w1.alloc (.cells #[.int .i64 a, .int .i64 b, .string (B []), .int .i64 0, .int .i64 0] 23)) (g1.trans (Gn.of (World.grownBy_alloc _ _ _))))
  clear g1 HP RT
  unfold fv
  go_wp2_with fail
  refine RL.out.mono ?_
  rintro e w3 ⟨g3, b1, H1, v1, m1, rfl, x1, x2, x3, x4, hrow, x5⟩
  obtain ⟨ao, cp, rfl, x6⟩ := own_view hrow
  clear x1 x2 x3 x4 x5 x6
  have GW := hid (Gn.below g3)
  have G3 := hid ((G1.out.trans (Gn.of (World.grownBy_alloc _ _ _))).trans (Gn.below g3))
  clear g3 RL hrow
  have n1 : w3.heap[w1.heap.size]? = some (.cells #[.int .i64 a, .int .i64 b, .string (B []), .int .i64 0, .int .i64 0] 23 (0, 0)) := by
    rw [GW.out.block _ (by simp)]
    exact heap_alloc_new _ _
  have l1 := lt_of_block n1
  have N1 := hid n1
  have RS := hid (RA.out (w3.alloc (.cells #[.int .i64 0, .int .i64 0, .string (B []), .int .i64 0, .int .i64 0] 27)) (G3.out.trans (Gn.of (World.grownBy_alloc _ _ _))))
  clear n1 RA
  unfold fv
  go_wp2_with fail
  refine RS.out.mono ?_
  rintro e w5 ⟨g5, rfl⟩
  have n5 : w5.heap[w3.heap.size]? = some (.cells #[.int .i64 0, .int .i64 0, .string (B []), .int .i64 0, .int .i64 0] 27 (0, 0)) := by
    rw [g5.block _ (by simp)]
    exact heap_alloc_new _ _
  have n6 : w5.heap[w1.heap.size]? = some (.cells #[.int .i64 a, .int .i64 b, .string (B []), .int .i64 0, .int .i64 0] 23 (0, 0)) := by
    rw [g5.block _ (by simp; omega), Below.heap_alloc _ _ _ l1]
    exact N1.out
  have l5 := lt_of_block n5
  have G5 := hid ((G3.out.trans (Gn.of (World.grownBy_alloc _ _ _))).trans (Gn.below g5))
  obtain ⟨⟨q0, q1, q2, q3, q4⟩, f0, f1, f2, f3, f4⟩ := five_c n5
  have N5 := hid n5
  have N6 := hid n6
  have hne : w1.heap.size ≠ w3.heap.size := by omega
  clear g5 n5 n6 RS
  unfold fv
  go_wp2_with fail
  obtain ⟨wz, hwz⟩ : ∃ wz, wz = ((((w5.setCell ⟨w3.heap.size, 0, none⟩ (.int .i64 a)).setCell ⟨w3.heap.size, 1, none⟩ (.int .i64 b)).setCell ⟨w3.heap.size, 2, none⟩ (.string (B []))).setCell ⟨w3.heap.size, 3, none⟩ (.int .i64 0)).setCell ⟨w3.heap.size, 4, none⟩ (.int .i64 0) := ⟨_, rfl⟩
  rw [← hwz]
  have z1 : wz.heap[w1.heap.size]? = some (.cells #[.int .i64 a, .int .i64 b, .string (B []), .int .i64 0, .int .i64 0] 23 (0, 0)) := by rw [hwz, set5_other _ _ _ _ _ hne]; exact N6.out
  have z2 : wz.heap[w3.heap.size]? = some (.cells #[.int .i64 a, .int .i64 b, .string (B []), .int .i64 0, .int .i64 0] 27 (0, 0)) := by rw [hwz]; exact set5_blk N5.out _ _ _ _ _
  have GZ := hid (show Gn w wz by rw [hwz]; exact G5.out.set5 (Nat.le_trans G3.out.size (Nat.le_refl _)) _ _ _ _ _)
  have lz1 := lt_of_block z1
  have lz2 := lt_of_block z2
  clear q0 q1 q2 q3 q4 f0 f1 f2 f3 f4 hwz
  obtain ⟨⟨q0, q1, q2, q3, q4⟩, _⟩ := five_c z1
  obtain ⟨⟨p0, p1, p2, p3, p4⟩, _⟩ := five_c z2
  have tB : (B []).toList = [] := toList_B []
  have N2 := hid z2
  have heq := fv_eq a b
  unfold fv at heq
  clear z1 z2
  go_region_with (go_at_call 16; refine (said_p a b _).mono ?_; rintro e w6 ⟨rfl, g6⟩; have ff := (five_c ((g6.block _ lz2 (by simp)).trans N2.out)).1; have G6 := hid g6; clear g6; obtain ⟨r0, r1, r2, r3, r4⟩ := ff; unfold fv)
  all_goals
    go_wp2
    go_ret
    exact ⟨rfl, GZ.out.trans (Gn.of ((grown_drew (World.grownBy.refl _ _)).trans G6.out))⟩
end Go.Proofs.YtcdijppegfcoaaaGreatDoor

/-
  OUR OWN TEXT. The law Instances of two types, the second no instance of the first.
-/
namespace Go.Proofs.YtcdijppegfcoaaaGreatDoor
open Go.RowKit

theorem made_ptrs (w : World) (n : Nat) (hn : n ≤ 100000) :
    (Instr.makeSlice 40 (.int .i64 (n : Int)) (.int .i64 (n : Int))).run Tryz.prog w = .ok (.slice (some ⟨w.heap.size, 0, none⟩) n n) (w.alloc (.cells (Array.replicate n (.pointer none)) 33)) := by
  obtain ⟨i0, hi, hz0, hz1, hz2⟩ := info_parts info_ty
  have hr := run_make (P := Tryz.prog) w 40 33 i0 (.pointer none) Tryz.underlying40 hi hz0 .i64 .i64 (n : Int) (n : Int) (by omega) (Int.le_refl _) (by rw [hz2]; omega) (by omega)
  rw [hr]
  simp only [Int.toNat_natCast, hz1, Nat.mul_one]
  have e : madeCells (Value.pointer none).cells n = Array.replicate n (.pointer none) := by
    apply Array.ext
    · rw [size_madeCells]; simp
    · intro i h1 h2
      have h3 : i % 1 = 0 := Nat.mod_one i
      simp [madeCells, Value.cells, h3]
  rw [e]
theorem grow_new (w : World) (n : Nat) : GRow (w.alloc (.cells (Array.replicate n (.pointer none)) 33)) (.slice (some ⟨w.heap.size, 0, none⟩) n n) (List.replicate n none) := by
  refine ⟨some ⟨w.heap.size, 0, none⟩, n, by simp, fun j o e => ⟨w.heap.size, rfl, by simp, ?_⟩⟩
  have hj : j < n := by
    rcases Nat.lt_or_ge j n with h | h
    · exact h
    · rw [List.getElem?_eq_none (by simpa using h)] at e; cases e
  have eo : o = none := List.eq_of_mem_replicate (List.mem_of_getElem? e)
  subst eo
  have hb := heap_alloc_new w (.cells (Array.replicate n (.pointer none)) 33)
  simp only [World.cell?, hb]
  simp [hj, ptrO]
theorem gt_new (N M : Nat) (ns : List (List UInt8)) (H : Nat → Option Obj) (n : Nat) : GT N M ns H (List.replicate n none) (List.replicate n none) := by
  refine ⟨by simp, fun j => ⟨fun o h1 h2 => ?_, fun b h1 => ?_⟩⟩
  · have hj : j < n := by
      rcases Nat.lt_or_ge j n with h | h
      · exact h
      · rw [List.getElem?_eq_none (by simpa using h)] at h1; cases h1
    simp [hj]
  · have := List.eq_of_mem_replicate (List.mem_of_getElem? h1)
    cases this
/-- Matched of two types that were parsed, over blocks of two makes. -/
theorem matched_two (x y : Ty) (na nb : List (List UInt8)) (hn : Nms nb.length nb) (l1 : na.length ≤ 1000) (l2 : nb.length ≤ 1000) (b1 b2 m1 m2 K K' Nx Ny : Nat) (H1 H2 : Nat → Option Obj) (w : World) (z1 : Fz H1 w) (z2 : Fz H2 w) (r1 : TRep m1 H1 b1 x) (r2 : TRep m2 H2 b2 y) (o1 : TyOk na.length m1 x) (o2 : TyOk nb.length m2 y) (kx : TyOk Nx K x) (ky : TyOk Ny K' y) :
    ∃ H M, Calls Tryz.prog 22 #[.pointer (some ⟨b1, 0, none⟩), .pointer (some ⟨b2, 0, none⟩), .slice (some ⟨w.heap.size, 0, none⟩) na.length na.length] (w.alloc (.cells (Array.replicate na.length (.pointer none)) 33)) fun e w' =>
      Fz H w' ∧ MOut nb.length M nb H (w.alloc (.cells (Array.replicate na.length (.pointer none)) 33)) w' e (matchS K' nb K x y (List.replicate na.length none)) := by
  obtain ⟨z, e1, e2⟩ := fz_both z1 z2
  refine ⟨both H1 H2, max m1 m2, ?_⟩
  have cm := matched_any nb.length (max m1 m2) nb hn (both H1 H2) (by omega) na.length l1 m1 b1 b2 x y (List.replicate na.length none) (List.replicate na.length none) _ (w.alloc (.cells (Array.replicate na.length (.pointer none)) 33)) (TRep.ext e1 _ _ _ r1) ((TRep.ext e2 _ _ _ r2).le (show m2 ≤ max m1 m2 by omega)) (o2.le (by omega)) (by omega) (z.alloc _) (grow_new w na.length) (gt_new _ _ _ _ _) o1 (by simp)
  rw [match_fuel m1 K x y _ o1 kx (o2.le (show m2 ≤ max m1 m2 by omega)) ky] at cm
  exact cm.mono fun e w' h => ⟨(z.alloc _).grown h.1, h⟩

set_option maxRecDepth 100000 in
set_option maxHeartbeats 8000000 in
theorem ins_no (s1 s2 : ByteArray) (x y : Ty) (na nb : List (List UInt8)) (K K' Nx Ny : Nat) (w : World) (ad : Nat → Addr) (cs : Nat → Array Value) (ts : Nat → TypeId) (S : SW w ad cs ts) (kb ko kc : Nat) (hk : KW w kb ko kc) (h1 : RdT s1 x na) (h2 : RdT s2 y nb) (kx : TyOk Nx K x) (ky : TyOk Ny K' y)
    (hm : matchS K' nb K x y (List.replicate na.length none) = none) :
    Calls Tryz.prog 5 #[.string s1, .string s2] w fun e w' => e = .returned (.bool true) ∧ Gn w w' := by
  have HP := hid (pinst_err s1 s2 11 0 w ad cs ts S (fun W SW' => (inst_ok s1 s2 x y na nb K K' Nx Ny W ad cs ts SW' h1 h2 kx ky).mono fun e w' h => by
    obtain ⟨hg, (⟨_, rfl⟩ | ⟨g, mb, hq, _⟩)⟩ := h
    · exact ⟨hg, _, rfl, Or.inl ⟨7, by omega, rfl, rfl, rfl⟩⟩
    · rw [hm] at hq; cases hq))
  have RT := hid (fun (W : World) (hW : Gn w W) => parsed_t s1 x na W kb ko kc (hk.gn hW) h1)
  have RS := hid (fun (W : World) (hW : Gn w W) => parsed_t s2 y nb W kb ko kc (hk.gn hW) h2)
  obtain ⟨hn1, hl1⟩ := h1.names
  obtain ⟨hn2, hl2⟩ := h2.names
  have MT := hid (fun (b1 b2 m1 m2 : Nat) (H1 H2 : Nat → Option Obj) (W : World) z1 z2 r1 r2 o1 o2 => matched_two x y na nb hn2 hl1 hl2 b1 b2 m1 m2 K K' Nx Ny H1 H2 W z1 z2 r1 r2 o1 o2 kx ky)
  rw [hm] at MT
  have hmk := fun W => made_ptrs W na.length (by omega)
  clear S hk h1 h2 hn1 hn2 kx ky hm
  go_enter Tryz.func5, Tryz.ntmps5
  go_wp2_with fail
  refine HP.out.mono ?_
  rintro e w1 ⟨rfl, g1⟩
  have G1 := hid g1
  have RL := hid (RT.out (w1.alloc (.cells #[.int .i64 11, .int .i64 0, .string (B []), .int .i64 0, .int .i64 0] 23)) (g1.trans (Gn.of (World.grownBy_alloc _ _ _))))
  clear g1 HP RT
  unfold fv
  go_wp2_with fail
  refine RL.out.mono ?_
  rintro e w3 ⟨g3, b1, H1, v1, m1, rfl, z1, r1, o1, _, hrow, _⟩
  obtain ⟨ao, cp, rfl, x6⟩ := own_view hrow
  clear x6
  have GW := hid (Gn.below g3)
  have G3 := hid ((G1.out.trans (Gn.of (World.grownBy_alloc _ _ _))).trans (Gn.below g3))
  have A1 := hid (And.intro z1 (And.intro r1 o1))
  clear g3 RL hrow z1 r1 o1
  have n1 : w3.heap[w1.heap.size]? = some (.cells #[.int .i64 11, .int .i64 0, .string (B []), .int .i64 0, .int .i64 0] 23 (0, 0)) := by
    rw [GW.out.block _ (by simp)]
    exact heap_alloc_new _ _
  have l1 := lt_of_block n1
  have N1 := hid n1
  have RS2 := hid (RS.out (w3.alloc (.cells #[.int .i64 0, .int .i64 0, .string (B []), .int .i64 0, .int .i64 0] 27)) (G3.out.trans (Gn.of (World.grownBy_alloc _ _ _))))
  clear n1 RS
  unfold fv
  go_wp2_with fail
  refine RS2.out.mono ?_
  rintro e w5 ⟨g5, b2, H2, v2, m2, rfl, z2, r2, o2, _, hrow2, _⟩
  obtain ⟨ao2, cp2, rfl, x7⟩ := own_view hrow2
  clear x7 hrow2
  have n5 : w5.heap[w3.heap.size]? = some (.cells #[.int .i64 0, .int .i64 0, .string (B []), .int .i64 0, .int .i64 0] 27 (0, 0)) := by
    rw [g5.block _ (by simp)]
    exact heap_alloc_new _ _
  have n6 : w5.heap[w1.heap.size]? = some (.cells #[.int .i64 11, .int .i64 0, .string (B []), .int .i64 0, .int .i64 0] 23 (0, 0)) := by
    rw [g5.block _ (by simp; omega), Below.heap_alloc _ _ _ l1]
    exact N1.out
  have l5 := lt_of_block n5
  have z15 : Fz H1 w5 := fun k o e => by
    have hkl := A1.out.1.lt e
    rw [g5.block k (by simp; omega), Below.heap_alloc _ _ _ hkl]
    exact A1.out.1 k o e
  have G5 := hid ((G3.out.trans (Gn.of (World.grownBy_alloc _ _ _))).trans (Gn.below g5))
  obtain ⟨⟨q0, q1, q2, q3, q4⟩, f0, f1, f2, f3, f4⟩ := five_c n5
  have N5 := hid n5
  have N6 := hid n6
  have hne : w1.heap.size ≠ w3.heap.size := by omega
  have A2 := hid (And.intro z15 (And.intro z2 (And.intro r2 o2)))
  clear g5 n5 n6 RS2 z15 z2 r2 o2
  unfold fv
  go_wp2_with fail
  have same : ∀ k, (((((w5.setCell ⟨w3.heap.size, 0, none⟩ (.int .i64 0)).setCell ⟨w3.heap.size, 1, none⟩ (.int .i64 0)).setCell ⟨w3.heap.size, 2, none⟩ (.string (B []))).setCell ⟨w3.heap.size, 3, none⟩ (.int .i64 0)).setCell ⟨w3.heap.size, 4, none⟩ (.int .i64 0)).heap[k]? = w5.heap[k]? := fun k => by
    by_cases e : k = w3.heap.size
    · rw [e, set5_blk N5.out]; exact N5.out.symm
    · exact set5_other _ _ _ _ _ e
  have hsz := set5_size w5 w3.heap.size (.int .i64 0) (.int .i64 0) (.string (B [])) (.int .i64 0) (.int .i64 0)
  obtain ⟨H, M, cm⟩ := MT.out b1 b2 m1 m2 H1 H2 (((((w5.setCell ⟨w3.heap.size, 0, none⟩ (.int .i64 0)).setCell ⟨w3.heap.size, 1, none⟩ (.int .i64 0)).setCell ⟨w3.heap.size, 2, none⟩ (.string (B []))).setCell ⟨w3.heap.size, 3, none⟩ (.int .i64 0)).setCell ⟨w3.heap.size, 4, none⟩ (.int .i64 0)) (fun k o e => by rw [same k]; exact A2.out.1 k o e) (fun k o e => by rw [same k]; exact A2.out.2.1 k o e) A1.out.2.1 A2.out.2.2.1 A1.out.2.2 A2.out.2.2.2
  rw [hsz] at cm
  refine cm.mono ?_
  rintro e w7 ⟨_, g7, v7, (⟨_, rfl⟩ | ⟨_, _, hq, _⟩)⟩
  · have c8 : w7.cell? ⟨w1.heap.size, 0, none⟩ = some (.int .i64 11) := by
      have hb : w7.heap[w1.heap.size]? = some (.cells #[.int .i64 11, .int .i64 0, .string (B []), .int .i64 0, .int .i64 0] 23 (0, 0)) := by
        rw [g7.block _ (by simp [hsz]; omega) (by simp), Below.heap_alloc _ _ _ (by rw [hsz]; omega), same]
        exact N6.out
      exact (five_c hb).1.1
    have GZ := hid ((G5.out.set5 (n := w3.heap.size) G3.out.size (.int .i64 0) (.int .i64 0) (.string (B [])) (.int .i64 0) (.int .i64 0)).trans ((Gn.of (World.grownBy_alloc _ _ _)).trans (Gn.of g7)))
    clear g7 cm same hsz q0 q1 q2 q3 q4 f0 f1 f2 f3 f4
    go_wp2
    go_ret
    exact ⟨rfl, GZ.out⟩
  · cases hq
end Go.Proofs.YtcdijppegfcoaaaGreatDoor

/-
  OUR OWN TEXT. Two types that fit: every variable stands for something; the names, rising.
-/
namespace Go.Proofs.YtcdijppegfcoaaaGreatDoor
open Go.RowKit

theorem hall_of {s1 : ByteArray} {x y : Ty} {na nb : List (List UInt8)} {K K' Nx Ny : Nat} {g : List (Option (List UInt8))} (h1 : RdT s1 x na) (kx : TyOk Nx K x) (ky : TyOk Ny K' y) (hm : matchS K' nb K x y (List.replicate na.length none) = some g) (v : Nat) (hv : v < na.length) : (g.getD v none).isSome = true := by
  obtain ⟨_, st, hx, _⟩ := h1
  obtain ⟨m, ho⟩ := arr_cover _ _ _ _ _ _ hx v (by simp) hv
  rw [match_fuel K K x y _ kx kx ky (ky.le (show K' ≤ max K K' by omega))] at hm
  exact match_fill m K x y _ g ho (TyOk.wide (show Nx ≤ max Nx Ny by omega) _ _ kx) (TyOk.wide (show Ny ≤ max Nx Ny by omega) _ _ (ky.le (show K' ≤ max K K' by omega))) (by omega) hm (by simpa using hv)
theorem sortS_perm (na : List (List UInt8)) : (sortS na).Perm na := List.mergeSort_perm _ _
theorem sortS_le (na : List (List UInt8)) : (sortS na).Pairwise (fun x y => x ≤ y) := by
  have h := List.pairwise_mergeSort (le := fun (x y : List UInt8) => decide (x ≤ y)) (fun a b c h1 h2 => by simp only [decide_eq_true_eq] at *; exact List.le_trans h1 h2) (fun a b => by simp only [Bool.or_eq_true, decide_eq_true_eq]; exact List.le_total a b) na
  exact h.imp fun h => by simpa using h
theorem sortS_lt {na : List (List UInt8)} (hd : na.Nodup) {i : Nat} (hi : i + 1 < (sortS na).length) : (sortS na).getD i [] < (sortS na).getD (i + 1) [] := by
  have h := List.pairwise_iff_getElem.1 (sortS_le na) i (i + 1) (by omega) hi (by omega)
  have hn := (sortS_perm na).nodup_iff.2 hd
  have h2 := (List.pairwise_iff_getElem.1 hn) i (i + 1) (by omega) hi (by omega)
  have e1 : (sortS na).getD i [] = (sortS na)[i]'(by omega) := by simp [List.getD, show i < (sortS na).length by omega]
  have e2 : (sortS na).getD (i + 1) [] = (sortS na)[i + 1] := by simp [List.getD, hi]
  rw [e1, e2]
  refine Classical.byContradiction fun h3 => h2 (List.le_antisymm h ?_)
  exact List.not_lt.1 h3
/-- At the name of the k-th variable stands what the k-th variable stands for. -/
theorem txtS_at {na : List (List UInt8)} {g : List (Option (List UInt8))} (hd : na.Nodup) {k : Nat} (hk : k < na.length) : txtS na g (na.getD k []) = (g.getD k none).getD [] := by
  unfold txtS
  have e : na.getD k [] = na[k] := by simp [List.getD, hk]
  rw [e, hd.idxOf_getElem k hk]
end Go.Proofs.YtcdijppegfcoaaaGreatDoor

/-
  OUR OWN TEXT. typerref.Shown by any names; typerlaw.in.
-/
namespace Go.Proofs.YtcdijppegfcoaaaGreatDoor
open Go.RowKit

/-- Shown of any type. -/
theorem shown_gen (H : Nat → Option Obj) (an : Option Addr) (cn N : Nat) (ns : List (List UInt8)) : ∀ (m : Nat) (b : Nat) (x : Ty) (w : World), TRep m H b x → Fz H w → TyOk N m x → N ≤ ns.length →
    (∀ (j : Nat) (c : List UInt8), ns[j]? = some c → ∃ gn, an = some ⟨gn, 0, none⟩ ∧ w.cell? ⟨gn, j, none⟩ = some (.string (B c))) → (tyText m ns x).length ≤ 1000000000 →
    Calls Tryz.prog 23 #[.pointer (some ⟨b, 0, none⟩), .slice an ns.length cn] w fun e w' => e = .returned (.string (B (tyText m ns x))) ∧ ∃ q, w' = w.drewN q
  | 0, _, _, _, h, _, _, _, _, _ => absurd h id
  | m + 1, b, x, w, h, hz, hok, hN, hns, hsz => by
    obtain ⟨ks, bs, h1, h3, h4, h5⟩ := h
    have hb := hz _ _ h1
    have ih : ∀ (c : Nat) (y : Ty), TRep m H c y → TyOk N m y → (tyText m ns y).length ≤ 1000000000 → SH w (.slice an ns.length cn) c (tyText m ns y) := fun c y hr ho hs n =>
      shown_gen H an cn N ns m c y (w.drewN n) hr hz ho hN hns hs
    obtain ⟨ao, cp, rfl, hrow⟩ := row_viewT h3 hz
    rcases hok with ⟨q1, q2, q3⟩ | ⟨q1, q2, q3⟩ | ⟨q1, q2, a, q3, q4⟩ | ⟨q1, q2, a, d, q3, q4, q5⟩
    · have hj : x.var < ns.length := by omega
      rw [tyText, if_pos q1]
      have e : ns.getD x.var [] = ns[x.var] := by simp [List.getD, hj]
      rw [e]
      rw [q1] at hb
      obtain ⟨gn, rfl, hcn⟩ := hns x.var _ (List.getElem?_eq_getElem hj)
      exact shown_var w b x.var gn ns.length cn _ _ hj hb hcn
    · have hk : x.kind ≠ [] := by rcases q1 with q1 | q1 <;> rw [q1] <;> decide
      rw [tyText, if_neg hk, q3]
      rcases q1 with q1 | q1
      · rw [q1] at hb
        have := shown_int w b _ (.slice an ns.length cn) _ hb
        rw [← q1] at this
        exact this
      · rw [q1] at hb
        have := shown_bool w b _ (.slice an ns.length cn) _ hb
        rw [← q1] at this
        exact this
    · have hk : x.kind ≠ [] := by rw [q1]; decide
      rw [q3] at h4
      have l1 : bs.length = 1 := h4
      obtain ⟨c, rfl⟩ : ∃ c, bs = [c] := by
        match bs, l1 with
        | [c], _ => exact ⟨c, rfl⟩
      obtain ⟨gk, rfl, hc⟩ := hrow 0 c rfl
      have hs1 : (tyText m ns a).length ≤ 1000000000 := by
        rw [tyText, if_neg hk, q3] at hsz
        simp only at hsz
        repeat' split at hsz
        all_goals (simp at hsz; omega)
      have hr := h5 0 a c rfl (by rw [q3]; rfl)
      rw [q1] at hb
      rw [tyText, if_neg hk, q3]
      exact shown_list w b gk cp c _ _ _ hb hc (ih c a hr q4 hs1) hs1
    · have hk : x.kind ≠ [] := by rcases q1 with q1 | q1 <;> rw [q1] <;> decide
      rw [q3] at h4
      have l1 : bs.length = 2 := h4
      obtain ⟨c, f, rfl⟩ : ∃ c f, bs = [c, f] := by
        match bs, l1 with
        | [c, f], _ => exact ⟨c, f, rfl⟩
      obtain ⟨gk, rfl, hc⟩ := hrow 0 c rfl
      obtain ⟨gk', e', hf⟩ := hrow 1 f rfl
      cases e'
      have hs1 : (tyText m ns a).length ≤ 1000000000 := by
        rw [tyText, if_neg hk, q3] at hsz
        simp only at hsz
        repeat' split at hsz
        all_goals (simp at hsz; omega)
      have hs2 : (tyText m ns d).length ≤ 1000000000 := by
        rw [tyText, if_neg hk, q3] at hsz
        simp only at hsz
        repeat' split at hsz
        all_goals (simp at hsz; omega)
      have hr := h5 0 a c rfl (by rw [q3]; rfl)
      have hr2 := h5 1 d f rfl (by rw [q3]; rfl)
      rw [tyText, if_neg hk, q3]
      rcases q1 with q1 | q1
      · rw [q1] at hb
        show Calls _ _ _ _ fun e w' => e = .returned (.string (B (if x.kind = kFun then _ else _))) ∧ _
        rw [if_neg (by rw [q1]; decide)]
        exact shown_pair w b gk cp c f _ _ _ _ hb hc hf (ih c a hr q4 hs1) hs1 (ih f d hr2 q5 hs2) hs2
      · rw [q1] at hb
        show Calls _ _ _ _ fun e w' => e = .returned (.string (B (if x.kind = kFun then _ else _))) ∧ _
        rw [if_pos q1]
        have hd0 : w.cell? ⟨c, 0, none⟩ = some (.string (B a.kind)) := by
          cases m with
          | zero => exact absurd hr id
          | succ m =>
            obtain ⟨_, _, r1, _⟩ := hr
            have := hz _ _ r1
            simp [World.cell?, this]
        by_cases hka : a.kind = kFun
        · rw [if_pos hka]
          exact shown_funb w b gk cp c f _ _ a.kind _ _ hb hc hf (ih c a hr q4 hs1) hs1 (ih f d hr2 q5 hs2) hs2 hd0 hka
        · rw [if_neg hka]
          exact shown_fun w b gk cp c f _ _ a.kind _ _ hb hc hf (ih c a hr q4 hs1) hs1 (ih f d hr2 q5 hs2) hs2 hd0 hka

set_option maxRecDepth 100000 in
set_option maxHeartbeats 1000000 in
theorem lin_any (w : World) (ao : Option Addr) (cp : Nat) (l : List (List UInt8)) (n : List UInt8) (hl : l.length ≤ 1000000) (hrow : ∀ (j : Nat) (x : List UInt8), l[j]? = some x → ∃ gn, ao = some ⟨gn, 0, none⟩ ∧ w.cell? ⟨gn, j, none⟩ = some (.string (B x))) :
    Calls Tryz.prog 24 #[.slice ao l.length cp, .string (B n)] w fun e w' => e = .returned (.bool (decide (n ∈ l))) ∧ w' = w := by
  have HROW := hid hrow
  clear hrow
  go_enter Tryz.func24, Tryz.ntmps24
  go_wp2_with fail
  go_loopg [9] (l.length + 1) (fun gh i wi => ∃ j : Nat, j ≤ l.length ∧ i = .int .i64 j ∧ gh = l.length - j + 1 ∧ wi = w ∧ Hid (n ∉ l.take j))
  case atStart => exact ⟨0, by omega, rfl, by omega, rfl, hid (by simp)⟩
  case round =>
    obtain ⟨j, hj, rfl, hgj, rfl, HN⟩ := hrel
    by_cases hjl : j < l.length
    · obtain ⟨x, hx⟩ : ∃ x, l[j]? = some x := ⟨l[j], List.getElem?_eq_getElem hjl⟩
      obtain ⟨gn, rfl, hcell⟩ := HROW.out j x hx
      have HX := hid hx
      clear hx
      by_cases hA : x = n
      · subst hA
        have h1 : ((B x).toList == (B x).toList) = true := beq_self_eq_true _
        go_wp2
        go_ret
        exact ⟨by rw [decide_eq_true (List.mem_of_getElem? HX.out)]; rfl, rfl⟩
      · have h1 : ((B x).toList == (B n).toList) = false := by rw [toList_B, toList_B]; exact beq_eq_false_iff_ne.2 hA
        have HN2 := hid (show n ∉ l.take (j + 1) from fun hm => by
          rw [List.take_add_one, HX.out] at hm
          rcases List.mem_append.1 hm with hm | hm
          · exact HN.out hm
          · simp at hm; exact hA hm.symm)
        clear hA
        go_wp2
        go_roundg (l.length - (j + 1) + 1)
        case measure => omega
        case rel => exact ⟨j + 1, by omega, by go_num, rfl, rfl, HN2⟩
    · have hje : j = l.length := by omega
      subst hje
      have HN2 := hid (show n ∉ l by have := HN.out; rwa [List.take_length] at this)
      clear HN
      go_wp2
      go_ret
      exact ⟨by rw [decide_eq_false HN2.out]; rfl, rfl⟩
end Go.Proofs.YtcdijppegfcoaaaGreatDoor

/-
  OUR OWN TEXT. How long the texts are that variables stand for; rows of names in later worlds.
-/
namespace Go.Proofs.YtcdijppegfcoaaaGreatDoor
open Go.RowKit

theorem text_kid {N M : Nat} {ns : List (List UInt8)} {y b : Ty} (h : TyOk N (M + 1) y) (hb : b ∈ y.kids) : TyOk N (M + 1) b ∧ (tyText (M + 1) ns b).length ≤ (tyText (M + 1) ns y).length := by
  have hk := ok_kid h hb
  refine ⟨TyOk.up _ _ hk, ?_⟩
  rw [TyOk.text ns M (M + 1) b hk (by omega)]
  rcases h with ⟨h1, h2, h3⟩ | ⟨h1, h2, h3⟩ | ⟨h1, h2, a, h3, h4⟩ | ⟨h1, h2, a, d, h3, h4, h5⟩
  · rw [h3] at hb; cases hb
  · rw [h3] at hb; cases hb
  · have hkn : y.kind ≠ [] := by rw [h1]; decide
    rw [h3] at hb
    rw [List.mem_singleton.1 hb, tyText, if_neg hkn, h3]
    simp
    omega
  · have hkn : y.kind ≠ [] := by rcases h1 with h1 | h1 <;> rw [h1] <;> decide
    rw [h3] at hb
    rw [tyText, if_neg hkn, h3]
    simp only
    rcases List.mem_cons.1 hb with rfl | hb
    · split
      · split <;> simp <;> omega
      · simp; omega
    · rw [List.mem_singleton.1 hb]
      split
      · split <;> simp <;> omega
      · simp; omega
def ShB (Bd : Nat) (g : List (Option (List UInt8))) : Prop := ∀ t, some t ∈ g → t.length ≤ Bd
theorem mKids_bound {Bd : Nat} {f : Ty → Ty → List (Option (List UInt8)) → Option (List (Option (List UInt8)))} {P : Ty → Prop} (hf : ∀ a b g g', P b → f a b g = some g' → ShB Bd g → ShB Bd g') : ∀ (xs ys : List Ty) (g g' : List (Option (List UInt8))), (∀ b, b ∈ ys → P b) → mKids f xs ys g = some g' → ShB Bd g → ShB Bd g'
  | [], _, g, g', _, h, hs => by cases h; exact hs
  | _ :: _, [], g, g', _, h, hs => by cases h; exact hs
  | a :: xs, b :: ys, g, g', hp, h, hs => by
    rw [mKids] at h
    cases e : f a b g with
    | none => rw [e] at h; cases h
    | some g1 =>
      rw [e] at h
      exact mKids_bound hf xs ys g1 g' (fun b hb => hp b (List.mem_cons_of_mem _ hb)) h (hf a b g g1 (hp b (by simp)) e hs)
theorem match_bound {N M Bd : Nat} {ns : List (List UInt8)} : ∀ (n : Nat) (x y : Ty) (g g' : List (Option (List UInt8))), TyOk N (M + 1) y ∧ (tyText (M + 1) ns y).length ≤ Bd → matchS (M + 1) ns n x y g = some g' → ShB Bd g → ShB Bd g'
  | 0, _, _, _, _, _, h, _ => by cases h
  | n + 1, x, y, g, g', hy, h, hs => by
    rw [matchS] at h
    split at h
    · split at h
      · split at h
        · cases h; exact hs
        · cases h
      · cases h
        intro t ht
        rcases List.mem_or_eq_of_mem_set ht with h1 | h1
        · exact hs t h1
        · cases h1; exact hy.2
    · split at h
      · exact mKids_bound (P := fun b => TyOk N (M + 1) b ∧ (tyText (M + 1) ns b).length ≤ Bd) (fun a b g g' hb => match_bound n a b g g' hb) _ _ g g' (fun b hb => ⟨(text_kid (ns := ns) hy.1 hb).1, Nat.le_trans (text_kid hy.1 hb).2 hy.2⟩) h hs
      · cases h
/-- What variables stand for is no longer than fits. -/
theorem got_short {s2 : ByteArray} {x y : Ty} {na nb : List (List UInt8)} {K K' Ny m2 : Nat} {g : List (Option (List UInt8))} (h2 : RdT s2 y nb) (o2 : TyOk nb.length m2 y) (ky : TyOk Ny K' y) (hm : matchS K' nb K x y (List.replicate na.length none) = some g) : ShB 1000000 g := by
  have hn := h2.short
  obtain ⟨_, _, _, _, _, hsz⟩ := h2
  have h1 := text_len hn m2 y o2
  have h3 := hsz _ _ o2
  have h4 : (tyText K' nb y).length ≤ 1000000 := by rw [text_same2 nb ky o2]; omega
  cases K' with
  | zero => exact absurd ky id
  | succ M =>
    refine match_bound K x y _ g ⟨ky, h4⟩ hm fun t ht => ?_
    have := List.eq_of_mem_replicate ht
    cases this
/-- A row of texts. -/
def RowAt (w : World) (ao : Option Addr) (l : List (List UInt8)) : Prop := ∀ (j : Nat) (x : List UInt8), l[j]? = some x → ∃ gn, ao = some ⟨gn, 0, none⟩ ∧ gn < w.heap.size ∧ w.cell? ⟨gn, j, none⟩ = some (.string (B x))
theorem rowAt {w : World} {base : Nat} {v : Value} {l : List (List UInt8)} (h : w.ownsRow base 9 1 v l.length (strs l)) : ∃ ao cp, v = .slice ao l.length cp ∧ RowAt w ao l := by
  obtain ⟨ao, cp, rfl, hv⟩ := own_view h
  refine ⟨ao, cp, rfl, fun j x hx => ?_⟩
  have hj : j < l.length := by
    rcases Nat.lt_or_ge j l.length with h | h
    · exact h
    · rw [List.getElem?_eq_none h] at hx; cases hx
  obtain ⟨gn, h1, _, h2, h3⟩ := hv j hj
  have e : l.getD j [] = x := by simp [List.getD, hx]
  rw [e] at h3
  exact ⟨gn, h1, h2, h3⟩
theorem RowAt.keep {w w' : World} {ao : Option Addr} {l : List (List UInt8)} (h : RowAt w ao l) (hs : w.heap.size ≤ w'.heap.size) (hb : ∀ k, k < w.heap.size → w'.heap[k]? = w.heap[k]?) : RowAt w' ao l := fun j x hx => by
  obtain ⟨gn, h1, h2, h3⟩ := h j x hx
  exact ⟨gn, h1, by omega, by rw [World.cell?_of_block (a := ⟨gn, j, none⟩) (hb gn h2)]; exact h3⟩
theorem less_of {a b : List UInt8} (h : a < b) : Op.bytesLess (B a).toList (B b).toList = true := by
  rw [toList_B, toList_B, bytesLess_eq, decide_eq_true h]
end Go.Proofs.YtcdijppegfcoaaaGreatDoor

/-
  OUR OWN TEXT. The law Instances of two types, the second an instance of the first.
-/
namespace Go.Proofs.YtcdijppegfcoaaaGreatDoor
open Go.RowKit

theorem grown_drewN (w : World) (q : Nat) : w.grownBy (w.drewN q) none := ⟨rfl, rfl, rfl, Nat.le_refl _, fun _ _ _ => rfl⟩
theorem sh_more {w : World} {ns : Value} {c : Nat} {t : List UInt8} (h : SH w ns c t) (q a : Nat) : Calls Tryz.prog 23 #[.pointer (some ⟨c, 0, none⟩), ns] (w.drewN (q + a)) fun e w'' => e = .returned (.string (B t)) ∧ ∃ n, w'' = w.drewN (q + n) :=
  (h (q + a)).mono fun _ _ ⟨he, m, hm⟩ => ⟨he, a + m, by rw [hm, World.drewN_drewN, Nat.add_assoc]⟩

set_option maxRecDepth 100000 in
set_option maxHeartbeats 8000000 in
theorem ins_ok (s1 s2 : ByteArray) (x y : Ty) (na nb : List (List UInt8)) (K K' Nx Ny : Nat) (w : World) (ad : Nat → Addr) (cs : Nat → Array Value) (ts : Nat → TypeId) (S : SW w ad cs ts) (kb ko kc : Nat) (hk : KW w kb ko kc) (h1 : RdT s1 x na) (h2 : RdT s2 y nb) (kx : TyOk Nx K x) (ky : TyOk Ny K' y)
    (g : List (Option (List UInt8))) (hm : matchS K' nb K x y (List.replicate na.length none) = some g) :
    Calls Tryz.prog 5 #[.string s1, .string s2] w fun e w' => e = .returned (.bool true) ∧ Gn w w' := by
  have hall := hall_of h1 kx ky hm
  have hgl : g.length = na.length := by have := matchS_len K x y _ _ hm; simpa using this
  have GS := hid (fun (m2 : Nat) (o2 : TyOk nb.length m2 y) => got_short h2 o2 ky hm)
  have HP := hid (pinst_ok s1 s2 na g w ad cs ts S h1.names.1.nd h1.names.2 h1.short hall hgl (fun W SW' => (inst_ok s1 s2 x y na nb K K' Nx Ny W ad cs ts SW' h1 h2 kx ky).mono fun e w' h => by
    obtain ⟨hg, (⟨hq, _⟩ | ⟨g', mb, hq, he, hF⟩)⟩ := h
    · rw [hm] at hq; cases hq
    · rw [hm] at hq
      cases hq
      exact ⟨hg, mb, he, hF⟩))
  have RT := hid (fun (W : World) (hW : Gn w W) => parsed_t s1 x na W kb ko kc (hk.gn hW) h1)
  have RS := hid (fun (W : World) (hW : Gn w W) => parsed_t s2 y nb W kb ko kc (hk.gn hW) h2)
  obtain ⟨hn1, hl1⟩ := h1.names
  obtain ⟨hn2, hl2⟩ := h2.names
  have MT := hid (fun (b1 b2 m1 m2 : Nat) (H1 H2 : Nat → Option Obj) (W : World) z1 z2 r1 r2 o1 o2 => matched_two x y na nb hn2 hl1 hl2 b1 b2 m1 m2 K K' Nx Ny H1 H2 W z1 z2 r1 r2 o1 o2 kx ky)
  rw [hm] at MT
  have HND := hid hn1.nd
  have HALL := hid (And.intro hall hgl)
  have hmk := fun W => made_ptrs W na.length (by omega)
  clear S hk h1 h2 hn1 hn2 kx ky hm hall hgl
  go_enter Tryz.func5, Tryz.ntmps5
  go_wp2_with fail
  refine HP.out.mono ?_
  rintro e w1 ⟨g1, vn, vt, rfl, on1, ot1⟩
  have hKl : (sortS na).length = na.length := (sortS_perm na).length_eq
  obtain ⟨al, cl, hvn, rn⟩ := rowAt on1
  obtain ⟨at', ct, hvt, rt⟩ := rowAt ot1
  rw [hKl] at hvn
  rw [List.length_map, hKl] at hvt
  subst hvn
  subst hvt
  have R1 := hid (And.intro rn rt)
  clear rn rt on1 ot1
  have G1 := hid g1
  have RL := hid (RT.out (w1.alloc (.cells #[.int .i64 0, .int .i64 0, .string (B []), .int .i64 0, .int .i64 0] 23)) (g1.trans (Gn.of (World.grownBy_alloc _ _ _))))
  clear g1 HP RT
  unfold fv
  go_wp2_with fail
  refine RL.out.mono ?_
  rintro e w3 ⟨g3, b1, H1, v1, m1, rfl, z1, r1, o1, _, hrow, _⟩
  obtain ⟨an, cpn, rfl, x6⟩ := rowAt hrow
  have R2 := hid x6
  clear x6
  have GW := hid (Gn.below g3)
  have G3 := hid ((G1.out.trans (Gn.of (World.grownBy_alloc _ _ _))).trans (Gn.below g3))
  have A1 := hid (And.intro z1 (And.intro r1 o1))
  clear g3 RL hrow z1 r1 o1
  have n1 : w3.heap[w1.heap.size]? = some (.cells #[.int .i64 0, .int .i64 0, .string (B []), .int .i64 0, .int .i64 0] 23 (0, 0)) := by
    rw [GW.out.block _ (by simp)]
    exact heap_alloc_new _ _
  have l1 := lt_of_block n1
  have N1 := hid n1
  have RS2 := hid (RS.out (w3.alloc (.cells #[.int .i64 0, .int .i64 0, .string (B []), .int .i64 0, .int .i64 0] 27)) (G3.out.trans (Gn.of (World.grownBy_alloc _ _ _))))
  clear n1 RS
  unfold fv
  go_wp2_with fail
  refine RS2.out.mono ?_
  rintro e w5 ⟨g5, b2, H2, v2, m2, rfl, z2, r2, o2, _, hrow2, _⟩
  obtain ⟨ao, cpo, rfl, x7⟩ := rowAt hrow2
  have R3 := hid x7
  have B5 := hid (show ∀ k, k < w3.heap.size → w5.heap[k]? = w3.heap[k]? from fun k hk => by rw [g5.block k (by simp; omega), Below.heap_alloc _ _ _ hk])
  have B3 := hid (show ∀ k, k < w1.heap.size → w3.heap[k]? = w1.heap[k]? from fun k hk => by rw [GW.out.block k (by simp; omega), Below.heap_alloc _ _ _ hk])
  have S3 := hid (show w1.heap.size ≤ w3.heap.size ∧ w3.heap.size ≤ w5.heap.size from ⟨by omega, by have := g5.size; simp at this; omega⟩)
  clear x7 hrow2
  have n5 : w5.heap[w3.heap.size]? = some (.cells #[.int .i64 0, .int .i64 0, .string (B []), .int .i64 0, .int .i64 0] 27 (0, 0)) := by
    rw [g5.block _ (by simp)]
    exact heap_alloc_new _ _
  have n6 : w5.heap[w1.heap.size]? = some (.cells #[.int .i64 0, .int .i64 0, .string (B []), .int .i64 0, .int .i64 0] 23 (0, 0)) := by
    rw [g5.block _ (by simp; omega), Below.heap_alloc _ _ _ l1]
    exact N1.out
  have l5 := lt_of_block n5
  have z15 : Fz H1 w5 := fun k o e => by
    have hkl := A1.out.1.lt e
    rw [g5.block k (by simp; omega), Below.heap_alloc _ _ _ hkl]
    exact A1.out.1 k o e
  have G5 := hid ((G3.out.trans (Gn.of (World.grownBy_alloc _ _ _))).trans (Gn.below g5))
  obtain ⟨⟨q0, q1, q2, q3, q4⟩, f0, f1, f2, f3, f4⟩ := five_c n5
  have N5 := hid n5
  have N6 := hid n6
  have hne : w1.heap.size ≠ w3.heap.size := by omega
  have A2 := hid (And.intro z15 (And.intro z2 (And.intro r2 o2)))
  clear g5 n5 n6 RS2 z15 z2 r2 o2
  unfold fv
  go_wp2_with fail
  have same : ∀ k, (((((w5.setCell ⟨w3.heap.size, 0, none⟩ (.int .i64 0)).setCell ⟨w3.heap.size, 1, none⟩ (.int .i64 0)).setCell ⟨w3.heap.size, 2, none⟩ (.string (B []))).setCell ⟨w3.heap.size, 3, none⟩ (.int .i64 0)).setCell ⟨w3.heap.size, 4, none⟩ (.int .i64 0)).heap[k]? = w5.heap[k]? := fun k => by
    by_cases e : k = w3.heap.size
    · rw [e, set5_blk N5.out]; exact N5.out.symm
    · exact set5_other _ _ _ _ _ e
  have hsz := set5_size w5 w3.heap.size (.int .i64 0) (.int .i64 0) (.string (B [])) (.int .i64 0) (.int .i64 0)
  obtain ⟨H, M, cm⟩ := MT.out b1 b2 m1 m2 H1 H2 (((((w5.setCell ⟨w3.heap.size, 0, none⟩ (.int .i64 0)).setCell ⟨w3.heap.size, 1, none⟩ (.int .i64 0)).setCell ⟨w3.heap.size, 2, none⟩ (.string (B []))).setCell ⟨w3.heap.size, 3, none⟩ (.int .i64 0)).setCell ⟨w3.heap.size, 4, none⟩ (.int .i64 0)) (fun k o e => by rw [same k]; exact A2.out.1 k o e) (fun k o e => by rw [same k]; exact A2.out.2.1 k o e) A1.out.2.1 A2.out.2.2.1 A1.out.2.2 A2.out.2.2.2
  rw [hsz] at cm
  refine cm.mono ?_
  rintro e w7 ⟨zH, g7, v7, (⟨hq, _⟩ | ⟨g', gs, hq, rfl, hgr, hgt⟩)⟩
  · cases hq
  · cases hq
    obtain ⟨ag, cg, rfl, hgc⟩ := hgr
    have c8 : w7.cell? ⟨w1.heap.size, 0, none⟩ = some (.int .i64 0) := by
      have hb : w7.heap[w1.heap.size]? = some (.cells #[.int .i64 0, .int .i64 0, .string (B []), .int .i64 0, .int .i64 0] 23 (0, 0)) := by
        rw [g7.block _ (by simp [hsz]; omega) (by simp), Below.heap_alloc _ _ _ (by rw [hsz]; omega), same]
        exact N6.out
      exact (five_c hb).1.1
    have S7 : w5.heap.size ≤ w7.heap.size := by have := g7.size; simp [hsz] at this; omega
    have B7 : ∀ k, k < w5.heap.size → w7.heap[k]? = w5.heap[k]? := fun k hk => by
      rw [g7.block k (by simp [hsz]; omega) (by simp), Below.heap_alloc _ _ _ (by rw [hsz]; omega), same]
    have RO : RowAt w7 ao nb := R3.out.keep S7 B7
    have RA : RowAt w7 an na := (R2.out.keep S3.out.2 B5.out).keep S7 B7
    have RN : RowAt w7 al (sortS na) := ((R1.out.1.keep S3.out.1 B3.out).keep S3.out.2 B5.out).keep S7 B7
    have RX : RowAt w7 at' ((sortS na).map (txtS na g)) := ((R1.out.2.keep S3.out.1 B3.out).keep S3.out.2 B5.out).keep S7 B7
    have hgsl : gs.length = na.length := by rw [hgt.1]; exact HALL.out.2
    rw [hgsl]
    have hsh := GS.out m2 A2.out.2.2.2
    have GOT := hid (show ∀ j, j < na.length → ∃ gg b t, ag = some ⟨gg, 0, none⟩ ∧ w7.cell? ⟨gg, j, none⟩ = some (.pointer (some ⟨b, 0, none⟩)) ∧ g.getD j none = some t ∧ SH w7 (.slice ao nb.length cpo) b t from fun j hj => by
      obtain ⟨o, ho⟩ : ∃ o, gs[j]? = some o := ⟨gs[j]'(by omega), List.getElem?_eq_getElem _⟩
      obtain ⟨gg, e1, _, e2⟩ := hgc j o ho
      have hs := HALL.out.1 j hj
      cases o with
      | none =>
        have := (hgt.2 j).1 none ho rfl
        rw [List.getD, this] at hs
        cases hs
      | some b =>
        obtain ⟨t, tr, tok, te⟩ := (hgt.2 j).2 b ho
        refine ⟨gg, b, tyText M nb t, e1, e2, by rw [List.getD, te]; rfl, fun n => ?_⟩
        exact shown_gen H ao cpo nb.length nb M b t (w7.drewN n) tr zH tok (Nat.le_refl _) (fun j c hc => by
          obtain ⟨gn, f1, _, f2⟩ := RO j c hc
          exact ⟨gn, f1, f2⟩) (Nat.le_trans (hsh _ (List.mem_of_getElem? te)) (by omega)))
    have GZ := hid ((G5.out.set5 (n := w3.heap.size) G3.out.size (.int .i64 0) (.int .i64 0) (.string (B [])) (.int .i64 0) (.int .i64 0)).trans ((Gn.of (World.grownBy_alloc _ _ _)).trans (Gn.of g7)))
    have ROWS := hid (And.intro RA (And.intro RN RX))
    clear g7 cm same hsz q0 q1 q2 q3 q4 f0 f1 f2 f3 f4 zH hgc hgt hgsl RO RA RN RX hsh S7 B7 S3 B3 B5 R1 R2 R3 GS MT A1 A2 N1 N5 N6 G1 G3 G5 GW
    obtain ⟨KS, hKS⟩ : ∃ KS, KS = sortS na := ⟨_, rfl⟩
    rw [← hKS] at hKl ROWS
    have HLT := hid (show ∀ i, i + 1 < KS.length → KS.getD i [] < KS.getD (i + 1) [] from fun i hi => by rw [hKS] at hi ⊢; exact sortS_lt HND.out hi)
    have HMEM := hid (show ∀ n, n ∈ na → n ∈ KS from fun n hn => by rw [hKS]; exact (sortS_perm na).mem_iff.2 hn)
    clear hKS
    go_wp2_with fail
    go_loopg [98] (na.length + 1) (fun gh i wi => ∃ j q : Nat, j ≤ na.length ∧ i = .int .i64 j ∧ gh = na.length - j + 1 ∧ wi = w7.drewN q)
    case atStart => exact ⟨0, 0, by omega, rfl, by omega, rfl⟩
    case round =>
      obtain ⟨j, q, hj, rfl, hgj, rfl⟩ := hrel
      by_cases hjl : j < na.length
      · obtain ⟨nm, hnm⟩ : ∃ nm, na[j]? = some nm := ⟨na[j], List.getElem?_eq_getElem hjl⟩
        obtain ⟨gn, rfl, _, hcn⟩ := ROWS.out.1 j nm hnm
        obtain ⟨gg, b, t, rfl, hcg, htj, hsw⟩ := GOT.out j hjl
        have SW' := hid hsw
        have HTX := hid (show txtS na g nm = t by
          have e : na.getD j [] = nm := by simp [List.getD, hnm]
          have := txtS_at (g := g) HND.out hjl
          rw [e, htj] at this
          exact this)
        have HIN := hid (HMEM.out nm (List.mem_of_getElem? hnm))
        clear hnm htj hsw
        go_wp2_with fail
        go_loopg [105] (na.length + 1) (fun gh i wi => ∃ i' q : Nat, i' ≤ na.length ∧ i = .int .i64 i' ∧ gh = na.length - i' + 1 ∧ wi = w7.drewN q)
        case atStart => exact ⟨0, _, by omega, rfl, by omega, rfl⟩
        case round =>
          obtain ⟨i, q, hi, rfl, hgi, rfl⟩ := hrel
          by_cases hil : i < na.length
          · obtain ⟨kx1, hkx⟩ : ∃ kx1, KS[i]? = some kx1 := ⟨KS[i]'(by omega), List.getElem?_eq_getElem _⟩
            obtain ⟨gl, rfl, _, hcl⟩ := ROWS.out.2.1 i kx1 hkx
            obtain ⟨gt, rfl, _, hct⟩ := ROWS.out.2.2 i (txtS na g kx1) (by rw [List.getElem?_map, hkx]; rfl)
            have HX := hid hkx
            clear hkx
            by_cases hA : kx1 = nm
            · subst hA
              rw [HTX.out] at hct
              have h1 : ((B kx1).toList == (B kx1).toList) = true := beq_self_eq_true _
              have h2 : ((B t).toList == (B t).toList) = true := beq_self_eq_true _
              rcases Nat.eq_zero_or_pos i with hi0 | hi0
              · subst hi0
                go_wp2_with fail
                go_quiet ((go_at_call 23; exact sh_more SW'.out _ _))
                go_wp2_with fail
                go_roundg (na.length - (0 + 1) + 1)
                case measure => omega
                case rel => exact ⟨0 + 1, _, by omega, by go_num, rfl, rfl⟩
              · obtain ⟨kp, hkp⟩ : ∃ kp, KS[i - 1]? = some kp := ⟨KS[i - 1]'(by omega), List.getElem?_eq_getElem _⟩
                obtain ⟨gl', e', _, hcp⟩ := ROWS.out.2.1 (i - 1) kp hkp
                cases e'
                have hls : Op.bytesLess (B kp).toList (B kx1).toList = true := less_of (by
                  have h := HLT.out (i - 1) (by omega)
                  have e1 : KS.getD (i - 1) [] = kp := by simp [List.getD, hkp]
                  have e2 : KS.getD (i - 1 + 1) [] = kx1 := by rw [show i - 1 + 1 = i by omega]; simp [List.getD, HX.out]
                  rwa [e1, e2] at h)
                clear hkp
                go_wp2_with fail
                go_quiet ((go_at_call 23; exact sh_more SW'.out _ _))
                go_wp2_with fail
                go_roundg (na.length - (i + 1) + 1)
                case measure => omega
                case rel => exact ⟨i + 1, _, by omega, by go_num, rfl, rfl⟩
            · have h1 : ((B kx1).toList == (B nm).toList) = false := by rw [toList_B, toList_B]; exact beq_eq_false_iff_ne.2 hA
              clear hA
              rcases Nat.eq_zero_or_pos i with hi0 | hi0
              · subst hi0
                go_wp2_with fail
                go_quiet (fail)
                go_wp2_with fail
                go_roundg (na.length - (0 + 1) + 1)
                case measure => omega
                case rel => exact ⟨0 + 1, _, by omega, by go_num, rfl, rfl⟩
              · obtain ⟨kp, hkp⟩ : ∃ kp, KS[i - 1]? = some kp := ⟨KS[i - 1]'(by omega), List.getElem?_eq_getElem _⟩
                obtain ⟨gl', e', _, hcp⟩ := ROWS.out.2.1 (i - 1) kp hkp
                cases e'
                have hls : Op.bytesLess (B kp).toList (B kx1).toList = true := less_of (by
                  have h := HLT.out (i - 1) (by omega)
                  have e1 : KS.getD (i - 1) [] = kp := by simp [List.getD, hkp]
                  have e2 : KS.getD (i - 1 + 1) [] = kx1 := by rw [show i - 1 + 1 = i by omega]; simp [List.getD, HX.out]
                  rwa [e1, e2] at h)
                clear hkp
                go_wp2_with fail
                go_quiet (fail)
                go_wp2_with fail
                go_roundg (na.length - (i + 1) + 1)
                case measure => omega
                case rel => exact ⟨i + 1, _, by omega, by go_num, rfl, rfl⟩
          · have hie : i = na.length := by omega
            subst hie
            have CI := hid (lin_any (w7.drewN q) al cl KS nm (by omega) (fun j x hx => by
              obtain ⟨gn, f1, _, f2⟩ := ROWS.out.2.1 j x hx
              exact ⟨gn, f1, f2⟩))
            rw [hKl, decide_eq_true HIN.out] at CI
            go_wp2_with fail
            refine CI.out.mono ?_
            rintro e w9 ⟨rfl, rfl⟩
            go_wp2_with fail
            go_roundg (na.length - (j + 1) + 1)
            case measure => omega
            case rel => exact ⟨j + 1, _, by omega, by go_num, rfl, rfl⟩
      · have hje : j = na.length := by omega
        subst hje
        go_wp2
        go_ret
        exact ⟨rfl, GZ.out.trans (Gn.of (grown_drewN _ _))⟩
end Go.Proofs.YtcdijppegfcoaaaGreatDoor

/-
  OUR OWN TEXT. The law Instances of any two texts.
-/
namespace Go.Proofs.YtcdijppegfcoaaaGreatDoor
open Go.RowKit

theorem RdT.made {s : ByteArray} {x : Ty} {ns : List (List UInt8)} (h : RdT s x ns) : ∃ m, TyOk ns.length m x := by
  obtain ⟨hs, s1, hx, hk, hb, _⟩ := h
  obtain ⟨m, ok, _, _⟩ := arr_made (toksOf tyKw s) _ [] ⟨0, -1⟩ x ns s1 (by show (-1 : Int) < 0; omega) hx
  exact ⟨m, ok⟩
theorem ins_any (s1 s2 : ByteArray) (w : World) (ad : Nat → Addr) (cs : Nat → Array Value) (ts : Nat → TypeId) (S : SW w ad cs ts) (kb ko kc : Nat) (hk : KW w kb ko kc) :
    Calls Tryz.prog 5 #[.string s1, .string s2] w fun e w' => e = .returned (.bool true) ∧ Gn w w' := by
  rcases rd_cases s1 with ⟨a, b, h, ha⟩ | ⟨x, na, h1⟩
  · exact ins_f1 s1 s2 a b w ad cs ts S kb ko kc hk h ha
  · rcases rd_cases s2 with ⟨a, b, h, ha⟩ | ⟨y, nb, h2⟩
    · exact ins_f2 s1 s2 x na a b w ad cs ts S kb ko kc hk h1 h ha
    · obtain ⟨K, kx⟩ := h1.made
      obtain ⟨K', ky⟩ := h2.made
      cases e : matchS K' nb K x y (List.replicate na.length none) with
      | none => exact ins_no s1 s2 x y na nb K K' _ _ w ad cs ts S kb ko kc hk h1 h2 kx ky e
      | some g => exact ins_ok s1 s2 x y na nb K K' _ _ w ad cs ts S kb ko kc hk h1 h2 kx ky g e
end Go.Proofs.YtcdijppegfcoaaaGreatDoor
