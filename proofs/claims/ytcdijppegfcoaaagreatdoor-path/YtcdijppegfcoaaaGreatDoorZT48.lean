import Derived.Test.YtcdijppegfcoaaaGreatDoorZT44
import Derived.Maps.RangeWalk
import Derived.Laws.IdiomRangeMap
import Derived.Deep.LoopGhost
import Derived.WalkKit
import Derived.Maps.Ext
import Derived.Test.YtcdijppegfcoaaaGreatDoorZT47
/-
  OUR OWN TEXT. plain.env; maps.Equal of two of its maps.
-/
namespace Go.Proofs.YtcdijppegfcoaaaGreatDoor
open Go.RowKit Go.Maps Go.WideMaps
/-- A list of texts, to be read. -/
def SRow (w : World) (v : Value) (l : List (List UInt8)) : Prop :=
  ∃ ao cp, v = .slice ao l.length cp ∧ ∀ j, j < l.length → ∃ nb, ao = some ⟨nb, 0, none⟩ ∧ nb < w.heap.size ∧ w.cell? ⟨nb, j, none⟩ = some (.string (B (l.getD j [])))
theorem SRow.gn {w w' : World} {v : Value} {l : List (List UInt8)} (h : SRow w v l) (g : Gn w w') : SRow w' v l := by
  obtain ⟨ao, cp, h1, h2⟩ := h
  refine ⟨ao, cp, h1, fun j hj => ?_⟩
  obtain ⟨nb, e1, e2, e3⟩ := h2 j hj
  exact ⟨nb, e1, Nat.lt_of_lt_of_le e2 g.size, by rw [World.cell?_of_block (a := ⟨nb, j, none⟩) (g.block nb e2)]; exact e3⟩
theorem SRow.nil (w : World) : SRow w (.slice none 0 0) [] := ⟨none, 0, rfl, fun j hj => absurd hj (by simp)⟩

/-- The first so many of the names stand for something. -/
def upS (ts : List (List UInt8)) (n j : Nat) : List (Option (List UInt8)) := (ts.take j).map some ++ List.replicate (n - j) none
theorem upS_len {ts : List (List UInt8)} {n j : Nat} (h : ts.length = n) (hj : j ≤ n) : (upS ts n j).length = n := by
  simp [upS]; omega
theorem upS_at {ts : List (List UInt8)} {n j : Nat} (h : ts.length = n) (hj : j < n) : (upS ts n j).getD j none = none := by
  have e : (List.replicate (n - j) (none : Option (List UInt8)))[0]? = some none := by rw [List.getElem?_replicate]; rw [if_pos (by omega)]
  unfold upS
  rw [List.getD_eq_getElem?_getD, List.getElem?_append_right (by simp; omega)]
  simp only [List.length_map, List.length_take]
  rw [show j - min j ts.length = 0 by omega, e]
  rfl
theorem upS_step {ts : List (List UInt8)} {n j : Nat} (h : ts.length = n) (hj : j < n) : (upS ts n j).set j (some (ts.getD j [])) = upS ts n (j + 1) := by
  have e1 : ts[j]? = some (ts.getD j []) := by rw [List.getD_eq_getElem?_getD, List.getElem?_eq_getElem (by omega)]; rfl
  unfold upS
  rw [List.set_append, if_neg (by simp; omega), List.take_add_one, e1]
  simp only [List.length_map, List.length_take]
  rw [show j - min j ts.length = 0 by omega, show n - j = (n - (j + 1)) + 1 by omega, List.replicate_succ]
  simp

theorem mk_env (w : World) : (Instr.makeMap 93 none).run Tryz.prog w = .ok (.map (some w.heap.size)) (w.alloc (.map #[] 0)) := by kernel_rfl
set_option maxRecDepth 100000 in
set_option maxHeartbeats 4000000 in
theorem env_q (ns ts : List (List UInt8)) (w : World) (vn vt : Value) (hn : SRow w vn ns) (ht : SRow w vt ts) (hl : ts.length = ns.length) (hL : ns.length ≤ 1000) (hd : ns.Nodup) (hnl : ∀ i, i < ns.length → (ns.getD i []).length ≤ 300) (htl : ∀ i, i < ts.length → (ts.getD i []).length ≤ 1000000) :
    Calls Tryz.prog 51 #[vn, vt] w fun e w' => w.grownBy w' none ∧ e = .returned (.map (some w.heap.size)) ∧ FM w' w.heap.size ns (ts.map some) := by
  obtain ⟨an, cn, rfl, hn⟩ := hn
  obtain ⟨at', ct, rfl, ht⟩ := ht
  have HN := hid hn
  have HT := hid ht
  have HD := hid (And.intro hd (And.intro hnl htl))
  have F0 := hid (FM.new w ns ns.length)
  have u0 : upS ts ns.length 0 = List.replicate ns.length none := by simp [upS]
  rw [← u0] at F0
  clear hn ht hd hnl htl u0
  rw [hl]
  have hmk := mk_env w
  go_enter Tryz.func51, Tryz.ntmps51
  go_wp2_with fail
  have hws0 : w.heap.size < (w.alloc (.map #[] 0)).heap.size := by simp
  go_loopg [10] (ns.length + 1) (fun gh i wi => ∃ j : Nat, j ≤ ns.length ∧ i = .int .i64 j ∧ gh = ns.length - j + 1 ∧ Hid (FM wi w.heap.size ns (upS ts ns.length j)) ∧ Hid ((w.alloc (.map #[] 0)).grownBy wi (some w.heap.size)))
  case atStart => exact ⟨0, by omega, rfl, by omega, F0, hid (World.grownBy.refl _ _)⟩
  case round =>
    obtain ⟨j, hj, rfl, hgj, HF, HG⟩ := hrel
    by_cases hjl : j < ns.length
    · obtain ⟨nb, rfl, hnb, hc1⟩ := HN.out j hjl
      obtain ⟨tb, rfl, htb, hc2⟩ := HT.out j (by omega)
      obtain ⟨nm, hnm⟩ : ∃ nm, nm = ns.getD j [] := ⟨_, rfl⟩
      obtain ⟨tx, htx⟩ : ∃ tx, tx = ts.getD j [] := ⟨_, rfl⟩
      have d1 : wr.cell? ⟨nb, j, none⟩ = some (.string (B nm)) := by
        rw [World.cell?_of_block (a := ⟨nb, j, none⟩) (HG.out.block nb (by simp; omega) (by simp; omega)), World.cell?_of_block (a := ⟨nb, j, none⟩) (Below.heap_alloc _ _ _ hnb), hc1, hnm]
      have d2 : wr.cell? ⟨tb, j, none⟩ = some (.string (B tx)) := by
        rw [World.cell?_of_block (a := ⟨tb, j, none⟩) (HG.out.block tb (by simp; omega) (by simp; omega)), World.cell?_of_block (a := ⟨tb, j, none⟩) (Below.heap_alloc _ _ _ htb), hc2, htx]
      obtain ⟨w2, hup, hF2, hg2⟩ := FM.store (w := wr.drew) (FM.same HF.out rfl) (upS_len hl hj) hL HD.out.1 hjl (HD.out.2.1 j hjl) (upS_at hl hjl) (HD.out.2.2 j (by omega))
      rw [upS_step hl hjl] at hF2
      rw [← hnm, ← htx] at hup
      have H2 := hid (And.intro hF2 ((grown_drew HG.out).trans hg2))
      have hj2 : ((j : Nat) : Int) < ((ns.length : Nat) : Int) := by omega
      clear hF2 hg2 hc1 hc2 hnm htx
      go_wp2_with fail
      go_region
      go_wp2_with fail
      go_roundg (ns.length - (j + 1) + 1)
      case measure => omega
      case rel => exact ⟨j + 1, by omega, by go_num, rfl, hid H2.out.1, hid H2.out.2⟩
    · have hje : j = ns.length := by omega
      subst hje
      have e1 : upS ts ns.length ns.length = ts.map some := by
        unfold upS
        rw [← hl, List.take_length, Nat.sub_self]
        simp
      have HR := hid (show w.grownBy wr none ∧ FM wr w.heap.size ns (ts.map some) from ⟨⟨HG.out.os, HG.out.tape, HG.out.output, by have := HG.out.size; simp at this; omega, fun k hk _ => by
        rw [HG.out.block k (by simp; omega) (by simp; omega), Below.heap_alloc _ _ _ hk]⟩, e1 ▸ HF.out⟩)
      clear HF HG e1
      go_wp2
      go_ret
      exact ⟨HR.out.1, rfl, HR.out.2⟩
theorem typed_neq (a b : ByteArray) : ∃ r, ∀ w : World, (binOp .neq 101 (.agg #[.string a]) (.agg #[.string b])).run Tryz.prog w = .ok (.bool r) w := by
  by_cases h : a.toList = b.toList
  · exact ⟨false, fun w => by simp [go_sem, h]⟩
  · exact ⟨true, fun w => by simp [go_sem, h]⟩

set_option maxRecDepth 100000 in
set_option maxHeartbeats 4000000 in
theorem equal_q (b1 b2 : Nat) (m1 m2 : List (List UInt8)) (g1 g2 : List (Option (List UInt8))) (w : World) (F1 : FM w b1 m1 g1) (F2 : FM w b2 m2 g2) :
    Calls Tryz.prog 53 #[.map (some b1), .map (some b2)] w fun e w' => (∃ r, e = .returned (.bool r)) ∧ w.grownBy w' none := by
  obtain ⟨D1, h1, -⟩ := F1
  obtain ⟨D2, h2, -⟩ := F2
  generalize (g1.filter Option.isSome).length = n1 at h1
  generalize (g2.filter Option.isSome).length = n2 at h2
  have l1 := fun ty => h1.len (t := 93) Tryz.underlying93 ty
  have l2 := fun ty => h2.len (t := 93) Tryz.underlying93 ty
  have hb2 := h2.lt
  by_cases hsz : Maps.size D1 = Maps.size D2
  · go_enter Tryz.func53, Tryz.ntmps53
    go_wp2_with (first
      | (at_range; refine wpList_range_own _ rfl _ 93 rfl 9 101 keyLaw Tryz.underlying93 tyR b1 n1 _ rfl h1 ?_; intro w0 hrg0 hg0 hs0)
      | go_in)
    go_frame
    go_loopw [16] (fun _ wr => ∃ (left : Lit → Bool) (cnt : Nat), wr.ranges Tryz.prog 9 tyR b1 w.heap.size n1 D1 left cnt ∧ wr.ownsMap Tryz.prog 9 tyR b2 n2 D2 ∧ w.grownBy wr none)
      (fun _ wr => wr.rangeLeft b1 w.heap.size)
    case atStart => exact ⟨_, _, hrg0, h2.kept hg0 (by simp), hg0⟩
    case round =>
      obtain ⟨left, cnt, hrg, h2r, hgw⟩ := hrel
      go_wp2_with (first
        | (at_next; refine wpList_next_ranges _ rfl _ rfl 9 keyLaw tyR id id (fun key _ _ => ⟨key, rfl⟩) (fun v _ _ => ⟨v, rfl⟩) b1 w.heap.size n1 _ _ _ rfl hrg ?_ ?_)
        | go_in)
      · intro _ hl0
        go_wp2
        go_ret
        exact ⟨⟨_, rfl⟩, hgw⟩
      · intro x c kl yd yp w1 cnt1 hkey hlx hv hat hrg1 hlt hg1 hs1 hen
        have hgw1 : w.grownBy w1 none := hgw.andThen hg1 (fun j hj => by cases hj; exact Or.inl (Nat.le_refl _))
        have h2w1 := h2r.kept hg1 (fun e => by have := Option.some.inj e; omega)
        obtain ⟨sv, rfl, _⟩ := tyR_inv hv
        have hgA : w1.grownBy (w1.alloc (.cells #[.string sv] 101)) none := World.grownBy_alloc _ _ _
        obtain ⟨u, ps, hr, hu⟩ := (h2w1.kept hgA (by simp)).look_ok keyLaw Tryz.underlying93 (zeroTyped _) (tyR_mk (t := []) (by simp)) hkey
        obtain ⟨su, rfl, _⟩ := tyR_inv hu
        obtain ⟨r, hneq⟩ := typed_neq sv su
        have hgB : (w1.alloc (.cells #[.string sv] 101)).grownBy ((w1.alloc (.cells #[.string sv] 101)).alloc (.cells #[.string su] 101)) none := World.grownBy_alloc _ _ _
        have HE := hid (And.intro (hrg1.kept (hgA.trans hgB) (by simp) (by simp)) (And.intro (h2w1.kept (hgA.trans hgB) (by simp)) (hgw1.trans (hgA.trans hgB))))
        have HM := hid (And.intro hlt hrg)
        clear hat hrg1 h2w1 hgw1 hgA hgB hu hrg h2r hgw hrg0 hg0 h1 h2 hlt
        cases hh : Maps.has D2 kl
        · rw [hh] at hr
          go_wp2
          go_ret
          exact ⟨⟨_, rfl⟩, HE.out.2.2⟩
        · rw [hh] at hr
          cases r
          · go_wp2_with fail
            go_roundw
            case rel => exact ⟨_, cnt1, HE.out⟩
            case measure => rw [HE.out.1.left_eq, HM.out.2.left_eq]; exact HM.out.1
          · go_wp2
            go_ret
            exact ⟨⟨_, rfl⟩, HE.out.2.2⟩
  · have hne : ¬ ((Maps.size D1 : Int) = (Maps.size D2 : Int)) := fun e => hsz (by exact_mod_cast e)
    go_enter Tryz.func53, Tryz.ntmps53
    go_wp2
    go_ret
    exact ⟨⟨_, rfl⟩, World.grownBy.refl _ _⟩
end Go.Proofs.YtcdijppegfcoaaaGreatDoor

/-
  OUR OWN TEXT. plain.Infer of the texts that Refuses asks of.
-/
namespace Go.Proofs.YtcdijppegfcoaaaGreatDoor
open Go.RowKit
/-- A fault. -/
def f5 (a b : Int) (s : ByteArray) (c d : Int) : Value := .agg #[.int .i64 a, .int .i64 b, .string s, .int .i64 c, .int .i64 d]
theorem FM.gn {w w' : World} {mb : Nat} {ns : List (List UInt8)} {g : List (Option (List UInt8))} (h : FM w mb ns g) (hg : Gn w w') : FM w' mb ns g := h.same (hg.block mb h.lt)

set_option maxRecDepth 100000 in
set_option maxHeartbeats 600000 in
theorem pinfer (s : ByteArray) (fuel : Int) (ns ts : List (List UInt8)) (vn vt : Value) (t : List UInt8) (a b : Int) (nm : ByteArray) (c d : Int) (w : World) (hn : SRow w vn ns) (ht : SRow w vt ts) (hl : ts.length = ns.length) (hL : ns.length ≤ 1000) (hd : ns.Nodup) (hnl : ∀ i, i < ns.length → (ns.getD i []).length ≤ 300) (htl : ∀ i, i < ts.length → (ts.getD i []).length ≤ 1000000)
    (CI : ∀ W mb, w.grownBy W none → FM W mb ns (ts.map some) → Calls Tryz.prog 52 #[.string s, .map (some mb), .int .i64 fuel] W fun e w' => W.grownBy w' none ∧ ∃ v, e = .returned (.tuple #[.string (B t), v]) ∧ (v = .nilIface ∨ ∃ p q, v = .iface p (.pointer (some q))) ∧ Calls Tryz.prog 37 #[v] w' fun e w'' => e = .returned (f5 a b nm c d) ∧ Gn w' w'') :
    Calls Tryz.prog 26 #[.string s, vn, vt, .int .i64 fuel] w fun e w' => Gn w w' ∧ ∃ r, e = .returned (.tuple #[.string (B t), f5 a b nm c d, .bool r]) := by
  have g0 : w.grownBy (w.alloc (.cells #[.int .i64 0, .int .i64 0, .string (B []), .int .i64 0, .int .i64 0] 23)) none := World.grownBy_alloc _ _ _
  have HE := hid (env_q ns ts _ vn vt (hn.gn (Gn.of g0)) (ht.gn (Gn.of g0)) hl hL hd hnl htl)
  have HE2 := hid (fun (W : World) (gW : Gn w W) => env_q ns ts W vn vt (hn.gn gW) (ht.gn gW) hl hL hd hnl htl)
  have HC := hid CI
  have G0 := hid g0
  obtain ⟨an, cn, rfl, -⟩ := hn
  obtain ⟨at', ct, rfl, -⟩ := ht
  clear CI g0 hd hnl htl
  rw [hl]
  rw [hl] at HE HE2
  have HLL := hid hl
  clear hl
  go_enter Tryz.func26, Tryz.ntmps26
  go_wp2_with fail
  refine HE.out.mono ?_
  rintro e w1 ⟨g1, rfl, hF⟩
  have e1 : (w.alloc (.cells #[.int .i64 0, .int .i64 0, .string (B []), .int .i64 0, .int .i64 0] 23)).heap.size = w.heap.size + 1 := by simp
  rw [e1] at hF ⊢
  clear e1
  have G1 := hid (And.intro (G0.out.trans g1) (And.intro hF g1))
  clear g1 hF HE
  go_wp2_with fail
  refine (HC.out _ _ G1.out.1 G1.out.2.1).mono ?_
  rintro e w2 ⟨g2, v, rfl, hv, hf⟩
  have n0 : w2.heap[w.heap.size]? = some (.cells #[.int .i64 0, .int .i64 0, .string (B []), .int .i64 0, .int .i64 0] 23 (0, 0)) := by
    rw [g2.block _ (by have := G1.out.2.2.size; simp at this; omega) (by simp), G1.out.2.2.block _ (by simp) (by simp)]
    exact heap_alloc_new _ _
  have l0 := lt_of_block n0
  have G2 := hid (And.intro (G1.out.1.trans g2) (And.intro (G1.out.2.1.kept g2 (by simp)) n0))
  have HF := hid hf
  clear g2 hf n0 G1 HC
  rcases hv with rfl | ⟨p, q, rfl⟩
  all_goals
    go_wp2_with fail
    refine HF.out.mono ?_
    rintro e w3 ⟨rfl, g3⟩
    have G3 := hid (And.intro ((Gn.of G2.out.1).trans g3) (And.intro (G2.out.2.1.gn g3) ((g3.block _ l0).trans G2.out.2.2)))
    clear g3 HF G2
    unfold f5
    go_wp2_with fail
    refine (HE2.out _ G3.out.1).mono ?_
    rintro e w4 ⟨g4, rfl, hF4⟩
    have EQ := hid (equal_q (w.heap.size + 1) w3.heap.size ns ns _ _ w4 (G3.out.2.1.kept g4 (by simp)) hF4)
    have l3 := lt_of_block G3.out.2.2
    have G4 := hid (And.intro (G3.out.1.trans (Gn.of g4)) ((g4.block _ l3 (by simp)).trans G3.out.2.2))
    clear g4 hF4 G3
    go_wp2_with fail
    refine EQ.out.mono ?_
    rintro e w5 ⟨⟨r, rfl⟩, g5⟩
    have n5 : w5.heap[w.heap.size]? = some (.cells #[.int .i64 0, .int .i64 0, .string (B []), .int .i64 0, .int .i64 0] 23 (0, 0)) := (g5.block _ (lt_of_block G4.out.2) (by simp)).trans G4.out.2
    have G5 := hid (G4.out.1.trans (Gn.of g5))
    obtain ⟨⟨q0, q1, q2, q3, q4⟩, f0, f1, f2, f3, f4⟩ := five_c n5
    clear g5 n5 G4 EQ
    go_wp2
    refine bodyPost_ret (v := .tuple #[.string (B t), f5 a b nm c d, .bool (!r)]) (by simp [results, Tryz.results26, go_sem, q0, q1, q2, q3, q4]; rfl) rfl ?_
    exact ⟨G5.out.set5 (Nat.le_refl _) _ _ _ _ _, _, rfl⟩
end Go.Proofs.YtcdijppegfcoaaaGreatDoor

/-
  OUR OWN TEXT. typerkeep's names and types; typerkeep.infer of an expression that has a type.
-/
namespace Go.Proofs.YtcdijppegfcoaaaGreatDoor
open Go.RowKit
def envN : List (List UInt8) := [[116, 114, 117, 101], [110, 105, 108], [99, 111, 110, 115], [102, 115, 116], [115, 110, 100], [97, 100, 100], [101, 113], [104, 100], [116, 108], [101, 109, 112, 116, 121]]
def envT : List (List UInt8) := [[98, 111, 111, 108], [91, 97, 93], [97, 32, 45, 62, 32, 91, 97, 93, 32, 45, 62, 32, 91, 97, 93], [40, 97, 44, 32, 98, 41, 32, 45, 62, 32, 97], [40, 97, 44, 32, 98, 41, 32, 45, 62, 32, 98], [105, 110, 116, 32, 45, 62, 32, 105, 110, 116, 32, 45, 62, 32, 105, 110, 116], [97, 32, 45, 62, 32, 97, 32, 45, 62, 32, 98, 111, 111, 108], [91, 97, 93, 32, 45, 62, 32, 97], [91, 97, 93, 32, 45, 62, 32, 91, 97, 93], [91, 120, 93, 32, 45, 62, 32, 98, 111, 111, 108]]
def envG : List (List UInt8 × Et) := [([116, 114, 117, 101], ⟨[98, 111, 111, 108], [], 0, []⟩),
  ([110, 105, 108], ⟨[108, 105, 115, 116], [], 0, [⟨[], [97], 0, []⟩]⟩),
  ([99, 111, 110, 115], ⟨[102, 117, 110], [], 0, [⟨[], [97], 0, []⟩, ⟨[102, 117, 110], [], 0, [⟨[108, 105, 115, 116], [], 0, [⟨[], [97], 0, []⟩]⟩, ⟨[108, 105, 115, 116], [], 0, [⟨[], [97], 0, []⟩]⟩]⟩]⟩),
  ([102, 115, 116], ⟨[102, 117, 110], [], 0, [⟨[112, 97, 105, 114], [], 0, [⟨[], [97], 0, []⟩, ⟨[], [98], 0, []⟩]⟩, ⟨[], [97], 0, []⟩]⟩),
  ([115, 110, 100], ⟨[102, 117, 110], [], 0, [⟨[112, 97, 105, 114], [], 0, [⟨[], [97], 0, []⟩, ⟨[], [98], 0, []⟩]⟩, ⟨[], [98], 0, []⟩]⟩),
  ([97, 100, 100], ⟨[102, 117, 110], [], 0, [⟨[105, 110, 116], [], 0, []⟩, ⟨[102, 117, 110], [], 0, [⟨[105, 110, 116], [], 0, []⟩, ⟨[105, 110, 116], [], 0, []⟩]⟩]⟩),
  ([101, 113], ⟨[102, 117, 110], [], 0, [⟨[], [97], 0, []⟩, ⟨[102, 117, 110], [], 0, [⟨[], [97], 0, []⟩, ⟨[98, 111, 111, 108], [], 0, []⟩]⟩]⟩),
  ([104, 100], ⟨[102, 117, 110], [], 0, [⟨[108, 105, 115, 116], [], 0, [⟨[], [97], 0, []⟩]⟩, ⟨[], [97], 0, []⟩]⟩),
  ([116, 108], ⟨[102, 117, 110], [], 0, [⟨[108, 105, 115, 116], [], 0, [⟨[], [97], 0, []⟩]⟩, ⟨[108, 105, 115, 116], [], 0, [⟨[], [97], 0, []⟩]⟩]⟩),
  ([101, 109, 112, 116, 121], ⟨[102, 117, 110], [], 0, [⟨[108, 105, 115, 116], [], 0, [⟨[], [120], 0, []⟩]⟩, ⟨[98, 111, 111, 108], [], 0, []⟩]⟩)]
theorem eK0 : etK (envT.getD 0 []) = some (envG.getD 0 ([], vT [])).2 := by kernel_rfl
theorem eL0 : getL envG (envN.getD 0 []) = some (envG.getD 0 ([], vT [])).2 := by kernel_rfl
theorem eN0 : upto isB (envN.getD 0 []) 0 = 0 ∧ nxK (envN.getD 0 []) 0 = 2 ∧ nxT (envN.getD 0 []) 0 = envN.getD 0 [] ∧ decide (envN.getD 0 [] ∈ exKw) = false := ⟨by kernel_rfl, by kernel_rfl, by kernel_rfl, by kernel_rfl⟩
theorem eK1 : etK (envT.getD 1 []) = some (envG.getD 1 ([], vT [])).2 := by kernel_rfl
theorem eL1 : getL envG (envN.getD 1 []) = some (envG.getD 1 ([], vT [])).2 := by kernel_rfl
theorem eN1 : upto isB (envN.getD 1 []) 0 = 0 ∧ nxK (envN.getD 1 []) 0 = 2 ∧ nxT (envN.getD 1 []) 0 = envN.getD 1 [] ∧ decide (envN.getD 1 [] ∈ exKw) = false := ⟨by kernel_rfl, by kernel_rfl, by kernel_rfl, by kernel_rfl⟩
theorem eK2 : etK (envT.getD 2 []) = some (envG.getD 2 ([], vT [])).2 := by kernel_rfl
theorem eL2 : getL envG (envN.getD 2 []) = some (envG.getD 2 ([], vT [])).2 := by kernel_rfl
theorem eN2 : upto isB (envN.getD 2 []) 0 = 0 ∧ nxK (envN.getD 2 []) 0 = 2 ∧ nxT (envN.getD 2 []) 0 = envN.getD 2 [] ∧ decide (envN.getD 2 [] ∈ exKw) = false := ⟨by kernel_rfl, by kernel_rfl, by kernel_rfl, by kernel_rfl⟩
theorem eK3 : etK (envT.getD 3 []) = some (envG.getD 3 ([], vT [])).2 := by kernel_rfl
theorem eL3 : getL envG (envN.getD 3 []) = some (envG.getD 3 ([], vT [])).2 := by kernel_rfl
theorem eN3 : upto isB (envN.getD 3 []) 0 = 0 ∧ nxK (envN.getD 3 []) 0 = 2 ∧ nxT (envN.getD 3 []) 0 = envN.getD 3 [] ∧ decide (envN.getD 3 [] ∈ exKw) = false := ⟨by kernel_rfl, by kernel_rfl, by kernel_rfl, by kernel_rfl⟩
theorem eK4 : etK (envT.getD 4 []) = some (envG.getD 4 ([], vT [])).2 := by kernel_rfl
theorem eL4 : getL envG (envN.getD 4 []) = some (envG.getD 4 ([], vT [])).2 := by kernel_rfl
theorem eN4 : upto isB (envN.getD 4 []) 0 = 0 ∧ nxK (envN.getD 4 []) 0 = 2 ∧ nxT (envN.getD 4 []) 0 = envN.getD 4 [] ∧ decide (envN.getD 4 [] ∈ exKw) = false := ⟨by kernel_rfl, by kernel_rfl, by kernel_rfl, by kernel_rfl⟩
theorem eK5 : etK (envT.getD 5 []) = some (envG.getD 5 ([], vT [])).2 := by kernel_rfl
theorem eL5 : getL envG (envN.getD 5 []) = some (envG.getD 5 ([], vT [])).2 := by kernel_rfl
theorem eN5 : upto isB (envN.getD 5 []) 0 = 0 ∧ nxK (envN.getD 5 []) 0 = 2 ∧ nxT (envN.getD 5 []) 0 = envN.getD 5 [] ∧ decide (envN.getD 5 [] ∈ exKw) = false := ⟨by kernel_rfl, by kernel_rfl, by kernel_rfl, by kernel_rfl⟩
theorem eK6 : etK (envT.getD 6 []) = some (envG.getD 6 ([], vT [])).2 := by kernel_rfl
theorem eL6 : getL envG (envN.getD 6 []) = some (envG.getD 6 ([], vT [])).2 := by kernel_rfl
theorem eN6 : upto isB (envN.getD 6 []) 0 = 0 ∧ nxK (envN.getD 6 []) 0 = 2 ∧ nxT (envN.getD 6 []) 0 = envN.getD 6 [] ∧ decide (envN.getD 6 [] ∈ exKw) = false := ⟨by kernel_rfl, by kernel_rfl, by kernel_rfl, by kernel_rfl⟩
theorem eK7 : etK (envT.getD 7 []) = some (envG.getD 7 ([], vT [])).2 := by kernel_rfl
theorem eL7 : getL envG (envN.getD 7 []) = some (envG.getD 7 ([], vT [])).2 := by kernel_rfl
theorem eN7 : upto isB (envN.getD 7 []) 0 = 0 ∧ nxK (envN.getD 7 []) 0 = 2 ∧ nxT (envN.getD 7 []) 0 = envN.getD 7 [] ∧ decide (envN.getD 7 [] ∈ exKw) = false := ⟨by kernel_rfl, by kernel_rfl, by kernel_rfl, by kernel_rfl⟩
theorem eK8 : etK (envT.getD 8 []) = some (envG.getD 8 ([], vT [])).2 := by kernel_rfl
theorem eL8 : getL envG (envN.getD 8 []) = some (envG.getD 8 ([], vT [])).2 := by kernel_rfl
theorem eN8 : upto isB (envN.getD 8 []) 0 = 0 ∧ nxK (envN.getD 8 []) 0 = 2 ∧ nxT (envN.getD 8 []) 0 = envN.getD 8 [] ∧ decide (envN.getD 8 [] ∈ exKw) = false := ⟨by kernel_rfl, by kernel_rfl, by kernel_rfl, by kernel_rfl⟩
theorem eK9 : etK (envT.getD 9 []) = some (envG.getD 9 ([], vT [])).2 := by kernel_rfl
theorem eL9 : getL envG (envN.getD 9 []) = some (envG.getD 9 ([], vT [])).2 := by kernel_rfl
theorem eN9 : upto isB (envN.getD 9 []) 0 = 0 ∧ nxK (envN.getD 9 []) 0 = 2 ∧ nxT (envN.getD 9 []) 0 = envN.getD 9 [] ∧ decide (envN.getD 9 [] ∈ exKw) = false := ⟨by kernel_rfl, by kernel_rfl, by kernel_rfl, by kernel_rfl⟩
theorem ten {p : Nat → Prop} (i : Nat) (hi : i < 10) (h0 : p 0) (h1 : p 1) (h2 : p 2) (h3 : p 3) (h4 : p 4) (h5 : p 5) (h6 : p 6) (h7 : p 7) (h8 : p 8) (h9 : p 9) : p i := by
  have : i = 0 ∨ i = 1 ∨ i = 2 ∨ i = 3 ∨ i = 4 ∨ i = 5 ∨ i = 6 ∨ i = 7 ∨ i = 8 ∨ i = 9 := by omega
  rcases this with rfl | rfl | rfl | rfl | rfl | rfl | rfl | rfl | rfl | rfl <;> assumption
theorem envK (i : Nat) (hi : i < 10) : etK (envT.getD i []) = some (envG.getD i ([], vT [])).2 := ten (p := fun i => etK (envT.getD i []) = some (envG.getD i ([], vT [])).2) i hi eK0 eK1 eK2 eK3 eK4 eK5 eK6 eK7 eK8 eK9
theorem envL (i : Nat) (hi : i < 10) : getL envG (envN.getD i []) = some (envG.getD i ([], vT [])).2 := ten (p := fun i => getL envG (envN.getD i []) = some (envG.getD i ([], vT [])).2) i hi eL0 eL1 eL2 eL3 eL4 eL5 eL6 eL7 eL8 eL9
theorem envA (i : Nat) (hi : i < 10) : upto isB (envN.getD i []) 0 = 0 ∧ nxK (envN.getD i []) 0 = 2 ∧ nxT (envN.getD i []) 0 = envN.getD i [] ∧ decide (envN.getD i [] ∈ exKw) = false := ten (p := fun i => upto isB (envN.getD i []) 0 = 0 ∧ nxK (envN.getD i []) 0 = 2 ∧ nxT (envN.getD i []) 0 = envN.getD i [] ∧ decide (envN.getD i [] ∈ exKw) = false) i hi eN0 eN1 eN2 eN3 eN4 eN5 eN6 eN7 eN8 eN9
theorem envN_le (i : Nat) (hi : i < 10) : (envN.getD i []).length ≤ 300 := ten (p := fun i => (envN.getD i []).length ≤ 300) i hi (by decide) (by decide) (by decide) (by decide) (by decide) (by decide) (by decide) (by decide) (by decide) (by decide)
theorem envT_le (i : Nat) (hi : i < 10) : (envT.getD i []).length ≤ 300 := ten (p := fun i => (envT.getD i []).length ≤ 300) i hi (by decide) (by decide) (by decide) (by decide) (by decide) (by decide) (by decide) (by decide) (by decide) (by decide)
theorem envT_some (i : Nat) (hi : i < 10) : (envT.map some).getD i none = some (envT.getD i []) := ten (p := fun i => (envT.map some).getD i none = some (envT.getD i [])) i hi rfl rfl rfl rfl rfl rfl rfl rfl rfl rfl
theorem env_keys : envG.map (·.1) = envN := by kernel_rfl
theorem env_nodup : envN.Nodup := by decide
theorem env_ok : EnvOk envN (envT.map some) envG := by
  refine ⟨fun k hk => ?_, fun k hk => ?_⟩
  · obtain ⟨i, hi, e⟩ := List.mem_iff_getElem.1 hk
    have hi' : i < 10 := hi
    have e2 : envN.getD i [] = k := by rw [List.getD_eq_getElem?_getD, List.getElem?_eq_getElem hi, e]; rfl
    have hA := envA i hi'
    rw [← e2]
    refine ⟨envN_le i hi', fun W => ?_, i, envT.getD i [], (envG.getD i ([], vT [])).2, hi, rfl, envT_some i hi', envT_le i hi', envK i hi', envL i hi'⟩
    have h := isNameK (envN.getD i []) (envN_le i hi') hA.1 hA.2.1 hA.2.2.1 W
    rw [hA.2.2.2] at h
    exact h
  · rw [getL_none, env_keys]
    exact hk
theorem mk_map10 (w : World) : (Instr.makeMap 169 (some (.int .i64 10))).run Tryz.prog w = .ok (.map (some w.heap.size)) (w.alloc (.map #[] 0)) := by kernel_rfl
/-- plain.Infer by these names. -/
theorem pinfer_ok {s tx : List UInt8} {x : Ex} (hs : s.length ≤ 300) (hx : exK s = some x) (ht : typK envG x = some tx) (vn vt : Value) (w : World) (hn : SRow w vn envN) (htr : SRow w vt envT) (ad : Nat → Addr) (cs : Nat → Array Value) (ts : Nat → TypeId) (S : SW w ad cs ts) :
    Calls Tryz.prog 26 #[.string (B s), vn, vt, .int .i64 6] w fun e w' => Gn w w' ∧ ∃ r, e = .returned (.tuple #[.string (B tx), f5 0 0 (B []) 0 0, .bool r]) :=
  pinfer (B s) 6 envN envT vn vt tx 0 0 (B []) 0 0 w hn htr rfl (by decide) env_nodup (fun i hi => envN_le i hi) (fun i hi => Nat.le_trans (envT_le i hi) (by decide)) fun W mb gW hF =>
    (infer_w (B s) mb 6 W (B tx) _ (watch_t hs hx ht 6 (by decide) (by decide) hF env_nodup (fun v hv => by rw [envT_some v hv]; rfl) rfl (by decide) env_ok mk_map10 ad cs ts (S.grown gW))).mono fun e w' h => by
      obtain ⟨g, v, he, rfl⟩ := h
      exact ⟨g, _, he, Or.inl rfl, (fault_nil w').mono fun e w'' h => ⟨h.1, Gn.of h.2⟩⟩
theorem SRow.ten {w : World} {b : Nat} {l : List (List UInt8)} {t : TypeId} (h : w.heap[b]? = some (.cells (l.map fun x => Value.string (B x)).toArray t (0, 0))) : SRow w (.slice (some ⟨b, 0, none⟩) l.length l.length) l :=
  ⟨_, _, rfl, fun j hj => ⟨b, rfl, lt_of_block h, blk_c h j (by simp [hj])⟩⟩
theorem names_k (w : World) : Calls Tryz.prog 65 #[] w fun e w' => e = .returned (.slice (some ⟨w.heap.size, 0, none⟩) 10 10) ∧ w' = w.alloc (.cells (envN.map fun x => Value.string (B x)).toArray 9) := by
  go_enter Tryz.func65, Tryz.ntmps65
  go_wp2
  go_ret
  exact ⟨rfl, rfl⟩
theorem types_k (w : World) : Calls Tryz.prog 66 #[] w fun e w' => e = .returned (.slice (some ⟨w.heap.size, 0, none⟩) 10 10) ∧ w' = w.alloc (.cells (envT.map fun x => Value.string (B x)).toArray 9) := by
  go_enter Tryz.func66, Tryz.ntmps66
  go_wp2
  go_ret
  exact ⟨rfl, rfl⟩
end Go.Proofs.YtcdijppegfcoaaaGreatDoor

/-
  OUR OWN TEXT. typerkeep.infer of an expression that has a type.
-/
namespace Go.Proofs.YtcdijppegfcoaaaGreatDoor
open Go.RowKit
theorem names_a (w : World) : Calls Tryz.prog 65 #[] w fun e w' => ∃ b, e = .returned (.slice (some ⟨b, 0, none⟩) 10 10) ∧ SRow w' (.slice (some ⟨b, 0, none⟩) 10 10) envN ∧ w.grownBy w' none := by
  refine (names_k w).mono ?_
  rintro e w' ⟨rfl, rfl⟩
  exact ⟨_, rfl, SRow.ten (heap_alloc_new _ _), World.grownBy_alloc _ _ _⟩
theorem types_a (w : World) : Calls Tryz.prog 66 #[] w fun e w' => ∃ b, e = .returned (.slice (some ⟨b, 0, none⟩) 10 10) ∧ SRow w' (.slice (some ⟨b, 0, none⟩) 10 10) envT ∧ w.grownBy w' none := by
  refine (types_k w).mono ?_
  rintro e w' ⟨rfl, rfl⟩
  exact ⟨_, rfl, SRow.ten (heap_alloc_new _ _), World.grownBy_alloc _ _ _⟩
set_option maxRecDepth 100000 in
set_option maxHeartbeats 1000000 in
theorem kinfer_g {s tx : List UInt8} {a b c d : Int} {nm : List UInt8} {w : World} (CI : ∀ vn vt W, w.grownBy W none → SRow W vn envN → SRow W vt envT → Calls Tryz.prog 26 #[.string (B s), vn, vt, .int .i64 6] W fun e w' => Gn W w' ∧ ∃ r, e = .returned (.tuple #[.string (B tx), f5 a b (B nm) c d, .bool r])) :
    Calls Tryz.prog 35 #[.string (B s)] w fun e w' => Gn w w' ∧ e = .returned (.tuple #[.string (B tx), f5 a b (B nm) c d]) := by
  have HC := hid CI
  clear CI
  go_enter Tryz.func35, Tryz.ntmps35
  go_wp2_with fail
  refine (names_a _).mono ?_
  rintro e w1 ⟨b1, rfl, r1, g1⟩
  have n1 : w1.heap[w.heap.size]? = some (.cells #[.int .i64 0, .int .i64 0, .string (B []), .int .i64 0, .int .i64 0] 23 (0, 0)) := (g1.block _ (by simp) (by simp)).trans (heap_alloc_new _ _)
  have Q1 := hid (And.intro r1 (And.intro ((World.grownBy_alloc w _ none).trans g1) n1))
  clear r1 g1 n1
  go_wp2_with fail
  refine (types_a _).mono ?_
  rintro e w2 ⟨b2, rfl, r2, g2⟩
  have CI := hid (HC.out _ _ w2 (Q1.out.2.1.trans g2) (Q1.out.1.gn (Gn.of g2)) r2)
  have Q2 := hid (And.intro (Q1.out.2.1.trans g2) ((g2.block _ (lt_of_block Q1.out.2.2) (by simp)).trans Q1.out.2.2))
  clear r2 g2 Q1 HC
  go_wp2_with fail
  refine CI.out.mono ?_
  rintro e w3 ⟨g3, r, rfl⟩
  have n3 : w3.heap[w.heap.size]? = some (.cells #[.int .i64 0, .int .i64 0, .string (B []), .int .i64 0, .int .i64 0] 23 (0, 0)) := (g3.block _ (lt_of_block Q2.out.2)).trans Q2.out.2
  have l3 := lt_of_block n3
  have Q3 := hid (And.intro ((Gn.of Q2.out.1).trans g3) n3)
  obtain ⟨⟨q0, q1, q2, q3, q4⟩, f0, f1, f2, f3, f4⟩ := five_c n3
  clear g3 CI Q2 n3
  unfold f5 at *
  go_wp2_with fail
  have n4 : (w3.alloc (.cells #[.int .i64 a, .int .i64 b, .string (B nm), .int .i64 c, .int .i64 d] 23)).heap[w.heap.size]? = some (.cells #[.int .i64 0, .int .i64 0, .string (B []), .int .i64 0, .int .i64 0] 23 (0, 0)) := by
    rw [Below.heap_alloc _ _ _ l3]; exact Q3.out.2
  have n5 : (w3.alloc (.cells #[.int .i64 a, .int .i64 b, .string (B nm), .int .i64 c, .int .i64 d] 23)).heap[w3.heap.size]? = some (.cells #[.int .i64 a, .int .i64 b, .string (B nm), .int .i64 c, .int .i64 d] 23 (0, 0)) := heap_alloc_new _ _
  have G4 := hid (Q3.out.1.trans (Gn.of (World.grownBy_alloc w3 (.cells #[.int .i64 a, .int .i64 b, .string (B nm), .int .i64 c, .int .i64 d] 23) none)))
  clear q0 q1 q2 q3 q4 f0 f1 f2 f3 f4
  have hne : w.heap.size ≠ w3.heap.size := by omega
  generalize w3.alloc (.cells #[.int .i64 a, .int .i64 b, .string (B nm), .int .i64 c, .int .i64 d] 23) = W4 at *
  generalize w3.heap.size = bb at *
  obtain ⟨⟨q0, q1, q2, q3, q4⟩, f0, f1, f2, f3, f4⟩ := five_c n4
  obtain ⟨⟨p0, p1, p2, p3, p4⟩, _⟩ := five_c n5
  clear n4 n5 Q3
  go_region
  all_goals go_wp2
  all_goals
    refine bodyPost_ret (v := .tuple #[.string (B tx), f5 a b (B nm) c d]) (by simp [results, Tryz.results35, go_sem, q0, q1, q2, q3, q4]; rfl) rfl ?_
    exact ⟨(G4.out.set5 (Nat.le_refl _) _ _ _ _ _).drew, rfl⟩
theorem kinfer_ok {s tx : List UInt8} {x : Ex} (hs : s.length ≤ 300) (hx : exK s = some x) (ht : typK envG x = some tx) (w : World) (ad : Nat → Addr) (cs : Nat → Array Value) (ts : Nat → TypeId) (S : SW w ad cs ts) :
    Calls Tryz.prog 35 #[.string (B s)] w fun e w' => Gn w w' ∧ e = .returned (.tuple #[.string (B tx), f5 0 0 (B []) 0 0]) :=
  kinfer_g fun vn vt W gW r1 r2 => pinfer_ok hs hx ht vn vt W r1 r2 ad cs ts (S.grown gW)
end Go.Proofs.YtcdijppegfcoaaaGreatDoor

/-
  OUR OWN TEXT. typerkeep: pick; has.
-/
namespace Go.Proofs.YtcdijppegfcoaaaGreatDoor
open Go.RowKit
theorem int_rangeK {n : Int} (h : (Lit.int .i64 n).wf = true) : -9223372036854775808 ≤ n ∧ n ≤ 9223372036854775807 := by
  simp only [Lit.wf, Bool.and_eq_true, decide_eq_true_eq] at h
  exact ⟨h.1, h.2⟩
set_option maxRecDepth 100000 in
set_option maxHeartbeats 4000000 in
theorem pick_20 (c : Int) (h1 : -9223372036854775808 ≤ c) (h2 : c ≤ 9223372036854775807) : ∃ n : Nat, n < 20 ∧ ∀ w, Calls Tryz.prog 32 #[.int .i64 c, .int .i64 20] w fun e w' => e = .returned (.int .i64 n) ∧ w' = w := by
  by_cases hc : c < 0
  · obtain ⟨m, hm⟩ : ∃ m : Nat, -(c + 1) = (m : Int) := ⟨(-(c + 1)).toNat, by omega⟩
    have E1 := hid (show (m : Int) % 20 = ((m % 20 : Nat) : Int) by omega)
    refine ⟨m % 20, Nat.mod_lt _ (by omega), fun w => ?_⟩
    obtain ⟨z, hz⟩ : ∃ z, z = m % 20 := ⟨_, rfl⟩
    rw [← hz] at E1 ⊢
    clear hz
    go_enter Tryz.func32, Tryz.ntmps32
    go_wp2
    rw [E1.out]
    go_ret
    exact ⟨rfl, rfl⟩
  · obtain ⟨m, hm⟩ : ∃ m : Nat, c = (m : Int) := ⟨c.toNat, by omega⟩
    have E1 := hid (show (m : Int) % 20 = ((m % 20 : Nat) : Int) by omega)
    refine ⟨m % 20, Nat.mod_lt _ (by omega), fun w => ?_⟩
    obtain ⟨z, hz⟩ : ∃ z, z = m % 20 := ⟨_, rfl⟩
    rw [← hz] at E1 ⊢
    clear hz
    go_enter Tryz.func32, Tryz.ntmps32
    go_wp2
    rw [E1.out]
    go_ret
    exact ⟨rfl, rfl⟩
set_option maxRecDepth 100000 in
set_option maxHeartbeats 1000000 in
theorem has_g {s t tx : List UInt8} {w : World} (CI : Calls Tryz.prog 35 #[.string (B s)] w fun e w' => Gn w w' ∧ e = .returned (.tuple #[.string (B tx), f5 0 0 (B []) 0 0])) (ht : tx = t) :
    Calls Tryz.prog 33 #[.string (B s), .string (B t)] w fun e w' => e = .returned (.bool true) ∧ Gn w w' := by
  subst ht
  have HC := hid CI
  clear CI
  have h1 : ((B tx).toList == (B tx).toList) = true := beq_self_eq_true _
  go_enter Tryz.func33, Tryz.ntmps33
  go_wp2_with fail
  refine HC.out.mono ?_
  rintro e w1 ⟨g1, rfl⟩
  have G1 := hid (g1.trans (Gn.of (World.grownBy_alloc w1 (.cells #[.int .i64 0, .int .i64 0, .string (B []), .int .i64 0, .int .i64 0] 23) none)))
  clear g1 HC
  unfold f5
  go_wp2
  go_ret
  exact ⟨rfl, G1.out⟩
end Go.Proofs.YtcdijppegfcoaaaGreatDoor

/-
  OUR OWN TEXT. The expressions of Times and Path, worked out by the kernel.
-/
namespace Go.Proofs.YtcdijppegfcoaaaGreatDoor
open Go.RowKit
/-- Has the expression just that type? -/
def hasK (s t : List UInt8) : Bool := decide (s.length ≤ 300) && match exK s with
  | none => false
  | some x => decide (typK envG x = some t)
theorem hasK_out {s t : List UInt8} (h : hasK s t = true) : s.length ≤ 300 ∧ ∃ x, exK s = some x ∧ typK envG x = some t := by
  unfold hasK at h
  simp only [Bool.and_eq_true, decide_eq_true_eq] at h
  refine ⟨h.1, ?_⟩
  cases e : exK s with
  | none => rw [e] at h; simp at h
  | some x => rw [e] at h; simp at h; exact ⟨x, rfl, h.2⟩
/-- Times: the text, the type. -/
def tmS : Nat → List UInt8
  | 0 => [120]
  | n + 1 => [102, 32, 40] ++ tmS n ++ [41]
def tmX (n : Nat) : List UInt8 := [102, 117, 110, 32, 102, 32, 45, 62, 32, 102, 117, 110, 32, 120, 32, 45, 62, 32] ++ tmS n
def tmT (n : Nat) : List UInt8 := if n = 0 then [97, 32, 45, 62, 32, 98, 32, 45, 62, 32, 98] else if n = 1 then [40, 97, 32, 45, 62, 32, 98, 41, 32, 45, 62, 32, 97, 32, 45, 62, 32, 98] else [40, 97, 32, 45, 62, 32, 97, 41, 32, 45, 62, 32, 97, 32, 45, 62, 32, 97]
theorem tk_0 : hasK (tmX 0) (tmT 0) = true := by kernel_rfl
theorem tk_1 : hasK (tmX 1) (tmT 1) = true := by kernel_rfl
theorem tk_2 : hasK (tmX 2) (tmT 2) = true := by kernel_rfl
theorem tk_3 : hasK (tmX 3) (tmT 3) = true := by kernel_rfl
theorem tk_4 : hasK (tmX 4) (tmT 4) = true := by kernel_rfl
theorem tk_5 : hasK (tmX 5) (tmT 5) = true := by kernel_rfl
theorem tk_6 : hasK (tmX 6) (tmT 6) = true := by kernel_rfl
theorem tk_7 : hasK (tmX 7) (tmT 7) = true := by kernel_rfl
theorem tk_8 : hasK (tmX 8) (tmT 8) = true := by kernel_rfl
theorem tk_9 : hasK (tmX 9) (tmT 9) = true := by kernel_rfl
theorem tk_10 : hasK (tmX 10) (tmT 10) = true := by kernel_rfl
theorem tk_11 : hasK (tmX 11) (tmT 11) = true := by kernel_rfl
theorem tk_12 : hasK (tmX 12) (tmT 12) = true := by kernel_rfl
theorem tk_13 : hasK (tmX 13) (tmT 13) = true := by kernel_rfl
theorem tk_14 : hasK (tmX 14) (tmT 14) = true := by kernel_rfl
theorem tk_15 : hasK (tmX 15) (tmT 15) = true := by kernel_rfl
theorem tk_16 : hasK (tmX 16) (tmT 16) = true := by kernel_rfl
theorem tk_17 : hasK (tmX 17) (tmT 17) = true := by kernel_rfl
theorem tk_18 : hasK (tmX 18) (tmT 18) = true := by kernel_rfl
theorem tk_19 : hasK (tmX 19) (tmT 19) = true := by kernel_rfl
theorem tk_all (n : Nat) (h : n < 20) : hasK (tmX n) (tmT n) = true := by
  match n, h with
  | 0, _ => exact tk_0
  | 1, _ => exact tk_1
  | 2, _ => exact tk_2
  | 3, _ => exact tk_3
  | 4, _ => exact tk_4
  | 5, _ => exact tk_5
  | 6, _ => exact tk_6
  | 7, _ => exact tk_7
  | 8, _ => exact tk_8
  | 9, _ => exact tk_9
  | 10, _ => exact tk_10
  | 11, _ => exact tk_11
  | 12, _ => exact tk_12
  | 13, _ => exact tk_13
  | 14, _ => exact tk_14
  | 15, _ => exact tk_15
  | 16, _ => exact tk_16
  | 17, _ => exact tk_17
  | 18, _ => exact tk_18
  | 19, _ => exact tk_19
  | n + 20, h => exact absurd h (by omega)
end Go.Proofs.YtcdijppegfcoaaaGreatDoor

/-
  OUR OWN TEXT. typerkeep.Times.
-/
namespace Go.Proofs.YtcdijppegfcoaaaGreatDoor
open Go.RowKit
theorem tm_step (j : Nat) : ({ data := #[102, 32, 40] } : ByteArray) ++ B (tmS j) ++ ({ data := #[41] } : ByteArray) = B (tmS (j + 1)) := by
  rw [show ({ data := #[102, 32, 40] } : ByteArray) = B [102, 32, 40] from rfl, show ({ data := #[41] } : ByteArray) = B [41] from rfl, append_B, append_B]
  rfl
theorem tm_size (j : Nat) : (B (tmS j)).size = 4 * j + 1 := by
  rw [size_B]
  induction j with
  | zero => rfl
  | succ j ih => simp only [tmS, List.length_append, ih]; simp; omega
theorem tm_whole (j : Nat) : ({ data := #[102, 117, 110, 32, 102, 32, 45, 62, 32, 102, 117, 110, 32, 120, 32, 45, 62, 32] } : ByteArray) ++ B (tmS j) = B (tmX j) := by
  rw [show ({ data := #[102, 117, 110, 32, 102, 32, 45, 62, 32, 102, 117, 110, 32, 120, 32, 45, 62, 32] } : ByteArray) = B [102, 117, 110, 32, 102, 32, 45, 62, 32, 102, 117, 110, 32, 120, 32, 45, 62, 32] from rfl, append_B]
  rfl
set_option maxRecDepth 100000 in
set_option maxHeartbeats 1000000 in
theorem times_n (k : Int) (n : Nat) (hn : n < 20) (hp : ∀ w, Calls Tryz.prog 32 #[.int .i64 k, .int .i64 20] w fun e w' => e = .returned (.int .i64 n) ∧ w' = w) (w : World) (ad : Nat → Addr) (cs : Nat → Array Value) (ts : Nat → TypeId) (S : SW w ad cs ts) :
    Calls Tryz.prog 11 #[.int .i64 k] w fun e w' => e = .returned (.bool true) ∧ Gn w w' := by
  obtain ⟨hs, x, hx, ht⟩ := hasK_out (tk_all n hn)
  have HH := hid (has_g (t := tmT n) (kinfer_ok hs hx ht w ad cs ts S) rfl)
  have HP := hid hp
  clear hs hx ht S hp
  go_enter Tryz.func11, Tryz.ntmps11
  go_wp2_with fail
  refine (HP.out _).mono ?_
  rintro e w1 ⟨rfl, rfl⟩
  clear HP
  go_wp2_with fail
  go_loopg [3, 8] (n + 1) (fun gh x i wi => ∃ j : Nat, j ≤ n ∧ x = .string (B (tmS j)) ∧ i = .int .i64 j ∧ gh = n - j + 1 ∧ wi = w1)
  case atStart => exact ⟨0, by omega, rfl, rfl, by omega, rfl⟩
  case round =>
    obtain ⟨j, hj, rfl, rfl, hgj, rfl⟩ := hrel
    by_cases hjl : j < n
    · have e1 := tm_step j
      have z1 := tm_size j
      have z2 : (({ data := #[102, 32, 40] } : ByteArray) ++ B (tmS j)).size = 3 + (4 * j + 1) := by rw [ByteArray.size_append, z1]; rfl
      have hj2 : (j : Int) < n := by omega
      go_wp2_with fail
      go_roundg (n - (j + 1) + 1)
      case measure => omega
      case rel => exact ⟨j + 1, by omega, rfl, by go_num, rfl, rfl⟩
    · have hje : j = n := by omega
      subst hje
      have e1 := tm_whole j
      have z1 := tm_size j
      clear hj hgj hjl
      unfold tmT at HH
      rcases Nat.lt_or_ge j 2 with h2 | h2
      · have h01 : j = 0 ∨ j = 1 := by omega
        rcases h01 with rfl | rfl
        all_goals
          go_wp2_with fail
          refine HH.out.mono ?_
          rintro e w2 ⟨rfl, g2⟩
          have G2 := hid g2
          clear g2 HH
          go_wp2
          go_ret
          exact ⟨rfl, G2.out⟩
      · rw [if_neg (by omega), if_neg (by omega)] at HH
        have h3 : (j : Int) ≠ 0 := by omega
        have h4 : (j : Int) ≠ 1 := by omega
        go_wp2_with fail
        refine HH.out.mono ?_
        rintro e w2 ⟨rfl, g2⟩
        have G2 := hid g2
        clear g2 HH
        go_wp2
        go_ret
        exact ⟨rfl, G2.out⟩
theorem times_any (k : Int) (h1 : -9223372036854775808 ≤ k) (h2 : k ≤ 9223372036854775807) (w : World) (ad : Nat → Addr) (cs : Nat → Array Value) (ts : Nat → TypeId) (S : SW w ad cs ts) :
    Calls Tryz.prog 11 #[.int .i64 k] w fun e w' => e = .returned (.bool true) ∧ Gn w w' := by
  obtain ⟨n, hn, hp⟩ := pick_20 k h1 h2
  exact times_n k n hn hp w ad cs ts S
end Go.Proofs.YtcdijppegfcoaaaGreatDoor
