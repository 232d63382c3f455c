import Derived.Test.YtcdijppegfcoaabGreatDoorRefRd
import Derived.Test.YtcdijppegfcoaabGreatDoorNE
import Derived.Test.YtcdijppegfcoaabGreatDoorNQ
import Derived.Test.YtcdijppegfcoaabGreatDoorNA
import Derived.Test.YtcdijppegfcoaabGreatDoorRefT5
import Derived.Test.YtcdijppegfcoaabGreatDoorPSk
import Derived.Test.YtcdijppegfcoaabGreatDoorNF
import Derived.Deep.LoopGhost
/-
  OUR OWN TEXT. typerref.Read, at every text.
-/
namespace Go.Proofs.YtcdijppegfcoaabGreatDoor
open Go.RowKit


end Go.Proofs.YtcdijppegfcoaabGreatDoor

/-
  OUR OWN TEXT. plain.Show; the law Shows.
-/
namespace Go.Proofs.YtcdijppegfcoaabGreatDoor
open Go.RowKit

def PSOut (w w' : World) (s2 : St) (e : Ending) (ex : Ex) : Prop :=
  Gn w w' ∧ ((0 ≤ s2.bad ∧ e = .returned (.tuple #[.string (B []), fv 2 s2.bad])) ∨
    (s2.bad < 0 ∧ ∀ m, Shape m ex → ((40 < exDeep m ex ∧ e = .returned (.tuple #[.string (B []), fv 3 0])) ∨ (exDeep m ex ≤ 40 ∧ e = .returned (.tuple #[.string (B (exText m ex)), fv 0 0])))))

set_option maxRecDepth 100000 in
set_option maxHeartbeats 4000000 in
theorem pshow_p (s : ByteArray) (hs : s.size ≤ 300) (w : World) (n : Nat) (ex : Ex) (s1 : St) (hx : expS (toksOf exKw s) n ⟨0, -1⟩ = some (ex, s1)) (hni : (needS (toksOf exKw s) s1 kEnd).bad < 0 → ∃ m c, Nice m ex c ∧ c ≤ 400) (ad : Nat → Addr) (cs : Nat → Array Value) (ts : Nat → TypeId) (S : SW w ad cs ts) :
    Calls Tryz.prog 15 #[.string s] w fun e w' => PSOut w w' (needS (toksOf exKw s) s1 kEnd) e ex := by
  have g0 : w.grownBy (w.alloc (.cells #[.int .i64 0, .int .i64 0, .string (B []), .int .i64 0, .int .i64 0] 23)) none := World.grownBy_alloc _ _ _
  have S0 := S.grown g0
  have HC := hid (show_p s hs _ n ex s1 hx hni (ad 1) S0.g1 (Nat.lt_of_lt_of_le (by decide) S0.hsz))
  have SH := hid S0
  have G0 := hid g0
  have HN := hid hni
  clear hx S S0 g0 hni
  generalize (needS (toksOf exKw s) s1 kEnd) = s2 at HC HN ⊢
  go_enter Tryz.func15, Tryz.ntmps15
  go_wp2_with fail
  refine HC.out.mono ?_
  rintro e w1 ⟨g1, ho⟩
  have S1 := hid (SH.out.grown g1)
  have G1 := hid (G0.out.trans g1)
  have n0 : w1.heap[w.heap.size]? = some (.cells #[.int .i64 0, .int .i64 0, .string (B []), .int .i64 0, .int .i64 0] 23 (0, 0)) := by
    rw [g1.block _ (by simp) (by simp)]
    exact heap_alloc_new _ _
  have l0 := lt_of_block n0
  clear g1 HC
  rcases ho with ⟨hb, b, rfl, hbk⟩ | ⟨hb, hall⟩
  · have FA := hid (fault_syn w1 ad cs ts S1.out b _ hbk)
    have HB := hid hb
    clear hbk hb
    go_wp2_with fail
    refine FA.out.mono ?_
    rintro e w2 ⟨rfl, g2⟩
    have n2 : w2.heap[w.heap.size]? = some (.cells #[.int .i64 0, .int .i64 0, .string (B []), .int .i64 0, .int .i64 0] 23 (0, 0)) := by
      rw [(Gn.of g2).block _ l0]; exact n0
    obtain ⟨⟨q0, q1, q2, q3, q4⟩, f0, f1, f2, f3, f4⟩ := five_c n2
    have G2 := hid ((Gn.of G1.out).trans (Gn.of g2))
    clear g2 n2 n0
    unfold fv
    go_wp2
    refine bodyPost_ret (v := .tuple #[.string (B []), fv 2 s2.bad]) (by simp [results, Tryz.results15, go_sem, q0, q1, q2, q3, q4]; rfl) rfl ?_
    exact ⟨G2.out.set5 (Nat.le_refl _) _ _ _ _ _, Or.inl ⟨HB.out, rfl⟩⟩
  · obtain ⟨m, c, nice, _⟩ := HN.out hb
    have HB := hid hb
    have SHP := hid nice.shape
    rcases hall m nice.shape with ⟨hd, rfl⟩ | ⟨hd, rfl⟩
    · have FA := hid (fault_err w1 ad cs ts S1.out 1 (by decide))
      have HD := hid hd
      clear hb hall hd nice
      unfold errV at FA ⊢
      go_wp2_with fail
      refine FA.out.mono ?_
      rintro e w2 ⟨rfl, g2⟩
      have n2 : w2.heap[w.heap.size]? = some (.cells #[.int .i64 0, .int .i64 0, .string (B []), .int .i64 0, .int .i64 0] 23 (0, 0)) := by
        rw [(g2).block _ l0]; exact n0
      obtain ⟨⟨q0, q1, q2, q3, q4⟩, f0, f1, f2, f3, f4⟩ := five_c n2
      have G2 := hid ((Gn.of G1.out).trans (g2))
      clear g2 n2 n0
      rw [show errNo 1 = 3 from rfl]
      unfold fv
      go_wp2
      refine bodyPost_ret (v := .tuple #[.string (B []), fv 3 0]) (by simp [results, Tryz.results15, go_sem, q0, q1, q2, q3, q4]; rfl) rfl ?_
      exact ⟨G2.out.set5 (Nat.le_refl _) _ _ _ _ _, Or.inr ⟨HB.out, fun k hk => Or.inl ⟨by rw [(text_same hk SHP.out).2]; exact HD.out, rfl⟩⟩⟩
    · have FA := hid (fault_nil w1)
      have HD := hid hd
      obtain ⟨tx, htx⟩ : ∃ tx, tx = exText m ex := ⟨_, rfl⟩
      rw [← htx]
      have HTX := hid htx
      clear hb hall hd nice htx
      go_wp2_with fail
      refine FA.out.mono ?_
      rintro e w2 ⟨rfl, g2⟩
      have n2 : w2.heap[w.heap.size]? = some (.cells #[.int .i64 0, .int .i64 0, .string (B []), .int .i64 0, .int .i64 0] 23 (0, 0)) := by
        rw [(Gn.of g2).block _ l0]; exact n0
      obtain ⟨⟨q0, q1, q2, q3, q4⟩, f0, f1, f2, f3, f4⟩ := five_c n2
      have G2 := hid ((Gn.of G1.out).trans (Gn.of g2))
      clear g2 n2 n0
      unfold fv
      go_wp2
      refine bodyPost_ret (v := .tuple #[.string (B tx), fv 0 0]) (by simp [results, Tryz.results15, go_sem, q0, q1, q2, q3, q4]; rfl) rfl ?_
      exact ⟨G2.out.set5 (Nat.le_refl _) _ _ _ _ _, Or.inr ⟨HB.out, fun k hk => Or.inr ⟨by rw [(text_same hk SHP.out).2]; exact HD.out, by rw [HTX.out, (text_same hk SHP.out).1]⟩⟩⟩

set_option maxRecDepth 100000 in
set_option maxHeartbeats 4000000 in
theorem pshow_long (s : ByteArray) (hs : 300 < s.size) (w : World) (ad : Nat → Addr) (cs : Nat → Array Value) (ts : Nat → TypeId) (S : SW w ad cs ts) :
    Calls Tryz.prog 15 #[.string s] w fun e w' => e = .returned (.tuple #[.string (B []), fv 1 0]) ∧ Gn w w' := by
  have g0 : w.grownBy (w.alloc (.cells #[.int .i64 0, .int .i64 0, .string (B []), .int .i64 0, .int .i64 0] 23)) none := World.grownBy_alloc _ _ _
  have S0 := S.grown g0
  have HC := hid (show_plong s hs _ (ad 0) S0.g0 (Nat.lt_of_lt_of_le (by decide) S0.hsz))
  have SH := hid S0
  have G0 := hid g0
  clear S S0 g0
  go_enter Tryz.func15, Tryz.ntmps15
  go_wp2_with fail
  refine HC.out.mono ?_
  rintro e w1 ⟨rfl, g1⟩
  have n0 : w1.heap[w.heap.size]? = some (.cells #[.int .i64 0, .int .i64 0, .string (B []), .int .i64 0, .int .i64 0] 23 (0, 0)) := by
    rw [g1.block _ (by simp) (by simp)]
    exact heap_alloc_new _ _
  have l0 := lt_of_block n0
  have FA := hid (fault_err w1 ad cs ts (SH.out.grown g1) 0 (by decide))
  have G1 := hid (G0.out.trans g1)
  clear g1 HC
  unfold errV at FA ⊢
  go_wp2_with fail
  refine FA.out.mono ?_
  rintro e w2 ⟨rfl, g2⟩
  have n2 : w2.heap[w.heap.size]? = some (.cells #[.int .i64 0, .int .i64 0, .string (B []), .int .i64 0, .int .i64 0] 23 (0, 0)) := by
    rw [(g2).block _ l0]; exact n0
  obtain ⟨⟨q0, q1, q2, q3, q4⟩, f0, f1, f2, f3, f4⟩ := five_c n2
  have G2 := hid ((Gn.of G1.out).trans (g2))
  clear g2 n2 n0
  rw [show errNo 0 = 1 from rfl]
  unfold fv
  go_wp2
  refine bodyPost_ret (v := .tuple #[.string (B []), fv 1 0]) (by simp [results, Tryz.results15, go_sem, q0, q1, q2, q3, q4]; rfl) rfl ?_
  exact ⟨rfl, G2.out.set5 (Nat.le_refl _) _ _ _ _ _⟩
end Go.Proofs.YtcdijppegfcoaabGreatDoor

/-
  OUR OWN TEXT (written by mkplaw.py). The law Shows.
-/
namespace Go.Proofs.YtcdijppegfcoaabGreatDoor
open Go.RowKit

theorem exp_have (s : ByteArray) (hs : s.size ≤ 300) : ∃ x s1, expS (toksOf exKw s) (s.size + 2) ⟨0, -1⟩ = some (x, s1) ∧ ((needS (toksOf exKw s) s1 kEnd).bad < 0 → ∃ m c, Nice m x c ∧ c ≤ 400) := by
  obtain ⟨f1, f2, f3⟩ := toks_facts exKw s (s.size + 1) 0 (Nat.zero_le _) (by omega)
  have hlen := toksOf_len exKw s
  obtain ⟨x, s1, e, r⟩ := exp_tot (T := toksOf exKw s) f1 f2 (by omega) (s.size + 2) ⟨0, -1⟩ ⟨f1.1, Or.inl (by show (toksOf exKw s).length - 0 + 1 ≤ s.size + 2; omega)⟩
  refine ⟨x, s1, e, fun hb => ?_⟩
  have hb1 : s1.bad < 0 := by
    rcases Int.lt_or_le s1.bad 0 with h | h
    · exact h
    · rw [need_bad h] at hb
      omega
  obtain ⟨_, _, m, hm⟩ := r.2.2 hb1
  exact ⟨m, _, hm, by have := r.2.1; show s1.k - 0 ≤ 400; omega⟩

end Go.Proofs.YtcdijppegfcoaabGreatDoor

/-
  OUR OWN TEXT. The texts that Refuses asks of, on plain data: what Show and Canon must answer, worked out.
-/
namespace Go.Proofs.YtcdijppegfcoaabGreatDoor
open Go.RowKit

def shapeB : Nat → Ex → Bool
  | 0, _ => false
  | m + 1, x => (((decide (x.op = kName) || decide (x.op = kNum)) && decide (x.names.length = 1)) || (decide (x.op = kFun) && decide (x.names.length = 1) && decide (x.kids.length = 1)) || (decide (x.op = oPair) && decide (x.kids.length = 2)) || (decide (x.op = kIf) && decide (x.kids.length = 3)) || (decide (x.op = oApp) && decide (x.kids.length = 2)) ||
      ((decide (x.op = kLet) || decide (x.op = kRec)) && decide (0 < x.names.length) && decide (x.kids.length = x.names.length + 1))) && x.kids.all (shapeB m)
theorem shapeB_ok : ∀ (m : Nat) (x : Ex), shapeB m x = true → Shape m x
  | 0, _, h => by cases h
  | m + 1, x, h => by
    simp only [shapeB, Bool.and_eq_true, Bool.or_eq_true, decide_eq_true_eq, List.all_eq_true] at h
    obtain ⟨h1, h2⟩ := h
    refine ⟨?_, fun y hy => shapeB_ok m y (h2 y hy)⟩
    rcases h1 with ((((h | h) | h) | h) | h) | h
    · exact Or.inl h
    · exact Or.inr (Or.inl ⟨h.1.1, h.1.2, h.2⟩)
    · exact Or.inr (Or.inr (Or.inl h))
    · exact Or.inr (Or.inr (Or.inr (Or.inl h)))
    · exact Or.inr (Or.inr (Or.inr (Or.inr (Or.inl h))))
    · exact Or.inr (Or.inr (Or.inr (Or.inr (Or.inr ⟨h.1.1, h.1.2, h.2⟩))))
def tyOkB (N : Nat) : Nat → Ty → Bool
  | 0, _ => false
  | m + 1, t => match t.kids with
    | [] => (decide (t.kind = []) && decide (t.var < N)) || ((decide (t.kind = kInt) || decide (t.kind = kBool)) && decide (t.var = 0))
    | [a] => decide (t.kind = oList) && decide (t.var = 0) && tyOkB N m a
    | [a, b] => (decide (t.kind = oPair) || decide (t.kind = kFun)) && decide (t.var = 0) && tyOkB N m a && tyOkB N m b
    | _ => false
theorem tyOkB_ok (N : Nat) : ∀ (m : Nat) (t : Ty), tyOkB N m t = true → TyOk N m t
  | 0, _, h => by cases h
  | m + 1, t, h => by
    unfold tyOkB at h
    split at h
    · rename_i hk
      simp only [Bool.and_eq_true, Bool.or_eq_true, decide_eq_true_eq] at h
      rcases h with h | h
      · exact Or.inl ⟨h.1, h.2, hk⟩
      · exact Or.inr (Or.inl ⟨h.1, h.2, hk⟩)
    · rename_i a hk
      simp only [Bool.and_eq_true, decide_eq_true_eq] at h
      exact Or.inr (Or.inr (Or.inl ⟨h.1.1, h.1.2, a, hk, tyOkB_ok N m a h.2⟩))
    · rename_i a b hk
      simp only [Bool.and_eq_true, Bool.or_eq_true, decide_eq_true_eq] at h
      exact Or.inr (Or.inr (Or.inr ⟨h.1.1.1, h.1.1.2, a, b, hk, tyOkB_ok N m a h.1.2, tyOkB_ok N m b h.2⟩))
    · cases h

/-- Does Show answer of that text as the place says? -/
def shK (s : List UInt8) (p : Int) : Bool :=
  match expS (toksOf exKw (B s)) (s.length + 2) ⟨0, -1⟩ with
  | none => false
  | some (ex, s1) =>
    if p = -1 then decide ((needS (toksOf exKw (B s)) s1 kEnd).bad < 0) && shapeB 60 ex && decide (exDeep 60 ex ≤ 40) && !(exText 60 ex).isEmpty
    else if p = -2 then decide ((needS (toksOf exKw (B s)) s1 kEnd).bad < 0) && shapeB 60 ex && decide (40 < exDeep 60 ex)
    else decide ((needS (toksOf exKw (B s)) s1 kEnd).bad = p) && decide (0 ≤ p)
/-- Does Canon? -/
def caK (s : List UInt8) (p : Int) : Bool :=
  match arrS (toksOf tyKw (B s)) (s.length + 2) [] ⟨0, -1⟩ with
  | none => false
  | some (x, ns, s1) =>
    if p = -1 then decide ((needS (toksOf tyKw (B s)) s1 kEnd).bad < 0) && tyOkB ns.length 60 x && decide (tySize 60 x ≤ 120) && !(tyText 60 (lettersS ns.length) x).isEmpty
    else decide ((needS (toksOf tyKw (B s)) s1 kEnd).bad = p) && decide (0 ≤ p)
def longS (n : Nat) : List UInt8 := 120 :: List.replicate n 32
def deepS : Nat → List UInt8
  | 0 => [120]
  | n + 1 => [102, 40] ++ deepS n ++ [41]
def flt : List (List UInt8 × Int × Int) := [(longS 299, -1, -1), (deepS 39, -1, 1), (deepS 40, -2, 1), ([], 0, 0), ([120, 32, 121], -1, 2), ([49], -1, 0), ([120, 49], -1, -1), ([88], 0, 0), ([97, 98, 99, 100, 101, 102, 103, 104], -1, -1), ([97, 98, 99, 100, 101, 102, 103, 104, 105], 0, 0), ([49, 50, 51, 52, 53, 54, 55, 56], -1, 0), ([49, 50, 51, 52, 53, 54, 55, 56, 57], 0, 0), ([40, 120, 41], -1, -1), ([40, 41], 1, 1), ([40, 120, 44, 32, 121, 41], -1, -1), ([40, 120, 44, 32, 121, 44, 32, 122, 41], 5, 5), ([40, 120], 2, 2), ([120, 41], 1, 1), ([120, 44], 1, 1), ([105, 110, 116], -1, -1), ([91, 105, 110, 116, 93], 0, -1), ([91, 93], 0, 1), ([91, 97], 0, 2), ([97, 32, 45, 62, 32, 98], 2, -1), ([97, 32, 45, 32, 98], 2, 2), ([97, 32, 45, 62], 2, 4), ([45, 62, 32, 97], 0, 0), ([40, 97, 32, 45, 62, 32, 98, 41, 32, 45, 62, 32, 91, 99, 93], 3, -1), ([97, 32, 45, 62, 32, 40, 98, 44, 32, 91, 98, 111, 111, 108, 93, 41, 32, 45, 62, 32, 99], 2, -1), ([102, 117, 110], 3, -1), ([102, 117, 110, 32, 120], 5, 4), ([102, 117, 110, 32, 120, 32, 45, 62, 32], 9, 4), ([102, 117, 110, 32, 49, 32, 45, 62, 32, 120], 4, 4), ([102, 117, 110, 32, 108, 101, 116, 32, 45, 62, 32, 120], 4, 4), ([102, 117, 110, 32, 120, 32, 45, 62, 32, 120], -1, 4), ([108, 101, 116], 3, -1), ([108, 101, 116, 32, 120], 5, 4), ([108, 101, 116, 32, 120, 32, 61, 32, 49], 9, 4), ([108, 101, 116, 32, 120, 32, 61, 32, 49, 32, 105, 110], 12, 4), ([108, 101, 116, 32, 120, 32, 61, 32, 49, 32, 105, 110, 32, 120], -1, 4), ([108, 101, 116, 32, 114, 101, 99], 7, 4), ([108, 101, 116, 32, 114, 101, 99, 32, 102, 32, 61, 32, 49, 32, 97, 110, 100, 32, 102, 32, 61, 32, 50, 32, 105, 110, 32, 49], 18, 4), ([108, 101, 116, 32, 114, 101, 99, 32, 102, 32, 61, 32, 49, 32, 97, 110, 100, 32, 103, 32, 61, 32, 50, 32, 105, 110, 32, 49], -1, 4), ([108, 101, 116, 32, 102, 32, 61, 32, 49, 32, 97, 110, 100, 32, 103, 32, 61, 32, 50, 32, 105, 110, 32, 49], 10, 4), ([114, 101, 99], 0, -1), ([105, 102, 32, 120, 32, 116, 104, 101, 110, 32, 121], 11, 3), ([105, 102, 32, 120, 32, 116, 104, 101, 110, 32, 121, 32, 101, 108, 115, 101], 16, 3), ([105, 102, 32, 120, 32, 116, 104, 101, 110, 32, 121, 32, 101, 108, 115, 101, 32, 122], -1, 3), ([102, 32, 102, 117, 110, 32, 120, 32, 45, 62, 32, 120], 2, 2), ([102, 32, 105, 102], 2, 2), ([120, 32, 61, 32, 121], 2, 2), ([120, 9, 121], 1, 1), ([120, 10, 32, 121], -1, 3), ([120, 32, 91, 121, 93], 2, 2), ([102, 32, 49, 120], -1, 2)]
theorem flt_0 : (flt.getD 0 ([], 0, 0)).1.length ≤ 300 ∧ shK (flt.getD 0 ([], 0, 0)).1 (flt.getD 0 ([], 0, 0)).2.1 = true ∧ caK (flt.getD 0 ([], 0, 0)).1 (flt.getD 0 ([], 0, 0)).2.2 = true := ⟨Nat.le_of_ble_eq_true (by kernel_rfl), by kernel_rfl, by kernel_rfl⟩
theorem flt_1 : (flt.getD 1 ([], 0, 0)).1.length ≤ 300 ∧ shK (flt.getD 1 ([], 0, 0)).1 (flt.getD 1 ([], 0, 0)).2.1 = true ∧ caK (flt.getD 1 ([], 0, 0)).1 (flt.getD 1 ([], 0, 0)).2.2 = true := ⟨Nat.le_of_ble_eq_true (by kernel_rfl), by kernel_rfl, by kernel_rfl⟩
theorem flt_2 : (flt.getD 2 ([], 0, 0)).1.length ≤ 300 ∧ shK (flt.getD 2 ([], 0, 0)).1 (flt.getD 2 ([], 0, 0)).2.1 = true ∧ caK (flt.getD 2 ([], 0, 0)).1 (flt.getD 2 ([], 0, 0)).2.2 = true := ⟨Nat.le_of_ble_eq_true (by kernel_rfl), by kernel_rfl, by kernel_rfl⟩
theorem flt_3 : (flt.getD 3 ([], 0, 0)).1.length ≤ 300 ∧ shK (flt.getD 3 ([], 0, 0)).1 (flt.getD 3 ([], 0, 0)).2.1 = true ∧ caK (flt.getD 3 ([], 0, 0)).1 (flt.getD 3 ([], 0, 0)).2.2 = true := ⟨Nat.le_of_ble_eq_true (by kernel_rfl), by kernel_rfl, by kernel_rfl⟩
theorem flt_4 : (flt.getD 4 ([], 0, 0)).1.length ≤ 300 ∧ shK (flt.getD 4 ([], 0, 0)).1 (flt.getD 4 ([], 0, 0)).2.1 = true ∧ caK (flt.getD 4 ([], 0, 0)).1 (flt.getD 4 ([], 0, 0)).2.2 = true := ⟨Nat.le_of_ble_eq_true (by kernel_rfl), by kernel_rfl, by kernel_rfl⟩
theorem flt_5 : (flt.getD 5 ([], 0, 0)).1.length ≤ 300 ∧ shK (flt.getD 5 ([], 0, 0)).1 (flt.getD 5 ([], 0, 0)).2.1 = true ∧ caK (flt.getD 5 ([], 0, 0)).1 (flt.getD 5 ([], 0, 0)).2.2 = true := ⟨Nat.le_of_ble_eq_true (by kernel_rfl), by kernel_rfl, by kernel_rfl⟩
theorem flt_6 : (flt.getD 6 ([], 0, 0)).1.length ≤ 300 ∧ shK (flt.getD 6 ([], 0, 0)).1 (flt.getD 6 ([], 0, 0)).2.1 = true ∧ caK (flt.getD 6 ([], 0, 0)).1 (flt.getD 6 ([], 0, 0)).2.2 = true := ⟨Nat.le_of_ble_eq_true (by kernel_rfl), by kernel_rfl, by kernel_rfl⟩
theorem flt_7 : (flt.getD 7 ([], 0, 0)).1.length ≤ 300 ∧ shK (flt.getD 7 ([], 0, 0)).1 (flt.getD 7 ([], 0, 0)).2.1 = true ∧ caK (flt.getD 7 ([], 0, 0)).1 (flt.getD 7 ([], 0, 0)).2.2 = true := ⟨Nat.le_of_ble_eq_true (by kernel_rfl), by kernel_rfl, by kernel_rfl⟩
theorem flt_8 : (flt.getD 8 ([], 0, 0)).1.length ≤ 300 ∧ shK (flt.getD 8 ([], 0, 0)).1 (flt.getD 8 ([], 0, 0)).2.1 = true ∧ caK (flt.getD 8 ([], 0, 0)).1 (flt.getD 8 ([], 0, 0)).2.2 = true := ⟨Nat.le_of_ble_eq_true (by kernel_rfl), by kernel_rfl, by kernel_rfl⟩
theorem flt_9 : (flt.getD 9 ([], 0, 0)).1.length ≤ 300 ∧ shK (flt.getD 9 ([], 0, 0)).1 (flt.getD 9 ([], 0, 0)).2.1 = true ∧ caK (flt.getD 9 ([], 0, 0)).1 (flt.getD 9 ([], 0, 0)).2.2 = true := ⟨Nat.le_of_ble_eq_true (by kernel_rfl), by kernel_rfl, by kernel_rfl⟩
theorem flt_10 : (flt.getD 10 ([], 0, 0)).1.length ≤ 300 ∧ shK (flt.getD 10 ([], 0, 0)).1 (flt.getD 10 ([], 0, 0)).2.1 = true ∧ caK (flt.getD 10 ([], 0, 0)).1 (flt.getD 10 ([], 0, 0)).2.2 = true := ⟨Nat.le_of_ble_eq_true (by kernel_rfl), by kernel_rfl, by kernel_rfl⟩
theorem flt_11 : (flt.getD 11 ([], 0, 0)).1.length ≤ 300 ∧ shK (flt.getD 11 ([], 0, 0)).1 (flt.getD 11 ([], 0, 0)).2.1 = true ∧ caK (flt.getD 11 ([], 0, 0)).1 (flt.getD 11 ([], 0, 0)).2.2 = true := ⟨Nat.le_of_ble_eq_true (by kernel_rfl), by kernel_rfl, by kernel_rfl⟩
theorem flt_12 : (flt.getD 12 ([], 0, 0)).1.length ≤ 300 ∧ shK (flt.getD 12 ([], 0, 0)).1 (flt.getD 12 ([], 0, 0)).2.1 = true ∧ caK (flt.getD 12 ([], 0, 0)).1 (flt.getD 12 ([], 0, 0)).2.2 = true := ⟨Nat.le_of_ble_eq_true (by kernel_rfl), by kernel_rfl, by kernel_rfl⟩
theorem flt_13 : (flt.getD 13 ([], 0, 0)).1.length ≤ 300 ∧ shK (flt.getD 13 ([], 0, 0)).1 (flt.getD 13 ([], 0, 0)).2.1 = true ∧ caK (flt.getD 13 ([], 0, 0)).1 (flt.getD 13 ([], 0, 0)).2.2 = true := ⟨Nat.le_of_ble_eq_true (by kernel_rfl), by kernel_rfl, by kernel_rfl⟩
theorem flt_14 : (flt.getD 14 ([], 0, 0)).1.length ≤ 300 ∧ shK (flt.getD 14 ([], 0, 0)).1 (flt.getD 14 ([], 0, 0)).2.1 = true ∧ caK (flt.getD 14 ([], 0, 0)).1 (flt.getD 14 ([], 0, 0)).2.2 = true := ⟨Nat.le_of_ble_eq_true (by kernel_rfl), by kernel_rfl, by kernel_rfl⟩
theorem flt_15 : (flt.getD 15 ([], 0, 0)).1.length ≤ 300 ∧ shK (flt.getD 15 ([], 0, 0)).1 (flt.getD 15 ([], 0, 0)).2.1 = true ∧ caK (flt.getD 15 ([], 0, 0)).1 (flt.getD 15 ([], 0, 0)).2.2 = true := ⟨Nat.le_of_ble_eq_true (by kernel_rfl), by kernel_rfl, by kernel_rfl⟩
theorem flt_16 : (flt.getD 16 ([], 0, 0)).1.length ≤ 300 ∧ shK (flt.getD 16 ([], 0, 0)).1 (flt.getD 16 ([], 0, 0)).2.1 = true ∧ caK (flt.getD 16 ([], 0, 0)).1 (flt.getD 16 ([], 0, 0)).2.2 = true := ⟨Nat.le_of_ble_eq_true (by kernel_rfl), by kernel_rfl, by kernel_rfl⟩
theorem flt_17 : (flt.getD 17 ([], 0, 0)).1.length ≤ 300 ∧ shK (flt.getD 17 ([], 0, 0)).1 (flt.getD 17 ([], 0, 0)).2.1 = true ∧ caK (flt.getD 17 ([], 0, 0)).1 (flt.getD 17 ([], 0, 0)).2.2 = true := ⟨Nat.le_of_ble_eq_true (by kernel_rfl), by kernel_rfl, by kernel_rfl⟩
theorem flt_18 : (flt.getD 18 ([], 0, 0)).1.length ≤ 300 ∧ shK (flt.getD 18 ([], 0, 0)).1 (flt.getD 18 ([], 0, 0)).2.1 = true ∧ caK (flt.getD 18 ([], 0, 0)).1 (flt.getD 18 ([], 0, 0)).2.2 = true := ⟨Nat.le_of_ble_eq_true (by kernel_rfl), by kernel_rfl, by kernel_rfl⟩
theorem flt_19 : (flt.getD 19 ([], 0, 0)).1.length ≤ 300 ∧ shK (flt.getD 19 ([], 0, 0)).1 (flt.getD 19 ([], 0, 0)).2.1 = true ∧ caK (flt.getD 19 ([], 0, 0)).1 (flt.getD 19 ([], 0, 0)).2.2 = true := ⟨Nat.le_of_ble_eq_true (by kernel_rfl), by kernel_rfl, by kernel_rfl⟩
theorem flt_20 : (flt.getD 20 ([], 0, 0)).1.length ≤ 300 ∧ shK (flt.getD 20 ([], 0, 0)).1 (flt.getD 20 ([], 0, 0)).2.1 = true ∧ caK (flt.getD 20 ([], 0, 0)).1 (flt.getD 20 ([], 0, 0)).2.2 = true := ⟨Nat.le_of_ble_eq_true (by kernel_rfl), by kernel_rfl, by kernel_rfl⟩
theorem flt_21 : (flt.getD 21 ([], 0, 0)).1.length ≤ 300 ∧ shK (flt.getD 21 ([], 0, 0)).1 (flt.getD 21 ([], 0, 0)).2.1 = true ∧ caK (flt.getD 21 ([], 0, 0)).1 (flt.getD 21 ([], 0, 0)).2.2 = true := ⟨Nat.le_of_ble_eq_true (by kernel_rfl), by kernel_rfl, by kernel_rfl⟩
theorem flt_22 : (flt.getD 22 ([], 0, 0)).1.length ≤ 300 ∧ shK (flt.getD 22 ([], 0, 0)).1 (flt.getD 22 ([], 0, 0)).2.1 = true ∧ caK (flt.getD 22 ([], 0, 0)).1 (flt.getD 22 ([], 0, 0)).2.2 = true := ⟨Nat.le_of_ble_eq_true (by kernel_rfl), by kernel_rfl, by kernel_rfl⟩
theorem flt_23 : (flt.getD 23 ([], 0, 0)).1.length ≤ 300 ∧ shK (flt.getD 23 ([], 0, 0)).1 (flt.getD 23 ([], 0, 0)).2.1 = true ∧ caK (flt.getD 23 ([], 0, 0)).1 (flt.getD 23 ([], 0, 0)).2.2 = true := ⟨Nat.le_of_ble_eq_true (by kernel_rfl), by kernel_rfl, by kernel_rfl⟩
theorem flt_24 : (flt.getD 24 ([], 0, 0)).1.length ≤ 300 ∧ shK (flt.getD 24 ([], 0, 0)).1 (flt.getD 24 ([], 0, 0)).2.1 = true ∧ caK (flt.getD 24 ([], 0, 0)).1 (flt.getD 24 ([], 0, 0)).2.2 = true := ⟨Nat.le_of_ble_eq_true (by kernel_rfl), by kernel_rfl, by kernel_rfl⟩
theorem flt_25 : (flt.getD 25 ([], 0, 0)).1.length ≤ 300 ∧ shK (flt.getD 25 ([], 0, 0)).1 (flt.getD 25 ([], 0, 0)).2.1 = true ∧ caK (flt.getD 25 ([], 0, 0)).1 (flt.getD 25 ([], 0, 0)).2.2 = true := ⟨Nat.le_of_ble_eq_true (by kernel_rfl), by kernel_rfl, by kernel_rfl⟩
theorem flt_26 : (flt.getD 26 ([], 0, 0)).1.length ≤ 300 ∧ shK (flt.getD 26 ([], 0, 0)).1 (flt.getD 26 ([], 0, 0)).2.1 = true ∧ caK (flt.getD 26 ([], 0, 0)).1 (flt.getD 26 ([], 0, 0)).2.2 = true := ⟨Nat.le_of_ble_eq_true (by kernel_rfl), by kernel_rfl, by kernel_rfl⟩
theorem flt_27 : (flt.getD 27 ([], 0, 0)).1.length ≤ 300 ∧ shK (flt.getD 27 ([], 0, 0)).1 (flt.getD 27 ([], 0, 0)).2.1 = true ∧ caK (flt.getD 27 ([], 0, 0)).1 (flt.getD 27 ([], 0, 0)).2.2 = true := ⟨Nat.le_of_ble_eq_true (by kernel_rfl), by kernel_rfl, by kernel_rfl⟩
theorem flt_28 : (flt.getD 28 ([], 0, 0)).1.length ≤ 300 ∧ shK (flt.getD 28 ([], 0, 0)).1 (flt.getD 28 ([], 0, 0)).2.1 = true ∧ caK (flt.getD 28 ([], 0, 0)).1 (flt.getD 28 ([], 0, 0)).2.2 = true := ⟨Nat.le_of_ble_eq_true (by kernel_rfl), by kernel_rfl, by kernel_rfl⟩
theorem flt_29 : (flt.getD 29 ([], 0, 0)).1.length ≤ 300 ∧ shK (flt.getD 29 ([], 0, 0)).1 (flt.getD 29 ([], 0, 0)).2.1 = true ∧ caK (flt.getD 29 ([], 0, 0)).1 (flt.getD 29 ([], 0, 0)).2.2 = true := ⟨Nat.le_of_ble_eq_true (by kernel_rfl), by kernel_rfl, by kernel_rfl⟩
theorem flt_30 : (flt.getD 30 ([], 0, 0)).1.length ≤ 300 ∧ shK (flt.getD 30 ([], 0, 0)).1 (flt.getD 30 ([], 0, 0)).2.1 = true ∧ caK (flt.getD 30 ([], 0, 0)).1 (flt.getD 30 ([], 0, 0)).2.2 = true := ⟨Nat.le_of_ble_eq_true (by kernel_rfl), by kernel_rfl, by kernel_rfl⟩
theorem flt_31 : (flt.getD 31 ([], 0, 0)).1.length ≤ 300 ∧ shK (flt.getD 31 ([], 0, 0)).1 (flt.getD 31 ([], 0, 0)).2.1 = true ∧ caK (flt.getD 31 ([], 0, 0)).1 (flt.getD 31 ([], 0, 0)).2.2 = true := ⟨Nat.le_of_ble_eq_true (by kernel_rfl), by kernel_rfl, by kernel_rfl⟩
theorem flt_32 : (flt.getD 32 ([], 0, 0)).1.length ≤ 300 ∧ shK (flt.getD 32 ([], 0, 0)).1 (flt.getD 32 ([], 0, 0)).2.1 = true ∧ caK (flt.getD 32 ([], 0, 0)).1 (flt.getD 32 ([], 0, 0)).2.2 = true := ⟨Nat.le_of_ble_eq_true (by kernel_rfl), by kernel_rfl, by kernel_rfl⟩
theorem flt_33 : (flt.getD 33 ([], 0, 0)).1.length ≤ 300 ∧ shK (flt.getD 33 ([], 0, 0)).1 (flt.getD 33 ([], 0, 0)).2.1 = true ∧ caK (flt.getD 33 ([], 0, 0)).1 (flt.getD 33 ([], 0, 0)).2.2 = true := ⟨Nat.le_of_ble_eq_true (by kernel_rfl), by kernel_rfl, by kernel_rfl⟩
theorem flt_34 : (flt.getD 34 ([], 0, 0)).1.length ≤ 300 ∧ shK (flt.getD 34 ([], 0, 0)).1 (flt.getD 34 ([], 0, 0)).2.1 = true ∧ caK (flt.getD 34 ([], 0, 0)).1 (flt.getD 34 ([], 0, 0)).2.2 = true := ⟨Nat.le_of_ble_eq_true (by kernel_rfl), by kernel_rfl, by kernel_rfl⟩
theorem flt_35 : (flt.getD 35 ([], 0, 0)).1.length ≤ 300 ∧ shK (flt.getD 35 ([], 0, 0)).1 (flt.getD 35 ([], 0, 0)).2.1 = true ∧ caK (flt.getD 35 ([], 0, 0)).1 (flt.getD 35 ([], 0, 0)).2.2 = true := ⟨Nat.le_of_ble_eq_true (by kernel_rfl), by kernel_rfl, by kernel_rfl⟩
theorem flt_36 : (flt.getD 36 ([], 0, 0)).1.length ≤ 300 ∧ shK (flt.getD 36 ([], 0, 0)).1 (flt.getD 36 ([], 0, 0)).2.1 = true ∧ caK (flt.getD 36 ([], 0, 0)).1 (flt.getD 36 ([], 0, 0)).2.2 = true := ⟨Nat.le_of_ble_eq_true (by kernel_rfl), by kernel_rfl, by kernel_rfl⟩
theorem flt_37 : (flt.getD 37 ([], 0, 0)).1.length ≤ 300 ∧ shK (flt.getD 37 ([], 0, 0)).1 (flt.getD 37 ([], 0, 0)).2.1 = true ∧ caK (flt.getD 37 ([], 0, 0)).1 (flt.getD 37 ([], 0, 0)).2.2 = true := ⟨Nat.le_of_ble_eq_true (by kernel_rfl), by kernel_rfl, by kernel_rfl⟩
theorem flt_38 : (flt.getD 38 ([], 0, 0)).1.length ≤ 300 ∧ shK (flt.getD 38 ([], 0, 0)).1 (flt.getD 38 ([], 0, 0)).2.1 = true ∧ caK (flt.getD 38 ([], 0, 0)).1 (flt.getD 38 ([], 0, 0)).2.2 = true := ⟨Nat.le_of_ble_eq_true (by kernel_rfl), by kernel_rfl, by kernel_rfl⟩
theorem flt_39 : (flt.getD 39 ([], 0, 0)).1.length ≤ 300 ∧ shK (flt.getD 39 ([], 0, 0)).1 (flt.getD 39 ([], 0, 0)).2.1 = true ∧ caK (flt.getD 39 ([], 0, 0)).1 (flt.getD 39 ([], 0, 0)).2.2 = true := ⟨Nat.le_of_ble_eq_true (by kernel_rfl), by kernel_rfl, by kernel_rfl⟩
theorem flt_40 : (flt.getD 40 ([], 0, 0)).1.length ≤ 300 ∧ shK (flt.getD 40 ([], 0, 0)).1 (flt.getD 40 ([], 0, 0)).2.1 = true ∧ caK (flt.getD 40 ([], 0, 0)).1 (flt.getD 40 ([], 0, 0)).2.2 = true := ⟨Nat.le_of_ble_eq_true (by kernel_rfl), by kernel_rfl, by kernel_rfl⟩
theorem flt_41 : (flt.getD 41 ([], 0, 0)).1.length ≤ 300 ∧ shK (flt.getD 41 ([], 0, 0)).1 (flt.getD 41 ([], 0, 0)).2.1 = true ∧ caK (flt.getD 41 ([], 0, 0)).1 (flt.getD 41 ([], 0, 0)).2.2 = true := ⟨Nat.le_of_ble_eq_true (by kernel_rfl), by kernel_rfl, by kernel_rfl⟩
theorem flt_42 : (flt.getD 42 ([], 0, 0)).1.length ≤ 300 ∧ shK (flt.getD 42 ([], 0, 0)).1 (flt.getD 42 ([], 0, 0)).2.1 = true ∧ caK (flt.getD 42 ([], 0, 0)).1 (flt.getD 42 ([], 0, 0)).2.2 = true := ⟨Nat.le_of_ble_eq_true (by kernel_rfl), by kernel_rfl, by kernel_rfl⟩
theorem flt_43 : (flt.getD 43 ([], 0, 0)).1.length ≤ 300 ∧ shK (flt.getD 43 ([], 0, 0)).1 (flt.getD 43 ([], 0, 0)).2.1 = true ∧ caK (flt.getD 43 ([], 0, 0)).1 (flt.getD 43 ([], 0, 0)).2.2 = true := ⟨Nat.le_of_ble_eq_true (by kernel_rfl), by kernel_rfl, by kernel_rfl⟩
theorem flt_44 : (flt.getD 44 ([], 0, 0)).1.length ≤ 300 ∧ shK (flt.getD 44 ([], 0, 0)).1 (flt.getD 44 ([], 0, 0)).2.1 = true ∧ caK (flt.getD 44 ([], 0, 0)).1 (flt.getD 44 ([], 0, 0)).2.2 = true := ⟨Nat.le_of_ble_eq_true (by kernel_rfl), by kernel_rfl, by kernel_rfl⟩
theorem flt_45 : (flt.getD 45 ([], 0, 0)).1.length ≤ 300 ∧ shK (flt.getD 45 ([], 0, 0)).1 (flt.getD 45 ([], 0, 0)).2.1 = true ∧ caK (flt.getD 45 ([], 0, 0)).1 (flt.getD 45 ([], 0, 0)).2.2 = true := ⟨Nat.le_of_ble_eq_true (by kernel_rfl), by kernel_rfl, by kernel_rfl⟩
theorem flt_46 : (flt.getD 46 ([], 0, 0)).1.length ≤ 300 ∧ shK (flt.getD 46 ([], 0, 0)).1 (flt.getD 46 ([], 0, 0)).2.1 = true ∧ caK (flt.getD 46 ([], 0, 0)).1 (flt.getD 46 ([], 0, 0)).2.2 = true := ⟨Nat.le_of_ble_eq_true (by kernel_rfl), by kernel_rfl, by kernel_rfl⟩
theorem flt_47 : (flt.getD 47 ([], 0, 0)).1.length ≤ 300 ∧ shK (flt.getD 47 ([], 0, 0)).1 (flt.getD 47 ([], 0, 0)).2.1 = true ∧ caK (flt.getD 47 ([], 0, 0)).1 (flt.getD 47 ([], 0, 0)).2.2 = true := ⟨Nat.le_of_ble_eq_true (by kernel_rfl), by kernel_rfl, by kernel_rfl⟩
theorem flt_48 : (flt.getD 48 ([], 0, 0)).1.length ≤ 300 ∧ shK (flt.getD 48 ([], 0, 0)).1 (flt.getD 48 ([], 0, 0)).2.1 = true ∧ caK (flt.getD 48 ([], 0, 0)).1 (flt.getD 48 ([], 0, 0)).2.2 = true := ⟨Nat.le_of_ble_eq_true (by kernel_rfl), by kernel_rfl, by kernel_rfl⟩
theorem flt_49 : (flt.getD 49 ([], 0, 0)).1.length ≤ 300 ∧ shK (flt.getD 49 ([], 0, 0)).1 (flt.getD 49 ([], 0, 0)).2.1 = true ∧ caK (flt.getD 49 ([], 0, 0)).1 (flt.getD 49 ([], 0, 0)).2.2 = true := ⟨Nat.le_of_ble_eq_true (by kernel_rfl), by kernel_rfl, by kernel_rfl⟩
theorem flt_50 : (flt.getD 50 ([], 0, 0)).1.length ≤ 300 ∧ shK (flt.getD 50 ([], 0, 0)).1 (flt.getD 50 ([], 0, 0)).2.1 = true ∧ caK (flt.getD 50 ([], 0, 0)).1 (flt.getD 50 ([], 0, 0)).2.2 = true := ⟨Nat.le_of_ble_eq_true (by kernel_rfl), by kernel_rfl, by kernel_rfl⟩
theorem flt_51 : (flt.getD 51 ([], 0, 0)).1.length ≤ 300 ∧ shK (flt.getD 51 ([], 0, 0)).1 (flt.getD 51 ([], 0, 0)).2.1 = true ∧ caK (flt.getD 51 ([], 0, 0)).1 (flt.getD 51 ([], 0, 0)).2.2 = true := ⟨Nat.le_of_ble_eq_true (by kernel_rfl), by kernel_rfl, by kernel_rfl⟩
theorem flt_52 : (flt.getD 52 ([], 0, 0)).1.length ≤ 300 ∧ shK (flt.getD 52 ([], 0, 0)).1 (flt.getD 52 ([], 0, 0)).2.1 = true ∧ caK (flt.getD 52 ([], 0, 0)).1 (flt.getD 52 ([], 0, 0)).2.2 = true := ⟨Nat.le_of_ble_eq_true (by kernel_rfl), by kernel_rfl, by kernel_rfl⟩
theorem flt_53 : (flt.getD 53 ([], 0, 0)).1.length ≤ 300 ∧ shK (flt.getD 53 ([], 0, 0)).1 (flt.getD 53 ([], 0, 0)).2.1 = true ∧ caK (flt.getD 53 ([], 0, 0)).1 (flt.getD 53 ([], 0, 0)).2.2 = true := ⟨Nat.le_of_ble_eq_true (by kernel_rfl), by kernel_rfl, by kernel_rfl⟩
theorem flt_54 : (flt.getD 54 ([], 0, 0)).1.length ≤ 300 ∧ shK (flt.getD 54 ([], 0, 0)).1 (flt.getD 54 ([], 0, 0)).2.1 = true ∧ caK (flt.getD 54 ([], 0, 0)).1 (flt.getD 54 ([], 0, 0)).2.2 = true := ⟨Nat.le_of_ble_eq_true (by kernel_rfl), by kernel_rfl, by kernel_rfl⟩
theorem flt_all (k : Nat) (h : k < 55) : (flt.getD k ([], 0, 0)).1.length ≤ 300 ∧ shK (flt.getD k ([], 0, 0)).1 (flt.getD k ([], 0, 0)).2.1 = true ∧ caK (flt.getD k ([], 0, 0)).1 (flt.getD k ([], 0, 0)).2.2 = true := by
  match k, h with
  | 0, _ => exact flt_0
  | 1, _ => exact flt_1
  | 2, _ => exact flt_2
  | 3, _ => exact flt_3
  | 4, _ => exact flt_4
  | 5, _ => exact flt_5
  | 6, _ => exact flt_6
  | 7, _ => exact flt_7
  | 8, _ => exact flt_8
  | 9, _ => exact flt_9
  | 10, _ => exact flt_10
  | 11, _ => exact flt_11
  | 12, _ => exact flt_12
  | 13, _ => exact flt_13
  | 14, _ => exact flt_14
  | 15, _ => exact flt_15
  | 16, _ => exact flt_16
  | 17, _ => exact flt_17
  | 18, _ => exact flt_18
  | 19, _ => exact flt_19
  | 20, _ => exact flt_20
  | 21, _ => exact flt_21
  | 22, _ => exact flt_22
  | 23, _ => exact flt_23
  | 24, _ => exact flt_24
  | 25, _ => exact flt_25
  | 26, _ => exact flt_26
  | 27, _ => exact flt_27
  | 28, _ => exact flt_28
  | 29, _ => exact flt_29
  | 30, _ => exact flt_30
  | 31, _ => exact flt_31
  | 32, _ => exact flt_32
  | 33, _ => exact flt_33
  | 34, _ => exact flt_34
  | 35, _ => exact flt_35
  | 36, _ => exact flt_36
  | 37, _ => exact flt_37
  | 38, _ => exact flt_38
  | 39, _ => exact flt_39
  | 40, _ => exact flt_40
  | 41, _ => exact flt_41
  | 42, _ => exact flt_42
  | 43, _ => exact flt_43
  | 44, _ => exact flt_44
  | 45, _ => exact flt_45
  | 46, _ => exact flt_46
  | 47, _ => exact flt_47
  | 48, _ => exact flt_48
  | 49, _ => exact flt_49
  | 50, _ => exact flt_50
  | 51, _ => exact flt_51
  | 52, _ => exact flt_52
  | 53, _ => exact flt_53
  | 54, _ => exact flt_54
  | n + 55, h => exact absurd h (by omega)
end Go.Proofs.YtcdijppegfcoaabGreatDoor

/-
  OUR OWN TEXT. What Show and Canon answer of given texts, worked out.
-/
namespace Go.Proofs.YtcdijppegfcoaabGreatDoor
open Go.RowKit

/-- How a text and a fault fit a place: -1: all is well; -2: too deep; else wrong there. -/
def Wr (p : Int) (t : List UInt8) (f : Value) : Prop :=
  (p = -1 ∧ t ≠ [] ∧ f = fv 0 0) ∨ (p = -2 ∧ t = [] ∧ f = fv 3 0) ∨ (0 ≤ p ∧ t = [] ∧ f = fv 2 p)

theorem show_k (s : List UInt8) (p : Int) (hs : s.length ≤ 300) (h : shK s p = true) (w : World) (ad : Nat → Addr) (cs : Nat → Array Value) (ts : Nat → TypeId) (S : SW w ad cs ts) :
    Calls Tryz.prog 15 #[.string (B s)] w fun e w' => Gn w w' ∧ ∃ t f, e = .returned (.tuple #[.string (B t), f]) ∧ Wr p t f := by
  have hz : (B s).size = s.length := size_B s
  obtain ⟨x, s1, hx, hni⟩ := exp_have (B s) (by omega)
  unfold shK at h
  rw [← hz, hx] at h
  refine (pshow_p (B s) (by omega) w _ x s1 hx hni ad cs ts S).mono ?_
  rintro e w' ⟨g, ho⟩
  refine ⟨g, ?_⟩
  simp only at h
  by_cases h1 : p = -1
  · rw [if_pos h1] at h
    simp only [Bool.and_eq_true, decide_eq_true_eq, Bool.not_eq_true'] at h
    obtain ⟨⟨⟨a1, a2⟩, a3⟩, a4⟩ := h
    rcases ho with ⟨hb, _⟩ | ⟨_, hall⟩
    · omega
    · rcases hall 60 (shapeB_ok 60 x a2) with ⟨hd, _⟩ | ⟨_, rfl⟩
      · omega
      · exact ⟨_, _, rfl, Or.inl ⟨h1, (fun e => by rw [e] at a4; cases a4), rfl⟩⟩
  · rw [if_neg h1] at h
    by_cases h2 : p = -2
    · rw [if_pos h2] at h
      simp only [Bool.and_eq_true, decide_eq_true_eq] at h
      obtain ⟨⟨a1, a2⟩, a3⟩ := h
      rcases ho with ⟨hb, _⟩ | ⟨_, hall⟩
      · omega
      · rcases hall 60 (shapeB_ok 60 x a2) with ⟨_, rfl⟩ | ⟨hd, _⟩
        · exact ⟨[], _, rfl, Or.inr (Or.inl ⟨h2, rfl, rfl⟩)⟩
        · omega
    · rw [if_neg h2] at h
      simp only [Bool.and_eq_true, decide_eq_true_eq] at h
      obtain ⟨a1, a2⟩ := h
      subst a1
      rcases ho with ⟨hb, rfl⟩ | ⟨hb, _⟩
      · exact ⟨[], _, rfl, Or.inr (Or.inr ⟨a2, rfl, rfl⟩)⟩
      · omega

theorem rdf_k {s : List UInt8} {p : Int} (hs : s.length ≤ 300) (h : caK s p = true) (hp : 0 ≤ p) : RdF (B s) 2 p := by
  have hz : (B s).size = s.length := size_B s
  obtain ⟨x, ns, s1, hx, hk⟩ := ty_have2 (B s)
  unfold caK at h
  rw [← hz, hx] at h
  simp only at h
  rw [if_neg (by omega)] at h
  simp only [Bool.and_eq_true, decide_eq_true_eq] at h
  exact Or.inr ⟨by omega, x, ns, s1, hx, hk, Or.inl ⟨by omega, rfl, h.1.symm⟩⟩
theorem rdt_k {s : List UInt8} (hs : s.length ≤ 300) (h : caK s (-1) = true) : ∃ x ns, RdT (B s) x ns ∧ TyOk ns.length 60 x ∧ tyText 60 (lettersS ns.length) x ≠ [] := by
  have hz : (B s).size = s.length := size_B s
  obtain ⟨x, ns, s1, hx, hk⟩ := ty_have2 (B s)
  unfold caK at h
  rw [← hz, hx] at h
  simp only at h
  rw [if_pos trivial] at h
  simp only [Bool.and_eq_true, decide_eq_true_eq, Bool.not_eq_true'] at h
  obtain ⟨⟨⟨a1, a2⟩, a3⟩, a4⟩ := h
  have ok := tyOkB_ok _ 60 x a2
  exact ⟨x, ns, ⟨by omega, s1, hx, hk, a1, fun N m ok' => by rw [(ty_same ok' ok).1]; exact a3⟩, ok, (fun e => by rw [e] at a4; cases a4)⟩

theorem canon_k (s : List UInt8) (p : Int) (hs : s.length ≤ 300) (h : caK s p = true) (w : World) (ad : Nat → Addr) (cs : Nat → Array Value) (ts : Nat → TypeId) (S : SW w ad cs ts) :
    Calls Tryz.prog 8 #[.string (B s)] w fun e w' => Gn w w' ∧ ∃ t f, e = .returned (.tuple #[.string (B t), f]) ∧ Wr p t f := by
  by_cases h1 : p = -1
  · subst h1
    obtain ⟨x, ns, hr, ok, hne⟩ := rdt_k hs h
    refine (pc_t (B s) x ns 60 w ad cs ts S hr ok).mono ?_
    rintro e w' ⟨rfl, g⟩
    exact ⟨g, _, _, rfl, Or.inl ⟨rfl, hne, rfl⟩⟩
  · have hp : 0 ≤ p := by
      unfold caK at h
      split at h
      · cases h
      · rw [if_neg h1] at h
        simp only [Bool.and_eq_true, decide_eq_true_eq] at h
        exact h.2
    refine (pc_f (B s) 2 p w ad cs ts S (rdf_k hs h hp)).mono ?_
    rintro e w' ⟨rfl, g⟩
    exact ⟨g, [], _, rfl, Or.inr (Or.inr ⟨hp, rfl, rfl⟩)⟩
end Go.Proofs.YtcdijppegfcoaabGreatDoor

/-
  OUR OWN TEXT. typerkeep's pick, wrong and faults.
-/
namespace Go.Proofs.YtcdijppegfcoaabGreatDoor
open Go.RowKit

set_option maxRecDepth 100000 in
set_option maxHeartbeats 4000000 in
theorem pick_p (c : Int) (h1 : -9223372036854775808 ≤ c) (h2 : c ≤ 9223372036854775807) (w : World) : Calls Tryz.prog 11 #[.int .i64 c, .int .i64 63] w fun e w' => (∃ n : Nat, n < 63 ∧ e = .returned (.int .i64 n)) ∧ w' = w := by
  by_cases hc : c < 0
  · obtain ⟨m, hm⟩ : ∃ m : Nat, -(c + 1) = (m : Int) := ⟨(-(c + 1)).toNat, by omega⟩
    have e1 : (m : Int) % 63 = ((m % 63 : Nat) : Int) := by omega
    go_enter Tryz.func11, Tryz.ntmps11
    go_wp2
    rw [e1]
    go_ret
    exact ⟨⟨m % 63, Nat.mod_lt _ (by omega), rfl⟩, rfl⟩
  · obtain ⟨m, hm⟩ : ∃ m : Nat, c = (m : Int) := ⟨c.toNat, by omega⟩
    have e1 : (m : Int) % 63 = ((m % 63 : Nat) : Int) := by omega
    go_enter Tryz.func11, Tryz.ntmps11
    go_wp2
    rw [e1]
    go_ret
    exact ⟨⟨m % 63, Nat.mod_lt _ (by omega), rfl⟩, rfl⟩

set_option maxRecDepth 100000 in
set_option maxHeartbeats 4000000 in
theorem wrong_p (p : Int) (t : List UInt8) (f : Value) (h : Wr p t f) (w : World) : Calls Tryz.prog 19 #[f, .int .i64 p, .string (B t)] w fun e w' => e = .returned (.bool true) ∧ w.grownBy w' none := by
  have tB : (B []).toList = [] := toList_B []
  rcases h with ⟨rfl, ht, rfl⟩ | ⟨rfl, rfl, rfl⟩ | ⟨hp, rfl, rfl⟩
  · have hn : (B t).toList.isEmpty = false := by rw [toList_B]; cases t <;> simp_all
    unfold fv
    go_enter Tryz.func19, Tryz.ntmps19
    go_wp2
    go_ret
    exact ⟨rfl, World.grownBy_alloc _ _ _⟩
  · unfold fv
    go_enter Tryz.func19, Tryz.ntmps19
    go_wp2
    go_ret
    exact ⟨rfl, World.grownBy_alloc _ _ _⟩
  · unfold fv
    have h1 : (p == -1) = false := by simp; omega
    have h2 : (p == -2) = false := by simp; omega
    go_enter Tryz.func19, Tryz.ntmps19
    go_wp2
    go_ret
    exact ⟨rfl, World.grownBy_alloc _ _ _⟩

theorem long_step (j : Nat) : B (longS j) ++ B [32] = B (longS (j + 1)) := by
  rw [append_B]
  unfold longS
  rw [List.replicate_succ']
  rfl
theorem deep_step (j : Nat) : B [102, 40] ++ B (deepS j) ++ B [41] = B (deepS (j + 1)) := by
  rw [append_B, append_B]
  rfl
end Go.Proofs.YtcdijppegfcoaabGreatDoor
