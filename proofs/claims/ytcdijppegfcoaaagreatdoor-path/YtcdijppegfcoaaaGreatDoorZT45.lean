import Derived.Test.YtcdijppegfcoaaaGreatDoorZT34
import Derived.Test.YtcdijppegfcoaaaGreatDoorZT06
import Derived.Test.YtcdijppegfcoaaaGreatDoorZT25
import Derived.Test.YtcdijppegfcoaaaGreatDoorZT04
import Derived.Test.YtcdijppegfcoaaaGreatDoorShelfJ
import Derived.Test.YtcdijppegfcoaaaGreatDoorZT14
/-
  OUR OWN TEXT. The program's expr.Read.
-/
namespace Go.Proofs.YtcdijppegfcoaaaGreatDoor
open Go.RowKit
/-- What Read leaves; bd: where ErrDeep lies. -/
def ROut (w w' : World) (s2 : St) (e : Ending) (ex : Ex) (bd : Addr) : Prop :=
  w.grownBy w' none ∧ ((0 ≤ s2.bad ∧ ∃ b, e = .returned (.tuple #[.nilIface, .iface 134 (.pointer (some ⟨b, 0, none⟩))]) ∧ w'.heap[b]? = some (.cells #[.int .i64 s2.bad] 145 (0, 0))) ∨
    (s2.bad < 0 ∧ ∃ v H' m, Fz H' w' ∧ PRep m H' v ex ∧ exDeep m ex ≤ 400 ∧ ((40 < exDeep m ex ∧ e = .returned (.tuple #[.nilIface, errV bd])) ∨ (exDeep m ex ≤ 40 ∧ e = .returned (.tuple #[v, .nilIface])))))

set_option maxRecDepth 100000 in
set_option maxHeartbeats 2000000 in
theorem read_p (s : ByteArray) (hs : s.size ≤ 300) (w : World) (n : Nat) (ex : Ex) (s1 : St) (hx : expS (toksOf exKw s) n ⟨0, -1⟩ = some (ex, s1)) (bd : Addr) (hg : w.cell? ⟨3, 0, none⟩ = some (errV bd)) (hgl : 3 < w.heap.size) :
    Calls Tryz.prog 67 #[.string s] w fun e w' => ROut w w' (needS (toksOf exKw s) s1 kEnd) e ex bd := by
  have HC := hid (whole_p s hs w n ex s1 hx)
  clear hx
  go_enter Tryz.func67, Tryz.ntmps67
  go_wp2_with fail
  refine HC.out.mono ?_
  rintro e w1 ⟨g1, (⟨hb, v, H', m, rfl, z1, r1, d1⟩ | ⟨hb, b, rfl, hbk⟩)⟩
  · obtain ⟨t1, b1, ht1, rfl, hb1, hc1⟩ := r1.dat z1
    have hg1 : w1.cell? ⟨3, 0, none⟩ = some (errV bd) := by
      rw [World.cell?_of_block (a := ⟨3, 0, none⟩) (g1.block _ hgl (by simp))]
      exact hg
    have hg2 := cell_past hg1 (.cells #[.int .i64 ((exDeep m ex : Nat) : Int)] 188)
    have hme := mDepth_any ht1 b1 (exDeep m ex) _ hc1
    have Q := hid (And.intro hb (And.intro z1 (And.intro r1 d1)))
    have G1 := hid g1
    clear hb z1 r1 g1 hg hg1 hb1 hc1 HC
    unfold errV at hg2
    by_cases hd : 40 < exDeep m ex
    · have hd2 : (40 : Int) < ((exDeep m ex : Nat) : Int) := by omega
      go_wp2_with (go_at_call 289; refine (depth_p _ _).mono ?_; rintro e w' ⟨rfl, rfl⟩)
      go_region
      go_wp2
      go_ret2
      obtain ⟨hb, z1, r1, d1⟩ := Q.out
      exact ⟨grown_drew (G1.out.trans (World.grownBy_alloc _ _ _)), Or.inr ⟨hb, _, H', m, (z1.alloc _).drew, r1, d1, Or.inl ⟨hd, rfl⟩⟩⟩
    · have hd2 : ¬ (40 : Int) < ((exDeep m ex : Nat) : Int) := by omega
      go_wp2_with (go_at_call 289; refine (depth_p _ _).mono ?_; rintro e w' ⟨rfl, rfl⟩)
      go_ret2
      obtain ⟨hb, z1, r1, d1⟩ := Q.out
      exact ⟨G1.out.trans (World.grownBy_alloc _ _ _), Or.inr ⟨hb, _, H', m, z1.alloc _, r1, d1, Or.inr ⟨by omega, rfl⟩⟩⟩
  · have Q := hid (And.intro g1 (And.intro hb hbk))
    clear g1 hb hbk HC
    go_wp2
    go_ret2
    exact ⟨Q.out.1, Or.inl ⟨Q.out.2.1, b, rfl, Q.out.2.2⟩⟩

end Go.Proofs.YtcdijppegfcoaaaGreatDoor

/-
  OUR OWN TEXT. The program's expr.Text, kind by kind.
-/
namespace Go.Proofs.YtcdijppegfcoaaaGreatDoor
open Go.RowKit
/-- The text of a part, asked for in whatever world has grown out of this one. -/
def TXP (f : FuncId) (w : World) (v : Value) (t : List UInt8) : Prop := ∀ wx, w.grownBy wx none → Calls Tryz.prog f #[v] wx fun e w' => e = .returned (.string (B t)) ∧ wx.grownBy w' none
theorem TXP.at {f : FuncId} {w : World} {v : Value} {t : List UInt8} (h : TXP f w v t) {wx : World} (hg : w.grownBy wx none) : TXP f wx v t := fun wy hy => h wy (hg.trans hy)

end Go.Proofs.YtcdijppegfcoaaaGreatDoor

/-
  OUR OWN TEXT. The program's expr.Text, whole.
-/
namespace Go.Proofs.YtcdijppegfcoaaaGreatDoor
open Go.RowKit
theorem PRep.val {m : Nat} {H : Nat → Option Obj} {u : Value} {y : Ex} (h : PRep m H u y) : ∃ t b, u = (.iface t (.pointer (some ⟨b, 0, none⟩))) := by
  cases m with
  | zero => exact absurd h id
  | succ m =>
    obtain ⟨b, vs, h1, _⟩ := h
    exact ⟨_, b, h1⟩
end Go.Proofs.YtcdijppegfcoaaaGreatDoor

/-
  OUR OWN TEXT. The program's infer.Show.
-/
namespace Go.Proofs.YtcdijppegfcoaaaGreatDoor
open Go.RowKit
theorem text_le {n m : Nat} {x : Ex} (h : Shape n x) (hm : n ≤ m) : exText m x = exText n x := by
  have hs : ∀ k, Shape (n + k) x ∧ exText (n + k) x = exText n x := by
    intro k
    induction k with
    | zero => exact ⟨h, rfl⟩
    | succ k ih =>
      have := more_fuel _ _ ih.1
      exact ⟨this.1, this.2.1.trans ih.2⟩
  have := (hs (m - n)).2
  rw [show n + (m - n) = m from by omega] at this
  exact this
theorem text_same {n m : Nat} {x : Ex} (h : Shape n x) (h' : Shape m x) : exText n x = exText m x ∧ exDeep n x = exDeep m x := by
  rcases Nat.le_total n m with hl | hl
  · exact ⟨(text_le h hl).symm, (deep_le h hl).symm⟩
  · exact ⟨text_le h' hl, deep_le h' hl⟩

end Go.Proofs.YtcdijppegfcoaaaGreatDoor
