/-
  OUR OWN TEXT. typerref.Read, at every text.
-/
import Derived.Test.YtcdijppegfcoaaaGreatDoorRefRd
namespace Go.Proofs.YtcdijppegfcoaaaGreatDoor
open Go.RowKit

theorem read_all (s : ByteArray) (kb ko kc : Nat) (kw : List (List UInt8)) (w : World) (hg : w.cell? ⟨0, 0, none⟩ = some (.slice (some ⟨kb, ko, none⟩) kw.length kc)) (hg0 : 0 < w.heap.size) (hk : KwO w kb ko kw) (hkb : kb < w.heap.size) (hkl : kw.length ≤ 100) (hs : s.size ≤ 300) :
    ∃ x s1, expS (toksOf kw s) (s.size + 2) ⟨0, -1⟩ = some (x, s1) ∧ s1.k < (toksOf kw s).length ∧
      Calls Tryz.prog 15 #[.string s] w fun e w' => ReadPost w w' e x (needS (toksOf kw s) s1 kEnd) := by
  obtain ⟨f1, f2, f3⟩ := toks_facts kw s (s.size + 1) 0 (Nat.zero_le _) (by omega)
  have hlen := toksOf_len kw s
  obtain ⟨x, s1, e, r⟩ := exp_tot (T := toksOf kw s) f1 f2 (by omega) (s.size + 2) ⟨0, -1⟩ ⟨f1.1, Or.inl (by show (toksOf kw s).length - 0 + 1 ≤ s.size + 2; omega)⟩
  refine ⟨x, s1, e, r.2.1, read_any s kb ko kc kw w hg hg0 hk hkb hkl hs x s1 (s.size + 2) e (fun hb => ?_)⟩
  have hb1 : s1.bad < 0 := by
    unfold needS at hb
    split at hb
    · exact hb
    · have hb' : (if s1.bad < 0 then ((tk (toksOf kw s) s1.k).pos : Int) else s1.bad) < 0 := hb
      split at hb' <;> omega
  obtain ⟨_, _, m, hm⟩ := r.2.2 hb1
  exact ⟨m, _, hm, by have := r.2.1; show s1.k - 0 ≤ 400; omega⟩

set_option maxRecDepth 100000 in
set_option maxHeartbeats 1000000 in
theorem read_long (s : ByteArray) (w : World) (hs : 300 < s.size) :
    Calls Tryz.prog 15 #[.string s] w fun e w' => Below w.heap.size w w' ∧ e = .returned (.tuple #[.pointer none, fv 1 0]) := by
  have hs' : (300 : Int) < (s.size : Int) := by omega
  go_enter Tryz.func15, Tryz.ntmps15
  go_wp2_with fail
  (try go_region)
  (try go_wp2)
  (try simp only [Exit.inBlock, Exit.then])
  refine bodyPost_ret (v := .tuple #[.pointer none, fv 1 0]) (by simp [results, Tryz.results15, go_sem]; rfl) rfl ?_
  refine ⟨?_, rfl⟩
  exact (Below.refl _ _).alloc (Nat.le_refl _) _
end Go.Proofs.YtcdijppegfcoaaaGreatDoor
