import Derived.Test.YtcdijppegfcoaaaGreatDoorZT43
import Derived.Test.YtcdijppegfcoaaaGreatDoorZT22
import Derived.Outline
import Derived.Test.YtcdijppegfcoaaaGreatDoorZT41
import Derived.Test.YtcdijppegfcoaaaGreatDoorZT40
import Derived.Test.YtcdijppegfcoaaaGreatDoorZT19
import Derived.Test.YtcdijppegfcoaaaGreatDoorZT38
import Derived.Test.YtcdijppegfcoaaaGreatDoorZT04
import Derived.Test.YtcdijppegfcoaaaGreatDoorZT02
/-
  OUR OWN TEXT. typerref.Parsed in the words of RdF, RdT.
-/
namespace Go.Proofs.YtcdijppegfcoaaaGreatDoor
open Go.RowKit
/-- Where the keywords of types lie. -/
structure KW (w : World) (kb ko kc : Nat) : Prop where
  g : w.cell? ⟨1, 0, none⟩ = some (.slice (some ⟨kb, ko, none⟩) tyKw.length kc)
  gl : 1 < w.heap.size
  k : KwO w kb ko tyKw
  kl : kb < w.heap.size
theorem KW.gn {w w' : World} {kb ko kc : Nat} (h : KW w kb ko kc) (hg : Gn w w') : KW w' kb ko kc :=
  ⟨Gn.cell h.g h.gl hg, Nat.lt_of_lt_of_le h.gl hg.size, h.k.gn h.kl hg, Nat.lt_of_lt_of_le h.kl hg.size⟩
end Go.Proofs.YtcdijppegfcoaaaGreatDoor

/-
  OUR OWN TEXT. plain.Canon and plain.Instance by what reading the texts tells.
-/
namespace Go.Proofs.YtcdijppegfcoaaaGreatDoor
open Go.RowKit
theorem SW.gn {w w' : World} {ad : Nat → Addr} {cs : Nat → Array Value} {ts : Nat → TypeId} (h : SW w ad cs ts) (hg : Gn w w') : SW w' ad cs ts := by
  have c : ∀ {b : Nat} {v : Value}, b < 10 + 1 → w.cell? ⟨b, 0, none⟩ = some v → w'.cell? ⟨b, 0, none⟩ = some v := fun {b v} hl e => by
    rw [World.cell?_of_block (a := ⟨b, 0, none⟩) (hg.block b (Nat.lt_of_lt_of_le hl h.hsz))]
    exact e
  exact ⟨c (by decide) h.g0, c (by decide) h.g1, c (by decide) h.g2, c (by decide) h.g3, c (by decide) h.g4, c (by decide) h.g5, c (by decide) h.g6, c (by decide) h.g7, c (by decide) h.hE,
    fun k hk => by rw [hg.block _ (lt_of_block (h.hb k hk))]; exact h.hb k hk, h.hne, Nat.le_trans h.hsz hg.size⟩
end Go.Proofs.YtcdijppegfcoaaaGreatDoor

/-
  OUR OWN TEXT. plain.fault of an *EnvError.
-/
namespace Go.Proofs.YtcdijppegfcoaaaGreatDoor
open Go.RowKit Go.Extern.Stop Go.Stop Go.Extern
theorem ErrV.gn {w w' : World} {ad : Nat → Addr} {v : Value} {a b : Int} (h : ErrV w ad v a b) (hg : Gn w w') : ErrV w' ad v a b := by
  rcases h with h | ⟨c, h1, h2, h3⟩
  · exact Or.inl h
  · exact Or.inr ⟨c, h1, by rw [hg.block c (lt_of_block h2)]; exact h2, h3⟩

theorem Gn.drew {w w' : World} (h : Gn w w') : Gn w w'.drew := ⟨h.os, h.output, h.size, h.block⟩
end Go.Proofs.YtcdijppegfcoaaaGreatDoor

/-
  OUR OWN TEXT. The texts that Refuses asks of, on plain data: what Show and Canon must answer, worked out.
-/
namespace Go.Proofs.YtcdijppegfcoaaaGreatDoor
open Go.RowKit
def shapeB : Nat → Ex → Bool
  | 0, _ => false
  | m + 1, x => (((decide (x.op = kName) || decide (x.op = kNum)) && decide (x.names.length = 1)) || (decide (x.op = kFun) && decide (x.names.length = 1) && decide (x.kids.length = 1)) || (decide (x.op = oPair) && decide (x.kids.length = 2)) || (decide (x.op = kIf) && decide (x.kids.length = 3)) || (decide (x.op = oApp) && decide (x.kids.length = 2)) ||
      ((decide (x.op = kLet) || decide (x.op = kRec)) && decide (0 < x.names.length) && decide (x.kids.length = x.names.length + 1))) && x.kids.all (shapeB m)
theorem shapeB_ok : ∀ (m : Nat) (x : Ex), shapeB m x = true → Shape m x
  | 0, _, h => by cases h
  | m + 1, x, h => by
    simp only [shapeB, Bool.and_eq_true, Bool.or_eq_true, decide_eq_true_eq, List.all_eq_true] at h
    obtain ⟨h1, h2⟩ := h
    refine ⟨?_, fun y hy => shapeB_ok m y (h2 y hy)⟩
    rcases h1 with ((((h | h) | h) | h) | h) | h
    · exact Or.inl h
    · exact Or.inr (Or.inl ⟨h.1.1, h.1.2, h.2⟩)
    · exact Or.inr (Or.inr (Or.inl h))
    · exact Or.inr (Or.inr (Or.inr (Or.inl h)))
    · exact Or.inr (Or.inr (Or.inr (Or.inr (Or.inl h))))
    · exact Or.inr (Or.inr (Or.inr (Or.inr (Or.inr ⟨h.1.1, h.1.2, h.2⟩))))
def tyOkB (N : Nat) : Nat → Ty → Bool
  | 0, _ => false
  | m + 1, t => match t.kids with
    | [] => (decide (t.kind = []) && decide (t.var < N)) || ((decide (t.kind = kInt) || decide (t.kind = kBool)) && decide (t.var = 0))
    | [a] => decide (t.kind = oList) && decide (t.var = 0) && tyOkB N m a
    | [a, b] => (decide (t.kind = oPair) || decide (t.kind = kFun)) && decide (t.var = 0) && tyOkB N m a && tyOkB N m b
    | _ => false
theorem tyOkB_ok (N : Nat) : ∀ (m : Nat) (t : Ty), tyOkB N m t = true → TyOk N m t
  | 0, _, h => by cases h
  | m + 1, t, h => by
    unfold tyOkB at h
    split at h
    · rename_i hk
      simp only [Bool.and_eq_true, Bool.or_eq_true, decide_eq_true_eq] at h
      rcases h with h | h
      · exact Or.inl ⟨h.1, h.2, hk⟩
      · exact Or.inr (Or.inl ⟨h.1, h.2, hk⟩)
    · rename_i a hk
      simp only [Bool.and_eq_true, decide_eq_true_eq] at h
      exact Or.inr (Or.inr (Or.inl ⟨h.1.1, h.1.2, a, hk, tyOkB_ok N m a h.2⟩))
    · rename_i a b hk
      simp only [Bool.and_eq_true, Bool.or_eq_true, decide_eq_true_eq] at h
      exact Or.inr (Or.inr (Or.inr ⟨h.1.1.1, h.1.1.2, a, b, hk, tyOkB_ok N m a h.1.2, tyOkB_ok N m b h.2⟩))
    · cases h

end Go.Proofs.YtcdijppegfcoaaaGreatDoor
