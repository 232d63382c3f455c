/-
  OUR OWN TEXT. The program's expressions in memory, over blocks that no longer change.
-/
import Derived.Test.YtcdijppegfcoaabGreatDoorPNm
import Derived.Test.YtcdijppegfcoaabGreatDoorRefD
import Derived.Test.YtcdijppegfcoaabGreatDoorPure
namespace Go.Proofs.YtcdijppegfcoaabGreatDoor
open Go.RowKit

/-- The dynamic type of an expression of a kind. -/
def pT (op : List UInt8) : TypeId :=
  if op = kName then 157 else if op = kNum then 175 else if op = kFun then 178 else if op = kIf then 181
  else if op = kLet then 184 else if op = kRec then 190 else if op = oApp then 195 else 198
def IsTy (t : TypeId) : Prop := t = 157 ∨ t = 175 ∨ t = 178 ∨ t = 181 ∨ t = 184 ∨ t = 190 ∨ t = 195 ∨ t = 198
theorem pT_is (op : List UInt8) : IsTy (pT op) := by
  unfold pT IsTy
  repeat' split
  all_goals simp

def bindCells : List (List UInt8) → List Value → List Value
  | n :: ns, u :: us => .string (B n) :: u :: bindCells ns us
  | _, _ => []
/-- The group of a let rec in memory. -/
def RowB (H : Nat → Option Obj) (gv : Value) (ns : List (List UInt8)) (us : List Value) : Prop :=
  ∃ g cap cur, gv = .slice (some ⟨g, 0, none⟩) ns.length cap ∧ H g = some (.cells cur 187 (0, 0)) ∧ cur.toList.take (ns.length * 2) = bindCells ns us

/-- One expression's own block; vs: the values of its parts. -/
def PNode (H : Nat → Option Obj) (e : Ex) (vs : List Value) (dep : Nat) (b : Nat) : Prop :=
  (e.op = kName ∧ ∃ t, e.names = [t] ∧ e.kids.length = 0 ∧ vs = [] ∧ H b = some (.cells #[.int .i64 (dep : Int), .string (B t), .int .i64 (e.pos : Int)] 163 (0, 0))) ∨
  (e.op = kNum ∧ ∃ t, e.names = [t] ∧ e.kids.length = 0 ∧ vs = [] ∧ H b = some (.cells #[.int .i64 (dep : Int), .string (B t)] 177 (0, 0))) ∨
  (e.op = kFun ∧ ∃ t u, e.names = [t] ∧ e.kids.length = 1 ∧ vs = [u] ∧ H b = some (.cells #[.int .i64 (dep : Int), .string (B t), u] 180 (0, 0))) ∨
  (e.op = kIf ∧ ∃ u v x, e.kids.length = 3 ∧ vs = [u, v, x] ∧ H b = some (.cells #[.int .i64 (dep : Int), u, v, x] 183 (0, 0))) ∨
  (e.op = kLet ∧ ∃ t u v, e.names = [t] ∧ e.kids.length = 2 ∧ vs = [u, v] ∧ H b = some (.cells #[.int .i64 (dep : Int), .string (B t), u, v] 189 (0, 0))) ∨
  (e.op = kRec ∧ ∃ us u gv, 0 < e.names.length ∧ us.length = e.names.length ∧ e.kids.length = e.names.length + 1 ∧ vs = us ++ [u] ∧ RowB H gv e.names us ∧ H b = some (.cells #[.int .i64 (dep : Int), gv, u] 194 (0, 0))) ∨
  (e.op = oApp ∧ ∃ u v, e.kids.length = 2 ∧ vs = [u, v] ∧ H b = some (.cells #[.int .i64 (dep : Int), u, v] 197 (0, 0))) ∨
  (e.op = oPair ∧ ∃ u v, e.kids.length = 2 ∧ vs = [u, v] ∧ H b = some (.cells #[.int .i64 (dep : Int), u, v] 200 (0, 0)))

/-- An expression of the program's. -/
def PRep : Nat → (Nat → Option Obj) → Value → Ex → Prop
  | 0, _, _, _ => False
  | n + 1, H, v, e => ∃ b vs, v = .iface (pT e.op) (.pointer (some ⟨b, 0, none⟩)) ∧ PNode H e vs (exDeep (n + 1) e) b ∧ vs.length = e.kids.length ∧
      ∀ (i : Nat) (y : Ex) (u : Value), vs[i]? = some u → e.kids[i]? = some y → PRep n H u y

theorem RowB.ext {m : Nat} {H H' : Nat → Option Obj} {gv : Value} {ns : List (List UInt8)} {us : List Value} (h : RowB H gv ns us) (e : Ext m H H') : RowB H' gv ns us := by
  obtain ⟨g, cap, cur, h1, h2, h3⟩ := h
  exact ⟨g, cap, cur, h1, e.1 _ _ h2, h3⟩
theorem PNode.ext {m : Nat} {H H' : Nat → Option Obj} {x : Ex} {vs : List Value} {d b : Nat} (h : PNode H x vs d b) (e : Ext m H H') : PNode H' x vs d b := by
  rcases h with ⟨h0, t, h1, h2, h3, h4⟩ | ⟨h0, t, h1, h2, h3, h4⟩ | ⟨h0, t, u, h1, h2, h3, h4⟩ | ⟨h0, u, v, y, h1, h2, h4⟩ | ⟨h0, t, u, v, h1, h2, h3, h4⟩ | ⟨h0, us, u, gv, h1, h2, h3, h4, h5, h6⟩ | ⟨h0, u, v, h1, h2, h4⟩ | ⟨h0, u, v, h1, h2, h4⟩
  · exact Or.inl ⟨h0, t, h1, h2, h3, e.1 _ _ h4⟩
  · exact Or.inr (Or.inl ⟨h0, t, h1, h2, h3, e.1 _ _ h4⟩)
  · exact Or.inr (Or.inr (Or.inl ⟨h0, t, u, h1, h2, h3, e.1 _ _ h4⟩))
  · exact Or.inr (Or.inr (Or.inr (Or.inl ⟨h0, u, v, y, h1, h2, e.1 _ _ h4⟩)))
  · exact Or.inr (Or.inr (Or.inr (Or.inr (Or.inl ⟨h0, t, u, v, h1, h2, h3, e.1 _ _ h4⟩))))
  · exact Or.inr (Or.inr (Or.inr (Or.inr (Or.inr (Or.inl ⟨h0, us, u, gv, h1, h2, h3, h4, h5.ext e, e.1 _ _ h6⟩)))))
  · exact Or.inr (Or.inr (Or.inr (Or.inr (Or.inr (Or.inr (Or.inl ⟨h0, u, v, h1, h2, e.1 _ _ h4⟩))))))
  · exact Or.inr (Or.inr (Or.inr (Or.inr (Or.inr (Or.inr (Or.inr ⟨h0, u, v, h1, h2, e.1 _ _ h4⟩))))))
theorem PRep.ext {m : Nat} {H H' : Nat → Option Obj} (e : Ext m H H') : ∀ (n : Nat) (v : Value) (x : Ex), PRep n H v x → PRep n H' v x
  | 0, _, _, h => h
  | n + 1, v, x, h => by
    obtain ⟨b, vs, h1, h2, h3, h4⟩ := h
    exact ⟨b, vs, h1, h2.ext e, h3, fun i y u h5 h6 => PRep.ext e n u y (h4 i y u h5 h6)⟩
theorem PRep.shape {H : Nat → Option Obj} : ∀ (n : Nat) (v : Value) (x : Ex), PRep n H v x → Shape n x
  | 0, _, _, h => h
  | n + 1, v, x, h => by
    obtain ⟨b, vs, h1, h2, h3, h4⟩ := h
    refine ⟨?_, fun y hy => ?_⟩
    · rcases h2 with ⟨h0, t, h1, h2, h3, _⟩ | ⟨h0, t, h1, h2, h3, _⟩ | ⟨h0, t, u, h1, h2, h3, _⟩ | ⟨h0, u, v, y, h1, h2, _⟩ | ⟨h0, t, u, v, h1, h2, h3, _⟩ | ⟨h0, us, u, gv, h1, h2, h3, _⟩ | ⟨h0, u, v, h1, h2, _⟩ | ⟨h0, u, v, h1, h2, _⟩
      · exact Or.inl ⟨Or.inl h0, by rw [h1]; rfl⟩
      · exact Or.inl ⟨Or.inr h0, by rw [h1]; rfl⟩
      · exact Or.inr (Or.inl ⟨h0, by rw [h1]; rfl, h2⟩)
      · exact Or.inr (Or.inr (Or.inr (Or.inl ⟨h0, h1⟩)))
      · exact Or.inr (Or.inr (Or.inr (Or.inr (Or.inr ⟨Or.inl h0, by rw [h1]; simp, by rw [h1, h2]; rfl⟩))))
      · exact Or.inr (Or.inr (Or.inr (Or.inr (Or.inr ⟨Or.inr h0, h1, h3⟩))))
      · exact Or.inr (Or.inr (Or.inr (Or.inr (Or.inl ⟨h0, h1⟩))))
      · exact Or.inr (Or.inr (Or.inl ⟨h0, h1⟩))
    · obtain ⟨i, hi, rfl⟩ := List.mem_iff_getElem.1 hy
      exact PRep.shape n _ _ (h4 i _ (vs[i]'(by omega)) (List.getElem?_eq_getElem _) (List.getElem?_eq_getElem _))
theorem PRep.up {H : Nat → Option Obj} : ∀ (n : Nat) (v : Value) (x : Ex), PRep n H v x → PRep (n + 1) H v x
  | 0, _, _, h => absurd h id
  | n + 1, v, x, h => by
    have hs := (more_fuel _ _ (PRep.shape _ _ _ h)).2.2
    obtain ⟨b, vs, h1, h2, h3, h4⟩ := h
    exact ⟨b, vs, h1, by rw [hs]; exact h2, h3, fun i y u h5 h6 => PRep.up n u y (h4 i y u h5 h6)⟩
theorem PRep.le {H : Nat → Option Obj} {n m : Nat} {v : Value} {x : Ex} (h : PRep n H v x) (hm : n ≤ m) : PRep m H v x := by
  induction m with
  | zero => rw [Nat.le_zero.1 hm] at h; exact h
  | succ m ih =>
    rcases Nat.lt_or_ge n (m + 1) with hlt | hge
    · exact PRep.up m v x (ih (by omega))
    · rw [show m + 1 = n from by omega]; exact h
theorem deep_le {n m : Nat} {x : Ex} (h : Shape n x) (hm : n ≤ m) : exDeep m x = exDeep n x := by
  have hs : ∀ k, Shape (n + k) x ∧ exDeep (n + k) x = exDeep n x := by
    intro k
    induction k with
    | zero => exact ⟨h, rfl⟩
    | succ k ih =>
      have := more_fuel _ _ ih.1
      exact ⟨this.1, this.2.2.trans ih.2⟩
  have := (hs (m - n)).2
  rw [show n + (m - n) = m from by omega] at this
  exact this

/-- Its depth stands in its first cell. -/
def DAt (w : World) (v : Value) (d : Nat) : Prop := ∃ t b, IsTy t ∧ v = .iface t (.pointer (some ⟨b, 0, none⟩)) ∧ b < w.heap.size ∧ w.cell? ⟨b, 0, none⟩ = some (.int .i64 (d : Int))
theorem PNode.first {H : Nat → Option Obj} {x : Ex} {vs : List Value} {d b : Nat} (h : PNode H x vs d b) {w : World} (hz : Fz H w) : b < w.heap.size ∧ w.cell? ⟨b, 0, none⟩ = some (.int .i64 (d : Int)) := by
  rcases h with ⟨_, t, _, _, _, h4⟩ | ⟨_, t, _, _, _, h4⟩ | ⟨_, t, u, _, _, _, h4⟩ | ⟨_, u, v, y, _, _, h4⟩ | ⟨_, t, u, v, _, _, _, h4⟩ | ⟨_, us, u, gv, _, _, _, _, _, h4⟩ | ⟨_, u, v, _, _, h4⟩ | ⟨_, u, v, _, _, h4⟩ <;>
  · have hb := hz _ _ h4
    exact ⟨lt_of_block hb, by simp [World.cell?, hb]⟩
theorem PRep.dat {H : Nat → Option Obj} {n : Nat} {v : Value} {x : Ex} {w : World} (h : PRep n H v x) (hz : Fz H w) : DAt w v (exDeep n x) := by
  cases n with
  | zero => exact absurd h id
  | succ n =>
    obtain ⟨b, vs, h1, h2, _⟩ := h
    obtain ⟨h3, h4⟩ := h2.first hz
    exact ⟨_, b, pT_is _, h1, h3, h4⟩
theorem DAt.grown {w w' : World} {v : Value} {d : Nat} (h : DAt w v d) (hg : w.grownBy w' none) : DAt w' v d := by
  obtain ⟨t, b, h1, h2, h3, h4⟩ := h
  refine ⟨t, b, h1, h2, Nat.lt_of_lt_of_le h3 hg.size, ?_⟩
  rw [World.cell?_of_block (a := ⟨b, 0, none⟩) (hg.block b h3 (by simp))]
  exact h4
end Go.Proofs.YtcdijppegfcoaabGreatDoor
