/-
  OUR OWN TEXT. The program's reader: what let rec wants.
-/
import Derived.Test.YtfangljlgfcdpaaGreatDoorPNof
import Derived.Test.YtfangljlgfcdpaaGreatDoorXMut
import Derived.Test.YtfangljlgfcdpaaGreatDoorRefB
namespace Go.Proofs.YtfangljlgfcdpaaGreatDoor
open Go.RowKit

theorem binds_bad {E : St → Option (Ex × St)} {T : List Tok} {f : Nat} {x : Ex} {st : St} {y : Ex} {s2 : St} (hb : 0 ≤ st.bad) (h : bindsS E T f x st = some (y, s2)) : s2 = st := by
  cases f with
  | zero => simp [bindsS] at h
  | succ f =>
    rw [bindsS, if_neg (by rw [isS_bad hb]; simp)] at h
    cases h
    rfl
theorem bindCells_len : ∀ (ns : List (List UInt8)) (us : List Value), us.length = ns.length → (bindCells ns us).length = ns.length * 2
  | [], _, _ => rfl
  | _ :: _, [], h => by simp at h
  | n :: ns, u :: us, h => by
    have := bindCells_len ns us (by simpa using h)
    simp [bindCells, this]; omega
theorem bindCells_snoc : ∀ (ns : List (List UInt8)) (us : List Value) (n : List UInt8) (u : Value), us.length = ns.length → bindCells (ns ++ [n]) (us ++ [u]) = bindCells ns us ++ [.string (B n), u]
  | [], [], _, _, _ => rfl
  | [], _ :: _, _, _, h => by simp at h
  | _ :: _, [], _, _, h => by simp at h
  | a :: ns, b :: us, n, u, h => by
    have := bindCells_snoc ns us n u (by simpa using h)
    simp [bindCells, this]
theorem bindCells_get : ∀ (ns : List (List UInt8)) (us : List Value) (i : Nat) (nm : List UInt8) (u : Value), us.length = ns.length → ns[i]? = some nm → us[i]? = some u → (bindCells ns us)[i * 2]? = some (.string (B nm)) ∧ (bindCells ns us)[i * 2 + 1]? = some u
  | [], _, _, _, _, _, h, _ => by simp at h
  | _ :: _, [], _, _, _, h, _, _ => by simp at h
  | a :: ns, b :: us, 0, nm, u, _, h1, h2 => by
    simp at h1 h2
    subst h1 h2
    exact ⟨rfl, rfl⟩
  | a :: ns, b :: us, i + 1, nm, u, h, h1, h2 => by
    have := bindCells_get ns us i nm u (by simpa using h) (by simpa using h1) (by simpa using h2)
    rw [show (i + 1) * 2 = i * 2 + 2 from by omega, show i * 2 + 2 + 1 = i * 2 + 1 + 2 from by omega]
    simpa [bindCells] using this
/-- The values of a group are expressions. -/
def AllX (us : List Value) : Prop := ∀ u, u ∈ us → ∃ t b, u = (.iface t (.pointer (some ⟨b, 0, none⟩)))
theorem own_gat {w : World} {base : Nat} {gv : Value} {ns : List (List UInt8)} {us : List Value} (h : w.ownsRow base 185 2 gv ns.length (bindCells ns us)) (hl : us.length = ns.length) (h0 : 0 < ns.length) (hx : AllX us) :
    ∃ g cap, gv = .slice (some ⟨g, 0, none⟩) ns.length cap ∧ base ≤ g ∧ g < w.heap.size ∧ GAt w g ns us := by
  obtain ⟨_, h2⟩ := h
  rcases h2 with ⟨_, h3⟩ | ⟨g, cap, cur, h1, h2, h3, h4, h5, h6, h7⟩
  · omega
  · refine ⟨g, cap, h1, h2, lt_of_block h3, hl, lt_of_block h3, fun i nm u e1 e2 => ?_⟩
    have hi : i < ns.length := by
      rcases Nat.lt_or_ge i ns.length with h | h
      · exact h
      · rw [List.getElem?_eq_none h] at e1; cases e1
    obtain ⟨q1, q2⟩ := bindCells_get ns us i nm u hl e1 e2
    rw [← h7, List.getElem?_take, if_pos (by omega)] at q1 q2
    obtain ⟨t, b, rfl⟩ := hx u (List.mem_of_getElem? e2)
    refine ⟨?_, ?_, rfl⟩
    · simp only [World.cell?, h3]
      simpa using q1
    · simp only [World.cell?, h3]
      simpa using q2
/-- A name is told from all other tokens. -/
def NmOK (nm : List UInt8) : Prop := (∃ c r, nm = c :: r ∧ low c = true) ∧ nm ∉ exKw
theorem name_ok {l : List UInt8} {T : List Tok} {k J : Nat} (h : At exKw l T k J) (hk : (tk T k).is = kName) : NmOK (tk T k).s := by
  have ha := asked exKw exKw_ok l J h.1
  rw [h.tk] at hk ⊢
  have h1 := ha.name.2 hk
  have h2 := ha.real (by rw [hk]; decide) (by rw [hk]; decide)
  rw [← h2.1]
  exact ⟨ha.isWord h1.1, h1.2⟩
theorem ok_name {l : List UInt8} {T : List Tok} {k J : Nat} (h : At exKw l T k J) (hn : NmOK (nxT l J)) : (tk T k).is = kName := by
  have ha := asked exKw exKw_ok l J h.1
  rw [h.tk]
  obtain ⟨⟨c, r, h1, h2⟩, h3⟩ := hn
  by_cases hk : nxK l J = 2
  · exact ha.name.1 ⟨hk, h3⟩
  · have := ha.notWord hk _ rfl c r h1
    rw [h2] at this
    cases this
theorem info_bind : (Tryz.prog.info? 185).map (fun i => (i.zero, i.size, i.bytes)) = some (some (.agg #[.string (B []), .nilIface]), 2, 32) := by kernel_rfl
theorem info_exp : (Tryz.prog.info? 114).map (fun i => (i.zero, i.size, i.bytes)) = some (some .nilIface, 1, 16) := by kernel_rfl
theorem two_new (w : World) (a b : Value) (t : TypeId) : ∀ (j : Nat) (u : Value), [a, b][j]? = some u → (w.alloc (.cells #[a, b] t)).cell? (Addr.add ⟨w.heap.size, 0, none⟩ j) = some u := by
  intro j u h
  match j, h with
  | 0, h => simp at h; subst h; simp [go_sem]
  | 1, h => simp at h; subst h; simp [go_sem]
  | j + 2, h => simp at h
theorem bind_one (nm : List UInt8) (t b : Nat) : ∀ u, u ∈ [Value.string (B nm), (.iface t (.pointer (some ⟨b, 0, none⟩)))] → u.oneCell' = true := by
  intro u hu
  simp at hu
  rcases hu with rfl | rfl <;> rfl
theorem exp_one (t b : Nat) : ∀ u, u ∈ [((.iface t (.pointer (some ⟨b, 0, none⟩))) : Value)] → u.oneCell' = true := by
  intro u hu
  simp at hu
  subst hu
  rfl
theorem own_first (w : World) (base : Nat) (hb : base ≤ w.heap.size) (nm : List UInt8) (u : Value) : (w.alloc (.cells #[.string (B nm), u] 185)).ownsRow base 185 2 (.slice (some ⟨w.heap.size, 0, none⟩) 1 1) 1 (bindCells [nm] [u]) :=
  ⟨rfl, Or.inr ⟨w.heap.size, 1, #[.string (B nm), u], rfl, hb, heap_alloc_new _ _, by omega, by unfold maxLen; omega, rfl, rfl⟩⟩
theorem own_kept {w w' : World} {rb base e size n : Nat} {v : Value} {xs : List Value} (h : w.ownsRow base e size v n xs) (hk : Kept rb w w') (hr : rb < base) : w'.ownsRow base e size v n xs :=
  own_at h fun k hk' => hk.block k (own_lt h hk').2 (by have := (own_lt h hk').1; simp; omega)
theorem own_grown {w w' : World} {base e size n : Nat} {v : Value} {xs : List Value} (h : w.ownsRow base e size v n xs) (hk : w.grownBy w' none) : w'.ownsRow base e size v n xs :=
  own_at h fun k hk' => hk.block k (own_lt h hk').2 (by simp)
end Go.Proofs.YtfangljlgfcdpaaGreatDoor
