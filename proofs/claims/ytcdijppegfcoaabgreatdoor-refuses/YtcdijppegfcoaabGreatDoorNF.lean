import Derived.Test.YtcdijppegfcoaabGreatDoorNE
import Derived.Test.YtcdijppegfcoaabGreatDoorNA
/-
  OUR OWN TEXT. typerref.Parsed in the words of RdF, RdT.
-/
namespace Go.Proofs.YtcdijppegfcoaabGreatDoor
open Go.RowKit


end Go.Proofs.YtcdijppegfcoaabGreatDoor

/-
  OUR OWN TEXT. The law Instances where the second text is no type.
-/
namespace Go.Proofs.YtcdijppegfcoaabGreatDoor
open Go.RowKit

theorem set5_blk {w3 : World} {fb : Nat} {t : TypeId} {p q r s u : Value} (h : w3.heap[fb]? = some (.cells #[p, q, r, s, u] t (0, 0))) (v0 v1 v2 v3 v4 : Value) : (((((w3.setCell ⟨fb, 0, none⟩ v0).setCell ⟨fb, 1, none⟩ v1).setCell ⟨fb, 2, none⟩ v2).setCell ⟨fb, 3, none⟩ v3).setCell ⟨fb, 4, none⟩ v4).heap[fb]? = some (.cells #[v0, v1, v2, v3, v4] t (0, 0)) := by
  simp [World.setCell, Array.getElem?_modify, h]
theorem set5_size (w3 : World) (fb : Nat) (v0 v1 v2 v3 v4 : Value) : (((((w3.setCell ⟨fb, 0, none⟩ v0).setCell ⟨fb, 1, none⟩ v1).setCell ⟨fb, 2, none⟩ v2).setCell ⟨fb, 3, none⟩ v3).setCell ⟨fb, 4, none⟩ v4).heap.size = w3.heap.size := by
  simp [World.setCell]

end Go.Proofs.YtcdijppegfcoaabGreatDoor

/-
  OUR OWN TEXT. The law Instances of two types, the second no instance of the first.
-/
namespace Go.Proofs.YtcdijppegfcoaabGreatDoor
open Go.RowKit

theorem grow_new (w : World) (n : Nat) : GRow (w.alloc (.cells (Array.replicate n (.pointer none)) 99001)) (.slice (some ⟨w.heap.size, 0, none⟩) n n) (List.replicate n none) := by
  refine ⟨some ⟨w.heap.size, 0, none⟩, n, by simp, fun j o e => ⟨w.heap.size, rfl, by simp, ?_⟩⟩
  have hj : j < n := by
    rcases Nat.lt_or_ge j n with h | h
    · exact h
    · rw [List.getElem?_eq_none (by simpa using h)] at e; cases e
  have eo : o = none := List.eq_of_mem_replicate (List.mem_of_getElem? e)
  subst eo
  have hb := heap_alloc_new w (.cells (Array.replicate n (.pointer none)) 99001)
  simp only [World.cell?, hb]
  simp [hj, ptrO]
theorem gt_new (N M : Nat) (ns : List (List UInt8)) (H : Nat → Option Obj) (n : Nat) : GT N M ns H (List.replicate n none) (List.replicate n none) := by
  refine ⟨by simp, fun j => ⟨fun o h1 h2 => ?_, fun b h1 => ?_⟩⟩
  · have hj : j < n := by
      rcases Nat.lt_or_ge j n with h | h
      · exact h
      · rw [List.getElem?_eq_none (by simpa using h)] at h1; cases h1
    simp [hj]
  · have := List.eq_of_mem_replicate (List.mem_of_getElem? h1)
    cases this
end Go.Proofs.YtcdijppegfcoaabGreatDoor

/-
  OUR OWN TEXT. Two types that fit: every variable stands for something; the names, rising.
-/
namespace Go.Proofs.YtcdijppegfcoaabGreatDoor
open Go.RowKit

theorem hall_of {s1 : ByteArray} {x y : Ty} {na nb : List (List UInt8)} {K K' Nx Ny : Nat} {g : List (Option (List UInt8))} (h1 : RdT s1 x na) (kx : TyOk Nx K x) (ky : TyOk Ny K' y) (hm : matchS K' nb K x y (List.replicate na.length none) = some g) (v : Nat) (hv : v < na.length) : (g.getD v none).isSome = true := by
  obtain ⟨_, st, hx, _⟩ := h1
  obtain ⟨m, ho⟩ := arr_cover _ _ _ _ _ _ hx v (by simp) hv
  rw [match_fuel K K x y _ kx kx ky (ky.le (show K' ≤ max K K' by omega))] at hm
  exact match_fill m K x y _ g ho (TyOk.wide (show Nx ≤ max Nx Ny by omega) _ _ kx) (TyOk.wide (show Ny ≤ max Nx Ny by omega) _ _ (ky.le (show K' ≤ max K K' by omega))) (by omega) hm (by simpa using hv)
theorem sortS_perm (na : List (List UInt8)) : (sortS na).Perm na := List.mergeSort_perm _ _
theorem sortS_le (na : List (List UInt8)) : (sortS na).Pairwise (fun x y => x ≤ y) := by
  have h := List.pairwise_mergeSort (le := fun (x y : List UInt8) => decide (x ≤ y)) (fun a b c h1 h2 => by simp only [decide_eq_true_eq] at *; exact List.le_trans h1 h2) (fun a b => by simp only [Bool.or_eq_true, decide_eq_true_eq]; exact List.le_total a b) na
  exact h.imp fun h => by simpa using h
theorem sortS_lt {na : List (List UInt8)} (hd : na.Nodup) {i : Nat} (hi : i + 1 < (sortS na).length) : (sortS na).getD i [] < (sortS na).getD (i + 1) [] := by
  have h := List.pairwise_iff_getElem.1 (sortS_le na) i (i + 1) (by omega) hi (by omega)
  have hn := (sortS_perm na).nodup_iff.2 hd
  have h2 := (List.pairwise_iff_getElem.1 hn) i (i + 1) (by omega) hi (by omega)
  have e1 : (sortS na).getD i [] = (sortS na)[i]'(by omega) := by simp [List.getD, show i < (sortS na).length by omega]
  have e2 : (sortS na).getD (i + 1) [] = (sortS na)[i + 1] := by simp [List.getD, hi]
  rw [e1, e2]
  refine Classical.byContradiction fun h3 => h2 (List.le_antisymm h ?_)
  exact List.not_lt.1 h3
/-- At the name of the k-th variable stands what the k-th variable stands for. -/
theorem txtS_at {na : List (List UInt8)} {g : List (Option (List UInt8))} (hd : na.Nodup) {k : Nat} (hk : k < na.length) : txtS na g (na.getD k []) = (g.getD k none).getD [] := by
  unfold txtS
  have e : na.getD k [] = na[k] := by simp [List.getD, hk]
  rw [e, hd.idxOf_getElem k hk]
end Go.Proofs.YtcdijppegfcoaabGreatDoor

/-
  OUR OWN TEXT. typerref.Shown by any names; typerlaw.in.
-/
namespace Go.Proofs.YtcdijppegfcoaabGreatDoor
open Go.RowKit


end Go.Proofs.YtcdijppegfcoaabGreatDoor

/-
  OUR OWN TEXT. How long the texts are that variables stand for; rows of names in later worlds.
-/
namespace Go.Proofs.YtcdijppegfcoaabGreatDoor
open Go.RowKit

theorem text_kid {N M : Nat} {ns : List (List UInt8)} {y b : Ty} (h : TyOk N (M + 1) y) (hb : b ∈ y.kids) : TyOk N (M + 1) b ∧ (tyText (M + 1) ns b).length ≤ (tyText (M + 1) ns y).length := by
  have hk := ok_kid h hb
  refine ⟨TyOk.up _ _ hk, ?_⟩
  rw [TyOk.text ns M (M + 1) b hk (by omega)]
  rcases h with ⟨h1, h2, h3⟩ | ⟨h1, h2, h3⟩ | ⟨h1, h2, a, h3, h4⟩ | ⟨h1, h2, a, d, h3, h4, h5⟩
  · rw [h3] at hb; cases hb
  · rw [h3] at hb; cases hb
  · have hkn : y.kind ≠ [] := by rw [h1]; decide
    rw [h3] at hb
    rw [List.mem_singleton.1 hb, tyText, if_neg hkn, h3]
    simp
    omega
  · have hkn : y.kind ≠ [] := by rcases h1 with h1 | h1 <;> rw [h1] <;> decide
    rw [h3] at hb
    rw [tyText, if_neg hkn, h3]
    simp only
    rcases List.mem_cons.1 hb with rfl | hb
    · split
      · split <;> simp <;> omega
      · simp; omega
    · rw [List.mem_singleton.1 hb]
      split
      · split <;> simp <;> omega
      · simp; omega
def ShB (Bd : Nat) (g : List (Option (List UInt8))) : Prop := ∀ t, some t ∈ g → t.length ≤ Bd
theorem mKids_bound {Bd : Nat} {f : Ty → Ty → List (Option (List UInt8)) → Option (List (Option (List UInt8)))} {P : Ty → Prop} (hf : ∀ a b g g', P b → f a b g = some g' → ShB Bd g → ShB Bd g') : ∀ (xs ys : List Ty) (g g' : List (Option (List UInt8))), (∀ b, b ∈ ys → P b) → mKids f xs ys g = some g' → ShB Bd g → ShB Bd g'
  | [], _, g, g', _, h, hs => by cases h; exact hs
  | _ :: _, [], g, g', _, h, hs => by cases h; exact hs
  | a :: xs, b :: ys, g, g', hp, h, hs => by
    rw [mKids] at h
    cases e : f a b g with
    | none => rw [e] at h; cases h
    | some g1 =>
      rw [e] at h
      exact mKids_bound hf xs ys g1 g' (fun b hb => hp b (List.mem_cons_of_mem _ hb)) h (hf a b g g1 (hp b (by simp)) e hs)
theorem match_bound {N M Bd : Nat} {ns : List (List UInt8)} : ∀ (n : Nat) (x y : Ty) (g g' : List (Option (List UInt8))), TyOk N (M + 1) y ∧ (tyText (M + 1) ns y).length ≤ Bd → matchS (M + 1) ns n x y g = some g' → ShB Bd g → ShB Bd g'
  | 0, _, _, _, _, _, h, _ => by cases h
  | n + 1, x, y, g, g', hy, h, hs => by
    rw [matchS] at h
    split at h
    · split at h
      · split at h
        · cases h; exact hs
        · cases h
      · cases h
        intro t ht
        rcases List.mem_or_eq_of_mem_set ht with h1 | h1
        · exact hs t h1
        · cases h1; exact hy.2
    · split at h
      · exact mKids_bound (P := fun b => TyOk N (M + 1) b ∧ (tyText (M + 1) ns b).length ≤ Bd) (fun a b g g' hb => match_bound n a b g g' hb) _ _ g g' (fun b hb => ⟨(text_kid (ns := ns) hy.1 hb).1, Nat.le_trans (text_kid hy.1 hb).2 hy.2⟩) h hs
      · cases h
/-- What variables stand for is no longer than fits. -/
theorem got_short {s2 : ByteArray} {x y : Ty} {na nb : List (List UInt8)} {K K' Ny m2 : Nat} {g : List (Option (List UInt8))} (h2 : RdT s2 y nb) (o2 : TyOk nb.length m2 y) (ky : TyOk Ny K' y) (hm : matchS K' nb K x y (List.replicate na.length none) = some g) : ShB 1000000 g := by
  have hn := h2.short
  obtain ⟨_, _, _, _, _, hsz⟩ := h2
  have h1 := text_len hn m2 y o2
  have h3 := hsz _ _ o2
  have h4 : (tyText K' nb y).length ≤ 1000000 := by rw [text_same2 nb ky o2]; omega
  cases K' with
  | zero => exact absurd ky id
  | succ M =>
    refine match_bound K x y _ g ⟨ky, h4⟩ hm fun t ht => ?_
    have := List.eq_of_mem_replicate ht
    cases this
/-- A row of texts. -/
def RowAt (w : World) (ao : Option Addr) (l : List (List UInt8)) : Prop := ∀ (j : Nat) (x : List UInt8), l[j]? = some x → ∃ gn, ao = some ⟨gn, 0, none⟩ ∧ gn < w.heap.size ∧ w.cell? ⟨gn, j, none⟩ = some (.string (B x))
theorem rowAt {w : World} {base : Nat} {v : Value} {l : List (List UInt8)} (h : w.ownsRow base 9 1 v l.length (strs l)) : ∃ ao cp, v = .slice ao l.length cp ∧ RowAt w ao l := by
  obtain ⟨ao, cp, rfl, hv⟩ := own_view h
  refine ⟨ao, cp, rfl, fun j x hx => ?_⟩
  have hj : j < l.length := by
    rcases Nat.lt_or_ge j l.length with h | h
    · exact h
    · rw [List.getElem?_eq_none h] at hx; cases hx
  obtain ⟨gn, h1, _, h2, h3⟩ := hv j hj
  have e : l.getD j [] = x := by simp [List.getD, hx]
  rw [e] at h3
  exact ⟨gn, h1, h2, h3⟩
theorem RowAt.keep {w w' : World} {ao : Option Addr} {l : List (List UInt8)} (h : RowAt w ao l) (hs : w.heap.size ≤ w'.heap.size) (hb : ∀ k, k < w.heap.size → w'.heap[k]? = w.heap[k]?) : RowAt w' ao l := fun j x hx => by
  obtain ⟨gn, h1, h2, h3⟩ := h j x hx
  exact ⟨gn, h1, by omega, by rw [World.cell?_of_block (a := ⟨gn, j, none⟩) (hb gn h2)]; exact h3⟩
theorem less_of {a b : List UInt8} (h : a < b) : Op.bytesLess (B a).toList (B b).toList = true := by
  rw [toList_B, toList_B, bytesLess_eq, decide_eq_true h]
end Go.Proofs.YtcdijppegfcoaabGreatDoor

/-
  OUR OWN TEXT. plain.Canon and plain.Instance by what reading the texts tells.
-/
namespace Go.Proofs.YtcdijppegfcoaabGreatDoor
open Go.RowKit

theorem SW.gn {w w' : World} {ad : Nat → Addr} {cs : Nat → Array Value} {ts : Nat → TypeId} (h : SW w ad cs ts) (hg : Gn w w') : SW w' ad cs ts := by
  have c : ∀ {b : Nat} {v : Value}, b < 8 + 1 → w.cell? ⟨b, 0, none⟩ = some v → w'.cell? ⟨b, 0, none⟩ = some v := fun {b v} hl e => by
    rw [World.cell?_of_block (a := ⟨b, 0, none⟩) (hg.block b (Nat.lt_of_lt_of_le hl h.hsz))]
    exact e
  exact ⟨c (by decide) h.g0, c (by decide) h.g1, c (by decide) h.g2, c (by decide) h.g3, c (by decide) h.g4, c (by decide) h.g5, c (by decide) h.g6, c (by decide) h.g7, c (by decide) h.hE,
    fun k hk => by rw [hg.block _ (lt_of_block (h.hb k hk))]; exact h.hb k hk, h.hne, Nat.le_trans h.hsz hg.size⟩
theorem pc_f (s : ByteArray) (a b : Int) (w : World) (ad : Nat → Addr) (cs : Nat → Array Value) (ts : Nat → TypeId) (S : SW w ad cs ts) (h : RdF s a b) :
    Calls Tryz.prog 8 #[.string s] w fun e w' => e = .returned (.tuple #[.string (B []), fv a b]) ∧ Gn w w' := by
  rcases h with ⟨hs, rfl, rfl⟩ | ⟨hs, x, ns, s1, hx, hk, h⟩
  · exact pcanon_long s hs w ad cs ts S
  · refine (pcanon_p s hs w _ x ns s1 hx hk ad cs ts S).mono ?_
    rintro e w' ⟨g, (⟨hb, rfl⟩ | ⟨hb, m, ok, (⟨hd, rfl⟩ | ⟨hd, rfl⟩)⟩)⟩
    · rcases h with ⟨_, rfl, rfl⟩ | ⟨hb', _⟩
      · exact ⟨rfl, g⟩
      · omega
    · rcases h with ⟨hb', _⟩ | ⟨_, rfl, rfl, hbig⟩
      · omega
      · exact ⟨rfl, g⟩
    · rcases h with ⟨hb', _⟩ | ⟨_, rfl, rfl, hbig⟩
      · omega
      · exact absurd (hbig _ _ ok) (by omega)
theorem pc_t (s : ByteArray) (x : Ty) (ns : List (List UInt8)) (m : Nat) (w : World) (ad : Nat → Addr) (cs : Nat → Array Value) (ts : Nat → TypeId) (S : SW w ad cs ts) (h : RdT s x ns) (ok : TyOk ns.length m x) :
    Calls Tryz.prog 8 #[.string s] w fun e w' => e = .returned (.tuple #[.string (B (tyText m (lettersS ns.length) x)), fv 0 0]) ∧ Gn w w' := by
  obtain ⟨hs, s1, hx, hk, hb, hsz⟩ := h
  refine (pcanon_p s hs w _ x ns s1 hx hk ad cs ts S).mono ?_
  rintro e w' ⟨g, (⟨hb', rfl⟩ | ⟨_, m', ok', (⟨hd, rfl⟩ | ⟨hd, rfl⟩)⟩)⟩
  · omega
  · exact absurd (hsz _ _ ok') (by omega)
  · refine ⟨?_, g⟩
    have hv' := arr_vars _ [] ⟨0, -1⟩ x ns s1 hx _ m' ok'
    rw [canon_letters ok' hv', text_same2 _ ok' ok]
theorem pi_f1 (s1 s2 : ByteArray) (a b : Int) (w : World) (ad : Nat → Addr) (cs : Nat → Array Value) (ts : Nat → TypeId) (S : SW w ad cs ts) (h : RdF s1 a b) :
    Calls Tryz.prog 9 #[.string s1, .string s2] w fun e w' => e = .returned (.tuple #[.slice none 0 0, .slice none 0 0, .bool true, fv a b]) ∧ Gn w w' :=
  pinst_err s1 s2 a b w ad cs ts S fun W SW' => inst_f1 s1 s2 a b W ad cs ts SW' h
theorem pi_f2 (s1 s2 : ByteArray) (x : Ty) (ns : List (List UInt8)) (a b : Int) (w : World) (ad : Nat → Addr) (cs : Nat → Array Value) (ts : Nat → TypeId) (S : SW w ad cs ts) (h1 : RdT s1 x ns) (h : RdF s2 a b) :
    Calls Tryz.prog 9 #[.string s1, .string s2] w fun e w' => e = .returned (.tuple #[.slice none 0 0, .slice none 0 0, .bool true, fv a b]) ∧ Gn w w' :=
  pinst_err s1 s2 a b w ad cs ts S fun W SW' => inst_f2 s1 s2 x ns a b W ad cs ts SW' h1 h
theorem pi_t (s1 s2 : ByteArray) (x y : Ty) (na nb : List (List UInt8)) (K K' Nx Ny : Nat) (w : World) (ad : Nat → Addr) (cs : Nat → Array Value) (ts : Nat → TypeId) (S : SW w ad cs ts) (h1 : RdT s1 x na) (h2 : RdT s2 y nb) (kx : TyOk Nx K x) (ky : TyOk Ny K' y)
    (g : List (Option (List UInt8))) (hm : matchS K' nb K x y (List.replicate na.length none) = some g) :
    Calls Tryz.prog 9 #[.string s1, .string s2] w fun e w' => PIO w w' e (sortS na) ((sortS na).map (txtS na g)) := by
  have hall := hall_of h1 kx ky hm
  have hgl : g.length = na.length := by have := matchS_len K x y _ _ hm; simpa using this
  exact pinst_ok s1 s2 na g w ad cs ts S h1.names.1.nd h1.names.2 h1.short hall hgl (fun W SW' => (inst_ok s1 s2 x y na nb K K' Nx Ny W ad cs ts SW' h1 h2 kx ky).mono fun e w' h => by
    obtain ⟨hg, (⟨hq, _⟩ | ⟨g', mb, hq, he, hF⟩)⟩ := h
    · rw [hm] at hq; cases hq
    · rw [hm] at hq
      cases hq
      exact ⟨hg, mb, he, hF⟩)

/-- q -> q, and p -> (q, [p]), read. -/
theorem rd_qq : RdT (B [113, 32, 45, 62, 32, 113]) ⟨kFun, 0, [⟨[], 0, []⟩, ⟨[], 0, []⟩]⟩ [[113]] := by
  refine ⟨by decide, ⟨3, -1⟩, by kernel_rfl, by decide, by decide, fun N m ok => ?_⟩
  rw [(ty_same ok (show TyOk 1 2 ⟨kFun, 0, [⟨[], 0, []⟩, ⟨[], 0, []⟩]⟩ from Or.inr (Or.inr (Or.inr ⟨Or.inr rfl, rfl, _, _, rfl, Or.inl ⟨rfl, by decide, rfl⟩, Or.inl ⟨rfl, by decide, rfl⟩⟩)))).1]
  decide
theorem rd_PQ : RdT (B [112, 32, 45, 62, 32, 40, 113, 44, 32, 91, 112, 93, 41]) tyPQ [[112], [113]] := by
  refine ⟨by decide, ⟨9, -1⟩, by kernel_rfl, by decide, by decide, fun N m ok => ?_⟩
  rw [(ty_same ok ok_PQ).1]
  decide
theorem sort_PQ : sortS [[112], [113]] = [[112], [113]] := by
  unfold sortS
  exact List.mergeSort_of_pairwise (by decide)
end Go.Proofs.YtcdijppegfcoaabGreatDoor
