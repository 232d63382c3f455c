import Derived.Test.YtcdijppegfcoaabGreatDoorME
import Derived.Test.YtcdijppegfcoaabGreatDoorMA
/-
  OUR OWN TEXT. typerref.Parsed in the words of RdF, RdT.
-/
namespace Go.Proofs.YtcdijppegfcoaabGreatDoor
open Go.RowKit


end Go.Proofs.YtcdijppegfcoaabGreatDoor

/-
  OUR OWN TEXT. The law Instances where the second text is no type.
-/
namespace Go.Proofs.YtcdijppegfcoaabGreatDoor
open Go.RowKit

theorem set5_blk {w3 : World} {fb : Nat} {t : TypeId} {p q r s u : Value} (h : w3.heap[fb]? = some (.cells #[p, q, r, s, u] t (0, 0))) (v0 v1 v2 v3 v4 : Value) : (((((w3.setCell ⟨fb, 0, none⟩ v0).setCell ⟨fb, 1, none⟩ v1).setCell ⟨fb, 2, none⟩ v2).setCell ⟨fb, 3, none⟩ v3).setCell ⟨fb, 4, none⟩ v4).heap[fb]? = some (.cells #[v0, v1, v2, v3, v4] t (0, 0)) := by
  simp [World.setCell, Array.getElem?_modify, h]
theorem set5_size (w3 : World) (fb : Nat) (v0 v1 v2 v3 v4 : Value) : (((((w3.setCell ⟨fb, 0, none⟩ v0).setCell ⟨fb, 1, none⟩ v1).setCell ⟨fb, 2, none⟩ v2).setCell ⟨fb, 3, none⟩ v3).setCell ⟨fb, 4, none⟩ v4).heap.size = w3.heap.size := by
  simp [World.setCell]

end Go.Proofs.YtcdijppegfcoaabGreatDoor

/-
  OUR OWN TEXT. The law Instances of two types, the second no instance of the first.
-/
namespace Go.Proofs.YtcdijppegfcoaabGreatDoor
open Go.RowKit

theorem grow_new (w : World) (n : Nat) : GRow (w.alloc (.cells (Array.replicate n (.pointer none)) 99001)) (.slice (some ⟨w.heap.size, 0, none⟩) n n) (List.replicate n none) := by
  refine ⟨some ⟨w.heap.size, 0, none⟩, n, by simp, fun j o e => ⟨w.heap.size, rfl, by simp, ?_⟩⟩
  have hj : j < n := by
    rcases Nat.lt_or_ge j n with h | h
    · exact h
    · rw [List.getElem?_eq_none (by simpa using h)] at e; cases e
  have eo : o = none := List.eq_of_mem_replicate (List.mem_of_getElem? e)
  subst eo
  have hb := heap_alloc_new w (.cells (Array.replicate n (.pointer none)) 99001)
  simp only [World.cell?, hb]
  simp [hj, ptrO]
theorem gt_new (N M : Nat) (ns : List (List UInt8)) (H : Nat → Option Obj) (n : Nat) : GT N M ns H (List.replicate n none) (List.replicate n none) := by
  refine ⟨by simp, fun j => ⟨fun o h1 h2 => ?_, fun b h1 => ?_⟩⟩
  · have hj : j < n := by
      rcases Nat.lt_or_ge j n with h | h
      · exact h
      · rw [List.getElem?_eq_none (by simpa using h)] at h1; cases h1
    simp [hj]
  · have := List.eq_of_mem_replicate (List.mem_of_getElem? h1)
    cases this
end Go.Proofs.YtcdijppegfcoaabGreatDoor

/-
  OUR OWN TEXT. Two types that fit: every variable stands for something; the names, rising.
-/
namespace Go.Proofs.YtcdijppegfcoaabGreatDoor
open Go.RowKit

theorem hall_of {s1 : ByteArray} {x y : Ty} {na nb : List (List UInt8)} {K K' Nx Ny : Nat} {g : List (Option (List UInt8))} (h1 : RdT s1 x na) (kx : TyOk Nx K x) (ky : TyOk Ny K' y) (hm : matchS K' nb K x y (List.replicate na.length none) = some g) (v : Nat) (hv : v < na.length) : (g.getD v none).isSome = true := by
  obtain ⟨_, st, hx, _⟩ := h1
  obtain ⟨m, ho⟩ := arr_cover _ _ _ _ _ _ hx v (by simp) hv
  rw [match_fuel K K x y _ kx kx ky (ky.le (show K' ≤ max K K' by omega))] at hm
  exact match_fill m K x y _ g ho (TyOk.wide (show Nx ≤ max Nx Ny by omega) _ _ kx) (TyOk.wide (show Ny ≤ max Nx Ny by omega) _ _ (ky.le (show K' ≤ max K K' by omega))) (by omega) hm (by simpa using hv)
theorem sortS_perm (na : List (List UInt8)) : (sortS na).Perm na := List.mergeSort_perm _ _
theorem sortS_le (na : List (List UInt8)) : (sortS na).Pairwise (fun x y => x ≤ y) := by
  have h := List.pairwise_mergeSort (le := fun (x y : List UInt8) => decide (x ≤ y)) (fun a b c h1 h2 => by simp only [decide_eq_true_eq] at *; exact List.le_trans h1 h2) (fun a b => by simp only [Bool.or_eq_true, decide_eq_true_eq]; exact List.le_total a b) na
  exact h.imp fun h => by simpa using h
theorem sortS_lt {na : List (List UInt8)} (hd : na.Nodup) {i : Nat} (hi : i + 1 < (sortS na).length) : (sortS na).getD i [] < (sortS na).getD (i + 1) [] := by
  have h := List.pairwise_iff_getElem.1 (sortS_le na) i (i + 1) (by omega) hi (by omega)
  have hn := (sortS_perm na).nodup_iff.2 hd
  have h2 := (List.pairwise_iff_getElem.1 hn) i (i + 1) (by omega) hi (by omega)
  have e1 : (sortS na).getD i [] = (sortS na)[i]'(by omega) := by simp [List.getD, show i < (sortS na).length by omega]
  have e2 : (sortS na).getD (i + 1) [] = (sortS na)[i + 1] := by simp [List.getD, hi]
  rw [e1, e2]
  refine Classical.byContradiction fun h3 => h2 (List.le_antisymm h ?_)
  exact List.not_lt.1 h3
/-- At the name of the k-th variable stands what the k-th variable stands for. -/
theorem txtS_at {na : List (List UInt8)} {g : List (Option (List UInt8))} (hd : na.Nodup) {k : Nat} (hk : k < na.length) : txtS na g (na.getD k []) = (g.getD k none).getD [] := by
  unfold txtS
  have e : na.getD k [] = na[k] := by simp [List.getD, hk]
  rw [e, hd.idxOf_getElem k hk]
end Go.Proofs.YtcdijppegfcoaabGreatDoor

/-
  OUR OWN TEXT. typerref.Shown by any names; typerlaw.in.
-/
namespace Go.Proofs.YtcdijppegfcoaabGreatDoor
open Go.RowKit


end Go.Proofs.YtcdijppegfcoaabGreatDoor

/-
  OUR OWN TEXT. How long the texts are that variables stand for; rows of names in later worlds.
-/
namespace Go.Proofs.YtcdijppegfcoaabGreatDoor
open Go.RowKit

theorem text_kid {N M : Nat} {ns : List (List UInt8)} {y b : Ty} (h : TyOk N (M + 1) y) (hb : b ∈ y.kids) : TyOk N (M + 1) b ∧ (tyText (M + 1) ns b).length ≤ (tyText (M + 1) ns y).length := by
  have hk := ok_kid h hb
  refine ⟨TyOk.up _ _ hk, ?_⟩
  rw [TyOk.text ns M (M + 1) b hk (by omega)]
  rcases h with ⟨h1, h2, h3⟩ | ⟨h1, h2, h3⟩ | ⟨h1, h2, a, h3, h4⟩ | ⟨h1, h2, a, d, h3, h4, h5⟩
  · rw [h3] at hb; cases hb
  · rw [h3] at hb; cases hb
  · have hkn : y.kind ≠ [] := by rw [h1]; decide
    rw [h3] at hb
    rw [List.mem_singleton.1 hb, tyText, if_neg hkn, h3]
    simp
    omega
  · have hkn : y.kind ≠ [] := by rcases h1 with h1 | h1 <;> rw [h1] <;> decide
    rw [h3] at hb
    rw [tyText, if_neg hkn, h3]
    simp only
    rcases List.mem_cons.1 hb with rfl | hb
    · split
      · split <;> simp <;> omega
      · simp; omega
    · rw [List.mem_singleton.1 hb]
      split
      · split <;> simp <;> omega
      · simp; omega
def ShB (Bd : Nat) (g : List (Option (List UInt8))) : Prop := ∀ t, some t ∈ g → t.length ≤ Bd
theorem mKids_bound {Bd : Nat} {f : Ty → Ty → List (Option (List UInt8)) → Option (List (Option (List UInt8)))} {P : Ty → Prop} (hf : ∀ a b g g', P b → f a b g = some g' → ShB Bd g → ShB Bd g') : ∀ (xs ys : List Ty) (g g' : List (Option (List UInt8))), (∀ b, b ∈ ys → P b) → mKids f xs ys g = some g' → ShB Bd g → ShB Bd g'
  | [], _, g, g', _, h, hs => by cases h; exact hs
  | _ :: _, [], g, g', _, h, hs => by cases h; exact hs
  | a :: xs, b :: ys, g, g', hp, h, hs => by
    rw [mKids] at h
    cases e : f a b g with
    | none => rw [e] at h; cases h
    | some g1 =>
      rw [e] at h
      exact mKids_bound hf xs ys g1 g' (fun b hb => hp b (List.mem_cons_of_mem _ hb)) h (hf a b g g1 (hp b (by simp)) e hs)
theorem match_bound {N M Bd : Nat} {ns : List (List UInt8)} : ∀ (n : Nat) (x y : Ty) (g g' : List (Option (List UInt8))), TyOk N (M + 1) y ∧ (tyText (M + 1) ns y).length ≤ Bd → matchS (M + 1) ns n x y g = some g' → ShB Bd g → ShB Bd g'
  | 0, _, _, _, _, _, h, _ => by cases h
  | n + 1, x, y, g, g', hy, h, hs => by
    rw [matchS] at h
    split at h
    · split at h
      · split at h
        · cases h; exact hs
        · cases h
      · cases h
        intro t ht
        rcases List.mem_or_eq_of_mem_set ht with h1 | h1
        · exact hs t h1
        · cases h1; exact hy.2
    · split at h
      · exact mKids_bound (P := fun b => TyOk N (M + 1) b ∧ (tyText (M + 1) ns b).length ≤ Bd) (fun a b g g' hb => match_bound n a b g g' hb) _ _ g g' (fun b hb => ⟨(text_kid (ns := ns) hy.1 hb).1, Nat.le_trans (text_kid hy.1 hb).2 hy.2⟩) h hs
      · cases h
/-- What variables stand for is no longer than fits. -/
theorem got_short {s2 : ByteArray} {x y : Ty} {na nb : List (List UInt8)} {K K' Ny m2 : Nat} {g : List (Option (List UInt8))} (h2 : RdT s2 y nb) (o2 : TyOk nb.length m2 y) (ky : TyOk Ny K' y) (hm : matchS K' nb K x y (List.replicate na.length none) = some g) : ShB 1000000 g := by
  have hn := h2.short
  obtain ⟨_, _, _, _, _, hsz⟩ := h2
  have h1 := text_len hn m2 y o2
  have h3 := hsz _ _ o2
  have h4 : (tyText K' nb y).length ≤ 1000000 := by rw [text_same2 nb ky o2]; omega
  cases K' with
  | zero => exact absurd ky id
  | succ M =>
    refine match_bound K x y _ g ⟨ky, h4⟩ hm fun t ht => ?_
    have := List.eq_of_mem_replicate ht
    cases this
/-- A row of texts. -/
def RowAt (w : World) (ao : Option Addr) (l : List (List UInt8)) : Prop := ∀ (j : Nat) (x : List UInt8), l[j]? = some x → ∃ gn, ao = some ⟨gn, 0, none⟩ ∧ gn < w.heap.size ∧ w.cell? ⟨gn, j, none⟩ = some (.string (B x))
theorem rowAt {w : World} {base : Nat} {v : Value} {l : List (List UInt8)} (h : w.ownsRow base 9 1 v l.length (strs l)) : ∃ ao cp, v = .slice ao l.length cp ∧ RowAt w ao l := by
  obtain ⟨ao, cp, rfl, hv⟩ := own_view h
  refine ⟨ao, cp, rfl, fun j x hx => ?_⟩
  have hj : j < l.length := by
    rcases Nat.lt_or_ge j l.length with h | h
    · exact h
    · rw [List.getElem?_eq_none h] at hx; cases hx
  obtain ⟨gn, h1, _, h2, h3⟩ := hv j hj
  have e : l.getD j [] = x := by simp [List.getD, hx]
  rw [e] at h3
  exact ⟨gn, h1, h2, h3⟩
theorem RowAt.keep {w w' : World} {ao : Option Addr} {l : List (List UInt8)} (h : RowAt w ao l) (hs : w.heap.size ≤ w'.heap.size) (hb : ∀ k, k < w.heap.size → w'.heap[k]? = w.heap[k]?) : RowAt w' ao l := fun j x hx => by
  obtain ⟨gn, h1, h2, h3⟩ := h j x hx
  exact ⟨gn, h1, by omega, by rw [World.cell?_of_block (a := ⟨gn, j, none⟩) (hb gn h2)]; exact h3⟩
theorem less_of {a b : List UInt8} (h : a < b) : Op.bytesLess (B a).toList (B b).toList = true := by
  rw [toList_B, toList_B, bytesLess_eq, decide_eq_true h]
end Go.Proofs.YtcdijppegfcoaabGreatDoor

/-
  OUR OWN TEXT. plain.Canon and plain.Instance by what reading the texts tells.
-/
namespace Go.Proofs.YtcdijppegfcoaabGreatDoor
open Go.RowKit

theorem SW.gn {w w' : World} {ad : Nat → Addr} {cs : Nat → Array Value} {ts : Nat → TypeId} (h : SW w ad cs ts) (hg : Gn w w') : SW w' ad cs ts := by
  have c : ∀ {b : Nat} {v : Value}, b < 8 + 1 → w.cell? ⟨b, 0, none⟩ = some v → w'.cell? ⟨b, 0, none⟩ = some v := fun {b v} hl e => by
    rw [World.cell?_of_block (a := ⟨b, 0, none⟩) (hg.block b (Nat.lt_of_lt_of_le hl h.hsz))]
    exact e
  exact ⟨c (by decide) h.g0, c (by decide) h.g1, c (by decide) h.g2, c (by decide) h.g3, c (by decide) h.g4, c (by decide) h.g5, c (by decide) h.g6, c (by decide) h.g7, c (by decide) h.hE,
    fun k hk => by rw [hg.block _ (lt_of_block (h.hb k hk))]; exact h.hb k hk, h.hne, Nat.le_trans h.hsz hg.size⟩
theorem pc_f (s : ByteArray) (a b : Int) (w : World) (ad : Nat → Addr) (cs : Nat → Array Value) (ts : Nat → TypeId) (S : SW w ad cs ts) (h : RdF s a b) :
    Calls Tryz.prog 8 #[.string s] w fun e w' => e = .returned (.tuple #[.string (B []), fv a b]) ∧ Gn w w' := by
  rcases h with ⟨hs, rfl, rfl⟩ | ⟨hs, x, ns, s1, hx, hk, h⟩
  · exact pcanon_long s hs w ad cs ts S
  · refine (pcanon_p s hs w _ x ns s1 hx hk ad cs ts S).mono ?_
    rintro e w' ⟨g, (⟨hb, rfl⟩ | ⟨hb, m, ok, (⟨hd, rfl⟩ | ⟨hd, rfl⟩)⟩)⟩
    · rcases h with ⟨_, rfl, rfl⟩ | ⟨hb', _⟩
      · exact ⟨rfl, g⟩
      · omega
    · rcases h with ⟨hb', _⟩ | ⟨_, rfl, rfl, hbig⟩
      · omega
      · exact ⟨rfl, g⟩
    · rcases h with ⟨hb', _⟩ | ⟨_, rfl, rfl, hbig⟩
      · omega
      · exact absurd (hbig _ _ ok) (by omega)
theorem pc_t (s : ByteArray) (x : Ty) (ns : List (List UInt8)) (m : Nat) (w : World) (ad : Nat → Addr) (cs : Nat → Array Value) (ts : Nat → TypeId) (S : SW w ad cs ts) (h : RdT s x ns) (ok : TyOk ns.length m x) :
    Calls Tryz.prog 8 #[.string s] w fun e w' => e = .returned (.tuple #[.string (B (tyText m (lettersS ns.length) x)), fv 0 0]) ∧ Gn w w' := by
  obtain ⟨hs, s1, hx, hk, hb, hsz⟩ := h
  refine (pcanon_p s hs w _ x ns s1 hx hk ad cs ts S).mono ?_
  rintro e w' ⟨g, (⟨hb', rfl⟩ | ⟨_, m', ok', (⟨hd, rfl⟩ | ⟨hd, rfl⟩)⟩)⟩
  · omega
  · exact absurd (hsz _ _ ok') (by omega)
  · refine ⟨?_, g⟩
    have hv' := arr_vars _ [] ⟨0, -1⟩ x ns s1 hx _ m' ok'
    rw [canon_letters ok' hv', text_same2 _ ok' ok]
theorem pi_f1 (s1 s2 : ByteArray) (a b : Int) (w : World) (ad : Nat → Addr) (cs : Nat → Array Value) (ts : Nat → TypeId) (S : SW w ad cs ts) (h : RdF s1 a b) :
    Calls Tryz.prog 9 #[.string s1, .string s2] w fun e w' => e = .returned (.tuple #[.slice none 0 0, .slice none 0 0, .bool true, fv a b]) ∧ Gn w w' :=
  pinst_err s1 s2 a b w ad cs ts S fun W SW' => inst_f1 s1 s2 a b W ad cs ts SW' h
theorem pi_f2 (s1 s2 : ByteArray) (x : Ty) (ns : List (List UInt8)) (a b : Int) (w : World) (ad : Nat → Addr) (cs : Nat → Array Value) (ts : Nat → TypeId) (S : SW w ad cs ts) (h1 : RdT s1 x ns) (h : RdF s2 a b) :
    Calls Tryz.prog 9 #[.string s1, .string s2] w fun e w' => e = .returned (.tuple #[.slice none 0 0, .slice none 0 0, .bool true, fv a b]) ∧ Gn w w' :=
  pinst_err s1 s2 a b w ad cs ts S fun W SW' => inst_f2 s1 s2 x ns a b W ad cs ts SW' h1 h
theorem pi_t (s1 s2 : ByteArray) (x y : Ty) (na nb : List (List UInt8)) (K K' Nx Ny : Nat) (w : World) (ad : Nat → Addr) (cs : Nat → Array Value) (ts : Nat → TypeId) (S : SW w ad cs ts) (h1 : RdT s1 x na) (h2 : RdT s2 y nb) (kx : TyOk Nx K x) (ky : TyOk Ny K' y)
    (g : List (Option (List UInt8))) (hm : matchS K' nb K x y (List.replicate na.length none) = some g) :
    Calls Tryz.prog 9 #[.string s1, .string s2] w fun e w' => PIO w w' e (sortS na) ((sortS na).map (txtS na g)) := by
  have hall := hall_of h1 kx ky hm
  have hgl : g.length = na.length := by have := matchS_len K x y _ _ hm; simpa using this
  exact pinst_ok s1 s2 na g w ad cs ts S h1.names.1.nd h1.names.2 h1.short hall hgl (fun W SW' => (inst_ok s1 s2 x y na nb K K' Nx Ny W ad cs ts SW' h1 h2 kx ky).mono fun e w' h => by
    obtain ⟨hg, (⟨hq, _⟩ | ⟨g', mb, hq, he, hF⟩)⟩ := h
    · rw [hm] at hq; cases hq
    · rw [hm] at hq
      cases hq
      exact ⟨hg, mb, he, hF⟩)

/-- q -> q, and p -> (q, [p]), read. -/
theorem rd_qq : RdT (B [113, 32, 45, 62, 32, 113]) ⟨kFun, 0, [⟨[], 0, []⟩, ⟨[], 0, []⟩]⟩ [[113]] := by
  refine ⟨by decide, ⟨3, -1⟩, by kernel_rfl, by decide, by decide, fun N m ok => ?_⟩
  rw [(ty_same ok (show TyOk 1 2 ⟨kFun, 0, [⟨[], 0, []⟩, ⟨[], 0, []⟩]⟩ from Or.inr (Or.inr (Or.inr ⟨Or.inr rfl, rfl, _, _, rfl, Or.inl ⟨rfl, by decide, rfl⟩, Or.inl ⟨rfl, by decide, rfl⟩⟩)))).1]
  decide
theorem rd_PQ : RdT (B [112, 32, 45, 62, 32, 40, 113, 44, 32, 91, 112, 93, 41]) tyPQ [[112], [113]] := by
  refine ⟨by decide, ⟨9, -1⟩, by kernel_rfl, by decide, by decide, fun N m ok => ?_⟩
  rw [(ty_same ok ok_PQ).1]
  decide
theorem sort_PQ : sortS [[112], [113]] = [[112], [113]] := by
  unfold sortS
  exact List.mergeSort_of_pairwise (by decide)
end Go.Proofs.YtcdijppegfcoaabGreatDoor

/-
  OUR OWN TEXT. Renamed's helper: does a -> stand outside of all brackets?
-/
namespace Go.Proofs.YtcdijppegfcoaabGreatDoor
open Go.RowKit

/-- What arrow looks at: all but the last byte. -/
def arrowS (l : List UInt8) : Bool := (scanS (l.take (l.length - 1)) 0).isNone
theorem scan_bound : ∀ (l : List UInt8) (d e : Int), scanS l d = some e → d - l.length ≤ e ∧ e ≤ d + l.length
  | [], d, e, h => by cases h; simp
  | c :: r, d, e, h => by
    rw [scanS] at h
    simp only [List.length_cons]
    split at h
    · have := scan_bound r _ _ h; omega
    · split at h
      · have := scan_bound r _ _ h; omega
      · split at h
        · cases h
        · have := scan_bound r _ _ h; omega
theorem scan_next {l : List UInt8} {j : Nat} {c : UInt8} {d : Int} (hc : l[j]? = some c) (h : scanS (l.take j) 0 = some d) : scanS (l.take (j + 1)) 0 = scanS [c] d := by
  rw [List.take_add_one, hc, scan_app, h]
  rfl
theorem scan_none {l : List UInt8} {j k : Nat} (h : scanS (l.take j) 0 = none) (hk : j ≤ k) : scanS (l.take k) 0 = none := by
  have e : l.take k = l.take j ++ (l.take k).drop j := by
    have := List.take_append_drop j (l.take k)
    rw [List.take_take, Nat.min_eq_left hk] at this
    exact this.symm
  rw [e, scan_app, h]
theorem byte_at {l : List UInt8} {j : Nat} {c : UInt8} (hc : l[j]? = some c) (h : j < (B l).size) : (B l)[j] = c := by
  have hl := (List.getElem?_eq_some_iff.1 hc).1
  have h2 := (List.getElem?_eq_some_iff.1 hc).2
  rw [← h2]
  rfl
set_option maxRecDepth 100000 in
set_option maxHeartbeats 4000000 in
theorem arrow_any (l : List UInt8) (hl : l.length ≤ 100000) (w : World) : Calls Tryz.prog 10 #[.string (B l)] w fun e w' => e = .returned (.bool (arrowS l)) ∧ w' = w := by
  have hsz : (B l).size = l.length := size_B l
  go_enter Tryz.func10, Tryz.ntmps10
  go_wp2_with fail
  go_loopg [3, 4] (l.length + 1) (fun gh dv iv wi => ∃ (j : Nat) (d : Int), j ≤ l.length ∧ dv = .int .i64 d ∧ iv = .int .i64 j ∧ gh = l.length - j + 1 ∧ -100000 ≤ d ∧ d ≤ 100000 ∧ Hid (scanS (l.take j) 0 = some d) ∧ wi = w)
  case atStart => exact ⟨0, 0, by omega, rfl, rfl, by omega, by omega, by omega, hid rfl, rfl⟩
  case round =>
    obtain ⟨j, d, hj, rfl, rfl, hgj, hd0, hd1, HS, rfl⟩ := hrel
    by_cases hjl : j + 1 < l.length
    · obtain ⟨c, hc⟩ : ∃ c, l[j]? = some c := ⟨l[j], List.getElem?_eq_getElem (by omega)⟩
      have hjs : j < (B l).size := by rw [hsz]; omega
      have hba := byte_at hc hjs
      have HX := hid (scan_next hc HS.out)
      have HB := hid (fun e (h : scanS (l.take (j + 1)) 0 = some e) => scan_bound _ _ _ h)
      have hjl' : (j : Int) + 1 < (l.length : Int) := by omega
      clear hc
      have next : ∀ e, scanS (l.take (j + 1)) 0 = some e → -100000 ≤ e ∧ e ≤ 100000 := fun e h => by
        have := HB.out e h
        simp only [List.length_take] at this
        omega
      have NX := hid next
      clear next
      by_cases h1 : c = 40 ∨ c = 91
      · have e1 : scanS (l.take (j + 1)) 0 = some (d + 1) := by rw [HX.out, scanS, if_pos h1]; rfl
        have b1 := NX.out _ e1
        have E1 := hid e1
        clear e1
        rcases h1 with rfl | rfl
        all_goals
          go_wp2_with fail
          go_roundg (l.length - (j + 1) + 1)
          case measure => omega
          case rel => exact ⟨j + 1, d + 1, by omega, by first | rfl | go_num, by go_num, rfl, b1.1, b1.2, E1, rfl⟩
      · by_cases h2 : c = 41 ∨ c = 93
        · have e1 : scanS (l.take (j + 1)) 0 = some (d - 1) := by rw [HX.out, scanS, if_neg h1, if_pos h2]; rfl
          have b1 := NX.out _ e1
          have E1 := hid e1
          clear e1 h1
          rcases h2 with rfl | rfl
          all_goals
            go_wp2_with fail
            go_roundg (l.length - (j + 1) + 1)
            case measure => omega
            case rel => exact ⟨j + 1, d - 1, by omega, by first | rfl | go_num, by go_num, rfl, b1.1, b1.2, E1, rfl⟩
        · have m : ∀ k : UInt8, c ≠ k → ¬ ((c.toNat : Int) = (k.toNat : Int)) := fun k hk e => hk (UInt8.toNat_inj.1 (by omega))
          have m0 : ¬ ((c.toNat : Int) = 40) := m 40 (fun e => h1 (Or.inl e))
          have m1 : ¬ ((c.toNat : Int) = 91) := m 91 (fun e => h1 (Or.inr e))
          have m2 : ¬ ((c.toNat : Int) = 41) := m 41 (fun e => h2 (Or.inl e))
          have m3 : ¬ ((c.toNat : Int) = 93) := m 93 (fun e => h2 (Or.inr e))
          by_cases h3 : c = 45
          · by_cases hd : d = 0
            · have e1 : arrowS l = true := by
                unfold arrowS
                have e2 : scanS (l.take (j + 1)) 0 = none := by rw [HX.out, scanS, if_neg h1, if_neg h2, if_pos ⟨h3, hd⟩]
                rw [scan_none e2 (by omega)]
                rfl
              subst hd h3
              clear h1 h2 m m0 m1 m2 m3
              go_wp2
              go_ret
              exact ⟨by rw [e1]; rfl, rfl⟩
            · have e1 : scanS (l.take (j + 1)) 0 = some d := by rw [HX.out, scanS, if_neg h1, if_neg h2, if_neg (fun h => hd h.2)]; rfl
              have E1 := hid e1
              clear e1 h1 h2 m m0 m1 m2 m3
              subst h3
              go_wp2_with fail
              go_roundg (l.length - (j + 1) + 1)
              case measure => omega
              case rel => exact ⟨j + 1, d, by omega, rfl, by go_num, rfl, hd0, hd1, E1, rfl⟩
          · have m4 : ¬ ((c.toNat : Int) = 45) := m 45 h3
            have e1 : scanS (l.take (j + 1)) 0 = some d := by rw [HX.out, scanS, if_neg h1, if_neg h2, if_neg (fun h => h3 h.1)]; rfl
            have E1 := hid e1
            clear e1 h1 h2 m h3
            go_wp2_with fail
            go_roundg (l.length - (j + 1) + 1)
            case measure => omega
            case rel => exact ⟨j + 1, d, by omega, rfl, by go_num, rfl, hd0, hd1, E1, rfl⟩
    · have hjl' : ¬ ((j : Int) + 1 < (l.length : Int)) := by omega
      have e1 : arrowS l = false := by
        unfold arrowS
        cases e : scanS (l.take (l.length - 1)) 0 with
        | some x => rfl
        | none =>
          have := scan_none (k := j) e (by omega)
          rw [HS.out] at this
          cases this
      go_wp2
      go_ret
      exact ⟨rfl, rfl⟩
end Go.Proofs.YtcdijppegfcoaabGreatDoor

/-
  OUR OWN TEXT. Renamed, on plain data: where an arrow stands; the text of p -> (q, [p]) with types put in.
-/
namespace Go.Proofs.YtcdijppegfcoaabGreatDoor
open Go.RowKit

theorem qq_text : tyText 2 (lettersS 1) ⟨kFun, 0, [⟨[], 0, []⟩, ⟨[], 0, []⟩]⟩ = [97, 32, 45, 62, 32, 97] := by decide
theorem text_last {N : Nat} {ns : List (List UInt8)} (hn : Nms N ns) : ∀ (n : Nat) (x : Ty), TyOk N n x → ∃ u c, tyText n ns x = u ++ [c] ∧ c ≠ 45
  | 0, _, h => absurd h id
  | n + 1, x, h => by
    rcases h with ⟨h1, h2, h3⟩ | ⟨h1, h2, h3⟩ | ⟨h1, h2, a, h3, h4⟩ | ⟨h1, h2, a, b, h3, h4, h5⟩
    · rw [tyText, if_pos h1]
      have hm := getD_mem (ns := ns) (i := x.var) (Nat.lt_of_lt_of_le h2 hn.len)
      obtain ⟨⟨c, r, e, _⟩, hc, _⟩ := hn.ok _ hm
      refine ⟨(ns.getD x.var []).dropLast, (ns.getD x.var []).getLast (by rw [e]; simp), (List.dropLast_concat_getLast _).symm, fun e45 => ?_⟩
      have := hc _ (List.getLast_mem (by rw [e]; simp))
      rw [e45] at this
      exact absurd this (by decide)
    · have hk : x.kind ≠ [] := by rcases h1 with h1 | h1 <;> rw [h1] <;> decide
      rw [tyText, if_neg hk, h3]
      rcases h1 with h1 | h1 <;> rw [h1]
      · exact ⟨[105, 110], 116, rfl, by decide⟩
      · exact ⟨[98, 111, 111], 108, rfl, by decide⟩
    · have hk : x.kind ≠ [] := by rw [h1]; decide
      rw [tyText, if_neg hk, h3]
      exact ⟨[91] ++ tyText n ns a, 93, rfl, by decide⟩
    · have hk : x.kind ≠ [] := by rcases h1 with h1 | h1 <;> rw [h1] <;> decide
      rw [tyText, if_neg hk, h3]
      show ∃ u c, (if x.kind = kFun then _ else _) = u ++ [c] ∧ c ≠ 45
      split
      · obtain ⟨u, c, e, hc⟩ := text_last hn n b h5
        rw [e]
        exact ⟨_, c, (List.append_assoc _ _ _).symm, hc⟩
      · exact ⟨_, 41, rfl, by decide⟩
theorem arr_text {N : Nat} {ns : List (List UInt8)} (hn : Nms N ns) {n : Nat} {x : Ty} (ok : TyOk N n x) : arrowS (tyText n ns x) = decide (x.kind = kFun) := by
  obtain ⟨u, c, e, hc⟩ := text_last hn n x ok
  have hs := scan_text hn n x 0 ok (by omega)
  unfold arrowS
  rw [e] at hs ⊢
  have e1 : (u ++ [c]).take ((u ++ [c]).length - 1) = u := by simp
  rw [e1]
  rw [scan_app] at hs
  cases eu : scanS u 0 with
  | none =>
    rw [eu] at hs
    simp only at hs
    by_cases hk : x.kind = kFun
    · rw [decide_eq_true hk]; rfl
    · rw [if_neg (fun h => hk h.1)] at hs; cases hs
  | some d =>
    rw [eu] at hs
    simp only at hs
    by_cases hk : x.kind = kFun
    · rw [if_pos (by simp [hk]), scanS] at hs
      split at hs
      · cases hs
      · split at hs
        · cases hs
        · split at hs
          · rename_i h; exact absurd h.1 hc
          · cases hs
    · rw [decide_eq_false hk]; rfl
/-- The text that is put together, and what reading it tells. -/
structure PutT (TA TB : List UInt8) (fn : Bool) (t : Ty) (N M : Nat) : Prop where
  ok : TyOk N (M + 3) t
  N260 : N ≤ 260
  vars : tyVars (M + 3) t [] = List.range N
  text : tyText (M + 3) (lettersS N) t = (if fn = true then [40] ++ TA ++ [41] else TA) ++ [32, 45, 62, 32] ++ ([40] ++ TB ++ [44, 32] ++ ([91] ++ TA ++ [93]) ++ [41])
  mt : matchS (M + 3) (lettersS N) 4 tyPQ t (List.replicate 2 none) = some [some TA, some TB]
theorem letters_wide {ka N ma M : Nat} {x : Ty} (ok : TyOk ka ma x) (hN : ka ≤ N) (hM : ma ≤ M) : tyText M (lettersS N) x = tyText ma (lettersS ka) x := by
  rw [TyOk.text (lettersS N) ma M x ok hM]
  exact text_congr (fun v hv => by rw [letters_at (by omega), letters_at hv]) ma x ok
theorem put_made {x y : Ty} {na nb : List (List UInt8)} {ma mb : Nat} (oka : TyOk na.length ma x) (okb : TyOk nb.length mb y) (va : tyVars ma x [] = List.range na.length) (vb : tyVars mb y [] = List.range nb.length) (la : na.length ≤ 120) (lb : nb.length ≤ 120) :
    PutT (tyText ma (lettersS na.length) x) (tyText mb (lettersS nb.length) y) (decide (x.kind = kFun)) (tyXY x y) (max na.length nb.length) (max ma mb) := by
  have hx : TyOk (max na.length nb.length) (max ma mb) x := (TyOk.wide (Nat.le_max_left _ _) _ _ oka).le (Nat.le_max_left _ _)
  have hy : TyOk (max na.length nb.length) (max ma mb) y := (TyOk.wide (Nat.le_max_right _ _) _ _ okb).le (Nat.le_max_right _ _)
  have ex := letters_wide oka (Nat.le_max_left na.length nb.length) (Nat.le_max_left ma mb)
  have ey := letters_wide okb (Nat.le_max_right na.length nb.length) (Nat.le_max_right ma mb)
  have vx : tyVars (max ma mb) x [] = List.range na.length := by rw [TyOk.vars ma _ x [] oka (Nat.le_max_left _ _)]; exact va
  have vy : tyVars (max ma mb) y [] = List.range nb.length := by rw [TyOk.vars mb _ y [] okb (Nat.le_max_right _ _)]; exact vb
  refine ⟨ok_XY hx hy, by omega, vars_XY hx hy vx vy, ?_, ?_⟩
  · rw [text_XY _ hx hy, ex, ey]
    by_cases hk : x.kind = kFun
    · rw [if_pos hk, decide_eq_true hk, if_pos rfl]
    · rw [if_neg hk, decide_eq_false hk, if_neg (by decide)]
  · rw [match_PQ, TyOk.text _ (max ma mb) _ x hx (by omega), TyOk.text _ (max ma mb) _ y hy (by omega), ex, ey]
theorem put_read {TA TB : List UInt8} {fn : Bool} {t : Ty} {N M : Nat} (h : PutT TA TB fn t N M) : (∃ a b, RdF (B (tyText (M + 3) (lettersS N) t)) a b ∧ (a = 1 ∨ a = 8)) ∨ RdT (B (tyText (M + 3) (lettersS N) t)) t (lettersS N) := by
  by_cases hl : (tyText (M + 3) (lettersS N) t).length ≤ 300
  · by_cases hs : tySize (M + 3) t ≤ 120
    · exact Or.inr (read_letters h.N260 h.ok h.vars hl hs)
    · left
      obtain ⟨s1, h1, h2, h3⟩ := read_text (letters_nms h.N260) letters_short h.ok
      have hr := rn_self h.N260 _ t 0 N h.ok h.vars (Nat.le_refl _)
      rw [show lettersS 0 = [] from rfl] at hr
      rw [hr] at h1
      refine ⟨8, 0, Or.inr ⟨by rw [size_B]; exact hl, t, lettersS N, s1, h1, h2, Or.inr ⟨h3, rfl, rfl, fun N' m ok' => ?_⟩⟩, Or.inr rfl⟩
      rw [(ty_same ok' h.ok).1]
      omega
  · exact Or.inl ⟨1, 0, Or.inl ⟨by rw [size_B]; omega, rfl, rfl⟩, Or.inl rfl⟩
end Go.Proofs.YtcdijppegfcoaabGreatDoor
