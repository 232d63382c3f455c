import Derived.Test.YtcdijppegfcoaaaGreatDoorZT07
import Derived.Test.YtcdijppegfcoaaaGreatDoorZT06
import Derived.Test.YtcdijppegfcoaaaGreatDoorZT14
import Derived.Outline
import Derived.Test.YtcdijppegfcoaaaGreatDoorZT18
import Derived.Deep.DeepCutAuto
import Derived.Deep.LoopGhost
/-
  OUR OWN TEXT. Types that were read, as types with cells: their texts by drafts.
-/
namespace Go.Proofs.YtcdijppegfcoaaaGreatDoor
open Go.RowKit
def qe (ns : List (List UInt8)) : Nat → Ty → Et
  | 0, _ => vT []
  | m + 1, x => if x.kind = [] then vT (ns.getD x.var []) else ⟨x.kind, [], 0, x.kids.map (qe ns m)⟩
theorem QRep.et {ns : List (List UInt8)} {H : Nat → Option Obj} {ca : List Nat} : ∀ (m : Nat) (v : Value) (x : Ty), QRep ns m H v x → ERep 0 H ca m v (qe ns m x)
  | 0, _, _, h => h
  | m + 1, v, x, h => by
    obtain ⟨b, h⟩ := h
    refine ⟨b, ?_⟩
    rw [qe]
    rcases h with ⟨q1, q2, q3, q4, q5⟩ | ⟨q1, q2, q3, q4⟩ | ⟨q1, a, u, q2, q3, q4, q5⟩ | ⟨q1, a, c, u, z, q2, q3, q4, q5, q6⟩ | ⟨q1, a, c, u, z, q2, q3, q4, q5, q6⟩
    · rw [if_pos q1]
      exact Or.inr (Or.inl ⟨rfl, rfl, q3.2, Nat.zero_le _, q4, q5⟩)
    · rw [if_neg (by rcases q1 with q1 | q1 <;> rw [q1] <;> decide)]
      exact Or.inr (Or.inr (Or.inl ⟨q1, by show x.kids.map _ = []; rw [q2]; rfl, q3, q4⟩))
    · rw [if_neg (by rw [q1]; decide)]
      exact Or.inr (Or.inr (Or.inr (Or.inl ⟨q1, Nat.zero_le _, qe ns m a, u, by show x.kids.map _ = _; rw [q2]; rfl, q3, q4, QRep.et m u a q5⟩)))
    · rw [if_neg (by rw [q1]; decide)]
      exact Or.inr (Or.inr (Or.inr (Or.inr (Or.inl ⟨q1, Nat.zero_le _, qe ns m a, qe ns m c, u, z, by show x.kids.map _ = _; rw [q2]; rfl, q3, q4, QRep.et m u a q5, QRep.et m z c q6⟩))))
    · rw [if_neg (by rw [q1]; decide)]
      exact Or.inr (Or.inr (Or.inr (Or.inr (Or.inr ⟨q1, Nat.zero_le _, qe ns m a, qe ns m c, u, z, by show x.kids.map _ = _; rw [q2]; rfl, q3, q4, QRep.et m u a q5, QRep.et m z c q6⟩))))

theorem put_word {x : List UInt8} {s : Ds} (h1 : s.out.length + x.length ≤ 100000) (h2 : s.steps.length < 100000) : putS x 0 0 s = some ⟨s.steps ++ [(x, 0, 0)], s.out ++ x, s.stands, s.L, s.O⟩ := by
  unfold putS
  rw [if_pos ⟨Nat.le_refl _, by omega, by omega, h2⟩]
  simp
/-- What a draft's part leaves. -/
structure Dn (s s' : Ds) (x : List UInt8) (L : List (List UInt8)) (n : Nat) : Prop where
  out : s'.out = s.out ++ x
  L : s'.L = L
  O : s'.O = s.O
  stands : s'.stands = s.stands
  steps : s'.steps.length ≤ s.steps.length + n
theorem Dn.trans {s s1 s2 : Ds} {x y : List UInt8} {L1 L2 : List (List UInt8)} {n m : Nat} (h : Dn s s1 x L1 n) (k : Dn s1 s2 y L2 m) : Dn s s2 (x ++ y) L2 (n + m) :=
  ⟨by rw [k.out, h.out, List.append_assoc], k.L, k.O.trans h.O, k.stands.trans h.stands, by have := h.steps; have := k.steps; omega⟩
theorem Dn.word {s s1 : Ds} {x : List UInt8} {L1 : List (List UInt8)} {n : Nat} (h : Dn s s1 x L1 n) (y : List UInt8) (h1 : s.out.length + x.length + y.length ≤ 100000) (h2 : s.steps.length + n < 100000) :
    ∃ s2, wordS y (some s1) = some s2 ∧ Dn s s2 (x ++ y) L1 (n + 1) := by
  refine ⟨_, put_word (by rw [h.out, List.length_append]; omega) (by have := h.steps; omega), ?_, h.L, h.O, h.stands, ?_⟩
  · show s1.out ++ y = _
    rw [h.out, List.append_assoc]
  · simp
    have := h.steps
    omega
theorem Dn.zero (s : Ds) : Dn s s [] s.L 0 := ⟨by simp, rfl, rfl, rfl, by omega⟩
end Go.Proofs.YtcdijppegfcoaaaGreatDoor

/-
  OUR OWN TEXT. The program's drafts: draftOf; OneText, OwnText.
-/
namespace Go.Proofs.YtcdijppegfcoaaaGreatDoor
open Go.RowKit
theorem CSd.nil {H : Nat → Option Obj} {w : World} (hz : Fz H w) : CSd H [] ⟨[], []⟩ (fun _ => 0) w :=
  ⟨hz, rfl, rfl, by simp, fun a h => by simp at h, by simp, fun i c h => by simp at h, fun i a h => by simp at h⟩
/-- What draftOf leaves. -/
def DOF (H : Nat → Option Obj) (ca : List Nat) (σ : Sto) (d : Nat → Nat) (any own : Option AB) (bs : Nat) (s' : Ds) (w : World) (e : Ending) (w' : World) : Prop :=
  ∃ db mb, e = .returned (CP db) ∧ DW H ca σ d ⟨db, mb, any, own⟩ bs s' w' ∧ Gb (DG ca ⟨db, mb, any, own⟩ bs) w w'
def anyOf (any : Option AB) : Value := match any with
  | none => ownV
  | some a => askV a
def ownOf (own : Option AB) : Value := match own with
  | none => .nilFunc
  | some a => askI a

theorem past3 {w : World} {k : Nat} {o1 o2 o3 x : Obj} (h : w.heap[k]? = some x) : (((w.alloc o1).alloc o2).alloc o3).heap[k]? = some x := by
  rw [Below.heap_alloc _ _ _ (by simp; have := lt_of_block h; omega)]
  exact past2 h
/-- A new draft. -/
theorem draft_new {H : Nat → Option Obj} {ca : List Nat} {σ : Sto} {d : Nat → Nat} {any own : Option AB} {bs : Nat} {O : List Nat} {w : World} (o1 : Obj) (hc : CSd H ca σ d w) (lowa : ∀ a, a ∈ ca → a < bs) (lowH : ∀ k o, H k = some o → k < bs) (big : bs ≤ w.heap.size)
    (han : ∀ a, any = some a → IO1 w a [] ∧ bs ≤ a.mb) (how : ∀ a, own = some a → IOI w a O ∧ H a.mb = none ∧ a.mb ∉ ca) (hap : ∀ a b, any = some a → own = some b → a.mb ≠ b.mb) :
    DW H ca σ d ⟨w.heap.size + 1 + 1, w.heap.size + 1, any, own⟩ bs (ds0 O) (((w.alloc o1).alloc (.map #[] 0)).alloc (.cells #[anyOf any, ownOf own, .slice none 0 0, .int .i64 0, .map (some (w.heap.size + 1))] 298)) := by
  have e1 : (w.alloc o1).heap.size = w.heap.size + 1 := by simp
  have e2 : ((w.alloc o1).alloc (.map #[] 0)).heap.size = w.heap.size + 1 + 1 := by simp
  have hs : ∀ (k : Nat) (x : Obj), w.heap[k]? = some x → (((w.alloc o1).alloc (.map #[] 0)).alloc (.cells #[anyOf any, ownOf own, .slice none 0 0, .int .i64 0, .map (some (w.heap.size + 1))] 298)).heap[k]? = w.heap[k]? := fun k x e => (past3 e).trans e.symm
  refine ⟨hc.gb (R := fun _ => False) ((((Gb.refl _ _).alloc _).alloc _).alloc _) (fun _ _ e => e) (fun _ _ _ e => e), ⟨⟨.slice none 0 0, ?_, rfl, Or.inl ⟨rfl, rfl⟩⟩, rfl, trivial, ⟨Nat.zero_le _, Nat.zero_le _⟩, ?_, fun a ha => ?_, fun a ha => ?_, hap, ⟨by show bs ≤ w.heap.size + 1 + 1; omega, by show bs ≤ w.heap.size + 1; omega⟩⟩, lowa, lowH, fun a ha => (how a ha).2, by simp; omega⟩
  · rw [heap_alloc_at _ _ _ e2.symm]
    unfold draftB Dc.anyV Dc.ownV anyOf ownOf
    rfl
  · have hm : GM kI standA 3 ((w.alloc o1).alloc (.map #[] 0)) (w.alloc o1).heap.size ([] : List (Nat × Nat × Nat)) := GM.new
    rw [e1] at hm
    exact hm.same (Below.heap_alloc _ _ _ (by simp))
  · obtain ⟨i, l1⟩ := han a ha
    obtain ⟨D, ⟨es, clock, q1, q2⟩, q3⟩ := i.mp
    have hl := lt_of_block q1
    exact ⟨i.same (hs _ _ i.mrk) (hs _ _ i.nf) (hs _ _ i.blk) (hs _ _ q1), l1, by show a.mb ≠ w.heap.size + 1; omega⟩
  · obtain ⟨i, l1⟩ := how a ha
    obtain ⟨es, cl, e⟩ := i.mp.isMap
    have hl := lt_of_block e
    exact ⟨i.same (hs _ _ i.mrk) (hs _ _ i.nf) (hs _ _ i.blk) (hs _ _ e), by show a.mb ≠ w.heap.size + 1; omega⟩
set_option maxRecDepth 100000 in
set_option maxHeartbeats 8000000 in
theorem draftOf_any {H : Nat → Option Obj} {ca : List Nat} {σ : Sto} {d : Nat → Nat} {any own : Option AB} {bs md F : Nat} {O : List Nat} {s' : Ds} {w : World} {v : Value} {t : Et}
    (hm0 : md = 0 ↔ any = none) (hm2 : md = 2 → own.isSome = true) (hv : ER H ca v t) (hs : draftS σ md F t (ds0 O) = some s') (hc : CSd H ca σ d w) (lowa : ∀ a, a ∈ ca → a < bs) (lowH : ∀ k o, H k = some o → k < bs) (big : bs ≤ w.heap.size)
    (han : ∀ a, any = some a → IO1 w a [] ∧ bs ≤ a.mb) (how : ∀ a, own = some a → IOI w a O ∧ H a.mb = none ∧ a.mb ∉ ca) (hap : ∀ a b, any = some a → own = some b → a.mb ≠ b.mb) :
    Calls Tryz.prog 112 #[v, .agg #[anyOf any, ownOf own]] w (DOF H ca σ d any own bs s' w) := by
  have hmm := @run_makeMap Tryz.prog
  have Q := hid (And.intro hm0 (And.intro hm2 (And.intro hv (And.intro hs (And.intro hc (And.intro lowa (And.intro lowH (And.intro han (And.intro how hap)))))))))
  clear hm0 hm2 hv hs hc lowa lowH han how hap
  obtain ⟨av, hav⟩ : ∃ av, av = anyOf any := ⟨_, rfl⟩
  obtain ⟨ov, hov⟩ : ∃ ov, ov = ownOf own := ⟨_, rfl⟩
  rw [← hav, ← hov]
  have C1 := hid (add_any (c := ⟨w.heap.size + 1 + 1, w.heap.size + 1, any, own⟩) (bs := bs) (md := md) ⟨Q.out.1, Q.out.2.1⟩ F v t (ds0 O) s' _ Q.out.2.2.1 Q.out.2.2.2.1 (draft_new (.cells #[av, ov] 244) Q.out.2.2.2.2.1 Q.out.2.2.2.2.2.1 Q.out.2.2.2.2.2.2.1 big Q.out.2.2.2.2.2.2.2.1 Q.out.2.2.2.2.2.2.2.2.1 Q.out.2.2.2.2.2.2.2.2.2))
  rw [← hav, ← hov] at C1
  unfold CP at C1
  clear hav hov
  go_enter Tryz.func112, Tryz.ntmps112
  go_wp2_with fail
  refine C1.out.mono ?_
  rintro e w1 ⟨rfl, r1, g1⟩
  have R1 := hid (And.intro r1 g1)
  clear r1 g1 C1
  go_wp2
  go_ret
  exact ⟨_, _, rfl, R1.out.1, Gb.allocL (Gb.allocL (Gb.allocL R1.out.2))⟩
end Go.Proofs.YtcdijppegfcoaaaGreatDoor

/-
  OUR OWN TEXT. The program's texts of types: OneText, OwnText.
-/
namespace Go.Proofs.YtcdijppegfcoaaaGreatDoor
open Go.RowKit
theorem Gb.none {w w' : World} (h : Gb (fun k => w.heap.size ≤ k) w w') : w.grownBy w' none := ⟨h.os, h.tape, h.output, h.size, fun k hk _ => h.block k hk (by omega)⟩
theorem Gb.below {w w' : World} (h : Below w.heap.size w w') (R : Nat → Prop) : Gb R w w' := ⟨h.os, h.tape, h.output, h.size, fun k hk _ => h.block k hk⟩
theorem DG.high {db mb bs : Nat} {any : Option AB} {w w' : World} (h : Gb (DG [] ⟨db, mb, any, none⟩ bs) w w') : Gb (fun k => bs ≤ k) w w' := h.mono fun k e => by
  rcases e with e | e | ⟨a, e, _⟩
  · cases e
  · exact e
  · cases e

set_option maxRecDepth 100000 in
set_option maxHeartbeats 8000000 in
theorem one_any {H : Nat → Option Obj} {v : Value} {t : Et} {F : Nat} {s' : Ds} {w : World} (hv : ER H [] v t) (hs : draftS ⟨[], []⟩ 1 F t (ds0 []) = some s') (hz : Fz H w) :
    Calls Tryz.prog 80 #[v] w fun e w' => e = .returned (.string (B s'.out)) ∧ w.grownBy w' none := by
  have Q := hid (And.intro hv (And.intro hs hz))
  clear hv hs hz
  go_enter Tryz.func80, Tryz.ntmps80
  go_wp2_with fail
  refine (letters_q w).mono ?_
  rintro e w1 ⟨ab, rfl, i1, g1, hmb⟩
  have C1 := hid (draftOf_any (H := H) (ca := []) (σ := ⟨[], []⟩) (d := fun _ => 0) (any := some ab) (own := none) (bs := w.heap.size) (md := 1) (O := []) (w := w1) ⟨fun e => absurd e (by decide), fun e => by cases e⟩ (fun e => absurd e (by decide)) Q.out.1 Q.out.2.1 (CSd.nil (Q.out.2.2.grown g1)) (fun a h => by cases h) (fun k o e => Q.out.2.2.lt e) g1.size (fun a e => by cases e; exact ⟨i1, hmb⟩) (fun a e => by cases e) (fun a b _ e => by cases e))
  have G1 := hid g1
  clear i1 g1 hmb
  unfold anyOf ownOf at C1
  simp only at C1
  unfold askV at *
  go_wp2_with fail
  refine C1.out.mono ?_
  rintro e w2 ⟨db, mb, rfl, r2, g2⟩
  have C2 := hid (dtext_any r2.dr)
  have R2 := hid g2
  clear r2 g2 C1
  unfold CP at *
  go_wp2_with fail
  refine C2.out.mono ?_
  rintro e w3 ⟨rfl, b3⟩
  have R3 := hid b3
  clear b3 C2
  go_wp2
  go_ret
  exact ⟨rfl, ((((Gb.new (R := fun k => w.heap.size ≤ k) G1.out).tr (DG.high R2.out)).tr (Gb.below R3.out _))).none⟩

end Go.Proofs.YtcdijppegfcoaaaGreatDoor

/-
  OUR OWN TEXT. The program's text of a type that was read, by its own names.
-/
namespace Go.Proofs.YtcdijppegfcoaaaGreatDoor
open Go.RowKit
theorem TyOk.kids {N m : Nat} {x : Ty} (h : TyOk N (m + 1) x) : ∀ y, y ∈ x.kids → TyOk N m y ∧ tySize m y ≤ tySize (m + 1) x := by
  intro y hy
  rcases h with ⟨h1, h2, h3⟩ | ⟨h1, h2, h3⟩ | ⟨h1, h2, a, h3, h4⟩ | ⟨h1, h2, a, b, h3, h4, h5⟩
  · rw [h3] at hy; cases hy
  · rw [h3] at hy; cases hy
  · rw [h3] at hy
    rw [List.mem_singleton.1 hy]
    exact ⟨h4, by rw [tySize, h3]; simp⟩
  · rw [h3] at hy
    rcases List.mem_cons.1 hy with rfl | hy
    · exact ⟨h4, by rw [tySize, h3]; simp; omega⟩
    · rw [List.mem_singleton.1 hy]
      exact ⟨h5, by rw [tySize, h3]; simp; omega⟩
end Go.Proofs.YtcdijppegfcoaaaGreatDoor

/-
  OUR OWN TEXT. The names that typerref's reader of types has met: a variable with a row of its own; the contract of arrow.
-/
namespace Go.Proofs.YtcdijppegfcoaaaGreatDoor
open Go.RowKit
/-- The names met so far, at a variable. -/
structure NM (w : World) (nb : Nat) (H : Nat → Option Obj) (v : Value) (ns : List (List UInt8)) : Prop where
  blk : w.heap[nb]? = some (.cells #[v] 34 (0, 0))
  row : w.ownsRow nb 9 1 v ns.length (strs ns)
  hx : H nb = none
  hn : ∀ k, some k = v.ownBlock → H k = none
theorem NM.cell {w : World} {nb : Nat} {H : Nat → Option Obj} {v : Value} {ns : List (List UInt8)} (h : NM w nb H v ns) : w.cell? ⟨nb, 0, none⟩ = some v ∧ w.frozen? ⟨nb, 0, none⟩ = false := by
  simp [World.cell?, World.frozen?, h.blk]
theorem NM.kept {w w' : World} {nb rb : Nat} {H H' : Nat → Option Obj} {v : Value} {ns : List (List UInt8)} (h : NM w nb H v ns) (hk : Kept rb w w') (he : Ext w.heap.size H H') (hr : rb < nb) : NM w' nb H' v ns := by
  have hl := lt_of_block h.blk
  have same : ∀ k, nb ≤ k → k < w.heap.size → w'.heap[k]? = w.heap[k]? := fun k h1 h2 => hk.block k h2 (by simp; omega)
  refine ⟨by rw [same nb (Nat.le_refl _) hl]; exact h.blk, own_at h.row fun k e => ?_, by rw [he.2 nb hl]; exact h.hx, fun k e => ?_⟩
  · have := own_lt h.row e; exact same k this.1 this.2
  · rw [he.2 k (own_lt h.row e).2]; exact h.hn k e
theorem NM.drewN {w : World} {nb : Nat} {H : Nat → Option Obj} {v : Value} {ns : List (List UInt8)} (h : NM w nb H v ns) (q : Nat) : NM (w.drewN q) nb H v ns := ⟨h.blk, h.row, h.hx, h.hn⟩
theorem NM.alloc {w : World} {nb : Nat} {H : Nat → Option Obj} {v : Value} {ns : List (List UInt8)} (h : NM w nb H v ns) (o : Obj) : NM (w.alloc o) nb H v ns :=
  ⟨by rw [Below.heap_alloc _ _ _ (lt_of_block h.blk)]; exact h.blk, h.row.alloc o, h.hx, h.hn⟩
/-- More blocks that no longer change, all of them new. -/
theorem NM.ext {w : World} {nb : Nat} {H H' : Nat → Option Obj} {v : Value} {ns : List (List UInt8)} (h : NM w nb H v ns) {n : Nat} (he : Ext n H H') (hn : w.heap.size ≤ n) : NM w nb H' v ns :=
  ⟨h.blk, h.row, by rw [he.2 nb (Nat.lt_of_lt_of_le (lt_of_block h.blk) hn)]; exact h.hx, fun k e => by rw [he.2 k (Nat.lt_of_lt_of_le (own_lt h.row e).2 hn)]; exact h.hn k e⟩

/-- What reading a type leaves. -/
def TyPost (T : List Tok) (w w' : World) (e : Ending) (rb g cap nb : Nat) (H : Nat → Option Obj) (t : Ty) (ns' : List (List UInt8)) (s' : St) : Prop :=
  ∃ b H' v' m, e = .returned (.pointer (some ⟨b, 0, none⟩)) ∧ RS w' rb g cap T s' ∧ s'.k < T.length ∧ KeptTo nb rb w w' ∧ Fz H' w' ∧ Ext w.heap.size H H' ∧ NM w' nb H' v' ns' ∧ TRep m H' b t

end Go.Proofs.YtcdijppegfcoaaaGreatDoor

/-
  OUR OWN TEXT (written by mkone.py). typerref's reader of types: one, where no name stands.
-/
namespace Go.Proofs.YtcdijppegfcoaaaGreatDoor
open Go.RowKit
/-- On the way: the reader, the names, what no longer changes. -/
structure BK (T : List Tok) (w w' : World) (rb g cap nb : Nat) (H H' : Nat → Option Obj) (v : Value) (ns : List (List UInt8)) (s : St) : Prop where
  r : RS w' rb g cap T s
  k : KeptTo nb rb w w'
  z : Fz H' w'
  x : Ext w.heap.size H H'
  n : NM w' nb H' v ns
  hr : rb < nb
  hn : H' rb = none
theorem BK.size {T : List Tok} {w w' : World} {rb g cap nb : Nat} {H H' : Nat → Option Obj} {v : Value} {ns : List (List UInt8)} {s : St} (h : BK T w w' rb g cap nb H H' v ns s) : w.heap.size ≤ w'.heap.size ∧ nb < w'.heap.size := ⟨h.k.size, lt_of_block h.n.blk⟩
theorem BK.step {T : List Tok} {w w1 w2 : World} {rb g cap nb : Nat} {H H' : Nat → Option Obj} {v : Value} {ns : List (List UInt8)} {s s2 : St} (h : BK T w w1 rb g cap nb H H' v ns s) (h2 : RS w2 rb g cap T s2) (hk : Kept rb w1 w2) : BK T w w2 rb g cap nb H H' v ns s2 :=
  ⟨h2, h.k.trans (KeptTo.of hk (by have := h.size; omega)), h.z.kept hk h.hn, h.x, h.n.kept hk (Ext.refl _ _) h.hr, h.hr, h.hn⟩
theorem BK.off {T : List Tok} {w w1 w2 : World} {rb g cap nb : Nat} {H H' : Nat → Option Obj} {v : Value} {ns : List (List UInt8)} {s : St} (h : BK T w w1 rb g cap nb H H' v ns s) {x : List UInt8} (hi : isS T s x = false) (h2 : RS w2 rb g cap T (takeS T s x)) (hk : Kept rb w1 w2) : BK T w w2 rb g cap nb H H' v ns s :=
  h.step (by unfold takeS at h2; rw [if_neg (by rw [hi]; decide)] at h2; exact h2) hk
theorem BK.on {T : List Tok} {w w1 w2 : World} {rb g cap nb : Nat} {H H' : Nat → Option Obj} {v : Value} {ns : List (List UInt8)} {s : St} (h : BK T w w1 rb g cap nb H H' v ns s) {x : List UInt8} (hi : isS T s x = true) (h2 : RS w2 rb g cap T (takeS T s x)) (hk : Kept rb w1 w2) : BK T w w2 rb g cap nb H H' v ns s.up :=
  h.step (by unfold takeS at h2; rw [if_pos hi] at h2; exact h2) hk
theorem BK.post {T : List Tok} {w w1 w2 : World} {rb g cap nb : Nat} {H H1 : Nat → Option Obj} {v : Value} {ns ns' : List (List UInt8)} {s s' : St} {e : Ending} {t : Ty} (h : BK T w w1 rb g cap nb H H1 v ns s) (p : TyPost T w1 w2 e rb g cap nb H1 t ns' s') :
    ∃ b H2 v2 m, e = .returned (.pointer (some ⟨b, 0, none⟩)) ∧ s'.k < T.length ∧ BK T w w2 rb g cap nb H H2 v2 ns' s' ∧ TRep m H2 b t := by
  obtain ⟨b, H2, v2, m, e1, h1, hk, kt, z, x, nm, r⟩ := p
  have hsz := h.size
  exact ⟨b, H2, v2, m, e1, hk, ⟨h1, h.k.trans kt, z, h.x.trans x (by omega), nm, h.hr, by rw [x.2 rb (by have := h.hr; omega)]; exact h.hn⟩, r⟩
theorem BK.one {T : List Tok} {w w1 : World} {rb g cap nb : Nat} {H H' : Nat → Option Obj} {v : Value} {ns : List (List UInt8)} {s : St} (h : BK T w w1 rb g cap nb H H' v ns s) (hk : s.k < T.length) (k : List UInt8) {b m : Nat} {x : Ty} (hx : TRep m H' b x) :
    TyPost T w ((w1.alloc (.cells #[.pointer (some ⟨b, 0, none⟩)] 33)).alloc (.cells #[.string (B k), .int .i64 0, .slice (some ⟨w1.heap.size, 0, none⟩) 1 1] 103)) (.returned (.pointer (some ⟨w1.heap.size + 1, 0, none⟩))) rb g cap nb H ⟨k, 0, [x]⟩ ns s := by
  obtain ⟨H2, m2, y1, y2, y3⟩ := ty_one h.z k hx
  have hsz := h.size
  exact ⟨_, H2, v, m2, rfl, (h.r.alloc _).alloc _, hk, (h.k.alloc (by omega) _).alloc (by simp; omega) _, y1, h.x.trans y2 (by omega), ((h.n.ext y2 (Nat.le_refl _)).alloc _).alloc _, y3⟩
/-- A pair, on the way. -/
theorem BK.two {T : List Tok} {w w1 : World} {rb g cap nb : Nat} {H H' : Nat → Option Obj} {v : Value} {ns : List (List UInt8)} {s : St} (h : BK T w w1 rb g cap nb H H' v ns s) (k : List UInt8) {b c m m2 : Nat} {x y : Ty} (hx : TRep m H' b x) (hy : TRep m2 H' c y) :
    ∃ H2 m3, BK T w ((w1.alloc (.cells #[.pointer (some ⟨b, 0, none⟩), .pointer (some ⟨c, 0, none⟩)] 33)).alloc (.cells #[.string (B k), .int .i64 0, .slice (some ⟨w1.heap.size, 0, none⟩) 2 2] 103)) rb g cap nb H H2 v ns s ∧ TRep m3 H2 (w1.heap.size + 1) ⟨k, 0, [x, y]⟩ := by
  obtain ⟨H2, m2, y1, y2, y3⟩ := ty_two h.z k hx hy
  have hsz := h.size
  exact ⟨H2, m2, ⟨(h.r.alloc _).alloc _, (h.k.alloc (by omega) _).alloc (by simp; omega) _, y1, h.x.trans y2 (by omega), ((h.n.ext y2 (Nat.le_refl _)).alloc _).alloc _, h.hr, by rw [y2.2 rb (by have := h.hr; omega)]; exact h.hn⟩, y3⟩
theorem BK.end {T : List Tok} {w w1 : World} {rb g cap nb : Nat} {H H' : Nat → Option Obj} {v : Value} {ns : List (List UInt8)} {s : St} (h : BK T w w1 rb g cap nb H H' v ns s) (hk : s.k < T.length) {b m : Nat} {x : Ty} (hx : TRep m H' b x) :
    TyPost T w w1 (.returned (.pointer (some ⟨b, 0, none⟩))) rb g cap nb H x ns s := ⟨b, H', v, m, rfl, h.r, hk, h.k, h.z, h.x, h.n, hx⟩

end Go.Proofs.YtcdijppegfcoaaaGreatDoor

/-
  OUR OWN TEXT. typerref's reader of types: one, where a name stands.
-/
namespace Go.Proofs.YtcdijppegfcoaaaGreatDoor
open Go.RowKit
theorem NM.blkA {w w1 : World} {nb : Nat} {H : Nat → Option Obj} {v : Value} {ns : List (List UInt8)} (h : NM w nb H v ns) {o : Obj} (hg : (w.alloc o).grownBy w1 v.ownBlock) : w1.heap[nb]? = some (.cells #[v] 34 (0, 0)) := by
  have hl := lt_of_block h.blk
  rw [hg.block nb (by simp; omega) (fun e => row_not h.row h.blk (by decide) nb e rfl), Below.heap_alloc _ _ _ hl]
  exact h.blk
theorem set1_0 {w : World} {b : Nat} {p : Value} {t : TypeId} (h : w.heap[b]? = some (.cells #[p] t (0, 0))) (u : Value) : (w.setCell ⟨b, 0, none⟩ u).heap[b]? = some (.cells #[u] t (0, 0)) := by
  simp [World.setCell, Array.getElem?_modify, h]
/-- A name more. -/
theorem NM.add {w w1 : World} {nb : Nat} {H : Nat → Option Obj} {v : Value} {ns : List (List UInt8)} (h : NM w nb H v ns) (hz : Fz H w) {n : List UInt8} {o : Obj} {g cap : Nat}
    (hown : w1.ownsRow nb 9 1 (.slice (some ⟨g, 0, none⟩) (ns.length + 1) cap) (ns.length + 1) (strs ns ++ [.string (B n)])) (hg : (w.alloc o).grownBy w1 v.ownBlock) (hat : v.ownBlock = some g ∨ g = w.heap.size + 1) :
    NM (w1.setCell ⟨nb, 0, none⟩ (.slice (some ⟨g, 0, none⟩) (ns.length + 1) cap)) nb H (.slice (some ⟨g, 0, none⟩) (ns.length + 1) cap) (ns ++ [n]) ∧
    Fz H (w1.setCell ⟨nb, 0, none⟩ (.slice (some ⟨g, 0, none⟩) (ns.length + 1) cap)) ∧ (∀ rb, KeptTo nb rb w (w1.setCell ⟨nb, 0, none⟩ (.slice (some ⟨g, 0, none⟩) (ns.length + 1) cap))) ∧ ∀ k, k < nb → (w1.setCell ⟨nb, 0, none⟩ (.slice (some ⟨g, 0, none⟩) (ns.length + 1) cap)).heap[k]? = w.heap[k]? := by
  have hl := lt_of_block h.blk
  have same : ∀ k, k < w.heap.size → some k ≠ v.ownBlock → w1.heap[k]? = w.heap[k]? := fun k h1 h2 => by
    rw [hg.block k (by simp; omega) h2, Below.heap_alloc _ _ _ h1]
  have b1 := h.blkA hg
  have nH : H g = none := by
    rcases hat with e | e
    · exact h.hn g e.symm
    · rw [e]; exact hz.none (by omega)
  have fz1 : Fz H w1 := fun k o' e => by
    rw [same k (hz.lt e) (fun e' => by rw [h.hn k e'] at e; cases e)]
    exact hz k o' e
  refine ⟨⟨set1_0 b1 _, ?_, h.hx, fun k e => ?_⟩, fz1.set h.hx _ _, ?_, fun k hk => ?_⟩
  · have e1 : (ns ++ [n]).length = ns.length + 1 := by simp
    have e2 : strs (ns ++ [n]) = strs ns ++ [.string (B n)] := by simp [strs]
    rw [e1, e2]
    exact own_at hown fun k e => Below.heap_setCell _ _ _ _ (row_not hown b1 (by decide) k e)
  · simp only [Value.ownBlock, Option.some.injEq] at e
    rw [e]; exact nH
  · intro rb
    have kt : KeptTo nb rb w w1 := ⟨hg.os, hg.tape, hg.output, Nat.le_trans (by simp) hg.size, fun k hk _ => same k (by omega) (fun e => by have := (own_lt h.row e).1; omega)⟩
    exact kt.setCell (Nat.le_refl _) _ _
  · rw [Below.heap_setCell _ _ _ _ (by show k ≠ nb; omega)]
    exact same k (by omega) (fun e => by have := (own_lt h.row e).1; omega)
end Go.Proofs.YtcdijppegfcoaaaGreatDoor
