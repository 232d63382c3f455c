import Derived.Test.YtcdijppegfcoaaaGreatDoorZT07
import Derived.Test.YtcdijppegfcoaaaGreatDoorZT08
import Derived.Outline
import Derived.Deep.RegionWith
/-
  OUR OWN TEXT. The program's drafts of texts: what one holds; put, word.
-/
namespace Go.Proofs.YtcdijppegfcoaaaGreatDoor
open Go.RowKit
def stepL (s : List UInt8 × Nat × Nat) : List Value := [.string (B s.1), .int .i64 (s.2.1 : Int), .int .i64 (s.2.2 : Int)]
def stepA (s : List UInt8 × Nat × Nat) : Value := .agg #[.string (B s.1), .int .i64 (s.2.1 : Int), .int .i64 (s.2.2 : Int)]
def standA (s : Nat × Nat) : Value := .agg #[.string (B []), .int .i64 (s.1 : Int), .int .i64 (s.2 : Int)]
def stepsL (l : List (List UInt8 × Nat × Nat)) : List Value := l.flatMap stepL
/-- What steps write. -/
def runS : List (List UInt8 × Nat × Nat) → List UInt8 → List UInt8
  | [], out => out
  | (x, f, t) :: l, out => runS l (out ++ x ++ ((out ++ x).drop f).take (t - f))
theorem runS_app (l r : List (List UInt8 × Nat × Nat)) (out : List UInt8) : runS (l ++ r) out = runS r (runS l out) := by
  induction l generalizing out with
  | nil => rfl
  | cons a l ih => obtain ⟨x, f, t⟩ := a; simp [runS, ih]
/-- All steps may be run. -/
def okS : List (List UInt8 × Nat × Nat) → List UInt8 → Prop
  | [], _ => True
  | (x, f, t) :: l, out => f ≤ t ∧ t ≤ out.length + x.length ∧ okS l (out ++ x ++ ((out ++ x).drop f).take (t - f))
theorem okS_app (l r : List (List UInt8 × Nat × Nat)) (out : List UInt8) : okS (l ++ r) out ↔ okS l out ∧ okS r (runS l out) := by
  induction l generalizing out with
  | nil => simp [okS, runS]
  | cons a l ih => obtain ⟨x, f, t⟩ := a; simp [okS, runS, ih, and_assoc]

/-- inOrder's function, of numbers; letters'. -/
def numI (cb : Nat) : Value := .func (.func 267) #[] #[.pointer (some ⟨cb, 0, none⟩)]
def askI (a : AB) : Value := .func (.func 264) #[] #[.pointer (some ⟨a.kb, 0, none⟩), .pointer (some ⟨a.nb, 0, none⟩)]
def natV (n : Nat) : Value := .int .i64 (n : Int)
structure IOI (w : World) (a : AB) (O : List Nat) : Prop where
  mrk : w.heap[a.kb]? = some (.cells #[.string (B [95])] 9 (0, 0))
  nf : w.heap[a.nb]? = some (.cells #[numI a.cb] 429 (0, 0))
  blk : w.heap[a.cb]? = some (.cells #[.map (some a.mb)] 424 (0, 0))
  mp : GM kI natV 3 w a.mb (O.zip (List.range O.length))
  few : ∀ c, c ∈ O → c ≤ 1099511627776
theorem IOI.same {w w' : World} {a : AB} {O : List Nat} (h : IOI w a O) (h1 : w'.heap[a.kb]? = w.heap[a.kb]?) (h2 : w'.heap[a.nb]? = w.heap[a.nb]?) (h3 : w'.heap[a.cb]? = w.heap[a.cb]?) (h4 : w'.heap[a.mb]? = w.heap[a.mb]?) : IOI w' a O :=
  ⟨h1.trans h.mrk, h2.trans h.nf, h3.trans h.blk, h.mp.same h4, h.few⟩
theorem IO1.same {w w' : World} {a : AB} {L : List (List UInt8)} (h : IO1 w a L) (h1 : w'.heap[a.kb]? = w.heap[a.kb]?) (h2 : w'.heap[a.nb]? = w.heap[a.nb]?) (h3 : w'.heap[a.cb]? = w.heap[a.cb]?) (h4 : w'.heap[a.mb]? = w.heap[a.mb]?) : IO1 w' a L := by
  refine ⟨h1.trans h.mrk, h2.trans h.nf, h3.trans h.blk, ?_⟩
  obtain ⟨D, ⟨es, clock, q1, q2⟩, q3⟩ := h.mp
  exact ⟨D, ⟨es, clock, h4.trans q1, q2⟩, q3⟩

/-- Where a draft's things lie. any: none: names ca they are. own: none: nobody asks for cells' names. -/
structure Dc where
  db : Nat
  mb : Nat
  any : Option AB
  own : Option AB
def ownV : Value := .func (.func 229) #[] #[]
def Dc.anyV (c : Dc) : Value := match c.any with
  | none => ownV
  | some a => askV a
def Dc.ownV (c : Dc) : Value := match c.own with
  | none => .nilFunc
  | some a => askI a
def draftB (c : Dc) (sv : Value) (n : Nat) : Obj := .cells #[c.anyV, c.ownV, sv, .int .i64 (n : Int), .map (some c.mb)] 298 (0, 0)
/-- A draft in memory; what it may change lies from bs on, but for the map of own. -/
structure DR (c : Dc) (bs : Nat) (s : Ds) (w : World) : Prop where
  blk : ∃ sv, w.heap[c.db]? = some (draftB c sv s.out.length) ∧ w.ownsRow bs 306 3 sv s.steps.length (stepsL s.steps)
  run : runS s.steps [] = s.out
  ok : okS s.steps []
  short : s.out.length ≤ 100000 ∧ s.steps.length ≤ 100000
  st : GM kI standA 3 w c.mb s.stands
  an : ∀ a, c.any = some a → IO1 w a s.L ∧ bs ≤ a.mb ∧ a.mb ≠ c.mb
  ow : ∀ a, c.own = some a → IOI w a s.O ∧ a.mb ≠ c.mb
  ap : ∀ a b, c.any = some a → c.own = some b → a.mb ≠ b.mb
  lo : bs ≤ c.db ∧ bs ≤ c.mb
/-- What a draft changes. -/
def DCh (c : Dc) (bs : Nat) (k : Nat) : Prop := bs ≤ k ∨ ∃ a, c.own = some a ∧ k = a.mb
/-- The steps are others, and what has been written. -/
theorem DR.put {c : Dc} {bs : Nat} {s : Ds} {w w1 w' : World} {sv sv' : Value} {x : List UInt8} {f t : Nat} {s' : Ds} (h : DR c bs s w) (hp : putS x f t s = some s') (hb : w.heap[c.db]? = some (draftB c sv s.out.length))
    (g : w.grownBy w1 sv.ownBlock) (hown : w1.ownsRow bs 306 3 sv' (s.steps.length + 1) (stepsL s.steps ++ stepL (x, f, t))) (ho : w.ownsRow bs 306 3 sv s.steps.length (stepsL s.steps))
    (hw' : w'.heap[c.db]? = some (draftB c sv' (s.out.length + (x.length + (t - f))))) (hk : ∀ k, k < w1.heap.size → k ≠ c.db → w'.heap[k]? = w1.heap[k]?) : DR c bs s' w' := by
  unfold putS at hp
  split at hp
  · rename_i hc
    obtain ⟨c1, c2, c3, c4⟩ := hc
    cases hp
    have hout : (s.out ++ x ++ ((s.out ++ x).drop f).take (t - f)).length = s.out.length + (x.length + (t - f)) := by simp; omega
    -- the row's block, if there is one
    have hrow : ∀ k o, w.heap[k]? = some o → (∀ cs fz, o ≠ .cells cs 306 fz) → k ≠ c.db → w'.heap[k]? = w.heap[k]? := fun k o e1 e2 e3 => by
      have hl := lt_of_block e1
      rw [hk k (Nat.lt_of_lt_of_le hl g.size) e3, g.block k hl (fun e4 => ?_)]
      rcases ho.2 with ⟨rfl, _⟩ | ⟨gb, cap, cur, rfl, _, q3, _⟩
      · simp [Value.ownBlock] at e4
      · simp [Value.ownBlock] at e4
        rw [e4, q3] at e1
        exact e2 _ _ (Option.some.inj e1).symm
    have hcell : ∀ (k : Nat) (cs : Array Value) (T : TypeId) (fz : Nat × Nat), w.heap[k]? = some (Obj.cells cs T fz) → T ≠ 306 → T ≠ 298 → w'.heap[k]? = w.heap[k]? := fun k cs T fz e1 e2 e3 =>
      hrow k _ e1 (fun cs' fz' e => by injection e; exact e2 (by assumption)) (fun e => by rw [e, hb] at e1; unfold draftB at e1; injection e1 with e1; injection e1 with _ e1 _; exact e3 e1.symm)
    have hmap : ∀ (k : Nat) (es : Array MapEntry) (cl : Nat), w.heap[k]? = some (Obj.map es cl) → w'.heap[k]? = w.heap[k]? := fun k es cl e1 =>
      hrow k _ e1 (fun cs' fz' e => by cases e) (fun e => by rw [e, hb] at e1; unfold draftB at e1; cases e1)
    have hg : ∀ (a : Nat), (∃ es cl, w.heap[a]? = some (Obj.map es cl)) → w'.heap[a]? = w.heap[a]? := fun a ⟨es, cl, e⟩ => hmap a es cl e
    refine ⟨⟨sv', by show w'.heap[c.db]? = some (draftB c sv' (s.out ++ x ++ ((s.out ++ x).drop f).take (t - f)).length); rw [hout]; exact hw', ?_⟩, ?_, ?_, ⟨by show (s.out ++ x ++ ((s.out ++ x).drop f).take (t - f)).length ≤ _; rw [hout]; omega, by simp; omega⟩, ?_, fun a ha => ?_, fun a ha => ?_, h.ap, h.lo⟩
    · show w'.ownsRow bs _ 3 sv' (s.steps ++ [(x, f, t)]).length (stepsL (s.steps ++ [(x, f, t)]))
      have e1 : stepsL (s.steps ++ [(x, f, t)]) = stepsL s.steps ++ stepL (x, f, t) := by simp [stepsL]
      rw [e1, List.length_append]
      refine ⟨hown.1, ?_⟩
      rcases hown.2 with q | ⟨gb, cap, cur, q1, q2, q3, q4⟩
      · exact Or.inl q
      · refine Or.inr ⟨gb, cap, cur, q1, q2, ?_, q4⟩
        rw [hk gb (lt_of_block q3) (fun e => ?_)]
        · exact q3
        · have hd : w1.heap[c.db]? = w.heap[c.db]? := g.block c.db (lt_of_block hb) (fun e4 => by
            rcases ho.2 with ⟨rfl, _⟩ | ⟨gb2, cap2, cur2, rfl, _, q5, _⟩
            · simp [Value.ownBlock] at e4
            · simp [Value.ownBlock] at e4
              rw [← e4, hb] at q5
              unfold draftB at q5
              injection q5 with q5
              injection q5 with _ q5 _
              exact absurd q5 (by decide))
          rw [e, hd, hb] at q3
          unfold draftB at q3
          injection q3 with q3
          injection q3 with _ q3 _
          exact absurd q3 (by decide)
    · show runS (s.steps ++ [(x, f, t)]) [] = _
      rw [runS_app, h.run]
      rfl
    · show okS (s.steps ++ [(x, f, t)]) []
      rw [okS_app, h.run]
      exact ⟨h.ok, c1, c2, trivial⟩
    · exact h.st.same (hg _ h.st.isMap)
    · obtain ⟨i, l1, l2⟩ := h.an a ha
      obtain ⟨D, ⟨es, clock, q1, q2⟩, q3⟩ := i.mp
      exact ⟨i.same (hcell _ _ _ _ i.mrk (by decide) (by decide)) (hcell _ _ _ _ i.nf (by decide) (by decide)) (hcell _ _ _ _ i.blk (by decide) (by decide)) (hmap _ _ _ q1), l1, l2⟩
    · obtain ⟨i, l1⟩ := h.ow a ha
      exact ⟨i.same (hcell _ _ _ _ i.mrk (by decide) (by decide)) (hcell _ _ _ _ i.nf (by decide) (by decide)) (hcell _ _ _ _ i.blk (by decide) (by decide)) (hg _ i.mp.isMap), l1⟩
  · cases hp
/-- What put leaves. -/
def PUT (c : Dc) (bs : Nat) (s' : Ds) (w : World) (e : Ending) (w' : World) : Prop := e = .returned (.tuple #[]) ∧ DR c bs s' w' ∧ Gb (fun k => bs ≤ k) w w'
theorem info_step : (Tryz.prog.info? 306).map (fun i => (i.zero, i.size, i.bytes)) = some (some (.agg #[.string (B []), .int .i64 0, .int .i64 0]), 3, 32) := by kernel_rfl
end Go.Proofs.YtcdijppegfcoaaaGreatDoor

/-
  OUR OWN TEXT. The program's drafts: put, word.
-/
namespace Go.Proofs.YtcdijppegfcoaaaGreatDoor
open Go.RowKit
theorem draft_cells {w : World} {c : Dc} {sv : Value} {n : Nat} (h : w.heap[c.db]? = some (draftB c sv n)) : w.cell? ⟨c.db, 0, none⟩ = some c.anyV ∧ w.cell? ⟨c.db, 1, none⟩ = some c.ownV ∧ w.cell? ⟨c.db, 2, none⟩ = some sv ∧ w.cell? ⟨c.db, 3, none⟩ = some (.int .i64 (n : Int)) ∧ w.cell? ⟨c.db, 4, none⟩ = some (.map (some c.mb)) ∧ w.frozen? ⟨c.db, 2, none⟩ = false ∧ w.frozen? ⟨c.db, 3, none⟩ = false := by
  simp [World.cell?, World.frozen?, h, draftB]
theorem three_at (w : World) (n : Nat) (hn : w.heap.size = n) (a b c : Value) (t : TypeId) : ∀ (j : Nat) (u : Value), [a, b, c][j]? = some u → (w.alloc (.cells #[a, b, c] t)).cell? (Addr.add ⟨n, 0, none⟩ j) = some u := by
  subst hn
  intro j u h
  match j, h with
  | 0, h => simp at h; subst h; simp [go_sem]
  | 1, h => simp at h; subst h; simp [go_sem]
  | 2, h => simp at h; subst h; simp [go_sem]
  | j + 3, h => simp at h
theorem step_one (x : List UInt8) (f t : Nat) : ∀ u, u ∈ stepL (x, f, t) → u.oneCell' = true := by
  intro u hu
  simp [stepL] at hu
  rcases hu with rfl | rfl | rfl <;> rfl
theorem past2 {w : World} {k : Nat} {o1 o2 x : Obj} (h : w.heap[k]? = some x) : ((w.alloc o1).alloc o2).heap[k]? = some x := by
  rw [Below.heap_alloc _ _ _ (by simp; have := lt_of_block h; omega), Below.heap_alloc _ _ _ (lt_of_block h)]
  exact h
theorem row_lt {w : World} {sv : Value} {m bs : Nat} {xs : List Value} {t : TypeId} {k : Nat} (ho : w.ownsRow bs t k sv m xs) : some w.heap.size ≠ sv.ownBlock := fun e => by
  rcases ho.2 with ⟨rfl, _⟩ | ⟨gb, cap, cur, rfl, _, q3, _⟩
  · simp [Value.ownBlock] at e
  · simp [Value.ownBlock] at e
    have := lt_of_block q3
    omega
theorem past1 {w : World} {o2 : Obj} {cs : Array Value} {t : TypeId} : ((w.alloc (.cells cs t)).alloc o2).heap[w.heap.size]? = some (.cells cs t (0, 0)) := by
  rw [Below.heap_alloc _ _ _ (by simp)]
  exact heap_alloc_at _ _ _ rfl
theorem three_cells {w : World} {n : Nat} {x y z : Value} {t : TypeId} (h : w.heap[n]? = some (.cells #[x, y, z] t (0, 0))) : w.cell? ⟨n, 0, none⟩ = some x ∧ w.cell? ⟨n, 1, none⟩ = some y ∧ w.cell? ⟨n, 2, none⟩ = some z := by simp [World.cell?, h]
theorem draft_ne {w : World} {c : Dc} {sv : Value} {n m bs : Nat} {xs : List Value} (h : w.heap[c.db]? = some (draftB c sv n)) (ho : w.ownsRow bs 306 3 sv m xs) : some c.db ≠ sv.ownBlock := fun e => by
  rcases ho.2 with ⟨rfl, _⟩ | ⟨gb, cap, cur, rfl, _, q3, _⟩
  · simp [Value.ownBlock] at e
  · simp [Value.ownBlock] at e
    rw [← e, h] at q3
    unfold draftB at q3
    injection q3 with q3
    injection q3 with _ q3 _
    exact absurd q3 (by decide)
theorem put_end {c : Dc} {bs : Nat} {s s' : Ds} {w W w7 : World} {x : List UInt8} {f t : Nat} {sv : Value} {g7 cap7 : Nat} (h : DR c bs s w) (hp : putS x f t s = some s') (hb : w.heap[c.db]? = some (draftB c sv s.out.length)) (hown : w.ownsRow bs 306 3 sv s.steps.length (stepsL s.steps))
    (gW : w.grownBy W none) (hown7 : w7.ownsRow bs 306 3 (.slice (some ⟨g7, 0, none⟩) (s.steps.length + 1) cap7) (s.steps.length + 1) (stepsL s.steps ++ stepL (x, f, t))) (hg7 : W.grownBy w7 sv.ownBlock) (b7 : w7.heap[c.db]? = some (draftB c sv s.out.length)) :
    PUT c bs s' w (.returned (.tuple #[])) ((w7.setCell ⟨c.db, 2, none⟩ (.slice (some ⟨g7, 0, none⟩) (s.steps.length + 1) cap7)).setCell ⟨c.db, 3, none⟩ (.int .i64 ((s.out.length : Int) + ((x.length : Int) + (t : Int) - (f : Int))))).drew := by
  have g : w.grownBy w7 sv.ownBlock := ⟨hg7.os.trans gW.os, hg7.tape.trans gW.tape, hg7.output.trans gW.output, Nat.le_trans gW.size hg7.size, fun k hk hn => by rw [hg7.block k (Nat.lt_of_lt_of_le hk gW.size) hn, gW.block k hk (by simp)]⟩
  have hft : f ≤ t := by
    unfold putS at hp
    split at hp
    · omega
    · cases hp
  refine ⟨rfl, h.put hp hb g hown7 hown ?_ (fun k hk hn => ?_), ?_⟩
  · show ((w7.setCell _ _).setCell _ _).heap[c.db]? = _
    have e : ((s.out.length : Int) + ((x.length : Int) + (t : Int) - (f : Int))) = ((s.out.length + (x.length + (t - f)) : Nat) : Int) := by omega
    rw [e]
    simp [World.setCell, Array.getElem?_modify, b7, draftB]
  · show ((w7.setCell _ _).setCell _ _).heap[k]? = _
    rw [Below.heap_setCell _ _ _ _ hn, Below.heap_setCell _ _ _ _ hn]
  · have g1 : Gb (fun k => bs ≤ k) w w7 := Gb.of g (fun b e => Or.inl (by
      rcases hown.2 with ⟨rfl, _⟩ | ⟨gb, cap, cur, rfl, q2, _⟩
      · cases e
      · simp [Value.ownBlock] at e
        rw [← e]; exact q2))
    exact ((g1.set (Or.inl h.lo.1) 2 _).set (Or.inl h.lo.1) 3 _).drew
set_option maxRecDepth 100000 in
set_option maxHeartbeats 4000000 in
theorem put_any {c : Dc} {bs : Nat} {s s' : Ds} {w : World} {x : List UInt8} {f t : Nat} (h : DR c bs s w) (hp : putS x f t s = some s') (hbs : bs ≤ w.heap.size) :
    Calls Tryz.prog 186 #[CP c.db, stepA (x, f, t)] w (PUT c bs s' w) := by
  obtain ⟨sv, hb, hown⟩ := h.blk
  obtain ⟨_, _, c2, c3, _, f2, f3⟩ := draft_cells hb
  have hdl := lt_of_block hb
  have Q := hid (And.intro h (And.intro hp (And.intro hb (And.intro hown (draft_ne hb hown)))))
  have hn : s.out.length ≤ 100000 ∧ s.steps.length < 100000 ∧ f ≤ t ∧ t ≤ 100000 ∧ x.length ≤ 100000 := by
    unfold putS at hp
    split at hp
    · omega
    · cases hp
  obtain ⟨hn1, hn2, hn3, hn4, hn5⟩ := hn
  obtain ⟨i0, hi, hz0, hz1, hz2⟩ := info_parts info_step
  clear h hp hb
  unfold CP stepA
  go_enter Tryz.func186, Tryz.ntmps186
  go_wp2_with fail
  have NR := hid (row_lt hown)
  have hsz : (B x).size = x.length := size_B x
  have hm1 : s.steps.length + 1 ≤ maxLen := by unfold maxLen; omega
  have hm2 : (s.steps.length + 1) * 32 ≤ 140737488355328 := by omega
  have hm3 : (w.alloc (.cells #[.string (B x), .int .i64 (f : Int), .int .i64 (t : Int)] 306)).heap.size = w.heap.size + 1 := by simp
  go_region_law (refine step_append_lies _ rfl (.tmp 9) (.tmp 11) 296 rfl bs 306 i0 (.agg #[.string (B []), .int .i64 0, .int .i64 0]) 3 32 Tryz.underlying296 hi hz0 hz1 hz2 rfl (by decide) sv s.steps.length (stepsL s.steps) rfl (((hown.alloc _).alloc _)) ⟨w.heap.size + 1, 0, none⟩ 1 1 (stepL (x, f, t)) rfl rfl (three_at _ _ hm3 _ _ _ _) (step_one x f t) (by decide) hm1 hm2 (by simp; omega) (w.heap.size + 2) (by simp) ?_; intro g7 cap7 w7 hown7 hgrow7 hat7 _; have b7 := (hgrow7.block c.db (by simp; omega) Q.out.2.2.2.2).trans (past2 Q.out.2.2.1); obtain ⟨_, _, x2, x3, _, y2, y3⟩ := draft_cells b7; obtain ⟨z0, z1, z2⟩ := three_cells ((hgrow7.block w.heap.size (by simp; omega) NR.out).trans past1); have R7 := hid (And.intro hown7 (And.intro hgrow7 (And.intro hat7 b7))); clear hown7 hgrow7 hat7 b7)
  all_goals
    go_wp2_with fail
    go_region
    go_wp2
    first | go_end0 | skip
    exact put_end Q.out.1 Q.out.2.1 Q.out.2.2.1 Q.out.2.2.2.1 (grown_drew ((World.grownBy_alloc _ _ none).trans (World.grownBy_alloc _ _ none))) R7.out.1 R7.out.2.1 R7.out.2.2.2
end Go.Proofs.YtcdijppegfcoaaaGreatDoor

/-
  OUR OWN TEXT. The program's drafts: cells' names; what a draft and the cells are together; word.
-/
namespace Go.Proofs.YtcdijppegfcoaaaGreatDoor
open Go.RowKit
/-- The cells that were asked for, and their numbers. -/
def zipO (O : List Nat) : List (Nat × Nat) := O.zip (List.range O.length)
theorem zipO_snoc (O : List Nat) (c : Nat) : zipO (O ++ [c]) = zipO O ++ [(c, O.length)] := by
  unfold zipO
  rw [List.length_append]
  show (O ++ [c]).zip (List.range (O.length + 1)) = _
  rw [List.range_succ, List.zip_append (by simp)]
  rfl
theorem zipO_keys (O : List Nat) : (zipO O).map (·.1) = O := by
  unfold zipO
  rw [List.map_fst_zip]
  simp
theorem getL_zipO {c : Nat} : ∀ (O : List Nat) (n : Nat), c ∈ O → getL (O.zip (List.range' n O.length)) c = some (n + O.idxOf c)
  | [], _, h => by cases h
  | a :: O, n, h => by
    rw [List.length_cons, List.range'_succ, List.zip_cons_cons, getL, List.idxOf_cons]
    by_cases e : a = c
    · simp [e]
    · rw [if_neg e, getL_zipO O (n + 1) (by rcases List.mem_cons.1 h with h | h; exact absurd h.symm e; exact h)]
      rw [beq_false_of_ne e]
      show some (n + 1 + O.idxOf c) = some (n + (O.idxOf c + 1))
      congr 1
      omega
theorem getL_in {O : List Nat} {c : Nat} (h : c ∈ O) : getL (zipO O) c = some (O.idxOf c) := by
  have := getL_zipO O 0 h
  rw [← List.range_eq_range'] at this
  simpa [zipO] using this
theorem getL_out {O : List Nat} {c : Nat} (h : c ∉ O) : getL (zipO O) c = none := getL_none.2 (by rw [zipO_keys]; exact h)
theorem zero_int (w : World) : (zeroValue 3).run Tryz.prog w = .ok (.int .i64 0) w := by kernel_rfl

theorem IOI.ne {w : World} {a : AB} {O : List Nat} (h : IOI w a O) : a.cb ≠ a.mb ∧ a.kb ≠ a.mb ∧ a.nb ≠ a.mb := ⟨h.mp.apart h.blk, h.mp.apart h.mrk, h.mp.apart h.nf⟩
theorem IOI.over {w w' : World} {a : AB} {O O' : List Nat} (h : IOI w a O) (hg : w.grownBy w' (some a.mb)) (hm : GM kI natV 3 w' a.mb (zipO O')) (hf : ∀ c, c ∈ O' → c ≤ 1099511627776) : IOI w' a O' :=
  ⟨by rw [hg.block _ (lt_of_block h.mrk) (by simp; exact h.ne.2.1)]; exact h.mrk, by rw [hg.block _ (lt_of_block h.nf) (by simp; exact h.ne.2.2)]; exact h.nf, by rw [hg.block _ (lt_of_block h.blk) (by simp; exact h.ne.1)]; exact h.blk, hm, hf⟩

set_option maxRecDepth 100000 in
set_option maxHeartbeats 2000000 in
theorem num_i (w : World) (a : AB) (c : Nat) (O : List Nat) (hc : c ≤ 1099511627776) (h : IOI w a O) (hL : O.length ≤ 200) :
    Calls Tryz.prog 267 #[.int .i64 ((c : Int) + 1), .pointer (some ⟨a.cb, 0, none⟩)] w fun e w' => e = .returned (.int .i64 ((ordS O c).idxOf c : Nat)) ∧ IOI w' a (ordS O c) ∧ w.grownBy w' (some a.mb) := by
  have c0 : w.cell? ⟨a.cb, 0, none⟩ = some (.map (some a.mb)) := by simp [World.cell?, h.blk]
  have H := hid h
  have hlk := h.mp.look intLaw Tryz.underlying424 (zero_int w) (kI_key hc)
  by_cases hm : c ∈ O
  · have e : ordS O c = O := by unfold ordS; rw [if_pos hm]
    rw [e]
    have e2 := getL_in hm
    unfold zipO at e2
    rw [e2] at hlk
    obtain ⟨ix, hixe⟩ : ∃ ix, ix = O.idxOf c := ⟨_, rfl⟩
    rw [← hixe] at hlk ⊢
    simp only [Option.map_some, Option.getD_some, natV, Option.isSome_some] at hlk
    clear h hm e hixe e2
    go_enter Tryz.func267, Tryz.ntmps267
    go_wp2
    go_ret
    exact ⟨rfl, H.out, World.grownBy.refl _ _⟩
  · have e : ordS O c = O ++ [c] := by unfold ordS; rw [if_neg hm]
    rw [e]
    have e2 := getL_out hm
    have e2' := e2
    unfold zipO at e2
    rw [e2] at hlk
    have hln := fun ty => GM.len h.mp Tryz.underlying424 ty
    obtain ⟨w5, hst, hmp, hg5⟩ := GM.store h.mp intLaw Tryz.underlying424 kI_inj kI_lit (by simp; omega) O.length (kI_key hc)
    have hix : (O ++ [c]).idxOf c = O.length := by rw [List.idxOf_append, if_neg hm]; simp
    rw [hix]
    have hmp2 : GM kI natV 3 w5 a.mb (zipO (O ++ [c])) := by
      rw [zipO_snoc, ← putL_new _ e2']
      exact hmp
    have Q := hid (And.intro hmp2 (And.intro hg5 (show ∀ x, x ∈ O ++ [c] → x ≤ 1099511627776 from fun x hx => by
      rcases List.mem_append.1 hx with hx | hx
      · exact h.few x hx
      · rw [List.mem_singleton.1 hx]; exact hc)))
    simp only [Option.map_none, Option.getD_none, Option.isSome_none] at hlk
    have hlen : (O.zip (List.range O.length)).length = O.length := by simp
    rw [hlen] at hln
    unfold natV at hst
    clear h hm e hix hmp hg5 e2 e2' hmp2 hlen
    go_enter Tryz.func267, Tryz.ntmps267
    go_wp2
    go_ret
    exact ⟨rfl, H.out.over Q.out.2.1 Q.out.1 Q.out.2.2, Q.out.2.1⟩

theorem ord_le {α : Type} [DecidableEq α] {L : List α} {x : α} (hL : L.length ≤ 200) : (ordS L x).idxOf x ≤ 200 := by
  unfold ordS
  split
  · rename_i hm
    have := List.idxOf_lt_length_of_mem hm
    omega
  · rename_i hm
    rw [List.idxOf_append, if_neg hm]
    simp; omega
set_option maxRecDepth 100000 in
set_option maxHeartbeats 2000000 in
theorem ask_i (w : World) (a : AB) (c : Nat) (O : List Nat) (hc : c ≤ 1099511627776) (h : IOI w a O) (hL : O.length ≤ 200) :
    Calls Tryz.prog 264 #[.int .i64 ((c : Int) + 1), .pointer (some ⟨a.kb, 0, none⟩), .pointer (some ⟨a.nb, 0, none⟩)] w fun e w' => e = .returned (.string (B ([95] ++ letterS ((ordS O c).idxOf c)))) ∧ IOI w' a (ordS O c) ∧ w.grownBy w' (some a.mb) := by
  have c0 : w.cell? ⟨a.kb, 0, none⟩ = some (.string (B [95])) := by simp [World.cell?, h.mrk]
  have c1 : w.cell? ⟨a.nb, 0, none⟩ = some (.func (.func 267) #[] #[.pointer (some ⟨a.cb, 0, none⟩)]) := by simp [World.cell?, h.nf, numI]
  have hix : (ordS O c).idxOf c ≤ 200 := ord_le hL
  have CN := hid (num_i w.drew a c O hc ⟨h.mrk, h.nf, h.blk, h.mp, h.few⟩ hL)
  obtain ⟨O', hO'⟩ : ∃ O', O' = ordS O c := ⟨_, rfl⟩
  rw [← hO'] at CN hix ⊢
  obtain ⟨ix, hixe⟩ : ∃ ix, ix = O'.idxOf c := ⟨_, rfl⟩
  rw [← hixe] at CN hix ⊢
  have CM := hid (fun w => nth_q w ix (by omega))
  have hsz : (B (letterS ix)).size ≤ 1000 := by
    rw [size_B]
    unfold letterS
    split <;> simp
  have sz0 : (B ([95] : List UInt8)).size = 1 := rfl
  have W := hid (show ∀ w1, IOI w1 a O' → w1.cell? ⟨a.kb, 0, none⟩ = some (.string (B [95])) from fun w1 i1 => by simp [World.cell?, i1.mrk])
  clear h hL hO' hixe hix hc
  go_enter Tryz.func264, Tryz.ntmps264
  go_wp2_with fail
  go_region_with (first
    | (go_at_call 267; refine CN.out.mono ?_; rintro e w1 ⟨rfl, i1, g1⟩; have c5 := W.out w1 i1; have I1 := hid i1; have G1 := hid g1; clear i1 g1)
    | (go_at_call 147; refine (CM.out _).mono ?_; rintro e w2 ⟨rfl, rfl⟩))
  all_goals
    go_wp2
    go_ret
    refine ⟨?_, I1.out, ⟨G1.out.os, G1.out.tape, G1.out.output, G1.out.size, G1.out.block⟩⟩
    show Ending.returned (.string (B [95] ++ B (letterS ix))) = _
    rw [append_B]
    rfl
end Go.Proofs.YtcdijppegfcoaaaGreatDoor

/-
  OUR OWN TEXT. The program's drafts and the cells together; word; what a variable is called.
-/
namespace Go.Proofs.YtcdijppegfcoaaaGreatDoor
open Go.RowKit
/-- What blocks of a draft are not. -/
def NoCell (o : Obj) : Prop := ∀ cs fz, o ≠ .cells cs 354 fz
theorem noCell_map (es : Array MapEntry) (cl : Nat) : NoCell (.map es cl) := fun cs fz e => by cases e
theorem noCell_cells {cs : Array Value} {t : TypeId} {fz : Nat × Nat} (h : t ≠ 354) : NoCell (.cells cs t fz) := fun cs' fz' e => by injection e; exact h (by assumption)
/-- A draft is as it was where its blocks are. -/
theorem DR.same {c : Dc} {bs : Nat} {s : Ds} {w w' : World} (h : DR c bs s w) (hh : ∀ (k : Nat) (o : Obj), w.heap[k]? = some o → NoCell o → w'.heap[k]? = some o) : DR c bs s w' := by
  obtain ⟨sv, hb, ho⟩ := h.blk
  have hm : ∀ (k : Nat), (∃ es cl, w.heap[k]? = some (Obj.map es cl)) → w'.heap[k]? = w.heap[k]? := fun k ⟨es, cl, e⟩ => (hh k _ e (noCell_map es cl)).trans e.symm
  have hc : ∀ (k : Nat) (cs : Array Value) (t : TypeId) (fz : Nat × Nat), w.heap[k]? = some (Obj.cells cs t fz) → t ≠ 354 → w'.heap[k]? = w.heap[k]? := fun k cs t fz e ht => (hh k _ e (noCell_cells ht)).trans e.symm
  refine ⟨⟨sv, hh _ _ hb (noCell_cells (by decide)), ho.1, ?_⟩, h.run, h.ok, h.short, h.st.same (hm _ h.st.isMap), fun a ha => ?_, fun a ha => ?_, h.ap, h.lo⟩
  · rcases ho.2 with q | ⟨gb, cap, cur, q1, q2, q3, q4⟩
    · exact Or.inl q
    · exact Or.inr ⟨gb, cap, cur, q1, q2, hh _ _ q3 (noCell_cells (by decide)), q4⟩
  · obtain ⟨i, l1, l2⟩ := h.an a ha
    obtain ⟨D, ⟨es, clock, q1, q2⟩, q3⟩ := i.mp
    exact ⟨i.same (hc _ _ _ _ i.mrk (by decide)) (hc _ _ _ _ i.nf (by decide)) (hc _ _ _ _ i.blk (by decide)) (hm _ ⟨_, _, q1⟩), l1, l2⟩
  · obtain ⟨i, l1⟩ := h.ow a ha
    exact ⟨i.same (hc _ _ _ _ i.mrk (by decide)) (hc _ _ _ _ i.nf (by decide)) (hc _ _ _ _ i.blk (by decide)) (hm _ i.mp.isMap), l1⟩

/-- A draft and the cells. -/
structure DW (H : Nat → Option Obj) (ca : List Nat) (σ : Sto) (d : Nat → Nat) (c : Dc) (bs : Nat) (s : Ds) (w : World) : Prop where
  cs : CSd H ca σ d w
  dr : DR c bs s w
  lowa : ∀ a, a ∈ ca → a < bs
  lowH : ∀ k o, H k = some o → k < bs
  off : ∀ a, c.own = some a → H a.mb = none ∧ a.mb ∉ ca
  big : bs ≤ w.heap.size
/-- What may change: cells, the draft's own. -/
def DG (ca : List Nat) (c : Dc) (bs : Nat) (k : Nat) : Prop := k ∈ ca ∨ DCh c bs k
section
variable {H : Nat → Option Obj} {ca : List Nat} {σ : Sto} {d : Nat → Nat} {c : Dc} {bs : Nat} {s s' : Ds} {w w' : World}
theorem DW.put (h : DW H ca σ d c bs s w) (hr : DR c bs s' w') (g : Gb (fun k => bs ≤ k) w w') : DW H ca σ d c bs s' w' :=
  ⟨h.cs.gb g (fun a ha => by have := h.lowa a ha; omega) (fun k o e => by have := h.lowH k o e; omega), hr, h.lowa, h.lowH, h.off, Nat.le_trans h.big g.size⟩
theorem DW.cells (h : DW H ca σ d c bs s w) (hc : CSd H ca σ d w') (g : Gb (InAs ca) w w') : DW H ca σ d c bs s w' := by
  refine ⟨hc, h.dr.same fun k o e hn => ?_, h.lowa, h.lowH, h.off, Nat.le_trans h.big g.size⟩
  refine g.at e (fun hk => ?_)
  obtain ⟨i, hi⟩ := List.getElem?_of_mem hk
  obtain ⟨v, hv, _⟩ := h.cs.blk i k hi
  rw [e] at hv
  exact hn _ _ (Option.some.inj hv)
theorem DG.put (g : Gb (fun k => bs ≤ k) w w') : Gb (DG ca c bs) w w' := g.mono fun _ e => Or.inr (Or.inl e)
theorem DG.cells (g : Gb (InAs ca) w w') : Gb (DG ca c bs) w w' := g.mono fun _ e => Or.inl e
end
/-- What a part of a draft leaves. -/
def ADP (H : Nat → Option Obj) (ca : List Nat) (σ : Sto) (d : Nat → Nat) (c : Dc) (bs : Nat) (s' : Ds) (w : World) (e : Ending) (w' : World) : Prop :=
  e = .returned (.tuple #[]) ∧ DW H ca σ d c bs s' w' ∧ Gb (DG ca c bs) w w'

set_option maxRecDepth 100000 in
theorem word_any {H : Nat → Option Obj} {ca : List Nat} {σ : Sto} {d : Nat → Nat} {c : Dc} {bs : Nat} {s s' : Ds} {w : World} {x : List UInt8} (h : DW H ca σ d c bs s w) (hp : putS x 0 0 s = some s') :
    Calls Tryz.prog 224 #[CP c.db, .string (B x)] w (ADP H ca σ d c bs s' w) := by
  have HP := hid (put_any h.dr hp h.big)
  have HD := hid h
  clear h hp
  unfold CP at HP ⊢
  go_enter Tryz.func224, Tryz.ntmps224
  go_wp2_with (go_at_call 186; refine HP.out.mono ?_; rintro e w1 ⟨rfl, r1, g1⟩; have R1 := hid (And.intro r1 g1); clear r1 g1)
  first | go_end0 | skip
  exact ⟨rfl, HD.out.put R1.out.1 R1.out.2, DG.put R1.out.2⟩
end Go.Proofs.YtcdijppegfcoaaaGreatDoor

/-
  OUR OWN TEXT. The program's drafts: addFirst, addFrom, add.
-/
namespace Go.Proofs.YtcdijppegfcoaaaGreatDoor
open Go.RowKit
/-- A type in memory, however deep. -/
def ER (H : Nat → Option Obj) (ca : List Nat) (v : Value) (t : Et) : Prop := ∃ m, ERep 0 H ca m v t
theorem now_q {H : Nat → Option Obj} {ca : List Nat} {σ : Sto} {d : Nat → Nat} {v : Value} {t : Et} {w : World} (h : ER H ca v t) (hc : CSd H ca σ d w) : ∃ v1 m, ERep 0 H ca (m + 2) v1 (nowS σ t) ∧ (t.kind ≠ oCell → v1 = v) ∧ Calls Tryz.prog 223 #[v] w (NOW H ca σ d v1 w) := by
  obtain ⟨m, h⟩ := h
  obtain ⟨v1, q1, q2, q3⟩ := now_any (m := m) (h.le (by omega)) hc
  exact ⟨v1, m, q1.ext (by split <;> omega) (fun _ _ e => e) (List.prefix_refl _) _ _ _, q2, q3⟩
theorem wordS_some {x : List UInt8} {o : Option Ds} {s' : Ds} (h : wordS x o = some s') : ∃ s0, o = some s0 ∧ putS x 0 0 s0 = some s' := by
  cases o with
  | none => cases h
  | some s0 => exact ⟨s0, rfl, h⟩
theorem goOn_some {A : Et → Ds → Option Ds} {t : Et} {o : Option Ds} {s' : Ds} (h : goOn A t o = some s') : ∃ s0, o = some s0 ∧ A t s0 = some s' := by
  cases o with
  | none => cases h
  | some s0 => exact ⟨s0, rfl, h⟩
/-- How names are given. -/
def Md (md : Nat) (c : Dc) : Prop := (md = 0 ↔ c.any = none) ∧ (md = 2 → c.own.isSome = true)
section
variable (H : Nat → Option Obj) (ca : List Nat) (σ : Sto) (d : Nat → Nat) (c : Dc) (bs : Nat) (md : Nat)
def ADDC (f : Nat) : Prop := ∀ v t s s' w, ER H ca v t → draftS σ md f t s = some s' → DW H ca σ d c bs s w → Calls Tryz.prog 144 #[CP c.db, v] w (ADP H ca σ d c bs s' w)
def FSTC (f : Nat) : Prop := ∀ v t s s' w, ER H ca v t → firstS (draftS σ md f) σ md t s = some s' → DW H ca σ d c bs s w → Calls Tryz.prog 184 #[CP c.db, v] w (ADP H ca σ d c bs s' w)
def FRMC (f : Nat) : Prop := ∀ v t s s' w, ER H ca v t → fromS (draftS σ md f) σ t (some s) = some s' → DW H ca σ d c bs s w → Calls Tryz.prog 225 #[CP c.db, v] w (ADP H ca σ d c bs s' w)
end
/-- Names of another kind are known. -/
theorem DR.anyL {c : Dc} {bs : Nat} {s : Ds} {w w' : World} {a : AB} {L : List (List UInt8)} (h : DR c bs s w) (ha : c.any = some a) (i : IO1 w' a L) (g : w.grownBy w' (some a.mb)) : DR c bs ⟨s.steps, s.out, s.stands, L, s.O⟩ w' := by
  obtain ⟨sv, hb, ho⟩ := h.blk
  obtain ⟨i0, l1, l2⟩ := h.an a ha
  have hk : ∀ (k : Nat) (o : Obj), w.heap[k]? = some o → k ≠ a.mb → w'.heap[k]? = some o := fun k o e hn => (g.block k (lt_of_block e) (by simpa using hn)).trans e
  have hc : ∀ (k : Nat) (cs : Array Value) (t : TypeId) (fz : Nat × Nat), w.heap[k]? = some (Obj.cells cs t fz) → k ≠ a.mb := fun k cs t fz e e2 => by
    obtain ⟨D, ⟨es, clock, q1, q2⟩, q3⟩ := i0.mp
    rw [e2, q1] at e
    cases e
  refine ⟨⟨sv, hk _ _ hb (hc _ _ _ _ hb), ho.1, ?_⟩, h.run, h.ok, h.short, ?_, fun b hb2 => ?_, fun b hb2 => ?_, h.ap, h.lo⟩
  · rcases ho.2 with q | ⟨gb, cap, cur, q1, q2, q3, q4⟩
    · exact Or.inl q
    · exact Or.inr ⟨gb, cap, cur, q1, q2, hk _ _ q3 (hc _ _ _ _ q3), q4⟩
  · obtain ⟨es, cl, e⟩ := h.st.isMap
    exact h.st.same ((hk _ _ e (Ne.symm l2)).trans e.symm)
  · rw [ha] at hb2
    cases hb2
    exact ⟨i, l1, l2⟩
  · obtain ⟨j, l3⟩ := h.ow b hb2
    obtain ⟨es, cl, e⟩ := j.mp.isMap
    have s1 : ∀ (k : Nat) (o : Obj), w.heap[k]? = some o → k ≠ a.mb → w'.heap[k]? = w.heap[k]? := fun k o e hn => (hk k o e hn).trans e.symm
    exact ⟨j.same (s1 _ _ j.mrk (hc _ _ _ _ j.mrk)) (s1 _ _ j.nf (hc _ _ _ _ j.nf)) (s1 _ _ j.blk (hc _ _ _ _ j.blk)) (s1 _ _ e (Ne.symm (h.ap a b ha hb2))), l3⟩
theorem DR.ownL {c : Dc} {bs : Nat} {s : Ds} {w w' : World} {a : AB} {O : List Nat} (h : DR c bs s w) (ha : c.own = some a) (i : IOI w' a O) (g : w.grownBy w' (some a.mb)) : DR c bs ⟨s.steps, s.out, s.stands, s.L, O⟩ w' := by
  obtain ⟨sv, hb, ho⟩ := h.blk
  obtain ⟨i0, l2⟩ := h.ow a ha
  have hk : ∀ (k : Nat) (o : Obj), w.heap[k]? = some o → k ≠ a.mb → w'.heap[k]? = some o := fun k o e hn => (g.block k (lt_of_block e) (by simpa using hn)).trans e
  have hc : ∀ (k : Nat) (cs : Array Value) (t : TypeId) (fz : Nat × Nat), w.heap[k]? = some (Obj.cells cs t fz) → k ≠ a.mb := fun k cs t fz e => i0.mp.apart e
  refine ⟨⟨sv, hk _ _ hb (hc _ _ _ _ hb), ho.1, ?_⟩, h.run, h.ok, h.short, ?_, fun b hb2 => ?_, fun b hb2 => ?_, h.ap, h.lo⟩
  · rcases ho.2 with q | ⟨gb, cap, cur, q1, q2, q3, q4⟩
    · exact Or.inl q
    · exact Or.inr ⟨gb, cap, cur, q1, q2, hk _ _ q3 (hc _ _ _ _ q3), q4⟩
  · obtain ⟨es, cl, e⟩ := h.st.isMap
    exact h.st.same ((hk _ _ e (Ne.symm l2)).trans e.symm)
  · obtain ⟨j, l3, l4⟩ := h.an b hb2
    obtain ⟨D, ⟨es, clock, q1, q2⟩, q3⟩ := j.mp
    have s1 : ∀ (k : Nat) (o : Obj), w.heap[k]? = some o → k ≠ a.mb → w'.heap[k]? = w.heap[k]? := fun k o e hn => (hk k o e hn).trans e.symm
    exact ⟨j.same (s1 _ _ j.mrk (hc _ _ _ _ j.mrk)) (s1 _ _ j.nf (hc _ _ _ _ j.nf)) (s1 _ _ j.blk (hc _ _ _ _ j.blk)) (s1 _ _ q1 (h.ap b a hb2 ha)), l3, l4⟩
  · rw [ha] at hb2
    cases hb2
    exact ⟨i, l2⟩
section
variable {H : Nat → Option Obj} {ca : List Nat} {σ : Sto} {d : Nat → Nat} {c : Dc} {bs : Nat} {s s' : Ds} {w w' : World}
theorem DW.anyL {a : AB} {L : List (List UInt8)} (h : DW H ca σ d c bs s w) (ha : c.any = some a) (i : IO1 w' a L) (g : w.grownBy w' (some a.mb)) : DW H ca σ d c bs ⟨s.steps, s.out, s.stands, L, s.O⟩ w' ∧ Gb (DG ca c bs) w w' := by
  obtain ⟨_, l1, _⟩ := h.dr.an a ha
  have g1 : Gb (fun k => bs ≤ k) w w' := Gb.of g (fun b e => by cases e; exact Or.inl l1)
  exact ⟨h.put (h.dr.anyL ha i g) g1, DG.put g1⟩
theorem DW.ownL {a : AB} {O : List Nat} (h : DW H ca σ d c bs s w) (ha : c.own = some a) (i : IOI w' a O) (g : w.grownBy w' (some a.mb)) : DW H ca σ d c bs ⟨s.steps, s.out, s.stands, s.L, O⟩ w' ∧ Gb (DG ca c bs) w w' := by
  obtain ⟨o1, o2⟩ := h.off a ha
  have g1 : Gb (fun k => k = a.mb) w w' := Gb.of g (fun b e => by cases e; exact Or.inl rfl)
  refine ⟨⟨h.cs.gb g1 (fun x hx e => o2 (e ▸ hx)) (fun k o e e2 => by rw [e2, o1] at e; cases e), h.dr.ownL ha i g, h.lowa, h.lowH, h.off, Nat.le_trans h.big g1.size⟩, g1.mono fun k e => Or.inr (Or.inr ⟨a, ha, e⟩)⟩
end
end Go.Proofs.YtcdijppegfcoaaaGreatDoor
