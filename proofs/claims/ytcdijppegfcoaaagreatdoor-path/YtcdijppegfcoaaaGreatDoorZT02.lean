import Derived.Test.YtcdijppegfcoaaaGreatDoorZT01
import Derived.Deep.LoopGhost
import Derived.Deep.QuietTactic
import Derived.BigQuiet
import Derived.Deep.RegionWith
/-
  OUR OWN TEXT. The program's reader of tokens: where it stands, and Take.
-/
namespace Go.Proofs.YtcdijppegfcoaaaGreatDoor
open Go.RowKit
/-- The k-th token is the one that stands at J. -/
def At (kw : List (List UInt8)) (l : List UInt8) (T : List Tok) (k J : Nat) : Prop :=
  J ≤ l.length ∧ ∃ f, l.length ≤ J + f ∧ T.drop k = if (tokAt kw l J).1.is = kNone ∨ (tokAt kw l J).1.is = kEnd then [(tokAt kw l J).1] else (tokAt kw l J).1 :: toks kw l f (tokAt kw l J).2
theorem At.start (kw : List (List UInt8)) (l : List UInt8) : At kw l (toks kw l (l.length + 1) 0) 0 (upto isB l 0) := by
  refine ⟨(upto_le isB l 0 (by omega)).2, l.length, by omega, ?_⟩
  rw [List.drop_zero, toks]
theorem At.cons {kw : List (List UInt8)} {l : List UInt8} {T : List Tok} {k J : Nat} (h : At kw l T k J) : ∃ r, T.drop k = (tokAt kw l J).1 :: r := by
  obtain ⟨_, f, _, h2⟩ := h
  rw [h2]
  split
  · exact ⟨_, rfl⟩
  · exact ⟨_, rfl⟩
theorem At.lt {kw : List (List UInt8)} {l : List UInt8} {T : List Tok} {k J : Nat} (h : At kw l T k J) : k < T.length := by
  obtain ⟨r, hr⟩ := h.cons
  rcases Nat.lt_or_ge k T.length with h' | h'
  · exact h'
  · rw [List.drop_eq_nil_of_le h'] at hr
    cases hr
theorem At.tk {kw : List (List UInt8)} {l : List UInt8} {T : List Tok} {k J : Nat} (h : At kw l T k J) : tk T k = (tokAt kw l J).1 := by
  obtain ⟨r, hr⟩ := h.cons
  have : (T.drop k)[0]? = some (tokAt kw l J).1 := by rw [hr]; rfl
  rw [List.getElem?_drop] at this
  simp only [Nat.add_zero] at this
  unfold Proofs.YtcdijppegfcoaaaGreatDoor.tk
  rw [List.getD_eq_getElem?_getD, this]
  rfl
theorem At.next {kw : List (List UInt8)} (hkw : KwOK kw) {l : List UInt8} {T : List Tok} {k J : Nat} (h : At kw l T k J) (h1 : (Proofs.YtcdijppegfcoaaaGreatDoor.tk T k).is ≠ kNone) (h2 : (Proofs.YtcdijppegfcoaaaGreatDoor.tk T k).is ≠ kEnd) :
    At kw l T (k + 1) (upto isB l (J + (nxT l J).length)) ∧ J + (nxT l J).length ≤ l.length := by
  have ht := h.tk
  have ha := asked kw hkw l J h.1
  rw [ht] at h1 h2
  obtain ⟨r1, r2, r3, r4⟩ := ha.real h1 h2
  obtain ⟨_, f, hf, he⟩ := h
  rw [if_neg (by simp [h1, h2])] at he
  rw [r2] at he r3 r4
  have hu := upto_le isB l (J + (nxT l J).length) r4
  refine ⟨⟨hu.2, f - 1, by omega, ?_⟩, r4⟩
  have e2 : T.drop (k + 1) = (T.drop k).drop 1 := by rw [List.drop_drop]
  rw [e2, he]
  obtain ⟨f', rfl⟩ : ∃ f', f = f' + 1 := ⟨f - 1, by omega⟩
  rw [List.drop_succ_cons, List.drop_zero, toks]
  rfl

/-- The program's reader in memory: its text, and the token that stands at J. -/
def Rdr (w : World) (rb : Nat) (s : ByteArray) (J : Nat) : Prop :=
  w.heap[rb]? = some (.cells #[.string s, .int .i64 ((nxK s.data.toList J : Nat) : Int), .string (B (nxT s.data.toList J)), .int .i64 (J : Int)] 274 (0, 0))

theorem four_p {w : World} {b : Nat} {p q r s : Value} {t : TypeId} (h : w.heap[b]? = some (.cells #[p, q, r, s] t (0, 0))) :
    w.cell? ⟨b, 0, none⟩ = some p ∧ w.cell? ⟨b, 1, none⟩ = some q ∧ w.cell? ⟨b, 2, none⟩ = some r ∧ w.cell? ⟨b, 3, none⟩ = some s ∧ w.frozen? ⟨b, 1, none⟩ = false ∧ w.frozen? ⟨b, 2, none⟩ = false ∧ w.frozen? ⟨b, 3, none⟩ = false := by
  simp [World.cell?, World.frozen?, h]
theorem set_four {w : World} {b : Nat} {p q r s : Value} {t : TypeId} (h : w.heap[b]? = some (.cells #[p, q, r, s] t (0, 0))) (x y z : Value) :
    (((w.setCell ⟨b, 1, none⟩ x).setCell ⟨b, 2, none⟩ y).setCell ⟨b, 3, none⟩ z).heap[b]? = some (.cells #[p, x, y, z] t (0, 0)) := by
  simp [World.setCell, Array.getElem?_modify, h]
theorem Kept.of0 {w w' : World} (rb : Nat) (h : w.grownBy w' none) : Kept rb w w' := ⟨h.os, h.tape, h.output, h.size, fun i hi _ => h.block i hi (by simp)⟩

set_option maxRecDepth 100000 in
theorem behind_p (k : Nat) (t : List UInt8) (p : Nat) (ht : t.length ≤ 300) (hp : p ≤ 300) (w : World) :
    Calls Tryz.prog 218 #[tokV k t p] w fun e w' => e = .returned (.int .i64 ((p + t.length : Nat) : Int)) ∧ w' = w.alloc (.cells #[.int .i64 (k : Int), .string (B t), .int .i64 (p : Int)] 271) := by
  have hb : (B t).size = t.length := by simp [B, ByteArray.size]
  unfold tokV
  go_enter Tryz.func218, Tryz.ntmps218
  go_wp2
  go_ret
  exact ⟨by rw [Int.natCast_add]; rfl, rfl⟩

set_option maxRecDepth 100000 in
set_option maxHeartbeats 4000000 in
theorem take_p (w : World) (rb : Nat) (s : ByteArray) (J : Nat) (hs : s.size ≤ 300) (h : Rdr w rb s J) (hJ : J + (nxT s.data.toList J).length ≤ s.size) :
    Calls Tryz.prog 175 #[.pointer (some ⟨rb, 0, none⟩)] w fun e w' => e = .returned (.string (B (nxT s.data.toList J))) ∧ Rdr w' rb s (upto isB s.data.toList (J + (nxT s.data.toList J).length)) ∧ Kept rb w w' := by
  have hlt := lt_of_block h
  generalize hkk : nxK s.data.toList J = kk at *
  generalize htt : nxT s.data.toList J = tt at *
  have hb : w.heap[rb]? = some (.cells #[.string s, .int .i64 (kk : Int), .string (B tt), .int .i64 (J : Int)] 274 (0, 0)) := by rw [← hkk, ← htt]; exact h
  obtain ⟨c0, c1, c2, c3, f1, f2, f3⟩ := four_p hb
  have a0 := fun x => cell_past c0 x
  have HB := hid hb
  clear h hb
  go_enter Tryz.func175, Tryz.ntmps175
  go_wp2_with fail
  go_region_with (first | (go_at_call 130; refine (next_any s (J + tt.length) hJ hs _).mono ?_; rintro e w7 ⟨rfl, hg⟩; dsimp only [tokV]; have e7 := (hg.block rb (by simp; omega) (by simp)).trans ((Below.heap_alloc _ _ _ hlt).trans HB.out); have p7 := four_p e7; have E7 := hid e7; have G7 := hid hg; obtain ⟨_, _, _, _, g1, g2, g3⟩ := p7; clear e7 hg) | (go_at_call 218; refine (behind_p kk tt J (by omega) (by omega) _).mono ?_; rintro e w6 ⟨rfl, rfl⟩))
  all_goals
    go_wp2
    go_ret
    exact ⟨rfl, set_four E7.out _ _ _, (((((((Kept.refl rb w).alloc _).drew).trans (Kept.of0 rb G7.out)).setCell _ _).setCell _ _).setCell _ _)⟩
end Go.Proofs.YtcdijppegfcoaaaGreatDoor

/-
  OUR OWN TEXT. The program's reader: Refuse, Skips, Must; names.
-/
namespace Go.Proofs.YtcdijppegfcoaaaGreatDoor
open Go.RowKit
def exKw : List (List UInt8) := [kFun, kLet, kRec, kAnd, kIn, kIf, kThen, kElse]
theorem exKw_ok : KwOK exKw := by
  intro x hx
  simp only [exKw, List.mem_cons, List.not_mem_nil, or_false] at hx
  rcases hx with rfl | rfl | rfl | rfl | rfl | rfl | rfl | rfl <;> exact ⟨_, _, rfl, by decide, by decide, by decide, by decide, by decide, by decide⟩

/-- The program's reader stands at the token where typerref's stands. -/
structure PSt (kw : List (List UInt8)) (w : World) (rb : Nat) (s : ByteArray) (T : List Tok) (st : St) : Prop where
  neg : st.bad < 0
  place : ∃ J, At kw s.data.toList T st.k J ∧ Rdr w rb s J
  size : s.size ≤ 300
theorem PSt.lt {kw : List (List UInt8)} {w : World} {rb : Nat} {s : ByteArray} {T : List Tok} {st : St} (h : PSt kw w rb s T st) : rb < w.heap.size := by
  obtain ⟨J, _, h2⟩ := h.place
  exact lt_of_block h2
theorem PSt.klt {kw : List (List UInt8)} {w : World} {rb : Nat} {s : ByteArray} {T : List Tok} {st : St} (h : PSt kw w rb s T st) : st.k < T.length := by
  obtain ⟨J, h1, _⟩ := h.place
  exact h1.lt
theorem PSt.grown {kw : List (List UInt8)} {w w' : World} {rb : Nat} {s : ByteArray} {T : List Tok} {st : St} (h : PSt kw w rb s T st) (hg : w.grownBy w' none) : PSt kw w' rb s T st := by
  have hl := h.lt
  obtain ⟨h1, ⟨J, h2, h3⟩, h4⟩ := h
  exact ⟨h1, ⟨J, h2, by unfold Rdr; rw [hg.block rb hl (by simp)]; exact h3⟩, h4⟩
theorem PSt.alloc {kw : List (List UInt8)} {w : World} {rb : Nat} {s : ByteArray} {T : List Tok} {st : St} (h : PSt kw w rb s T st) (o : Obj) : PSt kw (w.alloc o) rb s T st := h.grown (World.grownBy_alloc _ _ _)
theorem PSt.drew {kw : List (List UInt8)} {w : World} {rb : Nat} {s : ByteArray} {T : List Tok} {st : St} (h : PSt kw w rb s T st) : PSt kw w.drew rb s T st := ⟨h.neg, h.place, h.size⟩

/-- What the program panics with where a text is refused at a place. -/
def refusal (b : Nat) : Ending := .panicked [{ v := .iface 268 (.agg #[.iface 134 (.pointer (some ⟨b, 0, none⟩))]), recovered := false }]
def Refused (w' : World) (e : Ending) (p : Int) : Prop := ∃ b, e = refusal b ∧ w'.heap[b]? = some (.cells #[.int .i64 p] 145 (0, 0))

set_option maxRecDepth 100000 in
theorem refuse_p (w : World) (rb : Nat) (s : ByteArray) (J : Nat) (h : Rdr w rb s J) :
    Calls Tryz.prog 131 #[.pointer (some ⟨rb, 0, none⟩)] w fun e w' => Refused w' e J ∧ w.grownBy w' none := by
  have hlt := lt_of_block h
  obtain ⟨c0, c1, c2, c3, f1, f2, f3⟩ := four_p h
  go_enter Tryz.func131, Tryz.ntmps131
  go_wp2
  exact ⟨rfl, ⟨_, rfl, heap_alloc_new _ _⟩, World.grownBy_alloc _ _ _⟩

theorem str_eq (t x : List UInt8) : ((B t).toList == (B x).toList) = decide (t = x) := by
  rw [toList_B, toList_B]
  by_cases h : t = x <;> simp [h]

set_option maxRecDepth 100000 in
theorem skips_p (kw : List (List UInt8)) (hkw : KwOK kw) (w : World) (rb : Nat) (s : ByteArray) (T : List Tok) (st : St) (x : List UInt8) (h : PSt kw w rb s T st) (hx : x ∈ kw ∨ x ∈ sgns) :
    Calls Tryz.prog 132 #[.pointer (some ⟨rb, 0, none⟩), .string (B x)] w fun e w' => e = .returned (.bool (isS T st x)) ∧ PSt kw w' rb s T (takeS T st x) ∧ Kept rb w w' := by
  obtain ⟨hneg, ⟨J, hat, hrd⟩, hs⟩ := h
  have hsl : s.data.toList.length = s.size := by rw [Array.length_toList]; rfl
  have ha := asked kw hkw s.data.toList J hat.1
  have hiff : nxT s.data.toList J = x ↔ (tk T st.k).is = x := by
    rw [hat.tk]
    rcases hx with hx | hx
    · exact ha.word x hx
    · exact ha.sign x hx
  obtain ⟨c0, c1, c2, c3, f1, f2, f3⟩ := four_p hrd
  have HR := hid hrd
  have HA := hid hat
  have HAS := hid ha
  clear hrd hat ha
  by_cases he : nxT s.data.toList J = x
  · have hi : isS T st x = true := by simp [isS, hneg, hiff.1 he]
    have hne : x ≠ kNone ∧ x ≠ kEnd := by
      rcases hx with hx | hx
      · obtain ⟨_, _, _, _, _, _, _, n3, n4⟩ := hkw x hx
        exact ⟨n4, n3⟩
      · exact ⟨(sgn_ne x hx).2.2.2, (sgn_ne x hx).1⟩
    have hnx := HA.out.next hkw (by rw [hiff.1 he]; exact hne.1) (by rw [hiff.1 he]; exact hne.2)
    have HT := hid (take_p w rb s J hs HR.out (by rw [← hsl]; exact hnx.2))
    have HN := hid hnx
    rw [he] at c2 
    have hbq : ((B x).toList == (B x).toList) = true := by simp
    rw [hi]
    have HI := hid hi
    clear hnx hiff he hi hne
    go_enter Tryz.func132, Tryz.ntmps132
    go_wp2_with (go_at_call 175; refine HT.out.mono ?_; rintro e w' ⟨rfl, r1, r2⟩; have R1 := hid r1; have R2 := hid r2; clear r1 r2)
    go_ret
    refine ⟨rfl, ⟨?_, ⟨_, ?_, R1.out⟩, hs⟩, R2.out⟩
    · unfold takeS; rw [if_pos HI.out]; exact hneg
    · unfold takeS; rw [if_pos HI.out]; exact HN.out.1
  · have hi : isS T st x = false := by
      have : ¬ (tk T st.k).is = x := fun e => he (hiff.2 e)
      simp [isS, this]
    have hbq : ((B (nxT s.data.toList J)).toList == (B x).toList) = false := by rw [str_eq]; simp [he]
    rw [hi]
    have HI := hid hi
    clear hiff hi
    go_enter Tryz.func132, Tryz.ntmps132
    go_wp2
    go_ret
    refine ⟨rfl, ?_, Kept.refl _ _⟩
    unfold takeS
    rw [if_neg (by rw [HI.out]; decide)]
    exact ⟨hneg, ⟨J, HA.out, HR.out⟩, hs⟩
end Go.Proofs.YtcdijppegfcoaaaGreatDoor

/-
  OUR OWN TEXT. The program's reader: Must, keywords, names, what begins an atom.
-/
namespace Go.Proofs.YtcdijppegfcoaaaGreatDoor
open Go.RowKit
/-- What a step of the program's reader leaves: where nothing is wrong it has gone on, and returned this; else it has refused at that place. -/
def POut (kw : List (List UInt8)) (w w' : World) (rb : Nat) (s : ByteArray) (T : List Tok) (st' : St) (e : Ending) (good : Prop) : Prop :=
  Kept rb w w' ∧ ((good ∧ PSt kw w' rb s T st') ∨ (0 ≤ st'.bad ∧ Refused w' e st'.bad))

theorem isS_is {T : List Tok} {s : St} {x : List UInt8} (h : isS T s x = true) : (tk T s.k).is = x := by
  simp only [isS, Bool.and_eq_true, beq_iff_eq] at h
  exact h.2
theorem need_yes {T : List Tok} {st : St} {x : List UInt8} (h : isS T st x = true) : needS T st x = takeS T st x := by
  unfold needS takeS
  rw [if_pos h, if_pos h]
theorem need_no {T : List Tok} {st : St} {x : List UInt8} (hb : st.bad < 0) (h : isS T st x = false) : needS T st x = ⟨st.k, ((tk T st.k).pos : Int)⟩ := by
  unfold needS
  rw [if_neg (by rw [h]; decide), if_pos hb]
theorem take_no {T : List Tok} {st : St} {x : List UInt8} (h : isS T st x = false) : takeS T st x = st := by
  unfold takeS
  rw [if_neg (by rw [h]; decide)]
theorem take_yes {T : List Tok} {st : St} {x : List UInt8} (h : isS T st x = true) : takeS T st x = st.up := by
  unfold takeS
  rw [if_pos h]
  rfl
theorem Refused.grown {w' w'' : World} {e : Ending} {p : Int} (h : Refused w' e p) (hg : w'.grownBy w'' none) : Refused w'' e p := by
  obtain ⟨b, h1, h2⟩ := h
  exact ⟨b, h1, by rw [hg.block b (lt_of_block h2) (by simp)]; exact h2⟩

set_option maxRecDepth 100000 in
theorem must_p (kw : List (List UInt8)) (hkw : KwOK kw) (w : World) (rb : Nat) (s : ByteArray) (T : List Tok) (st : St) (x : List UInt8) (h : PSt kw w rb s T st) (hx : x ∈ kw ∨ x ∈ sgns) :
    Calls Tryz.prog 177 #[.pointer (some ⟨rb, 0, none⟩), .string (B x)] w fun e w' => POut kw w w' rb s T (needS T st x) e (e = .returned (.tuple #[])) := by
  have hneg := h.neg
  have HS := hid (skips_p kw hkw w rb s T st x h hx)
  clear h
  cases hi : isS T st x with
  | true =>
    rw [hi] at HS
    have HI := hid hi
    clear hi
    go_enter Tryz.func177, Tryz.ntmps177
    go_wp2_with (go_at_call 132; refine HS.out.mono ?_; rintro e w' ⟨rfl, r1, r2⟩; have R1 := hid r1; have R2 := hid r2; clear r1 r2)
    first | go_end0 | skip
    exact ⟨R2.out, Or.inl ⟨rfl, by rw [need_yes HI.out]; exact R1.out⟩⟩
  | false =>
    rw [hi] at HS
    have HI := hid hi
    clear hi
    go_enter Tryz.func177, Tryz.ntmps177
    go_wp2_with (go_at_call 132; refine HS.out.mono ?_; rintro e w' ⟨rfl, r1, r2⟩; have R1 := hid r1; have R2 := hid r2; clear r1 r2)
    have p1 : PSt kw w' rb s T st := by have := R1.out; rw [take_no HI.out] at this; exact this
    obtain ⟨J, hat, hrd⟩ := p1.place
    have htk := hat.tk
    have hpos := (asked kw hkw s.data.toList J hat.1).pos
    refine (refuse_p _ rb s J hrd).mono ?_
    rintro e w'' ⟨⟨b, rfl, hb⟩, hg⟩
    have HB := hid hb
    have HG := hid hg
    have HP := hid (show ((tk T st.k).pos : Int) = (J : Int) by rw [htk, hpos])
    clear hb hg htk hpos hat hrd p1
    unfold refusal
    go_wp2
    refine ⟨rfl, R2.out.trans (Kept.of0 rb HG.out), Or.inr ?_⟩
    rw [need_no hneg HI.out]
    refine ⟨by simp, b, rfl, ?_⟩
    show w''.heap[b]? = some (Obj.cells #[Value.int .i64 ((tk T st.k).pos : Int)] _ (0, 0))
    rw [HP.out]
    exact HB.out

set_option maxRecDepth 100000 in
theorem isKeyword_p (t : List UInt8) (w : World) : Calls Tryz.prog 166 #[.string (B t)] w fun e w' => e = .returned (.bool (decide (t ∈ exKw))) ∧ w' = w := by
  by_cases h : t ∈ exKw
  · have h' := h
    simp only [exKw, List.mem_cons, List.not_mem_nil, or_false] at h'
    have hd : decide (t ∈ exKw) = true := by simp [h]
    rw [hd]
    clear h hd
    rcases h' with rfl | rfl | rfl | rfl | rfl | rfl | rfl | rfl <;>
    · unfold B
      go_enter Tryz.func166, Tryz.ntmps166
      go_wp2
      go_ret
      exact ⟨rfl, rfl⟩
  · have hd : decide (t ∈ exKw) = false := by simp [h]
    rw [hd]
    simp only [exKw, List.mem_cons, List.not_mem_nil, or_false, not_or] at h
    obtain ⟨h1, h2, h3, h4, h5, h6, h7, h8⟩ := h
    have q1 : ((B t).toList == [102, 117, 110]) = false := by rw [toList_B]; exact beq_eq_false_iff_ne.2 h1
    have q2 : ((B t).toList == [108, 101, 116]) = false := by rw [toList_B]; exact beq_eq_false_iff_ne.2 h2
    have q3 : ((B t).toList == [114, 101, 99]) = false := by rw [toList_B]; exact beq_eq_false_iff_ne.2 h3
    have q4 : ((B t).toList == [97, 110, 100]) = false := by rw [toList_B]; exact beq_eq_false_iff_ne.2 h4
    have q5 : ((B t).toList == [105, 110]) = false := by rw [toList_B]; exact beq_eq_false_iff_ne.2 h5
    have q6 : ((B t).toList == [105, 102]) = false := by rw [toList_B]; exact beq_eq_false_iff_ne.2 h6
    have q7 : ((B t).toList == [116, 104, 101, 110]) = false := by rw [toList_B]; exact beq_eq_false_iff_ne.2 h7
    have q8 : ((B t).toList == [101, 108, 115, 101]) = false := by rw [toList_B]; exact beq_eq_false_iff_ne.2 h8
    clear h1 h2 h3 h4 h5 h6 h7 h8
    go_enter Tryz.func166, Tryz.ntmps166
    go_wp2
    go_ret
    exact ⟨rfl, rfl⟩

/-- The program's readers of expressions and of types are handed over as structs of one field. -/
def rdV (rb : Nat) : Value := .agg #[.pointer (some ⟨rb, 0, none⟩)]

set_option maxRecDepth 100000 in
theorem isName_p (w : World) (rb : Nat) (s : ByteArray) (T : List Tok) (st : St) (h : PSt exKw w rb s T st) :
    Calls Tryz.prog 219 #[rdV rb] w fun e w' => e = .returned (.bool (isS T st kName)) ∧ w.grownBy w' none := by
  obtain ⟨hneg, ⟨J, hat, hrd⟩, hs⟩ := h
  have ha := asked exKw exKw_ok s.data.toList J hat.1
  have hn := ha.name
  rw [← hat.tk] at hn
  have hlt := lt_of_block hrd
  obtain ⟨c0, c1, c2, c3, f1, f2, f3⟩ := four_p hrd
  have a1 := fun x => cell_past c1 x
  have a2 := fun x => cell_past c2 x
  clear c0 c1 c2 c3 f1 f2 f3
  generalize nxK s.data.toList J = kk at *
  generalize nxT s.data.toList J = tt at *
  clear hrd hat ha
  unfold rdV
  by_cases hk : kk = 2
  · subst hk
    by_cases ht : tt ∈ exKw
    · have hi : isS T st kName = false := by
        have : ¬ (tk T st.k).is = kName := fun e => (hn.2 e).2 ht
        simp [isS, this]
      rw [hi]
      have hd : decide (tt ∈ exKw) = true := by simp [ht]
      clear hn hi ht
      go_enter Tryz.func219, Tryz.ntmps219
      go_wp2_with (go_at_call 166; refine (isKeyword_p tt _).mono ?_; rintro e w' ⟨rfl, rfl⟩; rw [hd])
      go_ret
      exact ⟨rfl, World.grownBy_alloc _ _ _⟩
    · have hi : isS T st kName = true := by simp [isS, hneg, hn.1 ⟨rfl, ht⟩]
      rw [hi]
      have hd : decide (tt ∈ exKw) = false := by simp [ht]
      clear hn hi ht
      go_enter Tryz.func219, Tryz.ntmps219
      go_wp2_with (go_at_call 166; refine (isKeyword_p tt _).mono ?_; rintro e w' ⟨rfl, rfl⟩; rw [hd])
      go_ret
      exact ⟨rfl, World.grownBy_alloc _ _ _⟩
  · have hi : isS T st kName = false := by
      have : ¬ (tk T st.k).is = kName := fun e => hk (hn.2 e).1
      simp [isS, this]
    rw [hi]
    have hq : ((kk : Int) == 2) = false := by simp; omega
    clear hn hi
    go_enter Tryz.func219, Tryz.ntmps219
    go_wp2
    go_ret
    exact ⟨rfl, World.grownBy_alloc _ _ _⟩

set_option maxRecDepth 100000 in
theorem name_p (w : World) (rb : Nat) (s : ByteArray) (T : List Tok) (st : St) (h : PSt exKw w rb s T st) :
    Calls Tryz.prog 176 #[rdV rb] w fun e w' => POut exKw w w' rb s T (needS T st kName) e (e = .returned (.string (B (tk T st.k).s))) := by
  have hneg := h.neg
  have hlt := h.lt
  have hs := h.size
  have hsl : s.data.toList.length = s.size := by rw [Array.length_toList]; rfl
  have HB := hid (h.alloc (.cells #[.pointer (some ⟨rb, 0, none⟩)] 182))
  clear h
  unfold rdV
  go_enter Tryz.func176, Tryz.ntmps176
  go_wp2_with fail
  refine (isName_p _ rb s T st HB.out).mono ?_
  rintro e w1 ⟨rfl, hg⟩
  have hbx : w1.cell? ⟨w.heap.size, 0, none⟩ = some (.pointer (some ⟨rb, 0, none⟩)) := by
    rw [World.cell?_of_block (a := ⟨w.heap.size, 0, none⟩) (hg.block w.heap.size (by simp) (by simp))]
    simp [go_sem]
  have hp := HB.out.grown hg
  have HK := hid (((Kept.refl rb w).alloc (.cells #[.pointer (some ⟨rb, 0, none⟩)] 182)).trans (Kept.of0 rb hg))
  clear hg HB
  obtain ⟨_, ⟨J, hat, hrd⟩, _⟩ := hp
  have ha := asked exKw exKw_ok s.data.toList J hat.1
  cases hi : isS T st kName with
  | true =>
    have hk := (isS_is hi)
    have hnx := hat.next exKw_ok (by rw [hk]; decide) (by rw [hk]; decide)
    have hre := ha.real (by rw [← hat.tk, hk]; decide) (by rw [← hat.tk, hk]; decide)
    have HT := hid (take_p w1 rb s J hs hrd (by rw [← hsl]; exact hnx.2))
    have HN := hid hnx.1
    have HE := hid (show nxT s.data.toList J = (tk T st.k).s by rw [hat.tk]; exact hre.1)
    have HI := hid hi
    clear hnx hre hat hrd ha hi hk
    go_wp2_with (go_at_call 175; refine HT.out.mono ?_; rintro e w' ⟨rfl, r1, r2⟩; have R1 := hid r1; have R2 := hid r2; clear r1 r2)
    go_ret
    refine ⟨HK.out.trans R2.out, Or.inl ⟨?_, ?_⟩⟩
    · show Ending.returned (.string (B (nxT s.data.toList J))) = _
      rw [HE.out]
    · rw [need_yes HI.out, take_yes HI.out]
      exact ⟨hneg, ⟨_, HN.out, R1.out⟩, hs⟩
  | false =>
    have HI := hid hi
    have HP := hid (show ((tk T st.k).pos : Int) = (J : Int) by rw [hat.tk, ha.pos])
    have HR := hid (refuse_p w1 rb s J hrd)
    clear hat hrd ha hi
    go_wp2_with fail
    refine HR.out.mono ?_
    rintro e w'' ⟨⟨b, rfl, hb⟩, hg⟩
    have HB := hid hb
    have HG := hid hg
    clear hb hg
    unfold refusal
    go_wp2
    refine ⟨rfl, HK.out.trans (Kept.of0 rb HG.out), Or.inr ?_⟩
    rw [need_no hneg HI.out]
    refine ⟨by simp, b, rfl, ?_⟩
    show w''.heap[b]? = some (Obj.cells #[Value.int .i64 ((tk T st.k).pos : Int)] _ (0, 0))
    rw [HP.out]
    exact HB.out

def moreT (T : List Tok) (t : St) : Bool := isS T t kName || (isS T t kNum || isS T t kOpen)
set_option maxRecDepth 100000 in
theorem isAtom_p (w : World) (rb : Nat) (s : ByteArray) (T : List Tok) (st : St) (h : PSt exKw w rb s T st) :
    Calls Tryz.prog 182 #[rdV rb] w fun e w' => e = .returned (.bool (moreT T st)) ∧ w.grownBy w' none := by
  have hneg := h.neg
  have hlt := h.lt
  have HB := hid (h.alloc (.cells #[.pointer (some ⟨rb, 0, none⟩)] 182))
  clear h
  unfold rdV
  go_enter Tryz.func182, Tryz.ntmps182
  go_wp2_with fail
  refine (isName_p _ rb s T st HB.out).mono ?_
  rintro e w1 ⟨rfl, hg⟩
  have hbx : w1.cell? ⟨w.heap.size, 0, none⟩ = some (.pointer (some ⟨rb, 0, none⟩)) := by
    rw [World.cell?_of_block (a := ⟨w.heap.size, 0, none⟩) (hg.block w.heap.size (by simp) (by simp))]
    simp [go_sem]
  have hp := HB.out.grown hg
  have HK := hid ((World.grownBy_alloc w (.cells #[.pointer (some ⟨rb, 0, none⟩)] 182) none).trans hg)
  clear hg HB
  obtain ⟨_, ⟨J, hat, hrd⟩, _⟩ := hp
  have ha := asked exKw exKw_ok s.data.toList J hat.1
  have hnum := ha.num
  have hopen := ha.sign kOpen (by decide)
  rw [← hat.tk] at hnum hopen
  obtain ⟨c0, c1, c2, c3, f1, f2, f3⟩ := four_p hrd
  clear hat hrd ha c0 c3 f1 f2 f3
  generalize nxK s.data.toList J = kk at *
  generalize nxT s.data.toList J = tt at *
  cases hi : isS T st kName with
  | true =>
    have hm : moreT T st = true := by simp [moreT, hi]
    go_wp2
    go_ret
    exact ⟨by rw [hm]; rfl, HK.out⟩
  | false =>
    by_cases hk : kk = 3
    · have hm : moreT T st = true := by simp [moreT, isS, hneg, hnum.1 hk]
      subst hk
      clear hnum hopen
      go_wp2
      go_ret
      exact ⟨by rw [hm]; rfl, HK.out⟩
    · have hq : ((kk : Int) == 3) = false := by simp; omega
      have hn : isS T st kNum = false := by
        have : ¬ (tk T st.k).is = kNum := fun e => hk (hnum.2 e)
        simp [isS, this]
      by_cases ht : tt = kOpen
      · have hm : moreT T st = true := by simp [moreT, isS, hneg, hopen.1 ht]
        have hb : ((B tt).toList == [40]) = true := by rw [toList_B, ht]; rfl
        clear hnum hopen hn ht
        go_wp2
        go_ret
        exact ⟨by rw [hm]; rfl, HK.out⟩
      · have ho : isS T st kOpen = false := by
          have : ¬ (tk T st.k).is = kOpen := fun e => ht (hopen.2 e)
          simp [isS, this]
        have hm : moreT T st = false := by simp [moreT, hi, hn, ho]
        have hb : ((B tt).toList == [40]) = false := by rw [toList_B]; exact beq_eq_false_iff_ne.2 ht
        clear hnum hopen hn ho ht
        go_wp2
        go_ret
        exact ⟨by rw [hm]; rfl, HK.out⟩
end Go.Proofs.YtcdijppegfcoaaaGreatDoor

/-
  OUR OWN TEXT. typerref.deep.
-/
namespace Go.Proofs.YtcdijppegfcoaaaGreatDoor
open Go.RowKit
def maxl (l : List Nat) : Nat := l.foldl max 0
/-- How deep. -/
def exDeep : Nat → Ex → Nat
  | 0, _ => 0
  | m + 1, x => maxl (x.kids.map (exDeep m)) + 1
theorem foldl_max (l : List Nat) (a : Nat) : l.foldl max a = max a (l.foldl max 0) := by
  induction l generalizing a with
  | nil => simp
  | cons b l ih => simp only [List.foldl_cons]; rw [ih (max a b), ih (max 0 b)]; omega
theorem maxl_snoc (l : List Nat) (a : Nat) : maxl (l ++ [a]) = max (maxl l) a := by simp [maxl, List.foldl_append]
theorem maxl_take (l : List Nat) (j : Nat) : maxl (l.take j) ≤ maxl l := by
  have e : maxl l = max (maxl (l.take j)) (maxl (l.drop j)) := by
    conv => lhs; rw [← List.take_append_drop j l]
    unfold maxl
    rw [List.foldl_append, foldl_max]
  omega

/-- No row of it is too long. -/
def Small : Nat → Ex → Prop
  | 0, _ => True
  | m + 1, x => x.kids.length ≤ 1000000 ∧ x.names.length ≤ 1000000 ∧ ∀ y, y ∈ x.kids → Small m y
end Go.Proofs.YtcdijppegfcoaaaGreatDoor

/-
  OUR OWN TEXT. typerref.Text.
-/
namespace Go.Proofs.YtcdijppegfcoaaaGreatDoor
open Go.RowKit
def tFun : List UInt8 := [102, 117, 110, 32]
def tArrow : List UInt8 := [32, 45, 62, 32]

theorem size_B (l : List UInt8) : (B l).size = l.length := by simp [B, ByteArray.size]
theorem append_B (a b : List UInt8) : B a ++ B b = B (a ++ b) := by
  apply ByteArray.ext
  simp [B]

end Go.Proofs.YtcdijppegfcoaaaGreatDoor

/-
  OUR OWN TEXT (written by mktext.py). typerref.Text at a leaf, a pair, an if, an application.
-/
namespace Go.Proofs.YtcdijppegfcoaaaGreatDoor
open Go.RowKit
def tOpen : List UInt8 := [40]
def tShut : List UInt8 := [41]
def tComma : List UInt8 := [44, 32]
def tIf : List UInt8 := [105, 102, 32]
def tThen : List UInt8 := [32, 116, 104, 101, 110, 32]
def tElse : List UInt8 := [32, 101, 108, 115, 101, 32]
def tSp : List UInt8 := [32]

end Go.Proofs.YtcdijppegfcoaaaGreatDoor
