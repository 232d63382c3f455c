/-
  OUR OWN TEXT. The program's reader: Must, keywords, names, what begins an atom.
-/
import Derived.Test.YtcdijppegfcoaabGreatDoorPSk
namespace Go.Proofs.YtcdijppegfcoaabGreatDoor
open Go.RowKit

/-- What a step of the program's reader leaves: where nothing is wrong it has gone on, and returned this; else it has refused at that place. -/
def POut (kw : List (List UInt8)) (w w' : World) (rb : Nat) (s : ByteArray) (T : List Tok) (st' : St) (e : Ending) (good : Prop) : Prop :=
  Kept rb w w' ∧ ((good ∧ PSt kw w' rb s T st') ∨ (0 ≤ st'.bad ∧ Refused w' e st'.bad))

theorem isS_is {T : List Tok} {s : St} {x : List UInt8} (h : isS T s x = true) : (tk T s.k).is = x := by
  simp only [isS, Bool.and_eq_true, beq_iff_eq] at h
  exact h.2
theorem need_yes {T : List Tok} {st : St} {x : List UInt8} (h : isS T st x = true) : needS T st x = takeS T st x := by
  unfold needS takeS
  rw [if_pos h, if_pos h]
theorem need_no {T : List Tok} {st : St} {x : List UInt8} (hb : st.bad < 0) (h : isS T st x = false) : needS T st x = ⟨st.k, ((tk T st.k).pos : Int)⟩ := by
  unfold needS
  rw [if_neg (by rw [h]; decide), if_pos hb]
theorem take_no {T : List Tok} {st : St} {x : List UInt8} (h : isS T st x = false) : takeS T st x = st := by
  unfold takeS
  rw [if_neg (by rw [h]; decide)]
theorem take_yes {T : List Tok} {st : St} {x : List UInt8} (h : isS T st x = true) : takeS T st x = st.up := by
  unfold takeS
  rw [if_pos h]
  rfl
theorem Refused.grown {w' w'' : World} {e : Ending} {p : Int} (h : Refused w' e p) (hg : w'.grownBy w'' none) : Refused w'' e p := by
  obtain ⟨b, h1, h2⟩ := h
  exact ⟨b, h1, by rw [hg.block b (lt_of_block h2) (by simp)]; exact h2⟩

set_option maxRecDepth 100000 in
theorem must_p (kw : List (List UInt8)) (hkw : KwOK kw) (w : World) (rb : Nat) (s : ByteArray) (T : List Tok) (st : St) (x : List UInt8) (h : PSt kw w rb s T st) (hx : x ∈ kw ∨ x ∈ sgns) :
    Calls Tryz.prog 126 #[.pointer (some ⟨rb, 0, none⟩), .string (B x)] w fun e w' => POut kw w w' rb s T (needS T st x) e (e = .returned (.tuple #[])) := by
  have hneg := h.neg
  have HS := hid (skips_p kw hkw w rb s T st x h hx)
  clear h
  cases hi : isS T st x with
  | true =>
    rw [hi] at HS
    have HI := hid hi
    clear hi
    go_enter Tryz.func126, Tryz.ntmps126
    go_wp2_with (go_at_call 85; refine HS.out.mono ?_; rintro e w' ⟨rfl, r1, r2⟩; have R1 := hid r1; have R2 := hid r2; clear r1 r2)
    first | go_end0 | skip
    exact ⟨R2.out, Or.inl ⟨rfl, by rw [need_yes HI.out]; exact R1.out⟩⟩
  | false =>
    rw [hi] at HS
    have HI := hid hi
    clear hi
    go_enter Tryz.func126, Tryz.ntmps126
    go_wp2_with (go_at_call 85; refine HS.out.mono ?_; rintro e w' ⟨rfl, r1, r2⟩; have R1 := hid r1; have R2 := hid r2; clear r1 r2)
    have p1 : PSt kw w' rb s T st := by have := R1.out; rw [take_no HI.out] at this; exact this
    obtain ⟨J, hat, hrd⟩ := p1.place
    have htk := hat.tk
    have hpos := (asked kw hkw s.data.toList J hat.1).pos
    refine (refuse_p _ rb s J hrd).mono ?_
    rintro e w'' ⟨⟨b, rfl, hb⟩, hg⟩
    have HB := hid hb
    have HG := hid hg
    have HP := hid (show ((tk T st.k).pos : Int) = (J : Int) by rw [htk, hpos])
    clear hb hg htk hpos hat hrd p1
    unfold refusal
    go_wp2
    refine ⟨rfl, R2.out.trans (Kept.of0 rb HG.out), Or.inr ?_⟩
    rw [need_no hneg HI.out]
    refine ⟨by simp, b, rfl, ?_⟩
    show w''.heap[b]? = some (Obj.cells #[Value.int .i64 ((tk T st.k).pos : Int)] _ (0, 0))
    rw [HP.out]
    exact HB.out

set_option maxRecDepth 100000 in
theorem isKeyword_p (t : List UInt8) (w : World) : Calls Tryz.prog 115 #[.string (B t)] w fun e w' => e = .returned (.bool (decide (t ∈ exKw))) ∧ w' = w := by
  by_cases h : t ∈ exKw
  · have h' := h
    simp only [exKw, List.mem_cons, List.not_mem_nil, or_false] at h'
    have hd : decide (t ∈ exKw) = true := by simp [h]
    rw [hd]
    clear h hd
    rcases h' with rfl | rfl | rfl | rfl | rfl | rfl | rfl | rfl <;>
    · unfold B
      go_enter Tryz.func115, Tryz.ntmps115
      go_wp2
      go_ret
      exact ⟨rfl, rfl⟩
  · have hd : decide (t ∈ exKw) = false := by simp [h]
    rw [hd]
    simp only [exKw, List.mem_cons, List.not_mem_nil, or_false, not_or] at h
    obtain ⟨h1, h2, h3, h4, h5, h6, h7, h8⟩ := h
    have q1 : ((B t).toList == [102, 117, 110]) = false := by rw [toList_B]; exact beq_eq_false_iff_ne.2 h1
    have q2 : ((B t).toList == [108, 101, 116]) = false := by rw [toList_B]; exact beq_eq_false_iff_ne.2 h2
    have q3 : ((B t).toList == [114, 101, 99]) = false := by rw [toList_B]; exact beq_eq_false_iff_ne.2 h3
    have q4 : ((B t).toList == [97, 110, 100]) = false := by rw [toList_B]; exact beq_eq_false_iff_ne.2 h4
    have q5 : ((B t).toList == [105, 110]) = false := by rw [toList_B]; exact beq_eq_false_iff_ne.2 h5
    have q6 : ((B t).toList == [105, 102]) = false := by rw [toList_B]; exact beq_eq_false_iff_ne.2 h6
    have q7 : ((B t).toList == [116, 104, 101, 110]) = false := by rw [toList_B]; exact beq_eq_false_iff_ne.2 h7
    have q8 : ((B t).toList == [101, 108, 115, 101]) = false := by rw [toList_B]; exact beq_eq_false_iff_ne.2 h8
    clear h1 h2 h3 h4 h5 h6 h7 h8
    go_enter Tryz.func115, Tryz.ntmps115
    go_wp2
    go_ret
    exact ⟨rfl, rfl⟩

/-- The program's readers of expressions and of types are handed over as structs of one field. -/
def rdV (rb : Nat) : Value := .agg #[.pointer (some ⟨rb, 0, none⟩)]

set_option maxRecDepth 100000 in
theorem isName_p (w : World) (rb : Nat) (s : ByteArray) (T : List Tok) (st : St) (h : PSt exKw w rb s T st) :
    Calls Tryz.prog 176 #[rdV rb] w fun e w' => e = .returned (.bool (isS T st kName)) ∧ w.grownBy w' none := by
  obtain ⟨hneg, ⟨J, hat, hrd⟩, hs⟩ := h
  have ha := asked exKw exKw_ok s.data.toList J hat.1
  have hn := ha.name
  rw [← hat.tk] at hn
  have hlt := lt_of_block hrd
  obtain ⟨c0, c1, c2, c3, f1, f2, f3⟩ := four_p hrd
  have a1 := fun x => cell_past c1 x
  have a2 := fun x => cell_past c2 x
  clear c0 c1 c2 c3 f1 f2 f3
  generalize nxK s.data.toList J = kk at *
  generalize nxT s.data.toList J = tt at *
  clear hrd hat ha
  unfold rdV
  by_cases hk : kk = 2
  · subst hk
    by_cases ht : tt ∈ exKw
    · have hi : isS T st kName = false := by
        have : ¬ (tk T st.k).is = kName := fun e => (hn.2 e).2 ht
        simp [isS, this]
      rw [hi]
      have hd : decide (tt ∈ exKw) = true := by simp [ht]
      clear hn hi ht
      go_enter Tryz.func176, Tryz.ntmps176
      go_wp2_with (go_at_call 115; refine (isKeyword_p tt _).mono ?_; rintro e w' ⟨rfl, rfl⟩; rw [hd])
      go_ret
      exact ⟨rfl, World.grownBy_alloc _ _ _⟩
    · have hi : isS T st kName = true := by simp [isS, hneg, hn.1 ⟨rfl, ht⟩]
      rw [hi]
      have hd : decide (tt ∈ exKw) = false := by simp [ht]
      clear hn hi ht
      go_enter Tryz.func176, Tryz.ntmps176
      go_wp2_with (go_at_call 115; refine (isKeyword_p tt _).mono ?_; rintro e w' ⟨rfl, rfl⟩; rw [hd])
      go_ret
      exact ⟨rfl, World.grownBy_alloc _ _ _⟩
  · have hi : isS T st kName = false := by
      have : ¬ (tk T st.k).is = kName := fun e => hk (hn.2 e).1
      simp [isS, this]
    rw [hi]
    have hq : ((kk : Int) == 2) = false := by simp; omega
    clear hn hi
    go_enter Tryz.func176, Tryz.ntmps176
    go_wp2
    go_ret
    exact ⟨rfl, World.grownBy_alloc _ _ _⟩

set_option maxRecDepth 100000 in
theorem name_p (w : World) (rb : Nat) (s : ByteArray) (T : List Tok) (st : St) (h : PSt exKw w rb s T st) :
    Calls Tryz.prog 142 #[rdV rb] w fun e w' => POut exKw w w' rb s T (needS T st kName) e (e = .returned (.string (B (tk T st.k).s))) := by
  have hneg := h.neg
  have hlt := h.lt
  have hs := h.size
  have hsl : s.data.toList.length = s.size := by rw [Array.length_toList]; rfl
  have HB := hid (h.alloc (.cells #[.pointer (some ⟨rb, 0, none⟩)] 153))
  clear h
  unfold rdV
  go_enter Tryz.func142, Tryz.ntmps142
  go_wp2_with fail
  refine (isName_p _ rb s T st HB.out).mono ?_
  rintro e w1 ⟨rfl, hg⟩
  have hbx : w1.cell? ⟨w.heap.size, 0, none⟩ = some (.pointer (some ⟨rb, 0, none⟩)) := by
    rw [World.cell?_of_block (a := ⟨w.heap.size, 0, none⟩) (hg.block w.heap.size (by simp) (by simp))]
    simp [go_sem]
  have hp := HB.out.grown hg
  have HK := hid (((Kept.refl rb w).alloc (.cells #[.pointer (some ⟨rb, 0, none⟩)] 153)).trans (Kept.of0 rb hg))
  clear hg HB
  obtain ⟨_, ⟨J, hat, hrd⟩, _⟩ := hp
  have ha := asked exKw exKw_ok s.data.toList J hat.1
  cases hi : isS T st kName with
  | true =>
    have hk := (isS_is hi)
    have hnx := hat.next exKw_ok (by rw [hk]; decide) (by rw [hk]; decide)
    have hre := ha.real (by rw [← hat.tk, hk]; decide) (by rw [← hat.tk, hk]; decide)
    have HT := hid (take_p w1 rb s J hs hrd (by rw [← hsl]; exact hnx.2))
    have HN := hid hnx.1
    have HE := hid (show nxT s.data.toList J = (tk T st.k).s by rw [hat.tk]; exact hre.1)
    have HI := hid hi
    clear hnx hre hat hrd ha hi hk
    go_wp2_with (go_at_call 125; refine HT.out.mono ?_; rintro e w' ⟨rfl, r1, r2⟩; have R1 := hid r1; have R2 := hid r2; clear r1 r2)
    go_ret
    refine ⟨HK.out.trans R2.out, Or.inl ⟨?_, ?_⟩⟩
    · show Ending.returned (.string (B (nxT s.data.toList J))) = _
      rw [HE.out]
    · rw [need_yes HI.out, take_yes HI.out]
      exact ⟨hneg, ⟨_, HN.out, R1.out⟩, hs⟩
  | false =>
    have HI := hid hi
    have HP := hid (show ((tk T st.k).pos : Int) = (J : Int) by rw [hat.tk, ha.pos])
    have HR := hid (refuse_p w1 rb s J hrd)
    clear hat hrd ha hi
    go_wp2_with fail
    refine HR.out.mono ?_
    rintro e w'' ⟨⟨b, rfl, hb⟩, hg⟩
    have HB := hid hb
    have HG := hid hg
    clear hb hg
    unfold refusal
    go_wp2
    refine ⟨rfl, HK.out.trans (Kept.of0 rb HG.out), Or.inr ?_⟩
    rw [need_no hneg HI.out]
    refine ⟨by simp, b, rfl, ?_⟩
    show w''.heap[b]? = some (Obj.cells #[Value.int .i64 ((tk T st.k).pos : Int)] _ (0, 0))
    rw [HP.out]
    exact HB.out

def moreT (T : List Tok) (t : St) : Bool := isS T t kName || (isS T t kNum || isS T t kOpen)
set_option maxRecDepth 100000 in
theorem isAtom_p (w : World) (rb : Nat) (s : ByteArray) (T : List Tok) (st : St) (h : PSt exKw w rb s T st) :
    Calls Tryz.prog 147 #[rdV rb] w fun e w' => e = .returned (.bool (moreT T st)) ∧ w.grownBy w' none := by
  have hneg := h.neg
  have hlt := h.lt
  have HB := hid (h.alloc (.cells #[.pointer (some ⟨rb, 0, none⟩)] 153))
  clear h
  unfold rdV
  go_enter Tryz.func147, Tryz.ntmps147
  go_wp2_with fail
  refine (isName_p _ rb s T st HB.out).mono ?_
  rintro e w1 ⟨rfl, hg⟩
  have hbx : w1.cell? ⟨w.heap.size, 0, none⟩ = some (.pointer (some ⟨rb, 0, none⟩)) := by
    rw [World.cell?_of_block (a := ⟨w.heap.size, 0, none⟩) (hg.block w.heap.size (by simp) (by simp))]
    simp [go_sem]
  have hp := HB.out.grown hg
  have HK := hid ((World.grownBy_alloc w (.cells #[.pointer (some ⟨rb, 0, none⟩)] 153) none).trans hg)
  clear hg HB
  obtain ⟨_, ⟨J, hat, hrd⟩, _⟩ := hp
  have ha := asked exKw exKw_ok s.data.toList J hat.1
  have hnum := ha.num
  have hopen := ha.sign kOpen (by decide)
  rw [← hat.tk] at hnum hopen
  obtain ⟨c0, c1, c2, c3, f1, f2, f3⟩ := four_p hrd
  clear hat hrd ha c0 c3 f1 f2 f3
  generalize nxK s.data.toList J = kk at *
  generalize nxT s.data.toList J = tt at *
  cases hi : isS T st kName with
  | true =>
    have hm : moreT T st = true := by simp [moreT, hi]
    go_wp2
    go_ret
    exact ⟨by rw [hm]; rfl, HK.out⟩
  | false =>
    by_cases hk : kk = 3
    · have hm : moreT T st = true := by simp [moreT, isS, hneg, hnum.1 hk]
      subst hk
      clear hnum hopen
      go_wp2
      go_ret
      exact ⟨by rw [hm]; rfl, HK.out⟩
    · have hq : ((kk : Int) == 3) = false := by simp; omega
      have hn : isS T st kNum = false := by
        have : ¬ (tk T st.k).is = kNum := fun e => hk (hnum.2 e)
        simp [isS, this]
      by_cases ht : tt = kOpen
      · have hm : moreT T st = true := by simp [moreT, isS, hneg, hopen.1 ht]
        have hb : ((B tt).toList == [40]) = true := by rw [toList_B, ht]; rfl
        clear hnum hopen hn ht
        go_wp2
        go_ret
        exact ⟨by rw [hm]; rfl, HK.out⟩
      · have ho : isS T st kOpen = false := by
          have : ¬ (tk T st.k).is = kOpen := fun e => ht (hopen.2 e)
          simp [isS, this]
        have hm : moreT T st = false := by simp [moreT, hi, hn, ho]
        have hb : ((B tt).toList == [40]) = false := by rw [toList_B]; exact beq_eq_false_iff_ne.2 ht
        clear hnum hopen hn ho ht
        go_wp2
        go_ret
        exact ⟨by rw [hm]; rfl, HK.out⟩
end Go.Proofs.YtcdijppegfcoaabGreatDoor
