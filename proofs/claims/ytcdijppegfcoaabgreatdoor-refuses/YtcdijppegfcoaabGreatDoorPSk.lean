/-
  OUR OWN TEXT. The program's reader: Refuse, Skips, Must; names.
-/
import Derived.Test.YtcdijppegfcoaabGreatDoorPRd
namespace Go.Proofs.YtcdijppegfcoaabGreatDoor
open Go.RowKit

def exKw : List (List UInt8) := [kFun, kLet, kRec, kAnd, kIn, kIf, kThen, kElse]
theorem exKw_ok : KwOK exKw := by
  intro x hx
  simp only [exKw, List.mem_cons, List.not_mem_nil, or_false] at hx
  rcases hx with rfl | rfl | rfl | rfl | rfl | rfl | rfl | rfl <;> exact ⟨_, _, rfl, by decide, by decide, by decide, by decide, by decide, by decide⟩

/-- The program's reader stands at the token where typerref's stands. -/
structure PSt (kw : List (List UInt8)) (w : World) (rb : Nat) (s : ByteArray) (T : List Tok) (st : St) : Prop where
  neg : st.bad < 0
  place : ∃ J, At kw s.data.toList T st.k J ∧ Rdr w rb s J
  size : s.size ≤ 300
theorem PSt.lt {kw : List (List UInt8)} {w : World} {rb : Nat} {s : ByteArray} {T : List Tok} {st : St} (h : PSt kw w rb s T st) : rb < w.heap.size := by
  obtain ⟨J, _, h2⟩ := h.place
  exact lt_of_block h2
theorem PSt.klt {kw : List (List UInt8)} {w : World} {rb : Nat} {s : ByteArray} {T : List Tok} {st : St} (h : PSt kw w rb s T st) : st.k < T.length := by
  obtain ⟨J, h1, _⟩ := h.place
  exact h1.lt
theorem PSt.grown {kw : List (List UInt8)} {w w' : World} {rb : Nat} {s : ByteArray} {T : List Tok} {st : St} (h : PSt kw w rb s T st) (hg : w.grownBy w' none) : PSt kw w' rb s T st := by
  have hl := h.lt
  obtain ⟨h1, ⟨J, h2, h3⟩, h4⟩ := h
  exact ⟨h1, ⟨J, h2, by unfold Rdr; rw [hg.block rb hl (by simp)]; exact h3⟩, h4⟩
theorem PSt.alloc {kw : List (List UInt8)} {w : World} {rb : Nat} {s : ByteArray} {T : List Tok} {st : St} (h : PSt kw w rb s T st) (o : Obj) : PSt kw (w.alloc o) rb s T st := h.grown (World.grownBy_alloc _ _ _)
theorem PSt.drew {kw : List (List UInt8)} {w : World} {rb : Nat} {s : ByteArray} {T : List Tok} {st : St} (h : PSt kw w rb s T st) : PSt kw w.drew rb s T st := ⟨h.neg, h.place, h.size⟩

/-- What the program panics with where a text is refused at a place. -/
def refusal (b : Nat) : Ending := .panicked [{ v := .iface 202 (.agg #[.iface 81 (.pointer (some ⟨b, 0, none⟩))]), recovered := false }]
def Refused (w' : World) (e : Ending) (p : Int) : Prop := ∃ b, e = refusal b ∧ w'.heap[b]? = some (.cells #[.int .i64 p] 92 (0, 0))

set_option maxRecDepth 100000 in
theorem refuse_p (w : World) (rb : Nat) (s : ByteArray) (J : Nat) (h : Rdr w rb s J) :
    Calls Tryz.prog 83 #[.pointer (some ⟨rb, 0, none⟩)] w fun e w' => Refused w' e J ∧ w.grownBy w' none := by
  have hlt := lt_of_block h
  obtain ⟨c0, c1, c2, c3, f1, f2, f3⟩ := four_p h
  go_enter Tryz.func83, Tryz.ntmps83
  go_wp2
  exact ⟨rfl, ⟨_, rfl, heap_alloc_new _ _⟩, World.grownBy_alloc _ _ _⟩

theorem str_eq (t x : List UInt8) : ((B t).toList == (B x).toList) = decide (t = x) := by
  rw [toList_B, toList_B]
  by_cases h : t = x <;> simp [h]

set_option maxRecDepth 100000 in
theorem skips_p (kw : List (List UInt8)) (hkw : KwOK kw) (w : World) (rb : Nat) (s : ByteArray) (T : List Tok) (st : St) (x : List UInt8) (h : PSt kw w rb s T st) (hx : x ∈ kw ∨ x ∈ sgns) :
    Calls Tryz.prog 85 #[.pointer (some ⟨rb, 0, none⟩), .string (B x)] w fun e w' => e = .returned (.bool (isS T st x)) ∧ PSt kw w' rb s T (takeS T st x) ∧ Kept rb w w' := by
  obtain ⟨hneg, ⟨J, hat, hrd⟩, hs⟩ := h
  have hsl : s.data.toList.length = s.size := by rw [Array.length_toList]; rfl
  have ha := asked kw hkw s.data.toList J hat.1
  have hiff : nxT s.data.toList J = x ↔ (tk T st.k).is = x := by
    rw [hat.tk]
    rcases hx with hx | hx
    · exact ha.word x hx
    · exact ha.sign x hx
  obtain ⟨c0, c1, c2, c3, f1, f2, f3⟩ := four_p hrd
  have HR := hid hrd
  have HA := hid hat
  have HAS := hid ha
  clear hrd hat ha
  by_cases he : nxT s.data.toList J = x
  · have hi : isS T st x = true := by simp [isS, hneg, hiff.1 he]
    have hne : x ≠ kNone ∧ x ≠ kEnd := by
      rcases hx with hx | hx
      · obtain ⟨_, _, _, _, _, _, _, n3, n4⟩ := hkw x hx
        exact ⟨n4, n3⟩
      · exact ⟨(sgn_ne x hx).2.2.2, (sgn_ne x hx).1⟩
    have hnx := HA.out.next hkw (by rw [hiff.1 he]; exact hne.1) (by rw [hiff.1 he]; exact hne.2)
    have HT := hid (take_p w rb s J hs HR.out (by rw [← hsl]; exact hnx.2))
    have HN := hid hnx
    rw [he] at c2 
    have hbq : ((B x).toList == (B x).toList) = true := by simp
    rw [hi]
    have HI := hid hi
    clear hnx hiff he hi hne
    go_enter Tryz.func85, Tryz.ntmps85
    go_wp2_with (go_at_call 125; refine HT.out.mono ?_; rintro e w' ⟨rfl, r1, r2⟩; have R1 := hid r1; have R2 := hid r2; clear r1 r2)
    go_ret
    refine ⟨rfl, ⟨?_, ⟨_, ?_, R1.out⟩, hs⟩, R2.out⟩
    · unfold takeS; rw [if_pos HI.out]; exact hneg
    · unfold takeS; rw [if_pos HI.out]; exact HN.out.1
  · have hi : isS T st x = false := by
      have : ¬ (tk T st.k).is = x := fun e => he (hiff.2 e)
      simp [isS, this]
    have hbq : ((B (nxT s.data.toList J)).toList == (B x).toList) = false := by rw [str_eq]; simp [he]
    rw [hi]
    have HI := hid hi
    clear hiff hi
    go_enter Tryz.func85, Tryz.ntmps85
    go_wp2
    go_ret
    refine ⟨rfl, ?_, Kept.refl _ _⟩
    unfold takeS
    rw [if_neg (by rw [HI.out]; decide)]
    exact ⟨hneg, ⟨J, HA.out, HR.out⟩, hs⟩
end Go.Proofs.YtcdijppegfcoaabGreatDoor
