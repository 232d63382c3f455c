import Derived.Test.YtcdijppegfcoaabGreatDoorZC00
import Derived.Deep.LoopGhost
import Derived.Deep.QuietTactic
import Derived.BigQuiet
import Derived.Deep.RegionWith
import Derived.Deep.DeepCutAuto
set_option maxRecDepth 100000
set_option maxHeartbeats 4000000
namespace Go.Proofs.YtcdijppegfcoaabGreatDoor
open Go.RowKit
def exKw : List (List UInt8) := [kFun,kLet,kRec,kAnd,kIn,kIf,kThen,kElse]
theorem exKw_ok : KwOK exKw := by
  intro x hx
  simp only [exKw,List.mem_cons,List.not_mem_nil,or_false] at hx
  rcases hx with rfl | rfl | rfl | rfl | rfl | rfl | rfl | rfl <;> exact ⟨_,_,rfl,by decide,by decide,by decide,by decide,by decide,by decide⟩
structure PSt (kw : List (List UInt8)) (w : World) (rb : Nat) (s : ByteArray) (T : List Tok) (st : St) : Prop where
  neg : st.bad < 0
  place : ∃ J,At kw s.data.toList T st.k J ∧ Rdr w rb s J
  size : s.size ≤ 300
theorem PSt.lt {kw : List (List UInt8)} {w : World} {rb : Nat} {s : ByteArray} {T : List Tok} {st : St} (h : PSt kw w rb s T st) : rb < w.heap.size := by
  obtain ⟨J,_,h2⟩ := h.place
  exact lt_of_block h2
theorem PSt.klt {kw : List (List UInt8)} {w : World} {rb : Nat} {s : ByteArray} {T : List Tok} {st : St} (h : PSt kw w rb s T st) : st.k < T.length := by
  obtain ⟨J,h1,_⟩ := h.place
  exact h1.lt
theorem PSt.grown {kw : List (List UInt8)} {w w' : World} {rb : Nat} {s : ByteArray} {T : List Tok} {st : St} (h : PSt kw w rb s T st) (hg : w.grownBy w' none) : PSt kw w' rb s T st := by
  have hl := h.lt
  obtain ⟨h1,⟨J,h2,h3⟩,h4⟩ := h
  exact ⟨h1,⟨J,h2,by unfold Rdr; rw [hg.block rb hl (by simp)]; exact h3⟩,h4⟩
theorem PSt.alloc {kw : List (List UInt8)} {w : World} {rb : Nat} {s : ByteArray} {T : List Tok} {st : St} (h : PSt kw w rb s T st) (o : Obj) : PSt kw (w.alloc o) rb s T st := h.grown (World.grownBy_alloc _ _ _)
theorem PSt.drew {kw : List (List UInt8)} {w : World} {rb : Nat} {s : ByteArray} {T : List Tok} {st : St} (h : PSt kw w rb s T st) : PSt kw w.drew rb s T st := ⟨h.neg,h.place,h.size⟩
def refusal (b : Nat) : Ending := .panicked [{ v := .iface 202 (.agg #[.iface 81 (.pointer (some ⟨b,0,none⟩))]),recovered := false }]
def Refused (w' : World) (e : Ending) (p : Int) : Prop := ∃ b,e = refusal b ∧ w'.heap[b]? = some (.cells #[.int .i64 p] 92 (0,0))
theorem refuse_p (w : World) (rb : Nat) (s : ByteArray) (J : Nat) (h : Rdr w rb s J) :
    Calls Tryz.prog 83 #[.pointer (some ⟨rb,0,none⟩)] w fun e w' => Refused w' e J ∧ w.grownBy w' none := by
  have hlt := lt_of_block h
  obtain ⟨c0,c1,c2,c3,f1,f2,f3⟩ := four_p h
  go_enter Tryz.func83,Tryz.ntmps83
  go_wp2
  exact ⟨rfl,⟨_,rfl,heap_alloc_new _ _⟩,World.grownBy_alloc _ _ _⟩
theorem str_eq (t x : List UInt8) : ((B t).toList == (B x).toList) = decide (t = x) := by
  rw [toList_B,toList_B]
  by_cases h : t = x <;> simp [h]
theorem skips_p (kw : List (List UInt8)) (hkw : KwOK kw) (w : World) (rb : Nat) (s : ByteArray) (T : List Tok) (st : St) (x : List UInt8) (h : PSt kw w rb s T st) (hx : x ∈ kw ∨ x ∈ sgns) :
    Calls Tryz.prog 85 #[.pointer (some ⟨rb,0,none⟩),.string (B x)] w fun e w' => e = .returned (.bool (isS T st x)) ∧ PSt kw w' rb s T (takeS T st x) ∧ Kept rb w w' := by
  obtain ⟨hneg,⟨J,hat,hrd⟩,hs⟩ := h
  have hsl : s.data.toList.length = s.size := by rw [Array.length_toList]; rfl
  have ha := asked kw hkw s.data.toList J hat.1
  have hiff : nxT s.data.toList J = x ↔ (tk T st.k).is = x := by
    rw [hat.tk]
    rcases hx with hx | hx
    · exact ha.word x hx
    · exact ha.sign x hx
  obtain ⟨c0,c1,c2,c3,f1,f2,f3⟩ := four_p hrd
  have HR := hid hrd
  have HA := hid hat
  have HAS := hid ha
  clear hrd hat ha
  by_cases he : nxT s.data.toList J = x
  · have hi : isS T st x = true := by simp [isS,hneg,hiff.1 he]
    have hne : x ≠ kNone ∧ x ≠ kEnd := by
      rcases hx with hx | hx
      · obtain ⟨_,_,_,_,_,_,_,n3,n4⟩ := hkw x hx
        exact ⟨n4,n3⟩
      · exact ⟨(sgn_ne x hx).2.2.2,(sgn_ne x hx).1⟩
    have hnx := HA.out.next hkw (by rw [hiff.1 he]; exact hne.1) (by rw [hiff.1 he]; exact hne.2)
    have HT := hid (take_p w rb s J hs HR.out (by rw [← hsl]; exact hnx.2))
    have HN := hid hnx
    rw [he] at c2
    have hbq : ((B x).toList == (B x).toList) = true := by simp
    rw [hi]
    have HI := hid hi
    clear hnx hiff he hi hne
    go_enter Tryz.func85,Tryz.ntmps85
    go_wp2_with (go_at_call 125; refine HT.out.mono ?_; rintro e w' ⟨rfl,r1,r2⟩; have R1 := hid r1; have R2 := hid r2; clear r1 r2)
    go_ret
    refine ⟨rfl,⟨?_,⟨_,?_,R1.out⟩,hs⟩,R2.out⟩
    · unfold takeS; rw [if_pos HI.out]; exact hneg
    · unfold takeS; rw [if_pos HI.out]; exact HN.out.1
  · have hi : isS T st x = false := by
      have : ¬ (tk T st.k).is = x := fun e => he (hiff.2 e)
      simp [isS,this]
    have hbq : ((B (nxT s.data.toList J)).toList == (B x).toList) = false := by rw [str_eq]; simp [he]
    rw [hi]
    have HI := hid hi
    clear hiff hi
    go_enter Tryz.func85,Tryz.ntmps85
    go_wp2
    go_ret
    refine ⟨rfl,?_,Kept.refl _ _⟩
    unfold takeS
    rw [if_neg (by rw [HI.out]; decide)]
    exact ⟨hneg,⟨J,HA.out,HR.out⟩,hs⟩
def POut (kw : List (List UInt8)) (w w' : World) (rb : Nat) (s : ByteArray) (T : List Tok) (st' : St) (e : Ending) (good : Prop) : Prop :=
  Kept rb w w' ∧ ((good ∧ PSt kw w' rb s T st') ∨ (0 ≤ st'.bad ∧ Refused w' e st'.bad))
theorem isS_is {T : List Tok} {s : St} {x : List UInt8} (h : isS T s x = true) : (tk T s.k).is = x := by
  simp only [isS,Bool.and_eq_true,beq_iff_eq] at h
  exact h.2
theorem need_yes {T : List Tok} {st : St} {x : List UInt8} (h : isS T st x = true) : needS T st x = takeS T st x := by
  unfold needS takeS
  rw [if_pos h,if_pos h]
theorem need_no {T : List Tok} {st : St} {x : List UInt8} (hb : st.bad < 0) (h : isS T st x = false) : needS T st x = ⟨st.k,((tk T st.k).pos : Int)⟩ := by
  unfold needS
  rw [if_neg (by rw [h]; decide),if_pos hb]
theorem take_no {T : List Tok} {st : St} {x : List UInt8} (h : isS T st x = false) : takeS T st x = st := by
  unfold takeS
  rw [if_neg (by rw [h]; decide)]
theorem take_yes {T : List Tok} {st : St} {x : List UInt8} (h : isS T st x = true) : takeS T st x = st.up := by
  unfold takeS
  rw [if_pos h]
  rfl
theorem must_p (kw : List (List UInt8)) (hkw : KwOK kw) (w : World) (rb : Nat) (s : ByteArray) (T : List Tok) (st : St) (x : List UInt8) (h : PSt kw w rb s T st) (hx : x ∈ kw ∨ x ∈ sgns) :
    Calls Tryz.prog 126 #[.pointer (some ⟨rb,0,none⟩),.string (B x)] w fun e w' => POut kw w w' rb s T (needS T st x) e (e = .returned (.tuple #[])) := by
  have hneg := h.neg
  have HS := hid (skips_p kw hkw w rb s T st x h hx)
  clear h
  cases hi : isS T st x with
  | true =>
    rw [hi] at HS
    have HI := hid hi
    clear hi
    go_enter Tryz.func126,Tryz.ntmps126
    go_wp2_with (go_at_call 85; refine HS.out.mono ?_; rintro e w' ⟨rfl,r1,r2⟩; have R1 := hid r1; have R2 := hid r2; clear r1 r2)
    first | go_end0 | skip
    exact ⟨R2.out,Or.inl ⟨rfl,by rw [need_yes HI.out]; exact R1.out⟩⟩
  | false =>
    rw [hi] at HS
    have HI := hid hi
    clear hi
    go_enter Tryz.func126,Tryz.ntmps126
    go_wp2_with (go_at_call 85; refine HS.out.mono ?_; rintro e w' ⟨rfl,r1,r2⟩; have R1 := hid r1; have R2 := hid r2; clear r1 r2)
    have p1 : PSt kw w' rb s T st := by have := R1.out; rw [take_no HI.out] at this; exact this
    obtain ⟨J,hat,hrd⟩ := p1.place
    have htk := hat.tk
    have hpos := (asked kw hkw s.data.toList J hat.1).pos
    refine (refuse_p _ rb s J hrd).mono ?_
    rintro e w'' ⟨⟨b,rfl,hb⟩,hg⟩
    have HB := hid hb
    have HG := hid hg
    have HP := hid (show ((tk T st.k).pos : Int) = (J : Int) by rw [htk,hpos])
    clear hb hg htk hpos hat hrd p1
    unfold refusal
    go_wp2
    refine ⟨rfl,R2.out.trans (Kept.of0 rb HG.out),Or.inr ?_⟩
    rw [need_no hneg HI.out]
    refine ⟨by simp,b,rfl,?_⟩
    show w''.heap[b]? = some (Obj.cells #[Value.int .i64 ((tk T st.k).pos : Int)] _ (0,0))
    rw [HP.out]
    exact HB.out
theorem isKeyword_p (t : List UInt8) (w : World) : Calls Tryz.prog 115 #[.string (B t)] w fun e w' => e = .returned (.bool (decide (t ∈ exKw))) ∧ w' = w := by
  by_cases h : t ∈ exKw
  · have h' := h
    simp only [exKw,List.mem_cons,List.not_mem_nil,or_false] at h'
    have hd : decide (t ∈ exKw) = true := by simp [h]
    rw [hd]
    clear h hd
    rcases h' with rfl | rfl | rfl | rfl | rfl | rfl | rfl | rfl <;>
    · unfold B
      go_enter Tryz.func115,Tryz.ntmps115
      go_wp2
      go_ret
      exact ⟨rfl,rfl⟩
  · have hd : decide (t ∈ exKw) = false := by simp [h]
    rw [hd]
    simp only [exKw,List.mem_cons,List.not_mem_nil,or_false,not_or] at h
    obtain ⟨h1,h2,h3,h4,h5,h6,h7,h8⟩ := h
    have q1 : ((B t).toList == [102,117,110]) = false := by rw [toList_B]; exact beq_eq_false_iff_ne.2 h1
    have q2 : ((B t).toList == [108,101,116]) = false := by rw [toList_B]; exact beq_eq_false_iff_ne.2 h2
    have q3 : ((B t).toList == [114,101,99]) = false := by rw [toList_B]; exact beq_eq_false_iff_ne.2 h3
    have q4 : ((B t).toList == [97,110,100]) = false := by rw [toList_B]; exact beq_eq_false_iff_ne.2 h4
    have q5 : ((B t).toList == [105,110]) = false := by rw [toList_B]; exact beq_eq_false_iff_ne.2 h5
    have q6 : ((B t).toList == [105,102]) = false := by rw [toList_B]; exact beq_eq_false_iff_ne.2 h6
    have q7 : ((B t).toList == [116,104,101,110]) = false := by rw [toList_B]; exact beq_eq_false_iff_ne.2 h7
    have q8 : ((B t).toList == [101,108,115,101]) = false := by rw [toList_B]; exact beq_eq_false_iff_ne.2 h8
    clear h1 h2 h3 h4 h5 h6 h7 h8
    go_enter Tryz.func115,Tryz.ntmps115
    go_wp2
    go_ret
    exact ⟨rfl,rfl⟩
def rdV (rb : Nat) : Value := .agg #[.pointer (some ⟨rb,0,none⟩)]
theorem isName_p (w : World) (rb : Nat) (s : ByteArray) (T : List Tok) (st : St) (h : PSt exKw w rb s T st) :
    Calls Tryz.prog 176 #[rdV rb] w fun e w' => e = .returned (.bool (isS T st kName)) ∧ w.grownBy w' none := by
  obtain ⟨hneg,⟨J,hat,hrd⟩,hs⟩ := h
  have ha := asked exKw exKw_ok s.data.toList J hat.1
  have hn := ha.name
  rw [← hat.tk] at hn
  have hlt := lt_of_block hrd
  obtain ⟨c0,c1,c2,c3,f1,f2,f3⟩ := four_p hrd
  have a1 := fun x => cell_past c1 x
  have a2 := fun x => cell_past c2 x
  clear c0 c1 c2 c3 f1 f2 f3
  generalize nxK s.data.toList J = kk at *
  generalize nxT s.data.toList J = tt at *
  clear hrd hat ha
  unfold rdV
  by_cases hk : kk = 2
  · subst hk
    by_cases ht : tt ∈ exKw
    · have hi : isS T st kName = false := by
        have : ¬ (tk T st.k).is = kName := fun e => (hn.2 e).2 ht
        simp [isS,this]
      rw [hi]
      have hd : decide (tt ∈ exKw) = true := by simp [ht]
      clear hn hi ht
      go_enter Tryz.func176,Tryz.ntmps176
      go_wp2_with (go_at_call 115; refine (isKeyword_p tt _).mono ?_; rintro e w' ⟨rfl,rfl⟩; rw [hd])
      go_ret
      exact ⟨rfl,World.grownBy_alloc _ _ _⟩
    · have hi : isS T st kName = true := by simp [isS,hneg,hn.1 ⟨rfl,ht⟩]
      rw [hi]
      have hd : decide (tt ∈ exKw) = false := by simp [ht]
      clear hn hi ht
      go_enter Tryz.func176,Tryz.ntmps176
      go_wp2_with (go_at_call 115; refine (isKeyword_p tt _).mono ?_; rintro e w' ⟨rfl,rfl⟩; rw [hd])
      go_ret
      exact ⟨rfl,World.grownBy_alloc _ _ _⟩
  · have hi : isS T st kName = false := by
      have : ¬ (tk T st.k).is = kName := fun e => hk (hn.2 e).1
      simp [isS,this]
    rw [hi]
    have hq : ((kk : Int) == 2) = false := by simp; omega
    clear hn hi
    go_enter Tryz.func176,Tryz.ntmps176
    go_wp2
    go_ret
    exact ⟨rfl,World.grownBy_alloc _ _ _⟩
theorem name_p (w : World) (rb : Nat) (s : ByteArray) (T : List Tok) (st : St) (h : PSt exKw w rb s T st) :
    Calls Tryz.prog 142 #[rdV rb] w fun e w' => POut exKw w w' rb s T (needS T st kName) e (e = .returned (.string (B (tk T st.k).s))) := by
  have hneg := h.neg
  have hlt := h.lt
  have hs := h.size
  have hsl : s.data.toList.length = s.size := by rw [Array.length_toList]; rfl
  have HB := hid (h.alloc (.cells #[.pointer (some ⟨rb,0,none⟩)] 153))
  clear h
  unfold rdV
  go_enter Tryz.func142,Tryz.ntmps142
  go_wp2_with fail
  refine (isName_p _ rb s T st HB.out).mono ?_
  rintro e w1 ⟨rfl,hg⟩
  have hbx : w1.cell? ⟨w.heap.size,0,none⟩ = some (.pointer (some ⟨rb,0,none⟩)) := by
    rw [World.cell?_of_block (a := ⟨w.heap.size,0,none⟩) (hg.block w.heap.size (by simp) (by simp))]
    simp [go_sem]
  have hp := HB.out.grown hg
  have HK := hid (((Kept.refl rb w).alloc (.cells #[.pointer (some ⟨rb,0,none⟩)] 153)).trans (Kept.of0 rb hg))
  clear hg HB
  obtain ⟨_,⟨J,hat,hrd⟩,_⟩ := hp
  have ha := asked exKw exKw_ok s.data.toList J hat.1
  cases hi : isS T st kName with
  | true =>
    have hk := (isS_is hi)
    have hnx := hat.next exKw_ok (by rw [hk]; decide) (by rw [hk]; decide)
    have hre := ha.real (by rw [← hat.tk,hk]; decide) (by rw [← hat.tk,hk]; decide)
    have HT := hid (take_p w1 rb s J hs hrd (by rw [← hsl]; exact hnx.2))
    have HN := hid hnx.1
    have HE := hid (show nxT s.data.toList J = (tk T st.k).s by rw [hat.tk]; exact hre.1)
    have HI := hid hi
    clear hnx hre hat hrd ha hi hk
    go_wp2_with (go_at_call 125; refine HT.out.mono ?_; rintro e w' ⟨rfl,r1,r2⟩; have R1 := hid r1; have R2 := hid r2; clear r1 r2)
    go_ret
    refine ⟨HK.out.trans R2.out,Or.inl ⟨?_,?_⟩⟩
    · show Ending.returned (.string (B (nxT s.data.toList J))) = _
      rw [HE.out]
    · rw [need_yes HI.out,take_yes HI.out]
      exact ⟨hneg,⟨_,HN.out,R1.out⟩,hs⟩
  | false =>
    have HI := hid hi
    have HP := hid (show ((tk T st.k).pos : Int) = (J : Int) by rw [hat.tk,ha.pos])
    have HR := hid (refuse_p w1 rb s J hrd)
    clear hat hrd ha hi
    go_wp2_with fail
    refine HR.out.mono ?_
    rintro e w'' ⟨⟨b,rfl,hb⟩,hg⟩
    have HB := hid hb
    have HG := hid hg
    clear hb hg
    unfold refusal
    go_wp2
    refine ⟨rfl,HK.out.trans (Kept.of0 rb HG.out),Or.inr ?_⟩
    rw [need_no hneg HI.out]
    refine ⟨by simp,b,rfl,?_⟩
    show w''.heap[b]? = some (Obj.cells #[Value.int .i64 ((tk T st.k).pos : Int)] _ (0,0))
    rw [HP.out]
    exact HB.out
def moreT (T : List Tok) (t : St) : Bool := isS T t kName || (isS T t kNum || isS T t kOpen)
theorem isAtom_p (w : World) (rb : Nat) (s : ByteArray) (T : List Tok) (st : St) (h : PSt exKw w rb s T st) :
    Calls Tryz.prog 147 #[rdV rb] w fun e w' => e = .returned (.bool (moreT T st)) ∧ w.grownBy w' none := by
  have hneg := h.neg
  have hlt := h.lt
  have HB := hid (h.alloc (.cells #[.pointer (some ⟨rb,0,none⟩)] 153))
  clear h
  unfold rdV
  go_enter Tryz.func147,Tryz.ntmps147
  go_wp2_with fail
  refine (isName_p _ rb s T st HB.out).mono ?_
  rintro e w1 ⟨rfl,hg⟩
  have hbx : w1.cell? ⟨w.heap.size,0,none⟩ = some (.pointer (some ⟨rb,0,none⟩)) := by
    rw [World.cell?_of_block (a := ⟨w.heap.size,0,none⟩) (hg.block w.heap.size (by simp) (by simp))]
    simp [go_sem]
  have hp := HB.out.grown hg
  have HK := hid ((World.grownBy_alloc w (.cells #[.pointer (some ⟨rb,0,none⟩)] 153) none).trans hg)
  clear hg HB
  obtain ⟨_,⟨J,hat,hrd⟩,_⟩ := hp
  have ha := asked exKw exKw_ok s.data.toList J hat.1
  have hnum := ha.num
  have hopen := ha.sign kOpen (by decide)
  rw [← hat.tk] at hnum hopen
  obtain ⟨c0,c1,c2,c3,f1,f2,f3⟩ := four_p hrd
  clear hat hrd ha c0 c3 f1 f2 f3
  generalize nxK s.data.toList J = kk at *
  generalize nxT s.data.toList J = tt at *
  cases hi : isS T st kName with
  | true =>
    have hm : moreT T st = true := by simp [moreT,hi]
    go_wp2
    go_ret
    exact ⟨by rw [hm]; rfl,HK.out⟩
  | false =>
    by_cases hk : kk = 3
    · have hm : moreT T st = true := by simp [moreT,isS,hneg,hnum.1 hk]
      subst hk
      clear hnum hopen
      go_wp2
      go_ret
      exact ⟨by rw [hm]; rfl,HK.out⟩
    · have hq : ((kk : Int) == 3) = false := by simp; omega
      have hn : isS T st kNum = false := by
        have : ¬ (tk T st.k).is = kNum := fun e => hk (hnum.2 e)
        simp [isS,this]
      by_cases ht : tt = kOpen
      · have hm : moreT T st = true := by simp [moreT,isS,hneg,hopen.1 ht]
        have hb : ((B tt).toList == [40]) = true := by rw [toList_B,ht]; rfl
        clear hnum hopen hn ht
        go_wp2
        go_ret
        exact ⟨by rw [hm]; rfl,HK.out⟩
      · have ho : isS T st kOpen = false := by
          have : ¬ (tk T st.k).is = kOpen := fun e => ht (hopen.2 e)
          simp [isS,this]
        have hm : moreT T st = false := by simp [moreT,hi,hn,ho]
        have hb : ((B tt).toList == [40]) = false := by rw [toList_B]; exact beq_eq_false_iff_ne.2 ht
        clear hnum hopen hn ho ht
        go_wp2
        go_ret
        exact ⟨by rw [hm]; rfl,HK.out⟩
def maxl (l : List Nat) : Nat := l.foldl max 0
def exDeep : Nat → Ex → Nat
  | 0,_ => 0
  | m + 1,x => maxl (x.kids.map (exDeep m)) + 1
theorem foldl_max (l : List Nat) (a : Nat) : l.foldl max a = max a (l.foldl max 0) := by
  induction l generalizing a with
  | nil => simp
  | cons b l ih => simp only [List.foldl_cons]; rw [ih (max a b),ih (max 0 b)]; omega
theorem maxl_snoc (l : List Nat) (a : Nat) : maxl (l ++ [a]) = max (maxl l) a := by simp [maxl,List.foldl_append]
theorem maxl_take (l : List Nat) (j : Nat) : maxl (l.take j) ≤ maxl l := by
  have e : maxl l = max (maxl (l.take j)) (maxl (l.drop j)) := by
    conv => lhs; rw [← List.take_append_drop j l]
    unfold maxl
    rw [List.foldl_append,foldl_max]
  omega
def Small : Nat → Ex → Prop
  | 0,_ => True
  | m + 1,x => x.kids.length ≤ 1000000 ∧ x.names.length ≤ 1000000 ∧ ∀ y,y ∈ x.kids → Small m y
def tFun : List UInt8 := [102,117,110,32]
def tArrow : List UInt8 := [32,45,62,32]
theorem size_B (l : List UInt8) : (B l).size = l.length := by simp [B,ByteArray.size]
theorem append_B (a b : List UInt8) : B a ++ B b = B (a ++ b) := by
  apply ByteArray.ext
  simp [B]
def tOpen : List UInt8 := [40]
def tShut : List UInt8 := [41]
def tComma : List UInt8 := [44,32]
def tIf : List UInt8 := [105,102,32]
def tThen : List UInt8 := [32,116,104,101,110,32]
def tElse : List UInt8 := [32,101,108,115,101,32]
def tSp : List UInt8 := [32]
def brF (p : List UInt8) : Bool := p == kFun || (p == kIf || (p == kLet || p == kRec))
def brA (p : List UInt8) : Bool := p != kName && (p != kNum && p != oPair)
def inBr (b : Bool) (t : List UInt8) : List UInt8 := if b = true then tOpen ++ t ++ tShut else t
theorem inBr_len (b : Bool) (t : List UInt8) : (inBr b t).length ≤ t.length + 2 := by
  unfold inBr
  split
  · simp [tOpen,tShut]
  · omega
def tLet : List UInt8 := [108,101,116,32]
def tRec : List UInt8 := [114,101,99,32]
def tAnd : List UInt8 := [32,97,110,100,32]
def tEq : List UInt8 := [32,61,32]
def tIn : List UInt8 := [32,105,110,32]
def bindTo (nm ts : Nat → List UInt8) : Nat → List UInt8
  | 0 => []
  | j + 1 => bindTo nm ts j ++ ((if 0 < j then tAnd else []) ++ (nm j ++ tEq ++ ts j))
def letHead (op : List UInt8) : List UInt8 := tLet ++ (if op = kRec then tRec else [])
def nth (l : List (List UInt8)) (j : Nat) : List UInt8 := (l[j]?).getD []
def exText : Nat → Ex → List UInt8
  | 0,_ => []
  | m + 1,x =>
    let k := fun j => match x.kids[j]? with | some y => exText m y | none => []
    let o := fun j => match x.kids[j]? with | some y => y.op | none => []
    if x.op = kName ∨ x.op = kNum then nth x.names 0
    else if x.op = kFun then tFun ++ nth x.names 0 ++ tArrow ++ k 0
    else if x.op = oPair then tOpen ++ k 0 ++ tComma ++ k 1 ++ tShut
    else if x.op = kIf then tIf ++ k 0 ++ tThen ++ k 1 ++ tElse ++ k 2
    else if x.op = oApp then inBr (brF (o 0)) (k 0) ++ tSp ++ inBr (brA (o 1)) (k 1)
    else letHead x.op ++ bindTo (nth x.names) k x.names.length ++ tIn ++ k x.names.length
def Shape : Nat → Ex → Prop
  | 0,_ => False
  | m + 1,x => (((x.op = kName ∨ x.op = kNum) ∧ x.names.length = 1) ∨ (x.op = kFun ∧ x.names.length = 1 ∧ x.kids.length = 1) ∨ (x.op = oPair ∧ x.kids.length = 2) ∨ (x.op = kIf ∧ x.kids.length = 3) ∨ (x.op = oApp ∧ x.kids.length = 2) ∨
      ((x.op = kLet ∨ x.op = kRec) ∧ 0 < x.names.length ∧ x.kids.length = x.names.length + 1)) ∧ ∀ y,y ∈ x.kids → Shape m y
def kidT (m : Nat) (x : Ex) (j : Nat) : List UInt8 := match x.kids[j]? with | some y => exText m y | none => []
def kidO (x : Ex) (j : Nat) : List UInt8 := match x.kids[j]? with | some y => y.op | none => []
def exBody (x : Ex) (k : Nat → List UInt8) : List UInt8 :=
  if x.op = kName ∨ x.op = kNum then nth x.names 0
  else if x.op = kFun then tFun ++ nth x.names 0 ++ tArrow ++ k 0
  else if x.op = oPair then tOpen ++ k 0 ++ tComma ++ k 1 ++ tShut
  else if x.op = kIf then tIf ++ k 0 ++ tThen ++ k 1 ++ tElse ++ k 2
  else if x.op = oApp then inBr (brF (kidO x 0)) (k 0) ++ tSp ++ inBr (brA (kidO x 1)) (k 1)
  else letHead x.op ++ bindTo (nth x.names) k x.names.length ++ tIn ++ k x.names.length
theorem exText_succ (m : Nat) (x : Ex) : exText (m + 1) x = exBody x (kidT m x) := rfl
theorem more_fuel : ∀ (m : Nat) (x : Ex),Shape m x → Shape (m + 1) x ∧ exText (m + 1) x = exText m x ∧ exDeep (m + 1) x = exDeep m x
  | 0,_,h => absurd h id
  | m + 1,x,h => by
    have ih := fun y (hy : y ∈ x.kids) => more_fuel m y (h.2 y hy)
    refine ⟨⟨h.1,fun y hy => (ih y hy).1⟩,?_,?_⟩
    · rw [exText_succ,exText_succ]
      congr 1
      funext j
      unfold kidT
      cases e : x.kids[j]? with
      | none => rfl
      | some y => exact (ih y (List.mem_of_getElem? e)).2.1
    · show maxl (x.kids.map (exDeep (m + 1))) + 1 = maxl (x.kids.map (exDeep m)) + 1
      rw [List.map_congr_left (fun y hy => (ih y hy).2.2)]
theorem more_small : ∀ (m : Nat) (x : Ex),Shape m x → Small m x → Small (m + 1) x
  | 0,_,h,_ => absurd h id
  | m + 1,_,h,hs => ⟨hs.1,hs.2.1,fun y hy => more_small m y (h.2 y hy) (hs.2.2 y hy)⟩
structure Nice (m : Nat) (x : Ex) (c : Nat) : Prop where
  shape : Shape m x
  text : (exText m x).length + 8 ≤ 16 * c
  deep : exDeep m x ≤ c
  small : Small m x
theorem Nice.up {m : Nat} {x : Ex} {c : Nat} (h : Nice m x c) : Nice (m + 1) x c := by
  obtain ⟨h1,h2,h3⟩ := more_fuel m x h.shape
  exact ⟨h1,by rw [h2]; exact h.text,by rw [h3]; exact h.deep,more_small m x h.shape h.small⟩
theorem Nice.le {m m' : Nat} {x : Ex} {c : Nat} (h : Nice m x c) (hm : m ≤ m') : Nice m' x c := by
  induction m' with
  | zero => rw [Nat.le_zero.1 hm] at h; exact h
  | succ k ih =>
    rcases Nat.lt_or_ge m (k + 1) with hlt | hge
    · exact (ih (by omega)).up
    · rw [show k + 1 = m from by omega]; exact h
theorem Nice.more {m : Nat} {x : Ex} {c c' : Nat} (h : Nice m x c) (hc : c ≤ c') : Nice m x c' :=
  ⟨h.shape,by have := h.text; omega,Nat.le_trans h.deep hc,h.small⟩
theorem Nice.pos {m : Nat} {x : Ex} {c : Nat} (h : Nice m x c) : 0 < c := by have := h.text; omega
theorem nice_leaf (op nm : List UInt8) (p : Nat) (ho : op = kName ∨ op = kNum) (hl : nm.length ≤ 8) : Nice 1 ⟨op,[nm],[],p⟩ 1 := by
  refine ⟨⟨Or.inl ⟨ho,rfl⟩,fun y hy => by cases hy⟩,?_,by simp [exDeep,maxl],⟨by simp,by simp,fun y hy => by cases hy⟩⟩
  rw [exText_succ,exBody,if_pos ho]
  show nm.length + 8 ≤ 16
  omega
theorem nice_fun {m : Nat} {b : Ex} {c : Nat} (nm : List UInt8) (p : Nat) (hl : nm.length ≤ 8) (h : Nice m b c) : Nice (m + 1) ⟨kFun,[nm],[b],p⟩ (c + 3) := by
  refine ⟨⟨Or.inr (Or.inl ⟨rfl,rfl,rfl⟩),fun y hy => by rw [List.mem_singleton.1 hy]; exact h.shape⟩,?_,?_,⟨by simp,by simp,fun y hy => by rw [List.mem_singleton.1 hy]; exact h.small⟩⟩
  · have e : exText (m + 1) ⟨kFun,[nm],[b],p⟩ = tFun ++ nm ++ tArrow ++ exText m b := rfl
    rw [e]
    have := h.text
    simp only [List.length_append,tFun,tArrow,List.length_cons,List.length_nil]
    omega
  · have := h.deep
    simp only [exDeep,List.map_cons,List.map_nil,maxl,List.foldl_cons,List.foldl_nil]
    omega
theorem nice_if {m : Nat} {a b c : Ex} {i j k : Nat} (p : Nat) (h : Nice m a i) (h' : Nice m b j) (h'' : Nice m c k) : Nice (m + 1) ⟨kIf,[],[a,b,c],p⟩ (i + j + k + 3) := by
  refine ⟨⟨Or.inr (Or.inr (Or.inr (Or.inl ⟨rfl,rfl⟩))),fun y hy => ?_⟩,?_,?_,⟨by simp,by simp,fun y hy => ?_⟩⟩
  · simp only [List.mem_cons,List.not_mem_nil,or_false] at hy
    rcases hy with rfl | rfl | rfl
    · exact h.shape
    · exact h'.shape
    · exact h''.shape
  · have e : exText (m + 1) ⟨kIf,[],[a,b,c],p⟩ = tIf ++ exText m a ++ tThen ++ exText m b ++ tElse ++ exText m c := rfl
    rw [e]
    have := h.text
    have := h'.text
    have := h''.text
    simp only [List.length_append,tIf,tThen,tElse,List.length_cons,List.length_nil]
    omega
  · have := h.deep
    have := h'.deep
    have := h''.deep
    simp only [exDeep,List.map_cons,List.map_nil,maxl,List.foldl_cons,List.foldl_nil]
    omega
  · simp only [List.mem_cons,List.not_mem_nil,or_false] at hy
    rcases hy with rfl | rfl | rfl
    · exact h.small
    · exact h'.small
    · exact h''.small
theorem nice_pair {m : Nat} {a b : Ex} {i j : Nat} (p : Nat) (h : Nice m a i) (h' : Nice m b j) : Nice (m + 1) ⟨oPair,[],[a,b],p⟩ (i + j + 3) := by
  refine ⟨⟨Or.inr (Or.inr (Or.inl ⟨rfl,rfl⟩)),fun y hy => ?_⟩,?_,?_,⟨by simp,by simp,fun y hy => ?_⟩⟩
  · simp only [List.mem_cons,List.not_mem_nil,or_false] at hy
    rcases hy with rfl | rfl
    · exact h.shape
    · exact h'.shape
  · have e : exText (m + 1) ⟨oPair,[],[a,b],p⟩ = tOpen ++ exText m a ++ tComma ++ exText m b ++ tShut := rfl
    rw [e]
    have := h.text
    have := h'.text
    simp only [List.length_append,tOpen,tComma,tShut,List.length_cons,List.length_nil]
    omega
  · have := h.deep
    have := h'.deep
    simp only [exDeep,List.map_cons,List.map_nil,maxl,List.foldl_cons,List.foldl_nil]
    omega
  · simp only [List.mem_cons,List.not_mem_nil,or_false] at hy
    rcases hy with rfl | rfl
    · exact h.small
    · exact h'.small
theorem nice_app {m : Nat} {a b : Ex} {i j : Nat} (p : Nat) (h : Nice m a i) (h' : Nice m b j) : Nice (m + 1) ⟨oApp,[],[a,b],p⟩ (i + j) := by
  refine ⟨⟨Or.inr (Or.inr (Or.inr (Or.inr (Or.inl ⟨rfl,rfl⟩)))),fun y hy => ?_⟩,?_,?_,⟨by simp,by simp,fun y hy => ?_⟩⟩
  · simp only [List.mem_cons,List.not_mem_nil,or_false] at hy
    rcases hy with rfl | rfl
    · exact h.shape
    · exact h'.shape
  · have e : exText (m + 1) ⟨oApp,[],[a,b],p⟩ = inBr (brF a.op) (exText m a) ++ tSp ++ inBr (brA b.op) (exText m b) := rfl
    rw [e]
    have := h.text
    have := h'.text
    have := inBr_len (brF a.op) (exText m a)
    have := inBr_len (brA b.op) (exText m b)
    simp only [List.length_append,tSp,List.length_cons,List.length_nil]
    omega
  · have := h.deep
    have := h'.deep
    have := h.pos
    have := h'.pos
    simp only [exDeep,List.map_cons,List.map_nil,maxl,List.foldl_cons,List.foldl_nil]
    omega
  · simp only [List.mem_cons,List.not_mem_nil,or_false] at hy
    rcases hy with rfl | rfl
    · exact h.small
    · exact h'.small
theorem bindTo_congr {nm nm' ts ts' : Nat → List UInt8} (N : Nat) (h : ∀ j,j < N → nm j = nm' j ∧ ts j = ts' j) : bindTo nm ts N = bindTo nm' ts' N := by
  induction N with
  | zero => rfl
  | succ N ih => rw [bindTo,bindTo,ih (fun j hj => h j (by omega)),(h N (by omega)).1,(h N (by omega)).2]
structure Part (m : Nat) (x : Ex) (c : Nat) : Prop where
  op : x.op = kLet ∨ x.op = kRec
  len : x.kids.length = x.names.length
  nlen : x.names.length ≤ c
  kids : ∀ y,y ∈ x.kids → Shape m y ∧ exDeep m y ≤ c ∧ Small m y
  text : (bindTo (nth x.names) (kidT m x) x.names.length).length ≤ 16 * c
theorem Part.up {m : Nat} {x : Ex} {c : Nat} (h : Part m x c) : Part (m + 1) x c := by
  refine ⟨h.op,h.len,h.nlen,fun y hy => ?_,?_⟩
  · obtain ⟨h1,h2,h3⟩ := h.kids y hy
    obtain ⟨e1,e2,e3⟩ := more_fuel m y h1
    exact ⟨e1,by rw [e3]; exact h2,more_small m y h1 h3⟩
  · rw [bindTo_congr (nm' := nth x.names) (ts' := kidT m x) _ (fun j _ => ⟨rfl,?_⟩)]
    · exact h.text
    · unfold kidT
      cases e : x.kids[j]? with
      | none => rfl
      | some y => exact (more_fuel m y (h.kids y (List.mem_of_getElem? e)).1).2.1
theorem Part.le {m m' : Nat} {x : Ex} {c : Nat} (h : Part m x c) (hm : m ≤ m') : Part m' x c := by
  induction m' with
  | zero => rw [Nat.le_zero.1 hm] at h; exact h
  | succ k ih =>
    rcases Nat.lt_or_ge m (k + 1) with hlt | hge
    · exact (ih (by omega)).up
    · rw [show k + 1 = m from by omega]; exact h
theorem nth_old (l : List (List UInt8)) (a : List UInt8) {j : Nat} (h : j < l.length) : nth (l ++ [a]) j = nth l j := by
  rw [nth,nth,List.getElem?_append_left h]
theorem nth_new (l : List (List UInt8)) (a : List UInt8) : nth (l ++ [a]) l.length = a := by simp [nth]
theorem Part.add {m : Nat} {x b : Ex} {c d : Nat} (h : Part m x c) (nm : List UInt8) (hl : nm.length ≤ 8) (hb : Nice m b d) : Part m ⟨x.op,x.names ++ [nm],x.kids ++ [b],x.pos⟩ (c + d + 2) := by
  refine ⟨h.op,?_,?_,fun y hy => ?_,?_⟩
  · show (x.kids ++ [b]).length = (x.names ++ [nm]).length
    simp [h.len]
  · show (x.names ++ [nm]).length ≤ _
    have := h.nlen
    simp only [List.length_append,List.length_cons,List.length_nil]
    omega
  · have hy' : y ∈ x.kids ++ [b] := hy
    rcases List.mem_append.1 hy' with hy' | hy'
    · obtain ⟨h1,h2,h3⟩ := h.kids y hy'
      exact ⟨h1,by omega,h3⟩
    · rw [List.mem_singleton.1 hy']
      exact ⟨hb.shape,by have := hb.deep; omega,hb.small⟩
  · show (bindTo (nth (x.names ++ [nm])) (kidT m ⟨x.op,x.names ++ [nm],x.kids ++ [b],x.pos⟩) (x.names ++ [nm]).length).length ≤ _
    rw [List.length_append,List.length_singleton,bindTo,nth_new]
    rw [bindTo_congr (nm' := nth x.names) (ts' := kidT m x) x.names.length (fun j hj => ⟨nth_old _ _ hj,?_⟩)]
    · have e : kidT m ⟨x.op,x.names ++ [nm],x.kids ++ [b],x.pos⟩ x.names.length = exText m b := by
        simp [kidT,← h.len]
      rw [e]
      have := h.text
      have := hb.text
      have ha : (if 0 < x.names.length then tAnd else []).length ≤ 5 := by split <;> simp [tAnd]
      simp only [List.length_append,tEq,List.length_cons,List.length_nil]
      omega
    · simp only [kidT]
      rw [List.getElem?_append_left (by rw [h.len]; exact hj)]
theorem Part.done {m : Nat} {x b : Ex} {c d : Nat} (h : Part m x c) (h0 : 0 < x.names.length) (hb : Nice m b d) (hc : c + d ≤ 1000) : Nice (m + 1) ⟨x.op,x.names,x.kids ++ [b],x.pos⟩ (c + d + 2) := by
  have hop : x.op ≠ kName ∧ x.op ≠ kNum ∧ x.op ≠ kFun ∧ x.op ≠ oPair ∧ x.op ≠ kIf ∧ x.op ≠ oApp := by
    rcases h.op with ho | ho <;> rw [ho] <;> decide
  have hall : ∀ y,y ∈ x.kids ++ [b] → Shape m y ∧ exDeep m y ≤ c + d ∧ Small m y := fun y hy => by
    rcases List.mem_append.1 hy with hy | hy
    · obtain ⟨h1,h2,h3⟩ := h.kids y hy
      exact ⟨h1,by omega,h3⟩
    · rw [List.mem_singleton.1 hy]
      exact ⟨hb.shape,by have := hb.deep; omega,hb.small⟩
  have hn := h.nlen
  refine ⟨⟨Or.inr (Or.inr (Or.inr (Or.inr (Or.inr ⟨h.op,h0,?_⟩)))),fun y hy => (hall y hy).1⟩,?_,?_,⟨?_,?_,fun y hy => (hall y hy).2.2⟩⟩
  · show (x.kids ++ [b]).length = x.names.length + 1
    simp [h.len]
  · rw [exText_succ,exBody]
    rw [if_neg (fun e => e.elim hop.1 hop.2.1),if_neg hop.2.2.1,if_neg hop.2.2.2.1,if_neg hop.2.2.2.2.1,if_neg hop.2.2.2.2.2]
    show (letHead x.op ++ bindTo (nth x.names) (kidT m ⟨x.op,x.names,x.kids ++ [b],x.pos⟩) x.names.length ++ tIn ++ kidT m ⟨x.op,x.names,x.kids ++ [b],x.pos⟩ x.names.length).length + 8 ≤ _
    rw [bindTo_congr (nm' := nth x.names) (ts' := kidT m x) x.names.length (fun j hj => ⟨rfl,?_⟩)]
    · have e : kidT m ⟨x.op,x.names,x.kids ++ [b],x.pos⟩ x.names.length = exText m b := by
        simp [kidT,← h.len]
      rw [e]
      have := h.text
      have := hb.text
      have hhd : (letHead x.op).length ≤ 8 := by unfold letHead; split <;> simp [tLet,tRec]
      simp only [List.length_append,tIn,List.length_cons,List.length_nil]
      omega
    · simp only [kidT]
      rw [List.getElem?_append_left (by rw [h.len]; exact hj)]
  · have hm : maxl ((x.kids ++ [b]).map (exDeep m)) ≤ c + d := by
      have hle : ∀ (l : List Nat) (B : Nat),(∀ a,a ∈ l → a ≤ B) → maxl l ≤ B := fun l B hl => by
        induction l with
        | nil => simp [maxl]
        | cons a l ih =>
          unfold maxl
          rw [List.foldl_cons,foldl_max]
          have h1 := hl a (List.mem_cons_self ..)
          have h2 := ih (fun z hz => hl z (List.mem_cons_of_mem _ hz))
          unfold maxl at h2
          omega
      refine hle _ _ (fun a ha => ?_)
      obtain ⟨y,hy,rfl⟩ := List.mem_map.1 ha
      exact (hall y hy).2.1
    show maxl ((x.kids ++ [b]).map (exDeep m)) + 1 ≤ _
    omega
  · show (x.kids ++ [b]).length ≤ 1000000
    simp only [List.length_append,List.length_cons,List.length_nil,h.len]
    omega
  · show x.names.length ≤ 1000000
    omega
def pT (op : List UInt8) : TypeId :=
  if op = kName then 157 else if op = kNum then 175 else if op = kFun then 178 else if op = kIf then 181
  else if op = kLet then 184 else if op = kRec then 190 else if op = oApp then 195 else 198
def IsTy (t : TypeId) : Prop := t = 157 ∨ t = 175 ∨ t = 178 ∨ t = 181 ∨ t = 184 ∨ t = 190 ∨ t = 195 ∨ t = 198
theorem pT_is (op : List UInt8) : IsTy (pT op) := by
  unfold pT IsTy
  repeat' split
  all_goals simp
def bindCells : List (List UInt8) → List Value → List Value
  | n :: ns,u :: us => .string (B n) :: u :: bindCells ns us
  | _,_ => []
def RowB (H : Nat → Option Obj) (gv : Value) (ns : List (List UInt8)) (us : List Value) : Prop :=
  ∃ g cap cur,gv = .slice (some ⟨g,0,none⟩) ns.length cap ∧ H g = some (.cells cur 187 (0,0)) ∧ cur.toList.take (ns.length * 2) = bindCells ns us
def PNode (H : Nat → Option Obj) (e : Ex) (vs : List Value) (dep : Nat) (b : Nat) : Prop :=
  (e.op = kName ∧ ∃ t,e.names = [t] ∧ e.kids.length = 0 ∧ vs = [] ∧ H b = some (.cells #[.int .i64 (dep : Int),.string (B t),.int .i64 (e.pos : Int)] 163 (0,0))) ∨
  (e.op = kNum ∧ ∃ t,e.names = [t] ∧ e.kids.length = 0 ∧ vs = [] ∧ H b = some (.cells #[.int .i64 (dep : Int),.string (B t)] 177 (0,0))) ∨
  (e.op = kFun ∧ ∃ t u,e.names = [t] ∧ e.kids.length = 1 ∧ vs = [u] ∧ H b = some (.cells #[.int .i64 (dep : Int),.string (B t),u] 180 (0,0))) ∨
  (e.op = kIf ∧ ∃ u v x,e.kids.length = 3 ∧ vs = [u,v,x] ∧ H b = some (.cells #[.int .i64 (dep : Int),u,v,x] 183 (0,0))) ∨
  (e.op = kLet ∧ ∃ t u v,e.names = [t] ∧ e.kids.length = 2 ∧ vs = [u,v] ∧ H b = some (.cells #[.int .i64 (dep : Int),.string (B t),u,v] 189 (0,0))) ∨
  (e.op = kRec ∧ ∃ us u gv,0 < e.names.length ∧ us.length = e.names.length ∧ e.kids.length = e.names.length + 1 ∧ vs = us ++ [u] ∧ RowB H gv e.names us ∧ H b = some (.cells #[.int .i64 (dep : Int),gv,u] 194 (0,0))) ∨
  (e.op = oApp ∧ ∃ u v,e.kids.length = 2 ∧ vs = [u,v] ∧ H b = some (.cells #[.int .i64 (dep : Int),u,v] 197 (0,0))) ∨
  (e.op = oPair ∧ ∃ u v,e.kids.length = 2 ∧ vs = [u,v] ∧ H b = some (.cells #[.int .i64 (dep : Int),u,v] 200 (0,0)))
def PRep : Nat → (Nat → Option Obj) → Value → Ex → Prop
  | 0,_,_,_ => False
  | n + 1,H,v,e => ∃ b vs,v = .iface (pT e.op) (.pointer (some ⟨b,0,none⟩)) ∧ PNode H e vs (exDeep (n + 1) e) b ∧ vs.length = e.kids.length ∧
      ∀ (i : Nat) (y : Ex) (u : Value),vs[i]? = some u → e.kids[i]? = some y → PRep n H u y
theorem RowB.ext {m : Nat} {H H' : Nat → Option Obj} {gv : Value} {ns : List (List UInt8)} {us : List Value} (h : RowB H gv ns us) (e : Ext m H H') : RowB H' gv ns us := by
  obtain ⟨g,cap,cur,h1,h2,h3⟩ := h
  exact ⟨g,cap,cur,h1,e.1 _ _ h2,h3⟩
theorem PNode.ext {m : Nat} {H H' : Nat → Option Obj} {x : Ex} {vs : List Value} {d b : Nat} (h : PNode H x vs d b) (e : Ext m H H') : PNode H' x vs d b := by
  rcases h with ⟨h0,t,h1,h2,h3,h4⟩ | ⟨h0,t,h1,h2,h3,h4⟩ | ⟨h0,t,u,h1,h2,h3,h4⟩ | ⟨h0,u,v,y,h1,h2,h4⟩ | ⟨h0,t,u,v,h1,h2,h3,h4⟩ | ⟨h0,us,u,gv,h1,h2,h3,h4,h5,h6⟩ | ⟨h0,u,v,h1,h2,h4⟩ | ⟨h0,u,v,h1,h2,h4⟩
  · exact Or.inl ⟨h0,t,h1,h2,h3,e.1 _ _ h4⟩
  · exact Or.inr (Or.inl ⟨h0,t,h1,h2,h3,e.1 _ _ h4⟩)
  · exact Or.inr (Or.inr (Or.inl ⟨h0,t,u,h1,h2,h3,e.1 _ _ h4⟩))
  · exact Or.inr (Or.inr (Or.inr (Or.inl ⟨h0,u,v,y,h1,h2,e.1 _ _ h4⟩)))
  · exact Or.inr (Or.inr (Or.inr (Or.inr (Or.inl ⟨h0,t,u,v,h1,h2,h3,e.1 _ _ h4⟩))))
  · exact Or.inr (Or.inr (Or.inr (Or.inr (Or.inr (Or.inl ⟨h0,us,u,gv,h1,h2,h3,h4,h5.ext e,e.1 _ _ h6⟩)))))
  · exact Or.inr (Or.inr (Or.inr (Or.inr (Or.inr (Or.inr (Or.inl ⟨h0,u,v,h1,h2,e.1 _ _ h4⟩))))))
  · exact Or.inr (Or.inr (Or.inr (Or.inr (Or.inr (Or.inr (Or.inr ⟨h0,u,v,h1,h2,e.1 _ _ h4⟩))))))
theorem PRep.ext {m : Nat} {H H' : Nat → Option Obj} (e : Ext m H H') : ∀ (n : Nat) (v : Value) (x : Ex),PRep n H v x → PRep n H' v x
  | 0,_,_,h => h
  | n + 1,v,x,h => by
    obtain ⟨b,vs,h1,h2,h3,h4⟩ := h
    exact ⟨b,vs,h1,h2.ext e,h3,fun i y u h5 h6 => PRep.ext e n u y (h4 i y u h5 h6)⟩
theorem PRep.shape {H : Nat → Option Obj} : ∀ (n : Nat) (v : Value) (x : Ex),PRep n H v x → Shape n x
  | 0,_,_,h => h
  | n + 1,v,x,h => by
    obtain ⟨b,vs,h1,h2,h3,h4⟩ := h
    refine ⟨?_,fun y hy => ?_⟩
    · rcases h2 with ⟨h0,t,h1,h2,h3,_⟩ | ⟨h0,t,h1,h2,h3,_⟩ | ⟨h0,t,u,h1,h2,h3,_⟩ | ⟨h0,u,v,y,h1,h2,_⟩ | ⟨h0,t,u,v,h1,h2,h3,_⟩ | ⟨h0,us,u,gv,h1,h2,h3,_⟩ | ⟨h0,u,v,h1,h2,_⟩ | ⟨h0,u,v,h1,h2,_⟩
      · exact Or.inl ⟨Or.inl h0,by rw [h1]; rfl⟩
      · exact Or.inl ⟨Or.inr h0,by rw [h1]; rfl⟩
      · exact Or.inr (Or.inl ⟨h0,by rw [h1]; rfl,h2⟩)
      · exact Or.inr (Or.inr (Or.inr (Or.inl ⟨h0,h1⟩)))
      · exact Or.inr (Or.inr (Or.inr (Or.inr (Or.inr ⟨Or.inl h0,by rw [h1]; simp,by rw [h1,h2]; rfl⟩))))
      · exact Or.inr (Or.inr (Or.inr (Or.inr (Or.inr ⟨Or.inr h0,h1,h3⟩))))
      · exact Or.inr (Or.inr (Or.inr (Or.inr (Or.inl ⟨h0,h1⟩))))
      · exact Or.inr (Or.inr (Or.inl ⟨h0,h1⟩))
    · obtain ⟨i,hi,rfl⟩ := List.mem_iff_getElem.1 hy
      exact PRep.shape n _ _ (h4 i _ (vs[i]'(by omega)) (List.getElem?_eq_getElem _) (List.getElem?_eq_getElem _))
theorem PRep.up {H : Nat → Option Obj} : ∀ (n : Nat) (v : Value) (x : Ex),PRep n H v x → PRep (n + 1) H v x
  | 0,_,_,h => absurd h id
  | n + 1,v,x,h => by
    have hs := (more_fuel _ _ (PRep.shape _ _ _ h)).2.2
    obtain ⟨b,vs,h1,h2,h3,h4⟩ := h
    exact ⟨b,vs,h1,by rw [hs]; exact h2,h3,fun i y u h5 h6 => PRep.up n u y (h4 i y u h5 h6)⟩
theorem PRep.le {H : Nat → Option Obj} {n m : Nat} {v : Value} {x : Ex} (h : PRep n H v x) (hm : n ≤ m) : PRep m H v x := by
  induction m with
  | zero => rw [Nat.le_zero.1 hm] at h; exact h
  | succ m ih =>
    rcases Nat.lt_or_ge n (m + 1) with hlt | hge
    · exact PRep.up m v x (ih (by omega))
    · rw [show m + 1 = n from by omega]; exact h
theorem deep_le {n m : Nat} {x : Ex} (h : Shape n x) (hm : n ≤ m) : exDeep m x = exDeep n x := by
  have hs : ∀ k,Shape (n + k) x ∧ exDeep (n + k) x = exDeep n x := by
    intro k
    induction k with
    | zero => exact ⟨h,rfl⟩
    | succ k ih =>
      have := more_fuel _ _ ih.1
      exact ⟨this.1,this.2.2.trans ih.2⟩
  have := (hs (m - n)).2
  rw [show n + (m - n) = m from by omega] at this
  exact this
def DAt (w : World) (v : Value) (d : Nat) : Prop := ∃ t b,IsTy t ∧ v = .iface t (.pointer (some ⟨b,0,none⟩)) ∧ b < w.heap.size ∧ w.cell? ⟨b,0,none⟩ = some (.int .i64 (d : Int))
theorem PNode.first {H : Nat → Option Obj} {x : Ex} {vs : List Value} {d b : Nat} (h : PNode H x vs d b) {w : World} (hz : Fz H w) : b < w.heap.size ∧ w.cell? ⟨b,0,none⟩ = some (.int .i64 (d : Int)) := by
  rcases h with ⟨_,t,_,_,_,h4⟩ | ⟨_,t,_,_,_,h4⟩ | ⟨_,t,u,_,_,_,h4⟩ | ⟨_,u,v,y,_,_,h4⟩ | ⟨_,t,u,v,_,_,_,h4⟩ | ⟨_,us,u,gv,_,_,_,_,_,h4⟩ | ⟨_,u,v,_,_,h4⟩ | ⟨_,u,v,_,_,h4⟩ <;>
  · have hb := hz _ _ h4
    exact ⟨lt_of_block hb,by simp [World.cell?,hb]⟩
theorem PRep.dat {H : Nat → Option Obj} {n : Nat} {v : Value} {x : Ex} {w : World} (h : PRep n H v x) (hz : Fz H w) : DAt w v (exDeep n x) := by
  cases n with
  | zero => exact absurd h id
  | succ n =>
    obtain ⟨b,vs,h1,h2,_⟩ := h
    obtain ⟨h3,h4⟩ := h2.first hz
    exact ⟨_,b,pT_is _,h1,h3,h4⟩
theorem DAt.grown {w w' : World} {v : Value} {d : Nat} (h : DAt w v d) (hg : w.grownBy w' none) : DAt w' v d := by
  obtain ⟨t,b,h1,h2,h3,h4⟩ := h
  refine ⟨t,b,h1,h2,Nat.lt_of_lt_of_le h3 hg.size,?_⟩
  rw [World.cell?_of_block (a := ⟨b,0,none⟩) (hg.block b h3 (by simp))]
  exact h4
theorem mDepthName (b : Nat) (w : World) : (Go.method 502 157 (.pointer (some ⟨b,0,none⟩)) "Depth").run Tryz.prog w = (do let v ← loadVar 161 ⟨b,0,none⟩; pure (241,v) : Sem (FuncId × Value)).run Tryz.prog w := by kernel_rfl
theorem mDepthNumber (b : Nat) (w : World) : (Go.method 502 175 (.pointer (some ⟨b,0,none⟩)) "Depth").run Tryz.prog w = (do let v ← loadVar 161 ⟨b,0,none⟩; pure (241,v) : Sem (FuncId × Value)).run Tryz.prog w := by kernel_rfl
theorem mDepthFun (b : Nat) (w : World) : (Go.method 502 178 (.pointer (some ⟨b,0,none⟩)) "Depth").run Tryz.prog w = (do let v ← loadVar 161 ⟨b,0,none⟩; pure (241,v) : Sem (FuncId × Value)).run Tryz.prog w := by kernel_rfl
theorem mDepthIf (b : Nat) (w : World) : (Go.method 502 181 (.pointer (some ⟨b,0,none⟩)) "Depth").run Tryz.prog w = (do let v ← loadVar 161 ⟨b,0,none⟩; pure (241,v) : Sem (FuncId × Value)).run Tryz.prog w := by kernel_rfl
theorem mDepthLet (b : Nat) (w : World) : (Go.method 502 184 (.pointer (some ⟨b,0,none⟩)) "Depth").run Tryz.prog w = (do let v ← loadVar 161 ⟨b,0,none⟩; pure (241,v) : Sem (FuncId × Value)).run Tryz.prog w := by kernel_rfl
theorem mDepthLetRec (b : Nat) (w : World) : (Go.method 502 190 (.pointer (some ⟨b,0,none⟩)) "Depth").run Tryz.prog w = (do let v ← loadVar 161 ⟨b,0,none⟩; pure (241,v) : Sem (FuncId × Value)).run Tryz.prog w := by kernel_rfl
theorem mDepthApply (b : Nat) (w : World) : (Go.method 502 195 (.pointer (some ⟨b,0,none⟩)) "Depth").run Tryz.prog w = (do let v ← loadVar 161 ⟨b,0,none⟩; pure (241,v) : Sem (FuncId × Value)).run Tryz.prog w := by kernel_rfl
theorem mDepthPair (b : Nat) (w : World) : (Go.method 502 198 (.pointer (some ⟨b,0,none⟩)) "Depth").run Tryz.prog w = (do let v ← loadVar 161 ⟨b,0,none⟩; pure (241,v) : Sem (FuncId × Value)).run Tryz.prog w := by kernel_rfl
theorem grown_set {w wi : World} {o : Obj} (hg : (w.alloc o).grownBy wi none) (v : Value) : w.grownBy (wi.setCell ⟨w.heap.size,0,none⟩ v) none :=
  ⟨hg.os,hg.tape,hg.output,by have := hg.size; simp [World.setCell] at this ⊢; omega,fun k hk _ => by
    rw [Below.heap_setCell _ _ _ _ (by show k ≠ w.heap.size; omega),hg.block k (by simp; omega) (by simp),Below.heap_alloc _ _ _ hk]⟩
theorem bind_part (b : Nat) (d : Nat) (w : World) (h : w.cell? ⟨b,0,none⟩ = some (.int .i64 (d : Int))) : (do let v ← loadVar 161 ⟨b,0,none⟩; pure (241,v) : Sem (FuncId × Value)).run Tryz.prog w = .ok (241,.agg #[.int .i64 (d : Int)]) w := by
  simp [go_sem,h]
theorem mDepth_any {t : TypeId} (ht : IsTy t) (b d : Nat) (w : World) (h : w.cell? ⟨b,0,none⟩ = some (.int .i64 (d : Int))) : (Go.method 502 t (.pointer (some ⟨b,0,none⟩)) "Depth").run Tryz.prog w = .ok (241,.agg #[.int .i64 (d : Int)]) w := by
  rcases ht with rfl | rfl | rfl | rfl | rfl | rfl | rfl | rfl
  · rw [mDepthName]; exact bind_part b d w h
  · rw [mDepthNumber]; exact bind_part b d w h
  · rw [mDepthFun]; exact bind_part b d w h
  · rw [mDepthIf]; exact bind_part b d w h
  · rw [mDepthLet]; exact bind_part b d w h
  · rw [mDepthLetRec]; exact bind_part b d w h
  · rw [mDepthApply]; exact bind_part b d w h
  · rw [mDepthPair]; exact bind_part b d w h
theorem depth_p (d : Nat) (w : World) : Calls Tryz.prog 241 #[.agg #[.int .i64 (d : Int)]] w fun e w' => e = .returned (.int .i64 (d : Int)) ∧ w' = w.alloc (.cells #[.int .i64 (d : Int)] 161) := by
  go_enter Tryz.func241,Tryz.ntmps241
  go_wp2
  go_ret
  exact ⟨rfl,rfl⟩
theorem above_p (w : World) (ao : Option Addr) (cap : Nat) (us : List Value) (ds : List Nat) (hl : ds.length = us.length) (hn : us.length ≤ 1000) (hrow : ∀ (i : Nat) (u : Value),us[i]? = some u → ∃ g,ao = some ⟨g,0,none⟩ ∧ g < w.heap.size ∧ w.cell? ⟨g,i,none⟩ = some u) (hd : ∀ (i : Nat) (u : Value) (d : Nat),us[i]? = some u → ds[i]? = some d → DAt w u d) (hb : maxl ds ≤ 1000) :
    Calls Tryz.prog 143 #[.slice ao us.length cap] w fun e w' => e = .returned (.agg #[.int .i64 ((maxl ds + 1 : Nat) : Int)]) ∧ w.grownBy w' none := by
  go_enter Tryz.func143,Tryz.ntmps143
  go_wp2_with fail
  go_loopg [3,8] (us.length + 1) (fun q m i wi => ∃ j : Nat,j ≤ us.length ∧ i = .int .i64 j ∧ q = us.length - j + 1 ∧ m = .int .i64 ((maxl (ds.take j) : Nat) : Int) ∧ (w.alloc (.cells #[.int .i64 0] 161)).grownBy wi none)
  case atStart => exact ⟨0,by omega,rfl,by omega,rfl,World.grownBy.refl _ _⟩
  case round =>
    obtain ⟨j,hj,rfl,hq,rfl,hgr⟩ := hrel
    by_cases hlt : j < us.length
    · obtain ⟨u,hu⟩ : ∃ u,us[j]? = some u := ⟨us[j],List.getElem?_eq_getElem _⟩
      obtain ⟨d,hdd⟩ : ∃ d,ds[j]? = some d := ⟨ds[j]'(by omega),List.getElem?_eq_getElem _⟩
      have hgr2 := (World.grownBy_alloc w (.cells #[.int .i64 0] 161) none).trans hgr
      obtain ⟨g,rfl,hg,hc⟩ := hrow j u hu
      rw [← World.cell?_of_block (a := ⟨g,j,none⟩) (hgr2.block g hg (by simp))] at hc
      obtain ⟨t,b,ht,rfl,hbl,hbc⟩ := (hd j u d hu hdd).grown hgr2
      have hts : maxl (ds.take (j + 1)) = max (maxl (ds.take j)) d := by
        rw [List.take_add_one,hdd]
        exact maxl_snoc _ _
      have htk := maxl_take ds (j + 1)
      have hmm : ((max (maxl (ds.take j)) d : Nat) : Int) = max ((maxl (ds.take j) : Nat) : Int) (d : Int) := by omega
      have hj2 : (j : Int) < (us.length : Int) := by omega
      have HG := hid hgr
      have HT := hid hts
      have HM := hid hmm
      clear hgr hgr2 hrow hd hts hmm
      have hme := mDepth_any ht b d _ hbc
      go_wp2_with (go_at_call 241; refine (depth_p d _).mono ?_; rintro e w' ⟨rfl,rfl⟩)
      all_goals
        go_roundg (us.length - (j + 1) + 1)
        case measure => omega
        case rel => exact ⟨j + 1,by omega,by go_num,rfl,by rw [HT.out]; congr 1; omega,HG.out.trans (World.grownBy_alloc _ _ _)⟩
    · have hj3 : j = us.length := by omega
      subst hj3
      rw [List.take_of_length_le (by omega)] at *
      have HG := hid hgr
      have hle : ((maxl ds : Nat) : Int) ≤ 1000 := by omega
      rename World => wi
      have e0 : wi.heap[w.heap.size]? = some (.cells #[.int .i64 0] 161 (0,0)) := by
        rw [hgr.block w.heap.size (by simp) (by simp)]
        exact heap_alloc_new _ _
      have l0 := lt_of_block e0
      have c0 : wi.cell? ⟨w.heap.size,0,none⟩ = some (.int .i64 0) := by simp [World.cell?,e0]
      have f0 : wi.frozen? ⟨w.heap.size,0,none⟩ = false := by simp [World.frozen?,e0]
      clear hgr hrow hd
      go_wp2
      refine bodyPost_ret (v := .agg #[.int .i64 ((maxl ds + 1 : Nat) : Int)]) (by simp [results,Tryz.results143,go_sem,c0]) rfl ?_
      exact ⟨rfl,grown_set HG.out _⟩
theorem above_0 (w : World) : Calls Tryz.prog 143 #[.slice none 0 0] w fun e w' => e = .returned (.agg #[.int .i64 1]) ∧ w.grownBy w' none :=
  above_p w none 0 [] [] rfl (by simp) (fun i u h => by simp at h) (fun i u d h => by simp at h) (by simp [maxl])
def EOut (w w' : World) (rb : Nat) (s : ByteArray) (T : List Tok) (H : Nat → Option Obj) (k0 : Nat) (st' : St) (e : Ending) (ex : Ex) : Prop :=
  Kept rb w w' ∧ ((∃ v H' m,e = .returned v ∧ PSt exKw w' rb s T st' ∧ Fz H' w' ∧ Ext w.heap.size H H' ∧ PRep m H' v ex ∧ exDeep m ex + k0 ≤ st'.k) ∨ (0 ≤ st'.bad ∧ Refused w' e st'.bad))
def EXPP (T : List Tok) (n : Nat) : Prop := ∀ (w : World) (rb : Nat) (s : ByteArray) (H : Nat → Option Obj) (st : St) (ex : Ex) (st' : St),expS T n st = some (ex,st') → PSt exKw w rb s T st → Fz H w → H rb = none →
  Calls Tryz.prog 69 #[rdV rb] w fun e w' => EOut w w' rb s T H st.k st' e ex
theorem need_bad {T : List Tok} {st : St} {x : List UInt8} (h : 0 ≤ st.bad) : needS T st x = st := by
  unfold needS
  rw [if_neg (by simp [isS]; intro h'; omega),if_neg (by omega)]
theorem exp_bad_st {T : List Tok} {n : Nat} {st : St} {x : Ex} {st' : St} (h : 0 ≤ st.bad) (hs : expS T n st = some (x,st')) : st' = st := by
  cases n with
  | zero => simp [expS] at hs
  | succ n =>
    rw [expS,if_pos h] at hs
    cases hs
    rfl
theorem need_k {T : List Tok} {st : St} {x : List UInt8} : st.k ≤ (needS T st x).k := by
  unfold needS
  split
  · show st.k ≤ st.k + 1; omega
  · exact Nat.le_refl _
theorem need_good {T : List Tok} {st : St} {x : List UInt8} (h : (needS T st x).bad < 0) : (needS T st x).k = st.k + 1 := by
  unfold needS at h ⊢
  split
  · rfl
  · rename_i hn
    rw [if_neg hn] at h
    simp only at h
    split at h
    · omega
    · omega
theorem node_rep {w : World} {H : Nat → Option Obj} (hz : Fz H w) (e : Ex) (vs : List Value) (n : Nat) (o : Obj) (hk : vs.length = e.kids.length) (hkids : ∀ (i : Nat) (y : Ex) (u : Value),vs[i]? = some u → e.kids[i]? = some y → PRep n H u y)
    (hn : ∀ H',Ext w.heap.size H H' → H' w.heap.size = some o → PNode H' e vs (exDeep (n + 1) e) w.heap.size) :
    ∃ H',Fz H' (w.alloc o) ∧ Ext w.heap.size H H' ∧ PRep (n + 1) H' (.iface (pT e.op) (.pointer (some ⟨w.heap.size,0,none⟩))) e := by
  have n1 : H w.heap.size = none := hz.none (Nat.le_refl _)
  have ext : Ext w.heap.size H (Fz.more H w.heap.size o) := (Ext.refl _ _).add (Nat.le_refl _) n1
  refine ⟨Fz.more H w.heap.size o,(hz.alloc _).add (heap_alloc_new _ _),ext,w.heap.size,vs,rfl,hn _ ext (Fz.more_same _ _ _),hk,fun i y u h1 h2 => PRep.ext ext _ _ _ (hkids i y u h1 h2)⟩
theorem Fz.grown {H : Nat → Option Obj} {w w' : World} (h : Fz H w) (hg : w.grownBy w' Option.none) : Fz H w' := fun k o e => by
  rw [hg.block k (h.lt e) (by simp)]
  exact h k o e
theorem Ext.from {n m : Nat} {H H' : Nat → Option Obj} (h : Ext m H H') (hn : n ≤ m) : Ext n H H' := ⟨h.1,fun k hk => h.2 k (by omega)⟩
theorem deep_pos {m : Nat} {H : Nat → Option Obj} {v : Value} {x : Ex} (h : PRep m H v x) : 0 < exDeep m x := by
  cases m with
  | zero => exact absurd h id
  | succ m => show 0 < maxl _ + 1; omega
theorem fun_p (T : List Tok) (n : Nat) (hl : T.length ≤ 400) (hE : EXPP T n) (w : World) (rb : Nat) (s : ByteArray) (H : Nat → Option Obj) (st : St) (y : Ex) (st4 : St) (p : Nat)
    (hs : expS T n (needS T (needS T st kName) kArrow) = some (y,st4)) (h : PSt exKw w rb s T st) (hz : Fz H w) (hr : H rb = none) :
    Calls Tryz.prog 110 #[rdV rb] w fun e w' => EOut w w' rb s T H st.k st4 e ⟨kFun,[(tk T st.k).s],[y],p⟩ := by
  have hlt := h.lt
  have HP := hid (h.alloc (.cells #[.pointer (some ⟨rb,0,none⟩)] 153))
  have HZ := hid hz
  have HE := hid hE
  have HS := hid hs
  have HK0 := hid ((Kept.refl rb w).alloc (.cells #[.pointer (some ⟨rb,0,none⟩)] 153))
  clear h hz hE hs
  unfold rdV
  go_enter Tryz.func110,Tryz.ntmps110
  go_wp2_with fail
  refine (name_p _ rb s T st HP.out).mono ?_
  rintro e w1 ⟨k1,(⟨rfl,p1⟩ | ⟨hb,b,rfl,hrf⟩)⟩
  · have b1 : w1.cell? ⟨w.heap.size,0,none⟩ = some (.pointer (some ⟨rb,0,none⟩)) := by
      rw [kept_cell k1 (by simp) (by omega)]
      simp [go_sem]
    have hw1 : w.heap.size < w1.heap.size := by have := k1.size; simp at this; omega
    have P1 := hid p1
    have K1 := hid (HK0.out.trans k1)
    clear p1 k1
    go_wp2_with fail
    refine (must_p exKw exKw_ok _ rb s T (needS T st kName) kArrow P1.out (Or.inr (by decide))).mono ?_
    rintro e w2 ⟨k2,(⟨rfl,p2⟩ | ⟨hb,b,rfl,hrf⟩)⟩
    · have b2 : w2.cell? ⟨w.heap.size,0,none⟩ = some (.pointer (some ⟨rb,0,none⟩)) := by
        rw [kept_cell k2 hw1 (by omega)]
        exact b1
      have hw2 : w1.heap.size ≤ w2.heap.size := k2.size
      have P2 := hid p2
      have K2 := hid (K1.out.trans k2)
      clear p2 k2 b1
      go_wp2_with fail
      refine (HE.out _ rb s H _ y st4 HS.out P2.out (HZ.out.kept K2.out hr) hr).mono ?_
      rintro e w3 ⟨k3,(⟨v,H3,m,rfl,p3,z3,e3,r3,d3⟩ | ⟨hb,b,rfl,hrf⟩)⟩
      · obtain ⟨tv,bv,htv,rfl,hbv,hcv⟩ := r3.dat z3
        have P3 := hid p3
        have K3 := hid (K2.out.trans k3)
        have Z3 := hid z3
        have E3 := hid e3
        have R3 := hid r3
        have D3 := hid d3
        have hkk := p3.klt
        have dat := r3.dat (w := w3.alloc (.cells #[.iface tv (.pointer (some ⟨bv,0,none⟩))] 101)) (z3.alloc _)
        have DA := hid dat
        have hw4 : w2.heap.size ≤ w3.heap.size := k3.size
        have hn1 := need_good P1.out.neg
        have hn2 := need_good P2.out.neg
        clear p3 k3 z3 e3 r3 dat b2
        go_wp2_with fail
        refine (above_p _ (some ⟨w3.heap.size,0,none⟩) 1 [.iface tv (.pointer (some ⟨bv,0,none⟩))] [exDeep m y] rfl (by simp) ?_ ?_ ?_).mono ?_
        · intro i u hu
          cases i with
          | zero => simp at hu; subst hu; exact ⟨_,rfl,by simp,by simp [go_sem]⟩
          | succ i => simp at hu
        · intro i u d hu hd
          cases i with
          | zero => simp at hu hd; subst hu hd; exact DA.out
          | succ i => simp at hu
        · simp [maxl]; omega
        rintro e w4 ⟨rfl,g4⟩
        have G4 := hid g4
        clear g4
        go_wp2
        go_ret
        obtain ⟨H5,z5,x5,r5⟩ := node_rep (w := w4) (H := H3) ((Z3.out.alloc _).grown G4.out) ⟨kFun,[(tk T st.k).s],[y],p⟩ [.iface tv (.pointer (some ⟨bv,0,none⟩))] m (.cells #[.int .i64 ((exDeep (m + 1) ⟨kFun,[(tk T st.k).s],[y],p⟩ : Nat) : Int),.string (B (tk T st.k).s),.iface tv (.pointer (some ⟨bv,0,none⟩))] 180) rfl
          (fun i z u h1 h2 => by
            cases i with
            | zero => simp at h1 h2; subst h1 h2; exact R3.out
            | succ i => simp at h1)
          (fun H' _ h2 => Or.inr (Or.inr (Or.inl ⟨rfl,_,_,rfl,rfl,rfl,h2⟩)))
        have hw3 : w3.heap.size ≤ w4.heap.size := by have := G4.out.size; simp at this; omega
        refine ⟨((K3.out.alloc _).trans (Kept.of0 rb G4.out)).alloc _,Or.inl ⟨_,H5,m + 1,rfl,((P3.out.alloc _).grown G4.out).alloc _,z5,(E3.out.from (by omega)).trans x5 (by omega),r5,?_⟩⟩
        have hd : exDeep (m + 1) ⟨kFun,[(tk T st.k).s],[y],p⟩ = exDeep m y + 1 := by simp [exDeep,maxl]
        have := D3.out
        omega
      · unfold refusal
        go_wp2
        exact ⟨rfl,K2.out.trans k3,Or.inr ⟨hb,b,rfl,hrf⟩⟩
    · have e4 := exp_bad_st hb HS.out
      unfold refusal
      go_wp2
      exact ⟨rfl,K1.out.trans k2,Or.inr ⟨by rw [e4]; exact hb,b,rfl,by rw [e4]; exact hrf⟩⟩
  · have e3 : needS T (needS T st kName) kArrow = needS T st kName := need_bad hb
    have e4 := exp_bad_st (by rw [e3]; exact hb) HS.out
    rw [e3] at e4
    unfold refusal
    go_wp2
    exact ⟨rfl,HK0.out.trans k1,Or.inr ⟨by rw [e4]; exact hb,b,rfl,by rw [e4]; exact hrf⟩⟩
theorem row3 {w : World} {t : TypeId} {a b c : Value} : ∀ (i : Nat) (u : Value),[a,b,c][i]? = some u → ∃ g,some (⟨w.heap.size,0,none⟩ : Addr) = some ⟨g,0,none⟩ ∧ g < (w.alloc (.cells #[a,b,c] t)).heap.size ∧ (w.alloc (.cells #[a,b,c] t)).cell? ⟨g,i,none⟩ = some u := by
  intro i u hu
  match i,hu with
  | 0,hu => simp at hu; subst hu; exact ⟨_,rfl,by simp,by simp [go_sem]⟩
  | 1,hu => simp at hu; subst hu; exact ⟨_,rfl,by simp,by simp [go_sem]⟩
  | 2,hu => simp at hu; subst hu; exact ⟨_,rfl,by simp,by simp [go_sem]⟩
  | i + 3,hu => simp at hu
theorem row2 {w : World} {t : TypeId} {a b : Value} : ∀ (i : Nat) (u : Value),[a,b][i]? = some u → ∃ g,some (⟨w.heap.size,0,none⟩ : Addr) = some ⟨g,0,none⟩ ∧ g < (w.alloc (.cells #[a,b] t)).heap.size ∧ (w.alloc (.cells #[a,b] t)).cell? ⟨g,i,none⟩ = some u := by
  intro i u hu
  match i,hu with
  | 0,hu => simp at hu; subst hu; exact ⟨_,rfl,by simp,by simp [go_sem]⟩
  | 1,hu => simp at hu; subst hu; exact ⟨_,rfl,by simp,by simp [go_sem]⟩
  | i + 2,hu => simp at hu
theorem all3 {p : Value → Nat → Prop} {a b c : Value} {x y z : Nat} (h1 : p a x) (h2 : p b y) (h3 : p c z) : ∀ (i : Nat) (u : Value) (d : Nat),[a,b,c][i]? = some u → [x,y,z][i]? = some d → p u d := by
  intro i u d hu hd
  match i,hu,hd with
  | 0,hu,hd => simp at hu hd; subst hu hd; exact h1
  | 1,hu,hd => simp at hu hd; subst hu hd; exact h2
  | 2,hu,hd => simp at hu hd; subst hu hd; exact h3
  | i + 3,hu,hd => simp at hu
theorem all2 {p : Value → Nat → Prop} {a b : Value} {x y : Nat} (h1 : p a x) (h2 : p b y) : ∀ (i : Nat) (u : Value) (d : Nat),[a,b][i]? = some u → [x,y][i]? = some d → p u d := by
  intro i u d hu hd
  match i,hu,hd with
  | 0,hu,hd => simp at hu hd; subst hu hd; exact h1
  | 1,hu,hd => simp at hu hd; subst hu hd; exact h2
  | i + 2,hu,hd => simp at hu
theorem kids3 {p : Value → Ex → Prop} {a b c : Value} {x y z : Ex} (h1 : p a x) (h2 : p b y) (h3 : p c z) : ∀ (i : Nat) (q : Ex) (u : Value),[a,b,c][i]? = some u → [x,y,z][i]? = some q → p u q := by
  intro i q u hu hd
  match i,hu,hd with
  | 0,hu,hd => simp at hu hd; subst hu hd; exact h1
  | 1,hu,hd => simp at hu hd; subst hu hd; exact h2
  | 2,hu,hd => simp at hu hd; subst hu hd; exact h3
  | i + 3,hu,hd => simp at hu
theorem kids2 {p : Value → Ex → Prop} {a b : Value} {x y : Ex} (h1 : p a x) (h2 : p b y) : ∀ (i : Nat) (q : Ex) (u : Value),[a,b][i]? = some u → [x,y][i]? = some q → p u q := by
  intro i q u hu hd
  match i,hu,hd with
  | 0,hu,hd => simp at hu hd; subst hu hd; exact h1
  | 1,hu,hd => simp at hu hd; subst hu hd; exact h2
  | i + 2,hu,hd => simp at hu
theorem choice_p (T : List Tok) (n : Nat) (hl : T.length ≤ 400) (hE : EXPP T n) (w : World) (rb : Nat) (s : ByteArray) (H : Nat → Option Obj) (st : St) (x y z : Ex) (s1 s2 s3 : St) (p : Nat)
    (hx : expS T n st = some (x,s1)) (hy : expS T n (needS T s1 kThen) = some (y,s2)) (hw : expS T n (needS T s2 kElse) = some (z,s3)) (h : PSt exKw w rb s T st) (hz : Fz H w) (hr : H rb = none) :
    Calls Tryz.prog 111 #[rdV rb] w fun e w' => EOut w w' rb s T H st.k s3 e ⟨kIf,[],[x,y,z],p⟩ := by
  have hlt := h.lt
  have HP := hid (h.alloc (.cells #[.pointer (some ⟨rb,0,none⟩)] 153))
  have HZ := hid (hz.alloc (.cells #[.pointer (some ⟨rb,0,none⟩)] 153))
  have HE := hid hE
  have HX := hid hx
  have HY := hid hy
  have HW := hid hw
  have K0 := hid ((Kept.refl rb w).alloc (.cells #[.pointer (some ⟨rb,0,none⟩)] 153))
  have fail2 : 0 ≤ (needS T s2 kElse).bad → s3 = needS T s2 kElse := fun hb => exp_bad_st hb hw
  have fail1 : 0 ≤ (needS T s1 kThen).bad → s3 = needS T s1 kThen := fun hb => by
    have e1 := exp_bad_st hb hy
    have e2 : needS T s2 kElse = s2 := need_bad (by rw [e1]; exact hb)
    rw [e2] at fail2
    rw [fail2 (by rw [e1]; exact hb),e1]
  have F1 := hid fail1
  have F2 := hid fail2
  clear h hz hE hx hy hw fail1 fail2
  unfold rdV
  go_enter Tryz.func111,Tryz.ntmps111
  go_wp2_with fail
  refine (HE.out _ rb s H st x s1 HX.out HP.out HZ.out hr).mono ?_
  rintro e w1 ⟨k1,(⟨v1,H1,m1,rfl,p1,z1,e1,r1,d1⟩ | ⟨hb,b,rfl,hrf⟩)⟩
  case inr =>
    have e3 : needS T s1 kThen = s1 := need_bad hb
    have e4 := F1.out (by rw [e3]; exact hb)
    rw [e3] at e4
    unfold refusal
    go_wp2
    exact ⟨rfl,K0.out.trans k1,Or.inr ⟨by rw [e4]; exact hb,b,rfl,by rw [e4]; exact hrf⟩⟩
  case inl =>
  obtain ⟨t1,b1,ht1,rfl,hb1,hc1⟩ := r1.dat z1
  have bx1 : w1.cell? ⟨w.heap.size,0,none⟩ = some (.pointer (some ⟨rb,0,none⟩)) := by
    rw [kept_cell k1 (by simp) (by omega)]
    simp [go_sem]
  have hw1 : w.heap.size < w1.heap.size := by have := k1.size; simp at this; omega
  have hr1 : H1 rb = none := by rw [e1.2 rb (by simp; omega)]; exact hr
  have P1 := hid p1
  have K1 := hid (K0.out.trans k1)
  have Z1 := hid z1
  have E1 := hid (e1.from (n := w.heap.size) (by simp))
  have R1 := hid r1
  have D1 := hid d1
  clear p1 k1 z1 e1 r1 d1 hb1 hc1
  go_wp2_with fail
  refine (must_p exKw exKw_ok _ rb s T s1 kThen P1.out (Or.inl (by decide))).mono ?_
  rintro e w2 ⟨k2,(⟨rfl,p2⟩ | ⟨hb,b,rfl,hrf⟩)⟩
  case inr =>
    have e4 := F1.out hb
    unfold refusal
    go_wp2
    exact ⟨rfl,K1.out.trans k2,Or.inr ⟨by rw [e4]; exact hb,b,rfl,by rw [e4]; exact hrf⟩⟩
  case inl =>
  have bx2 : w2.cell? ⟨w.heap.size,0,none⟩ = some (.pointer (some ⟨rb,0,none⟩)) := by
    rw [kept_cell k2 hw1 (by omega)]
    exact bx1
  have hw2 : w1.heap.size ≤ w2.heap.size := k2.size
  have P2 := hid p2
  have K2 := hid (K1.out.trans k2)
  have Z2 := hid (Z1.out.kept k2 hr1)
  clear p2 k2 bx1
  go_wp2_with fail
  refine (HE.out _ rb s H1 _ y s2 HY.out P2.out Z2.out hr1).mono ?_
  rintro e w3 ⟨k3,(⟨v2,H3,m2,rfl,p3,z3,e3,r3,d3⟩ | ⟨hb,b,rfl,hrf⟩)⟩
  case inr =>
    have e3 : needS T s2 kElse = s2 := need_bad hb
    have e4 := F2.out (by rw [e3]; exact hb)
    rw [e3] at e4
    unfold refusal
    go_wp2
    exact ⟨rfl,K2.out.trans k3,Or.inr ⟨by rw [e4]; exact hb,b,rfl,by rw [e4]; exact hrf⟩⟩
  case inl =>
  obtain ⟨t2,b2,ht2,rfl,hb2,hc2⟩ := r3.dat z3
  have bx3 : w3.cell? ⟨w.heap.size,0,none⟩ = some (.pointer (some ⟨rb,0,none⟩)) := by
    rw [kept_cell k3 (by omega) (by omega)]
    exact bx2
  have hw3 : w2.heap.size ≤ w3.heap.size := k3.size
  have hr3 : H3 rb = none := by rw [e3.2 rb (by omega)]; exact hr1
  have P3 := hid p3
  have K3 := hid (K2.out.trans k3)
  have Z3 := hid z3
  have E3 := hid (e3.from (n := w.heap.size) (by omega))
  have R3 := hid r3
  have D3 := hid d3
  clear p3 k3 z3 e3 r3 d3 hb2 hc2 bx2
  go_wp2_with fail
  refine (must_p exKw exKw_ok _ rb s T s2 kElse P3.out (Or.inl (by decide))).mono ?_
  rintro e w4 ⟨k4,(⟨rfl,p4⟩ | ⟨hb,b,rfl,hrf⟩)⟩
  case inr =>
    have e4 := F2.out hb
    unfold refusal
    go_wp2
    exact ⟨rfl,K3.out.trans k4,Or.inr ⟨by rw [e4]; exact hb,b,rfl,by rw [e4]; exact hrf⟩⟩
  case inl =>
  have bx4 : w4.cell? ⟨w.heap.size,0,none⟩ = some (.pointer (some ⟨rb,0,none⟩)) := by
    rw [kept_cell k4 (by omega) (by omega)]
    exact bx3
  have hw4 : w3.heap.size ≤ w4.heap.size := k4.size
  have P4 := hid p4
  have K4 := hid (K3.out.trans k4)
  have Z4 := hid (Z3.out.kept k4 hr3)
  clear p4 k4 bx3
  go_wp2_with fail
  refine (HE.out _ rb s H3 _ z s3 HW.out P4.out Z4.out hr3).mono ?_
  rintro e w5 ⟨k5,(⟨v3,H5,m3,rfl,p5,z5,e5,r5,d5⟩ | ⟨hb,b,rfl,hrf⟩)⟩
  case inr =>
    unfold refusal
    go_wp2
    exact ⟨rfl,K4.out.trans k5,Or.inr ⟨hb,b,rfl,hrf⟩⟩
  case inl =>
  obtain ⟨t3,b3,ht3,rfl,hb3,hc3⟩ := r5.dat z5
  have hw5 : w4.heap.size ≤ w5.heap.size := k5.size
  have hn1 := need_good P2.out.neg
  have hn2 := need_good P4.out.neg
  have hkk := p5.klt
  obtain ⟨M,hM⟩ : ∃ M,M = max m1 (max m2 m3) := ⟨_,rfl⟩
  have RA : Hid (PRep M H5 (.iface t1 (.pointer (some ⟨b1,0,none⟩))) x) := (PRep.ext e5 _ _ _ (PRep.ext E3.out _ _ _ R1.out)).le (by omega)
  have RB : Hid (PRep M H5 (.iface t2 (.pointer (some ⟨b2,0,none⟩))) y) := (PRep.ext e5 _ _ _ R3.out).le (by omega)
  have RC : Hid (PRep M H5 (.iface t3 (.pointer (some ⟨b3,0,none⟩))) z) := r5.le (by omega)
  have q1 : exDeep M x = exDeep m1 x := deep_le (PRep.shape _ _ _ R1.out) (by omega)
  have q2 : exDeep M y = exDeep m2 y := deep_le (PRep.shape _ _ _ R3.out) (by omega)
  have q3 : exDeep M z = exDeep m3 z := deep_le (PRep.shape _ _ _ r5) (by omega)
  have D5 := hid (show max (exDeep M x) (max (exDeep M y) (exDeep M z)) + 1 + st.k ≤ s3.k ∧ s3.k < T.length by
    have := D1.out
    have := D3.out
    have := deep_pos R1.out
    have := deep_pos R3.out
    have := deep_pos r5
    omega)
  have ZA := hid (z5.alloc (.cells #[(.iface t1 (.pointer (some ⟨b1,0,none⟩))),(.iface t2 (.pointer (some ⟨b2,0,none⟩))),(.iface t3 (.pointer (some ⟨b3,0,none⟩)))] 101))
  have P5 := hid p5
  have K5 := hid (K4.out.trans k5)
  have E5 := hid (((E1.out.trans E3.out (Nat.le_refl _)).trans (e5.from (n := w.heap.size) (by omega)) (Nat.le_refl _)))
  clear p5 k5 z5 e5 r5 d5 hb3 hc3 bx4 hM q1 q2 q3
  go_wp2_with fail
  refine (above_p _ (some ⟨w5.heap.size,0,none⟩) 3 [(.iface t1 (.pointer (some ⟨b1,0,none⟩))),(.iface t2 (.pointer (some ⟨b2,0,none⟩))),(.iface t3 (.pointer (some ⟨b3,0,none⟩)))] [exDeep M x,exDeep M y,exDeep M z] rfl (by simp) row3 (all3 (p := fun u d => DAt _ u d) (RA.out.dat ZA.out) (RB.out.dat ZA.out) (RC.out.dat ZA.out)) (by have := D5.out; simp [maxl]; omega)).mono ?_
  rintro e w6 ⟨rfl,g6⟩
  have G6 := hid g6
  clear g6
  go_wp2
  go_ret
  obtain ⟨H7,z7,x7,r7⟩ := node_rep (w := w6) (H := H5) (ZA.out.grown G6.out) ⟨kIf,[],[x,y,z],p⟩ [(.iface t1 (.pointer (some ⟨b1,0,none⟩))),(.iface t2 (.pointer (some ⟨b2,0,none⟩))),(.iface t3 (.pointer (some ⟨b3,0,none⟩)))] M (.cells #[.int .i64 ((exDeep (M + 1) ⟨kIf,[],[x,y,z],p⟩ : Nat) : Int),(.iface t1 (.pointer (some ⟨b1,0,none⟩))),(.iface t2 (.pointer (some ⟨b2,0,none⟩))),(.iface t3 (.pointer (some ⟨b3,0,none⟩)))] 183) rfl
    (kids3 (p := fun u q => PRep M H5 u q) RA.out RB.out RC.out)
    (fun H' _ h2 => Or.inr (Or.inr (Or.inr (Or.inl ⟨rfl,_,_,_,rfl,rfl,h2⟩))))
  have hw6 : w5.heap.size ≤ w6.heap.size := by have := G6.out.size; simp at this; omega
  refine ⟨((K5.out.alloc _).trans (Kept.of0 rb G6.out)).alloc _,Or.inl ⟨_,H7,M + 1,rfl,((P5.out.alloc _).grown G6.out).alloc _,z7,E5.out.trans x7 (by omega),r7,?_⟩⟩
  have hd : exDeep (M + 1) ⟨kIf,[],[x,y,z],p⟩ = max (exDeep M x) (max (exDeep M y) (exDeep M z)) + 1 := by simp [exDeep,maxl]
  have := D5.out
  omega
theorem two_c {w : World} {b : Nat} {p q : Value} {t : TypeId} (h : w.heap[b]? = some (.cells #[p,q] t (0,0))) : w.cell? ⟨b,0,none⟩ = some p ∧ w.cell? ⟨b,1,none⟩ = some q := by
  simp [World.cell?,h]
def BOut (w w' : World) (rb : Nat) (s : ByteArray) (T : List Tok) (H : Nat → Option Obj) (st st' : St) (e : Ending) (ex : Ex) : Prop :=
  Kept rb w w' ∧ ((∃ t b H' m,IsTy t ∧ e = .returned (.agg #[.string (B (tk T st.k).s),(.iface t (.pointer (some ⟨b,0,none⟩)))]) ∧ PSt exKw w' rb s T st' ∧ Fz H' w' ∧ Ext w.heap.size H H' ∧ PRep m H' (.iface t (.pointer (some ⟨b,0,none⟩))) ex ∧ exDeep m ex + st.k + 2 ≤ st'.k) ∨ (0 ≤ st'.bad ∧ Refused w' e st'.bad))
theorem Kept.setNew {rb : Nat} {w w' : World} (h : Kept rb w w') {b : Nat} (hb : w.heap.size ≤ b) (i : Nat) (v : Value) : Kept rb w (w'.setCell ⟨b,i,none⟩ v) :=
  ⟨h.os,h.tape,h.output,by have := h.size; simp [World.setCell] at this ⊢; omega,fun k hk hn => by rw [Below.heap_setCell _ _ _ _ (by show k ≠ b; omega)]; exact h.block k hk hn⟩
theorem PSt.set {kw : List (List UInt8)} {w : World} {rb : Nat} {s : ByteArray} {T : List Tok} {st : St} (h : PSt kw w rb s T st) {b : Nat} (hb : b ≠ rb) (i : Nat) (v : Value) : PSt kw (w.setCell ⟨b,i,none⟩ v) rb s T st := by
  obtain ⟨h1,⟨J,h2,h3⟩,h4⟩ := h
  exact ⟨h1,⟨J,h2,by unfold Rdr; rw [Below.heap_setCell _ _ _ _ (by show rb ≠ b; omega)]; exact h3⟩,h4⟩
theorem bind_p (T : List Tok) (n : Nat) (hE : EXPP T n) (w : World) (rb : Nat) (s : ByteArray) (H : Nat → Option Obj) (st : St) (y : Ex) (st4 : St)
    (hs : expS T n (needS T (needS T st kName) kEq) = some (y,st4)) (h : PSt exKw w rb s T st) (hz : Fz H w) (hr : H rb = none) :
    Calls Tryz.prog 144 #[rdV rb] w fun e w' => BOut w w' rb s T H st st4 e y := by
  have hlt := h.lt
  have hn1 : H (w.heap.size + 1) = none := hz.none (by omega)
  have HP := hid ((h.alloc (.cells #[.pointer (some ⟨rb,0,none⟩)] 153)).alloc (.cells #[.string (B []),.nilIface] 187))
  have HZ := hid ((hz.alloc (.cells #[.pointer (some ⟨rb,0,none⟩)] 153)).alloc (.cells #[.string (B []),.nilIface] 187))
  have HE := hid hE
  have HS := hid hs
  have K0 := hid (((Kept.refl rb w).alloc (.cells #[.pointer (some ⟨rb,0,none⟩)] 153)).alloc (.cells #[.string (B []),.nilIface] 187))
  clear h hz hE hs
  unfold rdV
  go_enter Tryz.func144,Tryz.ntmps144
  go_wp2_with fail
  refine (name_p _ rb s T st HP.out).mono ?_
  rintro e w1 ⟨k1,(⟨rfl,p1⟩ | ⟨hb,b,rfl,hrf⟩)⟩
  case inr =>
    have e3 : needS T (needS T st kName) kEq = needS T st kName := need_bad hb
    have e4 := exp_bad_st (by rw [e3]; exact hb) HS.out
    rw [e3] at e4
    unfold refusal
    go_wp2
    exact ⟨rfl,K0.out.trans k1,Or.inr ⟨by rw [e4]; exact hb,b,rfl,by rw [e4]; exact hrf⟩⟩
  case inl =>
  have bx1 : w1.cell? ⟨w.heap.size,0,none⟩ = some (.pointer (some ⟨rb,0,none⟩)) := by
    rw [kept_cell k1 (by simp; omega) (by omega)]
    exact cell_past (by simp [go_sem]) _
  have rc1 : w1.heap[w.heap.size + 1]? = some (.cells #[.string (B []),.nilIface] 187 (0,0)) := by
    rw [k1.block _ (by simp) (by simp; omega)]
    exact heap_alloc_at _ _ _ (by simp)
  have hw1 : w.heap.size + 1 < w1.heap.size := lt_of_block rc1
  have P1 := hid p1
  have K1 := hid (K0.out.trans k1)
  have Z1 := hid (HZ.out.kept k1 hr)
  clear p1 k1
  go_wp2_with fail
  refine (must_p exKw exKw_ok _ rb s T (needS T st kName) kEq P1.out (Or.inr (by decide))).mono ?_
  rintro e w2 ⟨k2,(⟨rfl,p2⟩ | ⟨hb,b,rfl,hrf⟩)⟩
  case inr =>
    have e4 := exp_bad_st hb HS.out
    unfold refusal
    go_wp2
    exact ⟨rfl,K1.out.trans k2,Or.inr ⟨by rw [e4]; exact hb,b,rfl,by rw [e4]; exact hrf⟩⟩
  case inl =>
  have bx2 : w2.cell? ⟨w.heap.size,0,none⟩ = some (.pointer (some ⟨rb,0,none⟩)) := by
    rw [kept_cell k2 (by omega) (by omega)]
    exact bx1
  have rc2 : w2.heap[w.heap.size + 1]? = some (.cells #[.string (B []),.nilIface] 187 (0,0)) := by
    rw [k2.block _ (by omega) (by simp; omega)]
    exact rc1
  have hw2 : w1.heap.size ≤ w2.heap.size := k2.size
  have P2 := hid p2
  have K2 := hid (K1.out.trans k2)
  have Z2 := hid (Z1.out.kept k2 hr)
  clear p2 k2 bx1 rc1
  go_wp2_with fail
  refine (HE.out _ rb s H _ y st4 HS.out P2.out Z2.out hr).mono ?_
  rintro e w3 ⟨k3,(⟨v1,H3,m,rfl,p3,z3,e3,r3,d3⟩ | ⟨hb,b,rfl,hrf⟩)⟩
  case inr =>
    unfold refusal
    go_wp2
    exact ⟨rfl,K2.out.trans k3,Or.inr ⟨hb,b,rfl,hrf⟩⟩
  case inl =>
  obtain ⟨t1,b1,ht1,rfl,hb1,hc1⟩ := r3.dat z3
  have rc3 : w3.heap[w.heap.size + 1]? = some (.cells #[.string (B []),.nilIface] 187 (0,0)) := by
    rw [k3.block _ (by omega) (by simp; omega)]
    exact rc2
  have c0 : w3.cell? ⟨w.heap.size + 1,0,none⟩ = some (.string (B [])) := by simp [World.cell?,rc3]
  have c1 : w3.cell? ⟨w.heap.size + 1,1,none⟩ = some .nilIface := by simp [World.cell?,rc3]
  have f0 : w3.frozen? ⟨w.heap.size + 1,0,none⟩ = false := by simp [World.frozen?,rc3]
  have f1 : w3.frozen? ⟨w.heap.size + 1,1,none⟩ = false := by simp [World.frozen?,rc3]
  have hH : H3 (w.heap.size + 1) = none := by rw [e3.2 _ (by omega)]; exact hn1
  have hq1 := need_good P1.out.neg
  have hq2 := need_good P2.out.neg
  have Q := hid (And.intro p3 (And.intro (K2.out.trans k3) (And.intro z3 (And.intro (e3.from (n := w.heap.size) (by omega)) (And.intro r3 d3)))))
  clear p3 k3 z3 e3 r3 d3 bx2 rc2 rc3 hb1 hc1
  go_wp2
  refine bodyPost_ret (v := .agg #[.string (B (tk T st.k).s),(.iface t1 (.pointer (some ⟨b1,0,none⟩)))]) (by simp [results,Tryz.results144,go_sem,c0,c1]) rfl ?_
  obtain ⟨p3,k3,z3,e3,r3,d3⟩ := Q.out
  refine ⟨(k3.setNew (by omega) _ _).setNew (by omega) _ _,Or.inl ⟨t1,b1,H3,m,ht1,rfl,(p3.set (by omega) _ _).set (by omega) _ _,(z3.set hH _ _).set hH _ _,e3,r3,by omega⟩⟩
theorem let_p (T : List Tok) (n : Nat) (hl : T.length ≤ 400) (hE : EXPP T n) (w : World) (rb : Nat) (s : ByteArray) (H : Nat → Option Obj) (st : St) (x y : Ex) (s1 s3 : St) (p : Nat)
    (hx : expS T n (needS T (needS T st kName) kEq) = some (x,s1)) (hw : expS T n (needS T s1 kIn) = some (y,s3)) (h : PSt exKw w rb s T st) (hz : Fz H w) (hr : H rb = none) :
    Calls Tryz.prog 113 #[rdV rb] w fun e w' => EOut w w' rb s T H st.k s3 e ⟨kLet,[(tk T st.k).s],[x,y],p⟩ := by
  have hlt := h.lt
  have HP := hid (h.alloc (.cells #[.pointer (some ⟨rb,0,none⟩)] 153))
  have HZ := hid (hz.alloc (.cells #[.pointer (some ⟨rb,0,none⟩)] 153))
  have HE := hid hE
  have HX := hid hx
  have HW := hid hw
  have K0 := hid ((Kept.refl rb w).alloc (.cells #[.pointer (some ⟨rb,0,none⟩)] 153))
  have F2 := hid (show 0 ≤ (needS T s1 kIn).bad → s3 = needS T s1 kIn from fun hb => exp_bad_st hb hw)
  clear h hz hE hx hw
  unfold rdV
  go_enter Tryz.func113,Tryz.ntmps113
  go_wp2_with fail
  refine (bind_p T n HE.out _ rb s H st x s1 HX.out HP.out HZ.out hr).mono ?_
  rintro e w1 ⟨k1,(⟨t1,b1,H1,m1,ht1,rfl,p1,z1,e1,r1,d1⟩ | ⟨hb,b,rfl,hrf⟩)⟩
  case inr =>
    have e3 : needS T s1 kIn = s1 := need_bad hb
    have e4 := F2.out (by rw [e3]; exact hb)
    rw [e3] at e4
    unfold refusal
    go_wp2
    exact ⟨rfl,K0.out.trans k1,Or.inr ⟨by rw [e4]; exact hb,b,rfl,by rw [e4]; exact hrf⟩⟩
  case inl =>
  have bx1 : (w1.alloc (.cells #[.string (B (tk T st.k).s),(.iface t1 (.pointer (some ⟨b1,0,none⟩)))] 187)).cell? ⟨w.heap.size,0,none⟩ = some (.pointer (some ⟨rb,0,none⟩)) := by
    refine cell_past ?_ _
    rw [kept_cell k1 (by simp) (by omega)]
    simp [go_sem]
  have hw1 : w.heap.size < w1.heap.size := by have := k1.size; simp at this; omega
  have hr1 : H1 rb = none := by rw [e1.2 rb (by simp; omega)]; exact hr
  have P1 := hid (p1.alloc (.cells #[.string (B (tk T st.k).s),(.iface t1 (.pointer (some ⟨b1,0,none⟩)))] 187))
  have K1 := hid ((K0.out.trans k1).alloc (.cells #[.string (B (tk T st.k).s),(.iface t1 (.pointer (some ⟨b1,0,none⟩)))] 187))
  have Z1 := hid (z1.alloc (.cells #[.string (B (tk T st.k).s),(.iface t1 (.pointer (some ⟨b1,0,none⟩)))] 187))
  have E1 := hid (e1.from (n := w.heap.size) (by simp))
  have R1 := hid r1
  have D1 := hid d1
  clear p1 k1 z1 e1 r1 d1
  go_wp2_with fail
  refine (must_p exKw exKw_ok _ rb s T s1 kIn P1.out (Or.inl (by decide))).mono ?_
  rintro e w2 ⟨k2,(⟨rfl,p2⟩ | ⟨hb,b,rfl,hrf⟩)⟩
  case inr =>
    have e4 := F2.out hb
    unfold refusal
    go_wp2
    exact ⟨rfl,K1.out.trans k2,Or.inr ⟨by rw [e4]; exact hb,b,rfl,by rw [e4]; exact hrf⟩⟩
  case inl =>
  have bx2 : w2.cell? ⟨w.heap.size,0,none⟩ = some (.pointer (some ⟨rb,0,none⟩)) := by
    rw [kept_cell k2 (by simp; omega) (by omega)]
    exact bx1
  have rc2 : w2.heap[w1.heap.size]? = some (.cells #[.string (B (tk T st.k).s),(.iface t1 (.pointer (some ⟨b1,0,none⟩)))] 187 (0,0)) := by
    rw [k2.block _ (by simp) (by simp; omega)]
    exact heap_alloc_new _ _
  have hw2 : w1.heap.size < w2.heap.size := lt_of_block rc2
  have P2 := hid p2
  have K2 := hid (K1.out.trans k2)
  have Z2 := hid (Z1.out.kept k2 hr1)
  clear p2 k2 bx1
  go_wp2_with fail
  refine (HE.out _ rb s H1 _ y s3 HW.out P2.out Z2.out hr1).mono ?_
  rintro e w3 ⟨k3,(⟨v2,H3,m2,rfl,p3,z3,e3,r3,d3⟩ | ⟨hb,b,rfl,hrf⟩)⟩
  case inr =>
    unfold refusal
    go_wp2
    exact ⟨rfl,K2.out.trans k3,Or.inr ⟨hb,b,rfl,hrf⟩⟩
  case inl =>
  obtain ⟨t2,b2,ht2,rfl,hb2,hc2⟩ := r3.dat z3
  have rc3 : w3.heap[w1.heap.size]? = some (.cells #[.string (B (tk T st.k).s),(.iface t1 (.pointer (some ⟨b1,0,none⟩)))] 187 (0,0)) := by
    rw [k3.block _ (by omega) (by simp; omega)]
    exact rc2
  have hw3 : w2.heap.size ≤ w3.heap.size := k3.size
  have hq1 := need_good P2.out.neg
  have hkk := p3.klt
  obtain ⟨M,hM⟩ : ∃ M,M = max m1 m2 := ⟨_,rfl⟩
  have RA : Hid (PRep M H3 (.iface t1 (.pointer (some ⟨b1,0,none⟩))) x) := (PRep.ext e3 _ _ _ R1.out).le (by omega)
  have RB : Hid (PRep M H3 (.iface t2 (.pointer (some ⟨b2,0,none⟩))) y) := r3.le (by omega)
  have q1 : exDeep M x = exDeep m1 x := deep_le (PRep.shape _ _ _ R1.out) (by omega)
  have q2 : exDeep M y = exDeep m2 y := deep_le (PRep.shape _ _ _ r3) (by omega)
  have D5 := hid (show max (exDeep M x) (exDeep M y) + 1 + st.k ≤ s3.k ∧ s3.k < T.length by
    have := D1.out
    have := deep_pos R1.out
    have := deep_pos r3
    omega)
  have ZA := hid (z3.alloc (.cells #[(.iface t1 (.pointer (some ⟨b1,0,none⟩))),(.iface t2 (.pointer (some ⟨b2,0,none⟩)))] 101))
  have Z3 := hid z3
  have P5 := hid p3
  have K5 := hid (K2.out.trans k3)
  have E5 := hid ((E1.out.trans (e3.from (n := w.heap.size) (by omega)) (Nat.le_refl _)))
  have c0 : w3.cell? ⟨w1.heap.size,0,none⟩ = some (.string (B (tk T st.k).s)) := by simp [World.cell?,rc3]
  have c1 : w3.cell? ⟨w1.heap.size,1,none⟩ = some (.iface t1 (.pointer (some ⟨b1,0,none⟩))) := by simp [World.cell?,rc3]
  have hl1 := lt_of_block rc3
  have a0 := fun x => cell_past c0 x
  have a1 := fun x => cell_past c1 x
  have RC3 := hid rc3
  have AB : Hid (Calls Tryz.prog 143 #[.slice (some ⟨w3.heap.size,0,none⟩) 2 2] (w3.alloc (.cells #[(.iface t1 (.pointer (some ⟨b1,0,none⟩))),(.iface t2 (.pointer (some ⟨b2,0,none⟩)))] 101)).drew fun e w' => e = .returned (.agg #[.int .i64 ((maxl [exDeep M x,exDeep M y] + 1 : Nat) : Int)]) ∧ (w3.alloc (.cells #[(.iface t1 (.pointer (some ⟨b1,0,none⟩))),(.iface t2 (.pointer (some ⟨b2,0,none⟩)))] 101)).drew.grownBy w' none) :=
    above_p _ (some ⟨w3.heap.size,0,none⟩) 2 [(.iface t1 (.pointer (some ⟨b1,0,none⟩))),(.iface t2 (.pointer (some ⟨b2,0,none⟩)))] [exDeep M x,exDeep M y] rfl (by simp) (row2 (w := w3) (t := 101)) (all2 (p := fun u d => DAt _ u d) (RA.out.dat ZA.out.drew) (RB.out.dat ZA.out.drew)) (by have := D5.out; simp [maxl]; omega)
  clear p3 k3 z3 e3 r3 d3 hb2 hc2 bx2 rc2 hM q1 q2 rc3
  go_wp2_with fail
  go_region_with (go_at_call 143; refine AB.out.mono ?_; rintro e w6 ⟨rfl,g6⟩; have cc := two_c ((g6.block w1.heap.size (by simp; omega) (by simp)).trans ((Below.heap_alloc _ _ _ hl1).trans RC3.out)); have G6 := hid g6; clear g6; obtain ⟨cc0,cc1⟩ := cc)
  all_goals
    go_wp2
    go_ret
    obtain ⟨H7,z7,x7,r7⟩ := node_rep (w := w6) (H := H3) (ZA.out.drew.grown G6.out) ⟨kLet,[(tk T st.k).s],[x,y],p⟩ [(.iface t1 (.pointer (some ⟨b1,0,none⟩))),(.iface t2 (.pointer (some ⟨b2,0,none⟩)))] M (.cells #[.int .i64 ((exDeep (M + 1) ⟨kLet,[(tk T st.k).s],[x,y],p⟩ : Nat) : Int),.string (B (tk T st.k).s),(.iface t1 (.pointer (some ⟨b1,0,none⟩))),(.iface t2 (.pointer (some ⟨b2,0,none⟩)))] 189) rfl
      (kids2 (p := fun u q => PRep M H3 u q) RA.out RB.out)
      (fun H' _ h2 => Or.inr (Or.inr (Or.inr (Or.inr (Or.inl ⟨rfl,_,_,_,rfl,rfl,rfl,h2⟩)))))
    have hw6 : w3.heap.size ≤ w6.heap.size := by have := G6.out.size; simp at this; omega
    refine ⟨((K5.out.alloc _).drew.trans (Kept.of0 rb G6.out)).alloc _,Or.inl ⟨_,H7,M + 1,rfl,((P5.out.alloc _).drew.grown G6.out).alloc _,z7,E5.out.trans x7 (by omega),r7,?_⟩⟩
    have hd : exDeep (M + 1) ⟨kLet,[(tk T st.k).s],[x,y],p⟩ = max (exDeep M x) (exDeep M y) + 1 := by simp [exDeep,maxl]
    have := D5.out
    omega
end Go.Proofs.YtcdijppegfcoaabGreatDoor
