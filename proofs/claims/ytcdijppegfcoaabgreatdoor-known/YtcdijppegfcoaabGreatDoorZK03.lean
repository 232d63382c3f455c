import Derived.Test.YtcdijppegfcoaabGreatDoorZK02
import Derived.Deep.RegionWith
set_option maxRecDepth 100000
set_option maxHeartbeats 8000000
namespace Go.Proofs.YtcdijppegfcoaabGreatDoor
open Go.RowKit
def zipO (O : List Nat) : List (Nat × Nat) := O.zip (List.range O.length)
theorem zipO_snoc (O : List Nat) (c : Nat) : zipO (O ++ [c]) = zipO O ++ [(c,O.length)] := by
  unfold zipO
  rw [List.length_append]
  show (O ++ [c]).zip (List.range (O.length + 1)) = _
  rw [List.range_succ,List.zip_append (by simp)]
  rfl
theorem zipO_keys (O : List Nat) : (zipO O).map (·.1) = O := by
  unfold zipO
  rw [List.map_fst_zip]
  simp
theorem getL_zipO {c : Nat} : ∀ (O : List Nat) (n : Nat),c ∈ O → getL (O.zip (List.range' n O.length)) c = some (n + O.idxOf c)
  | [],_,h => by cases h
  | a :: O,n,h => by
    rw [List.length_cons,List.range'_succ,List.zip_cons_cons,getL,List.idxOf_cons]
    by_cases e : a = c
    · simp [e]
    · rw [if_neg e,getL_zipO O (n + 1) (by rcases List.mem_cons.1 h with h | h; exact absurd h.symm e; exact h)]
      rw [beq_false_of_ne e]
      show some (n + 1 + O.idxOf c) = some (n + (O.idxOf c + 1))
      congr 1
      omega
theorem getL_in {O : List Nat} {c : Nat} (h : c ∈ O) : getL (zipO O) c = some (O.idxOf c) := by
  have := getL_zipO O 0 h
  rw [← List.range_eq_range'] at this
  simpa [zipO] using this
theorem getL_out {O : List Nat} {c : Nat} (h : c ∉ O) : getL (zipO O) c = none := getL_none.2 (by rw [zipO_keys]; exact h)
theorem zero_int (w : World) : (zeroValue 3).run Tryz.prog w = .ok (.int .i64 0) w := by kernel_rfl
theorem IOI.ne {w : World} {a : AB} {O : List Nat} (h : IOI w a O) : a.cb ≠ a.mb ∧ a.kb ≠ a.mb ∧ a.nb ≠ a.mb := ⟨h.mp.apart h.blk,h.mp.apart h.mrk,h.mp.apart h.nf⟩
theorem IOI.over {w w' : World} {a : AB} {O O' : List Nat} (h : IOI w a O) (hg : w.grownBy w' (some a.mb)) (hm : GM kI natV 3 w' a.mb (zipO O')) (hf : ∀ c,c ∈ O' → c ≤ 1099511627776) : IOI w' a O' :=
  ⟨by rw [hg.block _ (lt_of_block h.mrk) (by simp; exact h.ne.2.1)]; exact h.mrk,by rw [hg.block _ (lt_of_block h.nf) (by simp; exact h.ne.2.2)]; exact h.nf,by rw [hg.block _ (lt_of_block h.blk) (by simp; exact h.ne.1)]; exact h.blk,hm,hf⟩
theorem num_i (w : World) (a : AB) (c : Nat) (O : List Nat) (hc : c ≤ 1099511627776) (h : IOI w a O) (hL : O.length ≤ 200) :
    Calls Tryz.prog 216 #[.int .i64 ((c : Int) + 1),.pointer (some ⟨a.cb,0,none⟩)] w fun e w' => e = .returned (.int .i64 ((ordS O c).idxOf c : Nat)) ∧ IOI w' a (ordS O c) ∧ w.grownBy w' (some a.mb) := by
  have c0 : w.cell? ⟨a.cb,0,none⟩ = some (.map (some a.mb)) := by simp [World.cell?,h.blk]
  have H := hid h
  have hlk := h.mp.look intLaw Tryz.underlying359 (zero_int w) (kI_key hc)
  by_cases hm : c ∈ O
  · have e : ordS O c = O := by unfold ordS; rw [if_pos hm]
    rw [e]
    have e2 := getL_in hm
    unfold zipO at e2
    rw [e2] at hlk
    obtain ⟨ix,hixe⟩ : ∃ ix,ix = O.idxOf c := ⟨_,rfl⟩
    rw [← hixe] at hlk ⊢
    simp only [Option.map_some,Option.getD_some,natV,Option.isSome_some] at hlk
    clear h hm e hixe e2
    go_enter Tryz.func216,Tryz.ntmps216
    go_wp2
    go_ret
    exact ⟨rfl,H.out,World.grownBy.refl _ _⟩
  · have e : ordS O c = O ++ [c] := by unfold ordS; rw [if_neg hm]
    rw [e]
    have e2 := getL_out hm
    have e2' := e2
    unfold zipO at e2
    rw [e2] at hlk
    have hln := fun ty => GM.len h.mp Tryz.underlying359 ty
    obtain ⟨w5,hst,hmp,hg5⟩ := GM.store h.mp intLaw Tryz.underlying359 kI_inj kI_lit (by simp; omega) O.length (kI_key hc)
    have hix : (O ++ [c]).idxOf c = O.length := by rw [List.idxOf_append,if_neg hm]; simp
    rw [hix]
    have hmp2 : GM kI natV 3 w5 a.mb (zipO (O ++ [c])) := by
      rw [zipO_snoc,← putL_new _ e2']
      exact hmp
    have Q := hid (And.intro hmp2 (And.intro hg5 (show ∀ x,x ∈ O ++ [c] → x ≤ 1099511627776 from fun x hx => by
      rcases List.mem_append.1 hx with hx | hx
      · exact h.few x hx
      · rw [List.mem_singleton.1 hx]; exact hc)))
    simp only [Option.map_none,Option.getD_none,Option.isSome_none] at hlk
    have hlen : (O.zip (List.range O.length)).length = O.length := by simp
    rw [hlen] at hln
    unfold natV at hst
    clear h hm e hix hmp hg5 e2 e2' hmp2 hlen
    go_enter Tryz.func216,Tryz.ntmps216
    go_wp2
    go_ret
    exact ⟨rfl,H.out.over Q.out.2.1 Q.out.1 Q.out.2.2,Q.out.2.1⟩
theorem ord_le {α : Type} [DecidableEq α] {L : List α} {x : α} (hL : L.length ≤ 200) : (ordS L x).idxOf x ≤ 200 := by
  unfold ordS
  split
  · rename_i hm
    have := List.idxOf_lt_length_of_mem hm
    omega
  · rename_i hm
    rw [List.idxOf_append,if_neg hm]
    simp; omega
theorem ask_i (w : World) (a : AB) (c : Nat) (O : List Nat) (hc : c ≤ 1099511627776) (h : IOI w a O) (hL : O.length ≤ 200) :
    Calls Tryz.prog 213 #[.int .i64 ((c : Int) + 1),.pointer (some ⟨a.kb,0,none⟩),.pointer (some ⟨a.nb,0,none⟩)] w fun e w' => e = .returned (.string (B ([95] ++ letterS ((ordS O c).idxOf c)))) ∧ IOI w' a (ordS O c) ∧ w.grownBy w' (some a.mb) := by
  have c0 : w.cell? ⟨a.kb,0,none⟩ = some (.string (B [95])) := by simp [World.cell?,h.mrk]
  have c1 : w.cell? ⟨a.nb,0,none⟩ = some (.func (.func 216) #[] #[.pointer (some ⟨a.cb,0,none⟩)]) := by simp [World.cell?,h.nf,numI]
  have hix : (ordS O c).idxOf c ≤ 200 := ord_le hL
  have CN := hid (num_i w.drew a c O hc ⟨h.mrk,h.nf,h.blk,h.mp,h.few⟩ hL)
  obtain ⟨O',hO'⟩ : ∃ O',O' = ordS O c := ⟨_,rfl⟩
  rw [← hO'] at CN hix ⊢
  obtain ⟨ix,hixe⟩ : ∃ ix,ix = O'.idxOf c := ⟨_,rfl⟩
  rw [← hixe] at CN hix ⊢
  have CM := hid (fun w => nth_q w ix (by omega))
  have hsz : (B (letterS ix)).size ≤ 1000 := by
    rw [size_B]
    unfold letterS
    split <;> simp
  have sz0 : (B ([95] : List UInt8)).size = 1 := rfl
  have W := hid (show ∀ w1,IOI w1 a O' → w1.cell? ⟨a.kb,0,none⟩ = some (.string (B [95])) from fun w1 i1 => by simp [World.cell?,i1.mrk])
  clear h hL hO' hixe hix hc
  go_enter Tryz.func213,Tryz.ntmps213
  go_wp2_with fail
  go_region_with (first
    | (go_at_call 216; refine CN.out.mono ?_; rintro e w1 ⟨rfl,i1,g1⟩; have c5 := W.out w1 i1; have I1 := hid i1; have G1 := hid g1; clear i1 g1)
    | (go_at_call 90; refine (CM.out _).mono ?_; rintro e w2 ⟨rfl,rfl⟩))
  all_goals
    go_wp2
    go_ret
    refine ⟨?_,I1.out,⟨G1.out.os,G1.out.tape,G1.out.output,G1.out.size,G1.out.block⟩⟩
    show Ending.returned (.string (B [95] ++ B (letterS ix))) = _
    rw [append_B]
    rfl
def NoCell (o : Obj) : Prop := ∀ cs fz,o ≠ .cells cs 284 fz
theorem noCell_map (es : Array MapEntry) (cl : Nat) : NoCell (.map es cl) := fun cs fz e => by cases e
theorem noCell_cells {cs : Array Value} {t : TypeId} {fz : Nat × Nat} (h : t ≠ 284) : NoCell (.cells cs t fz) := fun cs' fz' e => by injection e; exact h (by assumption)
theorem DR.same {c : Dc} {bs : Nat} {s : Ds} {w w' : World} (h : DR c bs s w) (hh : ∀ (k : Nat) (o : Obj),w.heap[k]? = some o → NoCell o → w'.heap[k]? = some o) : DR c bs s w' := by
  obtain ⟨sv,hb,ho⟩ := h.blk
  have hm : ∀ (k : Nat),(∃ es cl,w.heap[k]? = some (Obj.map es cl)) → w'.heap[k]? = w.heap[k]? := fun k ⟨es,cl,e⟩ => (hh k _ e (noCell_map es cl)).trans e.symm
  have hc : ∀ (k : Nat) (cs : Array Value) (t : TypeId) (fz : Nat × Nat),w.heap[k]? = some (Obj.cells cs t fz) → t ≠ 284 → w'.heap[k]? = w.heap[k]? := fun k cs t fz e ht => (hh k _ e (noCell_cells ht)).trans e.symm
  refine ⟨⟨sv,hh _ _ hb (noCell_cells (by decide)),ho.1,?_⟩,h.run,h.ok,h.short,h.st.same (hm _ h.st.isMap),fun a ha => ?_,fun a ha => ?_,h.ap,h.lo⟩
  · rcases ho.2 with q | ⟨gb,cap,cur,q1,q2,q3,q4⟩
    · exact Or.inl q
    · exact Or.inr ⟨gb,cap,cur,q1,q2,hh _ _ q3 (noCell_cells (by decide)),q4⟩
  · obtain ⟨i,l1,l2⟩ := h.an a ha
    obtain ⟨D,⟨es,clock,q1,q2⟩,q3⟩ := i.mp
    exact ⟨i.same (hc _ _ _ _ i.mrk (by decide)) (hc _ _ _ _ i.nf (by decide)) (hc _ _ _ _ i.blk (by decide)) (hm _ ⟨_,_,q1⟩),l1,l2⟩
  · obtain ⟨i,l1⟩ := h.ow a ha
    exact ⟨i.same (hc _ _ _ _ i.mrk (by decide)) (hc _ _ _ _ i.nf (by decide)) (hc _ _ _ _ i.blk (by decide)) (hm _ i.mp.isMap),l1⟩
structure DW (H : Nat → Option Obj) (ca : List Nat) (σ : Sto) (d : Nat → Nat) (c : Dc) (bs : Nat) (s : Ds) (w : World) : Prop where
  cs : CSd H ca σ d w
  dr : DR c bs s w
  lowa : ∀ a,a ∈ ca → a < bs
  lowH : ∀ k o,H k = some o → k < bs
  off : ∀ a,c.own = some a → H a.mb = none ∧ a.mb ∉ ca
  big : bs ≤ w.heap.size
def DG (ca : List Nat) (c : Dc) (bs : Nat) (k : Nat) : Prop := k ∈ ca ∨ DCh c bs k
section
variable {H : Nat → Option Obj} {ca : List Nat} {σ : Sto} {d : Nat → Nat} {c : Dc} {bs : Nat} {s s' : Ds} {w w' : World}
theorem DW.put (h : DW H ca σ d c bs s w) (hr : DR c bs s' w') (g : Gb (fun k => bs ≤ k) w w') : DW H ca σ d c bs s' w' :=
  ⟨h.cs.gb g (fun a ha => by have := h.lowa a ha; omega) (fun k o e => by have := h.lowH k o e; omega),hr,h.lowa,h.lowH,h.off,Nat.le_trans h.big g.size⟩
theorem DW.cells (h : DW H ca σ d c bs s w) (hc : CSd H ca σ d w') (g : Gb (InAs ca) w w') : DW H ca σ d c bs s w' := by
  refine ⟨hc,h.dr.same fun k o e hn => ?_,h.lowa,h.lowH,h.off,Nat.le_trans h.big g.size⟩
  refine g.at e (fun hk => ?_)
  obtain ⟨i,hi⟩ := List.getElem?_of_mem hk
  obtain ⟨v,hv,_⟩ := h.cs.blk i k hi
  rw [e] at hv
  exact hn _ _ (Option.some.inj hv)
theorem DG.put (g : Gb (fun k => bs ≤ k) w w') : Gb (DG ca c bs) w w' := g.mono fun _ e => Or.inr (Or.inl e)
theorem DG.cells (g : Gb (InAs ca) w w') : Gb (DG ca c bs) w w' := g.mono fun _ e => Or.inl e
end
def ADP (H : Nat → Option Obj) (ca : List Nat) (σ : Sto) (d : Nat → Nat) (c : Dc) (bs : Nat) (s' : Ds) (w : World) (e : Ending) (w' : World) : Prop :=
  e = .returned (.tuple #[]) ∧ DW H ca σ d c bs s' w' ∧ Gb (DG ca c bs) w w'
theorem word_any {H : Nat → Option Obj} {ca : List Nat} {σ : Sto} {d : Nat → Nat} {c : Dc} {bs : Nat} {s s' : Ds} {w : World} {x : List UInt8} (h : DW H ca σ d c bs s w) (hp : putS x 0 0 s = some s') :
    Calls Tryz.prog 169 #[CP c.db,.string (B x)] w (ADP H ca σ d c bs s' w) := by
  have HP := hid (put_any h.dr hp h.big)
  have HD := hid h
  clear h hp
  unfold CP at HP ⊢
  go_enter Tryz.func169,Tryz.ntmps169
  go_wp2_with (go_at_call 130; refine HP.out.mono ?_; rintro e w1 ⟨rfl,r1,g1⟩; have R1 := hid (And.intro r1 g1); clear r1 g1)
  first | go_end0 | skip
  exact ⟨rfl,HD.out.put R1.out.1 R1.out.2,DG.put R1.out.2⟩
def ER (H : Nat → Option Obj) (ca : List Nat) (v : Value) (t : Et) : Prop := ∃ m,ERep 0 H ca m v t
theorem now_q {H : Nat → Option Obj} {ca : List Nat} {σ : Sto} {d : Nat → Nat} {v : Value} {t : Et} {w : World} (h : ER H ca v t) (hc : CSd H ca σ d w) : ∃ v1 m,ERep 0 H ca (m + 2) v1 (nowS σ t) ∧ (t.kind ≠ oCell → v1 = v) ∧ Calls Tryz.prog 168 #[v] w (NOW H ca σ d v1 w) := by
  obtain ⟨m,h⟩ := h
  obtain ⟨v1,q1,q2,q3⟩ := now_any (m := m) (h.le (by omega)) hc
  exact ⟨v1,m,q1.ext (by split <;> omega) (fun _ _ e => e) (List.prefix_refl _) _ _ _,q2,q3⟩
theorem wordS_some {x : List UInt8} {o : Option Ds} {s' : Ds} (h : wordS x o = some s') : ∃ s0,o = some s0 ∧ putS x 0 0 s0 = some s' := by
  cases o with
  | none => cases h
  | some s0 => exact ⟨s0,rfl,h⟩
theorem goOn_some {A : Et → Ds → Option Ds} {t : Et} {o : Option Ds} {s' : Ds} (h : goOn A t o = some s') : ∃ s0,o = some s0 ∧ A t s0 = some s' := by
  cases o with
  | none => cases h
  | some s0 => exact ⟨s0,rfl,h⟩
def Md (md : Nat) (c : Dc) : Prop := (md = 0 ↔ c.any = none) ∧ (md = 2 → c.own.isSome = true)
section
variable (H : Nat → Option Obj) (ca : List Nat) (σ : Sto) (d : Nat → Nat) (c : Dc) (bs : Nat) (md : Nat)
def ADDC (f : Nat) : Prop := ∀ v t s s' w,ER H ca v t → draftS σ md f t s = some s' → DW H ca σ d c bs s w → Calls Tryz.prog 87 #[CP c.db,v] w (ADP H ca σ d c bs s' w)
def FSTC (f : Nat) : Prop := ∀ v t s s' w,ER H ca v t → firstS (draftS σ md f) σ md t s = some s' → DW H ca σ d c bs s w → Calls Tryz.prog 128 #[CP c.db,v] w (ADP H ca σ d c bs s' w)
def FRMC (f : Nat) : Prop := ∀ v t s s' w,ER H ca v t → fromS (draftS σ md f) σ t (some s) = some s' → DW H ca σ d c bs s w → Calls Tryz.prog 170 #[CP c.db,v] w (ADP H ca σ d c bs s' w)
end
theorem DR.anyL {c : Dc} {bs : Nat} {s : Ds} {w w' : World} {a : AB} {L : List (List UInt8)} (h : DR c bs s w) (ha : c.any = some a) (i : IO1 w' a L) (g : w.grownBy w' (some a.mb)) : DR c bs ⟨s.steps,s.out,s.stands,L,s.O⟩ w' := by
  obtain ⟨sv,hb,ho⟩ := h.blk
  obtain ⟨i0,l1,l2⟩ := h.an a ha
  have hk : ∀ (k : Nat) (o : Obj),w.heap[k]? = some o → k ≠ a.mb → w'.heap[k]? = some o := fun k o e hn => (g.block k (lt_of_block e) (by simpa using hn)).trans e
  have hc : ∀ (k : Nat) (cs : Array Value) (t : TypeId) (fz : Nat × Nat),w.heap[k]? = some (Obj.cells cs t fz) → k ≠ a.mb := fun k cs t fz e e2 => by
    obtain ⟨D,⟨es,clock,q1,q2⟩,q3⟩ := i0.mp
    rw [e2,q1] at e
    cases e
  refine ⟨⟨sv,hk _ _ hb (hc _ _ _ _ hb),ho.1,?_⟩,h.run,h.ok,h.short,?_,fun b hb2 => ?_,fun b hb2 => ?_,h.ap,h.lo⟩
  · rcases ho.2 with q | ⟨gb,cap,cur,q1,q2,q3,q4⟩
    · exact Or.inl q
    · exact Or.inr ⟨gb,cap,cur,q1,q2,hk _ _ q3 (hc _ _ _ _ q3),q4⟩
  · obtain ⟨es,cl,e⟩ := h.st.isMap
    exact h.st.same ((hk _ _ e (Ne.symm l2)).trans e.symm)
  · rw [ha] at hb2
    cases hb2
    exact ⟨i,l1,l2⟩
  · obtain ⟨j,l3⟩ := h.ow b hb2
    obtain ⟨es,cl,e⟩ := j.mp.isMap
    have s1 : ∀ (k : Nat) (o : Obj),w.heap[k]? = some o → k ≠ a.mb → w'.heap[k]? = w.heap[k]? := fun k o e hn => (hk k o e hn).trans e.symm
    exact ⟨j.same (s1 _ _ j.mrk (hc _ _ _ _ j.mrk)) (s1 _ _ j.nf (hc _ _ _ _ j.nf)) (s1 _ _ j.blk (hc _ _ _ _ j.blk)) (s1 _ _ e (Ne.symm (h.ap a b ha hb2))),l3⟩
theorem DR.ownL {c : Dc} {bs : Nat} {s : Ds} {w w' : World} {a : AB} {O : List Nat} (h : DR c bs s w) (ha : c.own = some a) (i : IOI w' a O) (g : w.grownBy w' (some a.mb)) : DR c bs ⟨s.steps,s.out,s.stands,s.L,O⟩ w' := by
  obtain ⟨sv,hb,ho⟩ := h.blk
  obtain ⟨i0,l2⟩ := h.ow a ha
  have hk : ∀ (k : Nat) (o : Obj),w.heap[k]? = some o → k ≠ a.mb → w'.heap[k]? = some o := fun k o e hn => (g.block k (lt_of_block e) (by simpa using hn)).trans e
  have hc : ∀ (k : Nat) (cs : Array Value) (t : TypeId) (fz : Nat × Nat),w.heap[k]? = some (Obj.cells cs t fz) → k ≠ a.mb := fun k cs t fz e => i0.mp.apart e
  refine ⟨⟨sv,hk _ _ hb (hc _ _ _ _ hb),ho.1,?_⟩,h.run,h.ok,h.short,?_,fun b hb2 => ?_,fun b hb2 => ?_,h.ap,h.lo⟩
  · rcases ho.2 with q | ⟨gb,cap,cur,q1,q2,q3,q4⟩
    · exact Or.inl q
    · exact Or.inr ⟨gb,cap,cur,q1,q2,hk _ _ q3 (hc _ _ _ _ q3),q4⟩
  · obtain ⟨es,cl,e⟩ := h.st.isMap
    exact h.st.same ((hk _ _ e (Ne.symm l2)).trans e.symm)
  · obtain ⟨j,l3,l4⟩ := h.an b hb2
    obtain ⟨D,⟨es,clock,q1,q2⟩,q3⟩ := j.mp
    have s1 : ∀ (k : Nat) (o : Obj),w.heap[k]? = some o → k ≠ a.mb → w'.heap[k]? = w.heap[k]? := fun k o e hn => (hk k o e hn).trans e.symm
    exact ⟨j.same (s1 _ _ j.mrk (hc _ _ _ _ j.mrk)) (s1 _ _ j.nf (hc _ _ _ _ j.nf)) (s1 _ _ j.blk (hc _ _ _ _ j.blk)) (s1 _ _ q1 (h.ap b a hb2 ha)),l3,l4⟩
  · rw [ha] at hb2
    cases hb2
    exact ⟨i,l2⟩
section
variable {H : Nat → Option Obj} {ca : List Nat} {σ : Sto} {d : Nat → Nat} {c : Dc} {bs : Nat} {s s' : Ds} {w w' : World}
theorem DW.anyL {a : AB} {L : List (List UInt8)} (h : DW H ca σ d c bs s w) (ha : c.any = some a) (i : IO1 w' a L) (g : w.grownBy w' (some a.mb)) : DW H ca σ d c bs ⟨s.steps,s.out,s.stands,L,s.O⟩ w' ∧ Gb (DG ca c bs) w w' := by
  obtain ⟨_,l1,_⟩ := h.dr.an a ha
  have g1 : Gb (fun k => bs ≤ k) w w' := Gb.of g (fun b e => by cases e; exact Or.inl l1)
  exact ⟨h.put (h.dr.anyL ha i g) g1,DG.put g1⟩
theorem DW.ownL {a : AB} {O : List Nat} (h : DW H ca σ d c bs s w) (ha : c.own = some a) (i : IOI w' a O) (g : w.grownBy w' (some a.mb)) : DW H ca σ d c bs ⟨s.steps,s.out,s.stands,s.L,O⟩ w' ∧ Gb (DG ca c bs) w w' := by
  obtain ⟨o1,o2⟩ := h.off a ha
  have g1 : Gb (fun k => k = a.mb) w w' := Gb.of g (fun b e => by cases e; exact Or.inl rfl)
  refine ⟨⟨h.cs.gb g1 (fun x hx e => o2 (e ▸ hx)) (fun k o e e2 => by rw [e2,o1] at e; cases e),h.dr.ownL ha i g,h.lowa,h.lowH,h.off,Nat.le_trans h.big g1.size⟩,g1.mono fun k e => Or.inr (Or.inr ⟨a,ha,e⟩)⟩
end
theorem own_ask (w : World) (t : List UInt8) : Calls Tryz.prog 174 #[.string (B t)] w fun e w' => e = .returned (.string (B t)) ∧ w' = w := by
  go_enter Tryz.func174,Tryz.ntmps174
  go_wp2
  go_ret
  exact ⟨rfl,rfl⟩
def ANY (H : Nat → Option Obj) (ca : List Nat) (σ : Sto) (d : Nat → Nat) (c : Dc) (bs : Nat) (s : Ds) (n : List UInt8) (s' : Ds) (F : FuncId) (args : Array Value) : Prop :=
  ∀ w,DW H ca σ d c bs s w → Calls Tryz.prog F (#[.string (B n)] ++ args) w fun e w' => ∃ x s1,e = .returned (.string (B x)) ∧ putS x 0 0 s1 = some s' ∧ DW H ca σ d c bs s1 w' ∧ Gb (DG ca c bs) w w'
theorem any_id {H : Nat → Option Obj} {ca : List Nat} {σ : Sto} {d : Nat → Nat} {c : Dc} {bs : Nat} {s s' : Ds} {n : List UInt8} (hs : putS n 0 0 s = some s') : ANY H ca σ d c bs s n s' 174 #[] := fun w h => by
  refine (own_ask w n).mono ?_
  rintro e w' ⟨rfl,rfl⟩
  exact ⟨n,s,rfl,hs,h,Gb.refl _ _⟩
theorem askS_ord (L : List (List UInt8)) (n : List UInt8) : askS L n = ordS L n := by
  unfold askS ordS
  split <;> simp_all
theorem any_ask {H : Nat → Option Obj} {ca : List Nat} {σ : Sto} {d : Nat → Nat} {c : Dc} {bs : Nat} {s s' : Ds} {n : List UInt8} {a : AB} (ha : c.any = some a) (hn : n.length ≤ 300) (hL : s.L.length ≤ 200)
    (hs : putS (letterS ((ordS s.L n).idxOf n)) 0 0 ⟨s.steps,s.out,s.stands,ordS s.L n,s.O⟩ = some s') : ANY H ca σ d c bs s n s' 89 #[.pointer (some ⟨a.kb,0,none⟩),.pointer (some ⟨a.nb,0,none⟩)] := fun w h => by
  refine (ask_q w a n s.L hn (h.dr.an a ha).1 hL).mono ?_
  rintro e w' ⟨rfl,i,g⟩
  rw [askS_ord] at i ⊢
  obtain ⟨q1,q2⟩ := h.anyL ha i g
  exact ⟨_,_,rfl,hs,q1,q2⟩
theorem first_basic {H : Nat → Option Obj} {ca : List Nat} {σ : Sto} {d : Nat → Nat} {c : Dc} {bs : Nat} {s s' : Ds} {w : World} {v : Value} {b : Nat} {x : List UInt8}
    (hN : Calls Tryz.prog 168 #[v] w fun e w' => e = .returned (.iface 275 (.pointer (some ⟨b,0,none⟩))) ∧ DW H ca σ d c bs s w' ∧ Gb (DG ca c bs) w w')
    (hb : H b = some (.cells #[.string (B x)] 277 (0,0))) (hp : putS x 0 0 s = some s') :
    Calls Tryz.prog 128 #[CP c.db,v] w (ADP H ca σ d c bs s' w) := by
  have HN := hid hN
  have HB := hid (And.intro hb hp)
  have q1 := e_Basic_Basic b
  clear hN hb hp
  unfold CP
  go_enter Tryz.func128,Tryz.ntmps128
  go_wp2_with fail
  refine HN.out.mono ?_
  rintro e w1 ⟨rfl,r1,g1⟩
  have c0 : w1.cell? ⟨b,0,none⟩ = some (.string (B x)) := by simp [World.cell?,r1.cs.fz _ _ HB.out.1]
  have HW := hid (word_any r1 HB.out.2)
  have R1 := hid g1
  clear r1 g1 HN
  unfold CP at HW
  go_wp2_with (go_at_call 169; refine HW.out.mono ?_; rintro e w2 ⟨rfl,r2,g2⟩; have R2 := hid (And.intro r2 g2); clear r2 g2)
  first | go_end0 | skip
  exact ⟨rfl,R2.out.1,R1.out.tr R2.out.2⟩
theorem Gb.drewL {R : Nat → Prop} {w w' : World} (h : Gb R w.drew w') : Gb R w w' := ⟨h.os,h.tape,h.output,h.size,h.block⟩
theorem CSd.drew {H : Nat → Option Obj} {ca : List Nat} {σ : Sto} {d : Nat → Nat} {w : World} (h : CSd H ca σ d w) : CSd H ca σ d w.drew := ⟨h.fz,h.len,h.lenc,h.nd,h.off,h.few,h.rr,h.blk⟩
theorem DR.drew {c : Dc} {bs : Nat} {s : Ds} {w : World} (h : DR c bs s w) : DR c bs s w.drew := h.same fun _ _ e _ => e
theorem first_var_id {H : Nat → Option Obj} {ca : List Nat} {σ : Sto} {d : Nat → Nat} {c : Dc} {bs : Nat} {s s' : Ds} {w : World} {v : Value} {b : Nat} {n : List UInt8} (hx : c.any = none)
    (hN : Calls Tryz.prog 168 #[v] w fun e w' => e = .returned (.iface 242 (.pointer (some ⟨b,0,none⟩))) ∧ DW H ca σ d c bs s w' ∧ Gb (DG ca c bs) w w')
    (hb : H b = some (.cells #[.string (B n)] 246 (0,0))) (hA : ANY H ca σ d c bs s n s' 174 #[]) :
    Calls Tryz.prog 128 #[CP c.db,v] w (ADP H ca σ d c bs s' w) := by
  have HN := hid hN
  have HB := hid (And.intro hb hA)
  have q1 := e_Var_Basic b
  have q2 := e_Var_Var b
  have HX := hid hx
  clear hN hb hA hx
  unfold CP
  go_enter Tryz.func128,Tryz.ntmps128
  go_wp2_with fail
  refine HN.out.mono ?_
  rintro e w1 ⟨rfl,r1,g1⟩
  have c0 : w1.cell? ⟨b,0,none⟩ = some (.string (B n)) := by simp [World.cell?,r1.cs.fz _ _ HB.out.1]
  obtain ⟨sv,hsv,_⟩ := r1.dr.blk
  have c1 : w1.cell? ⟨c.db,0,none⟩ = some (.func (.func 174) #[] #[]) := by rw [(draft_cells hsv).1]; unfold Dc.anyV; rw [HX.out]; rfl
  have HC := hid (HB.out.2 w1.drew ⟨r1.cs.drew,r1.dr.drew,r1.lowa,r1.lowH,r1.off,r1.big⟩)
  have R1 := hid (And.intro r1 g1)
  clear r1 g1 HN hsv
  go_wp2_with fail
  go_region_with (first
    | (go_at_call 174; refine HC.out.mono ?_; rintro e w2 ⟨x,s1,rfl,hp2,r2,g2⟩; have HW := hid (word_any r2 hp2); have R2 := hid (And.intro r2 g2); clear r2 g2 hp2; unfold CP at HW)
    | (go_at_call 169; refine HW.out.mono ?_; rintro e w3 ⟨rfl,r3,g3⟩; have R3 := hid (And.intro r3 g3); clear r3 g3))
  all_goals
    go_wp2
    first | go_end0 | skip
    exact ⟨rfl,R3.out.1,(R1.out.2.tr (Gb.drewL R2.out.2)).tr R3.out.2⟩
theorem first_var_ask {H : Nat → Option Obj} {ca : List Nat} {σ : Sto} {d : Nat → Nat} {c : Dc} {bs : Nat} {s s' : Ds} {w : World} {v : Value} {b : Nat} {n : List UInt8} {a : AB} (hx : c.any = some a)
    (hN : Calls Tryz.prog 168 #[v] w fun e w' => e = .returned (.iface 242 (.pointer (some ⟨b,0,none⟩))) ∧ DW H ca σ d c bs s w' ∧ Gb (DG ca c bs) w w')
    (hb : H b = some (.cells #[.string (B n)] 246 (0,0))) (hA : ANY H ca σ d c bs s n s' 89 #[.pointer (some ⟨a.kb,0,none⟩),.pointer (some ⟨a.nb,0,none⟩)]) :
    Calls Tryz.prog 128 #[CP c.db,v] w (ADP H ca σ d c bs s' w) := by
  have HN := hid hN
  have HB := hid (And.intro hb hA)
  have q1 := e_Var_Basic b
  have q2 := e_Var_Var b
  have HX := hid hx
  clear hN hb hA hx
  unfold CP
  go_enter Tryz.func128,Tryz.ntmps128
  go_wp2_with fail
  refine HN.out.mono ?_
  rintro e w1 ⟨rfl,r1,g1⟩
  have c0 : w1.cell? ⟨b,0,none⟩ = some (.string (B n)) := by simp [World.cell?,r1.cs.fz _ _ HB.out.1]
  obtain ⟨sv,hsv,_⟩ := r1.dr.blk
  have c1 : w1.cell? ⟨c.db,0,none⟩ = some (.func (.func 89) #[] #[.pointer (some ⟨a.kb,0,none⟩),.pointer (some ⟨a.nb,0,none⟩)]) := by rw [(draft_cells hsv).1]; unfold Dc.anyV; rw [HX.out]; rfl
  have HC := hid (HB.out.2 w1.drew ⟨r1.cs.drew,r1.dr.drew,r1.lowa,r1.lowH,r1.off,r1.big⟩)
  have R1 := hid (And.intro r1 g1)
  clear r1 g1 HN hsv
  go_wp2_with fail
  go_region_with (first
    | (go_at_call 89; refine HC.out.mono ?_; rintro e w2 ⟨x,s1,rfl,hp2,r2,g2⟩; have HW := hid (word_any r2 hp2); have R2 := hid (And.intro r2 g2); clear r2 g2 hp2; unfold CP at HW)
    | (go_at_call 169; refine HW.out.mono ?_; rintro e w3 ⟨rfl,r3,g3⟩; have R3 := hid (And.intro r3 g3); clear r3 g3))
  all_goals
    go_wp2
    first | go_end0 | skip
    exact ⟨rfl,R3.out.1,(R1.out.2.tr (Gb.drewL R2.out.2)).tr R3.out.2⟩
def BLE (H : Nat → Option Obj) (ca : List Nat) (σ : Sto) (d : Nat → Nat) (us : List Value) (w : World) (e : Ending) (w' : World) : Prop :=
  CSd H ca σ d w' ∧ Gb (InAs ca) w w' ∧ ((us = [] ∧ e = .returned (.slice none 0 0)) ∨ ∃ gn,e = .returned (.slice (some ⟨gn,0,none⟩) us.length us.length) ∧ w.heap.size ≤ gn ∧ w'.heap[gn]? = some (.cells us.toArray 77 (0,0)))
def KR (H : Nat → Option Obj) (ca : List Nat) (us : List Value) (ks : List Et) : Prop := us.length = ks.length ∧ ∀ (i : Nat) (u : Value) (k : Et),us[i]? = some u → ks[i]? = some k → ER H ca u k
theorem KR.nil {H : Nat → Option Obj} {ca : List Nat} : KR H ca [] [] := ⟨rfl,fun i u k h => by simp at h⟩
theorem KR.one {H : Nat → Option Obj} {ca : List Nat} {u : Value} {k : Et} (h : ER H ca u k) : KR H ca [u] [k] := ⟨rfl,fun i x y e1 e2 => by
  match i,e1,e2 with
  | 0,e1,e2 => simp at e1 e2; subst e1 e2; exact h
  | i + 1,e1,e2 => simp at e1⟩
theorem KR.two {H : Nat → Option Obj} {ca : List Nat} {u z : Value} {k l : Et} (h : ER H ca u k) (h2 : ER H ca z l) : KR H ca [u,z] [k,l] := ⟨rfl,fun i x y e1 e2 => by
  match i,e1,e2 with
  | 0,e1,e2 => simp at e1 e2; subst e1 e2; exact h
  | 1,e1,e2 => simp at e1 e2; subst e1 e2; exact h2
  | i + 2,e1,e2 => simp at e1⟩
theorem eB_Var (b : Nat) (w : World) : (Go.method 502 242 (.pointer (some ⟨b,0,none⟩)) "Below").run Tryz.prog w = .ok (255,.pointer (some ⟨b,0,none⟩)) w := by kernel_rfl
theorem eB_Basic (b : Nat) (w : World) : (Go.method 502 275 (.pointer (some ⟨b,0,none⟩)) "Below").run Tryz.prog w = .ok (256,.pointer (some ⟨b,0,none⟩)) w := by kernel_rfl
theorem eB_List (b : Nat) (w : World) : (Go.method 502 279 (.pointer (some ⟨b,0,none⟩)) "Below").run Tryz.prog w = .ok (257,.pointer (some ⟨b,0,none⟩)) w := by kernel_rfl
theorem eB_Pair (b : Nat) (w : World) : (Go.method 502 291 (.pointer (some ⟨b,0,none⟩)) "Below").run Tryz.prog w = .ok (258,.pointer (some ⟨b,0,none⟩)) w := by kernel_rfl
theorem eB_Arrow (b : Nat) (w : World) : (Go.method 502 209 (.pointer (some ⟨b,0,none⟩)) "Below").run Tryz.prog w = .ok (242,.pointer (some ⟨b,0,none⟩)) w := by kernel_rfl
theorem eB_Cell (b : Nat) (w : World) : (Go.method 502 173 (.pointer (some ⟨b,0,none⟩)) "Below").run Tryz.prog w = .ok (150,.pointer (some ⟨b,0,none⟩)) w := by kernel_rfl
theorem eb_var (b : Nat) (w : World) : Calls Tryz.prog 255 #[CP b] w fun e w' => e = .returned (.slice none 0 0) ∧ w' = w := by
  unfold CP
  go_enter Tryz.func255,Tryz.ntmps255
  go_wp2
  go_ret
  exact ⟨rfl,rfl⟩
theorem eb_basic (b : Nat) (w : World) : Calls Tryz.prog 256 #[CP b] w fun e w' => e = .returned (.slice none 0 0) ∧ w' = w := by
  unfold CP
  go_enter Tryz.func256,Tryz.ntmps256
  go_wp2
  go_ret
  exact ⟨rfl,rfl⟩
theorem eb_list (b : Nat) (w : World) (t1 : TypeId) (b1 : Nat) (h : w.heap[b]? = some (.cells #[(.iface t1 (.pointer (some ⟨b1,0,none⟩)))] 281 (0,0))) :
    Calls Tryz.prog 257 #[CP b] w fun e w' => e = .returned (.slice (some ⟨w.heap.size,0,none⟩) 1 1) ∧ w' = w.alloc (.cells #[(.iface t1 (.pointer (some ⟨b1,0,none⟩)))] 77) := by
  have c0 : w.cell? ⟨b,0,none⟩ = some (.iface t1 (.pointer (some ⟨b1,0,none⟩))) := by simp [World.cell?,h]
  clear h
  unfold CP
  go_enter Tryz.func257,Tryz.ntmps257
  go_wp2
  go_ret
  exact ⟨rfl,rfl⟩
theorem eb_pair (b : Nat) (w : World) (t1 t2 : TypeId) (b1 b2 : Nat) (h : w.heap[b]? = some (.cells #[(.iface t1 (.pointer (some ⟨b1,0,none⟩))),(.iface t2 (.pointer (some ⟨b2,0,none⟩)))] 319 (0,0))) :
    Calls Tryz.prog 258 #[CP b] w fun e w' => e = .returned (.slice (some ⟨w.heap.size,0,none⟩) 2 2) ∧ w' = (w.alloc (.cells #[(.iface t1 (.pointer (some ⟨b1,0,none⟩))),(.iface t2 (.pointer (some ⟨b2,0,none⟩)))] 77)).drew := by
  have c0 : w.cell? ⟨b,0,none⟩ = some (.iface t1 (.pointer (some ⟨b1,0,none⟩))) := by simp [World.cell?,h]
  have c1 : w.cell? ⟨b,1,none⟩ = some (.iface t2 (.pointer (some ⟨b2,0,none⟩))) := by simp [World.cell?,h]
  clear h
  unfold CP
  go_enter Tryz.func258,Tryz.ntmps258
  go_wp2_with fail
  (try go_region)
  go_wp2
  go_ret
  exact ⟨rfl,rfl⟩
theorem eb_arrow (b : Nat) (w : World) (t1 t2 : TypeId) (b1 b2 : Nat) (h : w.heap[b]? = some (.cells #[(.iface t1 (.pointer (some ⟨b1,0,none⟩))),(.iface t2 (.pointer (some ⟨b2,0,none⟩)))] 211 (0,0))) :
    Calls Tryz.prog 242 #[CP b] w fun e w' => e = .returned (.slice (some ⟨w.heap.size,0,none⟩) 2 2) ∧ w' = (w.alloc (.cells #[(.iface t1 (.pointer (some ⟨b1,0,none⟩))),(.iface t2 (.pointer (some ⟨b2,0,none⟩)))] 77)).drew := by
  have c0 : w.cell? ⟨b,0,none⟩ = some (.iface t1 (.pointer (some ⟨b1,0,none⟩))) := by simp [World.cell?,h]
  have c1 : w.cell? ⟨b,1,none⟩ = some (.iface t2 (.pointer (some ⟨b2,0,none⟩))) := by simp [World.cell?,h]
  clear h
  unfold CP
  go_enter Tryz.func242,Tryz.ntmps242
  go_wp2_with fail
  (try go_region)
  go_wp2
  go_ret
  exact ⟨rfl,rfl⟩
def BelowAt (H : Nat → Option Obj) (ca : List Nat) (σ : Sto) (d : Nat → Nat) (T0 : TypeId) (b : Nat) (F : FuncId) (us : List Value) (w : World) : Prop :=
  (∀ w,(Go.method 502 T0 (.pointer (some ⟨b,0,none⟩)) "Below").run Tryz.prog w = .ok (F,.pointer (some ⟨b,0,none⟩)) w) ∧ Calls Tryz.prog F #[CP b] w (BLE H ca σ d us w) ∧
  (F = 255 ∨ F = 256 ∨ F = 257 ∨ F = 258 ∨ F = 242 ∨ F = 150)
def NodeAt (H : Nat → Option Obj) (ca : List Nat) (σ : Sto) (d : Nat → Nat) (T0 : TypeId) (b : Nat) (F : FuncId) (us : List Value) : Prop := ∀ w,CSd H ca σ d w → BelowAt H ca σ d T0 b F us w
theorem below_node {H : Nat → Option Obj} {ca : List Nat} (σ : Sto) (d : Nat → Nat) {lo m : Nat} {v : Value} {t : Et} (h : ERep lo H ca (m + 1) v t) (hk : t.kind ≠ oCell) :
    ∃ T0 b F us,v = .iface T0 (.pointer (some ⟨b,0,none⟩)) ∧ T0 ≠ 173 ∧ us.length ≤ 2 ∧ KR H ca us t.kids ∧ NodeAt H ca σ d T0 b F us ∧ (F = 255 ∨ F = 256 ∨ F = 257 ∨ F = 258 ∨ F = 242) := by
  have al : ∀ (w : World) (cs : Array Value),CSd H ca σ d w → CSd H ca σ d (w.alloc (.cells cs 77)) := fun w cs hc => hc.gb (R := fun _ => False) ((Gb.refl _ _).alloc _) (fun _ _ e => e) (fun _ _ _ e => e)
  obtain ⟨b,h⟩ := h
  rcases h with ⟨h1,h2,h3,h4⟩ | ⟨h1,h2,h3,h0,h4,h5⟩ | ⟨h1,h2,h3,h4⟩ | ⟨h1,h0,a,u,h2,h3,h4,h5⟩ | ⟨h1,h0,a,c,u,z,h2,h3,h4,h5,h6⟩ | ⟨h1,h0,a,c,u,z,h2,h3,h4,h5,h6⟩
  · exact absurd h1 hk
  · refine ⟨_,b,_,[],h4,by decide,by simp,by rw [h2]; exact KR.nil,fun w hc => ⟨fun w => eB_Var b w,(eb_var b w).mono ?_,Or.inl rfl⟩,Or.inl rfl⟩
    rintro e w' ⟨rfl,rfl⟩
    exact ⟨hc,Gb.refl _ _,Or.inl ⟨rfl,rfl⟩⟩
  · refine ⟨_,b,_,[],h3,by decide,by simp,by rw [h2]; exact KR.nil,fun w hc => ⟨fun w => eB_Basic b w,(eb_basic b w).mono ?_,Or.inr (Or.inl rfl)⟩,Or.inr (Or.inl rfl)⟩
    rintro e w' ⟨rfl,rfl⟩
    exact ⟨hc,Gb.refl _ _,Or.inl ⟨rfl,rfl⟩⟩
  · obtain ⟨t1,b1,_,rfl⟩ := h5.val
    refine ⟨_,b,_,[_],h3,by decide,by simp,by rw [h2]; exact KR.one ⟨m,h5.ext (Nat.zero_le _) (fun _ _ e => e) (List.prefix_refl _) _ _ _⟩,fun w hc => ⟨fun w => eB_List b w,(eb_list b w t1 b1 (hc.fz _ _ h4)).mono ?_,Or.inr (Or.inr (Or.inl rfl))⟩,Or.inr (Or.inr (Or.inl rfl))⟩
    rintro e w' ⟨rfl,rfl⟩
    exact ⟨al _ _ hc,(Gb.refl _ _).alloc _,Or.inr ⟨_,rfl,Nat.le_refl _,heap_alloc_at _ _ _ rfl⟩⟩
  · obtain ⟨t1,b1,_,rfl⟩ := h5.val
    obtain ⟨t2,b2,_,rfl⟩ := h6.val
    refine ⟨_,b,_,[_,_],h3,by decide,by simp,by rw [h2]; exact KR.two ⟨m,h5.ext (Nat.zero_le _) (fun _ _ e => e) (List.prefix_refl _) _ _ _⟩ ⟨m,h6.ext (Nat.zero_le _) (fun _ _ e => e) (List.prefix_refl _) _ _ _⟩,fun w hc => ⟨fun w => eB_Pair b w,(eb_pair b w t1 t2 b1 b2 (hc.fz _ _ h4)).mono ?_,Or.inr (Or.inr (Or.inr (Or.inl rfl)))⟩,Or.inr (Or.inr (Or.inr (Or.inl rfl)))⟩
    rintro e w' ⟨rfl,rfl⟩
    exact ⟨(al _ _ hc).drew,((Gb.refl _ _).alloc _).drew,Or.inr ⟨_,rfl,Nat.le_refl _,heap_alloc_at _ _ _ rfl⟩⟩
  · obtain ⟨t1,b1,_,rfl⟩ := h5.val
    obtain ⟨t2,b2,_,rfl⟩ := h6.val
    refine ⟨_,b,_,[_,_],h3,by decide,by simp,by rw [h2]; exact KR.two ⟨m,h5.ext (Nat.zero_le _) (fun _ _ e => e) (List.prefix_refl _) _ _ _⟩ ⟨m,h6.ext (Nat.zero_le _) (fun _ _ e => e) (List.prefix_refl _) _ _ _⟩,fun w hc => ⟨fun w => eB_Arrow b w,(eb_arrow b w t1 t2 b1 b2 (hc.fz _ _ h4)).mono ?_,Or.inr (Or.inr (Or.inr (Or.inr (Or.inl rfl))))⟩,Or.inr (Or.inr (Or.inr (Or.inr rfl)))⟩
    rintro e w' ⟨rfl,rfl⟩
    exact ⟨(al _ _ hc).drew,((Gb.refl _ _).alloc _).drew,Or.inr ⟨_,rfl,Nat.le_refl _,heap_alloc_at _ _ _ rfl⟩⟩
end Go.Proofs.YtcdijppegfcoaabGreatDoor
