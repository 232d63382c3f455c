/-
  OUR OWN TEXT. The program's reader: a group that is being read.
-/
import Derived.Test.YtfangljlgfcdpaaGreatDoorPRecA
namespace Go.Proofs.YtfangljlgfcdpaaGreatDoor
open Go.RowKit

/-- The group so far: gv is its row; us: the values in it. -/
structure RI (T : List Tok) (w wi : World) (rb : Nat) (s : ByteArray) (H : Nat → Option Obj) (k0 : Nat) (gv : Value) (y : Ex) (sy : St) (us : List Value) (Hi : Nat → Option Obj) (m : Nat) : Prop where
  own : wi.ownsRow (w.heap.size + 1) 185 2 gv y.names.length (bindCells y.names us)
  ulen : us.length = y.names.length
  some' : 0 < y.names.length
  allx : AllX us
  free : ∀ k, some k = gv.ownBlock → Hi k = none
  op : y.op = kRec
  klen : y.kids.length = y.names.length
  reps : ∀ (i : Nat) (k : Ex) (u : Value), us[i]? = some u → y.kids[i]? = some k → PRep m Hi u k
  nms : ∀ nm, nm ∈ y.names → NmOK nm
  st : PSt exKw wi rb s T sy
  kept : Kept rb w wi
  fz : Fz Hi wi
  ext : Ext w.heap.size H Hi
  deep : ∀ k, k ∈ y.kids → exDeep m k + k0 + 1 ≤ sy.k
  count : y.names.length + k0 ≤ sy.k
  box : wi.cell? ⟨w.heap.size, 0, none⟩ = some (.pointer (some ⟨rb, 0, none⟩))
  more : w.heap.size < wi.heap.size

theorem RI.rb {T : List Tok} {w wi : World} {rb : Nat} {s : ByteArray} {H : Nat → Option Obj} {k0 : Nat} {gv : Value} {y : Ex} {sy : St} {us : List Value} {Hi : Nat → Option Obj} {m : Nat} (h : RI T w wi rb s H k0 gv y sy us Hi m) (hrb : rb < w.heap.size) (hr : H rb = none) : Hi rb = none := by
  rw [h.ext.2 rb hrb]
  exact hr
theorem RI.step {T : List Tok} {w wi w' : World} {rb : Nat} {s : ByteArray} {H : Nat → Option Obj} {k0 : Nat} {gv : Value} {y : Ex} {sy sy' : St} {us : List Value} {Hi : Nat → Option Obj} {m : Nat} (h : RI T w wi rb s H k0 gv y sy us Hi m)
    (hk : Kept rb wi w') (hp : PSt exKw w' rb s T sy') (hle : sy.k ≤ sy'.k) (hrb : rb < w.heap.size) (hr : H rb = none) : RI T w w' rb s H k0 gv y sy' us Hi m :=
  ⟨own_kept h.own hk (by omega), h.ulen, h.some', h.allx, h.free, h.op, h.klen, h.reps, h.nms, hp, h.kept.trans hk, h.fz.kept hk (h.rb hrb hr), h.ext, fun k hk' => by have := h.deep k hk'; omega, by have := h.count; omega,
    by rw [kept_cell hk h.more (by omega)]; exact h.box, Nat.lt_of_lt_of_le h.more hk.size⟩
theorem RI.grown {T : List Tok} {w wi w' : World} {rb : Nat} {s : ByteArray} {H : Nat → Option Obj} {k0 : Nat} {gv : Value} {y : Ex} {sy : St} {us : List Value} {Hi : Nat → Option Obj} {m : Nat} (h : RI T w wi rb s H k0 gv y sy us Hi m)
    (hg : wi.grownBy w' none) (hrb : rb < w.heap.size) (hr : H rb = none) : RI T w w' rb s H k0 gv y sy us Hi m :=
  h.step (Kept.of0 rb hg) (h.st.grown hg) (Nat.le_refl _) hrb hr

/-- The first of the group. -/
theorem RI.start {T : List Tok} {w w1 : World} {rb : Nat} {s : ByteArray} {H : Nat → Option Obj} {st s1 : St} {t b : TypeId} {H1 : Nat → Option Obj} {m : Nat} {x : Ex} (p : Nat) (hrb : rb < w.heap.size) (hnm : NmOK (tk T st.k).s)
    (hk : Kept rb (w.alloc (.cells #[.pointer (some ⟨rb, 0, none⟩)] 164)) w1) (hp : PSt exKw w1 rb s T s1) (hz : Fz H1 w1) (he : Ext (w.alloc (.cells #[.pointer (some ⟨rb, 0, none⟩)] 164)).heap.size H H1) (hx : PRep m H1 (.iface t (.pointer (some ⟨b, 0, none⟩))) x) (hd : exDeep m x + st.k + 2 ≤ s1.k) :
    RI T w (w1.alloc (.cells #[.string (B (tk T st.k).s), (.iface t (.pointer (some ⟨b, 0, none⟩)))] 185)) rb s H st.k (.slice (some ⟨w1.heap.size, 0, none⟩) 1 1) ⟨kRec, [(tk T st.k).s], [x], p⟩ s1 [(.iface t (.pointer (some ⟨b, 0, none⟩)))] H1 m := by
  have hs : w.heap.size + 1 ≤ w1.heap.size := by have := hk.size; simp at this; omega
  refine ⟨own_first w1 _ hs _ _, rfl, by simp, fun u hu => by simp at hu; exact ⟨t, b, hu⟩, fun k hk' => ?_, rfl, rfl, fun i k u h1 h2 => ?_, fun nm hn => by simp at hn; rw [hn]; exact hnm, hp.alloc _, (((Kept.refl rb w).alloc (.cells #[.pointer (some ⟨rb, 0, none⟩)] 164)).trans hk).alloc _, hz.alloc _, he.from (by simp), fun k hk' => ?_, ?_, ?_, by simp; omega⟩
  · simp [Value.ownBlock] at hk'
    subst hk'
    exact hz.none (Nat.le_refl _)
  · cases i with
    | zero => simp at h1 h2; subst h1 h2; exact hx
    | succ i => simp at h1
  · simp at hk'
    subst hk'
    omega
  · have := deep_pos hx
    simp
    omega
  · refine cell_past ?_ _
    rw [kept_cell hk (by simp) (by omega)]
    simp [go_sem]

/-- One more of the group. -/
theorem RI.add {T : List Tok} {w wi w5 w6 : World} {rb : Nat} {s : ByteArray} {H : Nat → Option Obj} {k0 : Nat} {gv : Value} {y : Ex} {sy s4 : St} {us : List Value} {Hi : Nat → Option Obj} {m : Nat} (h : RI T w wi rb s H k0 gv y sy us Hi m) (hrb : rb < w.heap.size)
    {t b : TypeId} {H' : Nat → Option Obj} {m' : Nat} {x : Ex} {nm : List UInt8} (hnm : NmOK nm) (hk : Kept rb wi w5) (hp : PSt exKw w5 rb s T s4) (hz : Fz H' w5) (he : Ext wi.heap.size Hi H') (hx : PRep m' H' (.iface t (.pointer (some ⟨b, 0, none⟩))) x) (hd : exDeep m' x + sy.k + 2 ≤ s4.k)
    {g cap : Nat} (hown : w6.ownsRow (w.heap.size + 1) 185 2 (.slice (some ⟨g, 0, none⟩) (y.names.length + 1) cap) (y.names.length + 1) (bindCells y.names us ++ [.string (B nm), (.iface t (.pointer (some ⟨b, 0, none⟩)))]))
    (hg : (w5.alloc (.cells #[.string (B nm), (.iface t (.pointer (some ⟨b, 0, none⟩)))] 185)).grownBy w6 gv.ownBlock) (hat : gv.ownBlock = some g ∨ g = w5.heap.size + 1) :
    RI T w w6 rb s H k0 (.slice (some ⟨g, 0, none⟩) (y.names.length + 1) cap) ⟨y.op, y.names ++ [nm], y.kids ++ [x], y.pos⟩ s4 (us ++ [(.iface t (.pointer (some ⟨b, 0, none⟩)))]) H' (max m m') := by
  have hsz : wi.heap.size ≤ w5.heap.size := hk.size
  have hmore := h.more
  have glt : ∀ k, some k = gv.ownBlock → w.heap.size + 1 ≤ k ∧ k < wi.heap.size := fun k e => own_lt h.own e
  have same : ∀ k, k < w5.heap.size → some k ≠ gv.ownBlock → w6.heap[k]? = w5.heap[k]? := fun k h1 h2 => by
    rw [hg.block k (by simp; omega) h2, Below.heap_alloc _ _ _ h1]
  have hfree' : ∀ k, some k = gv.ownBlock → H' k = none := fun k e => by
    rw [he.2 k (glt k e).2]
    exact h.free k e
  have hs6 : w5.heap.size ≤ w6.heap.size := by have := hg.size; simp at this; omega
  refine ⟨?_, by simp [h.ulen], by simp, ?_, ?_, h.op, by simp [h.klen], ?_, ?_, ?_, ?_, ?_, h.ext.trans he (Nat.le_of_lt hmore), ?_, ?_, ?_, by omega⟩
  · rw [List.length_append, bindCells_snoc _ _ _ _ h.ulen]
    exact hown
  · intro u hu
    rcases List.mem_append.1 hu with hu | hu
    · exact h.allx u hu
    · simp at hu; exact ⟨t, b, hu⟩
  · intro k e
    simp [Value.ownBlock] at e
    subst e
    rcases hat with hat | hat
    · exact hfree' _ hat.symm
    · exact hz.none (by omega)
  · intro i k u h1 h2
    rcases Nat.lt_or_ge i us.length with hi | hi
    · rw [List.getElem?_append_left hi] at h1
      rw [List.getElem?_append_left (by rw [h.klen, ← h.ulen]; exact hi)] at h2
      exact (PRep.ext he _ _ _ (h.reps i k u h1 h2)).le (by omega)
    · rw [List.getElem?_append_right hi] at h1
      rw [List.getElem?_append_right (by rw [h.klen, ← h.ulen]; exact hi)] at h2
      rw [h.klen, ← h.ulen] at h2
      cases e : i - us.length with
      | zero =>
        rw [e] at h1 h2
        simp at h1 h2
        subst h1 h2
        exact hx.le (by omega)
      | succ j => rw [e] at h1; simp at h1
  · intro n hn
    rcases List.mem_append.1 hn with hn | hn
    · exact h.nms n hn
    · simp at hn; rw [hn]; exact hnm
  · obtain ⟨q1, ⟨J, q2, q3⟩, q4⟩ := hp
    exact ⟨q1, ⟨J, q2, by unfold Rdr; rw [same rb (lt_of_block q3) (fun e => by have := (glt rb e).1; omega)]; exact q3⟩, q4⟩
  · have k1 := h.kept.trans hk
    exact ⟨hg.os.trans k1.os, hg.tape.trans k1.tape, hg.output.trans k1.output, by have := k1.size; omega, fun k hk' hn => by
      rw [same k (by omega) (fun e => by have := (glt k e).1; omega)]
      exact k1.block k hk' hn⟩
  · intro k o e
    rw [same k (hz.lt e) (fun e' => by rw [hfree' k e'] at e; cases e)]
    exact hz k o e
  · intro k hk'
    rcases List.mem_append.1 hk' with hk' | hk'
    · obtain ⟨i, hi, rfl⟩ := List.mem_iff_getElem.1 hk'
      have hui : i < us.length := by rw [h.ulen, ← h.klen]; exact hi
      have hr := h.reps i (y.kids[i]) (us[i]) (List.getElem?_eq_getElem hui) (List.getElem?_eq_getElem hi)
      rw [deep_le (PRep.shape _ _ _ hr) (show m ≤ max m m' by omega)]
      have := h.deep _ hk'
      omega
    · simp at hk'
      subst hk'
      rw [deep_le (PRep.shape _ _ _ hx) (show m' ≤ max m m' by omega)]
      have := h.count
      have := h.some'
      omega
  · have := h.count
    have := deep_pos hx
    simp
    omega
  · rw [World.cell?_of_block (a := ⟨w.heap.size, 0, none⟩) (same w.heap.size (by omega) (fun e => by have := (glt _ e).1; omega)), kept_cell hk hmore (by omega)]
    exact h.box
end Go.Proofs.YtfangljlgfcdpaaGreatDoor
