import Derived.Test.YtcdijppegfcoaaaGreatDoorZT34
import Derived.Test.YtcdijppegfcoaaaGreatDoorZT44
import Derived.Test.YtcdijppegfcoaaaGreatDoorZT46
import Derived.Test.YtcdijppegfcoaaaGreatDoorZT37
/-
  OUR OWN TEXT. infer.Infer of the texts that Refuses asks of.
-/
namespace Go.Proofs.YtcdijppegfcoaaaGreatDoor
open Go.RowKit
set_option maxRecDepth 100000 in
set_option maxHeartbeats 4000000 in
theorem unbound_num (nb : Nat) (f : Value) (w : World) : Calls Tryz.prog 124 #[.iface 191 (.pointer (some ⟨nb, 0, none⟩)), f] w fun e w' => e = .returned (.pointer none) ∧ w' = w := by
  have a1 := nA_Name nb
  have a2 := nA_Fun nb
  have a3 := nA_If nb
  have a4 := nA_Let nb
  have a5 := nA_LetRec nb
  have a6 := nA_Apply nb
  have a7 := nA_Pair nb
  go_enter Tryz.func124, Tryz.ntmps124
  go_wp2
  go_ret
  exact ⟨rfl, rfl⟩
theorem ptr_nil (w : World) : (binOp .eql 186 (.pointer none) (.pointer none)).run Tryz.prog w = .ok (.bool true) w := by kernel_rfl
theorem infer_w (s : ByteArray) (mb : Nat) (fuel : Int) (w : World) (t : ByteArray) (P : Value → World → Prop)
    (h : Calls Tryz.prog 61 #[.string s, .map (some mb), .int .i64 fuel, .nilFunc] w fun e w' => w.grownBy w' none ∧ ∃ v, e = .returned (.tuple #[.string t, v]) ∧ P v w') :
    Calls Tryz.prog 52 #[.string s, .map (some mb), .int .i64 fuel] w fun e w' => w.grownBy w' none ∧ ∃ v, e = .returned (.tuple #[.string t, v]) ∧ P v w' := by
  have HW := hid h
  clear h
  go_enter Tryz.func52, Tryz.ntmps52
  go_wp2_with fail
  refine HW.out.mono ?_
  rintro e w1 ⟨g1, v, rfl, hv⟩
  have G1 := hid (And.intro g1 hv)
  clear g1 hv HW
  go_wp2
  go_ret2
  exact ⟨G1.out.1, v, rfl, G1.out.2⟩

end Go.Proofs.YtcdijppegfcoaaaGreatDoor

/-
  OUR OWN TEXT. expr.Unbound, whole; infer.allKnown.
-/
namespace Go.Proofs.YtcdijppegfcoaaaGreatDoor
open Go.RowKit
theorem unc_step {H : Nat → Option Obj} {mb : Nat} {ge : List (List UInt8 × Et)} {P : Ex → List (List (List UInt8)) → Bool} (hP : UNC H mb ge P) : UNC H mb ge (fun e l => okF P ge e l) := by
  intro e v m l kv w hp hr hz hg hk
  simp only [] at hr
  cases m with
  | zero => exact absurd hp id
  | succ m =>
  obtain ⟨b, us, rfl, hn, hl, hkid⟩ := hp
  unfold okF at hr
  rcases hn with ⟨h0, t, h1, h2, h3, h4⟩ | ⟨h0, t, h1, h2, h3, h4⟩ | ⟨h0, t, u, h1, h2, rfl, h4⟩ | ⟨h0, u, v, y, h1, h2, h4⟩ | ⟨h0, t, u, v, h1, h2, h3, h4⟩ | ⟨h0, us, u, gv, h1, h2, h3, h4, h5, h6⟩ | ⟨h0, u, v, h1, rfl, h4⟩ | ⟨h0, u, v, h1, rfl, h4⟩
  · rw [if_pos h0, h1] at hr
    simp only [Bool.and_eq_true, decide_eq_true_eq] at hr
    rw [h0]
    exact unb_name h4 hr.1 hr.2 hz hg hk
  · rw [h0]
    refine (unbound_num b kv w).mono ?_
    rintro e w' ⟨rfl, rfl⟩
    exact ⟨rfl, (Gb.refl _ _).none⟩
  · obtain ⟨y, hy, hp⟩ := kids1 h2 hkid
    rw [h0, if_neg (by decide), if_pos rfl, h1, hy] at hr
    rw [h0]
    exact unb_fun hP h4 hp hr hz hg hk
  · rw [h0, if_neg (by decide), if_neg (by decide), if_neg (by decide), if_neg (by decide), if_neg (by decide)] at hr
    cases hr
  · rw [h0, if_neg (by decide), if_neg (by decide), if_neg (by decide), if_neg (by decide), if_neg (by decide)] at hr
    cases hr
  · rw [h0, if_neg (by decide), if_neg (by decide), if_neg (by decide), if_neg (by decide), if_neg (by decide)] at hr
    cases hr
  · obtain ⟨y, z, hy, hp1, hp2⟩ := kids2' h1 hkid
    rw [h0, if_neg (by decide), if_neg (by decide), if_pos rfl, hy] at hr
    simp only [Bool.and_eq_true] at hr
    rw [h0]
    exact unb_apply hP h4 hp1 hp2 hr.1 hr.2 hz hg hk
  · obtain ⟨y, z, hy, hp1, hp2⟩ := kids2' h1 hkid
    rw [h0, if_neg (by decide), if_neg (by decide), if_neg (by decide), if_pos rfl, hy] at hr
    simp only [Bool.and_eq_true] at hr
    rw [h0]
    exact unb_pair hP h4 hp1 hp2 hr.1 hr.2 hz hg hk
theorem unb_any {H : Nat → Option Obj} {mb : Nat} {ge : List (List UInt8 × Et)} : ∀ f, UNC H mb ge (okT ge f)
  | 0 => fun _ _ _ _ _ _ _ hr _ _ _ => by cases hr
  | f + 1 => unc_step (unb_any f)

set_option maxRecDepth 100000 in
set_option maxHeartbeats 1000000 in
theorem allKnown_t {H : Nat → Option Obj} {mb m f : Nat} {ge : List (List UInt8 × Et)} {v : Value} {e : Ex} {w : World} (hp : PRep m H v e) (ho : okT ge f e [] = true) (hz : Fz H w) (hg : GE2 H w mb ge) :
    Calls Tryz.prog 92 #[v, .map (some mb)] w fun e w' => e = .returned .nilIface ∧ w.grownBy w' none := by
  have hmf : ∀ (fn : Fn) (first cap : Array Value) (w : World), (Instr.makeFunc fn first cap).run Tryz.prog w = .ok (.func fn first cap) w := fun _ _ _ _ => rfl
  have pn := ptr_nil
  have g1 : w.grownBy (w.alloc (.cells #[.map (some mb)] 169)) none := World.grownBy_alloc _ _ _
  obtain ⟨T0, b0, rfl⟩ := hp.val
  have CU := hid (unb_any f e _ m [] (.func (.func 125) #[] #[.pointer (some ⟨w.heap.size, 0, none⟩)]) _ hp ho (hz.grown g1) (hg.grown g1) ⟨_, rfl, heap_alloc_new _ _⟩)
  have G := hid g1
  clear hp ho hz hg g1
  go_enter Tryz.func92, Tryz.ntmps92
  go_wp2_with fail
  refine CU.out.mono ?_
  rintro e w1 ⟨rfl, g1⟩
  have G1 := hid (G.out.trans g1)
  clear g1 CU
  go_wp2
  go_ret
  exact ⟨rfl, G1.out⟩
end Go.Proofs.YtcdijppegfcoaaaGreatDoor

/-
  OUR OWN TEXT. expr.IsName; infer.schemes.
-/
namespace Go.Proofs.YtcdijppegfcoaaaGreatDoor
open Go.RowKit
theorem FM.len {w : World} {mb : Nat} {ns : List (List UInt8)} {g : List (Option (List UInt8))} (h : FM w mb ns g) : (Builtin.len_ #[93] 3 #[.map (some mb)]).run Tryz.prog w = .ok (.int .i64 ((g.filter Option.isSome).length : Nat)) w := by
  obtain ⟨D, h1, h2, _⟩ := h
  rw [← h2]
  exact h1.len (t := 93) Tryz.underlying93 _
set_option maxRecDepth 100000 in
set_option maxHeartbeats 4000000 in
theorem isNameK (k : List UInt8) (hk : k.length ≤ 300) (h0 : upto isB k 0 = 0) (h2 : nxK k 0 = 2) (ht : nxT k 0 = k) (w : World) :
    Calls Tryz.prog 123 #[.string (B k)] w fun e w' => e = .returned (.bool (!decide (k ∈ exKw))) ∧ w.grownBy w' none := by
  have HN := hid (next_any (B k) 0 (Nat.zero_le _) (by rw [size_B]; omega) w)
  have hB : (B k).data.toList = k := rfl
  rw [hB, h0, h2, ht] at HN
  clear h0 h2 ht hB
  unfold tokV at HN
  cases hd : decide (k ∈ exKw) with
  | false =>
    have HK := hid (isKeyword_p k)
    rw [hd] at HK
    clear hd
    go_enter Tryz.func123, Tryz.ntmps123
    go_wp2_with fail
    refine HN.out.mono ?_
    rintro e w1 ⟨rfl, g1⟩
    have G1 := hid g1
    clear g1 HN
    go_wp2_with fail
    refine (HK.out _).mono ?_
    rintro e w' ⟨rfl, rfl⟩
    go_wp2
    go_ret
    exact ⟨rfl, G1.out.trans (World.grownBy_alloc _ _ _)⟩
  | true =>
    have HK := hid (isKeyword_p k)
    rw [hd] at HK
    clear hd
    go_enter Tryz.func123, Tryz.ntmps123
    go_wp2_with fail
    refine HN.out.mono ?_
    rintro e w1 ⟨rfl, g1⟩
    have G1 := hid g1
    clear g1 HN
    go_wp2_with fail
    refine (HK.out _).mono ?_
    rintro e w' ⟨rfl, rfl⟩
    go_wp2
    go_ret
    exact ⟨rfl, G1.out.trans (World.grownBy_alloc _ _ _)⟩

end Go.Proofs.YtcdijppegfcoaaaGreatDoor

/-
  OUR OWN TEXT. types.Read by a checker that the kernel runs; infer.schemes where all is well.
-/
namespace Go.Proofs.YtcdijppegfcoaaaGreatDoor
open Go.RowKit
theorem qe_up {N : Nat} {ns : List (List UInt8)} : ∀ (m : Nat) (x : Ty), TyOk N m x → qe ns (m + 1) x = qe ns m x
  | 0, _, h => absurd h id
  | m + 1, x, h => by
    have e1 : qe ns (m + 1 + 1) x = if x.kind = [] then vT (ns.getD x.var []) else ⟨x.kind, [], 0, x.kids.map (qe ns (m + 1))⟩ := rfl
    have e2 : qe ns (m + 1) x = if x.kind = [] then vT (ns.getD x.var []) else ⟨x.kind, [], 0, x.kids.map (qe ns m)⟩ := rfl
    rw [e1, e2]
    rcases h with ⟨h1, _⟩ | ⟨h1, _, h3⟩ | ⟨h1, h2, a, h3, h4⟩ | ⟨h1, h2, a, b, h3, h4, h5⟩
    · rw [if_pos h1, if_pos h1]
    · rw [h3]; rfl
    · rw [h3]; simp only [List.map_cons, List.map_nil]; rw [qe_up m a h4]
    · rw [h3]; simp only [List.map_cons, List.map_nil]; rw [qe_up m a h4, qe_up m b h5]
theorem qe_le {N : Nat} {ns : List (List UInt8)} {m : Nat} {x : Ty} (h : TyOk N m x) : ∀ k, qe ns (m + k) x = qe ns m x
  | 0 => rfl
  | k + 1 => by rw [← Nat.add_assoc, qe_up (m + k) x (h.le (by omega)), qe_le h k]
theorem qe_same {N N' : Nat} {ns : List (List UInt8)} {m m' : Nat} {x : Ty} (h : TyOk N m x) (h' : TyOk N' m' x) : qe ns m x = qe ns m' x := by
  rw [← qe_le h m', ← qe_le h' m, Nat.add_comm]
/-- A type's text, read. -/
def etK (s : List UInt8) : Option Et :=
  match arrS (toksOf tyKw (B s)) (s.length + 2) [] ⟨0, -1⟩ with
  | none => none
  | some (x, ns, s1) => if (decide ((needS (toksOf tyKw (B s)) s1 kEnd).bad < 0) && tyOkB ns.length 60 x && decide (tySize 60 x ≤ 120)) = true then some (qe ns 60 x) else none
theorem read_e {s : List UInt8} {t : Et} (hs : s.length ≤ 300) (h : etK s = some t) (w : World) (ad : Nat → Addr) (cs : Nat → Array Value) (ts : Nat → TypeId) (S : SW w ad cs ts) :
    Calls Tryz.prog 79 #[.string (B s)] w fun e w' => w.grownBy w' none ∧ ∃ u H, e = .returned (.tuple #[u, .nilIface]) ∧ Fz H w' ∧ ER H [] u t := by
  have hz : (B s).size = s.length := size_B s
  obtain ⟨x, ns, s1, hx, hk⟩ := ty_have2 (B s)
  unfold etK at h
  rw [← hz, hx] at h
  simp only at h
  split at h
  · rename_i hc
    cases h
    simp only [Bool.and_eq_true, decide_eq_true_eq] at hc
    obtain ⟨⟨a1, a2⟩, a3⟩ := hc
    have ok := tyOkB_ok _ 60 x a2
    refine (read_t (B s) x ns w ad cs ts S ⟨by omega, s1, hx, hk, a1, fun N m ok' => by rw [(ty_same ok' ok).1]; exact a3⟩).mono ?_
    rintro e w' ⟨g, u, H, m, rfl, z, q, ok', _⟩
    refine ⟨g, u, H, rfl, z, m, ?_⟩
    rw [← qe_same ok' ok]
    exact QRep.et m u x q
  · cases h

/-- Two sets of blocks that no longer change. -/
def uni (H H2 : Nat → Option Obj) (k : Nat) : Option Obj := match H k with
  | some o => some o
  | none => H2 k
theorem uni_l {H H2 : Nat → Option Obj} : ∀ k o, H k = some o → uni H H2 k = some o := fun k o e => by unfold uni; rw [e]
theorem uni_r {H H2 : Nat → Option Obj} {w : World} (h1 : Fz H w) (h2 : Fz H2 w) : ∀ k o, H2 k = some o → uni H H2 k = some o := fun k o e => by
  unfold uni
  cases e1 : H k with
  | none => exact e
  | some o' =>
    have a := h1 k o' e1
    rw [h2 k o e] at a
    exact a.symm
theorem uni_fz {H H2 : Nat → Option Obj} {w : World} (h1 : Fz H w) (h2 : Fz H2 w) : Fz (uni H H2) w := fun k o e => by
  unfold uni at e
  cases e1 : H k with
  | none => rw [e1] at e; exact h2 k o e
  | some o' => rw [e1] at e; cases e; exact h1 k _ e1
theorem ER.ext {H H' : Nat → Option Obj} {ca : List Nat} {v : Value} {t : Et} (h : ER H ca v t) (e : ∀ k o, H k = some o → H' k = some o) : ER H' ca v t := by
  obtain ⟨m, h⟩ := h
  exact ⟨m, ERep.ext (Nat.le_refl _) e (List.prefix_refl _) m v t h⟩
theorem GE2.ext {H H' : Nat → Option Obj} {w : World} {mb : Nat} {ge : List (List UInt8 × Et)} (h : GE2 H w mb ge) (e : ∀ k o, H k = some o → H' k = some o) : GE2 H' w mb ge := by
  obtain ⟨gv, h1, h2⟩ := h
  exact ⟨gv, h1, fun nm => (h2 nm).imp id (fun ⟨v, t, a, b, c⟩ => ⟨v, t, a, b, c.ext e⟩)⟩
/-- .. without one block, which holds no cells. -/
def wo (H : Nat → Option Obj) (mb : Nat) (k : Nat) : Option Obj := if k = mb then none else H k
theorem er_wo {H : Nat → Option Obj} {ca : List Nat} {mb : Nat} (hm : ∀ cs T z, H mb ≠ some (.cells cs T z)) : ∀ (m : Nat) (v : Value) (t : Et), ERep 0 H ca m v t → ERep 0 (wo H mb) ca m v t := by
  have hw : ∀ k cs T z, H k = some (.cells cs T z) → wo H mb k = some (.cells cs T z) := fun k cs T z e => by
    unfold wo
    rw [if_neg (fun e2 => hm cs T z (by rw [← e2]; exact e))]
    exact e
  intro m
  induction m with
  | zero => exact fun _ _ h => h
  | succ m ih =>
    intro v t h
    obtain ⟨b, h⟩ := h
    refine ⟨b, ?_⟩
    rcases h with h | ⟨h1, h2, h3, h4, h5, h6⟩ | ⟨h1, h2, h3, h4⟩ | ⟨h1, hlo, a, u, h2, h3, h4, h5⟩ | ⟨h1, hlo, a, a2, u, z, h2, h3, h4, h5, h6⟩ | ⟨h1, hlo, a, a2, u, z, h2, h3, h4, h5, h6⟩
    · exact Or.inl h
    · exact Or.inr (Or.inl ⟨h1, h2, h3, h4, h5, hw _ _ _ _ h6⟩)
    · exact Or.inr (Or.inr (Or.inl ⟨h1, h2, h3, hw _ _ _ _ h4⟩))
    · exact Or.inr (Or.inr (Or.inr (Or.inl ⟨h1, hlo, a, u, h2, h3, hw _ _ _ _ h4, ih u a h5⟩)))
    · exact Or.inr (Or.inr (Or.inr (Or.inr (Or.inl ⟨h1, hlo, a, a2, u, z, h2, h3, hw _ _ _ _ h4, ih u a h5, ih z a2 h6⟩))))
    · exact Or.inr (Or.inr (Or.inr (Or.inr (Or.inr ⟨h1, hlo, a, a2, u, z, h2, h3, hw _ _ _ _ h4, ih u a h5, ih z a2 h6⟩))))
/-- What schemes has done when j names are over. -/
structure SCJ (ge : List (List UInt8 × Et)) (K : List (List UInt8)) (mb : Nat) (w3 : World) (j : Nat) (wi : World) (gv : List (List UInt8 × Value)) (H : Nat → Option Obj) : Prop where
  gm : GM kS (fun v => .agg #[v]) 9 wi mb gv
  len : gv.length ≤ j
  yes : ∀ nm, nm ∈ K.take j → ∃ v t, getL gv nm = some v ∧ getL ge nm = some t ∧ ER H [] v t
  no : ∀ nm, nm ∉ K.take j → getL gv nm = none
  fz : Fz H wi
  off : H mb = none
  gb : Gb (fun k => k = mb) w3 wi
theorem SCJ.start {ge : List (List UInt8 × Et)} {K : List (List UInt8)} {mb : Nat} {w3 : World} (h : GM kS (fun v => .agg #[v]) 9 w3 mb ([] : List (List UInt8 × Value))) : SCJ ge K mb w3 0 w3 [] (fun _ => none) :=
  ⟨h, Nat.le_refl _, (fun nm h => by cases h), (fun nm _ => rfl), (fun k o e => by cases e), rfl, Gb.refl _ _⟩
theorem SCJ.grown {ge : List (List UInt8 × Et)} {K : List (List UInt8)} {mb j : Nat} {w3 wi w' : World} {gv : List (List UInt8 × Value)} {H : Nat → Option Obj} (h : SCJ ge K mb w3 j wi gv H) (g : wi.grownBy w' none) : SCJ ge K mb w3 j w' gv H :=
  ⟨h.gm.gb (R := fun _ => False) (Gb.new g) id, h.len, h.yes, h.no, h.fz.grown g, h.off, h.gb.tr (Gb.new g)⟩
theorem SCJ.next {ge : List (List UInt8 × Et)} {K : List (List UInt8)} {mb j : Nat} {w3 wi w' : World} {gv : List (List UInt8 × Value)} {H H2 : Nat → Option Obj} {u : Value} {t : Et} {k : List UInt8} (h : SCJ ge K mb w3 j wi gv H) (z2 : Fz H2 wi) (er : ER H2 [] u t) (hk : K[j]? = some k) (hge : getL ge k = some t) (hgm : GM kS (fun v => .agg #[v]) 9 w' mb (putL gv k u)) (g : wi.grownBy w' (some mb)) :
    SCJ ge K mb w3 (j + 1) w' (putL gv k u) (uni H (wo H2 mb)) := by
  obtain ⟨es, cl, hmp⟩ := h.gm.isMap
  have hm2 : ∀ cs T z, H2 mb ≠ some (.cells cs T z) := fun cs T z e => by have := z2 _ _ e; rw [hmp] at this; cases this
  have z3 : Fz (wo H2 mb) wi := fun k o e => by
    unfold wo at e
    split at e
    · cases e
    · exact z2 k o e
  have zu := uni_fz h.fz z3
  have hoff : uni H (wo H2 mb) mb = none := by unfold uni wo; rw [h.off]; simp
  refine ⟨hgm, ?_, fun nm hnm => ?_, fun nm hnm => ?_, fun k o e => ?_, hoff, h.gb.tr (Gb.of g (fun b e => Or.inl (by cases e; rfl)))⟩
  · rw [putL_len]
    have := h.len
    split <;> omega
  · rw [getL_put]
    by_cases e : k = nm
    · rw [if_pos e]
      obtain ⟨m, er⟩ := er
      exact ⟨u, t, rfl, by rw [← e]; exact hge, ER.ext ⟨m, er_wo hm2 m u t er⟩ (uni_r h.fz z3)⟩
    · rw [if_neg e]
      have hnm2 : nm ∈ K.take j := by
        rw [List.take_add_one, hk] at hnm
        rcases List.mem_append.1 hnm with h1 | h1
        · exact h1
        · simp at h1; exact absurd h1.symm e
      obtain ⟨v, t', a, b, c⟩ := h.yes nm hnm2
      exact ⟨v, t', a, b, c.ext uni_l⟩
  · rw [getL_put]
    rw [List.take_add_one, hk] at hnm
    rw [if_neg (fun e => hnm (List.mem_append.2 (Or.inr (by simp [e]))))]
    exact h.no nm (fun h1 => hnm (List.mem_append.2 (Or.inl h1)))
  · rw [g.block k (lt_of_block (zu k o e)) (fun e2 => by cases e2; rw [hoff] at e; cases e)]
    exact zu k o e
end Go.Proofs.YtcdijppegfcoaaaGreatDoor

/-
  OUR OWN TEXT. infer.schemes where all is well.
-/
namespace Go.Proofs.YtcdijppegfcoaaaGreatDoor
open Go.RowKit
/-- Each name of env is a name, its type is read. -/
def EnvOk (na : List (List UInt8)) (g : List (Option (List UInt8))) (ge : List (List UInt8 × Et)) : Prop :=
  (∀ k, k ∈ na → k.length ≤ 300 ∧ (∀ W, Calls Tryz.prog 123 #[.string (B k)] W fun e w' => e = .returned (.bool true) ∧ W.grownBy w' none) ∧ ∃ i tx t, i < na.length ∧ na.getD i [] = k ∧ g.getD i none = some tx ∧ tx.length ≤ 300 ∧ etK tx = some t ∧ getL ge k = some t) ∧ ∀ k, k ∉ na → getL ge k = none
theorem sortS_mem (na : List (List UInt8)) (k : List UInt8) : k ∈ sortS na ↔ k ∈ na := by
  unfold sortS
  exact (List.mergeSort_perm ..).mem_iff

set_option maxRecDepth 100000 in
set_option maxHeartbeats 4000000 in
theorem schemes_ok (na : List (List UInt8)) (g : List (Option (List UInt8))) (ge : List (List UInt8 × Et)) (w : World) (mb : Nat) (F : FM w mb na g) (hd : na.Nodup) (hall : ∀ v, v < na.length → (g.getD v none).isSome = true) (hgl : g.length = na.length) (hL : na.length ≤ 1000) (EO : EnvOk na g ge)
    (hmk : (Instr.makeMap 169 (some (.int .i64 ((g.filter Option.isSome).length : Nat)))).run Tryz.prog w = .ok (.map (some w.heap.size)) (w.alloc (.map #[] 0))) (ad : Nat → Addr) (cs : Nat → Array Value) (ts : Nat → TypeId) (S : SW w ad cs ts) :
    Calls Tryz.prog 91 #[.map (some mb)] w fun e w' => w.grownBy w' none ∧ ∃ b H, e = .returned (.tuple #[.map (some b), .nilIface]) ∧ Fz H w' ∧ GE2 H w' b ge := by
  have hlen := FM.len F
  generalize (g.filter Option.isSome).length = nl at hlen hmk
  have CS := hid (sorted_some (w.alloc (.map #[] 0)) mb na g (F.kept (World.grownBy_alloc _ _ none) (by simp)) hd hall (by omega))
  rw [show (w.alloc (.map #[] 0)).heap.size = w.heap.size + 1 by simp] at CS
  have hml := F.lt
  have hKl : (sortS na).length = na.length := by unfold sortS; rw [List.length_mergeSort]
  have HX := hid (fun (k : List UInt8) (hk : k ∈ sortS na) => EO.1 k ((sortS_mem na k).1 hk))
  have HN := hid (fun (k : List UInt8) (hk : k ∉ sortS na) => EO.2 k (fun e => hk ((sortS_mem na k).2 e)))
  have HF := hid (And.intro F S)
  clear F hd hall EO S
  obtain ⟨K, hK⟩ : ∃ K, K = sortS na := ⟨_, rfl⟩
  rw [← hK] at hKl CS HX HN
  clear hK
  go_enter Tryz.func91, Tryz.ntmps91
  go_wp2_with fail
  refine (keys_c (some mb) _).mono ?_
  rintro e w2 ⟨rfl, rfl⟩
  go_wp2_with fail
  refine CS.out.mono ?_
  rintro e w3 ⟨vs, rfl, hrow, g3⟩
  obtain ⟨ao, cp, rfl, hview⟩ := own_view hrow
  have G3 := hid (And.intro (((World.grownBy_alloc w (.map #[] 0) none).trans (World.grownBy_alloc _ _ none)).trans g3) (And.intro hview (GM.gb (R := fun _ => False) (GM.new (kl := kS) (ev := fun v : Value => .agg #[v]) (k := 9) (w := w)) (Gb.new ((World.grownBy_alloc _ _ none).trans g3)) id)))
  have hs3 : w.heap.size < w3.heap.size := by have := g3.size; simp at this; omega
  clear g3 CS hrow hview
  have hKL : K.length ≤ 1000 := by omega
  have hbase : ((w.alloc (.map #[] 0)).alloc (.cells #[.map (some mb)] 93)).heap.size = w.heap.size + 2 := by simp
  rw [hbase] at G3
  clear hKl hgl hL hbase
  go_wp2_with fail
  go_loopg [16] (K.length + 1) (fun gh i wi => ∃ (j : Nat), j ≤ K.length ∧ i = .int .i64 j ∧ gh = K.length - j + 1 ∧ Hid (∃ gv H, SCJ ge K w.heap.size w3 j wi gv H))
  case atStart => exact ⟨0, by omega, rfl, by omega, hid ⟨_, _, SCJ.start G3.out.2.2⟩⟩
  case round =>
    obtain ⟨j, hj, rfl, hgj, HS⟩ := hrel
    by_cases hjl : j < K.length
    · obtain ⟨gv, H, s⟩ := HS.out
      obtain ⟨gn, rfl, hbn, hgn, hcell⟩ := G3.out.2.1 j hjl
      have hcj := s.gb.cell hcell hgn (by omega)
      have hk0 : K[j]? = some (K.getD j []) := by rw [List.getD_eq_getElem?_getD, List.getElem?_eq_getElem hjl]; rfl
      obtain ⟨h300, IN, i, tx, t, hi, hik, hit, htx, het, hge⟩ := HX.out _ (List.mem_of_getElem? hk0)
      have gw : w.grownBy wr none := ((Gb.new (R := fun k => w.heap.size ≤ k) G3.out.1).tr (s.gb.mono (fun k e => by omega))).none
      have HI := hid IN
      have LK := hid (show ∀ W : World, w.grownBy W none → (Instr.lookup 93 (.map (some mb)) (.string (B (K.getD j []))) false).run Tryz.prog W = .ok (.agg #[.string (B tx)]) W from fun W gW => by
        have := (HF.out.1.kept gW (by simp)).look1 hi (by rw [hik]; exact h300) hit
        rw [hik] at this
        exact this)
      have RD := hid (fun (W : World) (gW : w.grownBy W none) => read_e htx het W ad cs ts (HF.out.2.grown gW))
      have Q := hid (And.intro s (And.intro gw (And.intro hk0 (And.intro h300 hge))))
      clear s gw hcell IN hi hik hit htx het hge hk0 h300 HS
      generalize K.getD j [] = k at *
      go_wp2_with fail
      refine (HI.out _).mono ?_
      rintro e w4 ⟨rfl, g4⟩
      have G4 := hid (And.intro g4 (Q.out.2.1.trans g4))
      have lk := LK.out _ G4.out.2
      have tf := typed_field (B tx)
      clear g4 LK HI
      go_wp2_with fail
      refine (RD.out _ G4.out.2).mono ?_
      rintro e w5 ⟨g5, u, H2, rfl, z2, er⟩
      have s5 := (Q.out.1.grown G4.out.1).grown g5
      obtain ⟨w6, hup, hgm, g6⟩ := GM.store s5.gm strLaw Tryz.underlying169 kS_inj kS_lit (by have := s5.len; omega) u (kS_key Q.out.2.2.2.1)
      have N := hid (s5.next z2 er Q.out.2.2.1 Q.out.2.2.2.2 hgm g6)
      obtain ⟨T0, b0, _, rfl⟩ := er_val er
      clear g5 z2 er s5 hgm g6 RD G4 Q lk
      go_wp2
      go_roundg (K.length - (j + 1) + 1)
      case measure => omega
      case rel => exact ⟨j + 1, by omega, by go_num, rfl, hid ⟨_, _, N.out⟩⟩
    · have hje : j = K.length := by omega
      subst hje
      go_wp2
      go_ret2
      obtain ⟨gv, H, s⟩ := HS.out
      refine ⟨((Gb.new (R := fun k => w.heap.size ≤ k) G3.out.1).tr (s.gb.mono (fun k e => by omega))).none, _, H, rfl, s.fz, gv, s.gm, fun nm => ?_⟩
      have hyes := s.yes nm
      have hno := s.no nm
      rw [List.take_length] at hyes hno
      by_cases hm : nm ∈ K
      · exact Or.inr (hyes hm)
      · exact Or.inl ⟨hno hm, HN.out nm hm⟩
end Go.Proofs.YtcdijppegfcoaaaGreatDoor

/-
  OUR OWN TEXT. infer.Watch, infer.Infer of an expression that has a type, by a mirror that the kernel runs.
-/
namespace Go.Proofs.YtcdijppegfcoaaaGreatDoor
open Go.RowKit
/-- An expression's text, read. -/
def exK (s : List UInt8) : Option Ex :=
  match expS (toksOf exKw (B s)) (s.length + 2) ⟨0, -1⟩ with
  | none => none
  | some (x, s1) => if (decide ((needS (toksOf exKw (B s)) s1 kEnd).bad < 0) && shapeB 60 x && decide (exDeep 60 x ≤ 40)) = true then some x else none
theorem read_x {s : List UInt8} {x : Ex} (hs : s.length ≤ 300) (h : exK s = some x) (w : World) (ad : Nat → Addr) (cs : Nat → Array Value) (ts : Nat → TypeId) (S : SW w ad cs ts) :
    Calls Tryz.prog 67 #[.string (B s)] w fun e w' => w.grownBy w' none ∧ ∃ v H m, e = .returned (.tuple #[v, .nilIface]) ∧ Fz H w' ∧ PRep m H v x := by
  have hz : (B s).size = s.length := size_B s
  obtain ⟨x', s1, hx, hni⟩ := exp_have (B s) (by omega)
  unfold exK at h
  rw [← hz, hx] at h
  simp only at h
  split at h
  · rename_i hc
    cases h
    simp only [Bool.and_eq_true, decide_eq_true_eq] at hc
    obtain ⟨⟨a1, a2⟩, a3⟩ := hc
    refine (read_p (B s) (by omega) w _ x s1 hx (ad 1) S.g1 (Nat.lt_of_lt_of_le (by decide) S.hsz)).mono ?_
    rintro e w' ⟨g, (⟨hb, _⟩ | ⟨_, v, H', m, z1, r1, d1, hd⟩)⟩
    · omega
    · have e1 := (text_same (PRep.shape m v x r1) (shapeB_ok 60 x a2)).2
      rcases hd with ⟨hd, _⟩ | ⟨_, rfl⟩
      · omega
      · exact ⟨g, v, H', m, rfl, z1, r1⟩
  · cases h
/-- The type's text of an expression. -/
def typK (ge : List (List UInt8 × Et)) (x : Ex) : Option (List UInt8) :=
  if okT ge 60 x [] = true then
    match partT ge 60 x [] ⟨[], []⟩ with
    | none => none
    | some (σ, c) => match generalT σ [] 60 c with
      | none => none
      | some t => if ncB 60 t = true then (match draftS ⟨[], []⟩ 1 130 t (ds0 []) with
        | none => none
        | some s' => some s'.out) else none
  else none
theorem typK_parts {ge : List (List UInt8 × Et)} {x : Ex} {tx : List UInt8} (h : typK ge x = some tx) : okT ge 60 x [] = true ∧ ∃ σ c t s', partT ge 60 x [] ⟨[], []⟩ = some (σ, c) ∧ generalT σ [] 60 c = some t ∧ ncB 60 t = true ∧ draftS ⟨[], []⟩ 1 130 t (ds0 []) = some s' ∧ s'.out = tx := by
  unfold typK at h
  split at h
  case isFalse => cases h
  rename_i h1
  refine ⟨h1, ?_⟩
  cases e1 : partT ge 60 x [] ⟨[], []⟩ with
  | none => rw [e1] at h; cases h
  | some r =>
  obtain ⟨σ, c⟩ := r
  rw [e1] at h
  simp only at h
  cases e2 : generalT σ [] 60 c with
  | none => rw [e2] at h; cases h
  | some t =>
  rw [e2] at h
  simp only at h
  split at h
  case isFalse => cases h
  rename_i h3
  cases e4 : draftS ⟨[], []⟩ 1 130 t (ds0 []) with
  | none => rw [e4] at h; cases h
  | some s' =>
  rw [e4] at h
  exact ⟨σ, c, t, s', rfl, e2, h3, e4, Option.some.inj h⟩

set_option maxRecDepth 100000 in
set_option maxHeartbeats 4000000 in
theorem watch_t {s tx : List UInt8} {x : Ex} (hs : s.length ≤ 300) (hx : exK s = some x) {na : List (List UInt8)} {g : List (Option (List UInt8))} {ge : List (List UInt8 × Et)} (ht : typK ge x = some tx) (fuel : Int) (hf1 : 1 ≤ fuel) (hf2 : fuel ≤ 12) {mb : Nat} {w : World} (F : FM w mb na g) (hd : na.Nodup) (hall : ∀ v, v < na.length → (g.getD v none).isSome = true) (hgl : g.length = na.length) (hL : na.length ≤ 1000) (EO : EnvOk na g ge)
    (hmk : ∀ W, (Instr.makeMap 169 (some (.int .i64 ((g.filter Option.isSome).length : Nat)))).run Tryz.prog W = .ok (.map (some W.heap.size)) (W.alloc (.map #[] 0))) (ad : Nat → Addr) (cs : Nat → Array Value) (ts : Nat → TypeId) (S : SW w ad cs ts) :
    Calls Tryz.prog 61 #[.string (B s), .map (some mb), .int .i64 fuel, .nilFunc] w fun e w' => w.grownBy w' none ∧ ∃ v, e = .returned (.tuple #[.string (B tx), v]) ∧ v = .nilIface := by
  obtain ⟨hok, σ, c, t, s', p1, p2, p3, p4, rfl⟩ := typK_parts ht
  have HR := hid (read_x hs hx w ad cs ts S)
  have HS := hid (fun (W : World) (gW : w.grownBy W none) => schemes_ok na g ge W mb (F.kept gW (by simp)) hd hall hgl hL EO (hmk W) ad cs ts (S.grown gW))
  have HK := hid (And.intro hok (And.intro p1 (And.intro p2 (And.intro p3 p4))))
  clear S hx ht F hd hall hgl hL EO hmk hok p1 p2 p3 p4
  go_enter Tryz.func61, Tryz.ntmps61
  go_wp2_with fail
  refine HR.out.mono ?_
  rintro e w1 ⟨g1, v, H1, m, rfl, z1, hp⟩
  have G1 := hid (And.intro g1 (And.intro z1 hp))
  obtain ⟨T0, b0, rfl⟩ := hp.val
  clear g1 z1 hp HR
  go_wp2_with fail
  refine (HS.out _ G1.out.1).mono ?_
  rintro e w2 ⟨g2, b2, H2, rfl, z2, ge2⟩
  have z12 := G1.out.2.1.grown g2
  have zu := uni_fz z12 z2
  have hp2 : PRep m (uni H1 H2) (.iface T0 (.pointer (some ⟨b0, 0, none⟩))) x := PRep.ext (m := 0) ⟨uni_l, fun k hk => by omega⟩ m _ _ G1.out.2.2
  have ge3 := ge2.ext (uni_r z12 z2)
  have CK := hid (allKnown_t hp2 HK.out.1 zu ge3)
  have G2 := hid (And.intro (G1.out.1.trans g2) (And.intro zu (And.intro hp2 ge3)))
  clear g2 z2 ge2 z12 zu hp2 ge3 HS G1
  go_wp2_with fail
  refine CK.out.mono ?_
  rintro e w3 ⟨rfl, g3⟩
  have CO := hid (of_t (fuel := fuel) G2.out.2.2.1 (G2.out.2.1.grown g3) (G2.out.2.2.2.grown g3).ge HK.out.2.1 HK.out.2.2.1 HK.out.2.2.2.1)
  have G3 := hid (G2.out.1.trans g3)
  clear g3 G2 CK
  go_wp2_with fail
  refine CO.out.mono ?_
  rintro e w4 ⟨g4, u, H4, rfl, er4, z4⟩
  have g5 : w4.grownBy (w4.alloc (.cells #[u] 174)) none := World.grownBy_alloc _ _ _
  have CT := hid (one_any er4 HK.out.2.2.2.2 (z4.grown g5))
  have G4 := hid ((G3.out.trans g4).trans g5)
  obtain ⟨T4, b4, _, rfl⟩ := er_val er4
  clear g4 g5 er4 z4 G3 CO
  go_wp2_with fail
  refine CT.out.mono ?_
  rintro e w5 ⟨rfl, g5⟩
  have G5 := hid (G4.out.trans g5)
  clear g5 CT G4
  go_wp2
  go_ret2
  exact ⟨G5.out, _, rfl, rfl⟩
end Go.Proofs.YtcdijppegfcoaaaGreatDoor
