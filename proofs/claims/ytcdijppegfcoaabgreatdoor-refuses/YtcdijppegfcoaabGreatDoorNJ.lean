import Derived.Test.YtcdijppegfcoaabGreatDoorNE
import Derived.Test.YtcdijppegfcoaabGreatDoorNF
import Derived.Maps.RangeWalk
import Derived.Laws.IdiomRangeMap
import Derived.Deep.LoopGhost
import Derived.WalkKit
import Derived.Maps.Ext
import Derived.Test.YtcdijppegfcoaabGreatDoorNQ
import Derived.Defers
import Derived.Recover
import Derived.Test.YtcdijppegfcoaabGreatDoorNG
/-
  OUR OWN TEXT. errors.As, errors.Is and errors.Unwrap of an *EnvError.
-/
namespace Go.Proofs.YtcdijppegfcoaabGreatDoor
open Go.RowKit Go.Extern.Stop Go.Stop Go.Extern

set_option maxRecDepth 100000 in
set_option maxHeartbeats 2000000 in
theorem as_env_env (tb : Nat) (q : Addr) (old : Value) (w : World) (ht : w.cell? ⟨tb, 0, none⟩ = some old) (htf : w.frozen? ⟨tb, 0, none⟩ = false) (htl : tb < w.heap.size)
    (hE : w.cell? ⟨8, 0, none⟩ = some ETy) (hEl : 8 < w.heap.size) :
    Calls Tryz.prog 37 #[.iface 83 (.pointer (some q)), .iface 85 (.pointer (some ⟨tb, 0, none⟩))] w fun e w' => e = .returned (.bool true) ∧ w'.cell? ⟨tb, 0, none⟩ = some (.pointer (some q)) ∧ w.grownBy w' (some tb) := by
  unfold ETy at hE
  have e0 := valueOfEnvError
  have e1 := valTypeEnvError
  have e2 := kindMEnvError
  have e3 := kindEnvError
  have e4 := kindEMEnvError
  have e5 := kindEEnvError
  have e6 := elemOfEnvError
  have e7 := implOfEnvError
  have e8 := isNilEnvError
  have g0 := rtElem
  have g1 := rtImplements
  have g2 := rtAssignableTo
  have g3 := typeOfEnv
  have g4 := assignEnvEnvError
  have g5 := valueOfErrEnvError
  have f2 := fun (o2 o3 : Obj) => elemEnvError ⟨w.heap.size, 0, none⟩ ⟨tb, 0, none⟩ (((w.alloc (.cells #[.pointer (some ⟨tb, 0, none⟩)] 85)).alloc o2).alloc o3)
    (by rw [World.cell?_alloc_past _ _ _ (by simp; omega), World.cell?_alloc_past _ _ _ (by simp), World.cell?_alloc_new]; rfl)
  have f3 := fun (o1 o2 o3 : Obj) => setEnvError ⟨tb, 0, none⟩ ⟨w.heap.size + 1 + 1 + 1, 0, none⟩ (some q) old ((((w.alloc o1).alloc o2).alloc o3).alloc (.cells #[.pointer (some q)] 83))
    (by rw [World.cell?_alloc_at _ _ _ _ (by simp)]; rfl)
    (by rw [World.cell?_alloc_past _ _ _ (by simp; omega), World.cell?_alloc_past _ _ _ (by simp; omega), World.cell?_alloc_past _ _ _ (by simp; omega), World.cell?_alloc_past _ _ _ htl]; exact ht)
    (by rw [World.frozen?_alloc_past _ _ _ (by simp; omega), World.frozen?_alloc_past _ _ _ (by simp; omega), World.frozen?_alloc_past _ _ _ (by simp; omega), World.frozen?_alloc_past _ _ _ htl]; exact htf)
  have m1 : tb < w.heap.size + 1 := by omega
  have m2 : tb < w.heap.size + 1 + 1 := by omega
  have m3 : tb < w.heap.size + 1 + 1 + 1 := by omega
  have n1 : 8 < w.heap.size + 1 := by omega
  go_enter Tryz.func37, Tryz.ntmps37
  go_wp2
  refine wp_loop_rounds 1 ?_
  rw [rounds_succ]
  go_wp2
  go_ret
  exact ⟨rfl, cell_past (cell_past (cell_past (cell_past (set_get ht _) _) _) _) _, (((((Kept.refl tb w).setCell 0 _).alloc _).alloc _).alloc _).alloc _⟩

theorem isTypeOfS (v : Value) (w : World) : (Extern.ReflectliteType.typeOf #[.iface 81 v]).run Tryz.prog w = .ok (.iface 229 (.agg #[.pointer (some ⟨13, 81, none⟩)])) w := by kernel_rfl
theorem isComparableS (w : World) : ((Extern.ReflectliteType.method fun t => do Extern.Rtype.noPackHeld "Comparable" t; Functor.map (fun a => Value.bool a.comparable) (typeInfo t)) #[.agg #[.pointer (some ⟨13, 81, none⟩)]]).run Tryz.prog w = .ok (.bool true) w := by kernel_rfl
theorem isCompS : (Tryz.prog.info? 81).map (·.comparable) = some true := by kernel_rfl
theorem isSizeS : (Tryz.prog.info? 92).map (·.size) = some 1 := by kernel_rfl
theorem noIsS (v : Value) (xT : TypeId) (w : World) : (Instr.typeAssert (.iface 81 v) xT 239 true).run Tryz.prog w = .ok (.tuple #[.nilIface, .bool false]) w := run_typeAssert_lacksB Tryz.underlying239 (by kernel_rfl) (by kernel_rfl) v xT w

theorem is_env_syn (pb po : Nat) (b : Addr) (w : World) (h1 : w.cell? ⟨pb, po + 1, none⟩ = some (.iface 81 (.pointer (some b)))) :
    Calls Tryz.prog 39 #[.iface 83 (.pointer (some ⟨pb, po, none⟩)), .iface 81 (.pointer (some b))] w fun e w' => e = .returned (.bool true) ∧ w' = w := by
  obtain ⟨i, hi, hcmp⟩ := Option.map_eq_some_iff.1 isCompS
  obtain ⟨j, hj, hjs⟩ := Option.map_eq_some_iff.1 isSizeS
  have h8 := @run_callFunc_extern Tryz.prog 61 _ Extern.ReflectliteType.typeOf Tryz.func61 (by kernel_rfl) (by kernel_rfl) (by kernel_rfl) (by kernel_rfl)
  have h32 := @run_callFunc_extern Tryz.prog 246 _ (Extern.ReflectliteType.method fun t => do Extern.Rtype.noPackHeld "Comparable" t; pure (.bool (← typeInfo t).comparable)) Tryz.func246 (by kernel_rfl) (by kernel_rfl) (by kernel_rfl) (by kernel_rfl)
  have tT := isTypeOfS
  have cT := isComparableS
  have mR := isMethodComparable
  have nE := noIsS
  have nW := noIsW
  have uW := hasUnwrapW
  have mU := methodUnwrap
  have heq := run_eql_iface_ptr_same (P := Tryz.prog) w b Tryz.underlying56 Tryz.underlying81 hi hcmp hj
  have hty := run_eql_iface_types (P := Tryz.prog) 83 81 (.pointer (some ⟨pb, po, none⟩)) (.pointer (some b)) Tryz.underlying56 (by decide) w
  go_enter Tryz.func39, Tryz.ntmps39
  go_wp2
  refine wp_loop_rounds 2 ?_
  rw [rounds_succ]
  go_wp2
  rw [rounds_succ]
  go_wp2
  go_ret
  exact ⟨rfl, rfl⟩
theorem unwrap_env (pb po : Nat) (v : Value) (w : World) (h1 : w.cell? ⟨pb, po + 1, none⟩ = some v) (hv : v = .nilIface ∨ ∃ t q, v = .iface t (.pointer (some q))) :
    Calls Tryz.prog 38 #[.iface 83 (.pointer (some ⟨pb, po, none⟩))] w fun e w' => e = .returned v ∧ w' = w := by
  have uW := hasUnwrapW
  have mU := methodUnwrap
  rcases hv with rfl | ⟨t, q, rfl⟩
  all_goals
    go_enter Tryz.func38, Tryz.ntmps38
    go_wp2
    go_ret
    exact ⟨rfl, rfl⟩
end Go.Proofs.YtcdijppegfcoaabGreatDoor

/-
  OUR OWN TEXT. plain.fault of an *EnvError.
-/
namespace Go.Proofs.YtcdijppegfcoaabGreatDoor
open Go.RowKit Go.Extern.Stop Go.Stop Go.Extern

/-- The fault that an *EnvError is. -/
def fe (nm : ByteArray) (a b : Int) : Value := .agg #[.int .i64 5, .int .i64 0, .string nm, .int .i64 a, .int .i64 b]
theorem env_c {w : World} {b : Nat} {p q : Value} {t : TypeId} (h : w.heap[b]? = some (.cells #[p, q] t (0, 0))) : w.cell? ⟨b, 0, none⟩ = some p ∧ w.cell? ⟨b, 1, none⟩ = some q := by simp [World.cell?, h]

theorem ErrV.gn {w w' : World} {ad : Nat → Addr} {v : Value} {a b : Int} (h : ErrV w ad v a b) (hg : Gn w w') : ErrV w' ad v a b := by
  rcases h with h | ⟨c, h1, h2, h3⟩
  · exact Or.inl h
  · exact Or.inr ⟨c, h1, by rw [hg.block c (lt_of_block h2)]; exact h2, h3⟩

set_option maxRecDepth 100000 in
set_option maxHeartbeats 4000000 in
theorem fault_env0 (w : World) (ad : Nat → Addr) (cs : Nat → Array Value) (ts : Nat → TypeId) (S : SW w ad cs ts) (b : Nat) (nm : ByteArray) (hb : w.heap[b]? = some (.cells #[.string nm, .nilIface] 87 (0, 0))) :
    Calls Tryz.prog 22 #[.iface 83 (.pointer (some ⟨b, 0, none⟩))] w fun e w' => e = .returned (fe nm 0 0) ∧ Gn w w' := by
  obtain ⟨n0, n1, n2, n3⟩ := faultW_blocks w
  have hbl := lt_of_block hb
  have S4 := hid (S.grown (faultW_grown w))
  have A1 := hid (as_env_env (w.heap.size + 3) ⟨b, 0, none⟩ (.pointer none) (faultW w) (one_c n3).1 (one_c n3).2 (lt_of_block n3) S4.out.hE (Nat.lt_of_lt_of_le (by decide) S4.out.hsz))
  have B4 := hid n0
  have HB := hid hb
  clear S hb n0 n1 n2 n3
  unfold faultW at A1
  go_enter Tryz.func22, Tryz.ntmps22
  go_wp2_with fail
  refine A1.out.mono ?_
  rintro e w5 ⟨rfl, c5, g5⟩
  have g5' : (faultW w).grownBy w5 (some (w.heap.size + 3)) := g5
  have n0 : w5.heap[w.heap.size]? = some (.cells #[.int .i64 0, .int .i64 0, .string (B []), .int .i64 0, .int .i64 0] 23 (0, 0)) := by
    rw [g5'.block _ (lt_of_block B4.out) (by simp)]; exact B4.out
  have hb5 : w5.heap[b]? = some (.cells #[.string nm, .nilIface] 87 (0, 0)) := by
    rw [g5'.block _ (Nat.lt_of_lt_of_le hbl (faultW_grown w).size) (by simp; omega), (faultW_grown w).block _ hbl (by simp)]; exact HB.out
  have G5 : Hid (Gn w w5) := ⟨g5'.os.trans (faultW_grown w).os, g5'.output.trans (faultW_grown w).output, Nat.le_trans (faultW_grown w).size g5'.size, fun k hk => by
    rw [g5'.block _ (Nat.lt_of_lt_of_le hk (faultW_grown w).size) (by simp; omega), (faultW_grown w).block _ hk (by simp)]⟩
  have l0 := lt_of_block n0
  have lb5 := lt_of_block hb5
  have lc5 : w.heap.size + 3 < w5.heap.size := by have := g5'.size; have := lt_of_block (faultW_blocks w).2.2.2; omega
  obtain ⟨d0, d1⟩ := env_c hb5
  clear g5 g5' A1 S4
  have uw := fun (W : World) (h : W.cell? ⟨b, 1, none⟩ = some .nilIface) => unwrap_env b 0 .nilIface W h (Or.inl rfl)
  have UW := hid uw
  clear uw
  go_wp2_with fail
  refine (UW.out _ (cell_past d1 _)).mono ?_
  rintro e w6 ⟨rfl, rfl⟩
  have n6 := heap_alloc_new w5 (.cells #[.int .i64 5, .int .i64 0, .string nm, .int .i64 0, .int .i64 0] 23)
  have n00 : (w5.alloc (.cells #[.int .i64 5, .int .i64 0, .string nm, .int .i64 0, .int .i64 0] 23)).heap[w.heap.size]? = _ := (Below.heap_alloc _ _ _ l0).trans n0
  obtain ⟨⟨p0, p1, p2, p3, p4⟩, _⟩ := five_c n6
  obtain ⟨⟨q0, q1, q2, q3, q4⟩, f0, f1, f2, f3, f4⟩ := five_c n00
  have GA : Hid (Gn w (w5.alloc (.cells #[.int .i64 5, .int .i64 0, .string nm, .int .i64 0, .int .i64 0] 23))) := G5.out.trans (Gn.of (World.grownBy_alloc _ _ _))
  clear n6 n00 UW n0 hb5
  generalize w5.alloc (.cells #[.int .i64 5, .int .i64 0, .string nm, .int .i64 0, .int .i64 0] 23) = W6 at *
  go_wp2
  refine bodyPost_ret (v := fe nm 0 0) (by simp [results, Tryz.results22, go_sem, q0, q1, q2, q3, q4]; rfl) rfl ?_
  exact ⟨rfl, GA.out.set5 (Nat.le_refl _) _ _ _ _ _⟩

theorem Gn.drew {w w' : World} (h : Gn w w') : Gn w w'.drew := ⟨h.os, h.output, h.size, h.block⟩
theorem is_why (w : World) (ad : Nat → Addr) (b : Nat) (v : Value) (x y : Int) (h : ErrV w ad v x y) (W : World) (h1 : W.cell? ⟨b, 0 + 1, none⟩ = some v) :
    Calls Tryz.prog 39 #[.iface 83 (.pointer (some ⟨b, 0, none⟩)), v] W fun e w' => e = .returned (.bool true) ∧ w' = W := by
  rcases h with ⟨i, _, rfl, _⟩ | ⟨c, rfl, _⟩
  · exact is_env_same b 0 (ad i) W h1
  · exact is_env_syn b 0 ⟨c, 0, none⟩ W h1

end Go.Proofs.YtcdijppegfcoaabGreatDoor

/-
  OUR OWN TEXT. plain.env; maps.Equal of two of its maps.
-/
namespace Go.Proofs.YtcdijppegfcoaabGreatDoor
open Go.RowKit Go.Maps Go.WideMaps

/-- A list of texts, to be read. -/
def SRow (w : World) (v : Value) (l : List (List UInt8)) : Prop :=
  ∃ ao cp, v = .slice ao l.length cp ∧ ∀ j, j < l.length → ∃ nb, ao = some ⟨nb, 0, none⟩ ∧ nb < w.heap.size ∧ w.cell? ⟨nb, j, none⟩ = some (.string (B (l.getD j [])))
theorem SRow.gn {w w' : World} {v : Value} {l : List (List UInt8)} (h : SRow w v l) (g : Gn w w') : SRow w' v l := by
  obtain ⟨ao, cp, h1, h2⟩ := h
  refine ⟨ao, cp, h1, fun j hj => ?_⟩
  obtain ⟨nb, e1, e2, e3⟩ := h2 j hj
  exact ⟨nb, e1, Nat.lt_of_lt_of_le e2 g.size, by rw [World.cell?_of_block (a := ⟨nb, j, none⟩) (g.block nb e2)]; exact e3⟩
theorem SRow.nil (w : World) : SRow w (.slice none 0 0) [] := ⟨none, 0, rfl, fun j hj => absurd hj (by simp)⟩

/-- The first so many of the names stand for something. -/
def upS (ts : List (List UInt8)) (n j : Nat) : List (Option (List UInt8)) := (ts.take j).map some ++ List.replicate (n - j) none
theorem upS_len {ts : List (List UInt8)} {n j : Nat} (h : ts.length = n) (hj : j ≤ n) : (upS ts n j).length = n := by
  simp [upS]; omega
theorem upS_at {ts : List (List UInt8)} {n j : Nat} (h : ts.length = n) (hj : j < n) : (upS ts n j).getD j none = none := by
  have e : (List.replicate (n - j) (none : Option (List UInt8)))[0]? = some none := by rw [List.getElem?_replicate]; rw [if_pos (by omega)]
  unfold upS
  rw [List.getD_eq_getElem?_getD, List.getElem?_append_right (by simp; omega)]
  simp only [List.length_map, List.length_take]
  rw [show j - min j ts.length = 0 by omega, e]
  rfl
theorem upS_step {ts : List (List UInt8)} {n j : Nat} (h : ts.length = n) (hj : j < n) : (upS ts n j).set j (some (ts.getD j [])) = upS ts n (j + 1) := by
  have e1 : ts[j]? = some (ts.getD j []) := by rw [List.getD_eq_getElem?_getD, List.getElem?_eq_getElem (by omega)]; rfl
  unfold upS
  rw [List.set_append, if_neg (by simp; omega), List.take_add_one, e1]
  simp only [List.length_map, List.length_take]
  rw [show j - min j ts.length = 0 by omega, show n - j = (n - (j + 1)) + 1 by omega, List.replicate_succ]
  simp

theorem mk_env (w : World) : (Instr.makeMap 60 none).run Tryz.prog w = .ok (.map (some w.heap.size)) (w.alloc (.map #[] 0)) := by kernel_rfl
set_option maxRecDepth 100000 in
set_option maxHeartbeats 4000000 in
theorem env_q (ns ts : List (List UInt8)) (w : World) (vn vt : Value) (hn : SRow w vn ns) (ht : SRow w vt ts) (hl : ts.length = ns.length) (hL : ns.length ≤ 1000) (hd : ns.Nodup) (hnl : ∀ i, i < ns.length → (ns.getD i []).length ≤ 300) (htl : ∀ i, i < ts.length → (ts.getD i []).length ≤ 1000000) :
    Calls Tryz.prog 26 #[vn, vt] w fun e w' => w.grownBy w' none ∧ e = .returned (.map (some w.heap.size)) ∧ FM w' w.heap.size ns (ts.map some) := by
  obtain ⟨an, cn, rfl, hn⟩ := hn
  obtain ⟨at', ct, rfl, ht⟩ := ht
  have HN := hid hn
  have HT := hid ht
  have HD := hid (And.intro hd (And.intro hnl htl))
  have F0 := hid (FM.new w ns ns.length)
  have u0 : upS ts ns.length 0 = List.replicate ns.length none := by simp [upS]
  rw [← u0] at F0
  clear hn ht hd hnl htl u0
  rw [hl]
  have hmk := mk_env w
  go_enter Tryz.func26, Tryz.ntmps26
  go_wp2_with fail
  have hws0 : w.heap.size < (w.alloc (.map #[] 0)).heap.size := by simp
  go_loopg [10] (ns.length + 1) (fun gh i wi => ∃ j : Nat, j ≤ ns.length ∧ i = .int .i64 j ∧ gh = ns.length - j + 1 ∧ Hid (FM wi w.heap.size ns (upS ts ns.length j)) ∧ Hid ((w.alloc (.map #[] 0)).grownBy wi (some w.heap.size)))
  case atStart => exact ⟨0, by omega, rfl, by omega, F0, hid (World.grownBy.refl _ _)⟩
  case round =>
    obtain ⟨j, hj, rfl, hgj, HF, HG⟩ := hrel
    by_cases hjl : j < ns.length
    · obtain ⟨nb, rfl, hnb, hc1⟩ := HN.out j hjl
      obtain ⟨tb, rfl, htb, hc2⟩ := HT.out j (by omega)
      obtain ⟨nm, hnm⟩ : ∃ nm, nm = ns.getD j [] := ⟨_, rfl⟩
      obtain ⟨tx, htx⟩ : ∃ tx, tx = ts.getD j [] := ⟨_, rfl⟩
      have d1 : wr.cell? ⟨nb, j, none⟩ = some (.string (B nm)) := by
        rw [World.cell?_of_block (a := ⟨nb, j, none⟩) (HG.out.block nb (by simp; omega) (by simp; omega)), World.cell?_of_block (a := ⟨nb, j, none⟩) (Below.heap_alloc _ _ _ hnb), hc1, hnm]
      have d2 : wr.cell? ⟨tb, j, none⟩ = some (.string (B tx)) := by
        rw [World.cell?_of_block (a := ⟨tb, j, none⟩) (HG.out.block tb (by simp; omega) (by simp; omega)), World.cell?_of_block (a := ⟨tb, j, none⟩) (Below.heap_alloc _ _ _ htb), hc2, htx]
      obtain ⟨w2, hup, hF2, hg2⟩ := FM.store (w := wr.drew) (FM.same HF.out rfl) (upS_len hl hj) hL HD.out.1 hjl (HD.out.2.1 j hjl) (upS_at hl hjl) (HD.out.2.2 j (by omega))
      rw [upS_step hl hjl] at hF2
      rw [← hnm, ← htx] at hup
      have H2 := hid (And.intro hF2 ((grown_drew HG.out).trans hg2))
      have hj2 : ((j : Nat) : Int) < ((ns.length : Nat) : Int) := by omega
      clear hF2 hg2 hc1 hc2 hnm htx
      go_wp2_with fail
      go_region
      go_wp2_with fail
      go_roundg (ns.length - (j + 1) + 1)
      case measure => omega
      case rel => exact ⟨j + 1, by omega, by go_num, rfl, hid H2.out.1, hid H2.out.2⟩
    · have hje : j = ns.length := by omega
      subst hje
      have e1 : upS ts ns.length ns.length = ts.map some := by
        unfold upS
        rw [← hl, List.take_length, Nat.sub_self]
        simp
      have HR := hid (show w.grownBy wr none ∧ FM wr w.heap.size ns (ts.map some) from ⟨⟨HG.out.os, HG.out.tape, HG.out.output, by have := HG.out.size; simp at this; omega, fun k hk _ => by
        rw [HG.out.block k (by simp; omega) (by simp; omega), Below.heap_alloc _ _ _ hk]⟩, e1 ▸ HF.out⟩)
      clear HF HG e1
      go_wp2
      go_ret
      exact ⟨HR.out.1, rfl, HR.out.2⟩
theorem typed_neq (a b : ByteArray) : ∃ r, ∀ w : World, (binOp .neq 68 (.agg #[.string a]) (.agg #[.string b])).run Tryz.prog w = .ok (.bool r) w := by
  by_cases h : a.toList = b.toList
  · exact ⟨false, fun w => by simp [go_sem, h]⟩
  · exact ⟨true, fun w => by simp [go_sem, h]⟩

set_option maxRecDepth 100000 in
set_option maxHeartbeats 4000000 in
theorem equal_q (b1 b2 : Nat) (m1 m2 : List (List UInt8)) (g1 g2 : List (Option (List UInt8))) (w : World) (F1 : FM w b1 m1 g1) (F2 : FM w b2 m2 g2) :
    Calls Tryz.prog 31 #[.map (some b1), .map (some b2)] w fun e w' => (∃ r, e = .returned (.bool r)) ∧ w.grownBy w' none := by
  obtain ⟨D1, h1, -⟩ := F1
  obtain ⟨D2, h2, -⟩ := F2
  generalize (g1.filter Option.isSome).length = n1 at h1
  generalize (g2.filter Option.isSome).length = n2 at h2
  have l1 := fun ty => h1.len (t := 60) Tryz.underlying60 ty
  have l2 := fun ty => h2.len (t := 60) Tryz.underlying60 ty
  have hb2 := h2.lt
  by_cases hsz : Maps.size D1 = Maps.size D2
  · go_enter Tryz.func31, Tryz.ntmps31
    go_wp2_with (first
      | (at_range; refine wpList_range_own _ rfl _ 60 rfl 9 68 keyLaw Tryz.underlying60 tyR b1 n1 _ rfl h1 ?_; intro w0 hrg0 hg0 hs0)
      | go_in)
    go_frame
    go_loopw [16] (fun _ wr => ∃ (left : Lit → Bool) (cnt : Nat), wr.ranges Tryz.prog 9 tyR b1 w.heap.size n1 D1 left cnt ∧ wr.ownsMap Tryz.prog 9 tyR b2 n2 D2 ∧ w.grownBy wr none)
      (fun _ wr => wr.rangeLeft b1 w.heap.size)
    case atStart => exact ⟨_, _, hrg0, h2.kept hg0 (by simp), hg0⟩
    case round =>
      obtain ⟨left, cnt, hrg, h2r, hgw⟩ := hrel
      go_wp2_with (first
        | (at_next; refine wpList_next_ranges _ rfl _ rfl 9 keyLaw tyR id id (fun key _ _ => ⟨key, rfl⟩) (fun v _ _ => ⟨v, rfl⟩) b1 w.heap.size n1 _ _ _ rfl hrg ?_ ?_)
        | go_in)
      · intro _ hl0
        go_wp2
        go_ret
        exact ⟨⟨_, rfl⟩, hgw⟩
      · intro x c kl yd yp w1 cnt1 hkey hlx hv hat hrg1 hlt hg1 hs1 hen
        have hgw1 : w.grownBy w1 none := hgw.andThen hg1 (fun j hj => by cases hj; exact Or.inl (Nat.le_refl _))
        have h2w1 := h2r.kept hg1 (fun e => by have := Option.some.inj e; omega)
        obtain ⟨sv, rfl, _⟩ := tyR_inv hv
        have hgA : w1.grownBy (w1.alloc (.cells #[.string sv] 68)) none := World.grownBy_alloc _ _ _
        obtain ⟨u, ps, hr, hu⟩ := (h2w1.kept hgA (by simp)).look_ok keyLaw Tryz.underlying60 (zeroTyped _) (tyR_mk (t := []) (by simp)) hkey
        obtain ⟨su, rfl, _⟩ := tyR_inv hu
        obtain ⟨r, hneq⟩ := typed_neq sv su
        have hgB : (w1.alloc (.cells #[.string sv] 68)).grownBy ((w1.alloc (.cells #[.string sv] 68)).alloc (.cells #[.string su] 68)) none := World.grownBy_alloc _ _ _
        have HE := hid (And.intro (hrg1.kept (hgA.trans hgB) (by simp) (by simp)) (And.intro (h2w1.kept (hgA.trans hgB) (by simp)) (hgw1.trans (hgA.trans hgB))))
        have HM := hid (And.intro hlt hrg)
        clear hat hrg1 h2w1 hgw1 hgA hgB hu hrg h2r hgw hrg0 hg0 h1 h2 hlt
        cases hh : Maps.has D2 kl
        · rw [hh] at hr
          go_wp2
          go_ret
          exact ⟨⟨_, rfl⟩, HE.out.2.2⟩
        · rw [hh] at hr
          cases r
          · go_wp2_with fail
            go_roundw
            case rel => exact ⟨_, cnt1, HE.out⟩
            case measure => rw [HE.out.1.left_eq, HM.out.2.left_eq]; exact HM.out.1
          · go_wp2
            go_ret
            exact ⟨⟨_, rfl⟩, HE.out.2.2⟩
  · have hne : ¬ ((Maps.size D1 : Int) = (Maps.size D2 : Int)) := fun e => hsz (by exact_mod_cast e)
    go_enter Tryz.func31, Tryz.ntmps31
    go_wp2
    go_ret
    exact ⟨⟨_, rfl⟩, World.grownBy.refl _ _⟩
end Go.Proofs.YtcdijppegfcoaabGreatDoor

/-
  OUR OWN TEXT. The typing of a number.
-/
namespace Go.Proofs.YtcdijppegfcoaabGreatDoor
open Go.RowKit

theorem blk_c {w : World} {b : Nat} {cs : Array Value} {t : TypeId} (h : w.heap[b]? = some (.cells cs t (0, 0))) (i : Nat) {v : Value} (hi : cs[i]? = some v) : w.cell? ⟨b, i, none⟩ = some v := by simp [World.cell?, h, hi]
theorem blk_f {w : World} {b : Nat} {cs : Array Value} {t : TypeId} (h : w.heap[b]? = some (.cells cs t (0, 0))) (i : Nat) : w.frozen? ⟨b, i, none⟩ = false := by simp [World.frozen?, h]
theorem put_c {w : World} {b : Nat} {v0 : Value} {t : TypeId} (h : w.heap[b]? = some (.cells #[v0] t (0, 0))) (v : Value) : (w.setCell ⟨b, 0, none⟩ v).heap[b]? = some (.cells #[v] t (0, 0)) := by simp [World.setCell, Array.getElem?_modify, h]
theorem gset {w wi : World} (hg : w.grownBy wi none) {n : Nat} (hn : w.heap.size ≤ n) (i : Nat) (a : Value) : w.grownBy (wi.setCell ⟨n, i, none⟩ a) none :=
  ⟨hg.os, hg.tape, hg.output, by have := hg.size; simp [World.setCell]; exact this, fun k hk _ => by rw [Below.heap_setCell _ _ _ _ (by show k ≠ n; omega)]; exact hg.block k hk (by simp)⟩
theorem num_not (v : Value) (w : World) : (Instr.typeAssert (.iface 275 v) 77 173 true).run Tryz.prog w = .ok (.tuple #[.pointer none, .bool false]) w := by kernel_rfl
theorem nB_Basic (b : Nat) (w : World) : (Go.method 502 275 (.pointer (some ⟨b, 0, none⟩)) "Below").run Tryz.prog w = .ok (256, .pointer (some ⟨b, 0, none⟩)) w := by kernel_rfl
theorem nB_Cell (b : Nat) (w : World) : (Go.method 502 173 (.pointer (some ⟨b, 0, none⟩)) "Below").run Tryz.prog w = .ok (150, .pointer (some ⟨b, 0, none⟩)) w := by kernel_rfl
theorem nA_Name (b : Nat) (w : World) : (Instr.typeAssert (.iface 175 (.pointer (some ⟨b, 0, none⟩))) 101 157 true).run Tryz.prog w = .ok (.tuple #[.pointer none, .bool false]) w := by kernel_rfl
theorem nA_Fun (b : Nat) (w : World) : (Instr.typeAssert (.iface 175 (.pointer (some ⟨b, 0, none⟩))) 101 178 true).run Tryz.prog w = .ok (.tuple #[.pointer none, .bool false]) w := by kernel_rfl
theorem nA_If (b : Nat) (w : World) : (Instr.typeAssert (.iface 175 (.pointer (some ⟨b, 0, none⟩))) 101 181 true).run Tryz.prog w = .ok (.tuple #[.pointer none, .bool false]) w := by kernel_rfl
theorem nA_Let (b : Nat) (w : World) : (Instr.typeAssert (.iface 175 (.pointer (some ⟨b, 0, none⟩))) 101 184 true).run Tryz.prog w = .ok (.tuple #[.pointer none, .bool false]) w := by kernel_rfl
theorem nA_LetRec (b : Nat) (w : World) : (Instr.typeAssert (.iface 175 (.pointer (some ⟨b, 0, none⟩))) 101 190 true).run Tryz.prog w = .ok (.tuple #[.pointer none, .bool false]) w := by kernel_rfl
theorem nA_Apply (b : Nat) (w : World) : (Instr.typeAssert (.iface 175 (.pointer (some ⟨b, 0, none⟩))) 101 195 true).run Tryz.prog w = .ok (.tuple #[.pointer none, .bool false]) w := by kernel_rfl
theorem nA_Pair (b : Nat) (w : World) : (Instr.typeAssert (.iface 175 (.pointer (some ⟨b, 0, none⟩))) 101 198 true).run Tryz.prog w = .ok (.tuple #[.pointer none, .bool false]) w := by kernel_rfl
theorem nL_List (b : Nat) (w : World) : (Instr.typeAssert (.iface 275 (.pointer (some ⟨b, 0, none⟩))) 77 279 true).run Tryz.prog w = .ok (.tuple #[.pointer none, .bool false]) w := by kernel_rfl
theorem nL_Pair (b : Nat) (w : World) : (Instr.typeAssert (.iface 275 (.pointer (some ⟨b, 0, none⟩))) 77 291 true).run Tryz.prog w = .ok (.tuple #[.pointer none, .bool false]) w := by kernel_rfl
theorem nL_Arrow (b : Nat) (w : World) : (Instr.typeAssert (.iface 275 (.pointer (some ⟨b, 0, none⟩))) 77 209 true).run Tryz.prog w = .ok (.tuple #[.pointer none, .bool false]) w := by kernel_rfl
theorem lk_none (n : Int) (w : World) : (Instr.lookup 267 (.map none) (.int .i64 n) true).run Tryz.prog w = .ok (.tuple #[.agg #[], .bool false]) w := by kernel_rfl
theorem nL_Cell (b : Nat) (w : World) : (Instr.typeAssert (.iface 173 (.pointer (some ⟨b, 0, none⟩))) 77 173 false).run Tryz.prog w = .ok (.pointer (some ⟨b, 0, none⟩)) w := by kernel_rfl

set_option maxRecDepth 100000 in
set_option maxHeartbeats 4000000 in
theorem of_new (tb b : Nat) (w : World) (h0 : w.cell? ⟨tb, 0, none⟩ = some (.int .i64 0)) (f0 : w.frozen? ⟨tb, 0, none⟩ = false) (hl : tb < w.heap.size) :
    Calls Tryz.prog 160 #[.pointer (some ⟨tb, 0, none⟩), .iface 275 (.pointer (some ⟨b, 0, none⟩))] w fun e w' => e = .returned (.pointer (some ⟨w.heap.size, 0, none⟩)) ∧ w' = (w.setCell ⟨tb, 0, none⟩ (.int .i64 1)).alloc (.cells #[.int .i64 1, .iface 275 (.pointer (some ⟨b, 0, none⟩))] 284) := by
  have hne : tb ≠ w.heap.size := by omega
  go_enter Tryz.func160, Tryz.ntmps160
  go_wp2
  go_ret
  exact ⟨rfl, rfl⟩

set_option maxRecDepth 100000 in
set_option maxHeartbeats 4000000 in
theorem find_num (tb nb : Nat) (w : World) (h0 : w.cell? ⟨tb, 0, none⟩ = some (.int .i64 0)) (f0 : w.frozen? ⟨tb, 0, none⟩ = false) (hl : tb < w.heap.size) :
    Calls Tryz.prog 120 #[.pointer (some ⟨tb, 0, none⟩), .iface 175 (.pointer (some ⟨nb, 0, none⟩))] w fun e w' => ∃ c b, e = .returned (.pointer (some ⟨c, 0, none⟩)) ∧ w.heap.size ≤ c ∧ w'.heap[c]? = some (.cells #[.int .i64 1, .iface 275 (.pointer (some ⟨b, 0, none⟩))] 284 (0, 0)) ∧ w'.heap[b]? = some (.cells #[.string (B [105, 110, 116])] 277 (0, 0)) ∧ w.grownBy w' (some tb) := by
  have a1 := nA_Name nb
  have a2 := nA_Fun nb
  have a3 := nA_If nb
  have a4 := nA_Let nb
  have a5 := nA_LetRec nb
  have a6 := nA_Apply nb
  have a7 := nA_Pair nb
  have HO := hid (of_new tb w.heap.size (w.alloc (.cells #[.string (B [105, 110, 116])] 277)) (cell_past h0 _) (by rw [World.frozen?_alloc_past _ _ _ hl]; exact f0) (by simp; omega))
  go_enter Tryz.func120, Tryz.ntmps120
  go_wp2_with fail
  refine HO.out.mono ?_
  rintro e w' ⟨rfl, rfl⟩
  go_wp2
  go_ret
  refine ⟨_, w.heap.size, rfl, by simp, ?_, ?_, ?_⟩
  · have e : ((w.setCell ⟨tb, 0, none⟩ (.int .i64 1)).alloc (.cells #[.string (B [105, 110, 116])] 277)).heap.size = w.heap.size + 1 := by simp [World.setCell]
    rw [← e]
    exact heap_alloc_new _ _
  · have e : (w.setCell ⟨tb, 0, none⟩ (.int .i64 1)).heap.size = w.heap.size := by simp [World.setCell]
    rw [Below.heap_alloc _ _ _ (by simp [World.setCell]), ← e]
    exact heap_alloc_new _ _
  · exact (((Kept.refl tb w).setCell 0 _).alloc _).alloc _

set_option maxRecDepth 100000 in
set_option maxHeartbeats 4000000 in
theorem last_b (c b : Nat) (w : World) (h : w.heap[c]? = some (.cells #[.int .i64 1, .iface 275 (.pointer (some ⟨b, 0, none⟩))] 284 (0, 0))) :
    Calls Tryz.prog 129 #[.pointer (some ⟨c, 0, none⟩)] w fun e w' => e = .returned (.pointer (some ⟨c, 0, none⟩)) ∧ w' = w := by
  have c0 : w.cell? ⟨c, 0, none⟩ = some (.int .i64 1) := by simp [World.cell?, h]
  have c1 : w.cell? ⟨c, 1, none⟩ = some (.iface 275 (.pointer (some ⟨b, 0, none⟩))) := by simp [World.cell?, h]
  have hn := num_not
  clear h
  go_enter Tryz.func129, Tryz.ntmps129
  go_wp2
  go_ret
  exact ⟨rfl, rfl⟩
theorem nbelow_bas (b : Nat) (w : World) : Calls Tryz.prog 256 #[.pointer (some ⟨b, 0, none⟩)] w fun e w' => e = .returned (.slice none 0 0) ∧ w' = w := by
  go_enter Tryz.func256, Tryz.ntmps256
  go_wp2
  go_ret
  exact ⟨rfl, rfl⟩

set_option maxRecDepth 100000 in
set_option maxHeartbeats 4000000 in
theorem below_b (c b : Nat) (w : World) (h : w.heap[c]? = some (.cells #[.int .i64 1, .iface 275 (.pointer (some ⟨b, 0, none⟩))] 284 (0, 0))) :
    Calls Tryz.prog 150 #[.pointer (some ⟨c, 0, none⟩)] w fun e w' => e = .returned (.slice none 0 0) ∧ w' = w := by
  have HL := hid (last_b c b w h)
  have c1 : w.cell? ⟨c, 1, none⟩ = some (.iface 275 (.pointer (some ⟨b, 0, none⟩))) := by simp [World.cell?, h]
  have hm := nB_Basic b
  clear h
  go_enter Tryz.func150, Tryz.ntmps150
  go_wp2_with fail
  refine HL.out.mono ?_
  rintro e w' ⟨rfl, rfl⟩
  go_wp2_with fail
  refine (nbelow_bas b _).mono ?_
  rintro e w' ⟨rfl, rfl⟩
  go_wp2
  go_ret
  exact ⟨rfl, rfl⟩

set_option maxRecDepth 100000 in
set_option maxHeartbeats 4000000 in
theorem room_b (c b : Nat) (w : World) (h : w.heap[c]? = some (.cells #[.int .i64 1, .iface 275 (.pointer (some ⟨b, 0, none⟩))] 284 (0, 0))) :
    Calls Tryz.prog 86 #[.iface 173 (.pointer (some ⟨c, 0, none⟩)), .int .i64 120] w fun e w' => e = .returned (.int .i64 119) ∧ w' = w := by
  have HL := hid (below_b c b w h)
  have hm := nB_Cell c
  clear h
  go_enter Tryz.func86, Tryz.ntmps86
  go_wp2_with fail
  refine HL.out.mono ?_
  rintro e w' ⟨rfl, rfl⟩
  go_wp2_with fail
  refine wp_loop_rounds 1 ?_
  rw [rounds_succ]
  go_wp2
  go_ret
  exact ⟨rfl, rfl⟩

set_option maxRecDepth 100000 in
set_option maxHeartbeats 4000000 in
theorem big_b (c b : Nat) (w : World) (h : w.heap[c]? = some (.cells #[.int .i64 1, .iface 275 (.pointer (some ⟨b, 0, none⟩))] 284 (0, 0))) :
    Calls Tryz.prog 53 #[.iface 173 (.pointer (some ⟨c, 0, none⟩))] w fun e w' => e = .returned (.bool false) ∧ w' = w := by
  have HL := hid (room_b c b w h)
  clear h
  go_enter Tryz.func53, Tryz.ntmps53
  go_wp2_with fail
  refine HL.out.mono ?_
  rintro e w' ⟨rfl, rfl⟩
  go_wp2
  go_ret
  exact ⟨rfl, rfl⟩

set_option maxRecDepth 100000 in
set_option maxHeartbeats 4000000 in
theorem part_num (tb nb : Nat) (w : World) (h0 : w.cell? ⟨tb, 0, none⟩ = some (.int .i64 0)) (f0 : w.frozen? ⟨tb, 0, none⟩ = false) (hl : tb < w.heap.size) :
    Calls Tryz.prog 75 #[.pointer (some ⟨tb, 0, none⟩), .iface 175 (.pointer (some ⟨nb, 0, none⟩))] w fun e w' => ∃ c b, e = .returned (.pointer (some ⟨c, 0, none⟩)) ∧ w.heap.size ≤ c ∧ w'.heap[c]? = some (.cells #[.int .i64 1, .iface 275 (.pointer (some ⟨b, 0, none⟩))] 284 (0, 0)) ∧ w'.heap[b]? = some (.cells #[.string (B [105, 110, 116])] 277 (0, 0)) ∧ w.grownBy w' (some tb) := by
  have HF := hid (find_num tb nb w h0 f0 hl)
  clear h0 f0
  go_enter Tryz.func75, Tryz.ntmps75
  go_wp2_with fail
  refine HF.out.mono ?_
  rintro e w' ⟨c, b, rfl, hc, h1, h2, h3⟩
  have H1 := hid (And.intro hc (And.intro h1 (And.intro h2 h3)))
  clear hc h1 h2 h3 HF
  go_wp2_with fail
  refine (big_b c b _ H1.out.2.1).mono ?_
  rintro e w'' ⟨rfl, rfl⟩
  go_wp2
  go_ret
  exact ⟨c, b, rfl, H1.out⟩

set_option maxRecDepth 100000 in
set_option maxHeartbeats 4000000 in
theorem like_b (b : Nat) (v : Value) (w : World) : Calls Tryz.prog 151 #[.iface 275 (.pointer (some ⟨b, 0, none⟩)), v] w fun e w' => e = .returned (.iface 275 (.pointer (some ⟨b, 0, none⟩))) ∧ w' = w := by
  have a1 := nL_List b
  have a2 := nL_Pair b
  have a3 := nL_Arrow b
  go_enter Tryz.func151, Tryz.ntmps151
  go_wp2
  go_ret
  exact ⟨rfl, rfl⟩

set_option maxRecDepth 100000 in
set_option maxHeartbeats 4000000 in
theorem general_b (c b : Nat) (w : World) (h : w.heap[c]? = some (.cells #[.int .i64 1, .iface 275 (.pointer (some ⟨b, 0, none⟩))] 284 (0, 0))) :
    Calls Tryz.prog 119 #[.iface 173 (.pointer (some ⟨c, 0, none⟩)), .map none] w fun e w' => e = .returned (.iface 275 (.pointer (some ⟨b, 0, none⟩))) ∧ w.grownBy w' none := by
  have HL := hid (last_b c b w h)
  have hcl := lt_of_block h
  have h2 : (w.alloc (.cells #[] 306)).heap[c]? = some (.cells #[.int .i64 1, .iface 275 (.pointer (some ⟨b, 0, none⟩))] 284 (0, 0)) := by rw [Below.heap_alloc _ _ _ hcl]; exact h
  have HB := hid (below_b c b _ h2)
  have c0 : w.cell? ⟨c, 0, none⟩ = some (.int .i64 1) := by simp [World.cell?, h]
  have c1 : (w.alloc (.cells #[] 306)).cell? ⟨c, 1, none⟩ = some (.iface 275 (.pointer (some ⟨b, 0, none⟩))) := by simp [World.cell?, h2]
  have hn := nL_Cell c
  have lk := lk_none 1
  clear h h2
  go_enter Tryz.func119, Tryz.ntmps119
  go_wp2_with fail
  refine HL.out.mono ?_
  rintro e w' ⟨rfl, rfl⟩
  go_wp2_with fail
  refine HB.out.mono ?_
  rintro e w2 ⟨rfl, rfl⟩
  go_wp2_with fail
  refine wp_loop_rounds 1 ?_
  rw [rounds_succ]
  go_wp2_with fail
  refine (like_b b _ _).mono ?_
  rintro e w2 ⟨rfl, rfl⟩
  go_wp2
  go_ret
  exact ⟨rfl, World.grownBy_alloc _ _ _⟩

set_option maxRecDepth 100000 in
set_option maxHeartbeats 4000000 in
theorem General_b (c b : Nat) (w : World) (h : w.heap[c]? = some (.cells #[.int .i64 1, .iface 275 (.pointer (some ⟨b, 0, none⟩))] 284 (0, 0))) :
    Calls Tryz.prog 74 #[.pointer (some ⟨c, 0, none⟩), .map none] w fun e w' => e = .returned (.agg #[.iface 275 (.pointer (some ⟨b, 0, none⟩))]) ∧ w.grownBy w' none := by
  have HG := hid (general_b c b (w.alloc (.cells #[.nilIface] 109)) (by rw [Below.heap_alloc _ _ _ (lt_of_block h)]; exact h))
  clear h
  go_enter Tryz.func74, Tryz.ntmps74
  go_wp2_with fail
  refine HG.out.mono ?_
  rintro e w' ⟨rfl, g⟩
  have n0 : w'.heap[w.heap.size]? = some (.cells #[.nilIface] 109 (0, 0)) := by rw [g.block _ (by simp) (by simp)]; exact heap_alloc_new _ _
  have c0 : w'.cell? ⟨w.heap.size, 0, none⟩ = some .nilIface := by simp [World.cell?, n0]
  have f0 : w'.frozen? ⟨w.heap.size, 0, none⟩ = false := by simp [World.frozen?, n0]
  have c1 : (w'.setCell ⟨w.heap.size, 0, none⟩ (.iface 275 (.pointer (some ⟨b, 0, none⟩)))).cell? ⟨w.heap.size, 0, none⟩ = some (.iface 275 (.pointer (some ⟨b, 0, none⟩))) := blk_c (put_c n0 _) 0 rfl
  have G := hid g
  clear g n0
  go_wp2
  refine bodyPost_ret (v := .agg #[.iface 275 (.pointer (some ⟨b, 0, none⟩))]) (by simp [results, Tryz.results74, go_sem, c1]) rfl ?_
  exact ⟨rfl, grown_set G.out _⟩

theorem idle_of (q : Addr) (w : World) :
    CallsD Tryz.prog 73 #[.pointer (some q)] .returning w fun e u' w' => e = .returned (.tuple #[]) ∧ u' = .returning ∧ w' = w := by
  refine callsD_of_wpS Tryz.func73 rfl fun c₀ cs hu => ?_
  apply wpS_seq
  apply wpS_region
  simp [wpOpsS, go_sem, recoverD, hu, Tryz.ntmps73, Exit.thenS]
  refine wpS_of_wp ?_
  go_wp2
  cases c₀
  simp_all [bodyPostS, results, Tryz.results73]

set_option maxRecDepth 100000 in
set_option maxHeartbeats 4000000 in
theorem of_num (nb mb : Nat) (fuel : Int) (w : World) :
    Calls Tryz.prog 47 #[.iface 175 (.pointer (some ⟨nb, 0, none⟩)), .map (some mb), .agg #[.int .i64 fuel, .nilFunc]] w fun e w' => w.grownBy w' none ∧ ∃ b, e = .returned (.tuple #[.agg #[.iface 275 (.pointer (some ⟨b, 0, none⟩))], .nilIface]) ∧ w'.heap[b]? = some (.cells #[.string (B [105, 110, 116])] 277 (0, 0)) := by
  have hmf : ∀ (fn : Fn) (first cap : Array Value) (w : World), (Instr.makeFunc fn first cap).run Tryz.prog w = .ok (.func fn first cap) w := fun _ _ _ _ => rfl
  go_enter_defers Tryz.func47, Tryz.ntmps47
  go_wp2_with fail
  generalize hW : (((w.alloc (.cells #[.int .i64 fuel, .nilFunc] 113)).alloc (.cells #[.nilIface] 109)).alloc (.cells #[.nilIface] 56)) = W3
  have s3 : W3.heap.size = w.heap.size + 1 + 1 + 1 := by rw [← hW]; simp
  have g3 : w.grownBy W3 none := by rw [← hW]; exact (World.grownBy_alloc _ _ _).trans ((World.grownBy_alloc _ _ _).trans (World.grownBy_alloc _ _ _))
  have n1 : W3.heap[w.heap.size + 1]? = some (.cells #[.nilIface] 109 (0, 0)) := by
    rw [← hW, Below.heap_alloc _ _ _ (by simp)]
    exact heap_alloc_at _ _ _ (by simp)
  have n2 : W3.heap[w.heap.size + 1 + 1]? = some (.cells #[.nilIface] 56 (0, 0)) := by
    rw [← hW]
    exact heap_alloc_at _ _ _ (by simp)
  clear hW
  rw [← s3]
  have o0 : (W3.alloc (.cells #[.int .i64 0, .int .i64 fuel, .nilFunc, .map (some mb), .slice none 0 0] 171)).heap[W3.heap.size]? = some (.cells #[.int .i64 0, .int .i64 fuel, .nilFunc, .map (some mb), .slice none 0 0] 171 (0, 0)) := heap_alloc_new _ _
  have HP := hid (part_num W3.heap.size nb (W3.alloc (.cells #[.int .i64 0, .int .i64 fuel, .nilFunc, .map (some mb), .slice none 0 0] 171)) (blk_c o0 0 rfl) (blk_f o0 0) (by simp))
  refine HP.out.mono ?_
  rintro e w4 ⟨c, b, rfl, hc, h1, h2, h3⟩
  have g4 : w.grownBy w4 none := ⟨h3.os.trans g3.os, h3.tape.trans g3.tape, h3.output.trans g3.output, by have := h3.size; simp at this; omega, fun k hk _ => by
    rw [h3.block k (by simp; omega) (by simp; omega), Below.heap_alloc _ _ _ (by omega), g3.block k hk (by simp)]⟩
  have m1 : w4.heap[w.heap.size + 1]? = some (.cells #[.nilIface] 109 (0, 0)) := by
    rw [h3.block _ (by simp; omega) (by simp; omega), Below.heap_alloc _ _ _ (by omega)]; exact n1
  have m2 : w4.heap[w.heap.size + 1 + 1]? = some (.cells #[.nilIface] 56 (0, 0)) := by
    rw [h3.block _ (by simp; omega) (by simp; omega), Below.heap_alloc _ _ _ (by omega)]; exact n2
  have HG := hid (General_b c b w4 h1)
  have Q4 := hid (And.intro g4 (And.intro m1 (And.intro m2 h2)))
  clear hc h1 h2 h3 g4 m1 m2 HP o0 n1 n2 g3
  go_wp2_with fail
  refine HG.out.mono ?_
  rintro e w5 ⟨rfl, g5⟩
  have m1 : w5.heap[w.heap.size + 1]? = some (.cells #[.nilIface] 109 (0, 0)) := by
    rw [g5.block _ (lt_of_block Q4.out.2.1) (by simp)]; exact Q4.out.2.1
  have m2 : w5.heap[w.heap.size + 1 + 1]? = some (.cells #[.nilIface] 56 (0, 0)) := by
    rw [g5.block _ (lt_of_block Q4.out.2.2.1) (by simp)]; exact Q4.out.2.2.1
  have m3 : w5.heap[b]? = some (.cells #[.string (B [105, 110, 116])] 277 (0, 0)) := by
    rw [g5.block _ (lt_of_block Q4.out.2.2.2) (by simp)]; exact Q4.out.2.2.2
  have a0 : w5.cell? ⟨w.heap.size + 1, 0, none⟩ = some .nilIface := by simp [World.cell?, m1]
  have a1 : w5.cell? ⟨w.heap.size + 1 + 1, 0, none⟩ = some .nilIface := by simp [World.cell?, m2]
  have u0 : w5.frozen? ⟨w.heap.size + 1, 0, none⟩ = false := by simp [World.frozen?, m1]
  have u1 : w5.frozen? ⟨w.heap.size + 1 + 1, 0, none⟩ = false := by simp [World.frozen?, m2]
  have M := hid (And.intro (Q4.out.1.trans g5) (And.intro m1 (And.intro m2 m3)))
  clear g5 m1 m2 m3 HG Q4
  go_wp2
  refine leaves_cons (f := 73) (args := #[.pointer (some ⟨w.heap.size + 1 + 1, 0, none⟩)]) (by simp) (by simp [go_sem]) ?_
  refine (idle_of ⟨w.heap.size + 1 + 1, 0, none⟩ _).mono ?_
  rintro e u' w'' ⟨rfl, rfl, hw''⟩
  obtain ⟨g, m1, m2, m3⟩ := M.out
  have hb1 : b ≠ w.heap.size + 1 := fun e => by rw [e, m1] at m3; simp at m3
  have hb2 : b ≠ w.heap.size + 1 + 1 := fun e => by rw [e, m2] at m3; simp at m3
  have q1 : w''.heap[w.heap.size + 1]? = some (.cells #[.iface 275 (.pointer (some ⟨b, 0, none⟩))] 109 (0, 0)) := by
    rw [hw'', Below.heap_setCell _ _ _ _ (by show w.heap.size + 1 ≠ w.heap.size + 1 + 1; omega)]
    exact put_c m1 _
  have q2 : w''.heap[w.heap.size + 1 + 1]? = some (.cells #[.nilIface] 56 (0, 0)) := by
    rw [hw'']
    exact put_c (by rw [Below.heap_setCell _ _ _ _ (by show w.heap.size + 1 + 1 ≠ w.heap.size + 1; omega)]; exact m2) _
  have q3 : w''.heap[b]? = some (.cells #[.string (B [105, 110, 116])] 277 (0, 0)) := by
    rw [hw'', Below.heap_setCell _ _ _ _ (by exact hb2), Below.heap_setCell _ _ _ _ (by exact hb1)]
    exact m3
  have r1 := blk_c q1 0 rfl
  have r2 := blk_c q2 0 rfl
  refine ⟨.tuple #[.agg #[.iface 275 (.pointer (some ⟨b, 0, none⟩))], .nilIface], ?_, ?_, b, rfl, q3⟩
  · simp [results, Tryz.results47, go_sem, r1, r2]
  · rw [hw'']
    exact gset (gset g (by omega) 0 _) (by omega) 0 _
end Go.Proofs.YtcdijppegfcoaabGreatDoor

/-
  OUR OWN TEXT. infer.Infer of the texts that Refuses asks of.
-/
namespace Go.Proofs.YtcdijppegfcoaabGreatDoor
open Go.RowKit

set_option maxRecDepth 100000 in
set_option maxHeartbeats 4000000 in
theorem unbound_num (nb : Nat) (f : Value) (w : World) : Calls Tryz.prog 71 #[.iface 175 (.pointer (some ⟨nb, 0, none⟩)), f] w fun e w' => e = .returned (.pointer none) ∧ w' = w := by
  have a1 := nA_Name nb
  have a2 := nA_Fun nb
  have a3 := nA_If nb
  have a4 := nA_Let nb
  have a5 := nA_LetRec nb
  have a6 := nA_Apply nb
  have a7 := nA_Pair nb
  go_enter Tryz.func71, Tryz.ntmps71
  go_wp2
  go_ret
  exact ⟨rfl, rfl⟩
theorem ptr_nil (w : World) : (binOp .eql 157 (.pointer none) (.pointer none)).run Tryz.prog w = .ok (.bool true) w := by kernel_rfl
set_option maxRecDepth 100000 in
set_option maxHeartbeats 4000000 in
theorem allKnown_num (nb mb : Nat) (w : World) : Calls Tryz.prog 46 #[.iface 175 (.pointer (some ⟨nb, 0, none⟩)), .map (some mb)] w fun e w' => e = .returned .nilIface ∧ w.grownBy w' none := by
  have hmf : ∀ (fn : Fn) (first cap : Array Value) (w : World), (Instr.makeFunc fn first cap).run Tryz.prog w = .ok (.func fn first cap) w := fun _ _ _ _ => rfl
  have pn := ptr_nil
  go_enter Tryz.func46, Tryz.ntmps46
  go_wp2_with fail
  refine (unbound_num nb _ _).mono ?_
  rintro e w' ⟨rfl, rfl⟩
  go_wp2
  go_ret
  exact ⟨rfl, World.grownBy_alloc _ _ _⟩

theorem read_ok (s : List UInt8) (hs : s.length ≤ 300) (h : shK s (-1) = true) (w : World) (ad : Nat → Addr) (cs : Nat → Array Value) (ts : Nat → TypeId) (S : SW w ad cs ts) :
    Calls Tryz.prog 44 #[.string (B s)] w fun e w' => w.grownBy w' none ∧ ∃ b x s1, expS (toksOf exKw (B s)) ((B s).size + 2) ⟨0, -1⟩ = some (x, s1) ∧ e = .returned (.tuple #[.iface (pT x.op) (.pointer (some ⟨b, 0, none⟩)), .nilIface]) := by
  have hz : (B s).size = s.length := size_B s
  obtain ⟨x, s1, hx, hni⟩ := exp_have (B s) (by omega)
  unfold shK at h
  rw [← hz, hx] at h
  simp only at h
  rw [if_pos trivial] at h
  simp only [Bool.and_eq_true, decide_eq_true_eq] at h
  obtain ⟨⟨⟨a1, a2⟩, a3⟩, _⟩ := h
  refine (read_p (B s) (by omega) w _ x s1 hx (ad 1) S.g1 (Nat.lt_of_lt_of_le (by decide) S.hsz)).mono ?_
  rintro e w' ⟨g, (⟨hb, _⟩ | ⟨_, v, H', m, z1, r1, d1, hd⟩)⟩
  · omega
  · have e1 := (text_same (PRep.shape m v x r1) (shapeB_ok 60 x a2)).2
    rcases hd with ⟨hd, _⟩ | ⟨_, rfl⟩
    · omega
    · cases m with
      | zero => exact absurd r1 id
      | succ n =>
        obtain ⟨b, vs, rfl, _⟩ := r1
        exact ⟨g, b, x, s1, hx, rfl⟩

theorem int_text (b : Nat) (w : World) (h : w.heap[b]? = some (.cells #[.string (B [105, 110, 116])] 277 (0, 0))) :
    Calls Tryz.prog 36 #[.iface 275 (.pointer (some ⟨b, 0, none⟩))] w fun e w' => e = .returned (.string (B [105, 110, 116])) ∧ w.grownBy w' none := by
  have hz : Fz (fun k => if k = b then some (.cells #[.string (B [105, 110, 116])] 277 (0, 0)) else none) w := fun k o e => by
    by_cases hk : k = b
    · subst hk
      simp only [if_pos] at e
      rw [← e]
      exact h
    · simp only [if_neg hk] at e
      cases e
  exact oneText_q [] List.nodup_nil 1 _ _ ⟨kInt, 0, []⟩ w ⟨b, Or.inr (Or.inl ⟨Or.inl rfl, rfl, rfl, if_pos rfl⟩)⟩ hz (Or.inr (Or.inl ⟨Or.inl rfl, rfl, rfl⟩)) (by decide)
theorem infer_w (s : ByteArray) (mb : Nat) (fuel : Int) (w : World) (t : ByteArray) (P : Value → World → Prop)
    (h : Calls Tryz.prog 27 #[.string s, .map (some mb), .int .i64 fuel, .nilFunc] w fun e w' => w.grownBy w' none ∧ ∃ v, e = .returned (.tuple #[.string t, v]) ∧ P v w') :
    Calls Tryz.prog 30 #[.string s, .map (some mb), .int .i64 fuel] w fun e w' => w.grownBy w' none ∧ ∃ v, e = .returned (.tuple #[.string t, v]) ∧ P v w' := by
  have HW := hid h
  clear h
  go_enter Tryz.func30, Tryz.ntmps30
  go_wp2_with fail
  refine HW.out.mono ?_
  rintro e w1 ⟨g1, v, rfl, hv⟩
  have G1 := hid (And.intro g1 hv)
  clear g1 hv HW
  go_wp2
  go_ret2
  exact ⟨G1.out.1, v, rfl, G1.out.2⟩

set_option maxRecDepth 100000 in
set_option maxHeartbeats 4000000 in
theorem watch_long (s : ByteArray) (hs : 300 < s.size) (mb : Nat) (fuel : Int) (w : World) (ad : Nat → Addr) (cs : Nat → Array Value) (ts : Nat → TypeId) (S : SW w ad cs ts) :
    Calls Tryz.prog 27 #[.string s, .map (some mb), .int .i64 fuel, .nilFunc] w fun e w' => w.grownBy w' none ∧ ∃ v, e = .returned (.tuple #[.string (B []), v]) ∧ v = errV (ad 0) := by
  have HR := hid (read_plong s hs w (ad 0) S.g0 (Nat.lt_of_lt_of_le (by decide) S.hsz))
  clear S
  unfold errV at HR ⊢
  go_enter Tryz.func27, Tryz.ntmps27
  go_wp2_with fail
  refine HR.out.mono ?_
  rintro e w1 ⟨rfl, g1⟩
  have G1 := hid g1
  clear g1 HR
  go_wp2
  go_ret2
  exact ⟨G1.out, _, rfl, rfl⟩

set_option maxRecDepth 100000 in
set_option maxHeartbeats 4000000 in
theorem watch_arg (s : List UInt8) (hs : s.length ≤ 300) (h : shK s (-1) = true) (mb : Nat) (fuel : Int) (hf : fuel = 0 ∨ fuel = 13) (w : World) (ad : Nat → Addr) (cs : Nat → Array Value) (ts : Nat → TypeId) (S : SW w ad cs ts) :
    Calls Tryz.prog 27 #[.string (B s), .map (some mb), .int .i64 fuel, .nilFunc] w fun e w' => w.grownBy w' none ∧ ∃ v, e = .returned (.tuple #[.string (B []), v]) ∧ v = errV (ad 2) := by
  have HR := hid (read_ok s hs h w ad cs ts S)
  have HS := hid S
  clear S h
  unfold errV
  rcases hf with rfl | rfl
  all_goals
    go_enter Tryz.func27, Tryz.ntmps27
    go_wp2_with fail
    refine HR.out.mono ?_
    rintro e w1 ⟨g1, b, x, s1, _, rfl⟩
    have g2 := (HS.out.grown g1).g2
    have G1 := hid g1
    clear g1 HR HS
    unfold errV at g2
    generalize pT x.op = tx
    go_wp2_with fail
    go_region
    go_wp2
    go_ret2
    exact ⟨grown_drew G1.out, _, rfl, rfl⟩

set_option maxRecDepth 100000 in
set_option maxHeartbeats 4000000 in
theorem watch_bad (s : List UInt8) (hs : s.length ≤ 300) (h : shK s (-1) = true) (mb : Nat) (w : World) (ad : Nat → Addr) (cs : Nat → Array Value) (ts : Nat → TypeId) (S : SW w ad cs ts) (P : Nat → World → Prop) (hP : ∀ b w w', P b w → w.grownBy w' none → P b w')
    (HS : ∀ W, w.grownBy W none → Calls Tryz.prog 45 #[.map (some mb)] W fun e w' => W.grownBy w' none ∧ ∃ b, e = .returned (.tuple #[.map none, .iface 83 (.pointer (some ⟨b, 0, none⟩))]) ∧ P b w') :
    Calls Tryz.prog 27 #[.string (B s), .map (some mb), .int .i64 1, .nilFunc] w fun e w' => w.grownBy w' none ∧ ∃ v, e = .returned (.tuple #[.string (B []), v]) ∧ ∃ b, v = .iface 83 (.pointer (some ⟨b, 0, none⟩)) ∧ P b w' := by
  have HR := hid (read_ok s hs h w ad cs ts S)
  have HS := hid HS
  have HP := hid hP
  clear S h hP
  go_enter Tryz.func27, Tryz.ntmps27
  go_wp2_with fail
  refine HR.out.mono ?_
  rintro e w1 ⟨g1, b, x, s1, _, rfl⟩
  have G1 := hid g1
  clear g1 HR
  generalize pT x.op = tx
  go_wp2_with fail
  refine (HS.out _ G1.out).mono ?_
  rintro e w2 ⟨g2, b2, rfl, hp⟩
  have G2 := hid (And.intro (G1.out.trans g2) hp)
  clear g2 hp HS
  go_wp2
  go_ret2
  exact ⟨G2.out.1, _, rfl, b2, rfl, G2.out.2⟩

set_option maxRecDepth 100000 in
set_option maxHeartbeats 4000000 in
theorem watch_num (s : List UInt8) (hs : s.length ≤ 300) (h : shK s (-1) = true) (hk : ∀ x s1, expS (toksOf exKw (B s)) ((B s).size + 2) ⟨0, -1⟩ = some (x, s1) → x.op = kNum) (mb : Nat) (w : World) (ad : Nat → Addr) (cs : Nat → Array Value) (ts : Nat → TypeId) (S : SW w ad cs ts)
    (HS : ∀ W, w.grownBy W none → Calls Tryz.prog 45 #[.map (some mb)] W fun e w' => W.grownBy w' none ∧ ∃ b, e = .returned (.tuple #[.map (some b), .nilIface])) :
    Calls Tryz.prog 27 #[.string (B s), .map (some mb), .int .i64 12, .nilFunc] w fun e w' => w.grownBy w' none ∧ ∃ v, e = .returned (.tuple #[.string (B [105, 110, 116]), v]) ∧ v = .nilIface := by
  have HR := hid (read_ok s hs h w ad cs ts S)
  have HS := hid HS
  have HK := hid hk
  clear S h hk
  go_enter Tryz.func27, Tryz.ntmps27
  go_wp2_with fail
  refine HR.out.mono ?_
  rintro e w1 ⟨g1, b, x, s1, hx, rfl⟩
  have e1 := HK.out x s1 hx
  have G1 := hid g1
  clear g1 HR HK hx
  rw [e1, show pT kNum = 175 from rfl]
  go_wp2_with fail
  refine (HS.out _ G1.out).mono ?_
  rintro e w2 ⟨g2, b2, rfl⟩
  have G2 := hid (G1.out.trans g2)
  clear g2 HS G1
  go_wp2_with fail
  refine (allKnown_num b b2 _).mono ?_
  rintro e w3 ⟨rfl, g3⟩
  have G3 := hid (G2.out.trans g3)
  clear g3 G2
  go_wp2_with fail
  refine (of_num b b2 12 _).mono ?_
  rintro e w4 ⟨g4, b4, rfl, hb4⟩
  have G4 := hid (G3.out.trans g4)
  have HT := hid (int_text b4 (w4.alloc (.cells #[.iface 275 (.pointer (some ⟨b4, 0, none⟩))] 109)) (by rw [Below.heap_alloc _ _ _ (lt_of_block hb4)]; exact hb4))
  clear g4 hb4 G3
  go_wp2_with fail
  refine HT.out.mono ?_
  rintro e w5 ⟨rfl, g5⟩
  have G5 := hid (G4.out.trans ((World.grownBy_alloc _ _ _).trans g5))
  clear g5 HT G4
  go_wp2
  go_ret2
  exact ⟨G5.out, _, rfl, rfl⟩
end Go.Proofs.YtcdijppegfcoaabGreatDoor

/-
  OUR OWN TEXT. expr.IsName; infer.schemes.
-/
namespace Go.Proofs.YtcdijppegfcoaabGreatDoor
open Go.RowKit

theorem FM.len {w : World} {mb : Nat} {ns : List (List UInt8)} {g : List (Option (List UInt8))} (h : FM w mb ns g) : (Builtin.len_ #[60] 3 #[.map (some mb)]).run Tryz.prog w = .ok (.int .i64 ((g.filter Option.isSome).length : Nat)) w := by
  obtain ⟨D, h1, h2, _⟩ := h
  rw [← h2]
  exact h1.len (t := 60) Tryz.underlying60 _
theorem mk_map0 (w : World) : (Instr.makeMap 104 (some (.int .i64 0))).run Tryz.prog w = .ok (.map (some w.heap.size)) (w.alloc (.map #[] 0)) := by kernel_rfl
theorem mk_map1 (w : World) : (Instr.makeMap 104 (some (.int .i64 1))).run Tryz.prog w = .ok (.map (some w.heap.size)) (w.alloc (.map #[] 0)) := by kernel_rfl
theorem mk_map2 (w : World) : (Instr.makeMap 104 (some (.int .i64 2))).run Tryz.prog w = .ok (.map (some w.heap.size)) (w.alloc (.map #[] 0)) := by kernel_rfl
theorem mk_map3 (w : World) : (Instr.makeMap 104 (some (.int .i64 3))).run Tryz.prog w = .ok (.map (some w.heap.size)) (w.alloc (.map #[] 0)) := by kernel_rfl
theorem mk_map (n : Nat) (h : n ≤ 3) (w : World) : (Instr.makeMap 104 (some (.int .i64 (n : Nat)))).run Tryz.prog w = .ok (.map (some w.heap.size)) (w.alloc (.map #[] 0)) := by
  match n, h with
  | 0, _ => exact mk_map0 w
  | 1, _ => exact mk_map1 w
  | 2, _ => exact mk_map2 w
  | 3, _ => exact mk_map3 w
  | n + 4, h => exact absurd h (by omega)
set_option maxRecDepth 100000 in
set_option maxHeartbeats 4000000 in
theorem isNameK (k : List UInt8) (hk : k.length ≤ 300) (h0 : upto isB k 0 = 0) (h2 : nxK k 0 = 2) (ht : nxT k 0 = k) (w : World) :
    Calls Tryz.prog 70 #[.string (B k)] w fun e w' => e = .returned (.bool (!decide (k ∈ exKw))) ∧ w.grownBy w' none := by
  have HN := hid (next_any (B k) 0 (Nat.zero_le _) (by rw [size_B]; omega) w)
  have hB : (B k).data.toList = k := rfl
  rw [hB, h0, h2, ht] at HN
  clear h0 h2 ht hB
  unfold tokV at HN
  cases hd : decide (k ∈ exKw) with
  | false =>
    have HK := hid (isKeyword_p k)
    rw [hd] at HK
    clear hd
    go_enter Tryz.func70, Tryz.ntmps70
    go_wp2_with fail
    refine HN.out.mono ?_
    rintro e w1 ⟨rfl, g1⟩
    have G1 := hid g1
    clear g1 HN
    go_wp2_with fail
    refine (HK.out _).mono ?_
    rintro e w' ⟨rfl, rfl⟩
    go_wp2
    go_ret
    exact ⟨rfl, G1.out.trans (World.grownBy_alloc _ _ _)⟩
  | true =>
    have HK := hid (isKeyword_p k)
    rw [hd] at HK
    clear hd
    go_enter Tryz.func70, Tryz.ntmps70
    go_wp2_with fail
    refine HN.out.mono ?_
    rintro e w1 ⟨rfl, g1⟩
    have G1 := hid g1
    clear g1 HN
    go_wp2_with fail
    refine (HK.out _).mono ?_
    rintro e w' ⟨rfl, rfl⟩
    go_wp2
    go_ret
    exact ⟨rfl, G1.out.trans (World.grownBy_alloc _ _ _)⟩

set_option maxRecDepth 100000 in
set_option maxHeartbeats 4000000 in
theorem schemes_nil (w : World) (mb : Nat) (F : FM w mb [] []) :
    Calls Tryz.prog 45 #[.map (some mb)] w fun e w' => w.grownBy w' none ∧ ∃ b, e = .returned (.tuple #[.map (some b), .nilIface]) := by
  have hlen := FM.len F
  have hmk := mk_map0 w
  have CS := hid (sorted_some (w.alloc (.map #[] 0)) mb [] [] (F.kept (World.grownBy_alloc _ _ none) (by simp)) List.nodup_nil (fun v hv => absurd hv (by simp)) (by simp))
  rw [show (w.alloc (.map #[] 0)).heap.size = w.heap.size + 1 by simp] at CS
  have hml := F.lt
  have hKl : (sortS []).length = 0 := by unfold sortS; rw [List.length_mergeSort]; rfl
  obtain ⟨K, hK⟩ : ∃ K, K = sortS [] := ⟨_, rfl⟩
  rw [← hK] at hKl CS
  clear hK F
  go_enter Tryz.func45, Tryz.ntmps45
  go_wp2_with fail
  refine (keys_c (some mb) _).mono ?_
  rintro e w2 ⟨rfl, rfl⟩
  go_wp2_with fail
  refine CS.out.mono ?_
  rintro e w3 ⟨vs, rfl, hrow, g3⟩
  obtain ⟨ao, cp, rfl, _⟩ := own_view hrow
  have G3 := hid (((World.grownBy_alloc w (.map #[] 0) none).trans (World.grownBy_alloc _ _ none)).trans g3)
  clear g3 CS hrow
  rw [hKl]
  go_wp2_with fail
  refine wp_loop_rounds 1 ?_
  rw [rounds_succ]
  go_wp2
  go_ret2
  exact ⟨G3.out, _, rfl⟩

/-- What schemes leaves where the first name can have none. -/
def SBad (w w' : World) (e : Ending) (k : List UInt8) (why : Value) : Prop :=
  w.grownBy w' none ∧ ∃ b, e = .returned (.tuple #[.map none, .iface 83 (.pointer (some ⟨b, 0, none⟩))]) ∧ w'.heap[b]? = some (.cells #[.string (B k), why] 87 (0, 0))

set_option maxRecDepth 100000 in
set_option maxHeartbeats 4000000 in
theorem schemes_bad0 (na : List (List UInt8)) (g : List (Option (List UInt8))) (w : World) (mb : Nat) (F : FM w mb na g) (hd : na.Nodup) (hall : ∀ v, v < na.length → (g.getD v none).isSome = true) (hgl : g.length = na.length) (hL : na.length ≤ 1000) (k : List UInt8) (hk : (sortS na).getD 0 [] = k) (hne : 0 < na.length) (hk300 : k.length ≤ 300) (hf3 : (g.filter Option.isSome).length ≤ 3)
    (IN : ∀ W, Calls Tryz.prog 70 #[.string (B k)] W fun e w' => e = .returned (.bool false) ∧ W.grownBy w' none) :
    Calls Tryz.prog 45 #[.map (some mb)] w fun e w' => SBad w w' e k .nilIface := by
  have hlen := FM.len F
  have hmk := mk_map _ hf3 w
  generalize (g.filter Option.isSome).length = nl at hlen hmk
  have CS := hid (sorted_some (w.alloc (.map #[] 0)) mb na g (F.kept (World.grownBy_alloc _ _ none) (by simp)) hd hall (by omega))
  rw [show (w.alloc (.map #[] 0)).heap.size = w.heap.size + 1 by simp] at CS
  have hml := F.lt
  have hKl : (sortS na).length = na.length := by unfold sortS; rw [List.length_mergeSort]
  have HI := hid IN
  have hszn : (B k).size ≤ 281474976710656 := by rw [size_B]; omega
  clear F IN hd hall
  obtain ⟨K, hK⟩ : ∃ K, K = sortS na := ⟨_, rfl⟩
  rw [← hK] at hKl hk CS
  clear hK
  go_enter Tryz.func45, Tryz.ntmps45
  go_wp2_with fail
  refine (keys_c (some mb) _).mono ?_
  rintro e w2 ⟨rfl, rfl⟩
  go_wp2_with fail
  refine CS.out.mono ?_
  rintro e w3 ⟨vs, rfl, hrow, g3⟩
  obtain ⟨ao, cp, rfl, hview⟩ := own_view hrow
  obtain ⟨gn, rfl, _, hgn, hcell0⟩ := hview 0 (by omega)
  rw [hk] at hcell0
  have G3 := hid (((World.grownBy_alloc w (.map #[] 0) none).trans (World.grownBy_alloc _ _ none)).trans g3)
  have hK0 : (0 : Int) < ((K.length : Nat) : Int) := by omega
  clear g3 CS hrow hview
  go_wp2_with fail
  refine wp_loop_rounds 1 ?_
  rw [rounds_succ]
  go_wp2_with fail
  refine (HI.out _).mono ?_
  rintro e w4 ⟨rfl, g4⟩
  have G4 := hid (G3.out.trans g4)
  clear g4 G3
  go_wp2_with fail
  refine (clone_q _ _ hszn).mono ?_
  rintro e w5 ⟨rfl, g5⟩
  have G5 := hid (G4.out.trans g5)
  clear g5 G4
  go_wp2
  go_ret2
  exact ⟨G5.out.trans (World.grownBy_alloc _ _ _), _, rfl, heap_alloc_new _ _⟩

set_option maxRecDepth 100000 in
set_option maxHeartbeats 4000000 in
theorem schemes_bad1 (na : List (List UInt8)) (g : List (Option (List UInt8))) (w : World) (mb : Nat) (F : FM w mb na g) (hd : na.Nodup) (hall : ∀ v, v < na.length → (g.getD v none).isSome = true) (hgl : g.length = na.length) (hL : na.length ≤ 1000) (k : List UInt8) (hk : (sortS na).getD 0 [] = k) (hne : 0 < na.length) (hk300 : k.length ≤ 300) (hf3 : (g.filter Option.isSome).length ≤ 3)
    (IN : ∀ W, Calls Tryz.prog 70 #[.string (B k)] W fun e w' => e = .returned (.bool true) ∧ W.grownBy w' none) (i : Nat) (hi : i < na.length) (hik : na.getD i [] = k) (t : List UInt8) (hit : g.getD i none = some t) (a b : Int) (hr : RdF (B t) a b) (ad : Nat → Addr) (cs : Nat → Array Value) (ts : Nat → TypeId) (S : SW w ad cs ts) :
    Calls Tryz.prog 45 #[.map (some mb)] w fun e w' => w.grownBy w' none ∧ ∃ p v, e = .returned (.tuple #[.map none, .iface 83 (.pointer (some ⟨p, 0, none⟩))]) ∧ w'.heap[p]? = some (.cells #[.string (B k), v] 87 (0, 0)) ∧ ErrV w' ad v a b := by
  have hlen := FM.len F
  have hmk := mk_map _ hf3 w
  generalize (g.filter Option.isSome).length = nl at hlen hmk
  have CS := hid (sorted_some (w.alloc (.map #[] 0)) mb na g (F.kept (World.grownBy_alloc _ _ none) (by simp)) hd hall (by omega))
  rw [show (w.alloc (.map #[] 0)).heap.size = w.heap.size + 1 by simp] at CS
  have hml := F.lt
  have hKl : (sortS na).length = na.length := by unfold sortS; rw [List.length_mergeSort]
  have HI := hid IN
  have hszn : (B k).size ≤ 281474976710656 := by rw [size_B]; omega
  have LK := hid (show ∀ W : World, w.grownBy W none → (Instr.lookup 60 (.map (some mb)) (.string (B k)) false).run Tryz.prog W = .ok (.agg #[.string (B t)]) W from fun W gW => by
    have := (F.kept gW (by simp)).look1 hi (by rw [hik]; exact hk300) hit
    rw [hik] at this
    exact this)
  have RD := hid (fun (W : World) (gW : w.grownBy W none) => read_f (B t) a b W ad cs ts (S.grown gW) hr)
  clear F IN hd hall hi hik hit S hr
  obtain ⟨K, hK⟩ : ∃ K, K = sortS na := ⟨_, rfl⟩
  rw [← hK] at hKl hk CS
  clear hK
  go_enter Tryz.func45, Tryz.ntmps45
  go_wp2_with fail
  refine (keys_c (some mb) _).mono ?_
  rintro e w2 ⟨rfl, rfl⟩
  go_wp2_with fail
  refine CS.out.mono ?_
  rintro e w3 ⟨vs, rfl, hrow, g3⟩
  obtain ⟨ao, cp, rfl, hview⟩ := own_view hrow
  obtain ⟨gn, rfl, _, hgn, hcell0⟩ := hview 0 (by omega)
  rw [hk] at hcell0
  have G3 := hid (((World.grownBy_alloc w (.map #[] 0) none).trans (World.grownBy_alloc _ _ none)).trans g3)
  have hK0 : (0 : Int) < ((K.length : Nat) : Int) := by omega
  clear g3 CS hrow hview
  go_wp2_with fail
  refine wp_loop_rounds 1 ?_
  rw [rounds_succ]
  go_wp2_with fail
  refine (HI.out _).mono ?_
  rintro e w4 ⟨rfl, g4⟩
  have G4 := hid (G3.out.trans g4)
  have lk := LK.out _ G4.out
  have tf := typed_field (B t)
  clear g4 G3 LK
  go_wp2_with fail
  refine (RD.out _ G4.out).mono ?_
  rintro e w5 ⟨g5, v, rfl, hv⟩
  obtain ⟨vt, vp, rfl⟩ := hv.val
  have G5 := hid (And.intro (G4.out.trans g5) hv)
  clear g5 hv G4 RD lk
  go_wp2_with fail
  refine (clone_q _ _ hszn).mono ?_
  rintro e w6 ⟨rfl, g6⟩
  have G6 := hid (And.intro (G5.out.1.trans g6) (G5.out.2.grown g6))
  clear g6 G5
  go_wp2
  go_ret2
  exact ⟨G6.out.1.trans (World.grownBy_alloc _ _ _), _, _, rfl, heap_alloc_new _ _, G6.out.2.grown (World.grownBy_alloc _ _ _)⟩
end Go.Proofs.YtcdijppegfcoaabGreatDoor

/-
  OUR OWN TEXT. plain.fault of an *EnvError that has an inner one.
-/
namespace Go.Proofs.YtcdijppegfcoaabGreatDoor
open Go.RowKit Go.Extern.Stop Go.Stop Go.Extern

theorem put2 {w : World} {b : Nat} {v0 v1 v2 v3 v4 : Value} {t : TypeId} (h : w.heap[b]? = some (.cells #[v0, v1, v2, v3, v4] t (0, 0))) (x y : Value) : ((w.setCell ⟨b, 3, none⟩ x).setCell ⟨b, 4, none⟩ y).heap[b]? = some (.cells #[v0, v1, v2, x, y] t (0, 0)) := by simp [World.setCell, Array.getElem?_modify, h]
set_option maxRecDepth 100000 in
set_option maxHeartbeats 16000000 in
theorem fault_env1 (w : World) (ad : Nat → Addr) (cs : Nat → Array Value) (ts : Nat → TypeId) (S : SW w ad cs ts) (b : Nat) (nm : ByteArray) (v : Value) (x y : Int) (hb : w.heap[b]? = some (.cells #[.string nm, v] 87 (0, 0))) (hv : ErrV w ad v x y) :
    Calls Tryz.prog 22 #[.iface 83 (.pointer (some ⟨b, 0, none⟩))] w fun e w' => e = .returned (fe nm x y) ∧ Gn w w' := by
  obtain ⟨n0, n1, n2, n3⟩ := faultW_blocks w
  have hbl := lt_of_block hb
  have S4 := hid (S.grown (faultW_grown w))
  have A1 := hid (as_env_env (w.heap.size + 3) ⟨b, 0, none⟩ (.pointer none) (faultW w) (one_c n3).1 (one_c n3).2 (lt_of_block n3) S4.out.hE (Nat.lt_of_lt_of_le (by decide) S4.out.hsz))
  have B4 := hid n0
  have HB := hid hb
  have SH := hid S
  have HV := hid hv
  obtain ⟨vt, vp, rfl⟩ := hv.val
  clear S hb n0 n1 n2 n3 hv
  unfold faultW at A1
  go_enter Tryz.func22, Tryz.ntmps22
  go_wp2_with fail
  refine A1.out.mono ?_
  rintro e w5 ⟨rfl, c5, g5⟩
  have g5' : (faultW w).grownBy w5 (some (w.heap.size + 3)) := g5
  have n0 : w5.heap[w.heap.size]? = some (.cells #[.int .i64 0, .int .i64 0, .string (B []), .int .i64 0, .int .i64 0] 23 (0, 0)) := by
    rw [g5'.block _ (lt_of_block B4.out) (by simp)]; exact B4.out
  have hb5 : w5.heap[b]? = some (.cells #[.string nm, .iface vt (.pointer (some vp))] 87 (0, 0)) := by
    rw [g5'.block _ (Nat.lt_of_lt_of_le hbl (faultW_grown w).size) (by simp; omega), (faultW_grown w).block _ hbl (by simp)]; exact HB.out
  have G5 : Hid (Gn w w5) := ⟨g5'.os.trans (faultW_grown w).os, g5'.output.trans (faultW_grown w).output, Nat.le_trans (faultW_grown w).size g5'.size, fun k hk => by
    rw [g5'.block _ (Nat.lt_of_lt_of_le hk (faultW_grown w).size) (by simp; omega), (faultW_grown w).block _ hk (by simp)]⟩
  have l0 := lt_of_block n0
  have lb5 := lt_of_block hb5
  have lc5 : w.heap.size + 3 < w5.heap.size := by have := g5'.size; have := lt_of_block (faultW_blocks w).2.2.2; omega
  obtain ⟨d0, d1⟩ := env_c hb5
  clear g5 g5' A1 S4
  have UW := hid (fun (W : World) (h : W.cell? ⟨b, 1, none⟩ = some (.iface vt (.pointer (some vp)))) => unwrap_env b 0 _ W h (Or.inr ⟨vt, vp, rfl⟩))
  go_wp2_with fail
  refine (UW.out _ (cell_past d1 _)).mono ?_
  rintro e w6 ⟨rfl, rfl⟩
  have GA : Hid (Gn w (w5.alloc (.cells #[.int .i64 5, .int .i64 0, .string nm, .int .i64 0, .int .i64 0] 23))) := G5.out.trans (Gn.of (World.grownBy_alloc _ _ _))
  have FI := hid (fault_of _ ad cs ts (SH.out.gn GA.out) (HV.out.gn GA.out))
  have D1 := hid d1
  clear UW
  go_wp2_with fail
  refine FI.out.mono ?_
  rintro e w7 ⟨rfl, g7⟩
  have n6 : w7.heap[w5.heap.size]? = some (.cells #[.int .i64 5, .int .i64 0, .string nm, .int .i64 0, .int .i64 0] 23 (0, 0)) := by
    rw [g7.block _ (by simp)]; exact heap_alloc_new _ _
  have n00 : w7.heap[w.heap.size]? = some (.cells #[.int .i64 0, .int .i64 0, .string (B []), .int .i64 0, .int .i64 0] 23 (0, 0)) := by
    rw [g7.block _ (by simp; omega)]; exact (Below.heap_alloc _ _ _ l0).trans n0
  have d7 : w7.cell? ⟨b, 1, none⟩ = some (.iface vt (.pointer (some vp))) := Gn.cell (cell_past D1.out _) (by simp; omega) g7
  have l7 : w5.heap.size < w7.heap.size := lt_of_block n6
  have G7 := hid (GA.out.trans g7)
  have IW := hid (fun (W : World) (h : W.cell? ⟨b, 0 + 1, none⟩ = some (.iface vt (.pointer (some vp)))) => is_why w ad b _ x y HV.out W h)
  have hwn : w.heap.size ≠ w5.heap.size := by omega
  clear n0 hb5 g7 FI d1
  have n8 := heap_alloc_new w7 (.cells #[.int .i64 x, .int .i64 y, .string (B []), .int .i64 0, .int .i64 0] 23)
  obtain ⟨⟨p0, p1, p2, p3, p4⟩, r0, r1, r2, r3, r4⟩ := five_c ((Below.heap_alloc w7 (.cells #[.int .i64 x, .int .i64 y, .string (B []), .int .i64 0, .int .i64 0] 23) _ l7).trans n6)
  obtain ⟨⟨q0, q1, q2, q3, q4⟩, f0, f1, f2, f3, f4⟩ := five_c ((Below.heap_alloc w7 (.cells #[.int .i64 x, .int .i64 y, .string (B []), .int .i64 0, .int .i64 0] 23) _ (by omega)).trans n00)
  obtain ⟨⟨s0, s1, s2, s3, s4⟩, _⟩ := five_c n8
  have d8 := cell_past d7 (.cells #[.int .i64 x, .int .i64 y, .string (B []), .int .i64 0, .int .i64 0] 23)
  have GB := hid (G7.out.trans (Gn.of (World.grownBy_alloc w7 (.cells #[.int .i64 x, .int .i64 y, .string (B []), .int .i64 0, .int .i64 0] 23) none)))
  have hb5n : b ≠ w5.heap.size := by omega
  have NB5 := hid ((Below.heap_alloc w7 (.cells #[.int .i64 x, .int .i64 y, .string (B []), .int .i64 0, .int .i64 0] 23) _ l7).trans n6)
  have NB0 := hid ((Below.heap_alloc w7 (.cells #[.int .i64 x, .int .i64 y, .string (B []), .int .i64 0, .int .i64 0] 23) _ (by omega)).trans n00)
  clear n6 n00 n8 d7 G7
  unfold fv
  go_wp2_with fail
  generalize w7.alloc (.cells #[.int .i64 x, .int .i64 y, .string (B []), .int .i64 0, .int .i64 0] 23) = W8 at *
  generalize w5.heap.size = z5 at *
  generalize w7.heap.size = z7 at *
  go_region
  have c5 : (((W8.setCell ⟨z5, 3, none⟩ (.int .i64 x)).setCell ⟨z5, 4, none⟩ (.int .i64 y)).drew).heap[z5]? = some (.cells #[.int .i64 5, .int .i64 0, .string nm, .int .i64 x, .int .i64 y] 23 (0, 0)) := put2 NB5.out _ _
  have c0 : (((W8.setCell ⟨z5, 3, none⟩ (.int .i64 x)).setCell ⟨z5, 4, none⟩ (.int .i64 y)).drew).heap[w.heap.size]? = some (.cells #[.int .i64 0, .int .i64 0, .string (B []), .int .i64 0, .int .i64 0] 23 (0, 0)) := (Below.heap_setCell _ _ _ _ (by exact hwn)).trans ((Below.heap_setCell _ _ _ _ (by exact hwn)).trans NB0.out)
  have d9 : (((W8.setCell ⟨z5, 3, none⟩ (.int .i64 x)).setCell ⟨z5, 4, none⟩ (.int .i64 y)).drew).cell? ⟨b, 0 + 1, none⟩ = some (.iface vt (.pointer (some vp))) := by
    show ((W8.setCell ⟨z5, 3, none⟩ (.int .i64 x)).setCell ⟨z5, 4, none⟩ (.int .i64 y)).cell? ⟨b, 0 + 1, none⟩ = _
    rw [World.cell?_of_block (a := ⟨b, 0 + 1, none⟩) (Below.heap_setCell _ _ _ _ (by exact hb5n)), World.cell?_of_block (a := ⟨b, 0 + 1, none⟩) (Below.heap_setCell _ _ _ _ (by exact hb5n))]
    exact d8
  have GC := hid (((GB.out.setNew (n := z5) (by omega) 3 (.int .i64 x)).setNew (n := z5) (by omega) 4 (.int .i64 y)).drew)
  have I9 := hid (IW.out _ d9)
  clear p0 p1 p2 p3 p4 r0 r1 r2 r3 r4 q0 q1 q2 q3 q4 f0 f1 f2 f3 f4 s0 s1 s2 s3 s4 NB5 NB0 d8 d9 GB IW
  obtain ⟨⟨p0, p1, p2, p3, p4⟩, _⟩ := five_c c5
  obtain ⟨⟨q0, q1, q2, q3, q4⟩, f0, f1, f2, f3, f4⟩ := five_c c0
  clear c5 c0
  generalize ((W8.setCell ⟨z5, 3, none⟩ (.int .i64 x)).setCell ⟨z5, 4, none⟩ (.int .i64 y)).drew = W9 at *
  go_wp2_with fail
  refine I9.out.mono ?_
  rintro e w9 ⟨rfl, rfl⟩
  go_wp2
  refine bodyPost_ret (v := fe nm x y) (by simp [results, Tryz.results22, go_sem, q0, q1, q2, q3, q4]; rfl) rfl ?_
  exact ⟨rfl, Gn.set5 GC.out (Nat.le_refl _) _ _ _ _ _⟩
end Go.Proofs.YtcdijppegfcoaabGreatDoor

/-
  OUR OWN TEXT. plain.Infer of the texts that Refuses asks of.
-/
namespace Go.Proofs.YtcdijppegfcoaabGreatDoor
open Go.RowKit

/-- A fault. -/
def f5 (a b : Int) (s : ByteArray) (c d : Int) : Value := .agg #[.int .i64 a, .int .i64 b, .string s, .int .i64 c, .int .i64 d]
theorem FM.gn {w w' : World} {mb : Nat} {ns : List (List UInt8)} {g : List (Option (List UInt8))} (h : FM w mb ns g) (hg : Gn w w') : FM w' mb ns g := h.same (hg.block mb h.lt)

set_option maxRecDepth 100000 in
set_option maxHeartbeats 600000 in
theorem pinfer (s : ByteArray) (fuel : Int) (ns ts : List (List UInt8)) (vn vt : Value) (t : List UInt8) (a b : Int) (nm : ByteArray) (c d : Int) (w : World) (hn : SRow w vn ns) (ht : SRow w vt ts) (hl : ts.length = ns.length) (hL : ns.length ≤ 1000) (hd : ns.Nodup) (hnl : ∀ i, i < ns.length → (ns.getD i []).length ≤ 300) (htl : ∀ i, i < ts.length → (ts.getD i []).length ≤ 1000000)
    (CI : ∀ W mb, w.grownBy W none → FM W mb ns (ts.map some) → Calls Tryz.prog 30 #[.string s, .map (some mb), .int .i64 fuel] W fun e w' => W.grownBy w' none ∧ ∃ v, e = .returned (.tuple #[.string (B t), v]) ∧ (v = .nilIface ∨ ∃ p q, v = .iface p (.pointer (some q))) ∧ Calls Tryz.prog 22 #[v] w' fun e w'' => e = .returned (f5 a b nm c d) ∧ Gn w' w'') :
    Calls Tryz.prog 20 #[.string s, vn, vt, .int .i64 fuel] w fun e w' => Gn w w' ∧ ∃ r, e = .returned (.tuple #[.string (B t), f5 a b nm c d, .bool r]) := by
  have g0 : w.grownBy (w.alloc (.cells #[.int .i64 0, .int .i64 0, .string (B []), .int .i64 0, .int .i64 0] 23)) none := World.grownBy_alloc _ _ _
  have HE := hid (env_q ns ts _ vn vt (hn.gn (Gn.of g0)) (ht.gn (Gn.of g0)) hl hL hd hnl htl)
  have HE2 := hid (fun (W : World) (gW : Gn w W) => env_q ns ts W vn vt (hn.gn gW) (ht.gn gW) hl hL hd hnl htl)
  have HC := hid CI
  have G0 := hid g0
  obtain ⟨an, cn, rfl, -⟩ := hn
  obtain ⟨at', ct, rfl, -⟩ := ht
  clear CI g0 hd hnl htl
  rw [hl]
  rw [hl] at HE HE2
  have HLL := hid hl
  clear hl
  go_enter Tryz.func20, Tryz.ntmps20
  go_wp2_with fail
  refine HE.out.mono ?_
  rintro e w1 ⟨g1, rfl, hF⟩
  have e1 : (w.alloc (.cells #[.int .i64 0, .int .i64 0, .string (B []), .int .i64 0, .int .i64 0] 23)).heap.size = w.heap.size + 1 := by simp
  rw [e1] at hF ⊢
  clear e1
  have G1 := hid (And.intro (G0.out.trans g1) (And.intro hF g1))
  clear g1 hF HE
  go_wp2_with fail
  refine (HC.out _ _ G1.out.1 G1.out.2.1).mono ?_
  rintro e w2 ⟨g2, v, rfl, hv, hf⟩
  have n0 : w2.heap[w.heap.size]? = some (.cells #[.int .i64 0, .int .i64 0, .string (B []), .int .i64 0, .int .i64 0] 23 (0, 0)) := by
    rw [g2.block _ (by have := G1.out.2.2.size; simp at this; omega) (by simp), G1.out.2.2.block _ (by simp) (by simp)]
    exact heap_alloc_new _ _
  have l0 := lt_of_block n0
  have G2 := hid (And.intro (G1.out.1.trans g2) (And.intro (G1.out.2.1.kept g2 (by simp)) n0))
  have HF := hid hf
  clear g2 hf n0 G1 HC
  rcases hv with rfl | ⟨p, q, rfl⟩
  all_goals
    go_wp2_with fail
    refine HF.out.mono ?_
    rintro e w3 ⟨rfl, g3⟩
    have G3 := hid (And.intro ((Gn.of G2.out.1).trans g3) (And.intro (G2.out.2.1.gn g3) ((g3.block _ l0).trans G2.out.2.2)))
    clear g3 HF G2
    unfold f5
    go_wp2_with fail
    refine (HE2.out _ G3.out.1).mono ?_
    rintro e w4 ⟨g4, rfl, hF4⟩
    have EQ := hid (equal_q (w.heap.size + 1) w3.heap.size ns ns _ _ w4 (G3.out.2.1.kept g4 (by simp)) hF4)
    have l3 := lt_of_block G3.out.2.2
    have G4 := hid (And.intro (G3.out.1.trans (Gn.of g4)) ((g4.block _ l3 (by simp)).trans G3.out.2.2))
    clear g4 hF4 G3
    go_wp2_with fail
    refine EQ.out.mono ?_
    rintro e w5 ⟨⟨r, rfl⟩, g5⟩
    have n5 : w5.heap[w.heap.size]? = some (.cells #[.int .i64 0, .int .i64 0, .string (B []), .int .i64 0, .int .i64 0] 23 (0, 0)) := (g5.block _ (lt_of_block G4.out.2) (by simp)).trans G4.out.2
    have G5 := hid (G4.out.1.trans (Gn.of g5))
    obtain ⟨⟨q0, q1, q2, q3, q4⟩, f0, f1, f2, f3, f4⟩ := five_c n5
    clear g5 n5 G4 EQ
    go_wp2
    refine bodyPost_ret (v := .tuple #[.string (B t), f5 a b nm c d, .bool (!r)]) (by simp [results, Tryz.results20, go_sem, q0, q1, q2, q3, q4]; rfl) rfl ?_
    exact ⟨G5.out.set5 (Nat.le_refl _) _ _ _ _ _, _, rfl⟩
end Go.Proofs.YtcdijppegfcoaabGreatDoor

/-
  OUR OWN TEXT. plain.Infer at the inputs of Refuses.
-/
namespace Go.Proofs.YtcdijppegfcoaabGreatDoor
open Go.RowKit

/-- What plain.Infer leaves. -/
def PInf (w w' : World) (e : Ending) (t : List UInt8) (f : Value) : Prop := Gn w w' ∧ ∃ r, e = .returned (.tuple #[.string (B t), f, .bool r])
theorem SRow.one {w : World} {b : Nat} {x : List UInt8} {t : TypeId} (h : w.heap[b]? = some (.cells #[.string (B x)] t (0, 0))) : SRow w (.slice (some ⟨b, 0, none⟩) 1 1) [x] :=
  ⟨_, 1, rfl, fun j hj => ⟨b, rfl, lt_of_block h, by
    have : j = 0 := by simp at hj; omega
    subst this
    simp [World.cell?, h]⟩⟩
theorem SRow.three {w : World} {b : Nat} {x y z : List UInt8} {t : TypeId} (h : w.heap[b]? = some (.cells #[.string (B x), .string (B y), .string (B z)] t (0, 0))) : SRow w (.slice (some ⟨b, 0, none⟩) 3 3) [x, y, z] :=
  ⟨_, 3, rfl, fun j hj => ⟨b, rfl, lt_of_block h, by
    have : j = 0 ∨ j = 1 ∨ j = 2 := by simp at hj; omega
    rcases this with rfl | rfl | rfl <;> simp [World.cell?, h]⟩⟩
theorem sh_x : shK [120] (-1) = true := by kernel_rfl
theorem sh_y : shK [121] (-1) = true := by kernel_rfl
theorem sh_1 : shK [49] (-1) = true := by kernel_rfl
theorem ex_1 : expS (toksOf exKw (B [49])) ((B [49]).size + 2) ⟨0, -1⟩ = some (⟨kNum, [[49]], [], 0⟩, ⟨1, -1⟩) := by kernel_rfl
theorem num_1 (x : Ex) (s1 : St) (h : expS (toksOf exKw (B [49])) ((B [49]).size + 2) ⟨0, -1⟩ = some (x, s1)) : x.op = kNum := by
  rw [ex_1] at h
  cases h
  rfl
theorem ca_par : caK [40] 1 = true := by kernel_rfl
theorem sort_xbc : (sortS [[120], [98], [99]]).getD 0 [] = [98] := by
  have h1 : ¬ ([120] : List UInt8) ≤ [98] := by decide
  have h2 : ([98] : List UInt8) ≤ [99] := by decide
  unfold sortS
  simp [List.mergeSort, List.MergeSort.Internal.splitInTwo, List.merge, h1, h2]
theorem one_le {x : List UInt8} {n : Nat} (h : x.length ≤ n) (i : Nat) (hi : i < [x].length) : ([x].getD i []).length ≤ n := by
  have : i = 0 := by simp at hi; omega
  subst this
  exact h
theorem one_is {x : List UInt8} (v : Nat) (hv : v < [x].length) (y : List UInt8) : (([y].map some).getD v none).isSome = true := by
  have : v = 0 := by simp at hv; omega
  subst this
  rfl
theorem tri_le {x y z : List UInt8} {n : Nat} (h1 : x.length ≤ n) (h2 : y.length ≤ n) (h3 : z.length ≤ n) (i : Nat) (hi : i < [x, y, z].length) : ([x, y, z].getD i []).length ≤ n := by
  have : i = 0 ∨ i = 1 ∨ i = 2 := by simp at hi; omega
  rcases this with rfl | rfl | rfl
  · exact h1
  · exact h2
  · exact h3
theorem tri_is {x y z : List UInt8} (v : Nat) (hv : v < [x, y, z].length) (a b c : List UInt8) : (([a, b, c].map some).getD v none).isSome = true := by
  have : v = 0 ∨ v = 1 ∨ v = 2 := by simp at hv; omega
  rcases this with rfl | rfl | rfl <;> rfl
theorem sort_one (x : List UInt8) : (sortS [x]).getD 0 [] = x := by
  unfold sortS
  simp

theorem pinf_long (s : ByteArray) (hs : 300 < s.size) (w : World) (ad : Nat → Addr) (cs : Nat → Array Value) (ts : Nat → TypeId) (S : SW w ad cs ts) :
    Calls Tryz.prog 20 #[.string s, .slice none 0 0, .slice none 0 0, .int .i64 0] w fun e w' => PInf w w' e [] (fv 1 0) :=
  pinfer s 0 [] [] _ _ [] 1 0 (B []) 0 0 w (SRow.nil w) (SRow.nil w) rfl (by simp) List.nodup_nil (fun i hi => absurd hi (by simp)) (fun i hi => absurd hi (by simp)) fun W mb gW _ =>
    (infer_w s mb 0 W (B []) _ (watch_long s hs mb 0 W ad cs ts (S.grown gW))).mono fun e w' h => by
      obtain ⟨g, v, he, rfl⟩ := h
      exact ⟨g, _, he, Or.inr ⟨_, _, rfl⟩, fault_err w' ad cs ts (S.grown (gW.trans g)) 0 (by decide)⟩
theorem pinf_arg (fuel : Int) (hf : fuel = 0 ∨ fuel = 13) (w : World) (ad : Nat → Addr) (cs : Nat → Array Value) (ts : Nat → TypeId) (S : SW w ad cs ts) :
    Calls Tryz.prog 20 #[.string (B [120]), .slice none 0 0, .slice none 0 0, .int .i64 fuel] w fun e w' => PInf w w' e [] (fv 6 0) :=
  pinfer (B [120]) fuel [] [] _ _ [] 6 0 (B []) 0 0 w (SRow.nil w) (SRow.nil w) rfl (by simp) List.nodup_nil (fun i hi => absurd hi (by simp)) (fun i hi => absurd hi (by simp)) fun W mb gW _ =>
    (infer_w (B [120]) mb fuel W (B []) _ (watch_arg [120] (by decide) sh_x mb fuel hf W ad cs ts (S.grown gW))).mono fun e w' h => by
      obtain ⟨g, v, he, rfl⟩ := h
      exact ⟨g, _, he, Or.inr ⟨_, _, rfl⟩, fault_err w' ad cs ts (S.grown (gW.trans g)) 2 (by decide)⟩
theorem pinf_num (w : World) (ad : Nat → Addr) (cs : Nat → Array Value) (ts : Nat → TypeId) (S : SW w ad cs ts) :
    Calls Tryz.prog 20 #[.string (B [49]), .slice none 0 0, .slice none 0 0, .int .i64 12] w fun e w' => PInf w w' e [105, 110, 116] (fv 0 0) :=
  pinfer (B [49]) 12 [] [] _ _ [105, 110, 116] 0 0 (B []) 0 0 w (SRow.nil w) (SRow.nil w) rfl (by simp) List.nodup_nil (fun i hi => absurd hi (by simp)) (fun i hi => absurd hi (by simp)) fun W mb gW hF =>
    (infer_w (B [49]) mb 12 W (B [105, 110, 116]) _ (watch_num [49] (by decide) sh_1 num_1 mb W ad cs ts (S.grown gW) fun W' gW' => schemes_nil W' mb (hF.kept gW' (by simp)))).mono fun e w' h => by
      obtain ⟨g, v, he, rfl⟩ := h
      exact ⟨g, _, he, Or.inl rfl, (fault_nil w').mono fun e w'' h => ⟨h.1, Gn.of h.2⟩⟩
theorem pinf_let (vn vt : Value) (w : World) (hn : SRow w vn [[108, 101, 116]]) (ht : SRow w vt [[105, 110, 116]]) (ad : Nat → Addr) (cs : Nat → Array Value) (ts : Nat → TypeId) (S : SW w ad cs ts) :
    Calls Tryz.prog 20 #[.string (B [121]), vn, vt, .int .i64 1] w fun e w' => PInf w w' e [] (fe (B [108, 101, 116]) 0 0) :=
  pinfer (B [121]) 1 [[108, 101, 116]] [[105, 110, 116]] vn vt [] 5 0 (B [108, 101, 116]) 0 0 w hn ht rfl (by decide) (by simp) (one_le (by decide)) (one_le (by decide)) fun W mb gW hF =>
    (infer_w (B [121]) mb 1 W (B []) _ (watch_bad [121] (by decide) sh_y mb W ad cs ts (S.grown gW) (fun b w' => w'.heap[b]? = some (.cells #[.string (B [108, 101, 116]), .nilIface] 87 (0, 0))) (fun b w w' h g => (g.block b (lt_of_block h) (by simp)).trans h) fun W' gW' =>
        schemes_bad0 [[108, 101, 116]] _ W' mb (hF.kept gW' (by simp)) (by simp) (fun v hv => one_is v hv _) rfl (by decide) [108, 101, 116] (sort_one _) (by decide) (by decide) (by decide) (fun W => isNameK [108, 101, 116] (by decide) (by decide) (by decide) (by decide) W))).mono fun e w' h => by
      obtain ⟨g, v, he, b, rfl, hb⟩ := h
      exact ⟨g, _, he, Or.inr ⟨_, _, rfl⟩, fault_env0 w' ad cs ts (S.grown (gW.trans g)) b _ hb⟩
theorem pinf_xbc (vn vt : Value) (w : World) (hn : SRow w vn [[120], [98], [99]]) (ht : SRow w vt [[105, 110, 116], [40], [41]]) (ad : Nat → Addr) (cs : Nat → Array Value) (ts : Nat → TypeId) (S : SW w ad cs ts) :
    Calls Tryz.prog 20 #[.string (B [121]), vn, vt, .int .i64 1] w fun e w' => PInf w w' e [] (fe (B [98]) 2 1) :=
  pinfer (B [121]) 1 [[120], [98], [99]] [[105, 110, 116], [40], [41]] vn vt [] 5 0 (B [98]) 2 1 w hn ht rfl (by decide) (by decide) (tri_le (by decide) (by decide) (by decide)) (tri_le (by decide) (by decide) (by decide)) fun W mb gW hF =>
    (infer_w (B [121]) mb 1 W (B []) _ (watch_bad [121] (by decide) sh_y mb W ad cs ts (S.grown gW) (fun b w' => ∃ v, w'.heap[b]? = some (.cells #[.string (B [98]), v] 87 (0, 0)) ∧ ErrV w' ad v 2 1) (fun b w w' h g => by
          obtain ⟨v, h1, h2⟩ := h
          exact ⟨v, (g.block b (lt_of_block h1) (by simp)).trans h1, h2.grown g⟩) fun W' gW' =>
        (schemes_bad1 [[120], [98], [99]] _ W' mb (hF.kept gW' (by simp)) (by decide) (fun v hv => tri_is v hv _ _ _) rfl (by decide) [98] sort_xbc (by decide) (by decide) (by decide) (fun W => isNameK [98] (by decide) (by decide) (by decide) (by decide) W) 1 (by decide) rfl [40] rfl 2 1 (rdf_k (by decide) ca_par (by decide)) ad cs ts (S.grown (gW.trans gW'))).mono fun e w' h => by
          obtain ⟨g, p, v, he, h1, h2⟩ := h
          exact ⟨g, p, he, v, h1, h2⟩)).mono fun e w' h => by
      obtain ⟨g, v, he, b, rfl, v2, hb, hv⟩ := h
      exact ⟨g, _, he, Or.inr ⟨_, _, rfl⟩, fault_env1 w' ad cs ts (S.grown (gW.trans g)) b _ v2 2 1 hb hv⟩
theorem pinf_xl (vn vt : Value) (l : List UInt8) (hl : 300 < l.length) (hl2 : l.length ≤ 1000000) (w : World) (hn : SRow w vn [[120]]) (ht : SRow w vt [l]) (ad : Nat → Addr) (cs : Nat → Array Value) (ts : Nat → TypeId) (S : SW w ad cs ts) :
    Calls Tryz.prog 20 #[.string (B [121]), vn, vt, .int .i64 1] w fun e w' => PInf w w' e [] (fe (B [120]) 1 0) :=
  pinfer (B [121]) 1 [[120]] [l] vn vt [] 5 0 (B [120]) 1 0 w hn ht rfl (by decide) (by simp) (one_le (by decide)) (one_le hl2) fun W mb gW hF =>
    (infer_w (B [121]) mb 1 W (B []) _ (watch_bad [121] (by decide) sh_y mb W ad cs ts (S.grown gW) (fun b w' => ∃ v, w'.heap[b]? = some (.cells #[.string (B [120]), v] 87 (0, 0)) ∧ ErrV w' ad v 1 0) (fun b w w' h g => by
          obtain ⟨v, h1, h2⟩ := h
          exact ⟨v, (g.block b (lt_of_block h1) (by simp)).trans h1, h2.grown g⟩) fun W' gW' =>
        (schemes_bad1 [[120]] _ W' mb (hF.kept gW' (by simp)) (by simp) (fun v hv => one_is v hv _) rfl (by decide) [120] (sort_one _) (by decide) (by decide) (by simp) (fun W => isNameK [120] (by decide) (by decide) (by decide) (by decide) W) 0 (by decide) rfl l rfl 1 0 (Or.inl ⟨by rw [size_B]; exact hl, rfl, rfl⟩) ad cs ts (S.grown (gW.trans gW'))).mono fun e w' h => by
          obtain ⟨g, p, v, he, h1, h2⟩ := h
          exact ⟨g, p, he, v, h1, h2⟩)).mono fun e w' h => by
      obtain ⟨g, v, he, b, rfl, v2, hb, hv⟩ := h
      exact ⟨g, _, he, Or.inr ⟨_, _, rfl⟩, fault_env1 w' ad cs ts (S.grown (gW.trans g)) b _ v2 1 0 hb hv⟩
end Go.Proofs.YtcdijppegfcoaabGreatDoor

/-
  OUR OWN TEXT. plain.Instance at the inputs of Refuses.
-/
namespace Go.Proofs.YtcdijppegfcoaabGreatDoor
open Go.RowKit

/-- The two texts are types; what the variables of the first stand for. -/
def inG (s1 s2 : List UInt8) : Option (List (List UInt8) × Option (List (Option (List UInt8)))) :=
  match arrS (toksOf tyKw (B s1)) (s1.length + 2) [] ⟨0, -1⟩, arrS (toksOf tyKw (B s2)) (s2.length + 2) [] ⟨0, -1⟩ with
  | some (x, na, t1), some (y, nb, t2) =>
    if (decide ((needS (toksOf tyKw (B s1)) t1 kEnd).bad < 0) && tyOkB na.length 60 x && decide (tySize 60 x ≤ 120) && decide ((needS (toksOf tyKw (B s2)) t2 kEnd).bad < 0) && tyOkB nb.length 60 y && decide (tySize 60 y ≤ 120)) = true then some (na, matchS 60 nb 60 x y (List.replicate na.length none)) else none
  | _, _ => none
theorem rdt_of {s : List UInt8} {x : Ty} {ns : List (List UInt8)} {s1 : St} (hs : s.length ≤ 300) (hx : arrS (toksOf tyKw (B s)) (s.length + 2) [] ⟨0, -1⟩ = some (x, ns, s1)) (a1 : (needS (toksOf tyKw (B s)) s1 kEnd).bad < 0) (ok : TyOk ns.length 60 x) (a3 : tySize 60 x ≤ 120) : RdT (B s) x ns := by
  have hz : (B s).size = s.length := size_B s
  obtain ⟨x', ns', s1', hx', hk⟩ := ty_have2 (B s)
  rw [← hz] at hx
  rw [hx] at hx'
  cases hx'
  exact ⟨by omega, s1, hx, hk, a1, fun N m ok' => by rw [(ty_same ok' ok).1]; exact a3⟩
theorem inG_out {s1 s2 : List UInt8} {na : List (List UInt8)} {r : Option (List (Option (List UInt8)))} (h1 : s1.length ≤ 300) (h2 : s2.length ≤ 300) (h : inG s1 s2 = some (na, r)) :
    ∃ x y nb, RdT (B s1) x na ∧ RdT (B s2) y nb ∧ TyOk na.length 60 x ∧ TyOk nb.length 60 y ∧ matchS 60 nb 60 x y (List.replicate na.length none) = r := by
  unfold inG at h
  split at h
  · rename_i x na' t1 y nb t2 e1 e2
    split at h
    · rename_i hc
      simp only [Bool.and_eq_true, decide_eq_true_eq] at hc
      obtain ⟨⟨⟨⟨⟨c1, c2⟩, c3⟩, c4⟩, c5⟩, c6⟩ := hc
      simp only [Option.some.injEq, Prod.mk.injEq] at h
      obtain ⟨rfl, rfl⟩ := h
      exact ⟨x, y, nb, rdt_of h1 e1 c1 (tyOkB_ok _ _ _ c2) c3, rdt_of h2 e2 c4 (tyOkB_ok _ _ _ c5) c6, tyOkB_ok _ _ _ c2, tyOkB_ok _ _ _ c5, rfl⟩
    · cases h
  · cases h
theorem pi_no (s1 s2 : List UInt8) (h1 : s1.length ≤ 300) (h2 : s2.length ≤ 300) (na : List (List UInt8)) (h : inG s1 s2 = some (na, none)) (w : World) (ad : Nat → Addr) (cs : Nat → Array Value) (ts : Nat → TypeId) (S : SW w ad cs ts) :
    Calls Tryz.prog 9 #[.string (B s1), .string (B s2)] w fun e w' => e = .returned (.tuple #[.slice none 0 0, .slice none 0 0, .bool true, fv 11 0]) ∧ Gn w w' := by
  obtain ⟨x, y, nb, r1, r2, k1, k2, hm⟩ := inG_out h1 h2 h
  refine pinst_err (B s1) (B s2) 11 0 w ad cs ts S fun W SW' => (inst_ok (B s1) (B s2) x y na nb 60 60 _ _ W ad cs ts SW' r1 r2 k1 k2).mono fun e w' h => ?_
  obtain ⟨hg, (⟨_, he⟩ | ⟨g', mb, hq, _⟩)⟩ := h
  · exact ⟨hg, _, he, Or.inl ⟨7, by decide, rfl, rfl, rfl⟩⟩
  · rw [hm] at hq; cases hq
theorem pi_yes (s1 s2 : List UInt8) (h1 : s1.length ≤ 300) (h2 : s2.length ≤ 300) (na : List (List UInt8)) (g : List (Option (List UInt8))) (h : inG s1 s2 = some (na, some g)) (w : World) (ad : Nat → Addr) (cs : Nat → Array Value) (ts : Nat → TypeId) (S : SW w ad cs ts) :
    Calls Tryz.prog 9 #[.string (B s1), .string (B s2)] w fun e w' => PIO w w' e (sortS na) ((sortS na).map (txtS na g)) := by
  obtain ⟨x, y, nb, r1, r2, k1, k2, hm⟩ := inG_out h1 h2 h
  exact pi_t (B s1) (B s2) x y na nb 60 60 _ _ w ad cs ts S r1 r2 k1 k2 g hm
theorem in_1 : inG [97, 32, 45, 62, 32, 97] [105, 110, 116, 32, 45, 62, 32, 98, 111, 111, 108] = some ([[97]], none) := by kernel_rfl
theorem in_2 : inG [40, 97, 44, 32, 98, 41] [91, 105, 110, 116, 93] = some ([[97], [98]], none) := by kernel_rfl
theorem in_3 : inG [105, 110, 116] [97] = some ([], none) := by kernel_rfl
theorem in_4 : inG [97, 32, 45, 62, 32, 98, 32, 45, 62, 32, 91, 97, 93] [40, 120, 44, 32, 121, 41, 32, 45, 62, 32, 105, 110, 116, 32, 45, 62, 32, 91, 40, 120, 44, 32, 121, 41, 93] = some ([[97], [98]], some [some [40, 120, 44, 32, 121, 41], some [105, 110, 116]]) := by kernel_rfl
theorem in_5 : inG [105, 110, 116] [105, 110, 116] = some ([], some []) := by kernel_rfl
theorem ca_a : caK [97] (-1) = true := by kernel_rfl
theorem ca_op : caK [40] 1 = true := by kernel_rfl
theorem ca_sh : caK [41] 0 = true := by kernel_rfl
theorem sort_ab : sortS [[97], [98]] = [[97], [98]] := by
  unfold sortS
  exact List.mergeSort_of_pairwise (by decide)
theorem sort_nil : sortS [] = [] := by
  unfold sortS
  simp
theorem pi_open (w : World) (ad : Nat → Addr) (cs : Nat → Array Value) (ts : Nat → TypeId) (S : SW w ad cs ts) : Calls Tryz.prog 9 #[.string (B [40]), .string (B [41])] w fun e w' => e = .returned (.tuple #[.slice none 0 0, .slice none 0 0, .bool true, fv 2 1]) ∧ Gn w w' :=
  pi_f1 _ _ 2 1 w ad cs ts S (rdf_k (by decide) ca_op (by decide))
theorem pi_shut (w : World) (ad : Nat → Addr) (cs : Nat → Array Value) (ts : Nat → TypeId) (S : SW w ad cs ts) : Calls Tryz.prog 9 #[.string (B [97]), .string (B [41])] w fun e w' => e = .returned (.tuple #[.slice none 0 0, .slice none 0 0, .bool true, fv 2 0]) ∧ Gn w w' := by
  obtain ⟨x, ns, hr, _, _⟩ := rdt_k (s := [97]) (by decide) ca_a
  exact pi_f2 _ _ x ns 2 0 w ad cs ts S hr (rdf_k (by decide) ca_sh (by decide))
end Go.Proofs.YtcdijppegfcoaabGreatDoor
