import Derived.Test.YtcdijppegfcoaabGreatDoorZC25
import Derived.Test.YtcdijppegfcoaabGreatDoorZC10
import Derived.Test.YtcdijppegfcoaabGreatDoorZC09
import Derived.Test.YtcdijppegfcoaabGreatDoorZC21
import Derived.Orders
import Derived.Test.YtcdijppegfcoaabGreatDoorZC23
import Derived.Test.YtcdijppegfcoaabGreatDoorZC17
set_option maxRecDepth 100000
set_option maxHeartbeats 4000000
namespace Go.Proofs.YtcdijppegfcoaabGreatDoor
open Go.RowKit Go.Extern.Stop Go.Stop Go.Extern
structure SW (W : World) (ad : Nat → Addr) (cs : Nat → Array Value) (ts : Nat → TypeId) : Prop where
  g0 : W.cell? ⟨0,0,none⟩ = some (errV (ad 0))
  g1 : W.cell? ⟨1,0,none⟩ = some (errV (ad 1))
  g2 : W.cell? ⟨2,0,none⟩ = some (errV (ad 2))
  g3 : W.cell? ⟨3,0,none⟩ = some (errV (ad 3))
  g4 : W.cell? ⟨4,0,none⟩ = some (errV (ad 4))
  g5 : W.cell? ⟨5,0,none⟩ = some (errV (ad 5))
  g6 : W.cell? ⟨6,0,none⟩ = some (errV (ad 6))
  g7 : W.cell? ⟨7,0,none⟩ = some (errV (ad 7))
  hE : W.cell? ⟨8,0,none⟩ = some ETy
  hb : ∀ k,k < 8 → W.heap[(ad k).block]? = some (.cells (cs k) (ts k) (0,0))
  hne : ∀ i j,i < 8 → j < 8 → i ≠ j → ad i ≠ ad j
  hsz : 8 + 1 ≤ W.heap.size
theorem SW.grown {w w' : World} {ad : Nat → Addr} {cs : Nat → Array Value} {ts : Nat → TypeId} (h : SW w ad cs ts) (hg : w.grownBy w' none) : SW w' ad cs ts := by
  have c : ∀ {b : Nat} {v : Value},b < 8 + 1 → w.cell? ⟨b,0,none⟩ = some v → w'.cell? ⟨b,0,none⟩ = some v := fun hl e => grown_cell e (Nat.lt_of_lt_of_le hl h.hsz) hg
  exact ⟨c (by decide) h.g0,c (by decide) h.g1,c (by decide) h.g2,c (by decide) h.g3,c (by decide) h.g4,c (by decide) h.g5,c (by decide) h.g6,c (by decide) h.g7,c (by decide) h.hE,
    fun k hk => by rw [hg.block _ (lt_of_block (h.hb k hk)) (by simp)]; exact h.hb k hk,h.hne,Nat.le_trans h.hsz hg.size⟩
theorem five_c {w : World} {b : Nat} {p q r s u : Value} {t : TypeId} (h : w.heap[b]? = some (.cells #[p,q,r,s,u] t (0,0))) :
    (w.cell? ⟨b,0,none⟩ = some p ∧ w.cell? ⟨b,1,none⟩ = some q ∧ w.cell? ⟨b,2,none⟩ = some r ∧ w.cell? ⟨b,3,none⟩ = some s ∧ w.cell? ⟨b,4,none⟩ = some u) ∧
    w.frozen? ⟨b,0,none⟩ = false ∧ w.frozen? ⟨b,1,none⟩ = false ∧ w.frozen? ⟨b,2,none⟩ = false ∧ w.frozen? ⟨b,3,none⟩ = false ∧ w.frozen? ⟨b,4,none⟩ = false := by
  simp [World.cell?,World.frozen?,h]
def faultW (w : World) : World := (((w.alloc (.cells #[.int .i64 0,.int .i64 0,.string (B []),.int .i64 0,.int .i64 0] 23)).alloc (.cells #[.pointer none] 81)).alloc (.cells #[.pointer none] 82)).alloc (.cells #[.pointer none] 83)
theorem faultW_grown (w : World) : w.grownBy (faultW w) none := (((World.grownBy_alloc _ _ _).trans (World.grownBy_alloc _ _ _)).trans (World.grownBy_alloc _ _ _)).trans (World.grownBy_alloc _ _ _)
theorem faultW_blocks (w : World) : (faultW w).heap[w.heap.size]? = some (.cells #[.int .i64 0,.int .i64 0,.string (B []),.int .i64 0,.int .i64 0] 23 (0,0)) ∧ (faultW w).heap[w.heap.size + 1]? = some (.cells #[.pointer none] 81 (0,0)) ∧
    (faultW w).heap[w.heap.size + 2]? = some (.cells #[.pointer none] 82 (0,0)) ∧ (faultW w).heap[w.heap.size + 3]? = some (.cells #[.pointer none] 83 (0,0)) := by
  unfold faultW
  refine ⟨?_,?_,?_,?_⟩
  · rw [Below.heap_alloc _ _ _ (by simp <;> omega),Below.heap_alloc _ _ _ (by simp <;> omega),Below.heap_alloc _ _ _ (by simp)]
    exact heap_alloc_new _ _
  · rw [Below.heap_alloc _ _ _ (by simp <;> omega),Below.heap_alloc _ _ _ (by simp)]
    exact heap_alloc_at _ _ _ (by simp)
  · rw [Below.heap_alloc _ _ _ (by simp)]
    exact heap_alloc_at _ _ _ (by simp)
  · exact heap_alloc_at _ _ _ (by simp)
theorem one_c {w : World} {b : Nat} {p : Value} {t : TypeId} (h : w.heap[b]? = some (.cells #[p] t (0,0))) : w.cell? ⟨b,0,none⟩ = some p ∧ w.frozen? ⟨b,0,none⟩ = false := by simp [World.cell?,World.frozen?,h]
theorem fault_nil (w : World) : Calls Tryz.prog 22 #[.nilIface] w fun e w' => e = .returned (fv 0 0) ∧ w.grownBy w' none := by
  go_enter Tryz.func22,Tryz.ntmps22
  go_wp2_with (go_at_call 37; refine (as_nil _ _).mono ?_; rintro e w' ⟨rfl,rfl⟩)
  refine bodyPost_ret (v := fv 0 0) ?_ rfl ?_
  · have q := five_c (faultW_blocks w).1
    obtain ⟨⟨q0,q1,q2,q3,q4⟩,_⟩ := q
    unfold faultW at q0 q1 q2 q3 q4
    simp [results,Tryz.results22,go_sem]
    rfl
  · exact ⟨rfl,faultW_grown w⟩
def fltE (a : Addr) : Ending := .panicked [{ v := .iface 165 (.agg #[errV a]),recovered := false }]
theorem tab_lt {w : World} (h : Lib.TabIs Tryz.prog w "internal/strconv.uint64pow10" .u64 Lib.pow10Tab) : 10 < w.heap.size := by
  have hc := h.cell gPow10 0 (by rw [Lib.pow10Tab_length]; decide)
  rcases Nat.lt_or_ge 10 w.heap.size with hl | hg
  · exact hl
  · simp [World.cell?,Array.getElem?_eq_none hg] at hc
structure GLb (base : Nat) (ad : Nat → Addr) (w : World) : Prop where
  g3 : w.cell? ⟨3,0,none⟩ = some (errV (ad 3))
  g4 : w.cell? ⟨4,0,none⟩ = some (errV (ad 4))
  g5 : w.cell? ⟨5,0,none⟩ = some (errV (ad 5))
  g6 : w.cell? ⟨6,0,none⟩ = some (errV (ad 6))
  lo : 8 + 1 ≤ base
  le : base ≤ w.heap.size
  tab : Lib.TabIs Tryz.prog w "internal/strconv.uint64pow10" .u64 Lib.pow10Tab
  lo2 : 10 < base
theorem GLb.gb {C : TC} {ad : Nat → Addr} {w w' : World} (h : GLb C.base ad w) (g : Gb C.own w w') : GLb C.base ad w' := by
  have l := h.lo
  have l2 := h.le
  have hl : ∀ b,b < 8 + 1 → b < w.heap.size ∧ ¬ C.own b := fun b hb => ⟨by omega,fun e => by have := e.1; omega⟩
  exact ⟨g.cell h.g3 (hl _ (by decide)).1 (hl _ (by decide)).2,g.cell h.g4 (hl _ (by decide)).1 (hl _ (by decide)).2,g.cell h.g5 (hl _ (by decide)).1 (hl _ (by decide)).2,g.cell h.g6 (hl _ (by decide)).1 (hl _ (by decide)).2,l,Nat.le_trans l2 g.size,tab_same h.tab (g.block _ (Nat.lt_of_lt_of_le h.lo2 l2) (fun e => absurd e.1 (Nat.not_le.2 h.lo2))),h.lo2⟩
theorem GLb.of {ad : Nat → Addr} {cs : Nat → Array Value} {ts : Nat → TypeId} {w : World} (h : SW w ad cs ts) (ht : Lib.TabIs Tryz.prog w "internal/strconv.uint64pow10" .u64 Lib.pow10Tab) : GLb w.heap.size ad w := ⟨h.g3,h.g4,h.g5,h.g6,h.hsz,Nat.le_refl _,ht,tab_lt ht⟩
theorem GLb.tabW {C : TC} {ad : Nat → Addr} {w : World} {ca : List Nat} (h : GLb C.base ad w) (hc : ∀ a,a ∈ ca → C.own a) : TabW ca w := ⟨h.tab,fun hm => absurd (hc _ hm).1 (Nat.not_le.2 h.lo2),Nat.lt_of_lt_of_le h.lo2 h.le⟩
def TSE (C : TC) (ad : Nat → Addr) (H : Nat → Option Obj) (ca : List Nat) (r : Sum Nat (Sto × Nat)) (nb : List (List UInt8 × Et)) (w : World) (e : Ending) (w' : World) : Prop := match r with
  | .inl q => e = fltE (ad q) ∧ Gb C.own w w'
  | .inr x => TSP C H ca x.1 x.2 nb w e w'
def liftE (r : Option (Sto × Nat)) : Option (Sum Nat (Sto × Nat)) := match r with
  | none => none
  | some x => some (.inr x)
def withE (P : Ex → List (List UInt8 × Et) → Sto → Option (Sum Nat (Sto × Nat))) (b : Ex) (nb nbs : List (List UInt8 × Et)) (σ : Sto) : Option (Sum Nat (Sto × Nat)) := if nb.length + nbs.length ≤ 1000 then P b (nb ++ nbs) σ else none
def PAE (C : TC) (ad : Nat → Addr) (P : Ex → List (List UInt8 × Et) → Sto → Option (Sum Nat (Sto × Nat))) : Prop := ∀ (e : Ex) (v : Value) (m : Nat) (σ : Sto) (nb : List (List UInt8 × Et)) (r : Sum Nat (Sto × Nat)) (H : Nat → Option Obj) (ca : List Nat) (d : Nat → Nat) (nv : Value) (vs : List NE) (w : World),
  PRep m H v e → P e nb σ = some r → TSv C H ca σ d nb nv vs w → GLb C.base ad w → Calls Tryz.prog 75 #[CP C.tb,v] w (TSE C ad H ca r nb w)
theorem within_e {C : TC} {ad : Nat → Addr} {P : Ex → List (List UInt8 × Et) → Sto → Option (Sum Nat (Sto × Nat))} (hP : PAE C ad P) {e : Ex} {v : Value} {m : Nat} {σ : Sto} {nb nbs : List (List UInt8 × Et)} {r : Sum Nat (Sto × Nat)} {H : Nat → Option Obj} {ca : List Nat} {d : Nat → Nat} {nv : Value} {vs nws : List NE} {w : World} {gm capm : Nat}
    (hp : PRep m H v e) (hr : P e (nb ++ nbs) σ = some r) (hgl : GLb C.base ad w) (h : TSv C H ca σ d nb nv vs w) (hl : nws.length = nbs.length) (h0 : 0 < nws.length) (hk : nb.length + nbs.length ≤ 1000) (hc : ∀ j u,(nmCells nws)[j]? = some u → w.cell? ((⟨gm,0,none⟩ : Addr).add j) = some u) (hi : ∀ (i : Nat) (p : NE) q,nws[i]? = some p → nbs[i]? = some q → p.1 = q.1 ∧ ER H ca p.v q.2) :
    Calls Tryz.prog 157 #[CP C.tb,v,.slice (some ⟨gm,0,none⟩) nws.length capm] w (TSE C ad H ca r nb w) := by
  obtain ⟨T0,b0,rfl⟩ := hp.val
  have hln : (Builtin.len_ #[169] 3 #[nv]).run Tryz.prog w = .ok (.int .i64 (vs.length : Int)) w := by
    obtain ⟨a0,cap0,rfl⟩ := h.nr.slice
    rfl
  obtain ⟨c4,f4⟩ := h.ms.bk.c4
  have hbs := h.bs
  have hlen := h.nr.len
  have hown := h.nr.own
  have Q := hid (And.intro h (And.intro hp (And.intro hr (And.intro hi hgl))))
  obtain ⟨i0,hi0,hz0,hz1,hz2⟩ := info_parts info_named
  have hP' := hid hP
  have hbd : vs.length + nws.length ≤ 1000 := by omega
  have HL := hid (And.intro hl (And.intro hlen hk))
  clear h hp hr hi hP hl hlen hk hgl
  unfold CP
  go_enter Tryz.func157,Tryz.ntmps157
  go_wp2_with (at_builtin; refine wpList_append_lies _ rfl (.tmp 18) (.tmp 19) 169 rfl C.base 338 i0 (.agg #[.string (B []),.nilIface]) 2 32 Tryz.underlying169 hi0 hz0 hz1 hz2 rfl (by decide) _ _ _ rfl hown ⟨gm,0,none⟩ nws.length capm (nmCells nws) rfl (nmCells_len nws) hc (nm_one nws) h0 (by unfold maxLen; omega) (by omega) hbs w.heap.size rfl ?_)
  intro g7 cap7 w7 hown7 hgrow7 hat7 _
  rw [← nmCells_app] at hown7
  obtain ⟨hl,hlen,hk⟩ := HL.out
  have hll : vs.length + nws.length = (vs ++ nws).length := (List.length_append ..).symm
  have e7 := hown7
  rw [hll] at e7
  obtain ⟨c7,f7⟩ := (Q.out.1.ms.bk.gb (R := fun k => nv.ownBlock = some k) (Gb.of hgrow7 (fun b e => Or.inl e)) (fun e => (Q.out.1.nr.off _ e).2.2 rfl)).c4
  have N1 := hid (Q.out.1.names (nb' := nb ++ nbs) (vs' := vs ++ nws) (R := fun k => nv.ownBlock = some k) (Gb.of hgrow7 (fun b e => Or.inl e)) (fun k e => e) e7 (by simp [hl,hlen]) (fun i p q e1 e2 => by
      rcases Nat.lt_or_ge i vs.length with hi | hi
      · rw [List.getElem?_append_left hi] at e1
        rw [List.getElem?_append_left (by omega)] at e2
        exact Q.out.1.nr.is i p q e1 e2
      · rw [List.getElem?_append_right hi] at e1
        rw [List.getElem?_append_right (by omega),← hlen] at e2
        exact Q.out.2.2.2.1 _ p q e1 e2) (fun k hk => by
      rcases hat7 with e | e
      · have : g7 = k := by simpa [Value.ownBlock] using hk
        rw [← this]; exact Or.inl e
      · have : g7 = k := by simpa [Value.ownBlock] using hk
        exact Or.inr (by omega)) (by simp; omega))
  have CB := hid (hP'.out e _ m σ (nb ++ nbs) r H ca d _ _ _ Q.out.2.1 Q.out.2.2.1 N1.out.1 (Q.out.2.2.2.2.gb N1.out.2))
  rw [← hll] at N1 CB
  clear hown7 hgrow7 hat7 e7 hown hc hln c4 f4 hl hlen hk hll
  unfold CP at CB
  cases r with
  | inl q =>
    go_wp2_with fail
    refine CB.out.mono ?_
    rintro e w9 ⟨rfl,g1⟩
    have Q9 := hid (N1.out.2.tr g1)
    clear g1 CB N1 Q
    unfold fltE errV
    go_wp2
    exact ⟨rfl,rfl,Q9.out⟩
  | inr y =>
  obtain ⟨σ',c⟩ := y
  go_wp2_with fail
  refine CB.out.mono ?_
  rintro e w9 ⟨H1,ca1,d1,x,nv1,vs1,rfl,ex,t1,mx1,g1⟩
  have hlen1 := t1.nr.len
  obtain ⟨hl,hlen,hk⟩ := HL.out
  obtain ⟨o1,o2⟩ := t1.nr.own
  have hl3 : (nb ++ nbs).length = nb.length + nbs.length := List.length_append ..
  rcases o2 with ⟨_,o3⟩ | ⟨g,cap,cur,rfl,o3,o4,o5,o6,o7,o8⟩
  · omega
  have hcap : vs.length ≤ cap := by omega
  have hcap1 : cap ≤ 9223372036854775807 := by unfold maxLen at o6; omega
  obtain ⟨c9,f9⟩ := t1.ms.bk.c4
  have N2 := hid (t1.names (nb' := nb) (vs' := vs1.take vs.length) (nv' := .slice (some ⟨g,0,none⟩) vs.length cap) (R := fun _ => False) (Gb.refl _ _) (fun k e => e.elim) ⟨by rw [nmCells_len],.inr ⟨g,cap,cur,by rw [List.length_take,Nat.min_eq_left (by omega)],o3,o4,by rw [List.length_take,Nat.min_eq_left (by omega)]; exact hcap,o6,o7,by
      rw [List.length_take,Nat.min_eq_left (by omega),nmCells_take,← o8,List.take_take,Nat.min_eq_left (by omega)]⟩⟩ (by rw [List.length_take,Nat.min_eq_left (by omega),hlen]) (fun i p q e1 e2 => by
      have hi : i < vs.length := by rw [hlen]; exact (List.getElem?_eq_some_iff.1 e2).1
      rw [List.getElem?_take_of_lt hi] at e1
      exact t1.nr.is i p q e1 (by rw [List.getElem?_append_left (by omega)]; exact e2)) (fun k hk => Or.inl (by simpa [Value.ownBlock] using hk)) (by omega))
  have Q2 := hid (show TSP C H ca σ' c nb w (.returned (CP x)) (w9.setCell ⟨C.tb,4,none⟩ (.slice (some ⟨g,0,none⟩) vs.length cap)) from ⟨H1,ca1,d1,x,_,_,rfl,ex,N2.out.1,mx1.low N1.out.2.size,(N1.out.2.tr g1).tr N2.out.2⟩)
  have hvl : vs.length ≤ vs1.length := by omega
  clear ex t1 mx1 g1 N2 o1 o3 o4 o7 o8 N1 CB Q hlen1 hl hlen hk hl3
  unfold CP at *
  go_wp2
  go_ret
  exact Q2.out
theorem by_end {X : Prop} (w : World) (h : X) : wpAny Tryz.prog .text #[] (fun _ _ _ => True) 0 #[] ⟨#[],[]⟩ w → X := fun _ => h
def foundE (P : Ex → List (List UInt8 × Et) → Sto → Option (Sum Nat (Sto × Nat))) (nb ahead : List (List UInt8 × Et)) : List Ex → Sto → Option (Sum Nat (Sto × List Nat))
  | [],σ => some (.inr (σ,[]))
  | e :: es,σ => match withE P e nb ahead σ with
    | none => none
    | some (.inl q) => some (.inl q)
    | some (.inr x) => match foundE P nb ahead es x.1 with
      | none => none
      | some (.inl q) => some (.inl q)
      | some (.inr y) => some (.inr (y.1,x.2 :: y.2))
def nextT (σ : Sto) (L : List Nat) : List (List UInt8) → List Nat → Option (List (List UInt8 × Et))
  | n :: ns,c :: cs => match generalU σ L 400 c with
    | none => none
    | some t => match nextT σ L ns cs with
      | none => none
      | some l => some ((n,t) :: l)
  | [],[] => some []
  | _,_ => none
def roundE (P : Ex → List (List UInt8 × Et) → Sto → Option (Sum Nat (Sto × Nat))) (ns : List (List UInt8)) (es : List Ex) (nb ahead : List (List UInt8 × Et)) (σ : Sto) : Option (Sum Nat (Sto × List (List UInt8 × Et))) := match foundE P nb ahead es σ with
  | none => none
  | some (.inl q) => some (.inl q)
  | some (.inr x) => match reachS x.1 nb with
    | none => none
    | some L => match nextT x.1 L ns x.2 with
      | none => none
      | some l => some (.inr (x.1,l))
def sameG (σ : Sto) : List (List UInt8 × Et) → List (List UInt8 × Et) → Option Bool
  | a :: xs,b :: ys => match sameS σ 400 a.2 b.2 [] [] with
    | none => none
    | some none => some false
    | some (some _) => sameG σ xs ys
  | [],[] => some true
  | _,_ => none
theorem any_q (w : World) : Calls Tryz.prog 185 #[] w fun e w' => ∃ b,e = .returned (.agg #[.iface 242 (.pointer (some ⟨b,0,none⟩))]) ∧ w.heap.size ≤ b ∧ w'.heap[b]? = some (.cells #[.string (B [97])] 246 (0,0)) ∧ w.grownBy w' none := by
  go_enter Tryz.func185,Tryz.ntmps185
  go_wp2
  have g1 : w.grownBy (w.alloc (.cells #[.iface 242 (.pointer (some ⟨w.heap.size + 1,0,none⟩))] 109)) none := World.grownBy_alloc _ _ _
  have g2 : (w.alloc (.cells #[.iface 242 (.pointer (some ⟨w.heap.size + 1,0,none⟩))] 109)).grownBy ((w.alloc (.cells #[.iface 242 (.pointer (some ⟨w.heap.size + 1,0,none⟩))] 109)).alloc (.cells #[.string (B [97])] 246)) none := World.grownBy_alloc _ _ _
  have c0 := blk_c ((g2.block w.heap.size (by simp) (by simp)).trans (heap_alloc_new _ _)) 0 rfl
  refine bodyPost_ret (v := .agg #[.iface 242 (.pointer (some ⟨w.heap.size + 1,0,none⟩))]) (by simp [results,Tryz.results185,go_sem]) rfl ?_
  exact ⟨_,rfl,Nat.le_succ _,heap_alloc_at _ _ _ (by simp),g1.trans g2⟩
def RowN (ca : List Nat) (w : World) (v : Value) (vs : List NE) : Prop := ∃ g cap,v = .slice (some ⟨g,0,none⟩) vs.length cap ∧ g < w.heap.size ∧ g ∉ ca ∧ ∀ (j : Nat) (p : NE),vs[j]? = some p → w.cell? ⟨g,j * 2,none⟩ = some (.string (B p.1)) ∧ w.cell? ⟨g,j * 2 + 1,none⟩ = some p.v
theorem same_t {H H0 : Nat → Option Obj} {lo : Nat} {ca : List Nat} {σ : Sto} {d : Nat → Nat} {va vb : Value} {xs ys : List NE} {ahead next : List (List UInt8 × Et)} {r : Bool} {w : World} (hs : ∀ k o,H0 k = some o → H k = some o) (hlo : ∀ k o,H0 k = some o → k < lo) (hA : RowN ca w va xs) (hB : RowN ca w vb ys) (la : xs.length = ahead.length) (lb : ys.length = next.length) (hl : ahead.length = next.length) (hn : ys.length ≤ 1000)
    (ea : ∀ (i : Nat) (p : NE) q,xs[i]? = some p → ahead[i]? = some q → ∃ m,ERep 0 H0 ca m p.v q.2) (eb : ∀ (i : Nat) (p : NE) q,ys[i]? = some p → next[i]? = some q → ∃ m,ERep lo H ca m p.v q.2) (hr : sameG σ ahead next = some r) (hc : CSd H ca σ d w) :
    Calls Tryz.prog 188 #[va,vb] w fun e w' => e = .returned (.bool r) ∧ CSd H ca σ d w' ∧ Gb (InAs ca) w w' := by
  obtain ⟨ga,capa,rfl,hga,hna,hca⟩ := hA
  obtain ⟨gb,capb,rfl,hgb,hnb,hcb⟩ := hB
  have Q := hid (And.intro hs (And.intro hlo (And.intro ea (And.intro eb hc))))
  have HC := hid (And.intro hca hcb)
  have LL := hid (And.intro la (And.intro lb hl))
  have HR := hid (show sameG σ (ahead.drop 0) (next.drop 0) = some r from hr)
  have HV := hid (show xs.length = ys.length by rw [la,lb,hl])
  clear hs hlo ea eb hc hca hcb la lb hl hr
  go_enter Tryz.func188,Tryz.ntmps188
  go_wp2_with fail
  go_loopg [9] (ys.length + 1) (fun gh i wi => ∃ j : Nat,j ≤ ys.length ∧ i = .int .i64 j ∧ gh = ys.length - j + 1 ∧ Hid (sameG σ (ahead.drop j) (next.drop j) = some r) ∧ Hid (CSd H ca σ d wi ∧ Gb (InAs ca) w wi))
  case atStart => exact ⟨0,by omega,rfl,by omega,HR,hid ⟨Q.out.2.2.2.2,Gb.refl _ _⟩⟩
  case round =>
    obtain ⟨j,hj,rfl,hgj,HJ,HG⟩ := hrel
    by_cases hjl : j < ys.length
    · have hjx : j < xs.length := by rw [HV.out]; exact hjl
      obtain ⟨x,hx⟩ : ∃ x,xs[j]? = some x := ⟨_,List.getElem?_eq_getElem hjx⟩
      obtain ⟨y,hy⟩ : ∃ y,ys[j]? = some y := ⟨_,List.getElem?_eq_getElem hjl⟩
      have hja : j < ahead.length := by rw [← LL.out.1]; exact hjx
      have hjn : j < next.length := by rw [← LL.out.2.1]; exact hjl
      obtain ⟨a,ha⟩ : ∃ a,ahead[j]? = some a := ⟨_,List.getElem?_eq_getElem hja⟩
      obtain ⟨b,hb⟩ : ∃ b,next[j]? = some b := ⟨_,List.getElem?_eq_getElem hjn⟩
      have hd : ahead.drop j = a :: ahead.drop (j + 1) := by
        rw [List.drop_eq_getElem_cons hja]
        rw [List.getElem?_eq_getElem hja] at ha
        rw [Option.some.inj ha]
      have hd2 : next.drop j = b :: next.drop (j + 1) := by
        rw [List.drop_eq_getElem_cons hjn]
        rw [List.getElem?_eq_getElem hjn] at hb
        rw [Option.some.inj hb]
      have k1 : wr.cell? ⟨ga,j * 2 + 1,none⟩ = some (.iface x.2.1 (.pointer (some ⟨x.2.2,0,none⟩))) := HG.out.2.cell (HC.out.1 j x hx).2 hga hna
      have k2 : wr.cell? ⟨gb,j * 2,none⟩ = some (.string (B y.1)) := HG.out.2.cell (HC.out.2 j y hy).1 hgb hnb
      have k3 : wr.cell? ⟨gb,j * 2 + 1,none⟩ = some (.iface y.2.1 (.pointer (some ⟨y.2.2,0,none⟩))) := HG.out.2.cell (HC.out.2 j y hy).2 hgb hnb
      have l1 : ga < wr.heap.size := Nat.lt_of_lt_of_le hga HG.out.2.size
      have hjj := HJ.out
      rw [hd,hd2,sameG] at hjj
      have gn : wr.grownBy (wr.alloc (.cells #[.string (B y.1),.iface y.2.1 (.pointer (some ⟨y.2.2,0,none⟩))] 338)).drew none := grown_drew (World.grownBy_alloc _ _ _)
      cases er : sameS σ 400 a.2 b.2 [] [] with
      | none => rw [er] at hjj; cases hjj
      | some rj =>
        rw [er] at hjj
        have CON := hid (Same_any Q.out.1 Q.out.2.1 (Q.out.2.2.1 j x a hx ha) (Q.out.2.2.2.1 j y b hy hb) er (HG.out.1.grown0 gn))
        have GN := hid (HG.out.2.tr (Gb.new gn))
        have JJ := hid hjj
        clear hx hy ha hb hd hd2 hjj er HJ gn hja hjn
        unfold NE.v at CON
        go_wp2_with fail
        cases rj with
        | none =>
          have hr9 : r = false := (Option.some.inj JJ.out).symm
          subst hr9
          go_region_with (go_at_call 197; refine CON.out.mono ?_; rintro e w5 ⟨rfl,c5,g5⟩; have G5 := hid (And.intro c5 (GN.out.tr g5)); clear c5 g5)
          all_goals go_wp2
          all_goals go_ret
          all_goals exact ⟨rfl,G5.out.1,G5.out.2⟩
        | some z =>
          have J2 := hid (show sameG σ (ahead.drop (j + 1)) (next.drop (j + 1)) = some r from JJ.out)
          go_region_with (go_at_call 197; refine CON.out.mono ?_; rintro e w5 ⟨rfl,c5,g5⟩; have G5 := hid (And.intro c5 (GN.out.tr g5)); clear c5 g5)
          all_goals
            go_wp2_with fail
            go_roundg (ys.length - (j + 1) + 1)
            case measure => omega
            case rel => exact ⟨j + 1,by omega,by go_num,rfl,J2,G5⟩
    · have hje : j = ys.length := by omega
      have hr9 : r = true := by
        have h3 := HJ.out
        rw [hje,List.drop_eq_nil_of_le (by rw [← LL.out.1,HV.out]; exact Nat.le_refl _),List.drop_eq_nil_of_le (by rw [← LL.out.2.1]; exact Nat.le_refl _)] at h3
        exact (Option.some.inj h3).symm
      subst hje
      subst hr9
      clear HJ
      go_wp2
      go_ret
      exact ⟨rfl,HG.out.1,HG.out.2⟩
def TC.and (C : TC) (g : Nat) : TC := { C with keep := g :: C.keep }
theorem TC.and_own {C : TC} {g k : Nat} (h : (C.and g).own k) : C.own k := ⟨h.1,fun e => h.2 (List.mem_cons_of_mem _ e)⟩
theorem TSv.keep {C : TC} {H : Nat → Option Obj} {ca : List Nat} {σ : Sto} {d : Nat → Nat} {nb : List (List UInt8 × Et)} {nv : Value} {vs : List NE} {w : World} (h : TSv C H ca σ d nb nv vs w) {g : Nat} (hg : g < w.heap.size) (ht : g ≠ C.tb) (ha : g ∉ ca) (hn : nv.ownBlock ≠ some g) : TSv (C.and g) H ca σ d nb nv vs w := by
  have no : ∀ {k},k ∉ C.keep → k ≠ g → k ∉ (C.and g).keep := fun h1 h2 h3 => by
    rcases List.mem_cons.1 h3 with e | e
    · exact h2 e
    · exact h1 e
  exact ⟨h.ms,h.nr,h.env,h.mlo,⟨h.tlo.1,no h.tlo.2 (Ne.symm ht)⟩,fun a hm => ⟨(h.clo a hm).1,no (h.clo a hm).2 (fun e => ha (e ▸ hm))⟩,fun k hk => by
    rcases List.mem_cons.1 hk with e | e
    · rw [e]; exact hg
    · exact h.kp k e,fun k hk => no (h.nko k hk) (fun e => hn (e ▸ hk))⟩
theorem TSv.unkeep {C : TC} {H : Nat → Option Obj} {ca : List Nat} {σ : Sto} {d : Nat → Nat} {nb : List (List UInt8 × Et)} {nv : Value} {vs : List NE} {w : World} {g : Nat} (h : TSv (C.and g) H ca σ d nb nv vs w) : TSv C H ca σ d nb nv vs w :=
  ⟨h.ms,h.nr,h.env,h.mlo,TC.and_own h.tlo,fun a hm => TC.and_own (h.clo a hm),fun k hk => h.kp k (List.mem_cons_of_mem _ hk),fun k hk e => h.nko k hk (List.mem_cons_of_mem _ e)⟩
theorem TSv.apart {C : TC} {H : Nat → Option Obj} {ca : List Nat} {σ : Sto} {d : Nat → Nat} {nb : List (List UInt8 × Et)} {nv : Value} {vs : List NE} {w : World} {g : Nat} (h : TSv (C.and g) H ca σ d nb nv vs w) : g ∉ ca ∧ nv.ownBlock ≠ some g :=
  ⟨fun hm => (h.clo g hm).2 (List.mem_cons_self ..),fun e => h.nko g e (List.mem_cons_self ..)⟩
theorem and_gb {C : TC} {g : Nat} {w w' : World} (h : Gb (C.and g).own w w') : Gb C.own w w' := h.mono fun _ e => TC.and_own e
structure AHd (H : Nat → Option Obj) (ca : List Nat) (g : Nat) (nws : List NE) (ahead : List (List UInt8 × Et)) : Prop where
  row : ∃ cur,H g = some (.cells cur 338 (0,0)) ∧ cur.toList.take (nws.length * 2) = nmCells nws
  len : nws.length = ahead.length
  is : ∀ (i : Nat) (p : NE) q,nws[i]? = some p → ahead[i]? = some q → p.1 = q.1 ∧ ER H ca p.v q.2
theorem AHd.mx {H H' : Nat → Option Obj} {ca ca' : List Nat} {w : World} {g : Nat} {nws : List NE} {ahead : List (List UInt8 × Et)} (h : AHd H ca g nws ahead) (x : MX H H' ca ca' w) : AHd H' ca' g nws ahead := by
  obtain ⟨cur,h1,h2⟩ := h.row
  exact ⟨⟨cur,x.ext _ _ h1,h2⟩,h.len,fun i p q e1 e2 => ⟨(h.is i p q e1 e2).1,x.er (h.is i p q e1 e2).2⟩⟩
theorem AHd.cells {H : Nat → Option Obj} {ca : List Nat} {g : Nat} {nws : List NE} {ahead : List (List UInt8 × Et)} {w : World} (h : AHd H ca g nws ahead) (hz : Fz H w) : ∀ j u,(nmCells nws)[j]? = some u → w.cell? ((⟨g,0,none⟩ : Addr).add j) = some u := fun j u e => by
  obtain ⟨cur,h1,h2⟩ := h.row
  have hj : j < nws.length * 2 := by rw [← nmCells_len]; exact (List.getElem?_eq_some_iff.1 e).1
  rw [← h2,List.getElem?_take_of_lt hj] at e
  have e2 : cur[j]? = some u := by simpa using e
  by_cases h0 : j = 0
  · subst h0
    simp [Addr.add,World.cell?,hz _ _ h1,e2]
  · simp [Addr.add,h0,World.cell?,hz _ _ h1,e2]
def FSt (C : TC) (H : Nat → Option Obj) (ca : List Nat) (nb : List (List UInt8 × Et)) (w0 : World) (σ : Sto) (cs : List Nat) (fv : Value) (w : World) : Prop :=
  ∃ (H' : Nat → Option Obj) (ca' : List Nat) (d' : Nat → Nat) (nv' : Value) (vs' : List NE) (xs : List Nat),TSv C H' ca' σ d' nb nv' vs' w ∧ MX H H' ca ca' w0 ∧ Gb C.own w0 w ∧ xs.length = cs.length ∧ (∀ (i c x : Nat),cs[i]? = some c → xs[i]? = some x → ca'[c]? = some x) ∧ w.ownsRow C.base 173 1 fv cs.length (xs.map CP) ∧ ∀ g,fv.ownBlock = some g → H' g = none ∧ g ∉ ca' ∧ g ≠ C.tb ∧ nv'.ownBlock ≠ some g ∧ g ∉ C.keep
def FSm (C : TC) (H : Nat → Option Obj) (ca : List Nat) (nb : List (List UInt8 × Et)) (w0 : World) (σ : Sto) (cs : List Nat) (fv : Value) (c x : Nat) (w : World) : Prop :=
  ∃ (H' : Nat → Option Obj) (ca' : List Nat) (d' : Nat → Nat) (nv' : Value) (vs' : List NE) (xs : List Nat),TSv C H' ca' σ d' nb nv' vs' w ∧ MX H H' ca ca' w0 ∧ Gb C.own w0 w ∧ xs.length = cs.length ∧ (∀ (i c x : Nat),cs[i]? = some c → xs[i]? = some x → ca'[c]? = some x) ∧ w.ownsRow C.base 173 1 fv cs.length (xs.map CP) ∧ (∀ g,fv.ownBlock = some g → H' g = none ∧ g ∉ ca' ∧ g ≠ C.tb ∧ nv'.ownBlock ≠ some g ∧ g ∉ C.keep) ∧ ca'[c]? = some x
def FSP (C : TC) (ad : Nat → Addr) (H : Nat → Option Obj) (ca : List Nat) (nb : List (List UInt8 × Et)) (w0 : World) (cs : List Nat) (fv : Value) (r : Sum Nat (Sto × Nat)) (e : Ending) (w : World) : Prop := match r with
  | .inl q => e = fltE (ad q) ∧ Gb C.own w0 w
  | .inr y => ∃ x,e = .returned (CP x) ∧ FSm C H ca nb w0 y.1 cs fv y.2 x w
theorem own_or (v : Value) : v.ownBlock = none ∨ ∃ g,v.ownBlock = some g := by
  cases v.ownBlock with
  | none => exact Or.inl rfl
  | some g => exact Or.inr ⟨g,rfl⟩
theorem found_step {C : TC} {ad : Nat → Addr} {P : Ex → List (List UInt8 × Et) → Sto → Option (Sum Nat (Sto × Nat))} (hP : ∀ K,PAE { C with keep := K } ad P) {H : Nat → Option Obj} {ca : List Nat} {nb ahead : List (List UInt8 × Et)} {w0 w w1 : World} {σ : Sto} {cs : List Nat} {fv : Value} {gA capA : Nat} {nws : List NE} {v : Value} {m : Nat} {e : Ex} {r : Sum Nat (Sto × Nat)}
    (h : FSt C H ca nb w0 σ cs fv w) (hA : AHd H ca gA nws ahead) (h0 : 0 < nws.length) (hp : PRep m H v e) (hr : withE P e nb ahead σ = some r) (hgl : GLb C.base ad w0) (g : w.grownBy w1 none) :
    Calls Tryz.prog 157 #[CP C.tb,v,.slice (some ⟨gA,0,none⟩) nws.length capA] w1 (FSP C ad H ca nb w0 cs fv r) := by
  obtain ⟨H',ca',d',nv',vs',xs,t,mx,gb,lx,hx,row,off⟩ := h
  unfold withE at hr
  split at hr
  case isFalse => cases hr
  rename_i hk
  have t1 := t.grown g
  have hA' := hA.mx mx
  have gW : Gb C.own w0 w1 := gb.tr (Gb.new g)
  have hgl1 := hgl.gb gW
  have row1 := ownsRow_gb row (Gb.new g (R := fun _ => False)) (fun _ _ => id)
  have hk2 : nb.length + ahead.length ≤ 1000 := hk
  rcases own_or fv with hn | ⟨q,hq⟩
  · refine (within_e (capm := capA) (hP C.keep) (mx.prep hp) hr hgl1 t1 hA'.len h0 hk2 (hA'.cells t1.ms.cs.fz) hA'.is).mono ?_
    intro e w2 h2
    cases r with
    | inl z => exact ⟨h2.1,gW.tr h2.2⟩
    | inr y =>
      obtain ⟨H2,ca2,d2,x,nv2,vs2,rfl,ex,t2,mx2,g2⟩ := h2
      refine ⟨x,rfl,H2,ca2,d2,nv2,vs2,xs,t2,mx.trans (mx2.low (Nat.le_refl _)) (gW.size),gW.tr g2,lx,fun i c y e1 e2 => get_pre mx2.pre (hx i c y e1 e2),ownsRow_gb row1 g2 (fun k hk => by rw [hn] at hk; cases hk),(fun k hk => by rw [hn] at hk; cases hk),ex⟩
  · obtain ⟨o1,o2,o3,o4,o5⟩ := off q hq
    have lq : q < w1.heap.size := Nat.lt_of_lt_of_le (row.lt q hq).2 g.size
    have t1' := t1.keep lq o3 o2 o4
    refine (within_e (C := C.and q) (capm := capA) (hP (q :: C.keep)) (mx.prep hp) hr hgl1 t1' hA'.len h0 hk2 (hA'.cells t1.ms.cs.fz) hA'.is).mono ?_
    intro e w2 h2
    cases r with
    | inl z => exact ⟨h2.1,gW.tr (and_gb h2.2)⟩
    | inr y =>
      obtain ⟨H2,ca2,d2,x,nv2,vs2,rfl,ex,t2,mx2,g2⟩ := h2
      have ap := t2.apart
      refine ⟨x,rfl,H2,ca2,d2,nv2,vs2,xs,t2.unkeep,mx.trans (mx2.low (Nat.le_refl _)) (gW.size),gW.tr (and_gb g2),lx,fun i c y e1 e2 => get_pre mx2.pre (hx i c y e1 e2),ownsRow_gb row1 g2 (fun k hk => ?_),fun k hk => ?_,ex⟩
      · rw [hq] at hk; cases hk; exact fun e => e.2 (List.mem_cons_self ..)
      · rw [hq] at hk; cases hk; exact ⟨mx2.none lq o1,ap.1,o3,ap.2,o5⟩
theorem TSv.side {C : TC} {H : Nat → Option Obj} {ca : List Nat} {σ : Sto} {d : Nat → Nat} {nb : List (List UInt8 × Et)} {nv : Value} {vs : List NE} {w w' : World} {R : Nat → Prop} (h : TSv C H ca σ d nb nv vs w) (g : Gb R w w') (hR : ∀ q,R q → H q = none ∧ q ∉ ca ∧ q ≠ C.tb ∧ nv.ownBlock ≠ some q ∧ C.base ≤ q) : TSv C H ca σ d nb nv vs w' :=
  ⟨⟨h.ms.cs.gb g (fun a ha e => (hR a e).2.1 ha) (fun k o e e2 => by rw [(hR k e2).1] at e; cases e),h.ms.bk.gb g (fun e => (hR _ e).2.2.1 rfl),h.ms.ht,h.ms.hta⟩,h.nr.step (MX.refl _ _ _) g (fun k hk e => (hR k e).2.2.2.1 hk),h.env.step (MX.refl _ _ _) g (fun e => by have := (hR _ e).2.2.2.2; have := h.mlo; omega),h.mlo,h.tlo,h.clo,fun k hk => Nat.lt_of_lt_of_le (h.kp k hk) g.size,h.nko⟩
theorem found_app {C : TC} {H : Nat → Option Obj} {ca : List Nat} {nb : List (List UInt8 × Et)} {w0 w w2 : World} {σ : Sto} {cs : List Nat} {fv : Value} {c x : Nat} (h : FSm C H ca nb w0 σ cs fv c x w) (g2 : w.grownBy w2 none) :
    ∃ xs : List Nat,w2.ownsRow C.base 173 1 fv cs.length (xs.map CP) ∧ C.base ≤ w2.heap.size ∧ ∀ g cap w3,w3.ownsRow C.base 173 1 (.slice (some ⟨g,0,none⟩) (cs.length + 1) cap) (cs.length + 1) (xs.map CP ++ [CP x]) → w2.grownBy w3 fv.ownBlock → (fv.ownBlock = some g ∨ g = w2.heap.size) → FSt C H ca nb w0 σ (cs ++ [c]) (.slice (some ⟨g,0,none⟩) (cs.length + 1) cap) w3 := by
  obtain ⟨H',ca',d',nv',vs',xs,t,mx,gb,lx,hx,row,off,ex⟩ := h
  have row2 := ownsRow_gb row (Gb.new g2 (R := fun _ => False)) (fun _ _ => id)
  have t2 := t.grown g2
  refine ⟨xs,row2,t2.bs,fun g cap w3 hown hgr hat => ?_⟩
  have gR : Gb (fun k => fv.ownBlock = some k) w2 w3 := Gb.of hgr (fun b e => Or.inl e)
  have hR : ∀ q,fv.ownBlock = some q → H' q = none ∧ q ∉ ca' ∧ q ≠ C.tb ∧ nv'.ownBlock ≠ some q ∧ C.base ≤ q := fun q hq => ⟨(off q hq).1,(off q hq).2.1,(off q hq).2.2.1,(off q hq).2.2.2.1,(row.lt q hq).1⟩
  have t3 := t2.side gR hR
  refine ⟨H',ca',d',nv',vs',xs ++ [x],t3,mx,(gb.tr (Gb.new g2)).tr (gR.mono fun k hk => ⟨(hR k hk).2.2.2.2,(off k hk).2.2.2.2⟩),by simp [lx],fun i c' y e1 e2 => ?_,?_,fun q hq => ?_⟩
  · rcases Nat.lt_or_ge i cs.length with hi | hi
    · rw [List.getElem?_append_left hi] at e1
      rw [List.getElem?_append_left (by rw [lx]; exact hi)] at e2
      exact hx i c' y e1 e2
    · rw [List.getElem?_append_right hi] at e1
      rw [List.getElem?_append_right (by rw [lx]; exact hi),lx] at e2
      match hj : i - cs.length with
      | 0 => rw [hj] at e1 e2; cases e1; cases e2; exact ex
      | k + 1 => rw [hj] at e1; simp at e1
  · rw [List.length_append,List.map_append]
    exact hown
  · have eq : g = q := by simpa [Value.ownBlock] using hq
    subst eq
    rcases hat with e | e
    · exact off g e
    · have hz : w.heap.size ≤ g := by rw [e]; exact g2.size
      exact ⟨t.ms.cs.fz.none hz,fun hm => by have := InAs.lt t.ms.cs hm; omega,fun e2 => by have := t.ms.bk.lt; omega,fun e2 => by have := (t.nr.own.lt g e2).2; omega,fun hk => by have := t.kp g hk; omega⟩
theorem FSt.start {C : TC} {H : Nat → Option Obj} {ca : List Nat} {σ : Sto} {d : Nat → Nat} {nb : List (List UInt8 × Et)} {nv : Value} {vs : List NE} {w : World} (h : TSv C H ca σ d nb nv vs w) : FSt C H ca nb w σ [] (.slice none 0 0) w :=
  ⟨H,ca,d,nv,vs,[],h,MX.refl _ _ _,Gb.refl _ _,rfl,fun _ _ _ e => by simp at e,World.ownsRow_nil _ _ _ _,fun _ e => by cases e⟩
theorem bind_at : ∀ (ns : List (List UInt8)) (us : List Value) (j : Nat) (n : List UInt8) (u : Value),ns[j]? = some n → us[j]? = some u → (bindCells ns us)[j * 2]? = some (.string (B n)) ∧ (bindCells ns us)[j * 2 + 1]? = some u
  | n :: ns,u :: us,0,_,_,e1,e2 => by cases e1; cases e2; exact ⟨rfl,rfl⟩
  | n :: ns,u :: us,j + 1,n',u',e1,e2 => by
    have h := bind_at ns us j n' u' (by simpa using e1) (by simpa using e2)
    rw [show (j + 1) * 2 = j * 2 + 1 + 1 by omega]
    exact ⟨by simpa [bindCells] using h.1,by simpa [bindCells] using h.2⟩
  | [],_,_,_,_,e1,_ => by simp at e1
  | _ :: _,[],_,_,_,_,e2 => by simp at e2
theorem row_bind {H : Nat → Option Obj} {g : Nat} {cur : Array Value} {ns : List (List UInt8)} {us : List Value} {w : World} (hz : Fz H w) (h1 : H g = some (.cells cur 187 (0,0))) (h2 : cur.toList.take (ns.length * 2) = bindCells ns us) {j : Nat} {n : List UInt8} {u : Value} (e1 : ns[j]? = some n) (e2 : us[j]? = some u) : w.cell? ⟨g,j * 2,none⟩ = some (.string (B n)) ∧ w.cell? ⟨g,j * 2 + 1,none⟩ = some u := by
  have hj := (List.getElem?_eq_some_iff.1 e1).1
  have hb := bind_at ns us j n u e1 e2
  rw [← h2] at hb
  rw [List.getElem?_take_of_lt (by omega),List.getElem?_take_of_lt (by omega)] at hb
  have b1 : cur[j * 2]? = some (.string (B n)) := by simpa using hb.1
  have b2 : cur[j * 2 + 1]? = some u := by simpa using hb.2
  exact ⟨by simp [World.cell?,hz _ _ h1,b1],by simp [World.cell?,hz _ _ h1,b2]⟩
end Go.Proofs.YtcdijppegfcoaabGreatDoor
