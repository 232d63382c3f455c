import Derived.Test.YtcdijppegfcoaabGreatDoorZC45
set_option maxRecDepth 100000
set_option maxHeartbeats 20000000
namespace Go.Proofs.YtcdijppegfcoaabGreatDoor
open Go.RowKit
theorem ten_c {w : World} {b : Nat} {x0 x1 x2 x3 x4 x5 x6 x7 x8 x9 : Value} {t : TypeId} (h : w.heap[b]? = some (.cells #[x0,x1,x2,x3,x4,x5,x6,x7,x8,x9] t (0,0))) :
    (w.cell? ⟨b,0,none⟩ = some x0 ∧ w.cell? ⟨b,1,none⟩ = some x1 ∧ w.cell? ⟨b,2,none⟩ = some x2 ∧ w.cell? ⟨b,3,none⟩ = some x3 ∧ w.cell? ⟨b,4,none⟩ = some x4 ∧ w.cell? ⟨b,5,none⟩ = some x5 ∧ w.cell? ⟨b,6,none⟩ = some x6 ∧ w.cell? ⟨b,7,none⟩ = some x7 ∧ w.cell? ⟨b,8,none⟩ = some x8 ∧ w.cell? ⟨b,9,none⟩ = some x9) ∧ ∀ i,w.frozen? ⟨b,i,none⟩ = false := by
  refine ⟨by simp [World.cell?,h],fun i => by simp [World.frozen?,h]⟩
theorem set7_at {w : World} {b : Nat} {x0 x1 x2 x3 x4 x5 x6 x7 x8 x9 a1 a2 a3 a4 a5 a6 a7 : Value} {t : TypeId} (h : w.heap[b]? = some (.cells #[x0,x1,x2,x3,x4,x5,x6,x7,x8,x9] t (0,0))) : (((((((w.setCell ⟨b,1,none⟩ a1).setCell ⟨b,2,none⟩ a2).setCell ⟨b,3,none⟩ a3).setCell ⟨b,4,none⟩ a4).setCell ⟨b,5,none⟩ a5).setCell ⟨b,6,none⟩ a6).setCell ⟨b,7,none⟩ a7).heap[b]? = some (.cells #[x0,a1,a2,a3,a4,a5,a6,a7,x8,x9] t (0,0)) ∧ Gb (fun k => k = b) w (((((((w.setCell ⟨b,1,none⟩ a1).setCell ⟨b,2,none⟩ a2).setCell ⟨b,3,none⟩ a3).setCell ⟨b,4,none⟩ a4).setCell ⟨b,5,none⟩ a5).setCell ⟨b,6,none⟩ a6).setCell ⟨b,7,none⟩ a7) := by
  refine ⟨by simp [World.setCell,Array.getElem?_modify,h],?_⟩
  exact (((((((Gb.refl (fun k => k = b) w).set (b := b) (Or.inl rfl) 1 _).set (b := b) (Or.inl rfl) 2 _).set (b := b) (Or.inl rfl) 3 _).set (b := b) (Or.inl rfl) 4 _).set (b := b) (Or.inl rfl) 5 _).set (b := b) (Or.inl rfl) 6 _).set (b := b) (Or.inl rfl) 7 _
def RWs (base : Nat) (w : World) (rv : Value) (L : List (List (List UInt8) × List (List UInt8))) : Prop :=
  ∃ rows : List (Value × Nat × Value),rows.length = L.length ∧ w.ownsRow base 39 3 rv L.length (rdL rows) ∧ ∀ (i : Nat) (row : Value × Nat × Value) r,rows[i]? = some row → L[i]? = some r → row.2.1 = i + 1 ∧ w.ownsRow base 9 1 row.1 r.1.length (strV r.1) ∧ w.ownsRow base 9 1 row.2.2 r.2.length (strV r.2)
theorem RWs.gb {base : Nat} {w w' : World} {rv : Value} {L : List (List (List UInt8) × List (List UInt8))} {R : Nat → Prop} (h : RWs base w rv L) (g : Gb R w w') (hR : ∀ k,R k → k < base) : RWs base w' rv L := by
  obtain ⟨rows,h1,h2,h3⟩ := h
  have up : ∀ {T : TypeId} {z n : Nat} {v : Value} {xs : List Value},w.ownsRow base T z v n xs → w'.ownsRow base T z v n xs := fun q => ownsRow_gb0 q g (fun k hk e => by have := (q.lt k hk).1; have := hR k e; omega)
  exact ⟨rows,h1,up h2,fun i row r e1 e2 => ⟨(h3 i row r e1 e2).1,up (h3 i row r e1 e2).2.1,up (h3 i row r e1 e2).2.2⟩⟩
theorem RWs.gn {base : Nat} {w w' : World} {rv : Value} {L : List (List (List UInt8) × List (List UInt8))} (h : RWs base w rv L) (g : Gn w w') : RWs base w' rv L := by
  obtain ⟨rows,h1,h2,h3⟩ := h
  have up : ∀ {T : TypeId} {z n : Nat} {v : Value} {xs : List Value},w.ownsRow base T z v n xs → w'.ownsRow base T z v n xs := fun q => by
    obtain ⟨q1,q2⟩ := q
    refine ⟨q1,?_⟩
    rcases q2 with q2 | ⟨k,cap,cur,rfl,q3,q4,q5⟩
    · exact .inl q2
    · exact .inr ⟨k,cap,cur,rfl,q3,(g.block k (lt_of_block q4)).trans q4,q5⟩
  exact ⟨rows,h1,up h2,fun i row r e1 e2 => ⟨(h3 i row r e1 e2).1,up (h3 i row r e1 e2).2.1,up (h3 i row r e1 e2).2.2⟩⟩
theorem gn_gb {w w2 w3 : World} {R : Nat → Prop} (h : Gn w w2) (g : Gb R w2 w3) (hR : ∀ k,R k → w.heap.size ≤ k) : Gn w w3 :=
  ⟨g.os.trans h.os,g.output.trans h.output,Nat.le_trans h.size g.size,fun k hk => by rw [g.block k (Nat.lt_of_lt_of_le hk h.size) (fun e => by have := hR k e; omega),h.block k hk]⟩
theorem set10_gb (w : World) (b : Nat) (a0 a1 a2 a3 a4 a5 a6 a7 a8 a9 : Value) : Gb (fun k => k = b) w ((((((((((w.setCell ⟨b,0,none⟩ a0).setCell ⟨b,1,none⟩ a1).setCell ⟨b,2,none⟩ a2).setCell ⟨b,3,none⟩ a3).setCell ⟨b,4,none⟩ a4).setCell ⟨b,5,none⟩ a5).setCell ⟨b,6,none⟩ a6).setCell ⟨b,7,none⟩ a7).setCell ⟨b,8,none⟩ a8).setCell ⟨b,9,none⟩ a9) := (((((((((((Gb.refl (fun k => k = b) w).set (b := b) (Or.inl rfl) 0 _).set (b := b) (Or.inl rfl) 1 _).set (b := b) (Or.inl rfl) 2 _).set (b := b) (Or.inl rfl) 3 _).set (b := b) (Or.inl rfl) 4 _).set (b := b) (Or.inl rfl) 5 _).set (b := b) (Or.inl rfl) 6 _).set (b := b) (Or.inl rfl) 7 _).set (b := b) (Or.inl rfl) 8 _).set (b := b) (Or.inl rfl) 9 _)
def watV (rv : Value) (tx : List UInt8) (fa : Int) (r : Bool) : Value := .agg #[rv,.string (B tx),.int .i64 fa,.int .i64 0,.string (B []),.int .i64 0,.int .i64 0,.bool r,.slice none 0 0,.slice none 0 0]
theorem pwatch (s : List UInt8) (fuel stop : Nat) (L : List (List (List UInt8) × List (List UInt8))) (tx : List UInt8) (ev : Value) (fa : Int) (w : World) (hev : ev = .nilIface ∨ ∃ p q,ev = .iface p (.pointer (some q)))
    (CI : ∀ (W : World) (c : WCt) (mb : Nat),w.grownBy W none → FM W mb [] [] → WS c stop W.heap.size [] [] W → w.heap.size ≤ c.wb → Calls Tryz.prog 27 #[.string (B s),.map (some mb),.int .i64 (fuel : Int),c.f] W fun e w' => (∃ base K,W.heap.size ≤ base ∧ WS c stop base K L w') ∧ Gb (fun k => k = c.wb) W w' ∧ e = .returned (.tuple #[.string (B tx),ev]))
    (HF : ∀ W,Gn w W → Calls Tryz.prog 22 #[ev] W fun e w' => e = .returned (fv fa 0) ∧ Gn W w') :
    Calls Tryz.prog 13 #[.string (B s),.slice none 0 0,.slice none 0 0,.int .i64 (fuel : Int),.int .i64 (stop : Int),.string (B [])] w fun e w' => Gn w w' ∧ ∃ base rv r,e = .returned (watV rv tx fa r) ∧ RWs base w' rv L := by
  have HE := hid (fun (W : World) => env_q [] [] W _ _ (SRow.nil W) (SRow.nil W) rfl (by simp) List.nodup_nil (fun i hi => absurd hi (by simp)) (fun i hi => absurd hi (by simp)))
  have HC := hid CI
  have HFF := hid HF
  have hmf : ∀ (fn : Fn) (first cap : Array Value) (w : World),(Instr.makeFunc fn first cap).run Tryz.prog w = .ok (.func fn first cap) w := fun _ _ _ _ => rfl
  clear CI HF
  have gW0 : w.grownBy ((((w.alloc (.cells #[.int .i64 (fuel : Int)] 3)).alloc (.cells #[.int .i64 (stop : Int)] 3)).alloc (.cells #[.string (B [])] 9)).alloc (.cells #[.slice none 0 0,.string (B []),.int .i64 0,.int .i64 0,.string (B []),.int .i64 0,.int .i64 0,.bool false,.slice none 0 0,.slice none 0 0] 36)) none := (((World.grownBy_alloc _ _ _).trans (World.grownBy_alloc _ _ _)).trans (World.grownBy_alloc _ _ _)).trans (World.grownBy_alloc _ _ _)
  have sW0 : (((((w.alloc (.cells #[.int .i64 (fuel : Int)] 3)).alloc (.cells #[.int .i64 (stop : Int)] 3)).alloc (.cells #[.string (B [])] 9)).alloc (.cells #[.slice none 0 0,.string (B []),.int .i64 0,.int .i64 0,.string (B []),.int .i64 0,.int .i64 0,.bool false,.slice none 0 0,.slice none 0 0] 36))).heap.size = w.heap.size + 1 + 1 + 1 + 1 := by simp
  have n0 : (((((w.alloc (.cells #[.int .i64 (fuel : Int)] 3)).alloc (.cells #[.int .i64 (stop : Int)] 3)).alloc (.cells #[.string (B [])] 9)).alloc (.cells #[.slice none 0 0,.string (B []),.int .i64 0,.int .i64 0,.string (B []),.int .i64 0,.int .i64 0,.bool false,.slice none 0 0,.slice none 0 0] 36))).heap[w.heap.size]? = some (.cells #[.int .i64 (fuel : Int)] 3 (0,0)) := by
    rw [Below.heap_alloc _ _ _ (by simp <;> omega),Below.heap_alloc _ _ _ (by simp <;> omega),Below.heap_alloc _ _ _ (by simp <;> omega)]
    exact heap_alloc_new _ _
  have n1 : (((((w.alloc (.cells #[.int .i64 (fuel : Int)] 3)).alloc (.cells #[.int .i64 (stop : Int)] 3)).alloc (.cells #[.string (B [])] 9)).alloc (.cells #[.slice none 0 0,.string (B []),.int .i64 0,.int .i64 0,.string (B []),.int .i64 0,.int .i64 0,.bool false,.slice none 0 0,.slice none 0 0] 36))).heap[w.heap.size + 1]? = some (.cells #[.int .i64 (stop : Int)] 3 (0,0)) := by
    rw [Below.heap_alloc _ _ _ (by simp <;> omega),Below.heap_alloc _ _ _ (by simp <;> omega)]
    exact heap_alloc_at _ _ _ (by simp <;> omega)
  have n2 : (((((w.alloc (.cells #[.int .i64 (fuel : Int)] 3)).alloc (.cells #[.int .i64 (stop : Int)] 3)).alloc (.cells #[.string (B [])] 9)).alloc (.cells #[.slice none 0 0,.string (B []),.int .i64 0,.int .i64 0,.string (B []),.int .i64 0,.int .i64 0,.bool false,.slice none 0 0,.slice none 0 0] 36))).heap[w.heap.size + 1 + 1]? = some (.cells #[.string (B [])] 9 (0,0)) := by
    rw [Below.heap_alloc _ _ _ (by simp <;> omega)]
    exact heap_alloc_at _ _ _ (by simp <;> omega)
  have n3 : (((((w.alloc (.cells #[.int .i64 (fuel : Int)] 3)).alloc (.cells #[.int .i64 (stop : Int)] 3)).alloc (.cells #[.string (B [])] 9)).alloc (.cells #[.slice none 0 0,.string (B []),.int .i64 0,.int .i64 0,.string (B []),.int .i64 0,.int .i64 0,.bool false,.slice none 0 0,.slice none 0 0] 36))).heap[w.heap.size + 1 + 1 + 1]? = some (watB (.slice none 0 0)) := heap_alloc_at _ _ _ (by simp <;> omega)
  have N := hid (And.intro gW0 (And.intro n0 (And.intro n1 (And.intro n2 n3))))
  have CE := hid (HE.out (((((w.alloc (.cells #[.int .i64 (fuel : Int)] 3)).alloc (.cells #[.int .i64 (stop : Int)] 3)).alloc (.cells #[.string (B [])] 9)).alloc (.cells #[.slice none 0 0,.string (B []),.int .i64 0,.int .i64 0,.string (B []),.int .i64 0,.int .i64 0,.bool false,.slice none 0 0,.slice none 0 0] 36))))
  rw [sW0] at CE
  clear gW0 n0 n1 n2 n3 sW0
  go_enter Tryz.func13,Tryz.ntmps13
  go_wp2_with fail
  refine CE.out.mono ?_
  rintro e w1 ⟨g1,rfl,hF⟩
  have gA : w.grownBy w1 none := N.out.1.trans g1
  have gB : w1.grownBy (((w1.alloc (.cells #[.map (some (w.heap.size + 1 + 1 + 1 + 1))] 60)).alloc (.cells #[.slice none 0 0,.string (B []),.int .i64 0,.int .i64 0,.string (B []),.int .i64 0,.int .i64 0,.bool false,.slice none 0 0,.slice none 0 0] 36))) none := (World.grownBy_alloc _ _ _).trans (World.grownBy_alloc _ _ _)
  have gF : Gb (fun _ => False) (((((w.alloc (.cells #[.int .i64 (fuel : Int)] 3)).alloc (.cells #[.int .i64 (stop : Int)] 3)).alloc (.cells #[.string (B [])] 9)).alloc (.cells #[.slice none 0 0,.string (B []),.int .i64 0,.int .i64 0,.string (B []),.int .i64 0,.int .i64 0,.bool false,.slice none 0 0,.slice none 0 0] 36))) (((w1.alloc (.cells #[.map (some (w.heap.size + 1 + 1 + 1 + 1))] 60)).alloc (.cells #[.slice none 0 0,.string (B []),.int .i64 0,.int .i64 0,.string (B []),.int .i64 0,.int .i64 0,.bool false,.slice none 0 0,.slice none 0 0] 36))) := Gb.new (g1.trans gB)
  have m0 := gF.at N.out.2.1 id
  have m1 := gF.at N.out.2.2.1 id
  have m2 := gF.at N.out.2.2.2.1 id
  have m3 := gF.at N.out.2.2.2.2 id
  have mw : (((w1.alloc (.cells #[.map (some (w.heap.size + 1 + 1 + 1 + 1))] 60)).alloc (.cells #[.slice none 0 0,.string (B []),.int .i64 0,.int .i64 0,.string (B []),.int .i64 0,.int .i64 0,.bool false,.slice none 0 0,.slice none 0 0] 36))).heap[w1.heap.size + 1]? = some (watB (.slice none 0 0)) := heap_alloc_at _ _ _ (by simp)
  have mm : (((w1.alloc (.cells #[.map (some (w.heap.size + 1 + 1 + 1 + 1))] 60)).alloc (.cells #[.slice none 0 0,.string (B []),.int .i64 0,.int .i64 0,.string (B []),.int .i64 0,.int .i64 0,.bool false,.slice none 0 0,.slice none 0 0] 36))).heap[w1.heap.size]? = some (.cells #[.map (some (w.heap.size + 1 + 1 + 1 + 1))] 60 (0,0)) := by
    rw [Below.heap_alloc _ _ _ (by simp)]
    exact heap_alloc_new _ _
  have sA := gA.size
  have s1 : w.heap.size + 1 + 1 + 1 + 1 ≤ w1.heap.size := by have := g1.size; simpa using this
  have sW1 : (((w1.alloc (.cells #[.map (some (w.heap.size + 1 + 1 + 1 + 1))] 60)).alloc (.cells #[.slice none 0 0,.string (B []),.int .i64 0,.int .i64 0,.string (B []),.int .i64 0,.int .i64 0,.bool false,.slice none 0 0,.slice none 0 0] 36))).heap.size = w1.heap.size + 1 + 1 := by simp
  have ws1 : WS ⟨w1.heap.size + 1,w.heap.size + 1 + 1,w1.heap.size,w.heap.size,w.heap.size + 1⟩ (stop : Int) (((w1.alloc (.cells #[.map (some (w.heap.size + 1 + 1 + 1 + 1))] 60)).alloc (.cells #[.slice none 0 0,.string (B []),.int .i64 0,.int .i64 0,.string (B []),.int .i64 0,.int .i64 0,.bool false,.slice none 0 0,.slice none 0 0] 36))).heap.size [] [] (((w1.alloc (.cells #[.map (some (w.heap.size + 1 + 1 + 1 + 1))] 60)).alloc (.cells #[.slice none 0 0,.string (B []),.int .i64 0,.int .i64 0,.string (B []),.int .i64 0,.int .i64 0,.bool false,.slice none 0 0,.slice none 0 0] 36))) :=
    ⟨⟨.slice none 0 0,[],mw,rfl,World.ownsRow_nil _ _ _ _,(fun q hq => by cases hq),fun i row r e => by simp at e⟩,m2,m1,⟨by rw [sW1]; show w1.heap.size + 1 < _; omega,by rw [sW1]; show w.heap.size + 1 + 1 < _; omega,by rw [sW1]; show w.heap.size + 1 < _; omega,by show w.heap.size + 1 + 1 ≠ w1.heap.size + 1; omega,by show w.heap.size + 1 ≠ w1.heap.size + 1; omega⟩,(fun k hk => by cases hk),by simp⟩
  have CW := hid (HC.out (((w1.alloc (.cells #[.map (some (w.heap.size + 1 + 1 + 1 + 1))] 60)).alloc (.cells #[.slice none 0 0,.string (B []),.int .i64 0,.int .i64 0,.string (B []),.int .i64 0,.int .i64 0,.bool false,.slice none 0 0,.slice none 0 0] 36))) _ (w.heap.size + 1 + 1 + 1 + 1) (gA.trans gB) (hF.kept gB (by simp)) ws1 (by show w.heap.size ≤ w1.heap.size + 1; omega))
  unfold WCt.f at CW
  have d0 := blk_c ((Gb.new (R := fun _ => False) g1).at N.out.2.1 id) 0 rfl
  have l0 : w.heap.size < w1.heap.size := by omega
  have l1 : ¬ w.heap.size = w1.heap.size := by omega
  have l2 : ¬ w.heap.size = w1.heap.size + 1 := by omega
  have P1 := hid (And.intro (gA.trans gB) (And.intro m3 (And.intro mm (hF.kept gB (by simp)))))
  clear CE g1 gA gB gF m0 m1 m2 m3 mw mm ws1 hF N
  go_wp2_with fail
  refine CW.out.mono ?_
  rintro e w2 ⟨⟨base,K,hbs,ws2⟩,g2,rfl⟩
  have gS : Gn w w2 := ⟨g2.os.trans P1.out.1.os,g2.output.trans P1.out.1.output,Nat.le_trans P1.out.1.size g2.size,fun k hk => by rw [g2.block k (Nat.lt_of_lt_of_le hk P1.out.1.size) (fun e => by have h9 : k = w1.heap.size + 1 := e; omega),P1.out.1.block k hk (by simp)]⟩
  obtain ⟨rv,rows,x1,x2,x3,x4,x5⟩ := ws2.blk
  have x1 : w2.heap[w1.heap.size + 1]? = some (watB rv) := x1
  have hrw : RWs base w2 rv L := ⟨rows,x2,x3,fun i row r e1 e2 => ⟨(x5 i row r e1 e2).1,(x5 i row r e1 e2).2.1.1,(x5 i row r e1 e2).2.2.1⟩⟩
  obtain ⟨ao,cap,rfl⟩ : ∃ ao cap,rv = .slice ao L.length cap := by
    rcases x3.2 with ⟨rfl,q⟩ | ⟨g,cap,cur,e,_⟩
    · exact ⟨none,0,by rw [q]⟩
    · exact ⟨_,cap,e⟩
  have nr : ∀ k,k < base → k = w1.heap.size + 1 ∨ k = w.heap.size + 1 + 1 + 1 → True := fun _ _ _ => trivial
  have m3 : w2.heap[w.heap.size + 1 + 1 + 1]? = some (watB (.slice none 0 0)) := g2.at P1.out.2.1 (fun e => by have h9 : w.heap.size + 1 + 1 + 1 = w1.heap.size + 1 := e; omega)
  have mm := g2.at P1.out.2.2.1 (fun e => by have h9 : w1.heap.size = w1.heap.size + 1 := e; omega)
  have hF2 : FM w2 (w.heap.size + 1 + 1 + 1 + 1) [] [] := P1.out.2.2.2.same (g2.block _ P1.out.2.2.2.lt (fun e => by have h9 : w.heap.size + 1 + 1 + 1 + 1 = w1.heap.size + 1 := e; omega))
  have hb0 : w1.heap.size + 1 < base := by rw [sW1] at hbs; omega
  have hbb : ∀ k,k ∈ K → w1.heap.size + 1 < k := fun k hk => by have h8 := (ws2.kp k hk).1; rw [sW1] at hbs; omega
  have P2 := hid (And.intro gS (And.intro x1 (And.intro hrw (And.intro m3 (And.intro mm hF2)))))
  have gD : Gn w2 w2.drew := ⟨rfl,rfl,Nat.le_refl _,fun _ _ => rfl⟩
  have CF := hid (HFF.out w2.drew (gS.trans gD))
  have c2 := blk_c mm 0 rfl
  have l2' := lt_of_block mm
  clear gS x1 x2 x3 x4 x5 ws2 g2 hrw m3 mm hF2 P1 CW nr
  rcases hev with rfl | ⟨p,q,rfl⟩
  all_goals
    have S2 := hid (show w2.drew.cell? ⟨w1.heap.size,0,none⟩ = some (.map (some (w.heap.size + 1 + 1 + 1 + 1))) ∧ w1.heap.size < w2.drew.heap.size from ⟨c2,l2'⟩)
    have GD := hid gD
    clear gD
    go_wp2_with fail
    go_region_with (first
      | (go_at_call 22; refine CF.out.mono ?_; rintro e w3 ⟨rfl,g3⟩; have g23 := GD.out.trans g3; have S3 := hid ((World.cell?_of_block (a := ⟨w1.heap.size,0,none⟩) (g3.block _ S2.out.2)).trans S2.out.1); have c3 := S3.out; have P3 := hid g23; have CE := hid (HE.out w3); clear g3 g23 CF; unfold fv)
      | (go_at_call 26; refine CE.out.mono ?_; rintro e w4 ⟨g4,rfl,hF4⟩; have g24 := P3.out.trans (Gn.of g4); have S4 := hid ((World.cell?_of_block (a := ⟨w1.heap.size,0,none⟩) (g24.block _ S2.out.2)).trans S2.out.1); have c4 := S4.out; have P4 := hid g24; have CQ := hid (equal_q (w.heap.size + 1 + 1 + 1 + 1) w3.heap.size [] [] [] [] w4 (P2.out.2.2.2.2.2.gn g24) hF4); clear g4 g24 hF4 CE)
      | (go_at_call 31; refine CQ.out.mono ?_; rintro e w5 ⟨⟨r,rfl⟩,g5⟩; have g25 := P4.out.trans (Gn.of g5); have S5 := hid ((World.cell?_of_block (a := ⟨w1.heap.size,0,none⟩) (g25.block _ S2.out.2)).trans S2.out.1); have c5 := S5.out; have P5 := hid g25; have y1 := (g25.block _ (lt_of_block P2.out.2.1)).trans P2.out.2.1; unfold watB at y1; have Y1 := hid y1; obtain ⟨⟨y10,y11,y12,y13,y14,y15,y16,y17,y18,y19⟩,yf⟩ := ten_c y1; have yl := lt_of_block y1; have yf1 := yf 1; have yf2 := yf 2; have yf3 := yf 3; have yf4 := yf 4; have yf5 := yf 5; have yf6 := yf 6; have yf7 := yf 7; clear g5 g25 CQ y1 yf))
    all_goals
      obtain ⟨b6,g6⟩ := set7_at (a1 := .string (B tx)) (a2 := .int .i64 fa) (a3 := .int .i64 0) (a4 := .string (B [])) (a5 := .int .i64 0) (a6 := .int .i64 0) (a7 := .bool !r) Y1.out
      generalize (((((((w5.setCell ⟨w1.heap.size + 1,1,none⟩ (.string (B tx))).setCell ⟨w1.heap.size + 1,2,none⟩ (.int .i64 fa)).setCell ⟨w1.heap.size + 1,3,none⟩ (.int .i64 0)).setCell ⟨w1.heap.size + 1,4,none⟩ (.string (B []))).setCell ⟨w1.heap.size + 1,5,none⟩ (.int .i64 0)).setCell ⟨w1.heap.size + 1,6,none⟩ (.int .i64 0)).setCell ⟨w1.heap.size + 1,7,none⟩ (.bool !r)) = W6 at *
      have z3 : W6.heap[w.heap.size + 1 + 1 + 1]? = some (watB (.slice none 0 0)) := g6.at ((P5.out.block _ (lt_of_block P2.out.2.2.2.1)).trans P2.out.2.2.2.1) (by omega)
      have gW : Gn w2 W6 ∨ True := Or.inr trivial
      unfold watB at z3
      obtain ⟨⟨q0,q1,q2,q3,q4,q5,q6,q7,q8,q9⟩,qf⟩ := ten_c b6
      obtain ⟨⟨r0,r1,r2,r3,r4,r5,r6,r7,r8,r9⟩,rf⟩ := ten_c z3
      have ql := lt_of_block b6
      have rl := lt_of_block z3
      have G6 := hid (And.intro g6 z3)
      clear gW b6 g6 z3 Y1 y10 y11 y12 y13 y14 y15 y16 y17 y18 y19 yf1 yf2 yf3 yf4 yf5 yf6 yf7 yl c2 c3 c4 c5 S2 S3 S4 S5 GD HE HC HFF d0 l2'
      go_wp2
      refine bodyPost_ret (v := watV (.slice ao L.length cap) tx fa (!r)) (by simp [results,Tryz.results13,go_sem,r0,r1,r2,r3,r4,r5,r6,r7,r8,r9]; rfl) rfl ?_
      have gZ := set10_gb W6 (w.heap.size + 1 + 1 + 1) (.slice ao L.length cap) (.string (B tx)) (.int .i64 fa) (.int .i64 0) (.string (B [])) (.int .i64 0) (.int .i64 0) (.bool (!r)) (.slice none 0 0) (.slice none 0 0)
      exact ⟨gn_gb (gn_gb (P2.out.1.trans P5.out) G6.out.1 (fun k e => by omega)) gZ (fun k e => by omega),base,_,_,rfl,((P2.out.2.2.1.gn P5.out).gb G6.out.1 (fun k e => by omega)).gb gZ (fun k e => by omega)⟩
end Go.Proofs.YtcdijppegfcoaabGreatDoor
