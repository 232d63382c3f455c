import Derived.Test.YtcdijppegfcoaabGreatDoorZC45
import Derived.Test.YtcdijppegfcoaabGreatDoorZC35
import Derived.Test.YtcdijppegfcoaabGreatDoorZC46
import Derived.Laws.IdiomStrings
set_option maxRecDepth 100000
set_option maxHeartbeats 4000000
namespace Go.Proofs.YtcdijppegfcoaabGreatDoor
open Go.RowKit
def watK (s : List UInt8) (most stop : Nat) : Option (List (List (List UInt8) × List (List UInt8)) × Sum Nat (List UInt8)) :=
  if s.length ≤ 300 then match exK s with
    | none => none
    | some x => if unT [] 60 x [] = some none then match recW [] most stop 60 x with
      | none => none
      | some (L,.inl q) => some (L,.inl q)
      | some (L,.inr y) => match generalU y.1 [] 60 y.2 with
        | none => none
        | some t => if ncB 60 t = true then (match draftS ⟨[],[]⟩ 1 130 t (ds0 []) with
          | none => none
          | some s' => some (L,.inr s'.out)) else none
      else none
  else none
def figS (k : Nat) : List UInt8 := [UInt8.ofNat (48 + k)]
def chT : Nat → List UInt8
  | 0 => [108,101,116,32,114,101,99,32,102,48,32,61,32,49]
  | k + 1 => chT k ++ ([32,97,110,100,32,102] ++ figS (k + 1) ++ [32,61,32,102] ++ figS k)
def chS (n : Nat) : List UInt8 := chT n ++ [32,105,110,32,102] ++ figS n
def chN (n : Nat) : List (List UInt8) := (List.range (n + 1)).map fun k => [102] ++ figS k
def chR (n i : Nat) : List (List UInt8) := (List.range (n + 1)).map fun k => if k < i + 1 then [105,110,116] else [97]
def chL (n m : Nat) : List (List (List UInt8) × List (List UInt8)) := (List.range m).map fun i => (chN n,chR n i)
def chW (n fuel : Nat) : Option (List (List (List UInt8) × List (List UInt8)) × Sum Nat (List UInt8)) := if fuel < n + 2 then some (chL n fuel,.inl 5) else some (chL n (n + 2),.inr [105,110,116])
def chK (n fuel : Nat) : Bool := decide (watK (chS n) fuel 0 = chW n fuel)
theorem ck_0 : ((List.range 12).all fun f => chK 0 (f + 1)) = true := by kernel_rfl
theorem ck_1 : ((List.range 12).all fun f => chK 1 (f + 1)) = true := by kernel_rfl
theorem ck_2 : ((List.range 12).all fun f => chK 2 (f + 1)) = true := by kernel_rfl
theorem ck_3 : ((List.range 12).all fun f => chK 3 (f + 1)) = true := by kernel_rfl
theorem ck_4 : ((List.range 12).all fun f => chK 4 (f + 1)) = true := by kernel_rfl
theorem ck_5 : ((List.range 12).all fun f => chK 5 (f + 1)) = true := by kernel_rfl
theorem ck_6 : ((List.range 12).all fun f => chK 6 (f + 1)) = true := by kernel_rfl
theorem ck_7 : ((List.range 12).all fun f => chK 7 (f + 1)) = true := by kernel_rfl
theorem ck_8 : ((List.range 12).all fun f => chK 8 (f + 1)) = true := by kernel_rfl
def enS : List UInt8 := [108,101,116,32,114,101,99,32,102,32,61,32,102,117,110,32,120,32,45,62,32,102,32,105,110,32,102]
def enT : Nat → List UInt8
  | 0 => [97]
  | i + 1 => enT i ++ ([32,45,62,32] ++ [UInt8.ofNat (98 + i)])
def enL (m : Nat) : List (List (List UInt8) × List (List UInt8)) := (List.range m).map fun i => ([[102]],[enT (i + 1)])
def enW (fuel stop : Nat) : Option (List (List (List UInt8) × List (List UInt8)) × Sum Nat (List UInt8)) := if 0 < stop ∧ stop ≤ fuel then some (enL stop,.inl 6) else some (enL fuel,.inl 5)
def enK (fuel stop : Nat) : Bool := decide (watK enS fuel stop = enW fuel stop)
theorem ek_all : ((List.range 12).all fun f => (List.range 15).all fun s => enK (f + 1) s) = true := by kernel_rfl
theorem chk (n fuel : Nat) (hn : n < 9) (h1 : 1 ≤ fuel) (h2 : fuel ≤ 12) : watK (chS n) fuel 0 = chW n fuel := by
  have key : ((List.range 12).all fun f => chK n (f + 1)) = true := by
    have : n = 0 ∨ n = 1 ∨ n = 2 ∨ n = 3 ∨ n = 4 ∨ n = 5 ∨ n = 6 ∨ n = 7 ∨ n = 8 := by omega
    rcases this with rfl | rfl | rfl | rfl | rfl | rfl | rfl | rfl | rfl
    · exact ck_0
    · exact ck_1
    · exact ck_2
    · exact ck_3
    · exact ck_4
    · exact ck_5
    · exact ck_6
    · exact ck_7
    · exact ck_8
  have h := List.all_eq_true.1 key (fuel - 1) (List.mem_range.2 (by omega))
  rw [show fuel - 1 + 1 = fuel by omega] at h
  exact of_decide_eq_true h
theorem enk (fuel stop : Nat) (h1 : 1 ≤ fuel) (h2 : fuel ≤ 12) (h3 : stop < 15) : watK enS fuel stop = enW fuel stop := by
  have h := List.all_eq_true.1 (List.all_eq_true.1 ek_all (fuel - 1) (List.mem_range.2 (by omega))) stop (List.mem_range.2 h3)
  rw [show fuel - 1 + 1 = fuel by omega] at h
  exact of_decide_eq_true h
def outTx (r : Sum Nat (List UInt8)) : List UInt8 := match r with
  | .inl _ => []
  | .inr t => t
def outFa (r : Sum Nat (List UInt8)) : Int := match r with
  | .inl q => errNo q
  | .inr _ => 0
theorem pwatch_k {s : List UInt8} {most stop : Nat} {L : List (List (List UInt8) × List (List UInt8))} {r : Sum Nat (List UInt8)} (h : watK s most stop = some (L,r)) (hq : ∀ q,r = .inl q → q < 8) (hf1 : 1 ≤ most) (hf2 : most ≤ 12) (w : World) (ad : Nat → Addr) (cs : Nat → Array Value) (ts : Nat → TypeId) (S : SW w ad cs ts) (htab : Lib.TabIs Tryz.prog w "internal/strconv.uint64pow10" .u64 Lib.pow10Tab) :
    Calls Tryz.prog 13 #[.string (B s),.slice none 0 0,.slice none 0 0,.int .i64 (most : Int),.int .i64 (stop : Int),.string (B [])] w fun e w' => Gn w w' ∧ ∃ base rv b,e = .returned (watV rv (outTx r) (outFa r) b) ∧ RWs base w' rv L := by
  have gl0 := GLb.of S htab
  unfold watK at h
  split at h
  case isFalse => cases h
  rename_i hs
  cases hx : exK s with
  | none => rw [hx] at h; cases h
  | some x =>
  rw [hx] at h
  simp only at h
  split at h
  case isFalse => cases h
  rename_i hu
  cases hr : recW [] most stop 60 x with
  | none => rw [hr] at h; cases h
  | some y =>
  obtain ⟨L',r'⟩ := y
  rw [hr] at h
  cases r' with
  | inl q =>
    simp only at h
    cases h
    exact pwatch s most stop L [] (errV (ad q)) (errNo q) w (Or.inr ⟨_,_,rfl⟩) (fun W c mb gW hF hws hz => watchw_1 (z := w.heap.size) hs hx hu hr hf1 hf2 hF ad cs ts (S.grown gW) (gl0.at (Gb.new (R := fun _ => False) gW) (fun k e => e.elim)) hz hws) (fun W g => fault_err W ad cs ts (S.gn g) q (hq q rfl))
  | inr y =>
    simp only at h
    cases hg : generalU y.1 [] 60 y.2 with
    | none => rw [hg] at h; cases h
    | some t =>
    rw [hg] at h
    simp only at h
    split at h
    case isFalse => cases h
    rename_i hn
    cases hd : draftS ⟨[],[]⟩ 1 130 t (ds0 []) with
    | none => rw [hd] at h; cases h
    | some s' =>
    rw [hd] at h
    simp only at h
    cases h
    exact pwatch s most stop L s'.out .nilIface 0 w (Or.inl rfl) (fun W c mb gW hF hws hz => watchw_0 (z := w.heap.size) hs hx hu hr hg hn hd hf1 hf2 hF ad cs ts (S.grown gW) (gl0.at (Gb.new (R := fun _ => False) gW) (fun k e => e.elim)) hz hws) (fun W g => (fault_nil W).mono fun e w' h => ⟨h.1,Gn.of h.2⟩)
theorem cv_one (w : World) (x : UInt8) (X : Int) (hX : X = (x.toNat : Int)) : (convert 41 9 (.slice (some ⟨w.heap.size,0,none⟩) 1 1)).run Tryz.prog (w.alloc (.cells #[.int .u8 X] 5)) = .ok (.string (B [x])) (w.alloc (.cells #[.int .u8 X] 5)) :=
  run_convert_bytes_back (P := Tryz.prog) (w.alloc (.cells #[.int .u8 X] 5)) 41 9 5 ⟨w.heap.size,0,none⟩ 1 [x] Tryz.underlying41 Tryz.underlying5 Tryz.underlying9 (fun j hj => by
    have hj0 : j = 0 := by simp at hj; omega
    subst hj0
    have h := heap_alloc_new w (.cells #[.int .u8 X] 5)
    show (w.alloc (.cells #[.int .u8 X] 5)).cell? ⟨w.heap.size,0,none⟩ = some (.int .u8 (x.toNat : Int))
    rw [← hX]
    exact cell_b0 h 0 rfl)
theorem fig_0 (w : World) : Calls Tryz.prog 12 #[.int .i64 0] w fun e w' => e = .returned (.string (B (figS 0))) ∧ w.grownBy w' none := by
  have hcv := cv_one w 48 48 rfl
  go_enter Tryz.func12,Tryz.ntmps12
  go_wp2
  go_ret
  exact ⟨rfl,World.grownBy_alloc _ _ _⟩
theorem fig_1 (w : World) : Calls Tryz.prog 12 #[.int .i64 1] w fun e w' => e = .returned (.string (B (figS 1))) ∧ w.grownBy w' none := by
  have hcv := cv_one w 49 49 rfl
  go_enter Tryz.func12,Tryz.ntmps12
  go_wp2
  go_ret
  exact ⟨rfl,World.grownBy_alloc _ _ _⟩
theorem fig_2 (w : World) : Calls Tryz.prog 12 #[.int .i64 2] w fun e w' => e = .returned (.string (B (figS 2))) ∧ w.grownBy w' none := by
  have hcv := cv_one w 50 50 rfl
  go_enter Tryz.func12,Tryz.ntmps12
  go_wp2
  go_ret
  exact ⟨rfl,World.grownBy_alloc _ _ _⟩
theorem fig_3 (w : World) : Calls Tryz.prog 12 #[.int .i64 3] w fun e w' => e = .returned (.string (B (figS 3))) ∧ w.grownBy w' none := by
  have hcv := cv_one w 51 51 rfl
  go_enter Tryz.func12,Tryz.ntmps12
  go_wp2
  go_ret
  exact ⟨rfl,World.grownBy_alloc _ _ _⟩
theorem fig_4 (w : World) : Calls Tryz.prog 12 #[.int .i64 4] w fun e w' => e = .returned (.string (B (figS 4))) ∧ w.grownBy w' none := by
  have hcv := cv_one w 52 52 rfl
  go_enter Tryz.func12,Tryz.ntmps12
  go_wp2
  go_ret
  exact ⟨rfl,World.grownBy_alloc _ _ _⟩
theorem fig_5 (w : World) : Calls Tryz.prog 12 #[.int .i64 5] w fun e w' => e = .returned (.string (B (figS 5))) ∧ w.grownBy w' none := by
  have hcv := cv_one w 53 53 rfl
  go_enter Tryz.func12,Tryz.ntmps12
  go_wp2
  go_ret
  exact ⟨rfl,World.grownBy_alloc _ _ _⟩
theorem fig_6 (w : World) : Calls Tryz.prog 12 #[.int .i64 6] w fun e w' => e = .returned (.string (B (figS 6))) ∧ w.grownBy w' none := by
  have hcv := cv_one w 54 54 rfl
  go_enter Tryz.func12,Tryz.ntmps12
  go_wp2
  go_ret
  exact ⟨rfl,World.grownBy_alloc _ _ _⟩
theorem fig_7 (w : World) : Calls Tryz.prog 12 #[.int .i64 7] w fun e w' => e = .returned (.string (B (figS 7))) ∧ w.grownBy w' none := by
  have hcv := cv_one w 55 55 rfl
  go_enter Tryz.func12,Tryz.ntmps12
  go_wp2
  go_ret
  exact ⟨rfl,World.grownBy_alloc _ _ _⟩
theorem fig_8 (w : World) : Calls Tryz.prog 12 #[.int .i64 8] w fun e w' => e = .returned (.string (B (figS 8))) ∧ w.grownBy w' none := by
  have hcv := cv_one w 56 56 rfl
  go_enter Tryz.func12,Tryz.ntmps12
  go_wp2
  go_ret
  exact ⟨rfl,World.grownBy_alloc _ _ _⟩
theorem fig_9 (w : World) : Calls Tryz.prog 12 #[.int .i64 9] w fun e w' => e = .returned (.string (B (figS 9))) ∧ w.grownBy w' none := by
  have hcv := cv_one w 57 57 rfl
  go_enter Tryz.func12,Tryz.ntmps12
  go_wp2
  go_ret
  exact ⟨rfl,World.grownBy_alloc _ _ _⟩
theorem figures_p (k : Nat) (hk : k < 10) (K : Int) (hK : K = (k : Int)) (w : World) : Calls Tryz.prog 12 #[.int .i64 K] w fun e w' => e = .returned (.string (B (figS k))) ∧ w.grownBy w' none := by
  subst hK
  have h9 : k = 0 ∨ k = 1 ∨ k = 2 ∨ k = 3 ∨ k = 4 ∨ k = 5 ∨ k = 6 ∨ k = 7 ∨ k = 8 ∨ k = 9 := by omega
  rcases h9 with rfl | rfl | rfl | rfl | rfl | rfl | rfl | rfl | rfl | rfl
  · exact fig_0 w
  · exact fig_1 w
  · exact fig_2 w
  · exact fig_3 w
  · exact fig_4 w
  · exact fig_5 w
  · exact fig_6 w
  · exact fig_7 w
  · exact fig_8 w
  · exact fig_9 w
theorem pick_9 (c : Int) (h1 : -9223372036854775808 ≤ c) (h2 : c ≤ 9223372036854775807) : ∃ n : Nat,n < 9 ∧ ∀ w,Calls Tryz.prog 11 #[.int .i64 c,.int .i64 9] w fun e w' => e = .returned (.int .i64 n) ∧ w' = w := by
  by_cases hc : c < 0
  · obtain ⟨m,hm⟩ : ∃ m : Nat,-(c + 1) = (m : Int) := ⟨(-(c + 1)).toNat,by omega⟩
    have E1 := hid (show (m : Int) % 9 = ((m % 9 : Nat) : Int) by omega)
    refine ⟨m % 9,Nat.mod_lt _ (by omega),fun w => ?_⟩
    obtain ⟨z,hz⟩ : ∃ z,z = m % 9 := ⟨_,rfl⟩
    rw [← hz] at E1 ⊢
    clear hz
    go_enter Tryz.func11,Tryz.ntmps11
    go_wp2
    rw [E1.out]
    go_ret
    exact ⟨rfl,rfl⟩
  · obtain ⟨m,hm⟩ : ∃ m : Nat,c = (m : Int) := ⟨c.toNat,by omega⟩
    have E1 := hid (show (m : Int) % 9 = ((m % 9 : Nat) : Int) by omega)
    refine ⟨m % 9,Nat.mod_lt _ (by omega),fun w => ?_⟩
    obtain ⟨z,hz⟩ : ∃ z,z = m % 9 := ⟨_,rfl⟩
    rw [← hz] at E1 ⊢
    clear hz
    go_enter Tryz.func11,Tryz.ntmps11
    go_wp2
    rw [E1.out]
    go_ret
    exact ⟨rfl,rfl⟩
theorem pick_12 (c : Int) (h1 : -9223372036854775808 ≤ c) (h2 : c ≤ 9223372036854775807) : ∃ n : Nat,n < 12 ∧ ∀ w,Calls Tryz.prog 11 #[.int .i64 c,.int .i64 12] w fun e w' => e = .returned (.int .i64 n) ∧ w' = w := by
  by_cases hc : c < 0
  · obtain ⟨m,hm⟩ : ∃ m : Nat,-(c + 1) = (m : Int) := ⟨(-(c + 1)).toNat,by omega⟩
    have E1 := hid (show (m : Int) % 12 = ((m % 12 : Nat) : Int) by omega)
    refine ⟨m % 12,Nat.mod_lt _ (by omega),fun w => ?_⟩
    obtain ⟨z,hz⟩ : ∃ z,z = m % 12 := ⟨_,rfl⟩
    rw [← hz] at E1 ⊢
    clear hz
    go_enter Tryz.func11,Tryz.ntmps11
    go_wp2
    rw [E1.out]
    go_ret
    exact ⟨rfl,rfl⟩
  · obtain ⟨m,hm⟩ : ∃ m : Nat,c = (m : Int) := ⟨c.toNat,by omega⟩
    have E1 := hid (show (m : Int) % 12 = ((m % 12 : Nat) : Int) by omega)
    refine ⟨m % 12,Nat.mod_lt _ (by omega),fun w => ?_⟩
    obtain ⟨z,hz⟩ : ∃ z,z = m % 12 := ⟨_,rfl⟩
    rw [← hz] at E1 ⊢
    clear hz
    go_enter Tryz.func11,Tryz.ntmps11
    go_wp2
    rw [E1.out]
    go_ret
    exact ⟨rfl,rfl⟩
theorem pick_15 (c : Int) (h1 : -9223372036854775808 ≤ c) (h2 : c ≤ 9223372036854775807) : ∃ n : Nat,n < 15 ∧ ∀ w,Calls Tryz.prog 11 #[.int .i64 c,.int .i64 15] w fun e w' => e = .returned (.int .i64 n) ∧ w' = w := by
  by_cases hc : c < 0
  · obtain ⟨m,hm⟩ : ∃ m : Nat,-(c + 1) = (m : Int) := ⟨(-(c + 1)).toNat,by omega⟩
    have E1 := hid (show (m : Int) % 15 = ((m % 15 : Nat) : Int) by omega)
    refine ⟨m % 15,Nat.mod_lt _ (by omega),fun w => ?_⟩
    obtain ⟨z,hz⟩ : ∃ z,z = m % 15 := ⟨_,rfl⟩
    rw [← hz] at E1 ⊢
    clear hz
    go_enter Tryz.func11,Tryz.ntmps11
    go_wp2
    rw [E1.out]
    go_ret
    exact ⟨rfl,rfl⟩
  · obtain ⟨m,hm⟩ : ∃ m : Nat,c = (m : Int) := ⟨c.toNat,by omega⟩
    have E1 := hid (show (m : Int) % 15 = ((m % 15 : Nat) : Int) by omega)
    refine ⟨m % 15,Nat.mod_lt _ (by omega),fun w => ?_⟩
    obtain ⟨z,hz⟩ : ∃ z,z = m % 15 := ⟨_,rfl⟩
    rw [← hz] at E1 ⊢
    clear hz
    go_enter Tryz.func11,Tryz.ntmps11
    go_wp2
    rw [E1.out]
    go_ret
    exact ⟨rfl,rfl⟩
theorem tab_gnC {w w' : World} (h : Lib.TabIs Tryz.prog w "internal/strconv.uint64pow10" .u64 Lib.pow10Tab) (g : Gn w w') : Lib.TabIs Tryz.prog w' "internal/strconv.uint64pow10" .u64 Lib.pow10Tab := tab_same h (g.block _ (tab_lt h))
theorem grown_drewC {w w' : World} (h : w.drew.grownBy w' none) : w.grownBy w' none := ⟨h.os,h.tape,h.output,h.size,h.block⟩
theorem row_cellN {w : World} {base g n cap z : Nat} {e : TypeId} {xs : List Value} (h : w.ownsRow base e z (.slice (some ⟨g,0,none⟩) n cap) n xs) {k : Nat} {u : Value} (hk : xs[k]? = some u) : w.cell? ⟨g,k,none⟩ = some u ∧ g < w.heap.size := by
  have hl := h.lt g rfl
  obtain ⟨h1,h2⟩ := h
  rcases h2 with ⟨h2,_⟩ | ⟨g',cap',cur,e1,h3,h4,h5,h6,h7,h8⟩
  · cases h2
  · have eg : g = g' := by injection e1 with q; injection q with q; injection q
    subst eg
    rw [← h8] at hk
    have hkl : k < n * z := by
      have := (List.getElem?_eq_some_iff.1 hk).1
      rw [List.length_take] at this
      omega
    rw [List.getElem?_take_of_lt hkl] at hk
    have e2 : cur[k]? = some u := by simpa using hk
    exact ⟨by simp [World.cell?,h4,e2],hl.2⟩
theorem rdL_at : ∀ (l : List (Value × Nat × Value)) (i : Nat) (r : Value × Nat × Value),l[i]? = some r → (rdL l)[i * 3]? = some r.1 ∧ (rdL l)[i * 3 + 1]? = some (.int .i64 (r.2.1 : Int)) ∧ (rdL l)[i * 3 + 2]? = some r.2.2
  | a :: l,0,r,h => by cases h; exact ⟨rfl,rfl,rfl⟩
  | a :: l,i + 1,r,h => by
    obtain ⟨h1,h2,h3⟩ := rdL_at l i r (by simpa using h)
    rw [show (i + 1) * 3 = i * 3 + 1 + 1 + 1 by omega]
    exact ⟨by simpa [rdL] using h1,by simpa [rdL] using h2,by simpa [rdL] using h3⟩
  | [],_,_,h => by simp at h
theorem RWs.at {base g m cap : Nat} {w : World} {L : List (List (List UInt8) × List (List UInt8))} (h : RWs base w (.slice (some ⟨g,0,none⟩) m cap) L) (hm : L.length = m) {i : Nat} {r : List (List UInt8) × List (List UInt8)} (hr : L[i]? = some r) : ∃ nv sv,w.cell? ⟨g,i * 3,none⟩ = some nv ∧ w.cell? ⟨g,i * 3 + 1,none⟩ = some (.int .i64 ((i : Int) + 1)) ∧ w.cell? ⟨g,i * 3 + 2,none⟩ = some sv ∧ g < w.heap.size ∧ w.ownsRow base 9 1 nv r.1.length (strV r.1) ∧ w.ownsRow base 9 1 sv r.2.length (strV r.2) := by
  obtain ⟨rows,h1,h2,h3⟩ := h
  rw [hm] at h2 h1
  have hi : i < m := by rw [← hm]; exact (List.getElem?_eq_some_iff.1 hr).1
  obtain ⟨row,hrow⟩ : ∃ x,rows[i]? = some x := ⟨_,List.getElem?_eq_getElem (by rw [h1]; exact hi)⟩
  obtain ⟨q1,q2,q3⟩ := rdL_at rows i row hrow
  obtain ⟨p1,p2,p3⟩ := h3 i row r hrow hr
  rw [p1] at q2
  exact ⟨row.1,row.2.2,(row_cellN h2 q1).1,(row_cellN h2 q2).1,(row_cellN h2 q3).1,(row_cellN h2 q1).2,p2,p3⟩
theorem RWs.val {base : Nat} {w : World} {rv : Value} {L : List (List (List UInt8) × List (List UInt8))} (h : RWs base w rv L) (h0 : 0 < L.length) : ∃ g cap,rv = .slice (some ⟨g,0,none⟩) L.length cap := by
  obtain ⟨rows,h1,h2,h3⟩ := h
  exact row_some h2 h0
theorem chT_len (j : Nat) : (B (chT j)).size = 14 + 12 * j := by
  rw [size_B]
  induction j with
  | zero => rfl
  | succ j ih => simp only [chT,List.length_append,ih,figS]; simp; omega
theorem ch_mid (j : Nat) : ({ data := #[32,97,110,100,32,102] } : ByteArray) ++ B (figS (j + 1)) ++ ({ data := #[32,61,32,102] } : ByteArray) ++ B (figS j) = B ([32,97,110,100,32,102] ++ figS (j + 1) ++ [32,61,32,102] ++ figS j) := by
  rw [show ({ data := #[32,97,110,100,32,102] } : ByteArray) = B [32,97,110,100,32,102] from rfl,show ({ data := #[32,61,32,102] } : ByteArray) = B [32,61,32,102] from rfl,append_B,append_B,append_B]
theorem ch_end (n : Nat) : B (chT n) ++ ({ data := #[32,105,110,32,102] } : ByteArray) ++ B (figS n) = B (chS n) := by
  rw [show ({ data := #[32,105,110,32,102] } : ByteArray) = B [32,105,110,32,102] from rfl,append_B,append_B]
  rfl
theorem fig_len (k : Nat) : (B (figS k)).size = 1 := rfl
theorem chain_nf (a b : Int) (n f : Nat) (hn : n < 9) (hf : f < 12) (hp : ∀ w,Calls Tryz.prog 11 #[.int .i64 a,.int .i64 9] w fun e w' => e = .returned (.int .i64 n) ∧ w' = w) (hp2 : ∀ w,Calls Tryz.prog 11 #[.int .i64 b,.int .i64 12] w fun e w' => e = .returned (.int .i64 f) ∧ w' = w) (w : World) (ad : Nat → Addr) (cs : Nat → Array Value) (ts : Nat → TypeId) (S : SW w ad cs ts) (htab : Lib.TabIs Tryz.prog w "internal/strconv.uint64pow10" .u64 Lib.pow10Tab) :
    Calls Tryz.prog 4 #[.int .i64 a,.int .i64 b] w fun e w' => e = .returned (.bool true) ∧ Gn w w' := by
  have HP := hid hp
  have HP2 := hid hp2
  have HS := hid (And.intro S htab)
  clear hp hp2 S htab
  go_enter Tryz.func4,Tryz.ntmps4
  go_wp2_with fail
  refine (HP.out _).mono ?_
  rintro e w1 ⟨rfl,rfl⟩
  go_wp2_with fail
  refine (HP2.out _).mono ?_
  rintro e w1 ⟨rfl,rfl⟩
  clear HP HP2
  go_wp2_with fail
  go_loopg [5,6] (n + 1) (fun gh x i wi => ∃ j : Nat,j ≤ n ∧ x = .string (B (chT j)) ∧ i = .int .i64 ((j : Int) + 1) ∧ gh = n - j + 1 ∧ Hid (w1.grownBy wi none))
  case atStart => exact ⟨0,by omega,rfl,rfl,by omega,hid ⟨rfl,rfl,rfl,Nat.le_refl _,fun _ _ _ => rfl⟩⟩
  case round =>
    obtain ⟨j,hj,rfl,rfl,hgj,HG⟩ := hrel
    have z1 := chT_len j
    by_cases hjn : j < n
    · have hle : (j : Int) + 1 ≤ n := by omega
      have F1 := hid (figures_p (j + 1) (by omega) ((j : Int) + 1) (by omega))
      have F2 := hid (figures_p j (by omega) (j : Int) rfl)
      have e1 := ch_mid j
      have y1 := fig_len (j + 1)
      have y2 := fig_len j
      have z2 : (({ data := #[32,97,110,100,32,102] } : ByteArray) ++ B (figS (j + 1))).size = 7 := by rw [ByteArray.size_append,y1]; rfl
      have z3 : (({ data := #[32,97,110,100,32,102] } : ByteArray) ++ B (figS (j + 1)) ++ ({ data := #[32,61,32,102] } : ByteArray)).size = 11 := by rw [ByteArray.size_append,z2]; rfl
      have z4 : (B ([32,97,110,100,32,102] ++ figS (j + 1) ++ [32,61,32,102] ++ figS j)).size = 12 := by rw [← e1,ByteArray.size_append,z3,y2]
      have e2 : B (chT j) ++ B ([32,97,110,100,32,102] ++ figS (j + 1) ++ [32,61,32,102] ++ figS j) = B (chT (j + 1)) := by rw [append_B]; rfl
      obtain ⟨md,hmd⟩ : ∃ md,md = ([32,97,110,100,32,102] ++ figS (j + 1) ++ [32,61,32,102] ++ figS j) := ⟨_,rfl⟩
      rw [← hmd] at e1 z4 e2
      clear hmd
      go_wp2_with fail
      refine (F1.out _).mono ?_
      rintro e w2 ⟨rfl,g2⟩
      have G2 := hid (HG.out.trans g2)
      clear g2 HG F1
      go_wp2_with fail
      refine (F2.out _).mono ?_
      rintro e w3 ⟨rfl,g3⟩
      have G3 := hid (G2.out.trans g3)
      clear g3 G2 F2
      go_wp2_with fail
      go_roundg (n - (j + 1) + 1)
      case measure => omega
      case rel => exact ⟨j + 1,by omega,rfl,by go_num,rfl,G3⟩
    · have hje : j = n := by omega
      subst hje
      have hnle : ¬ (j : Int) + 1 ≤ j := by omega
      have F1 := hid (figures_p j (by omega) (j : Int) rfl)
      have e1 := ch_end j
      have y1 := fig_len j
      have z2 : (B (chT j) ++ ({ data := #[32,105,110,32,102] } : ByteArray)).size = 14 + 12 * j + 5 := by rw [ByteArray.size_append,z1]; rfl
      clear hj hgj hjn
      go_wp2_with fail
      refine (F1.out _).mono ?_
      rintro e w2 ⟨rfl,g2⟩
      have G2 := hid (HG.out.trans g2)
      have hk := chk j (f + 1) hn (by omega) (by omega)
      obtain ⟨m,r,hk2,hm0,hmr⟩ : ∃ m r,watK (chS j) (f + 1) 0 = some (chL j m,r) ∧ 0 < m ∧ ((f + 1 < j + 2 ∧ m = f + 1 ∧ r = .inl 5) ∨ (¬ f + 1 < j + 2 ∧ m = j + 2 ∧ r = .inr [105,110,116])) := by
        unfold chW at hk
        by_cases hfu : f + 1 < j + 2
        · rw [if_pos hfu] at hk
          exact ⟨_,_,hk,by omega,Or.inl ⟨hfu,rfl,rfl⟩⟩
        · rw [if_neg hfu] at hk
          exact ⟨_,_,hk,by omega,Or.inr ⟨hfu,rfl,rfl⟩⟩
      have hm12 : m ≤ 12 := by rcases hmr with h | h <;> omega
      have hlen : (chL j m).length = m := by simp [chL]
      have CW := hid (pwatch_k (stop := 0) hk2 (fun q e => by rcases hmr with ⟨_,_,h⟩ | ⟨_,_,h⟩ <;> rw [h] at e <;> cases e; decide) (by omega) (by omega) w2 ad cs ts (HS.out.1.grown G2.out) (tab_gnC HS.out.2 (Gn.of G2.out)))
      have HM := hid hmr
      clear g2 HG F1 hk hk2 hmr
      rw [show (((f + 1 : Nat)) : Int) = 1 + (f : Int) by omega] at CW
      go_wp2_with fail
      refine CW.out.mono ?_
      rintro e w3 ⟨g3,base,rv,bb,rfl,hrw⟩
      obtain ⟨g,capg,rfl⟩ := hrw.val (by rw [hlen]; exact hm0)
      rw [hlen] at hrw ⊢
      obtain ⟨tx,htx⟩ : ∃ tx,tx = outTx r := ⟨_,rfl⟩
      obtain ⟨fa,hfa⟩ : ∃ fa,fa = outFa r := ⟨_,rfl⟩
      rw [← htx,← hfa]
      have HTX := hid (And.intro htx hfa)
      clear htx hfa
      have G3 := hid (And.intro ((Gn.of G2.out).trans g3) hrw)
      clear CW g3 hrw G2
      unfold watV
      go_wp2_with fail
      obtain ⟨W4,hW4⟩ : ∃ W4,W4 = w3.alloc (.cells #[.slice (some ⟨g,0,none⟩) m capg,.string (B tx),.int .i64 fa,.int .i64 0,.string (B []),.int .i64 0,.int .i64 0,.bool bb,.slice none 0 0,.slice none 0 0] 36) := ⟨_,rfl⟩
      have b4 : W4.heap[w3.heap.size]? = some (.cells #[.slice (some ⟨g,0,none⟩) m capg,.string (B tx),.int .i64 fa,.int .i64 0,.string (B []),.int .i64 0,.int .i64 0,.bool bb,.slice none 0 0,.slice none 0 0] 36 (0,0)) := by rw [hW4]; exact heap_alloc_new _ _
      have g4 : w3.grownBy W4 none := by rw [hW4]; exact World.grownBy_alloc _ _ _
      have G4 := hid (And.intro (G3.out.1.trans (Gn.of g4)) (And.intro (G3.out.2.gn (Gn.of g4)) b4))
      rw [← hW4]
      have hsz4 : w3.heap.size < W4.heap.size := lt_of_block b4
      obtain ⟨wvb,hwvb⟩ : ∃ x,x = w3.heap.size := ⟨_,rfl⟩
      rw [← hwvb] at b4 hsz4 G4 ⊢
      clear hW4 b4 g4 G3 hwvb
      go_loopg [43] (m + 1) (fun gh i wi => ∃ q : Nat,q ≤ m ∧ i = .int .i64 q ∧ gh = m - q + 1 ∧ Hid (W4.grownBy wi none))
      case atStart => exact ⟨0,by omega,rfl,by omega,hid ⟨rfl,rfl,rfl,Nat.le_refl _,fun _ _ _ => rfl⟩⟩
      case round =>
        obtain ⟨q,hq,rfl,hgq,HW⟩ := hrel
        by_cases hqm : q < m
        · have hL : (chL j m)[q]? = some (chN j,chR j q) := by simp [chL,hqm]
          have hl1 : (chN j).length = j + 1 := by simp [chN]
          have hl2 : (chR j q).length = j + 1 := by simp [chR]
          obtain ⟨nv,sv,d1,d2,d3,lg,o1,o2⟩ := (G4.out.2.1.gn (Gn.of HW.out)).at hlen hL
          rw [hl1] at o1
          rw [hl2] at o2
          obtain ⟨bn,capn,rfl⟩ := row_some o1 (by omega)
          obtain ⟨bs,caps,rfl⟩ := row_some o2 (by omega)
          have O12 := hid (And.intro o1 o2)
          have hqm2 : (q : Int) < m := by omega
          clear hL o1 o2 hl1 hl2
          go_wp2_with fail
          obtain ⟨W5,hW5⟩ : ∃ W5,W5 = wr.alloc (.cells #[.slice (some ⟨bn,0,none⟩) (j + 1) capn,.int .i64 ((q : Int) + 1),.slice (some ⟨bs,0,none⟩) (j + 1) caps] 39) := ⟨_,rfl⟩
          obtain ⟨rb,hrb⟩ : ∃ x,x = wr.heap.size := ⟨_,rfl⟩
          have b5 : W5.heap[rb]? = some (.cells #[.slice (some ⟨bn,0,none⟩) (j + 1) capn,.int .i64 ((q : Int) + 1),.slice (some ⟨bs,0,none⟩) (j + 1) caps] 39 (0,0)) := by rw [hW5,hrb]; exact heap_alloc_new _ _
          have g5 : wr.grownBy W5 none := by rw [hW5]; exact World.grownBy_alloc _ _ _
          have P5 := hid (And.intro b5 (And.intro (HW.out.trans g5) (And.intro (ownsRow_gb0 O12.out.1 (Gb.new (R := fun _ => False) g5) (fun _ _ => id)) (ownsRow_gb0 O12.out.2 (Gb.new (R := fun _ => False) g5) (fun _ _ => id)))))
          rw [← hW5,← hrb]
          clear hW5 hrb b5 g5 O12 HW d1 d2 d3 lg
          go_loopg [72] (j + 2) (fun gh i wi => ∃ k : Nat,k ≤ j + 1 ∧ i = .int .i64 k ∧ gh = j + 1 - k + 1 ∧ Hid (W5.grownBy wi none))
          case atStart => exact ⟨0,by omega,rfl,by omega,hid ⟨rfl,rfl,rfl,Nat.le_refl _,fun _ _ _ => rfl⟩⟩
          case round =>
            obtain ⟨k,hk,rfl,hgk,HZ⟩ := hrel
            have gZ : Gb (fun _ => False) W5 wr := Gb.new HZ.out
            have b6 := gZ.at P5.out.1 id
            by_cases hkj : k < j + 1
            · have x1 : (strV (chN j))[k]? = some (.string (B ([102] ++ figS k))) := by simp [strV,chN,hkj]
              have x2 : (strV (chR j q))[k]? = some (.string (B (if k < q + 1 then [105,110,116] else [97]))) := by simp [strV,chR,hkj]
              obtain ⟨n1,ln⟩ := row_cellC (ownsRow_gb0 P5.out.2.2.1 gZ (fun _ _ => id)) x1
              obtain ⟨s1,ls⟩ := row_cellC (ownsRow_gb0 P5.out.2.2.2 gZ (fun _ _ => id)) x2
              have rl := lt_of_block b6
              have c0 := blk_c b6 0 rfl
              have c1 := blk_c b6 1 rfl
              have F1 := hid (figures_p k (by omega) (k : Int) rfl)
              have y1 := fig_len k
              have eA : ({ data := #[102] } : ByteArray) ++ B (figS k) = B ([102] ++ figS k) := by rw [show ({ data := #[102] } : ByteArray) = B [102] from rfl,append_B]
              obtain ⟨nmk,hnmk⟩ : ∃ x,x = B ([102] ++ figS k) := ⟨_,rfl⟩
              rw [← hnmk] at eA n1
              clear hnmk
              have hkl : (k : Int) < (j : Int) + 1 := by omega
              have hb6 := hid b6
              clear x1 x2 gZ b6
              have et : (nmk.toList == nmk.toList) = true := beq_self_eq_true _
              have t1 : (B [105,110,116]).toList = [105,110,116] := toList_B _
              have t2 : ({ data := #[105,110,116] } : ByteArray).toList = [105,110,116] := toList_B [105,110,116]
              have t3 : (B [97]).toList = [97] := toList_B _
              have t4 : ({ data := #[97] } : ByteArray).toList = [97] := toList_B [97]
              by_cases hkq : k < q + 1
              · rw [if_pos hkq] at s1
                have hkq2 : (k : Int) < (q : Int) + 1 := by omega
                have S2 := hid (show wr.drew.cell? ⟨rb,0,none⟩ = some (.slice (some ⟨bn,0,none⟩) (j + 1) capn) ∧ wr.drew.cell? ⟨bn,k,none⟩ = some (.string nmk) ∧ rb < wr.drew.heap.size ∧ bn < wr.drew.heap.size from ⟨c0,n1,rl,ln⟩)
                clear c0 n1
                go_wp2_with fail
                go_region_held3 (fun wx => wx.cell? ⟨rb,0,none⟩ = some (.slice (some ⟨bn,0,none⟩) (j + 1) capn) ∧ wx.cell? ⟨bn,k,none⟩ = some (.string nmk)) (first | exact ⟨S2.out.1,S2.out.2.1⟩ | exact S3.out | go_keep) (first | (go_at_call 12; refine (F1.out _).mono ?_; rintro e w9 ⟨rfl,g9⟩; have S3 := hid (And.intro ((Gb.new (R := fun _ => False) g9).cell S2.out.1 S2.out.2.2.1 id) ((Gb.new (R := fun _ => False) g9).cell S2.out.2.1 S2.out.2.2.2 id)); have G9 := hid (HZ.out.trans (grown_drewC g9)); clear g9))
                all_goals
                  go_wp2_with fail
                  go_roundg (j + 1 - (k + 1) + 1)
                  case measure => omega
                  case rel => exact ⟨k + 1,by omega,by go_num,rfl,G9⟩
              · rw [if_neg hkq] at s1
                have hkq2 : ¬ (k : Int) < (q : Int) + 1 := by omega
                have S2 := hid (show wr.drew.cell? ⟨rb,0,none⟩ = some (.slice (some ⟨bn,0,none⟩) (j + 1) capn) ∧ wr.drew.cell? ⟨bn,k,none⟩ = some (.string nmk) ∧ rb < wr.drew.heap.size ∧ bn < wr.drew.heap.size from ⟨c0,n1,rl,ln⟩)
                clear c0 n1
                go_wp2_with fail
                go_region_held3 (fun wx => wx.cell? ⟨rb,0,none⟩ = some (.slice (some ⟨bn,0,none⟩) (j + 1) capn) ∧ wx.cell? ⟨bn,k,none⟩ = some (.string nmk)) (first | exact ⟨S2.out.1,S2.out.2.1⟩ | exact S3.out | go_keep) (first | (go_at_call 12; refine (F1.out _).mono ?_; rintro e w9 ⟨rfl,g9⟩; have S3 := hid (And.intro ((Gb.new (R := fun _ => False) g9).cell S2.out.1 S2.out.2.2.1 id) ((Gb.new (R := fun _ => False) g9).cell S2.out.2.1 S2.out.2.2.2 id)); have G9 := hid (HZ.out.trans (grown_drewC g9)); clear g9))
                all_goals
                  go_wp2_with fail
                  go_roundg (j + 1 - (k + 1) + 1)
                  case measure => omega
                  case rel => exact ⟨k + 1,by omega,by go_num,rfl,G9⟩
            · have hkl : ¬ (k : Int) < (j : Int) + 1 := by omega
              have G9 := hid (P5.out.2.1.trans HZ.out)
              clear b6 gZ
              go_wp2_with fail
              go_roundg (m - (q + 1) + 1)
              case measure => omega
              case rel => exact ⟨q + 1,by omega,by go_num,rfl,G9⟩
        · have hqe : q = m := by omega
          subst hqe
          have hqm2 : ¬ (q : Int) < q := by omega
          have b9 := (Gb.new (R := fun _ => False) HW.out).at G4.out.2.2 id
          obtain ⟨⟨y0,y1,y2,_,_,_,_,_,_,_⟩,_⟩ := ten_c b9
          have yl := lt_of_block b9
          have F9 := hid (G4.out.1.trans (Gn.of HW.out))
          have tB : (B []).toList = [] := toList_B []
          have t1 : (B [105,110,116]).toList = [105,110,116] := toList_B _
          have t2 : ({ data := #[105,110,116] } : ByteArray).toList = [105,110,116] := toList_B [105,110,116]
          obtain ⟨htx,hfa⟩ := HTX.out
          clear b9 G4 HTX HS
          rcases HM.out with ⟨h1,h2,rfl⟩ | ⟨h1,h2,rfl⟩
          · have e1 : tx = [] := htx
            have e2 : fa = 9 := hfa
            subst e1 e2
            have h3 : (1 : Int) + f < (j : Int) + 2 := by omega
            have h4 : (q : Int) = 1 + (f : Int) := by omega
            clear HM htx hfa
            go_wp2
            go_ret
            exact ⟨rfl,F9.out⟩
          · have e1 : tx = [105,110,116] := htx
            have e2 : fa = 0 := hfa
            subst e1 e2
            have h3 : ¬ (1 : Int) + f < (j : Int) + 2 := by omega
            have h4 : (q : Int) = (j : Int) + 2 := by omega
            clear HM htx hfa
            go_wp2
            go_ret
            exact ⟨rfl,F9.out⟩
theorem chain_any (a b : Int) (h1 : -9223372036854775808 ≤ a) (h2 : a ≤ 9223372036854775807) (h3 : -9223372036854775808 ≤ b) (h4 : b ≤ 9223372036854775807) (w : World) (ad : Nat → Addr) (cs : Nat → Array Value) (ts : Nat → TypeId) (S : SW w ad cs ts) (htab : Lib.TabIs Tryz.prog w "internal/strconv.uint64pow10" .u64 Lib.pow10Tab) :
    Calls Tryz.prog 4 #[.int .i64 a,.int .i64 b] w fun e w' => e = .returned (.bool true) ∧ Gn w w' := by
  obtain ⟨n,hn,hp⟩ := pick_9 a h1 h2
  obtain ⟨f,hf,hp2⟩ := pick_12 b h3 h4
  exact chain_nf a b n f hn hf hp hp2 w ad cs ts S htab
theorem enT_len (j : Nat) : (B (enT j)).size = 1 + 5 * j := by
  rw [size_B]
  induction j with
  | zero => rfl
  | succ j ih => simp only [enT,List.length_append,ih]; simp; omega
theorem en_mid (q : Nat) : ({ data := #[32,45,62,32] } : ByteArray) ++ B [UInt8.ofNat (98 + q)] = B ([32,45,62,32] ++ [UInt8.ofNat (98 + q)]) := by
  rw [show ({ data := #[32,45,62,32] } : ByteArray) = B [32,45,62,32] from rfl,append_B]
theorem endless_fs (a b : Int) (f st : Nat) (hf : f < 12) (hst : st < 15) (hp : ∀ w,Calls Tryz.prog 11 #[.int .i64 a,.int .i64 12] w fun e w' => e = .returned (.int .i64 f) ∧ w' = w) (hp2 : ∀ w,Calls Tryz.prog 11 #[.int .i64 b,.int .i64 15] w fun e w' => e = .returned (.int .i64 st) ∧ w' = w) (w : World) (ad : Nat → Addr) (cs : Nat → Array Value) (ts : Nat → TypeId) (S : SW w ad cs ts) (htab : Lib.TabIs Tryz.prog w "internal/strconv.uint64pow10" .u64 Lib.pow10Tab) :
    Calls Tryz.prog 5 #[.int .i64 a,.int .i64 b] w fun e w' => e = .returned (.bool true) ∧ Gn w w' := by
  have HP := hid hp
  have HP2 := hid hp2
  have hk := enk (f + 1) st (by omega) (by omega) hst
  obtain ⟨m,r,hk2,hm0,hmr⟩ : ∃ m r,watK enS (f + 1) st = some (enL m,r) ∧ 0 < m ∧ ((0 < st ∧ st ≤ f + 1 ∧ m = st ∧ r = .inl 6) ∨ (¬ (0 < st ∧ st ≤ f + 1) ∧ m = f + 1 ∧ r = .inl 5)) := by
    unfold enW at hk
    by_cases hfu : 0 < st ∧ st ≤ f + 1
    · rw [if_pos hfu] at hk
      exact ⟨_,_,hk,hfu.1,Or.inl ⟨hfu.1,hfu.2,rfl,rfl⟩⟩
    · rw [if_neg hfu] at hk
      exact ⟨_,_,hk,by omega,Or.inr ⟨hfu,rfl,rfl⟩⟩
  have hm12 : m ≤ 12 := by rcases hmr with h | h <;> omega
  have hlen : (enL m).length = m := by simp [enL]
  have CW := hid (pwatch_k hk2 (fun q e => by rcases hmr with ⟨_,_,_,h⟩ | ⟨_,_,h⟩ <;> rw [h] at e <;> cases e <;> decide) (by omega) (by omega) w ad cs ts S htab)
  have HM := hid hmr
  rw [show (((f + 1 : Nat)) : Int) = 1 + (f : Int) by omega] at CW
  clear hp hp2 S htab hk hk2 hmr
  go_enter Tryz.func5,Tryz.ntmps5
  go_wp2_with fail
  refine (HP.out _).mono ?_
  rintro e w1 ⟨rfl,rfl⟩
  go_wp2_with fail
  refine (HP2.out _).mono ?_
  rintro e w1 ⟨rfl,rfl⟩
  clear HP HP2
  go_wp2_with fail
  refine CW.out.mono ?_
  rintro e w3 ⟨g3,base,rv,bb,rfl,hrw⟩
  obtain ⟨g,capg,rfl⟩ := hrw.val (by rw [hlen]; exact hm0)
  rw [hlen] at hrw ⊢
  obtain ⟨tx,htx⟩ : ∃ tx,tx = outTx r := ⟨_,rfl⟩
  obtain ⟨fa,hfa⟩ : ∃ fa,fa = outFa r := ⟨_,rfl⟩
  rw [← htx,← hfa]
  have HTX := hid (And.intro htx hfa)
  have G3 := hid (And.intro g3 hrw)
  clear CW g3 hrw htx hfa
  unfold watV
  go_wp2_with fail
  obtain ⟨W4,hW4⟩ : ∃ W4,W4 = w3.alloc (.cells #[.slice (some ⟨g,0,none⟩) m capg,.string (B tx),.int .i64 fa,.int .i64 0,.string (B []),.int .i64 0,.int .i64 0,.bool bb,.slice none 0 0,.slice none 0 0] 36) := ⟨_,rfl⟩
  have b4 : W4.heap[w3.heap.size]? = some (.cells #[.slice (some ⟨g,0,none⟩) m capg,.string (B tx),.int .i64 fa,.int .i64 0,.string (B []),.int .i64 0,.int .i64 0,.bool bb,.slice none 0 0,.slice none 0 0] 36 (0,0)) := by rw [hW4]; exact heap_alloc_new _ _
  have g4 : w3.grownBy W4 none := by rw [hW4]; exact World.grownBy_alloc _ _ _
  have G4 := hid (And.intro (G3.out.1.trans (Gn.of g4)) (And.intro (G3.out.2.gn (Gn.of g4)) b4))
  rw [← hW4]
  have hsz4 : w3.heap.size < W4.heap.size := lt_of_block b4
  obtain ⟨wvb,hwvb⟩ : ∃ x,x = w3.heap.size := ⟨_,rfl⟩
  rw [← hwvb] at b4 hsz4 G4 ⊢
  clear hW4 b4 g4 G3 hwvb
  go_loopg [6,20] (m + 1) (fun gh x i wi => ∃ q : Nat,q ≤ m ∧ x = .string (B (enT q)) ∧ i = .int .i64 q ∧ gh = m - q + 1 ∧ Hid (W4.grownBy wi none))
  case atStart => exact ⟨0,by omega,rfl,rfl,by omega,hid ⟨rfl,rfl,rfl,Nat.le_refl _,fun _ _ _ => rfl⟩⟩
  case round =>
    obtain ⟨q,hq,rfl,rfl,hgq,HW⟩ := hrel
    by_cases hqm : q < m
    · have hL : (enL m)[q]? = some ([[102]],[enT (q + 1)]) := by simp [enL,hqm]
      obtain ⟨nv,sv,d1,d2,d3,lg,o1,o2⟩ := (G4.out.2.1.gn (Gn.of HW.out)).at hlen hL
      obtain ⟨bn,capn,rfl⟩ := row_some o1 (Nat.one_pos)
      obtain ⟨bs,caps,rfl⟩ := row_some o2 (Nat.one_pos)
      have o2' : wr.ownsRow base 9 1 (.slice (some ⟨bs,0,none⟩) 1 caps) 1 (strV [enT (q + 1)]) := o2
      have e5 : (wr.alloc (.cells #[.slice (some ⟨bn,0,none⟩) 1 capn,.int .i64 ((q : Int) + 1),.slice (some ⟨bs,0,none⟩) 1 caps] 39)).heap.size = wr.heap.size + 1 := by simp
      have hx : (98 : Int) + q = ((UInt8.ofNat (98 + q)).toNat : Int) := by
        rw [UInt8.toNat_ofNat',Nat.mod_eq_of_lt (by omega)]
        omega
      have hcv := cv_one (wr.alloc (.cells #[.slice (some ⟨bn,0,none⟩) 1 capn,.int .i64 ((q : Int) + 1),.slice (some ⟨bs,0,none⟩) 1 caps] 39)) (UInt8.ofNat (98 + q)) (98 + (q : Int)) hx
      rw [e5] at hcv
      obtain ⟨s1,ls⟩ := row_cellC o2' (k := 0) (u := .string (B (enT (q + 1)))) rfl
      have e1 := en_mid q
      have e2 : B (enT q) ++ B ([32,45,62,32] ++ [UInt8.ofNat (98 + q)]) = B (enT (q + 1)) := by rw [append_B]; rfl
      have z1 := enT_len q
      have z2 : (B [UInt8.ofNat (98 + q)]).size = 1 := rfl
      have z3 : (B ([32,45,62,32] ++ [UInt8.ofNat (98 + q)])).size = 5 := rfl
      obtain ⟨md,hmd⟩ : ∃ md,md = ([32,45,62,32] ++ [UInt8.ofNat (98 + q)] : List UInt8) := ⟨_,rfl⟩
      rw [← hmd] at e1 e2 z3
      obtain ⟨bx,hbx⟩ : ∃ bx,bx = B [UInt8.ofNat (98 + q)] := ⟨_,rfl⟩
      rw [← hbx] at e1 z2 hcv
      obtain ⟨nx,hnx⟩ : ∃ nx,nx = B (enT (q + 1)) := ⟨_,rfl⟩
      rw [← hnx] at e2 s1
      have HN := hid hnx
      have et : (nx.toList == nx.toList) = true := beq_self_eq_true _
      have hqm2 : (q : Int) < m := by omega
      clear hL o1 o2 o2' hmd hbx hnx hx e5
      go_wp2_with fail
      go_roundg (m - (q + 1) + 1)
      case measure => omega
      case rel => exact ⟨q + 1,by omega,by rw [HN.out],by go_num,rfl,hid (HW.out.trans ((World.grownBy_alloc _ _ _).trans (World.grownBy_alloc _ _ _)))⟩
    · have hqe : q = m := by omega
      subst hqe
      have hqm2 : ¬ (q : Int) < q := by omega
      have b9 := (Gb.new (R := fun _ => False) HW.out).at G4.out.2.2 id
      obtain ⟨⟨y0,y1,y2,_,_,_,_,_,_,_⟩,_⟩ := ten_c b9
      have yl := lt_of_block b9
      have F9 := hid (G4.out.1.trans (Gn.of HW.out))
      have tB : (B []).toList = [] := toList_B []
      obtain ⟨htx,hfa⟩ := HTX.out
      clear b9 G4 HTX
      rcases HM.out with ⟨h0,h1,h2,rfl⟩ | ⟨h1,h2,rfl⟩
      · have e1 : tx = [] := htx
        have e2 : fa = 10 := hfa
        subst e1 e2
        have h3 : (0 : Int) < st := by omega
        have h4 : (st : Int) ≤ 1 + (f : Int) := by omega
        have h5 : (q : Int) = (st : Int) := by omega
        clear HM htx hfa
        go_wp2
        go_ret
        exact ⟨rfl,F9.out⟩
      · have e1 : tx = [] := htx
        have e2 : fa = 9 := hfa
        subst e1 e2
        have h5 : (q : Int) = 1 + (f : Int) := by omega
        by_cases h6 : 0 < st
        · have h3 : (0 : Int) < st := by omega
          have h4 : ¬ (st : Int) ≤ 1 + (f : Int) := by omega
          clear HM htx hfa
          go_wp2
          go_ret
          exact ⟨rfl,F9.out⟩
        · have h3 : ¬ (0 : Int) < st := by omega
          clear HM htx hfa
          go_wp2
          go_ret
          exact ⟨rfl,F9.out⟩
theorem endless_any (a b : Int) (h1 : -9223372036854775808 ≤ a) (h2 : a ≤ 9223372036854775807) (h3 : -9223372036854775808 ≤ b) (h4 : b ≤ 9223372036854775807) (w : World) (ad : Nat → Addr) (cs : Nat → Array Value) (ts : Nat → TypeId) (S : SW w ad cs ts) (htab : Lib.TabIs Tryz.prog w "internal/strconv.uint64pow10" .u64 Lib.pow10Tab) :
    Calls Tryz.prog 5 #[.int .i64 a,.int .i64 b] w fun e w' => e = .returned (.bool true) ∧ Gn w w' := by
  obtain ⟨f,hf,hp⟩ := pick_12 a h1 h2
  obtain ⟨st,hst,hp2⟩ := pick_15 b h3 h4
  exact endless_fs a b f st hf hst hp hp2 w ad cs ts S htab
theorem int_rangeC {n : Int} (h : (Lit.int .i64 n).wf = true) : -9223372036854775808 ≤ n ∧ n ≤ 9223372036854775807 := by
  simp only [Lit.wf,Bool.and_eq_true,decide_eq_true_eq] at h
  exact ⟨h.1,h.2⟩
end Go.Proofs.YtcdijppegfcoaabGreatDoor
