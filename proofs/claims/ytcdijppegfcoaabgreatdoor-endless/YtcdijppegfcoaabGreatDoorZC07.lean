import Derived.Test.YtcdijppegfcoaabGreatDoorZC05
import Derived.Test.YtcdijppegfcoaabGreatDoorShelfJ
import Derived.Shelf.Strings.BuilderK
import Derived.Shelf.Strings.Builder2
import Derived.Test.YtcdijppegfcoaabGreatDoorZC00
import Derived.Deep.LoopGhost
import Derived.Test.YtcdijppegfcoaabGreatDoorZC02
import Derived.Outline
import Derived.Deep.QuietTactic
import Derived.BigQuiet
import Derived.Test.YtcdijppegfcoaabGreatDoorZC04
set_option maxRecDepth 100000
set_option maxHeartbeats 8000000
namespace Go.Proofs.YtcdijppegfcoaabGreatDoor
open Go.RowKit
theorem bld_grow (b n : Nat) (w : World) (hbk : w.heap[b]? = some (.cells #[.pointer none,.slice none 0 0] 222 (0,0))) (bs : Nat) (hB : bs ≤ b) (hBw : bs ≤ w.heap.size) (hn : n ≤ 281474976710656) :
    Calls Tryz.prog 91 #[.pointer (some ⟨b,0,none⟩),.int .i64 n] w fun e w' => e = .returned (.tuple #[]) ∧ (Lib.BuilderAt 222 5 bs b (.pointer (some ⟨b,0,none⟩)) [] w' ∧ Below bs w w') :=
  Any.Builder_Grow_fresh { Tryz.lays156 with } Tryz.Builder_Extra_156 bs b n w hB hbk hBw hn
theorem bld_write (bs b : Nat) (l : List Value) (s : ByteArray) (w : World) (h : Lib.IsBuilderF 222 5 bs b l w) (hlen : l.length + s.size ≤ 140737488355328) (hBw : bs ≤ w.heap.size) :
    Calls Tryz.prog 92 #[.pointer (some ⟨b,0,none⟩),.string s] w fun e w' => e = .returned (.tuple #[.int .i64 s.size,.nilIface]) ∧ (Lib.BuilderAtF 222 5 bs b (.pointer (some ⟨b,0,none⟩)) (l ++ Lib.strCells s) w' ∧ Below bs w w' ∧ Lib.OthersKept 5 (some b) w w') :=
  Any.Builder_WriteString_k { Tryz.lays156 with } Tryz.Builder_Extra_156 bs b l s w h hlen hBw
theorem bld_string (bs b : Nat) (l : List UInt8) (w : World) (h : Lib.IsBuilderF 222 5 bs b (Lib.byteCells l) w) (hBw : bs ≤ w.heap.size) :
    Calls Tryz.prog 93 #[.pointer (some ⟨b,0,none⟩)] w fun e w' => e = .returned (.string ⟨l.toArray⟩) ∧ (Lib.IsBuilderF 222 5 bs b (Lib.byteCells l) w' ∧ Below bs w w' ∧ Lib.OthersKept 5 (some b) w w') :=
  Any.Builder_String_any_k { Tryz.lays156 with } Tryz.Builder_Extra_156 bs b l w h hBw
theorem stepsL_at : ∀ (l : List (List UInt8 × Nat × Nat)) (j : Nat) (x : List UInt8) (f t : Nat),l[j]? = some (x,f,t) → (stepsL l)[3 * j]? = some (.string (B x)) ∧ (stepsL l)[3 * j + 1]? = some (.int .i64 (f : Int)) ∧ (stepsL l)[3 * j + 2]? = some (.int .i64 (t : Int))
  | [],j,x,f,t,h => by simp at h
  | a :: l,0,x,f,t,h => by
    simp at h
    subst h
    exact ⟨rfl,rfl,rfl⟩
  | a :: l,j + 1,x,f,t,h => by
    have ih := stepsL_at l j x f t (by simpa using h)
    have e : stepsL (a :: l) = stepL a ++ stepsL l := rfl
    have e3 : (stepL a).length = 3 := rfl
    rw [e,List.getElem?_append_right (by rw [e3]; omega),List.getElem?_append_right (by rw [e3]; omega),List.getElem?_append_right (by rw [e3]; omega),e3]
    rw [show 3 * (j + 1) - 3 = 3 * j from by omega,show 3 * (j + 1) + 1 - 3 = 3 * j + 1 from by omega,show 3 * (j + 1) + 2 - 3 = 3 * j + 2 from by omega]
    exact ih
theorem steps_at {w : World} {bs : Nat} {sv : Value} {l : List (List UInt8 × Nat × Nat)} (h : w.ownsRow bs 225 3 sv l.length (stepsL l)) : ∃ ao cap,sv = .slice ao l.length cap ∧ ∀ (j : Nat) (x : List UInt8) (f t : Nat),l[j]? = some (x,f,t) → ∃ g,ao = some ⟨g,0,none⟩ ∧ g < w.heap.size ∧
    w.cell? ⟨g,j * 3,none⟩ = some (.string (B x)) ∧ w.cell? ⟨g,j * 3 + 1,none⟩ = some (.int .i64 (f : Int)) ∧ w.cell? ⟨g,j * 3 + 2,none⟩ = some (.int .i64 (t : Int)) := by
  rcases h.2 with ⟨rfl,h0⟩ | ⟨g,cap,cur,rfl,q2,q3,q4,q5,q6,q7⟩
  · refine ⟨none,0,by rw [h0],fun j x f t e => ?_⟩
    have hj := (List.getElem?_eq_some_iff.1 e).1
    rw [h0] at hj
    omega
  · refine ⟨_,cap,rfl,fun j x f t e => ⟨g,rfl,lt_of_block q3,?_⟩⟩
    obtain ⟨a1,a2,a3⟩ := stepsL_at l j x f t e
    have hj := (List.getElem?_eq_some_iff.1 e).1
    have hc : ∀ (i : Nat) (v : Value),(stepsL l)[i]? = some v → w.cell? ⟨g,i,none⟩ = some v := fun i v hi => by
      rw [cell_of_row w g i cur _ _ q3]
      rw [← q7,List.getElem?_take] at hi
      split at hi
      · simpa using hi
      · cases hi
    rw [Nat.mul_comm j 3]
    exact ⟨hc _ _ a1,hc _ _ a2,hc _ _ a3⟩
theorem runS_len : ∀ (l : List (List UInt8 × Nat × Nat)) (out : List UInt8),out.length ≤ (runS l out).length
  | [],out => Nat.le_refl _
  | (x,f,t) :: l,out => by
    rw [runS]
    have := runS_len l (out ++ x ++ ((out ++ x).drop f).take (t - f))
    simp only [List.length_append] at this
    omega
theorem runS_step {l : List (List UInt8 × Nat × Nat)} {j : Nat} {x : List UInt8} {f t : Nat} (h : l[j]? = some (x,f,t)) (out : List UInt8) : runS (l.take (j + 1)) out = runS (l.take j) out ++ x ++ ((runS (l.take j) out ++ x).drop f).take (t - f) := by
  rw [List.take_add_one,h,runS_app]
  rfl
theorem okS_at : ∀ {l : List (List UInt8 × Nat × Nat)} {j : Nat} {x : List UInt8} {f t : Nat} {out : List UInt8},okS l out → l[j]? = some (x,f,t) → f ≤ t ∧ t ≤ (runS (l.take j) out).length + x.length
  | [],j,x,f,t,out,_,h => by simp at h
  | a :: l,0,x,f,t,out,ho,h => by
    simp at h
    subst h
    exact ⟨ho.1,ho.2.1⟩
  | (x',f',t') :: l,j + 1,x,f,t,out,ho,h => by
    have := okS_at (l := l) (j := j) ho.2.2 (by simpa using h)
    rw [List.take_succ_cons,runS]
    exact this
theorem dtext_any {c : Dc} {bs : Nat} {s : Ds} {w : World} (h : DR c bs s w) : Calls Tryz.prog 56 #[CP c.db] w fun e w' => e = .returned (.string (B s.out)) ∧ Below w.heap.size w w' := by
  obtain ⟨sv,hb,hown⟩ := h.blk
  obtain ⟨ao,cap,rfl,hst⟩ := steps_at hown
  obtain ⟨_,_,c2,c3,_,_,_⟩ := draft_cells hb
  have hdl := lt_of_block hb
  have Q := hid (And.intro h (And.intro hst hb))
  have hn := h.short
  obtain ⟨hn1,hn2⟩ := hn
  have hk : (w.alloc (.cells #[.pointer none,.slice none 0 0] 222)).heap[w.heap.size]? = some (.cells #[.pointer none,.slice none 0 0] 222 (0,0)) := heap_alloc_at _ _ _ rfl
  have HG := hid (bld_grow w.heap.size s.out.length _ hk w.heap.size (Nat.le_refl _) (by simp) (by omega))
  clear h hb hown hk hst
  unfold CP
  go_enter Tryz.func56,Tryz.ntmps56
  go_wp2_with fail
  refine HG.out.mono ?_
  rintro e w1 ⟨rfl,r1,b1⟩
  have c2' : w1.cell? ⟨c.db,2,none⟩ = some (.slice ao s.steps.length cap) := by
    rw [b1.cell (p := ⟨c.db,2,none⟩) hdl,World.cell?_of_block (a := ⟨c.db,2,none⟩) (Below.heap_alloc _ _ _ hdl)]
    exact c2
  have b0 : Below w.heap.size w w1 := ⟨b1.os,b1.tape,b1.output,by have := b1.size; simp at this; omega,fun k hk => by rw [b1.block k hk,Below.heap_alloc _ _ _ hk]⟩
  have R1 := hid (And.intro (show Lib.IsBuilderF 222 5 w.heap.size w.heap.size (Lib.byteCells (runS (s.steps.take 0) [])) w1 from Or.inr (Lib.BuilderAtF.of r1)) b0)
  clear r1 b1 b0 HG
  go_wp2_with fail
  obtain ⟨n,hn⟩ : ∃ n,n = s.steps.length := ⟨_,rfl⟩
  have HN := hid hn
  rw [← hn] at hn2 ⊢
  clear hn c2 c2' c3
  go_loopg [16] (n + 1) (fun gh i wi => ∃ j : Nat,j ≤ n ∧ i = .int .i64 j ∧ gh = n - j + 1 ∧ Hid (Lib.IsBuilderF 222 5 w.heap.size w.heap.size (Lib.byteCells (runS (s.steps.take j) [])) wi ∧ Below w.heap.size w wi))
  case atStart => exact ⟨0,by omega,rfl,by omega,R1⟩
  case round =>
    obtain ⟨j,hj,rfl,hgj,HI⟩ := hrel
    by_cases hjl : j < n
    · obtain ⟨⟨x,f,t⟩,hst⟩ : ∃ p,s.steps[j]? = some p := ⟨s.steps[j]'(by rw [← HN.out]; exact hjl),List.getElem?_eq_getElem _⟩
      obtain ⟨gb,rfl,hgl,k0,k1,k2⟩ := Q.out.2.1 j x f t hst
      have d0 : wr.cell? ⟨gb,j * 3,none⟩ = some (.string (B x)) := (HI.out.2.cell (p := ⟨gb,j * 3,none⟩) hgl).trans k0
      have d1 : wr.cell? ⟨gb,j * 3 + 1,none⟩ = some (.int .i64 (f : Int)) := (HI.out.2.cell (p := ⟨gb,j * 3 + 1,none⟩) hgl).trans k1
      have d2 : wr.cell? ⟨gb,j * 3 + 2,none⟩ = some (.int .i64 (t : Int)) := (HI.out.2.cell (p := ⟨gb,j * 3 + 2,none⟩) hgl).trans k2
      have hsz := HI.out.2.size
      obtain ⟨y,hy⟩ : ∃ y,y = runS (s.steps.take j) [] := ⟨_,rfl⟩
      have hstep := runS_step hst []
      have hok := okS_at Q.out.1.ok hst
      rw [← hy] at hstep hok
      have hlen : (runS (s.steps.take (j + 1)) []).length ≤ 100000 := by
        have h1 := runS_len (s.steps.drop (j + 1)) (runS (s.steps.take (j + 1)) [])
        rw [← runS_app,List.take_append_drop,Q.out.1.run] at h1
        omega
      rw [hstep] at hlen
      simp only [List.length_append] at hlen
      have HB := HI.out.1
      rw [← hy] at HB
      have hbl : w.heap.size < wr.heap.size := by
        rcases HB with h | h
        · exact h.lt
        · exact h.lt
      have HW := hid (bld_write w.heap.size w.heap.size _ (B x) _ (HB.alloc (.cells #[.string (B x),.int .i64 (f : Int),.int .i64 (t : Int)] 225)) (by rw [Lib.byteCells_length,size_B]; omega) (by simp; omega))
      obtain ⟨z,hz⟩ : ∃ z,z = y ++ x := ⟨_,rfl⟩
      have hzl : t ≤ z.length := by rw [hz,List.length_append]; exact hok.2
      have hft := hok.1
      have hzb : z.length ≤ 100000 := by rw [hz,List.length_append]; omega
      have HH := hid (And.intro hstep (And.intro hok (And.intro hlen (And.intro hy hz))))
      clear k0 k1 k2 hstep hok hlen HB hy hst hz
      go_wp2_with fail
      refine HW.out.mono ?_
      rintro e w3 ⟨rfl,r3,b3,o3⟩
      have hb3 : w3.heap[wr.heap.size]? = some (.cells #[.string (B x),.int .i64 (f : Int),.int .i64 (t : Int)] 225 (0,0)) := o3 _ _ (heap_alloc_at _ _ _ rfl) (by simp; omega) (fun c fz e => by injection e with _ e _; exact absurd e (by decide))
      obtain ⟨_,z1,z2⟩ := three_cells hb3
      have r3' : Lib.IsBuilderF 222 5 w.heap.size w.heap.size (Lib.byteCells z) w3.drew := by
        rw [HH.out.2.2.2.2,Lib.byteCells_append]
        exact Or.inr r3
      have hs3 : w.heap.size ≤ w3.heap.size := by have := b3.size; simp at this; omega
      have HS := hid (bld_string w.heap.size w.heap.size _ w3.drew r3' hs3)
      have R3 := hid (And.intro b3 hb3)
      have hzs : (⟨z.toArray⟩ : ByteArray).size = z.length := rfl
      have HE := hid (show (⟨z.toArray⟩ : ByteArray).extract f t = B ((z.drop f).take (t - f)) from by rw [ext_cut]; show B ((z.take t).drop f) = _; rw [List.drop_take])
      have HL := hid (show (Lib.byteCells z).length + ((⟨z.toArray⟩ : ByteArray).extract f t).size ≤ 140737488355328 from by rw [HE.out,size_B,Lib.byteCells_length]; simp only [List.length_take,List.length_drop]; omega)
      clear r3 b3 o3 hb3 r3' HW d0 d1 d2
      go_wp2_with fail
      go_region_with (first
        | (go_at_call 93; refine HS.out.mono ?_; rintro e w4 ⟨rfl,r4,b4,o4⟩; have hb4 := o4 _ _ R3.out.2 (by simp; omega) (fun c fz e => by injection e with _ e _; exact absurd e (by decide)); obtain ⟨_,y1,y2⟩ := three_cells hb4; have hs4 : w.heap.size ≤ w4.heap.size := Nat.le_trans hs3 b4.size; have R4 := hid (And.intro r4 b4); clear r4 b4 o4 hb4)
        | (go_at_call 92; refine (bld_write w.heap.size w.heap.size _ _ _ R4.out.1 HL.out hs4).mono ?_; rintro e w5 ⟨rfl,r5,b5,_⟩; have R5 := hid (And.intro r5 b5); clear r5 b5))
      all_goals
        go_wp2_with fail
        go_roundg (n - (j + 1) + 1)
        case measure => omega
        case rel =>
          refine ⟨j + 1,by omega,by go_num,rfl,hid ⟨?_,?_⟩⟩
          · rw [HH.out.1,← HH.out.2.2.2.2,Lib.byteCells_append]
            have h5 := R5.out.1
            rw [HE.out] at h5
            exact Or.inr h5
          · have b0 : Below w.heap.size w (wr.alloc (.cells #[.string (B x),.int .i64 (f : Int),.int .i64 (t : Int)] 225)) := HI.out.2.alloc hsz _
            have b4 := R4.out.2
            exact ((b0.trans R3.out.1).trans ⟨b4.os,b4.tape,b4.output,b4.size,b4.block⟩).trans R5.out.2
    · have hje : j = n := by omega
      subst hje
      have HS := hid (bld_string w.heap.size w.heap.size _ wr HI.out.1 HI.out.2.size)
      have e1 : runS (s.steps.take j) [] = s.out := by rw [HN.out,List.take_length]; exact Q.out.1.run
      rw [e1] at HS
      go_wp2_with fail
      refine HS.out.mono ?_
      rintro e w9 ⟨rfl,_,b9,_⟩
      have B9 := hid b9
      clear b9 HS
      go_wp2
      go_ret
      exact ⟨rfl,HI.out.2.trans B9.out⟩
structure KeptTo (n rb : Nat) (w w' : World) : Prop where
  os : w'.os = w.os
  tape : w'.tape = w.tape
  output : w'.output = w.output
  size : w.heap.size ≤ w'.heap.size
  block : ∀ k,k < n → k ≠ rb → w'.heap[k]? = w.heap[k]?
theorem own_at {w w' : World} {base e size n : Nat} {v : Value} {xs : List Value} (h : w.ownsRow base e size v n xs) (hk : ∀ k,some k = v.ownBlock → w'.heap[k]? = w.heap[k]?) : w'.ownsRow base e size v n xs := by
  obtain ⟨h1,h2⟩ := h
  refine ⟨h1,?_⟩
  rcases h2 with h2 | ⟨g,cap,cur,rfl,hg,hh,r⟩
  · exact Or.inl h2
  · exact Or.inr ⟨g,cap,cur,rfl,hg,by rw [hk g rfl]; exact hh,r⟩
theorem one_new (w : World) (a : Value) (t : TypeId) : ∀ (j : Nat) (u : Value),[a][j]? = some u → (w.alloc (.cells #[a] t)).cell? (Addr.add ⟨w.heap.size,0,none⟩ j) = some u := by
  intro j u h
  match j,h with
  | 0,h => simp at h; subst h; simp [Addr.add]
theorem one_str (l : List UInt8) : ∀ u,u ∈ [Value.string (B l)] → u.oneCell' = true := by
  intro u hu
  simp only [List.mem_cons,List.not_mem_nil,or_false] at hu
  subst hu; rfl
theorem info_str : (Tryz.prog.info? 9).map (fun i => (i.zero,i.size,i.bytes)) = some (some (.string (B [])),1,16) := by kernel_rfl
theorem own_view {w : World} {base : Nat} {v : Value} {names : List (List UInt8)} (h : w.ownsRow base 9 1 v names.length (strs names)) :
    ∃ ao cp,v = .slice ao names.length cp ∧ ∀ j,j < names.length → ∃ gn,ao = some ⟨gn,0,none⟩ ∧ base ≤ gn ∧ gn < w.heap.size ∧ w.cell? ⟨gn,j,none⟩ = some (.string (B (names.getD j []))) := by
  obtain ⟨_,h2⟩ := h
  rcases h2 with ⟨rfl,h0⟩ | ⟨gn,cap,cur,rfl,hg,hh,_,_,_,ht⟩
  · exact ⟨none,0,by rw [h0],fun j hj => by omega⟩
  · refine ⟨some ⟨gn,0,none⟩,cap,rfl,fun j hj => ⟨gn,rfl,hg,lt_of_block hh,?_⟩⟩
    have e : (strs names)[j]? = some (.string (B (names.getD j []))) := by simp [strs,List.getD,hj]
    rw [← ht,List.getElem?_take,if_pos (by omega)] at e
    simp only [World.cell?,hh]
    simpa using e
def qe (ns : List (List UInt8)) : Nat → Ty → Et
  | 0,_ => vT []
  | m + 1,x => if x.kind = [] then vT (ns.getD x.var []) else ⟨x.kind,[],0,x.kids.map (qe ns m)⟩
theorem QRep.et {ns : List (List UInt8)} {H : Nat → Option Obj} {ca : List Nat} : ∀ (m : Nat) (v : Value) (x : Ty),QRep ns m H v x → ERep 0 H ca m v (qe ns m x)
  | 0,_,_,h => h
  | m + 1,v,x,h => by
    obtain ⟨b,h⟩ := h
    refine ⟨b,?_⟩
    rw [qe]
    rcases h with ⟨q1,q2,q3,q4,q5⟩ | ⟨q1,q2,q3,q4⟩ | ⟨q1,a,u,q2,q3,q4,q5⟩ | ⟨q1,a,c,u,z,q2,q3,q4,q5,q6⟩ | ⟨q1,a,c,u,z,q2,q3,q4,q5,q6⟩
    · rw [if_pos q1]
      exact Or.inr (Or.inl ⟨rfl,rfl,q3.2,Nat.zero_le _,q4,q5⟩)
    · rw [if_neg (by rcases q1 with q1 | q1 <;> rw [q1] <;> decide)]
      exact Or.inr (Or.inr (Or.inl ⟨q1,by show x.kids.map _ = []; rw [q2]; rfl,q3,q4⟩))
    · rw [if_neg (by rw [q1]; decide)]
      exact Or.inr (Or.inr (Or.inr (Or.inl ⟨q1,Nat.zero_le _,qe ns m a,u,by show x.kids.map _ = _; rw [q2]; rfl,q3,q4,QRep.et m u a q5⟩)))
    · rw [if_neg (by rw [q1]; decide)]
      exact Or.inr (Or.inr (Or.inr (Or.inr (Or.inl ⟨q1,Nat.zero_le _,qe ns m a,qe ns m c,u,z,by show x.kids.map _ = _; rw [q2]; rfl,q3,q4,QRep.et m u a q5,QRep.et m z c q6⟩))))
    · rw [if_neg (by rw [q1]; decide)]
      exact Or.inr (Or.inr (Or.inr (Or.inr (Or.inr ⟨q1,Nat.zero_le _,qe ns m a,qe ns m c,u,z,by show x.kids.map _ = _; rw [q2]; rfl,q3,q4,QRep.et m u a q5,QRep.et m z c q6⟩))))
theorem CSd.nil {H : Nat → Option Obj} {w : World} (hz : Fz H w) : CSd H [] ⟨[],[]⟩ (fun _ => 0) w :=
  ⟨hz,rfl,rfl,by simp,fun a h => by simp at h,by simp,fun i c h => by simp at h,fun i a h => by simp at h⟩
def DOF (H : Nat → Option Obj) (ca : List Nat) (σ : Sto) (d : Nat → Nat) (any own : Option AB) (bs : Nat) (s' : Ds) (w : World) (e : Ending) (w' : World) : Prop :=
  ∃ db mb,e = .returned (CP db) ∧ DW H ca σ d ⟨db,mb,any,own⟩ bs s' w' ∧ Gb (DG ca ⟨db,mb,any,own⟩ bs) w w'
def anyOf (any : Option AB) : Value := match any with
  | none => ownV
  | some a => askV a
def ownOf (own : Option AB) : Value := match own with
  | none => .nilFunc
  | some a => askI a
theorem past3 {w : World} {k : Nat} {o1 o2 o3 x : Obj} (h : w.heap[k]? = some x) : (((w.alloc o1).alloc o2).alloc o3).heap[k]? = some x := by
  rw [Below.heap_alloc _ _ _ (by simp; have := lt_of_block h; omega)]
  exact past2 h
theorem draft_new {H : Nat → Option Obj} {ca : List Nat} {σ : Sto} {d : Nat → Nat} {any own : Option AB} {bs : Nat} {O : List Nat} {w : World} (o1 : Obj) (hc : CSd H ca σ d w) (lowa : ∀ a,a ∈ ca → a < bs) (lowH : ∀ k o,H k = some o → k < bs) (big : bs ≤ w.heap.size)
    (han : ∀ a,any = some a → IO1 w a [] ∧ bs ≤ a.mb) (how : ∀ a,own = some a → IOI w a O ∧ H a.mb = none ∧ a.mb ∉ ca) (hap : ∀ a b,any = some a → own = some b → a.mb ≠ b.mb) :
    DW H ca σ d ⟨w.heap.size + 1 + 1,w.heap.size + 1,any,own⟩ bs (ds0 O) (((w.alloc o1).alloc (.map #[] 0)).alloc (.cells #[anyOf any,ownOf own,.slice none 0 0,.int .i64 0,.map (some (w.heap.size + 1))] 216)) := by
  have e1 : (w.alloc o1).heap.size = w.heap.size + 1 := by simp
  have e2 : ((w.alloc o1).alloc (.map #[] 0)).heap.size = w.heap.size + 1 + 1 := by simp
  have hs : ∀ (k : Nat) (x : Obj),w.heap[k]? = some x → (((w.alloc o1).alloc (.map #[] 0)).alloc (.cells #[anyOf any,ownOf own,.slice none 0 0,.int .i64 0,.map (some (w.heap.size + 1))] 216)).heap[k]? = w.heap[k]? := fun k x e => (past3 e).trans e.symm
  refine ⟨hc.gb (R := fun _ => False) ((((Gb.refl _ _).alloc _).alloc _).alloc _) (fun _ _ e => e) (fun _ _ _ e => e),⟨⟨.slice none 0 0,?_,rfl,Or.inl ⟨rfl,rfl⟩⟩,rfl,trivial,⟨Nat.zero_le _,Nat.zero_le _⟩,?_,fun a ha => ?_,fun a ha => ?_,hap,⟨by show bs ≤ w.heap.size + 1 + 1; omega,by show bs ≤ w.heap.size + 1; omega⟩⟩,lowa,lowH,fun a ha => (how a ha).2,by simp; omega⟩
  · rw [heap_alloc_at _ _ _ e2.symm]
    unfold draftB Dc.anyV Dc.ownV anyOf ownOf
    rfl
  · have hm : GM kI standA 3 ((w.alloc o1).alloc (.map #[] 0)) (w.alloc o1).heap.size ([] : List (Nat × Nat × Nat)) := GM.new
    rw [e1] at hm
    exact hm.same (Below.heap_alloc _ _ _ (by simp))
  · obtain ⟨i,l1⟩ := han a ha
    obtain ⟨D,⟨es,clock,q1,q2⟩,q3⟩ := i.mp
    have hl := lt_of_block q1
    exact ⟨i.same (hs _ _ i.mrk) (hs _ _ i.nf) (hs _ _ i.blk) (hs _ _ q1),l1,by show a.mb ≠ w.heap.size + 1; omega⟩
  · obtain ⟨i,l1⟩ := how a ha
    obtain ⟨es,cl,e⟩ := i.mp.isMap
    have hl := lt_of_block e
    exact ⟨i.same (hs _ _ i.mrk) (hs _ _ i.nf) (hs _ _ i.blk) (hs _ _ e),by show a.mb ≠ w.heap.size + 1; omega⟩
theorem draftOf_any {H : Nat → Option Obj} {ca : List Nat} {σ : Sto} {d : Nat → Nat} {any own : Option AB} {bs md F : Nat} {O : List Nat} {s' : Ds} {w : World} {v : Value} {t : Et}
    (hm0 : md = 0 ↔ any = none) (hm2 : md = 2 → own.isSome = true) (hv : ER H ca v t) (hs : draftS σ md F t (ds0 O) = some s') (hc : CSd H ca σ d w) (lowa : ∀ a,a ∈ ca → a < bs) (lowH : ∀ k o,H k = some o → k < bs) (big : bs ≤ w.heap.size)
    (han : ∀ a,any = some a → IO1 w a [] ∧ bs ≤ a.mb) (how : ∀ a,own = some a → IOI w a O ∧ H a.mb = none ∧ a.mb ∉ ca) (hap : ∀ a b,any = some a → own = some b → a.mb ≠ b.mb) :
    Calls Tryz.prog 54 #[v,.agg #[anyOf any,ownOf own]] w (DOF H ca σ d any own bs s' w) := by
  have hmm := @run_makeMap Tryz.prog
  have Q := hid (And.intro hm0 (And.intro hm2 (And.intro hv (And.intro hs (And.intro hc (And.intro lowa (And.intro lowH (And.intro han (And.intro how hap)))))))))
  clear hm0 hm2 hv hs hc lowa lowH han how hap
  obtain ⟨av,hav⟩ : ∃ av,av = anyOf any := ⟨_,rfl⟩
  obtain ⟨ov,hov⟩ : ∃ ov,ov = ownOf own := ⟨_,rfl⟩
  rw [← hav,← hov]
  have C1 := hid (add_any (c := ⟨w.heap.size + 1 + 1,w.heap.size + 1,any,own⟩) (bs := bs) (md := md) ⟨Q.out.1,Q.out.2.1⟩ F v t (ds0 O) s' _ Q.out.2.2.1 Q.out.2.2.2.1 (draft_new (.cells #[av,ov] 127) Q.out.2.2.2.2.1 Q.out.2.2.2.2.2.1 Q.out.2.2.2.2.2.2.1 big Q.out.2.2.2.2.2.2.2.1 Q.out.2.2.2.2.2.2.2.2.1 Q.out.2.2.2.2.2.2.2.2.2))
  rw [← hav,← hov] at C1
  unfold CP at C1
  clear hav hov
  go_enter Tryz.func54,Tryz.ntmps54
  go_wp2_with fail
  refine C1.out.mono ?_
  rintro e w1 ⟨rfl,r1,g1⟩
  have R1 := hid (And.intro r1 g1)
  clear r1 g1 C1
  go_wp2
  go_ret
  exact ⟨_,_,rfl,R1.out.1,Gb.allocL (Gb.allocL (Gb.allocL R1.out.2))⟩
theorem Gb.none {w w' : World} (h : Gb (fun k => w.heap.size ≤ k) w w') : w.grownBy w' none := ⟨h.os,h.tape,h.output,h.size,fun k hk _ => h.block k hk (by omega)⟩
theorem Gb.below {w w' : World} (h : Below w.heap.size w w') (R : Nat → Prop) : Gb R w w' := ⟨h.os,h.tape,h.output,h.size,fun k hk _ => h.block k hk⟩
theorem DG.high {db mb bs : Nat} {any : Option AB} {w w' : World} (h : Gb (DG [] ⟨db,mb,any,none⟩ bs) w w') : Gb (fun k => bs ≤ k) w w' := h.mono fun k e => by
  rcases e with e | e | ⟨a,e,_⟩
  · cases e
  · exact e
  · cases e
theorem one_any {H : Nat → Option Obj} {v : Value} {t : Et} {F : Nat} {s' : Ds} {w : World} (hv : ER H [] v t) (hs : draftS ⟨[],[]⟩ 1 F t (ds0 []) = some s') (hz : Fz H w) :
    Calls Tryz.prog 36 #[v] w fun e w' => e = .returned (.string (B s'.out)) ∧ w.grownBy w' none := by
  have Q := hid (And.intro hv (And.intro hs hz))
  clear hv hs hz
  go_enter Tryz.func36,Tryz.ntmps36
  go_wp2_with fail
  refine (letters_q w).mono ?_
  rintro e w1 ⟨ab,rfl,i1,g1,hmb⟩
  have C1 := hid (draftOf_any (H := H) (ca := []) (σ := ⟨[],[]⟩) (d := fun _ => 0) (any := some ab) (own := none) (bs := w.heap.size) (md := 1) (O := []) (w := w1) ⟨fun e => absurd e (by decide),fun e => by cases e⟩ (fun e => absurd e (by decide)) Q.out.1 Q.out.2.1 (CSd.nil (Q.out.2.2.grown g1)) (fun a h => by cases h) (fun k o e => Q.out.2.2.lt e) g1.size (fun a e => by cases e; exact ⟨i1,hmb⟩) (fun a e => by cases e) (fun a b _ e => by cases e))
  have G1 := hid g1
  clear i1 g1 hmb
  unfold anyOf ownOf at C1
  simp only at C1
  unfold askV at *
  go_wp2_with fail
  refine C1.out.mono ?_
  rintro e w2 ⟨db,mb,rfl,r2,g2⟩
  have C2 := hid (dtext_any r2.dr)
  have R2 := hid g2
  clear r2 g2 C1
  unfold CP at *
  go_wp2_with fail
  refine C2.out.mono ?_
  rintro e w3 ⟨rfl,b3⟩
  have R3 := hid b3
  clear b3 C2
  go_wp2
  go_ret
  exact ⟨rfl,((((Gb.new (R := fun k => w.heap.size ≤ k) G1.out).tr (DG.high R2.out)).tr (Gb.below R3.out _))).none⟩
theorem al_Basic_Basic (w : World) (a b : Nat) (s t : List UInt8) (c0 : w.cell? ⟨a,0,none⟩ = some (.string (B s))) (c1 : w.cell? ⟨b,0,none⟩ = some (.string (B t))) : Calls Tryz.prog 97 #[.iface 275 (.pointer (some ⟨a,0,none⟩)),.iface 275 (.pointer (some ⟨b,0,none⟩))] w fun e w' => e = .returned (.bool (decide (s = t))) ∧ w.grownBy w' none := by
  have pBasic := e_Basic_Basic a
  have pb := e_Basic_Basic b
  have hd := str_eq s t
  generalize decide (s = t) = r at *
  go_enter Tryz.func97,Tryz.ntmps97
  go_wp2_with fail
  go_quiet (fail)
  go_wp2
  go_ret
  exact ⟨rfl,⟨rfl,rfl,rfl,Nat.le_refl _,fun _ _ _ => rfl⟩⟩
theorem al_Basic_Var (w : World) (a b : Nat)  : Calls Tryz.prog 97 #[.iface 275 (.pointer (some ⟨a,0,none⟩)),.iface 242 (.pointer (some ⟨b,0,none⟩))] w fun e w' => e = .returned (.bool (false)) ∧ w.grownBy w' none := by
  have pBasic := e_Basic_Basic a
  have pb := e_Var_Basic b
  go_enter Tryz.func97,Tryz.ntmps97
  go_wp2_with fail
  go_quiet (fail)
  go_wp2
  go_ret
  exact ⟨rfl,⟨rfl,rfl,rfl,Nat.le_refl _,fun _ _ _ => rfl⟩⟩
theorem al_Basic_List (w : World) (a b : Nat)  : Calls Tryz.prog 97 #[.iface 275 (.pointer (some ⟨a,0,none⟩)),.iface 279 (.pointer (some ⟨b,0,none⟩))] w fun e w' => e = .returned (.bool (false)) ∧ w.grownBy w' none := by
  have pBasic := e_Basic_Basic a
  have pb := e_List_Basic b
  go_enter Tryz.func97,Tryz.ntmps97
  go_wp2_with fail
  go_quiet (fail)
  go_wp2
  go_ret
  exact ⟨rfl,⟨rfl,rfl,rfl,Nat.le_refl _,fun _ _ _ => rfl⟩⟩
theorem al_Basic_Pair (w : World) (a b : Nat)  : Calls Tryz.prog 97 #[.iface 275 (.pointer (some ⟨a,0,none⟩)),.iface 291 (.pointer (some ⟨b,0,none⟩))] w fun e w' => e = .returned (.bool (false)) ∧ w.grownBy w' none := by
  have pBasic := e_Basic_Basic a
  have pb := e_Pair_Basic b
  go_enter Tryz.func97,Tryz.ntmps97
  go_wp2_with fail
  go_quiet (fail)
  go_wp2
  go_ret
  exact ⟨rfl,⟨rfl,rfl,rfl,Nat.le_refl _,fun _ _ _ => rfl⟩⟩
theorem al_Basic_Arrow (w : World) (a b : Nat)  : Calls Tryz.prog 97 #[.iface 275 (.pointer (some ⟨a,0,none⟩)),.iface 209 (.pointer (some ⟨b,0,none⟩))] w fun e w' => e = .returned (.bool (false)) ∧ w.grownBy w' none := by
  have pBasic := e_Basic_Basic a
  have pb := e_Arrow_Basic b
  go_enter Tryz.func97,Tryz.ntmps97
  go_wp2_with fail
  go_quiet (fail)
  go_wp2
  go_ret
  exact ⟨rfl,⟨rfl,rfl,rfl,Nat.le_refl _,fun _ _ _ => rfl⟩⟩
theorem al_List_Basic (w : World) (a b : Nat)  : Calls Tryz.prog 97 #[.iface 279 (.pointer (some ⟨a,0,none⟩)),.iface 275 (.pointer (some ⟨b,0,none⟩))] w fun e w' => e = .returned (.bool (false)) ∧ w.grownBy w' none := by
  have pBasic := e_List_Basic a
  have pList := e_List_List a
  have pb := e_Basic_List b
  go_enter Tryz.func97,Tryz.ntmps97
  go_wp2
  go_ret
  exact ⟨rfl,World.grownBy.refl _ _⟩
theorem al_List_Var (w : World) (a b : Nat)  : Calls Tryz.prog 97 #[.iface 279 (.pointer (some ⟨a,0,none⟩)),.iface 242 (.pointer (some ⟨b,0,none⟩))] w fun e w' => e = .returned (.bool (false)) ∧ w.grownBy w' none := by
  have pBasic := e_List_Basic a
  have pList := e_List_List a
  have pb := e_Var_List b
  go_enter Tryz.func97,Tryz.ntmps97
  go_wp2
  go_ret
  exact ⟨rfl,World.grownBy.refl _ _⟩
theorem al_List_List (w : World) (a b : Nat)  : Calls Tryz.prog 97 #[.iface 279 (.pointer (some ⟨a,0,none⟩)),.iface 279 (.pointer (some ⟨b,0,none⟩))] w fun e w' => e = .returned (.bool (true)) ∧ w.grownBy w' none := by
  have pBasic := e_List_Basic a
  have pList := e_List_List a
  have pb := e_List_List b
  go_enter Tryz.func97,Tryz.ntmps97
  go_wp2
  go_ret
  exact ⟨rfl,World.grownBy.refl _ _⟩
theorem al_List_Pair (w : World) (a b : Nat)  : Calls Tryz.prog 97 #[.iface 279 (.pointer (some ⟨a,0,none⟩)),.iface 291 (.pointer (some ⟨b,0,none⟩))] w fun e w' => e = .returned (.bool (false)) ∧ w.grownBy w' none := by
  have pBasic := e_List_Basic a
  have pList := e_List_List a
  have pb := e_Pair_List b
  go_enter Tryz.func97,Tryz.ntmps97
  go_wp2
  go_ret
  exact ⟨rfl,World.grownBy.refl _ _⟩
theorem al_List_Arrow (w : World) (a b : Nat)  : Calls Tryz.prog 97 #[.iface 279 (.pointer (some ⟨a,0,none⟩)),.iface 209 (.pointer (some ⟨b,0,none⟩))] w fun e w' => e = .returned (.bool (false)) ∧ w.grownBy w' none := by
  have pBasic := e_List_Basic a
  have pList := e_List_List a
  have pb := e_Arrow_List b
  go_enter Tryz.func97,Tryz.ntmps97
  go_wp2
  go_ret
  exact ⟨rfl,World.grownBy.refl _ _⟩
theorem al_Pair_Basic (w : World) (a b : Nat)  : Calls Tryz.prog 97 #[.iface 291 (.pointer (some ⟨a,0,none⟩)),.iface 275 (.pointer (some ⟨b,0,none⟩))] w fun e w' => e = .returned (.bool (false)) ∧ w.grownBy w' none := by
  have pBasic := e_Pair_Basic a
  have pList := e_Pair_List a
  have pPair := e_Pair_Pair a
  have pb := e_Basic_Pair b
  go_enter Tryz.func97,Tryz.ntmps97
  go_wp2
  go_ret
  exact ⟨rfl,World.grownBy.refl _ _⟩
theorem al_Pair_Var (w : World) (a b : Nat)  : Calls Tryz.prog 97 #[.iface 291 (.pointer (some ⟨a,0,none⟩)),.iface 242 (.pointer (some ⟨b,0,none⟩))] w fun e w' => e = .returned (.bool (false)) ∧ w.grownBy w' none := by
  have pBasic := e_Pair_Basic a
  have pList := e_Pair_List a
  have pPair := e_Pair_Pair a
  have pb := e_Var_Pair b
  go_enter Tryz.func97,Tryz.ntmps97
  go_wp2
  go_ret
  exact ⟨rfl,World.grownBy.refl _ _⟩
theorem al_Pair_List (w : World) (a b : Nat)  : Calls Tryz.prog 97 #[.iface 291 (.pointer (some ⟨a,0,none⟩)),.iface 279 (.pointer (some ⟨b,0,none⟩))] w fun e w' => e = .returned (.bool (false)) ∧ w.grownBy w' none := by
  have pBasic := e_Pair_Basic a
  have pList := e_Pair_List a
  have pPair := e_Pair_Pair a
  have pb := e_List_Pair b
  go_enter Tryz.func97,Tryz.ntmps97
  go_wp2
  go_ret
  exact ⟨rfl,World.grownBy.refl _ _⟩
theorem al_Pair_Pair (w : World) (a b : Nat)  : Calls Tryz.prog 97 #[.iface 291 (.pointer (some ⟨a,0,none⟩)),.iface 291 (.pointer (some ⟨b,0,none⟩))] w fun e w' => e = .returned (.bool (true)) ∧ w.grownBy w' none := by
  have pBasic := e_Pair_Basic a
  have pList := e_Pair_List a
  have pPair := e_Pair_Pair a
  have pb := e_Pair_Pair b
  go_enter Tryz.func97,Tryz.ntmps97
  go_wp2
  go_ret
  exact ⟨rfl,World.grownBy.refl _ _⟩
theorem al_Pair_Arrow (w : World) (a b : Nat)  : Calls Tryz.prog 97 #[.iface 291 (.pointer (some ⟨a,0,none⟩)),.iface 209 (.pointer (some ⟨b,0,none⟩))] w fun e w' => e = .returned (.bool (false)) ∧ w.grownBy w' none := by
  have pBasic := e_Pair_Basic a
  have pList := e_Pair_List a
  have pPair := e_Pair_Pair a
  have pb := e_Arrow_Pair b
  go_enter Tryz.func97,Tryz.ntmps97
  go_wp2
  go_ret
  exact ⟨rfl,World.grownBy.refl _ _⟩
theorem al_Arrow_Basic (w : World) (a b : Nat)  : Calls Tryz.prog 97 #[.iface 209 (.pointer (some ⟨a,0,none⟩)),.iface 275 (.pointer (some ⟨b,0,none⟩))] w fun e w' => e = .returned (.bool (false)) ∧ w.grownBy w' none := by
  have pBasic := e_Arrow_Basic a
  have pList := e_Arrow_List a
  have pPair := e_Arrow_Pair a
  have pArrow := e_Arrow_Arrow a
  have pb := e_Basic_Arrow b
  go_enter Tryz.func97,Tryz.ntmps97
  go_wp2
  go_ret
  exact ⟨rfl,World.grownBy.refl _ _⟩
theorem al_Arrow_Var (w : World) (a b : Nat)  : Calls Tryz.prog 97 #[.iface 209 (.pointer (some ⟨a,0,none⟩)),.iface 242 (.pointer (some ⟨b,0,none⟩))] w fun e w' => e = .returned (.bool (false)) ∧ w.grownBy w' none := by
  have pBasic := e_Arrow_Basic a
  have pList := e_Arrow_List a
  have pPair := e_Arrow_Pair a
  have pArrow := e_Arrow_Arrow a
  have pb := e_Var_Arrow b
  go_enter Tryz.func97,Tryz.ntmps97
  go_wp2
  go_ret
  exact ⟨rfl,World.grownBy.refl _ _⟩
theorem al_Arrow_List (w : World) (a b : Nat)  : Calls Tryz.prog 97 #[.iface 209 (.pointer (some ⟨a,0,none⟩)),.iface 279 (.pointer (some ⟨b,0,none⟩))] w fun e w' => e = .returned (.bool (false)) ∧ w.grownBy w' none := by
  have pBasic := e_Arrow_Basic a
  have pList := e_Arrow_List a
  have pPair := e_Arrow_Pair a
  have pArrow := e_Arrow_Arrow a
  have pb := e_List_Arrow b
  go_enter Tryz.func97,Tryz.ntmps97
  go_wp2
  go_ret
  exact ⟨rfl,World.grownBy.refl _ _⟩
theorem al_Arrow_Pair (w : World) (a b : Nat)  : Calls Tryz.prog 97 #[.iface 209 (.pointer (some ⟨a,0,none⟩)),.iface 291 (.pointer (some ⟨b,0,none⟩))] w fun e w' => e = .returned (.bool (false)) ∧ w.grownBy w' none := by
  have pBasic := e_Arrow_Basic a
  have pList := e_Arrow_List a
  have pPair := e_Arrow_Pair a
  have pArrow := e_Arrow_Arrow a
  have pb := e_Pair_Arrow b
  go_enter Tryz.func97,Tryz.ntmps97
  go_wp2
  go_ret
  exact ⟨rfl,World.grownBy.refl _ _⟩
theorem al_Arrow_Arrow (w : World) (a b : Nat)  : Calls Tryz.prog 97 #[.iface 209 (.pointer (some ⟨a,0,none⟩)),.iface 209 (.pointer (some ⟨b,0,none⟩))] w fun e w' => e = .returned (.bool (true)) ∧ w.grownBy w' none := by
  have pBasic := e_Arrow_Basic a
  have pList := e_Arrow_List a
  have pPair := e_Arrow_Pair a
  have pArrow := e_Arrow_Arrow a
  have pb := e_Arrow_Arrow b
  go_enter Tryz.func97,Tryz.ntmps97
  go_wp2
  go_ret
  exact ⟨rfl,World.grownBy.refl _ _⟩
def OFP (H : Nat → Option Obj) (ca : List Nat) (σ : Sto) (d : Nat → Nat) (tb : Nat) (w : World) (e : Ending) (w' : World) : Prop :=
  ∃ a,e = .returned (CP a) ∧ w.heap.size ≤ a ∧ CSd H (ca ++ [a]) σ d w' ∧ w'.cell? ⟨tb,0,none⟩ = some (.int .i64 (σ.rep.length : Int)) ∧ Gb (fun k => k = tb) w w' ∧ ∀ i,i ≠ 0 → w'.cell? ⟨tb,i,none⟩ = w.cell? ⟨tb,i,none⟩
theorem of_end {H : Nat → Option Obj} {ca : List Nat} {σ : Sto} {d : Nat → Nat} {tb : Nat} {o : Option Et} {v : Value} {w : World} (hc : CSd H ca σ d w) (c0 : w.cell? ⟨tb,0,none⟩ = some (.int .i64 (σ.rep.length : Int))) (htb : tb < w.heap.size) (ht : H tb = none) (hta : tb ∉ ca) (ho : ORep H ca o v) (hr : σ.rep.length < 1099511627776) :
    OFP H ca (σ.new o) d tb w (.returned (CP w.heap.size)) ((w.setCell ⟨tb,0,none⟩ (.int .i64 ((σ.rep.length : Int) + 1))).alloc (.cells #[.int .i64 ((σ.rep.length : Int) + 1),v] 284)) := by
  have hs : (w.setCell ⟨tb,0,none⟩ (.int .i64 ((σ.rep.length : Int) + 1))).heap.size = w.heap.size := by simp [World.setCell]
  have g0 : Gb (fun k => k = tb) w ((w.setCell ⟨tb,0,none⟩ (.int .i64 ((σ.rep.length : Int) + 1))).alloc (.cells #[.int .i64 ((σ.rep.length : Int) + 1),v] 284)) := ((Gb.refl (fun k => k = tb) w).set (b := tb) (Or.inl rfl) 0 _).alloc _
  refine ⟨w.heap.size,rfl,Nat.le_refl _,hc.new ho hr (hc.fz.gb g0 (fun k x e e2 => by rw [e2,ht] at e; cases e)) (fun x hx => g0.block x (InAs.lt hc hx) (fun e => hta (e ▸ hx))) (Nat.le_refl _) ?_,?_,g0,fun i hi => ?_⟩
  · rw [heap_alloc_at _ _ _ hs.symm]
    rfl
  · rw [World.cell?_of_block (a := ⟨tb,0,none⟩) (Below.heap_alloc _ _ _ (by rw [hs]; exact htb))]
    have e : (((σ.new o).rep.length : Nat) : Int) = (σ.rep.length : Int) + 1 := by simp [Sto.new]
    rw [e]
    exact World.cell?_setCell_same _ _ _ c0
  · rw [World.cell?_of_block (a := ⟨tb,i,none⟩) (Below.heap_alloc _ _ _ (by rw [hs]; exact htb))]
    exact World.cell?_setCell_other _ _ _ _ (by simp)
def Node (H : Nat → Option Obj) (ca : List Nat) (v : Value) (t : Et) : Prop := t.kind ≠ [] ∧ t.kind ≠ oCell ∧ ER H ca v t
theorem Node.cases {H : Nat → Option Obj} {ca : List Nat} {v : Value} {t : Et} (h : Node H ca v t) : ∃ b,((t.kind = kInt ∨ t.kind = kBool) ∧ v = .iface 275 (.pointer (some ⟨b,0,none⟩)) ∧ H b = some (.cells #[.string (B t.kind)] 277 (0,0))) ∨
    (t.kind = oList ∧ v = .iface 279 (.pointer (some ⟨b,0,none⟩))) ∨ (t.kind = oPair ∧ v = .iface 291 (.pointer (some ⟨b,0,none⟩))) ∨ (t.kind = kFun ∧ v = .iface 209 (.pointer (some ⟨b,0,none⟩))) := by
  obtain ⟨h1,h2,m,h⟩ := h
  cases m with
  | zero => exact absurd h id
  | succ m =>
  obtain ⟨b,h⟩ := h
  refine ⟨b,?_⟩
  rcases h with ⟨q1,_⟩ | ⟨q1,_⟩ | ⟨q1,_,q3,q4⟩ | ⟨q1,_,_,_,_,q3,_⟩ | ⟨q1,_,_,_,_,_,_,q3,_⟩ | ⟨q1,_,_,_,_,_,_,q3,_⟩
  · exact absurd q1 h2
  · exact absurd q1 h1
  · exact Or.inl ⟨q1,q3,q4⟩
  · exact Or.inr (Or.inl ⟨q1,q3⟩)
  · exact Or.inr (Or.inr (Or.inl ⟨q1,q3⟩))
  · exact Or.inr (Or.inr (Or.inr ⟨q1,q3⟩))
theorem alike_e {H : Nat → Option Obj} {ca : List Nat} {u v : Value} {x y : Et} {w : World} (hu : Node H ca u x) (hv : Node H ca v y) (hz : Fz H w) : Calls Tryz.prog 97 #[u,v] w fun e w' => e = .returned (.bool (decide (x.kind = y.kind))) ∧ w.grownBy w' none := by
  obtain ⟨a,hu⟩ := hu.cases
  obtain ⟨b,hv⟩ := hv.cases
  rcases hu with ⟨h1,rfl,h3⟩ | ⟨h1,rfl⟩ | ⟨h1,rfl⟩ | ⟨h1,rfl⟩
  · rcases hv with ⟨g1,rfl,g3⟩ | ⟨g1,rfl⟩ | ⟨g1,rfl⟩ | ⟨g1,rfl⟩
    · exact al_Basic_Basic w a b _ _ (by simp [World.cell?,hz _ _ h3]) (by simp [World.cell?,hz _ _ g3])
    · rw [decide_eq_false (by rcases h1 with h1 | h1 <;> rw [h1,g1] <;> decide)]; exact al_Basic_List w a b
    · rw [decide_eq_false (by rcases h1 with h1 | h1 <;> rw [h1,g1] <;> decide)]; exact al_Basic_Pair w a b
    · rw [decide_eq_false (by rcases h1 with h1 | h1 <;> rw [h1,g1] <;> decide)]; exact al_Basic_Arrow w a b
  · rcases hv with ⟨g1,rfl,g3⟩ | ⟨g1,rfl⟩ | ⟨g1,rfl⟩ | ⟨g1,rfl⟩
    · rw [decide_eq_false (by rcases g1 with g1 | g1 <;> rw [h1,g1] <;> decide)]; exact al_List_Basic w a b
    · rw [decide_eq_true (h1.trans g1.symm)]; exact al_List_List w a b
    · rw [decide_eq_false (by rw [h1,g1] <;> decide)]; exact al_List_Pair w a b
    · rw [decide_eq_false (by rw [h1,g1] <;> decide)]; exact al_List_Arrow w a b
  · rcases hv with ⟨g1,rfl,g3⟩ | ⟨g1,rfl⟩ | ⟨g1,rfl⟩ | ⟨g1,rfl⟩
    · rw [decide_eq_false (by rcases g1 with g1 | g1 <;> rw [h1,g1] <;> decide)]; exact al_Pair_Basic w a b
    · rw [decide_eq_false (by rw [h1,g1] <;> decide)]; exact al_Pair_List w a b
    · rw [decide_eq_true (h1.trans g1.symm)]; exact al_Pair_Pair w a b
    · rw [decide_eq_false (by rw [h1,g1] <;> decide)]; exact al_Pair_Arrow w a b
  · rcases hv with ⟨g1,rfl,g3⟩ | ⟨g1,rfl⟩ | ⟨g1,rfl⟩ | ⟨g1,rfl⟩
    · rw [decide_eq_false (by rcases g1 with g1 | g1 <;> rw [h1,g1] <;> decide)]; exact al_Arrow_Basic w a b
    · rw [decide_eq_false (by rw [h1,g1] <;> decide)]; exact al_Arrow_List w a b
    · rw [decide_eq_false (by rw [h1,g1] <;> decide)]; exact al_Arrow_Pair w a b
    · rw [decide_eq_true (h1.trans g1.symm)]; exact al_Arrow_Arrow w a b
def nV (n : Nat) : Value := .int .i64 (n : Int)
def FarAt (w : World) (mb : Nat) (far : List (Nat × Nat)) : Prop := GM kI nV 3 w mb far
def FarOk (σ : Sto) (far : List (Nat × Nat)) : Prop := ∀ p,p ∈ far → p.1 < σ.rep.length
def LPP (H : Nat → Option Obj) (ca : List Nat) (σ : Sto) (d : Nat → Nat) (mb : Nat) (r : Option (List (Nat × Nat))) (w : World) (e : Ending) (w' : World) : Prop :=
  Gb (fun k => InAs ca k ∨ k = mb) w w' ∧ match r with
    | none => e = .returned (.bool true)
    | some far => e = .returned (.bool false) ∧ CSd H ca σ d w' ∧ FarAt w' mb far ∧ FarOk σ far
theorem e2_Cell (b : Nat) (w : World) : (Instr.typeAssert (.iface 173 (.pointer (some ⟨b,0,none⟩))) 77 173 false).run Tryz.prog w = .ok (.pointer (some ⟨b,0,none⟩)) w := by kernel_rfl
theorem far_len {σ : Sto} {w : World} {mb : Nat} {far : List (Nat × Nat)} (h : FarAt w mb far) (ok : FarOk σ far) : far.length ≤ σ.rep.length := by
  obtain ⟨D,_,_,hn,_⟩ := h
  have h1 : (far.map (·.1)).Subset (List.range σ.rep.length) := fun a ha => by
    obtain ⟨p,hp,rfl⟩ := List.mem_map.1 ha
    exact List.mem_range.2 (ok p hp)
  have h2 := List.Nodup.length_le_of_subset hn h1
  simpa using h2
theorem far_put {σ : Sto} {far : List (Nat × Nat)} (ok : FarOk σ far) {c n : Nat} (hc : c < σ.rep.length) : FarOk σ (putL far c n) := by
  induction far with
  | nil => intro p hp; simp [putL] at hp; rw [hp]; exact hc
  | cons q l ih =>
    intro p hp
    rw [putL] at hp
    split at hp
    · rcases List.mem_cons.1 hp with rfl | hp
      · exact hc
      · exact ok p (List.mem_cons_of_mem _ hp)
    · rcases List.mem_cons.1 hp with rfl | hp
      · exact ok _ (List.mem_cons_self ..)
      · exact ih (fun x hx => ok x (List.mem_cons_of_mem _ hx)) p hp
theorem cell_val2 {H : Nat → Option Obj} {ca : List Nat} {u : Value} {k : Et} (h : ER H ca u k) (hk : k.kind = oCell) : ∃ x,ca[k.num]? = some x ∧ u = CI x := by
  obtain ⟨m,h⟩ := h
  cases m with
  | zero => exact absurd h id
  | succ m =>
  obtain ⟨b,h⟩ := h
  rcases h with ⟨h1,h2,h3,h4⟩ | ⟨h1,_⟩ | ⟨h1,_⟩ | ⟨h1,_⟩ | ⟨h1,_⟩ | ⟨h1,_⟩
  · exact ⟨b,h3,h4⟩
  · exact absurd (h1.symm.trans hk) (by decide)
  · rcases h1 with h1 | h1 <;> exact absurd (h1.symm.trans hk) (by decide)
  · exact absurd (h1.symm.trans hk) (by decide)
  · exact absurd (h1.symm.trans hk) (by decide)
  · exact absurd (h1.symm.trans hk) (by decide)
theorem kids_root {σ : Sto} {c : Nat} (h : σ.rep[σ.root c]? = some (σ.root c)) : kidsS σ (cT (σ.root c)) = kidsS σ (cT c) := by
  have e : σ.root (σ.root c) = σ.root c := by
    show σ.rep.getD (σ.root c) (σ.root c) = σ.root c
    rw [List.getD_eq_getElem?_getD,h]
    rfl
  unfold kidsS Sto.is
  show (if oCell = oCell then (match σ.con.getD (σ.root (σ.root c)) none with | none => [] | some nd => nd.kids) else _) = (if oCell = oCell then (match σ.con.getD (σ.root c) none with | none => [] | some nd => nd.kids) else _)
  rw [e]
  rfl
theorem loops_any {H : Nat → Option Obj} {ca : List Nat} {σ : Sto} {d : Nat → Nat} {mb : Nat} (hmb : H mb = none) (hma : mb ∉ ca) : ∀ (f c x : Nat) (far : List (Nat × Nat)) (r : Option (List (Nat × Nat))) (w : World),ca[c]? = some x → loopsS σ f c far = some r → CSd H ca σ d w → FarAt w mb far → FarOk σ far →
    Calls Tryz.prog 204 #[CI x,.map (some mb)] w (LPP H ca σ d mb r w) := by
  intro f
  induction f with
  | zero => intro c x far r w _ h; cases h
  | succ f ih =>
    intro c x far r w ec hr hc hf ok
    have HL := hid (last_any (d c + 1) c x w (by omega) ec hc)
    obtain ⟨b0,er0,eb0⟩ := hc.root_get ec
    have hil := (List.getElem?_eq_some_iff.1 ec).1
    have hrl : σ.root c < σ.rep.length := (List.getElem?_eq_some_iff.1 (hc.rr _ _ er0)).1
    have hfew := hc.few
    have ek := kI_key (n := σ.root c) (by omega)
    have hlt := hf.lt
    have t1 := e2_Cell x
    rw [loopsS] at hr
    have HR := hid hr
    have HF := hid (And.intro hf ok)
    have EC := hid (And.intro ec (And.intro eb0 (hc.rr _ _ er0)))
    have IH := hid ih
    clear hr hc hf ok ih ec er0 eb0 hil
    unfold CI
    unfold CP at HL
    go_enter Tryz.func204,Tryz.ntmps204
    go_wp2_with fail
    refine HL.out.mono ?_
    rintro e w1 ⟨b1,rfl,h1,h2,h3,h4⟩
    obtain rfl := Option.some.inj (EC.out.2.1.symm.trans h1)
    obtain ⟨v1,hv1,ho1⟩ := h2.root_val (List.getElem?_eq_some_iff.1 EC.out.1).1 h1
    obtain ⟨x0,x1,_,_⟩ := cell_at hv1
    have hf1 : FarAt w1 mb far := HF.out.1.gb h3 hma
    have hlk := GM.look1 hf1 intLaw Tryz.underlying359 (zeroInt w1) ek
    have C1 := hid (And.intro h2 (And.intro h3 (And.intro hf1 ho1)))
    clear h1 h2 h3 h4 hv1 hf1 ho1 HL ek
    unfold CP
    cases eg : getL far (σ.root c) with
    | some n =>
      rw [eg] at hlk
      simp only [Option.map_some,Option.getD_some] at hlk
      have hr := HR.out
      rw [eg] at hr
      have G1 := hid (C1.out.2.1.mono (R' := fun k => InAs ca k ∨ k = mb) (fun i e => Or.inl e))
      by_cases n1 : n = 1
      · subst n1
        have er := (Option.some.inj hr).symm
        subst er
        unfold nV at hlk
        clear eg hr HR
        go_wp2
        go_ret
        exact ⟨G1.out,rfl⟩
      · by_cases n2 : n = 2
        · subst n2
          have er := (Option.some.inj hr).symm
          subst er
          unfold nV at hlk
          clear eg hr HR
          go_wp2
          go_ret
          exact ⟨G1.out,rfl,C1.out.1,C1.out.2.2.1,HF.out.2⟩
        · exfalso
          revert hr
          split
          · rename_i e; cases e; omega
          · rename_i e; cases e; omega
          · intro h; cases h
          · rename_i e; cases e
    | none =>
      rw [eg] at hlk
      simp only [Option.map_none,Option.getD_none] at hlk
      have hroot := C1.out.1.few
      obtain ⟨w2,hup,hf2,g2⟩ := GM.store C1.out.2.2.1 intLaw Tryz.underlying359 kI_inj kI_lit (by have := far_len C1.out.2.2.1 HF.out.2; omega) 1 (kI_key (n := σ.root c) (by omega))
      have hup1 : (Instr.mapUpdate 359 (.map (some mb)) (.int .i64 ((σ.root c : Int) + 1)) (.int .i64 1)).run Tryz.prog w1 = .ok () w2 := hup
      rw [putL_new 1 eg] at hf2
      have ok2 : FarOk σ (far ++ [(σ.root c,1)]) := by rw [← putL_new 1 eg]; exact far_put HF.out.2 hrl
      have gb2 : Gb (fun k => k = mb) w1 w2 := Gb.of g2 (fun b e => Or.inl (Option.some.inj e).symm)
      have c2 : CSd H ca σ d w2 := C1.out.1.gb gb2 (fun a ha e => hma (e ▸ ha)) (fun k o e e2 => by rw [e2,hmb] at e; cases e)
      obtain ⟨us,hul,hK,hB⟩ := below_cell (σ := σ) (d := d) EC.out.2.1 c2
      rw [kids_root EC.out.2.2] at hK
      have hkk : ∀ k,k ∈ kidsS σ (cT c) → k.kind = oCell := by
        intro k hk
        have e0 : kidsS σ (cT c) = (match σ.is c with | none => [] | some nd => nd.kids) := by unfold kidsS; rw [if_pos (show (cT c).kind = oCell from rfl)]; rfl
        rw [e0] at hk
        rcases C1.out.2.2.2 with ⟨e1,_⟩ | ⟨nd,e1,_,_,h3,_⟩
        · rw [e1] at hk; cases hk
        · rw [e1] at hk; exact h3 k hk
      have hr := HR.out
      rw [eg] at hr
      simp only at hr
      have HB := hid hB
      have HK := hid (And.intro hK hkk)
      have G2 := hid (And.intro (C1.out.2.1.mono (R' := fun k => InAs ca k ∨ k = mb) (fun i e => Or.inl e)) (gb2.mono (R' := fun k => InAs ca k ∨ k = mb) (fun i e => Or.inr e)))
      have F2 := hid (And.intro hf2 ok2)
      have HR2 := hid hr
      have x0' : w2.cell? ⟨b0,0,none⟩ = some (.int .i64 ((σ.root c : Int) + 1)) := by
        obtain ⟨v2,hv2,_⟩ := c2.root_val (List.getElem?_eq_some_iff.1 EC.out.1).1 EC.out.2.1
        exact (cell_at hv2).1
      clear eg hup hf2 g2 ok2 gb2 c2 hK hB hkk hr HF HR hroot
      unfold CP at HB
      go_wp2_with fail
      refine HB.out.mono ?_
      rintro e w3 ⟨r1,r2,r3⟩
      obtain ⟨ao,cap,he,hrow⟩ : ∃ ao cap,e = .returned (.slice ao us.length cap) ∧ ∀ (j : Nat) (u : Value),us[j]? = some u → ∃ gn,ao = some ⟨gn,0,none⟩ ∧ gn < w3.heap.size ∧ ¬ InAs ca gn ∧ gn ≠ mb ∧ w3.cell? ⟨gn,j,none⟩ = some u := by
        rcases r3 with ⟨rfl,rfl⟩ | ⟨gn,rfl,q1,q2⟩
        · exact ⟨none,0,rfl,fun j u h => by simp at h⟩
        · refine ⟨_,_,rfl,fun j u h => ⟨gn,rfl,lt_of_block q2,fun hk => ?_,?_,?_⟩⟩
          · have h9 := InAs.lt C1.out.1 hk
            have := G2.out.2.size
            omega
          · have h9 := F2.out.1.lt
            omega
          · rw [cell_of_row w3 gn j _ _ _ q2]
            simpa using h
      subst he
      have HROW := hid hrow
      have G3 := hid (And.intro r1 (And.intro (F2.out.1.gb r2 hma) (G2.out.1.tr (G2.out.2.tr (r2.mono (fun i e => Or.inl e))))))
      have OK3 := hid F2.out.2
      clear hrow r1 r2 r3 HB x0 x1 x0' hlk hup1 G2 F2 C1
      obtain ⟨R0,hR0⟩ : ∃ R0,R0 = loopsAllS (loopsS σ f) (kidsS σ (cT c)) (far ++ [(σ.root c,1)]) := ⟨_,rfl⟩
      rw [← hR0] at HR2
      have J0 := hid (show loopsAllS (loopsS σ f) ((kidsS σ (cT c)).drop 0) (far ++ [(σ.root c,1)]) = R0 from hR0.symm)
      clear hR0
      go_wp2_with fail
      go_loopg [29] (us.length + 1) (fun gh i wi => ∃ (j : Nat) (fj : List (Nat × Nat)),j ≤ us.length ∧ i = .int .i64 j ∧ gh = us.length - j + 1 ∧ Hid (loopsAllS (loopsS σ f) ((kidsS σ (cT c)).drop j) fj = R0) ∧ Hid ((CSd H ca σ d wi ∧ FarAt wi mb fj ∧ FarOk σ fj) ∧ Gb (fun k => InAs ca k ∨ k = mb) w3 wi))
      case atStart => exact ⟨0,_,by omega,rfl,by omega,J0,hid ⟨⟨G3.out.1,G3.out.2.1,OK3.out⟩,Gb.refl _ _⟩⟩
      case round =>
        obtain ⟨j,fj,hj,rfl,hgj,HJ,HG⟩ := hrel
        by_cases hjl : j < us.length
        · have hjk : j < (kidsS σ (cT c)).length := by rw [← HK.out.1.1]; exact hjl
          obtain ⟨u,hu⟩ : ∃ u,us[j]? = some u := ⟨_,List.getElem?_eq_getElem hjl⟩
          obtain ⟨y,hy⟩ : ∃ y,(kidsS σ (cT c))[j]? = some y := ⟨_,List.getElem?_eq_getElem hjk⟩
          obtain ⟨gn,rfl,hg1,hn1,hn2,cu⟩ := HROW.out j u hu
          have du : wr.cell? ⟨gn,j,none⟩ = some u := HG.out.2.cell cu hg1 (fun e => e.elim hn1 hn2)
          obtain ⟨y1,ey,rfl⟩ := cell_val2 (HK.out.1.2 j u y hu hy) (HK.out.2 y (List.mem_of_getElem? hy))
          have hd : (kidsS σ (cT c)).drop j = y :: (kidsS σ (cT c)).drop (j + 1) := by
            rw [List.drop_eq_getElem_cons hjk]
            rw [List.getElem?_eq_getElem hjk] at hy
            rw [Option.some.inj hy]
          have hjj := HJ.out
          rw [hd,loopsAllS] at hjj
          cases er : loopsS σ f y.num fj with
          | none =>
            rw [er] at hjj
            have h9 := HR2.out
            rw [← hjj] at h9
            cases h9
          | some rj =>
            rw [er] at hjj
            have CON := hid (IH.out y.num y1 fj rj wr ey er HG.out.1.1 HG.out.1.2.1 HG.out.1.2.2)
            have HJ2 := hid hjj
            clear hu hy cu hd hjj er ey HJ
            unfold CI at *
            cases rj with
            | none =>
              have hr : r = none := by
                have h9 := HR2.out
                rw [← HJ2.out] at h9
                exact (Option.some.inj h9).symm
              subst hr
              go_wp2_with fail
              refine CON.out.mono ?_
              rintro e w5 ⟨g5,rfl⟩
              have G5 := hid g5
              clear g5 CON
              go_wp2
              go_ret
              exact ⟨(G3.out.2.2.tr HG.out.2).tr G5.out,rfl⟩
            | some fj2 =>
              have J2 := hid (show loopsAllS (loopsS σ f) ((kidsS σ (cT c)).drop (j + 1)) fj2 = R0 from HJ2.out)
              go_wp2_with fail
              refine CON.out.mono ?_
              rintro e w5 ⟨g5,rfl,c5⟩
              have G5 := hid (And.intro c5 g5)
              clear g5 c5 CON
              go_wp2_with fail
              go_roundg (us.length - (j + 1) + 1)
              case measure => omega
              case rel => exact ⟨j + 1,fj2,by omega,by go_num,rfl,J2,hid ⟨G5.out.1,HG.out.2.tr G5.out.2⟩⟩
        · have hje : j = us.length := by omega
          subst hje
          have hR : R0 = some (some fj) := by
            have h3 := HJ.out
            rw [HK.out.1.1,List.drop_length] at h3
            exact h3.symm
          have hr : r = some (putL fj (σ.root c) 2) := by
            have h9 := HR2.out
            rw [hR] at h9
            exact (Option.some.inj h9).symm
          subst hr
          obtain ⟨v2,hv2,_⟩ := HG.out.1.1.root_val (List.getElem?_eq_some_iff.1 EC.out.1).1 EC.out.2.1
          have x0 := (cell_at hv2).1
          obtain ⟨w6,hup,hf6,g6⟩ := GM.store HG.out.1.2.1 intLaw Tryz.underlying359 kI_inj kI_lit (by have := far_len HG.out.1.2.1 HG.out.1.2.2; omega) 2 (kI_key (n := σ.root c) (by omega))
          have hup1 : (Instr.mapUpdate 359 (.map (some mb)) (.int .i64 ((σ.root c : Int) + 1)) (.int .i64 2)).run Tryz.prog wr = .ok () w6 := hup
          have gb6 : Gb (fun k => k = mb) wr w6 := Gb.of g6 (fun b e => Or.inl (Option.some.inj e).symm)
          have E6 := hid (And.intro (HG.out.1.1.gb gb6 (fun a ha e => hma (e ▸ ha)) (fun k o e e2 => by rw [e2,hmb] at e; cases e)) (And.intro hf6 (And.intro (far_put HG.out.1.2.2 (n := 2) hrl) (gb6.mono (R' := fun k => InAs ca k ∨ k = mb) (fun i e => Or.inr e)))))
          clear hv2 hup hf6 g6 gb6 hR
          go_wp2
          go_ret
          exact ⟨(G3.out.2.2.tr HG.out.2).tr E6.out.2.2.2,rfl,E6.out.1,E6.out.2.1,E6.out.2.2.1⟩
theorem al_Basic_Cell (w : World) (a b : Nat) : Calls Tryz.prog 97 #[.iface 275 (.pointer (some ⟨a,0,none⟩)),.iface 173 (.pointer (some ⟨b,0,none⟩))] w fun e w' => e = .returned (.bool false) ∧ w.grownBy w' none := by
  have pBasic := e_Basic_Basic a
  have pb := e_Cell_Basic b
  go_enter Tryz.func97,Tryz.ntmps97
  go_wp2_with fail
  go_quiet (fail)
  go_wp2
  go_ret
  exact ⟨rfl,⟨rfl,rfl,rfl,Nat.le_refl _,fun _ _ _ => rfl⟩⟩
theorem al_List_Cell (w : World) (a b : Nat) : Calls Tryz.prog 97 #[.iface 279 (.pointer (some ⟨a,0,none⟩)),.iface 173 (.pointer (some ⟨b,0,none⟩))] w fun e w' => e = .returned (.bool false) ∧ w.grownBy w' none := by
  have pBasic := e_List_Basic a
  have pList := e_List_List a
  have pb := e_Cell_List b
  go_enter Tryz.func97,Tryz.ntmps97
  go_wp2
  go_ret
  exact ⟨rfl,World.grownBy.refl _ _⟩
theorem al_Pair_Cell (w : World) (a b : Nat) : Calls Tryz.prog 97 #[.iface 291 (.pointer (some ⟨a,0,none⟩)),.iface 173 (.pointer (some ⟨b,0,none⟩))] w fun e w' => e = .returned (.bool false) ∧ w.grownBy w' none := by
  have pBasic := e_Pair_Basic a
  have pList := e_Pair_List a
  have pPair := e_Pair_Pair a
  have pb := e_Cell_Pair b
  go_enter Tryz.func97,Tryz.ntmps97
  go_wp2
  go_ret
  exact ⟨rfl,World.grownBy.refl _ _⟩
theorem al_Arrow_Cell (w : World) (a b : Nat) : Calls Tryz.prog 97 #[.iface 209 (.pointer (some ⟨a,0,none⟩)),.iface 173 (.pointer (some ⟨b,0,none⟩))] w fun e w' => e = .returned (.bool false) ∧ w.grownBy w' none := by
  have pBasic := e_Arrow_Basic a
  have pList := e_Arrow_List a
  have pPair := e_Arrow_Pair a
  have pArrow := e_Arrow_Arrow a
  have pb := e_Cell_Arrow b
  go_enter Tryz.func97,Tryz.ntmps97
  go_wp2
  go_ret
  exact ⟨rfl,World.grownBy.refl _ _⟩
theorem al_Cell (w : World) (a : Nat) (v : Value) : Calls Tryz.prog 97 #[.iface 173 (.pointer (some ⟨a,0,none⟩)),v] w fun e w' => e = .returned (.bool false) ∧ w.grownBy w' none := by
  have p1 := e_Cell_Basic a
  have p2 := e_Cell_List a
  have p3 := e_Cell_Pair a
  have p4 := e_Cell_Arrow a
  go_enter Tryz.func97,Tryz.ntmps97
  go_wp2
  go_ret
  exact ⟨rfl,World.grownBy.refl _ _⟩
def EV (H : Nat → Option Obj) (v : Value) (t : Et) : Prop := ∃ b,(t.kind = oCell ∧ v = .iface 173 (.pointer (some ⟨b,0,none⟩))) ∨ (t.kind = [] ∧ v = .iface 242 (.pointer (some ⟨b,0,none⟩)) ∧ H b = some (.cells #[.string (B t.name)] 246 (0,0)) ∧ t.name.length ≤ 300) ∨
  ((t.kind = kInt ∨ t.kind = kBool) ∧ v = .iface 275 (.pointer (some ⟨b,0,none⟩)) ∧ H b = some (.cells #[.string (B t.kind)] 277 (0,0))) ∨ (t.kind = oList ∧ v = .iface 279 (.pointer (some ⟨b,0,none⟩))) ∨ (t.kind = oPair ∧ v = .iface 291 (.pointer (some ⟨b,0,none⟩))) ∨ (t.kind = kFun ∧ v = .iface 209 (.pointer (some ⟨b,0,none⟩)))
theorem ERep.ev {lo : Nat} {H : Nat → Option Obj} {ca : List Nat} {m : Nat} {v : Value} {t : Et} (h : ERep lo H ca m v t) : EV H v t := by
  cases m with
  | zero => exact absurd h id
  | succ m =>
  obtain ⟨b,h⟩ := h
  refine ⟨b,?_⟩
  rcases h with ⟨q1,_,_,q4⟩ | ⟨q1,_,q2,_,q3,q4⟩ | ⟨q1,_,q3,q4⟩ | ⟨q1,_,_,_,_,q3,_⟩ | ⟨q1,_,_,_,_,_,_,q3,_⟩ | ⟨q1,_,_,_,_,_,_,q3,_⟩
  · exact Or.inl ⟨q1,q4⟩
  · exact Or.inr (Or.inl ⟨q1,q3,q4,q2⟩)
  · exact Or.inr (Or.inr (Or.inl ⟨q1,q3,q4⟩))
  · exact Or.inr (Or.inr (Or.inr (Or.inl ⟨q1,q3⟩)))
  · exact Or.inr (Or.inr (Or.inr (Or.inr (Or.inl ⟨q1,q3⟩))))
  · exact Or.inr (Or.inr (Or.inr (Or.inr (Or.inr ⟨q1,q3⟩))))
theorem alike_s {H : Nat → Option Obj} {u v : Value} {x y : Et} {w : World} (hu : EV H u x) (hv : EV H v y) (hz : Fz H w) (hk : x.kind ≠ []) : Calls Tryz.prog 97 #[u,v] w fun e w' => e = .returned (.bool (decide (x.kind = y.kind ∧ x.kind ≠ oCell))) ∧ w.grownBy w' none := by
  obtain ⟨a,hu⟩ := hu
  obtain ⟨b,hv⟩ := hv
  rcases hu with ⟨h1,rfl⟩ | ⟨h1,_⟩ | ⟨h1,rfl,h3⟩ | ⟨h1,rfl⟩ | ⟨h1,rfl⟩ | ⟨h1,rfl⟩
  · rw [decide_eq_false (fun e => e.2 h1)]; exact al_Cell w a v
  · exact absurd h1 hk
  · rcases hv with ⟨g1,rfl⟩ | ⟨g1,rfl,_⟩ | ⟨g1,rfl,g3⟩ | ⟨g1,rfl⟩ | ⟨g1,rfl⟩ | ⟨g1,rfl⟩
    · rw [decide_eq_false (fun e => by rcases h1 with h1 | h1 <;> exact absurd (h1.symm.trans (e.1.trans g1)) (by decide))]; exact al_Basic_Cell w a b
    · rw [decide_eq_false (fun e => by rcases h1 with h1 | h1 <;> exact absurd (h1.symm.trans (e.1.trans g1)) (by decide))]; exact al_Basic_Var w a b
    · have e : decide (x.kind = y.kind ∧ x.kind ≠ oCell) = decide (x.kind = y.kind) := by
        have h9 : x.kind ≠ oCell := by rcases h1 with h1 | h1 <;> rw [h1] <;> decide
        simp [h9]
      rw [e]
      exact al_Basic_Basic w a b _ _ (by simp [World.cell?,hz _ _ h3]) (by simp [World.cell?,hz _ _ g3])
    · rw [decide_eq_false (fun e => by rcases h1 with h1 | h1 <;> exact absurd (h1.symm.trans (e.1.trans g1)) (by decide))]; exact al_Basic_List w a b
    · rw [decide_eq_false (fun e => by rcases h1 with h1 | h1 <;> exact absurd (h1.symm.trans (e.1.trans g1)) (by decide))]; exact al_Basic_Pair w a b
    · rw [decide_eq_false (fun e => by rcases h1 with h1 | h1 <;> exact absurd (h1.symm.trans (e.1.trans g1)) (by decide))]; exact al_Basic_Arrow w a b
  · rcases hv with ⟨g1,rfl⟩ | ⟨g1,rfl,_⟩ | ⟨g1,rfl,g3⟩ | ⟨g1,rfl⟩ | ⟨g1,rfl⟩ | ⟨g1,rfl⟩
    · rw [decide_eq_false (fun e => absurd (h1.symm.trans (e.1.trans g1)) (by decide))]; exact al_List_Cell w a b
    · rw [decide_eq_false (fun e => absurd (h1.symm.trans (e.1.trans g1)) (by decide))]; exact al_List_Var w a b
    · rw [decide_eq_false (fun e => by rcases g1 with g1 | g1 <;> exact absurd (h1.symm.trans (e.1.trans g1)) (by decide))]; exact al_List_Basic w a b
    · rw [decide_eq_true ⟨by rw [h1,g1],by rw [h1]; decide⟩]; exact al_List_List w a b
    · rw [decide_eq_false (fun e => absurd (h1.symm.trans (e.1.trans g1)) (by decide))]; exact al_List_Pair w a b
    · rw [decide_eq_false (fun e => absurd (h1.symm.trans (e.1.trans g1)) (by decide))]; exact al_List_Arrow w a b
  · rcases hv with ⟨g1,rfl⟩ | ⟨g1,rfl,_⟩ | ⟨g1,rfl,g3⟩ | ⟨g1,rfl⟩ | ⟨g1,rfl⟩ | ⟨g1,rfl⟩
    · rw [decide_eq_false (fun e => absurd (h1.symm.trans (e.1.trans g1)) (by decide))]; exact al_Pair_Cell w a b
    · rw [decide_eq_false (fun e => absurd (h1.symm.trans (e.1.trans g1)) (by decide))]; exact al_Pair_Var w a b
    · rw [decide_eq_false (fun e => by rcases g1 with g1 | g1 <;> exact absurd (h1.symm.trans (e.1.trans g1)) (by decide))]; exact al_Pair_Basic w a b
    · rw [decide_eq_false (fun e => absurd (h1.symm.trans (e.1.trans g1)) (by decide))]; exact al_Pair_List w a b
    · rw [decide_eq_true ⟨by rw [h1,g1],by rw [h1]; decide⟩]; exact al_Pair_Pair w a b
    · rw [decide_eq_false (fun e => absurd (h1.symm.trans (e.1.trans g1)) (by decide))]; exact al_Pair_Arrow w a b
  · rcases hv with ⟨g1,rfl⟩ | ⟨g1,rfl,_⟩ | ⟨g1,rfl,g3⟩ | ⟨g1,rfl⟩ | ⟨g1,rfl⟩ | ⟨g1,rfl⟩
    · rw [decide_eq_false (fun e => absurd (h1.symm.trans (e.1.trans g1)) (by decide))]; exact al_Arrow_Cell w a b
    · rw [decide_eq_false (fun e => absurd (h1.symm.trans (e.1.trans g1)) (by decide))]; exact al_Arrow_Var w a b
    · rw [decide_eq_false (fun e => by rcases g1 with g1 | g1 <;> exact absurd (h1.symm.trans (e.1.trans g1)) (by decide))]; exact al_Arrow_Basic w a b
    · rw [decide_eq_false (fun e => absurd (h1.symm.trans (e.1.trans g1)) (by decide))]; exact al_Arrow_List w a b
    · rw [decide_eq_false (fun e => absurd (h1.symm.trans (e.1.trans g1)) (by decide))]; exact al_Arrow_Pair w a b
    · rw [decide_eq_true ⟨by rw [h1,g1],by rw [h1]; decide⟩]; exact al_Arrow_Arrow w a b
structure NU (w : World) (cb mb : Nat) (L : List (List UInt8)) : Prop where
  blk : w.heap[cb]? = some (.cells #[.map (some mb)] 288 (0,0))
  mp : MP w mb L
theorem NU.ne {w : World} {cb mb : Nat} {L : List (List UInt8)} (h : NU w cb mb L) : cb ≠ mb := fun e => by
  obtain ⟨es,cl,hb⟩ := h.mp.isMap
  have := h.blk
  rw [e,hb] at this
  cases this
theorem NU.gb {R : Nat → Prop} {w w' : World} {cb mb : Nat} {L : List (List UInt8)} (h : NU w cb mb L) (g : Gb R w w') (h1 : ¬ R cb) (h2 : ¬ R mb) : NU w' cb mb L := by
  refine ⟨g.at h.blk h1,?_⟩
  obtain ⟨D,q1,q2⟩ := h.mp
  have e : w'.heap[mb]? = w.heap[mb]? := g.block mb q1.lt h2
  obtain ⟨es,clock,hb,q3⟩ := q1
  exact ⟨D,⟨es,clock,by rw [e]; exact hb,q3⟩,q2⟩
theorem num_u (w : World) (cb mb : Nat) (nm : List UInt8) (L : List (List UInt8)) (hnm : nm.length ≤ 300) (h : NU w cb mb L) (hL : L.length ≤ 200) :
    Calls Tryz.prog 131 #[.string (B nm),.pointer (some ⟨cb,0,none⟩)] w fun e w' => e = .returned (.int .i64 ((ordS L nm).idxOf nm : Nat)) ∧ NU w' cb mb (ordS L nm) ∧ w.grownBy w' (some mb) := by
  have c0 : w.cell? ⟨cb,0,none⟩ = some (.map (some mb)) := by simp [World.cell?,h.blk]
  have H := hid h
  by_cases hm : nm ∈ L
  · have e : ordS L nm = L := by unfold ordS; rw [if_pos hm]
    rw [e]
    have hlk := h.mp.look_in hnm hm
    obtain ⟨ix,hixe⟩ : ∃ ix,ix = L.idxOf nm := ⟨_,rfl⟩
    rw [← hixe] at hlk ⊢
    clear h hm e hixe
    go_enter Tryz.func131,Tryz.ntmps131
    go_wp2
    go_ret
    exact ⟨rfl,H.out,World.grownBy.refl _ _⟩
  · have e : ordS L nm = L ++ [nm] := by unfold ordS; rw [if_neg hm]
    rw [e]
    have hlk := h.mp.look_out hnm hm
    have hln := fun ty => MP.len h.mp ty
    obtain ⟨w5,hst,hmp,hg5⟩ := MP.store h.mp hnm hm (by omega)
    have hix : (L ++ [nm]).idxOf nm = L.length := by rw [List.idxOf_append,if_neg hm]; simp
    rw [hix]
    have Q := hid (And.intro hmp hg5)
    clear h hm e hix hmp hg5
    go_enter Tryz.func131,Tryz.ntmps131
    go_wp2
    go_ret
    exact ⟨rfl,⟨(Gb.of (R := fun k => k = mb) Q.out.2 (fun b e => Or.inl (Option.some.inj e).symm)).at H.out.blk H.out.ne,Q.out.1⟩,Q.out.2⟩
end Go.Proofs.YtcdijppegfcoaabGreatDoor
