import Derived.Test.YtcdijppegfcoaabGreatDoorZK07
import Derived.Test.YtcdijppegfcoaabGreatDoorShelfJ
import Derived.Shelf.Strings.BuilderK
import Derived.Shelf.Strings.Builder2
import Derived.Test.YtcdijppegfcoaabGreatDoorZK02
import Derived.Outline
import Derived.Deep.LoopGhost
import Derived.Test.YtcdijppegfcoaabGreatDoorZK01
import Derived.Test.YtcdijppegfcoaabGreatDoorChecked
import Derived.Test.YtcdijppegfcoaabGreatDoorZK00
import Derived.WalkSpells
import Derived.Deep.DeepCutAuto
import Derived.Deep.CutBlock
import Derived.Lib.SlBytesConst
import Derived.Handy
import Derived.Deep.RegionWith
import Derived.Maps.OwnSet
set_option maxRecDepth 100000
set_option maxHeartbeats 8000000
namespace Go.Proofs.YtcdijppegfcoaabGreatDoor
open Go.RowKit
theorem bld_grow (b n : Nat) (w : World) (hbk : w.heap[b]? = some (.cells #[.pointer none,.slice none 0 0] 222 (0,0))) (bs : Nat) (hB : bs ≤ b) (hBw : bs ≤ w.heap.size) (hn : n ≤ 281474976710656) :
    Calls Tryz.prog 91 #[.pointer (some ⟨b,0,none⟩),.int .i64 n] w fun e w' => e = .returned (.tuple #[]) ∧ (Lib.BuilderAt 222 5 bs b (.pointer (some ⟨b,0,none⟩)) [] w' ∧ Below bs w w') :=
  Any.Builder_Grow_fresh { Tryz.lays156 with } Tryz.Builder_Extra_156 bs b n w hB hbk hBw hn
theorem bld_write (bs b : Nat) (l : List Value) (s : ByteArray) (w : World) (h : Lib.IsBuilderF 222 5 bs b l w) (hlen : l.length + s.size ≤ 140737488355328) (hBw : bs ≤ w.heap.size) :
    Calls Tryz.prog 92 #[.pointer (some ⟨b,0,none⟩),.string s] w fun e w' => e = .returned (.tuple #[.int .i64 s.size,.nilIface]) ∧ (Lib.BuilderAtF 222 5 bs b (.pointer (some ⟨b,0,none⟩)) (l ++ Lib.strCells s) w' ∧ Below bs w w' ∧ Lib.OthersKept 5 (some b) w w') :=
  Any.Builder_WriteString_k { Tryz.lays156 with } Tryz.Builder_Extra_156 bs b l s w h hlen hBw
theorem bld_string (bs b : Nat) (l : List UInt8) (w : World) (h : Lib.IsBuilderF 222 5 bs b (Lib.byteCells l) w) (hBw : bs ≤ w.heap.size) :
    Calls Tryz.prog 93 #[.pointer (some ⟨b,0,none⟩)] w fun e w' => e = .returned (.string ⟨l.toArray⟩) ∧ (Lib.IsBuilderF 222 5 bs b (Lib.byteCells l) w' ∧ Below bs w w' ∧ Lib.OthersKept 5 (some b) w w') :=
  Any.Builder_String_any_k { Tryz.lays156 with } Tryz.Builder_Extra_156 bs b l w h hBw
theorem stepsL_at : ∀ (l : List (List UInt8 × Nat × Nat)) (j : Nat) (x : List UInt8) (f t : Nat),l[j]? = some (x,f,t) → (stepsL l)[3 * j]? = some (.string (B x)) ∧ (stepsL l)[3 * j + 1]? = some (.int .i64 (f : Int)) ∧ (stepsL l)[3 * j + 2]? = some (.int .i64 (t : Int))
  | [],j,x,f,t,h => by simp at h
  | a :: l,0,x,f,t,h => by
    simp at h
    subst h
    exact ⟨rfl,rfl,rfl⟩
  | a :: l,j + 1,x,f,t,h => by
    have ih := stepsL_at l j x f t (by simpa using h)
    have e : stepsL (a :: l) = stepL a ++ stepsL l := rfl
    have e3 : (stepL a).length = 3 := rfl
    rw [e,List.getElem?_append_right (by rw [e3]; omega),List.getElem?_append_right (by rw [e3]; omega),List.getElem?_append_right (by rw [e3]; omega),e3]
    rw [show 3 * (j + 1) - 3 = 3 * j from by omega,show 3 * (j + 1) + 1 - 3 = 3 * j + 1 from by omega,show 3 * (j + 1) + 2 - 3 = 3 * j + 2 from by omega]
    exact ih
theorem steps_at {w : World} {bs : Nat} {sv : Value} {l : List (List UInt8 × Nat × Nat)} (h : w.ownsRow bs 225 3 sv l.length (stepsL l)) : ∃ ao cap,sv = .slice ao l.length cap ∧ ∀ (j : Nat) (x : List UInt8) (f t : Nat),l[j]? = some (x,f,t) → ∃ g,ao = some ⟨g,0,none⟩ ∧ g < w.heap.size ∧
    w.cell? ⟨g,j * 3,none⟩ = some (.string (B x)) ∧ w.cell? ⟨g,j * 3 + 1,none⟩ = some (.int .i64 (f : Int)) ∧ w.cell? ⟨g,j * 3 + 2,none⟩ = some (.int .i64 (t : Int)) := by
  rcases h.2 with ⟨rfl,h0⟩ | ⟨g,cap,cur,rfl,q2,q3,q4,q5,q6,q7⟩
  · refine ⟨none,0,by rw [h0],fun j x f t e => ?_⟩
    have hj := (List.getElem?_eq_some_iff.1 e).1
    rw [h0] at hj
    omega
  · refine ⟨_,cap,rfl,fun j x f t e => ⟨g,rfl,lt_of_block q3,?_⟩⟩
    obtain ⟨a1,a2,a3⟩ := stepsL_at l j x f t e
    have hj := (List.getElem?_eq_some_iff.1 e).1
    have hc : ∀ (i : Nat) (v : Value),(stepsL l)[i]? = some v → w.cell? ⟨g,i,none⟩ = some v := fun i v hi => by
      rw [cell_of_row w g i cur _ _ q3]
      rw [← q7,List.getElem?_take] at hi
      split at hi
      · simpa using hi
      · cases hi
    rw [Nat.mul_comm j 3]
    exact ⟨hc _ _ a1,hc _ _ a2,hc _ _ a3⟩
theorem runS_len : ∀ (l : List (List UInt8 × Nat × Nat)) (out : List UInt8),out.length ≤ (runS l out).length
  | [],out => Nat.le_refl _
  | (x,f,t) :: l,out => by
    rw [runS]
    have := runS_len l (out ++ x ++ ((out ++ x).drop f).take (t - f))
    simp only [List.length_append] at this
    omega
theorem runS_step {l : List (List UInt8 × Nat × Nat)} {j : Nat} {x : List UInt8} {f t : Nat} (h : l[j]? = some (x,f,t)) (out : List UInt8) : runS (l.take (j + 1)) out = runS (l.take j) out ++ x ++ ((runS (l.take j) out ++ x).drop f).take (t - f) := by
  rw [List.take_add_one,h,runS_app]
  rfl
theorem okS_at : ∀ {l : List (List UInt8 × Nat × Nat)} {j : Nat} {x : List UInt8} {f t : Nat} {out : List UInt8},okS l out → l[j]? = some (x,f,t) → f ≤ t ∧ t ≤ (runS (l.take j) out).length + x.length
  | [],j,x,f,t,out,_,h => by simp at h
  | a :: l,0,x,f,t,out,ho,h => by
    simp at h
    subst h
    exact ⟨ho.1,ho.2.1⟩
  | (x',f',t') :: l,j + 1,x,f,t,out,ho,h => by
    have := okS_at (l := l) (j := j) ho.2.2 (by simpa using h)
    rw [List.take_succ_cons,runS]
    exact this
theorem dtext_any {c : Dc} {bs : Nat} {s : Ds} {w : World} (h : DR c bs s w) : Calls Tryz.prog 56 #[CP c.db] w fun e w' => e = .returned (.string (B s.out)) ∧ Below w.heap.size w w' := by
  obtain ⟨sv,hb,hown⟩ := h.blk
  obtain ⟨ao,cap,rfl,hst⟩ := steps_at hown
  obtain ⟨_,_,c2,c3,_,_,_⟩ := draft_cells hb
  have hdl := lt_of_block hb
  have Q := hid (And.intro h (And.intro hst hb))
  have hn := h.short
  obtain ⟨hn1,hn2⟩ := hn
  have hk : (w.alloc (.cells #[.pointer none,.slice none 0 0] 222)).heap[w.heap.size]? = some (.cells #[.pointer none,.slice none 0 0] 222 (0,0)) := heap_alloc_at _ _ _ rfl
  have HG := hid (bld_grow w.heap.size s.out.length _ hk w.heap.size (Nat.le_refl _) (by simp) (by omega))
  clear h hb hown hk hst
  unfold CP
  go_enter Tryz.func56,Tryz.ntmps56
  go_wp2_with fail
  refine HG.out.mono ?_
  rintro e w1 ⟨rfl,r1,b1⟩
  have c2' : w1.cell? ⟨c.db,2,none⟩ = some (.slice ao s.steps.length cap) := by
    rw [b1.cell (p := ⟨c.db,2,none⟩) hdl,World.cell?_of_block (a := ⟨c.db,2,none⟩) (Below.heap_alloc _ _ _ hdl)]
    exact c2
  have b0 : Below w.heap.size w w1 := ⟨b1.os,b1.tape,b1.output,by have := b1.size; simp at this; omega,fun k hk => by rw [b1.block k hk,Below.heap_alloc _ _ _ hk]⟩
  have R1 := hid (And.intro (show Lib.IsBuilderF 222 5 w.heap.size w.heap.size (Lib.byteCells (runS (s.steps.take 0) [])) w1 from Or.inr (Lib.BuilderAtF.of r1)) b0)
  clear r1 b1 b0 HG
  go_wp2_with fail
  obtain ⟨n,hn⟩ : ∃ n,n = s.steps.length := ⟨_,rfl⟩
  have HN := hid hn
  rw [← hn] at hn2 ⊢
  clear hn c2 c2' c3
  go_loopg [16] (n + 1) (fun gh i wi => ∃ j : Nat,j ≤ n ∧ i = .int .i64 j ∧ gh = n - j + 1 ∧ Hid (Lib.IsBuilderF 222 5 w.heap.size w.heap.size (Lib.byteCells (runS (s.steps.take j) [])) wi ∧ Below w.heap.size w wi))
  case atStart => exact ⟨0,by omega,rfl,by omega,R1⟩
  case round =>
    obtain ⟨j,hj,rfl,hgj,HI⟩ := hrel
    by_cases hjl : j < n
    · obtain ⟨⟨x,f,t⟩,hst⟩ : ∃ p,s.steps[j]? = some p := ⟨s.steps[j]'(by rw [← HN.out]; exact hjl),List.getElem?_eq_getElem _⟩
      obtain ⟨gb,rfl,hgl,k0,k1,k2⟩ := Q.out.2.1 j x f t hst
      have d0 : wr.cell? ⟨gb,j * 3,none⟩ = some (.string (B x)) := (HI.out.2.cell (p := ⟨gb,j * 3,none⟩) hgl).trans k0
      have d1 : wr.cell? ⟨gb,j * 3 + 1,none⟩ = some (.int .i64 (f : Int)) := (HI.out.2.cell (p := ⟨gb,j * 3 + 1,none⟩) hgl).trans k1
      have d2 : wr.cell? ⟨gb,j * 3 + 2,none⟩ = some (.int .i64 (t : Int)) := (HI.out.2.cell (p := ⟨gb,j * 3 + 2,none⟩) hgl).trans k2
      have hsz := HI.out.2.size
      obtain ⟨y,hy⟩ : ∃ y,y = runS (s.steps.take j) [] := ⟨_,rfl⟩
      have hstep := runS_step hst []
      have hok := okS_at Q.out.1.ok hst
      rw [← hy] at hstep hok
      have hlen : (runS (s.steps.take (j + 1)) []).length ≤ 100000 := by
        have h1 := runS_len (s.steps.drop (j + 1)) (runS (s.steps.take (j + 1)) [])
        rw [← runS_app,List.take_append_drop,Q.out.1.run] at h1
        omega
      rw [hstep] at hlen
      simp only [List.length_append] at hlen
      have HB := HI.out.1
      rw [← hy] at HB
      have hbl : w.heap.size < wr.heap.size := by
        rcases HB with h | h
        · exact h.lt
        · exact h.lt
      have HW := hid (bld_write w.heap.size w.heap.size _ (B x) _ (HB.alloc (.cells #[.string (B x),.int .i64 (f : Int),.int .i64 (t : Int)] 225)) (by rw [Lib.byteCells_length,size_B]; omega) (by simp; omega))
      obtain ⟨z,hz⟩ : ∃ z,z = y ++ x := ⟨_,rfl⟩
      have hzl : t ≤ z.length := by rw [hz,List.length_append]; exact hok.2
      have hft := hok.1
      have hzb : z.length ≤ 100000 := by rw [hz,List.length_append]; omega
      have HH := hid (And.intro hstep (And.intro hok (And.intro hlen (And.intro hy hz))))
      clear k0 k1 k2 hstep hok hlen HB hy hst hz
      go_wp2_with fail
      refine HW.out.mono ?_
      rintro e w3 ⟨rfl,r3,b3,o3⟩
      have hb3 : w3.heap[wr.heap.size]? = some (.cells #[.string (B x),.int .i64 (f : Int),.int .i64 (t : Int)] 225 (0,0)) := o3 _ _ (heap_alloc_at _ _ _ rfl) (by simp; omega) (fun c fz e => by injection e with _ e _; exact absurd e (by decide))
      obtain ⟨_,z1,z2⟩ := three_cells hb3
      have r3' : Lib.IsBuilderF 222 5 w.heap.size w.heap.size (Lib.byteCells z) w3.drew := by
        rw [HH.out.2.2.2.2,Lib.byteCells_append]
        exact Or.inr r3
      have hs3 : w.heap.size ≤ w3.heap.size := by have := b3.size; simp at this; omega
      have HS := hid (bld_string w.heap.size w.heap.size _ w3.drew r3' hs3)
      have R3 := hid (And.intro b3 hb3)
      have hzs : (⟨z.toArray⟩ : ByteArray).size = z.length := rfl
      have HE := hid (show (⟨z.toArray⟩ : ByteArray).extract f t = B ((z.drop f).take (t - f)) from by rw [ext_cut]; show B ((z.take t).drop f) = _; rw [List.drop_take])
      have HL := hid (show (Lib.byteCells z).length + ((⟨z.toArray⟩ : ByteArray).extract f t).size ≤ 140737488355328 from by rw [HE.out,size_B,Lib.byteCells_length]; simp only [List.length_take,List.length_drop]; omega)
      clear r3 b3 o3 hb3 r3' HW d0 d1 d2
      go_wp2_with fail
      go_region_with (first
        | (go_at_call 93; refine HS.out.mono ?_; rintro e w4 ⟨rfl,r4,b4,o4⟩; have hb4 := o4 _ _ R3.out.2 (by simp; omega) (fun c fz e => by injection e with _ e _; exact absurd e (by decide)); obtain ⟨_,y1,y2⟩ := three_cells hb4; have hs4 : w.heap.size ≤ w4.heap.size := Nat.le_trans hs3 b4.size; have R4 := hid (And.intro r4 b4); clear r4 b4 o4 hb4)
        | (go_at_call 92; refine (bld_write w.heap.size w.heap.size _ _ _ R4.out.1 HL.out hs4).mono ?_; rintro e w5 ⟨rfl,r5,b5,_⟩; have R5 := hid (And.intro r5 b5); clear r5 b5))
      all_goals
        go_wp2_with fail
        go_roundg (n - (j + 1) + 1)
        case measure => omega
        case rel =>
          refine ⟨j + 1,by omega,by go_num,rfl,hid ⟨?_,?_⟩⟩
          · rw [HH.out.1,← HH.out.2.2.2.2,Lib.byteCells_append]
            have h5 := R5.out.1
            rw [HE.out] at h5
            exact Or.inr h5
          · have b0 : Below w.heap.size w (wr.alloc (.cells #[.string (B x),.int .i64 (f : Int),.int .i64 (t : Int)] 225)) := HI.out.2.alloc hsz _
            have b4 := R4.out.2
            exact ((b0.trans R3.out.1).trans ⟨b4.os,b4.tape,b4.output,b4.size,b4.block⟩).trans R5.out.2
    · have hje : j = n := by omega
      subst hje
      have HS := hid (bld_string w.heap.size w.heap.size _ wr HI.out.1 HI.out.2.size)
      have e1 : runS (s.steps.take j) [] = s.out := by rw [HN.out,List.take_length]; exact Q.out.1.run
      rw [e1] at HS
      go_wp2_with fail
      refine HS.out.mono ?_
      rintro e w9 ⟨rfl,_,b9,_⟩
      have B9 := hid b9
      clear b9 HS
      go_wp2
      go_ret
      exact ⟨rfl,HI.out.2.trans B9.out⟩
def qe (ns : List (List UInt8)) : Nat → Ty → Et
  | 0,_ => vT []
  | m + 1,x => if x.kind = [] then vT (ns.getD x.var []) else ⟨x.kind,[],0,x.kids.map (qe ns m)⟩
theorem QRep.et {ns : List (List UInt8)} {H : Nat → Option Obj} {ca : List Nat} : ∀ (m : Nat) (v : Value) (x : Ty),QRep ns m H v x → ERep 0 H ca m v (qe ns m x)
  | 0,_,_,h => h
  | m + 1,v,x,h => by
    obtain ⟨b,h⟩ := h
    refine ⟨b,?_⟩
    rw [qe]
    rcases h with ⟨q1,q2,q3,q4,q5⟩ | ⟨q1,q2,q3,q4⟩ | ⟨q1,a,u,q2,q3,q4,q5⟩ | ⟨q1,a,c,u,z,q2,q3,q4,q5,q6⟩ | ⟨q1,a,c,u,z,q2,q3,q4,q5,q6⟩
    · rw [if_pos q1]
      exact Or.inr (Or.inl ⟨rfl,rfl,q3.2,Nat.zero_le _,q4,q5⟩)
    · rw [if_neg (by rcases q1 with q1 | q1 <;> rw [q1] <;> decide)]
      exact Or.inr (Or.inr (Or.inl ⟨q1,by show x.kids.map _ = []; rw [q2]; rfl,q3,q4⟩))
    · rw [if_neg (by rw [q1]; decide)]
      exact Or.inr (Or.inr (Or.inr (Or.inl ⟨q1,Nat.zero_le _,qe ns m a,u,by show x.kids.map _ = _; rw [q2]; rfl,q3,q4,QRep.et m u a q5⟩)))
    · rw [if_neg (by rw [q1]; decide)]
      exact Or.inr (Or.inr (Or.inr (Or.inr (Or.inl ⟨q1,Nat.zero_le _,qe ns m a,qe ns m c,u,z,by show x.kids.map _ = _; rw [q2]; rfl,q3,q4,QRep.et m u a q5,QRep.et m z c q6⟩))))
    · rw [if_neg (by rw [q1]; decide)]
      exact Or.inr (Or.inr (Or.inr (Or.inr (Or.inr ⟨q1,Nat.zero_le _,qe ns m a,qe ns m c,u,z,by show x.kids.map _ = _; rw [q2]; rfl,q3,q4,QRep.et m u a q5,QRep.et m z c q6⟩))))
theorem CSd.nil {H : Nat → Option Obj} {w : World} (hz : Fz H w) : CSd H [] ⟨[],[]⟩ (fun _ => 0) w :=
  ⟨hz,rfl,rfl,by simp,fun a h => by simp at h,by simp,fun i c h => by simp at h,fun i a h => by simp at h⟩
def DOF (H : Nat → Option Obj) (ca : List Nat) (σ : Sto) (d : Nat → Nat) (any own : Option AB) (bs : Nat) (s' : Ds) (w : World) (e : Ending) (w' : World) : Prop :=
  ∃ db mb,e = .returned (CP db) ∧ DW H ca σ d ⟨db,mb,any,own⟩ bs s' w' ∧ Gb (DG ca ⟨db,mb,any,own⟩ bs) w w'
def anyOf (any : Option AB) : Value := match any with
  | none => ownV
  | some a => askV a
def ownOf (own : Option AB) : Value := match own with
  | none => .nilFunc
  | some a => askI a
theorem past3 {w : World} {k : Nat} {o1 o2 o3 x : Obj} (h : w.heap[k]? = some x) : (((w.alloc o1).alloc o2).alloc o3).heap[k]? = some x := by
  rw [Below.heap_alloc _ _ _ (by simp; have := lt_of_block h; omega)]
  exact past2 h
theorem draft_new {H : Nat → Option Obj} {ca : List Nat} {σ : Sto} {d : Nat → Nat} {any own : Option AB} {bs : Nat} {O : List Nat} {w : World} (o1 : Obj) (hc : CSd H ca σ d w) (lowa : ∀ a,a ∈ ca → a < bs) (lowH : ∀ k o,H k = some o → k < bs) (big : bs ≤ w.heap.size)
    (han : ∀ a,any = some a → IO1 w a [] ∧ bs ≤ a.mb) (how : ∀ a,own = some a → IOI w a O ∧ H a.mb = none ∧ a.mb ∉ ca) (hap : ∀ a b,any = some a → own = some b → a.mb ≠ b.mb) :
    DW H ca σ d ⟨w.heap.size + 1 + 1,w.heap.size + 1,any,own⟩ bs (ds0 O) (((w.alloc o1).alloc (.map #[] 0)).alloc (.cells #[anyOf any,ownOf own,.slice none 0 0,.int .i64 0,.map (some (w.heap.size + 1))] 216)) := by
  have e1 : (w.alloc o1).heap.size = w.heap.size + 1 := by simp
  have e2 : ((w.alloc o1).alloc (.map #[] 0)).heap.size = w.heap.size + 1 + 1 := by simp
  have hs : ∀ (k : Nat) (x : Obj),w.heap[k]? = some x → (((w.alloc o1).alloc (.map #[] 0)).alloc (.cells #[anyOf any,ownOf own,.slice none 0 0,.int .i64 0,.map (some (w.heap.size + 1))] 216)).heap[k]? = w.heap[k]? := fun k x e => (past3 e).trans e.symm
  refine ⟨hc.gb (R := fun _ => False) ((((Gb.refl _ _).alloc _).alloc _).alloc _) (fun _ _ e => e) (fun _ _ _ e => e),⟨⟨.slice none 0 0,?_,rfl,Or.inl ⟨rfl,rfl⟩⟩,rfl,trivial,⟨Nat.zero_le _,Nat.zero_le _⟩,?_,fun a ha => ?_,fun a ha => ?_,hap,⟨by show bs ≤ w.heap.size + 1 + 1; omega,by show bs ≤ w.heap.size + 1; omega⟩⟩,lowa,lowH,fun a ha => (how a ha).2,by simp; omega⟩
  · rw [heap_alloc_at _ _ _ e2.symm]
    unfold draftB Dc.anyV Dc.ownV anyOf ownOf
    rfl
  · have hm : GM kI standA 3 ((w.alloc o1).alloc (.map #[] 0)) (w.alloc o1).heap.size ([] : List (Nat × Nat × Nat)) := GM.new
    rw [e1] at hm
    exact hm.same (Below.heap_alloc _ _ _ (by simp))
  · obtain ⟨i,l1⟩ := han a ha
    obtain ⟨D,⟨es,clock,q1,q2⟩,q3⟩ := i.mp
    have hl := lt_of_block q1
    exact ⟨i.same (hs _ _ i.mrk) (hs _ _ i.nf) (hs _ _ i.blk) (hs _ _ q1),l1,by show a.mb ≠ w.heap.size + 1; omega⟩
  · obtain ⟨i,l1⟩ := how a ha
    obtain ⟨es,cl,e⟩ := i.mp.isMap
    have hl := lt_of_block e
    exact ⟨i.same (hs _ _ i.mrk) (hs _ _ i.nf) (hs _ _ i.blk) (hs _ _ e),by show a.mb ≠ w.heap.size + 1; omega⟩
theorem draftOf_any {H : Nat → Option Obj} {ca : List Nat} {σ : Sto} {d : Nat → Nat} {any own : Option AB} {bs md F : Nat} {O : List Nat} {s' : Ds} {w : World} {v : Value} {t : Et}
    (hm0 : md = 0 ↔ any = none) (hm2 : md = 2 → own.isSome = true) (hv : ER H ca v t) (hs : draftS σ md F t (ds0 O) = some s') (hc : CSd H ca σ d w) (lowa : ∀ a,a ∈ ca → a < bs) (lowH : ∀ k o,H k = some o → k < bs) (big : bs ≤ w.heap.size)
    (han : ∀ a,any = some a → IO1 w a [] ∧ bs ≤ a.mb) (how : ∀ a,own = some a → IOI w a O ∧ H a.mb = none ∧ a.mb ∉ ca) (hap : ∀ a b,any = some a → own = some b → a.mb ≠ b.mb) :
    Calls Tryz.prog 54 #[v,.agg #[anyOf any,ownOf own]] w (DOF H ca σ d any own bs s' w) := by
  have hmm := @run_makeMap Tryz.prog
  have Q := hid (And.intro hm0 (And.intro hm2 (And.intro hv (And.intro hs (And.intro hc (And.intro lowa (And.intro lowH (And.intro han (And.intro how hap)))))))))
  clear hm0 hm2 hv hs hc lowa lowH han how hap
  obtain ⟨av,hav⟩ : ∃ av,av = anyOf any := ⟨_,rfl⟩
  obtain ⟨ov,hov⟩ : ∃ ov,ov = ownOf own := ⟨_,rfl⟩
  rw [← hav,← hov]
  have C1 := hid (add_any (c := ⟨w.heap.size + 1 + 1,w.heap.size + 1,any,own⟩) (bs := bs) (md := md) ⟨Q.out.1,Q.out.2.1⟩ F v t (ds0 O) s' _ Q.out.2.2.1 Q.out.2.2.2.1 (draft_new (.cells #[av,ov] 127) Q.out.2.2.2.2.1 Q.out.2.2.2.2.2.1 Q.out.2.2.2.2.2.2.1 big Q.out.2.2.2.2.2.2.2.1 Q.out.2.2.2.2.2.2.2.2.1 Q.out.2.2.2.2.2.2.2.2.2))
  rw [← hav,← hov] at C1
  unfold CP at C1
  clear hav hov
  go_enter Tryz.func54,Tryz.ntmps54
  go_wp2_with fail
  refine C1.out.mono ?_
  rintro e w1 ⟨rfl,r1,g1⟩
  have R1 := hid (And.intro r1 g1)
  clear r1 g1 C1
  go_wp2
  go_ret
  exact ⟨_,_,rfl,R1.out.1,Gb.allocL (Gb.allocL (Gb.allocL R1.out.2))⟩
theorem Gb.none {w w' : World} (h : Gb (fun k => w.heap.size ≤ k) w w') : w.grownBy w' none := ⟨h.os,h.tape,h.output,h.size,fun k hk _ => h.block k hk (by omega)⟩
theorem Gb.below {w w' : World} (h : Below w.heap.size w w') (R : Nat → Prop) : Gb R w w' := ⟨h.os,h.tape,h.output,h.size,fun k hk _ => h.block k hk⟩
theorem DG.high {db mb bs : Nat} {any : Option AB} {w w' : World} (h : Gb (DG [] ⟨db,mb,any,none⟩ bs) w w') : Gb (fun k => bs ≤ k) w w' := h.mono fun k e => by
  rcases e with e | e | ⟨a,e,_⟩
  · cases e
  · exact e
  · cases e
theorem one_any {H : Nat → Option Obj} {v : Value} {t : Et} {F : Nat} {s' : Ds} {w : World} (hv : ER H [] v t) (hs : draftS ⟨[],[]⟩ 1 F t (ds0 []) = some s') (hz : Fz H w) :
    Calls Tryz.prog 36 #[v] w fun e w' => e = .returned (.string (B s'.out)) ∧ w.grownBy w' none := by
  have Q := hid (And.intro hv (And.intro hs hz))
  clear hv hs hz
  go_enter Tryz.func36,Tryz.ntmps36
  go_wp2_with fail
  refine (letters_q w).mono ?_
  rintro e w1 ⟨ab,rfl,i1,g1,hmb⟩
  have C1 := hid (draftOf_any (H := H) (ca := []) (σ := ⟨[],[]⟩) (d := fun _ => 0) (any := some ab) (own := none) (bs := w.heap.size) (md := 1) (O := []) (w := w1) ⟨fun e => absurd e (by decide),fun e => by cases e⟩ (fun e => absurd e (by decide)) Q.out.1 Q.out.2.1 (CSd.nil (Q.out.2.2.grown g1)) (fun a h => by cases h) (fun k o e => Q.out.2.2.lt e) g1.size (fun a e => by cases e; exact ⟨i1,hmb⟩) (fun a e => by cases e) (fun a b _ e => by cases e))
  have G1 := hid g1
  clear i1 g1 hmb
  unfold anyOf ownOf at C1
  simp only at C1
  unfold askV at *
  go_wp2_with fail
  refine C1.out.mono ?_
  rintro e w2 ⟨db,mb,rfl,r2,g2⟩
  have C2 := hid (dtext_any r2.dr)
  have R2 := hid g2
  clear r2 g2 C1
  unfold CP at *
  go_wp2_with fail
  refine C2.out.mono ?_
  rintro e w3 ⟨rfl,b3⟩
  have R3 := hid b3
  clear b3 C2
  go_wp2
  go_ret
  exact ⟨rfl,((((Gb.new (R := fun k => w.heap.size ≤ k) G1.out).tr (DG.high R2.out)).tr (Gb.below R3.out _))).none⟩
structure NM (w : World) (nb : Nat) (H : Nat → Option Obj) (v : Value) (ns : List (List UInt8)) : Prop where
  blk : w.heap[nb]? = some (.cells #[v] 26 (0,0))
  row : w.ownsRow nb 9 1 v ns.length (strs ns)
  hx : H nb = none
  hn : ∀ k,some k = v.ownBlock → H k = none
def TyPost (T : List Tok) (w w' : World) (e : Ending) (rb g cap nb : Nat) (H : Nat → Option Obj) (t : Ty) (ns' : List (List UInt8)) (s' : St) : Prop :=
  ∃ b H' v' m,e = .returned (.pointer (some ⟨b,0,none⟩)) ∧ RS w' rb g cap T s' ∧ s'.k < T.length ∧ KeptTo nb rb w w' ∧ Fz H' w' ∧ Ext w.heap.size H H' ∧ NM w' nb H' v' ns' ∧ TRep m H' b t
structure BK (T : List Tok) (w w' : World) (rb g cap nb : Nat) (H H' : Nat → Option Obj) (v : Value) (ns : List (List UInt8)) (s : St) : Prop where
  r : RS w' rb g cap T s
  k : KeptTo nb rb w w'
  z : Fz H' w'
  x : Ext w.heap.size H H'
  n : NM w' nb H' v ns
  hr : rb < nb
  hn : H' rb = none
theorem BK.end {T : List Tok} {w w1 : World} {rb g cap nb : Nat} {H H' : Nat → Option Obj} {v : Value} {ns : List (List UInt8)} {s : St} (h : BK T w w1 rb g cap nb H H' v ns s) (hk : s.k < T.length) {b m : Nat} {x : Ty} (hx : TRep m H' b x) :
    TyPost T w w1 (.returned (.pointer (some ⟨b,0,none⟩))) rb g cap nb H x ns s := ⟨b,H',v,m,rfl,h.r,hk,h.k,h.z,h.x,h.n,hx⟩
def Sh (T : List Tok) : Prop := ∀ k,((tk T k).is = kName ∨ (tk T k).is = kNum) → (tk T k).s.length ≤ 8
def Res (T : List Tok) (s : St) (x : Ex) (s' : St) : Prop := s.k ≤ s'.k ∧ s'.k < T.length ∧ (s'.bad < 0 → s.bad < 0 ∧ s.k < s'.k ∧ ∃ m,Nice m x (s'.k - s.k))
def Fu (T : List Tok) (n : Nat) (s : St) : Prop := s.k < T.length ∧ (T.length - s.k + 1 ≤ n ∨ (0 ≤ s.bad ∧ 1 ≤ n))
def TOT (T : List Tok) (n : Nat) (E : St → Option (Ex × St)) : Prop := ∀ s,Fu T n s → ∃ x s',E s = some (x,s') ∧ Res T s x s'
theorem isS_yes {T : List Tok} {s : St} {x : List UInt8} (h : isS T s x = true) : s.bad < 0 ∧ (tk T s.k).is = x := by
  simp only [isS,Bool.and_eq_true,beq_iff_eq,decide_eq_true_eq] at h
  exact h
theorem need_cases {T : List Tok} (hT : Wf T) {s : St} (hk : s.k < T.length) (x : List UInt8) (h1 : x ≠ kNone) (h2 : x ≠ kEnd) :
    ((needS T s x).k = s.k + 1 ∧ s.k + 1 < T.length ∧ (needS T s x).bad = s.bad ∧ s.bad < 0 ∧ (tk T s.k).is = x) ∨ ((needS T s x).k = s.k ∧ 0 ≤ (needS T s x).bad) := by
  by_cases hi : isS T s x = true
  · left
    have e : needS T s x = ⟨s.k + 1,s.bad⟩ := by rw [needS,if_pos hi]
    rw [e]
    exact ⟨rfl,hT.up hk hi h1 h2,rfl,(isS_yes hi).1,(isS_yes hi).2⟩
  · right
    have e : needS T s x = ⟨s.k,if s.bad < 0 then ((tk T s.k).pos : Int) else s.bad⟩ := by rw [needS,if_neg hi]
    rw [e]
    refine ⟨rfl,?_⟩
    show 0 ≤ (if s.bad < 0 then ((tk T s.k).pos : Int) else s.bad)
    split <;> omega
theorem atom_tot {T : List Tok} (hT : Wf T) (hS : Sh T) {n : Nat} {E : St → Option (Ex × St)} (hE : TOT T n E) (s : St) (hs : s.k < T.length) (hn : T.length - s.k ≤ n) :
    ∃ x s',atomS E T s = some (x,s') ∧ Res T s x s' ∧ ((isS T s kName = true ∨ isS T s kNum = true ∨ isS T s kOpen = true) → s.k < s'.k) := by
  unfold atomS
  by_cases hi : isS T s kName = true ∨ isS T s kNum = true
  · rw [if_pos hi]
    have hup : s.k + 1 < T.length := by
      rcases hi with hi | hi
      · exact hT.up hs hi (by decide) (by decide)
      · exact hT.up hs hi (by decide) (by decide)
    have hw : s.bad < 0 ∧ ((tk T s.k).is = kName ∨ (tk T s.k).is = kNum) := by
      rcases hi with hi | hi
      · exact ⟨(isS_yes hi).1,Or.inl (isS_yes hi).2⟩
      · exact ⟨(isS_yes hi).1,Or.inr (isS_yes hi).2⟩
    refine ⟨_,_,rfl,⟨Nat.le_succ _,hup,fun _ => ⟨hw.1,Nat.lt_succ_self _,1,?_⟩⟩,fun _ => Nat.lt_succ_self _⟩
    have := nice_leaf (tk T s.k).is (tk T s.k).s (tk T s.k).pos hw.2 (hS s.k hw.2)
    rw [show s.up.k - s.k = 1 from by show s.k + 1 - s.k = 1; omega]
    exact this
  · rw [if_neg hi]
    obtain ⟨s0,hs0⟩ : ∃ s0,s0 = needS T s kOpen := ⟨_,rfl⟩
    have hn0 := need_cases hT hs kOpen (by decide) (by decide)
    rw [← hs0] at hn0 ⊢
    have hopen : isS T s kOpen = true → s0.k = s.k + 1 := fun ho => by rw [hs0,needS,if_pos ho]
    have f0 : Fu T n s0 := by
      rcases hn0 with ⟨a,b,_⟩ | ⟨a,b⟩
      · exact ⟨by omega,Or.inl (by omega)⟩
      · exact ⟨by omega,Or.inr ⟨b,by omega⟩⟩
    obtain ⟨x,s1,e1,r1⟩ := hE s0 f0
    have hlt : (isS T s kName = true ∨ isS T s kNum = true ∨ isS T s kOpen = true) → s.k < s1.k := fun ho => by
      have : isS T s kOpen = true := by
        rcases ho with ho | ho | ho
        · exact absurd (Or.inl ho) hi
        · exact absurd (Or.inr ho) hi
        · exact ho
      have := hopen this
      have := r1.1
      omega
    have hk0 : s.k ≤ s0.k := by rcases hn0 with ⟨a,_⟩ | ⟨a,_⟩ <;> omega
    have hb0 : s0.bad < 0 → s.bad < 0 ∧ s0.k = s.k + 1 := fun hb => by
      rcases hn0 with ⟨a,_,_,d,_⟩ | ⟨a,b⟩
      · exact ⟨d,a⟩
      · omega
    rw [e1]
    show ∃ x' s',(if isS T s1 kComma = true then _ else _) = some (x',s') ∧ _
    by_cases hc : isS T s1 kComma = true
    · rw [if_pos hc]
      have hup := hT.up r1.2.1 hc (by decide) (by decide)
      have hb1 := (isS_yes hc).1
      obtain ⟨hb1',hk1,m1,hm1⟩ := r1.2.2 hb1
      obtain ⟨y,s2,e2,r2⟩ := hE s1.up ⟨hup,Or.inl (by show T.length - (s1.k + 1) + 1 ≤ n; have := r1.1; omega)⟩
      rw [e2]
      have hk2 : s1.k + 1 ≤ s2.k := r2.1
      have hn3 := need_cases hT r2.2.1 kShut (by decide) (by decide)
      obtain ⟨s3,hs3⟩ : ∃ s3,s3 = needS T s2 kShut := ⟨_,rfl⟩
      rw [← hs3] at hn3
      refine ⟨_,s3,by rw [hs3],⟨?_,?_,fun hb3 => ?_⟩,fun ho => ?_⟩
      · have := r1.1
        rcases hn3 with ⟨a,_⟩ | ⟨a,_⟩ <;> omega
      · have := r2.2.1
        rcases hn3 with ⟨a,_⟩ | ⟨a,_⟩ <;> omega
      · rcases hn3 with ⟨a,_,_,d,_⟩ | ⟨a,b⟩
        · obtain ⟨_,_,m2,hm2⟩ := r2.2.2 d
          obtain ⟨q1,q2⟩ := hb0 hb1'
          refine ⟨q1,by omega,max m1 m2 + 1,?_⟩
          refine (nice_pair _ (hm1.le (Nat.le_max_left m1 m2)) (hm2.le (Nat.le_max_right m1 m2))).more ?_
          have : s1.up.k = s1.k + 1 := rfl
          have := r1.1
          omega
        · omega
      · have := hlt ho
        rcases hn3 with ⟨a,_⟩ | ⟨a,_⟩ <;> omega
    · rw [if_neg hc]
      have hn3 := need_cases hT r1.2.1 kShut (by decide) (by decide)
      obtain ⟨s3,hs3⟩ : ∃ s3,s3 = needS T s1 kShut := ⟨_,rfl⟩
      rw [← hs3] at hn3
      refine ⟨x,s3,by rw [hs3],⟨?_,?_,fun hb3 => ?_⟩,fun ho => ?_⟩
      · have := r1.1
        rcases hn3 with ⟨a,_⟩ | ⟨a,_⟩ <;> omega
      · have := r1.2.1
        rcases hn3 with ⟨a,_⟩ | ⟨a,_⟩ <;> omega
      · rcases hn3 with ⟨a,_,_,d,_⟩ | ⟨a,b⟩
        · obtain ⟨hb1',hk1,m1,hm1⟩ := r1.2.2 d
          obtain ⟨q1,q2⟩ := hb0 hb1'
          exact ⟨q1,by omega,m1,hm1.more (by omega)⟩
        · omega
      · have := hlt ho
        rcases hn3 with ⟨a,_⟩ | ⟨a,_⟩ <;> omega
theorem app_tot {T : List Tok} (hT : Wf T) (hS : Sh T) {n : Nat} {E : St → Option (Ex × St)} (hE : TOT T n E) (s0 : St) : ∀ (f : Nat) (x : Ex) (s : St),T.length - s.k + 1 ≤ f → T.length - s.k ≤ n → Res T s0 x s →
    ∃ y s',appS (atomS E T) T f x s = some (y,s') ∧ Res T s0 y s'
  | 0,_,_,h,_,_ => by omega
  | f + 1,x,s,hf,hn,hr => by
    rw [appS]
    by_cases hi : isS T s kName = true ∨ isS T s kNum = true ∨ isS T s kOpen = true
    · rw [if_pos hi]
      obtain ⟨y,s1,e1,r1,l1⟩ := atom_tot hT hS hE s hr.2.1 hn
      rw [e1]
      have hl := l1 hi
      refine app_tot hT hS hE s0 f _ s1 (by have := hr.2.1; omega) (by omega) ⟨by have := hr.1; omega,r1.2.1,fun hb => ?_⟩
      obtain ⟨q1,q2,m2,h2⟩ := r1.2.2 hb
      obtain ⟨p1,p2,m1,h1⟩ := hr.2.2 q1
      refine ⟨p1,by omega,max m1 m2 + 1,?_⟩
      exact (nice_app _ (h1.le (Nat.le_max_left m1 m2)) (h2.le (Nat.le_max_right m1 m2))).more (by omega)
    · rw [if_neg hi]
      exact ⟨x,s,rfl,hr⟩
def Pres (T : List Tok) (k0 : Nat) (x : Ex) (s' : St) : Prop := k0 ≤ s'.k ∧ s'.k < T.length ∧ (s'.bad < 0 → 0 < x.names.length ∧ ∃ m,Part m x (s'.k - k0))
theorem bound_tot {T : List Tok} (hT : Wf T) (hS : Sh T) {n : Nat} {E : St → Option (Ex × St)} (hE : TOT T n E) (k0 : Nat) (x : Ex) (s : St) (hs : s.k < T.length) (hk : k0 ≤ s.k) (hn : T.length - s.k + 1 ≤ n) (hx : s.bad < 0 → ∃ m,Part m x (s.k - k0)) :
    ∃ y s',boundS E T x s = some (y,s') ∧ y.op = x.op ∧ s.k ≤ s'.k ∧ Pres T k0 y s' := by
  unfold boundS
  have h1 := need_cases hT hs kName (by decide) (by decide)
  obtain ⟨s1,hs1⟩ : ∃ s1,s1 = needS T s kName := ⟨_,rfl⟩
  rw [← hs1] at h1 ⊢
  obtain ⟨s2,hs2⟩ : ∃ s2,s2 = twiceS x.names (tk T s.k).s (tk T s.k).pos s1 := ⟨_,rfl⟩
  have k2 : s2.k = s1.k := by rw [hs2,twiceS]; split <;> rfl
  have b2 : s2.bad < 0 → s1.bad < 0 := fun hb => by
    rw [hs2,twiceS] at hb
    split at hb
    · rename_i h; exact h.2
    · exact hb
  rw [← hs2]
  have l1 : s1.k < T.length := by rcases h1 with ⟨a,_⟩ | ⟨a,_⟩ <;> omega
  have l2 : s2.k < T.length := by omega
  have h3 := need_cases hT l2 kEq (by decide) (by decide)
  obtain ⟨s3,hs3⟩ : ∃ s3,s3 = needS T s2 kEq := ⟨_,rfl⟩
  rw [← hs3] at h3 ⊢
  have k3 : s.k ≤ s3.k := by
    rcases h1 with ⟨a,_⟩ | ⟨a,_⟩ <;> rcases h3 with ⟨b,_⟩ | ⟨b,_⟩ <;> omega
  have l3 : s3.k < T.length := by
    rcases h3 with ⟨b,_⟩ | ⟨b,_⟩ <;> omega
  obtain ⟨b,s4,e4,r4⟩ := hE s3 ⟨l3,Or.inl (by omega)⟩
  rw [e4]
  refine ⟨_,s4,rfl,rfl,by have := r4.1; omega,⟨by have := r4.1; omega,r4.2.1,fun hb => ?_⟩⟩
  obtain ⟨q1,q2,m2,hm2⟩ := r4.2.2 hb
  have h3' : s3.k = s2.k + 1 ∧ s2.bad < 0 := by
    rcases h3 with ⟨a,_,_,d,_⟩ | ⟨a,b⟩
    · exact ⟨a,d⟩
    · omega
  have h1' : s1.k = s.k + 1 ∧ s.bad < 0 ∧ (tk T s.k).is = kName := by
    have := b2 h3'.2
    rcases h1 with ⟨a,_,_,d,e⟩ | ⟨a,b⟩
    · exact ⟨a,d,e⟩
    · omega
  obtain ⟨m1,hm1⟩ := hx h1'.2.1
  refine ⟨by show 0 < (x.names ++ [_]).length; simp,max m1 m2,?_⟩
  have := (hm1.le (Nat.le_max_left m1 m2)).add (tk T s.k).s (hS s.k (Or.inl h1'.2.2)) (hm2.le (Nat.le_max_right m1 m2))
  rw [show s4.k - k0 = s.k - k0 + (s4.k - s3.k) + 2 from by omega]
  exact this
theorem Part.more {m : Nat} {x : Ex} {c c' : Nat} (h : Part m x c) (hc : c ≤ c') : Part m x c' :=
  ⟨h.op,h.len,by have := h.nlen; omega,fun y hy => by obtain ⟨a,b,d⟩ := h.kids y hy; exact ⟨a,by omega,d⟩,by have := h.text; omega⟩
theorem binds_tot {T : List Tok} (hT : Wf T) (hS : Sh T) {n : Nat} {E : St → Option (Ex × St)} (hE : TOT T n E) (k0 : Nat) : ∀ (f : Nat) (x : Ex) (s : St),T.length - s.k + 1 ≤ f → T.length - s.k ≤ n → Pres T k0 x s →
    ∃ y s',bindsS E T f x s = some (y,s') ∧ s.k ≤ s'.k ∧ Pres T k0 y s'
  | 0,_,_,h,_,_ => by omega
  | f + 1,x,s,hf,hn,hr => by
    rw [bindsS]
    by_cases hi : x.op = kRec ∧ isS T s kAnd = true
    · rw [if_pos hi]
      have hup := hT.up hr.2.1 hi.2 (by decide) (by decide)
      have hb := (isS_yes hi.2).1
      have ku : s.up.k = s.k + 1 := rfl
      obtain ⟨y,s1,e1,_,k1,r1⟩ := bound_tot hT hS hE k0 x s.up hup (by have := hr.1; omega) (by omega) (fun _ => by
        obtain ⟨_,m,hm⟩ := hr.2.2 hb
        exact ⟨m,hm.more (by omega)⟩)
      rw [e1]
      obtain ⟨z,s2,e2,k2,r2⟩ := binds_tot hT hS hE k0 f y s1 (by have := hr.2.1; omega) (by omega) r1
      exact ⟨z,s2,e2,by omega,r2⟩
    · rw [if_neg hi]
      exact ⟨x,s,rfl,Nat.le_refl _,hr⟩
theorem exp_tot {T : List Tok} (hT : Wf T) (hS : Sh T) (hl : T.length ≤ 900) : ∀ n,TOT T n (expS T n)
  | 0 => fun s h => by rcases h.2 with h | h <;> omega
  | n + 1 => fun s hf => by
    have hE := exp_tot hT hS hl n
    rw [expS]
    by_cases hb : 0 ≤ s.bad
    · rw [if_pos hb]
      exact ⟨_,s,rfl,Nat.le_refl _,hf.1,fun h => by omega⟩
    rw [if_neg hb]
    have hb' : s.bad < 0 := by omega
    have hk := hf.1
    have hn : T.length - s.k ≤ n := by rcases hf.2 with h | h <;> omega
    have ku : s.up.k = s.k + 1 := rfl
    have bu : s.up.bad = s.bad := rfl
    by_cases h1 : isS T s kFun = true
    · rw [if_pos h1]
      have hup := hT.up hk h1 (by decide) (by decide)
      have c1 := need_cases hT (s := s.up) hup kName (by decide) (by decide)
      obtain ⟨s1,hs1⟩ : ∃ s1,s1 = needS T s.up kName := ⟨_,rfl⟩
      rw [← hs1] at c1 ⊢
      have l1 : s1.k < T.length := by rcases c1 with ⟨a,_⟩ | ⟨a,_⟩ <;> omega
      have c2 := need_cases hT l1 kArrow (by decide) (by decide)
      obtain ⟨s2,hs2⟩ : ∃ s2,s2 = needS T s1 kArrow := ⟨_,rfl⟩
      rw [← hs2] at c2 ⊢
      have l2 : s2.k < T.length ∧ s.k + 1 ≤ s2.k := by
        rcases c1 with ⟨a,_⟩ | ⟨a,_⟩ <;> rcases c2 with ⟨b,_⟩ | ⟨b,_⟩ <;> omega
      obtain ⟨b,s4,e4,r4⟩ := hE s2 ⟨l2.1,Or.inl (by omega)⟩
      rw [e4]
      refine ⟨_,s4,rfl,by have := r4.1; omega,r4.2.1,fun hb4 => ?_⟩
      obtain ⟨q1,q2,m,hm⟩ := r4.2.2 hb4
      have d2 : s2.k = s1.k + 1 ∧ s1.bad < 0 := by
        rcases c2 with ⟨a,_,_,d,_⟩ | ⟨a,b⟩
        · exact ⟨a,d⟩
        · omega
      have d1 : s1.k = s.up.k + 1 ∧ (tk T s.up.k).is = kName := by
        rcases c1 with ⟨a,_,_,d,e⟩ | ⟨a,b⟩
        · exact ⟨a,e⟩
        · omega
      exact ⟨hb',by omega,m + 1,(nice_fun _ _ (hS _ (Or.inl d1.2)) hm).more (by omega)⟩
    rw [if_neg h1]
    by_cases h2 : isS T s kIf = true
    · rw [if_pos h2]
      have hup := hT.up hk h2 (by decide) (by decide)
      obtain ⟨c,s1,e1,r1⟩ := hE s.up ⟨hup,Or.inl (by omega)⟩
      rw [e1]
      have c2 := need_cases hT r1.2.1 kThen (by decide) (by decide)
      obtain ⟨s2,hs2⟩ : ∃ s2,s2 = needS T s1 kThen := ⟨_,rfl⟩
      show ∃ x s',(match expS T n (needS T s1 kThen) with | none => none | some (a,s2) => _) = some (x,s') ∧ _
      rw [← hs2] at c2 ⊢
      have l2 : s2.k < T.length ∧ s1.k ≤ s2.k := by
        have := r1.2.1
        rcases c2 with ⟨b,_⟩ | ⟨b,_⟩ <;> omega
      have g1 := r1.1
      obtain ⟨a,s3,e3,r3⟩ := hE s2 ⟨l2.1,Or.inl (by omega)⟩
      rw [e3]
      have c4 := need_cases hT r3.2.1 kElse (by decide) (by decide)
      obtain ⟨s4,hs4⟩ : ∃ s4,s4 = needS T s3 kElse := ⟨_,rfl⟩
      show ∃ x s',(match expS T n (needS T s3 kElse) with | none => none | some (b,s3) => _) = some (x,s') ∧ _
      rw [← hs4] at c4 ⊢
      have l4 : s4.k < T.length ∧ s3.k ≤ s4.k := by
        have := r3.2.1
        rcases c4 with ⟨b,_⟩ | ⟨b,_⟩ <;> omega
      have g3 := r3.1
      obtain ⟨b,s5,e5,r5⟩ := hE s4 ⟨l4.1,Or.inl (by omega)⟩
      rw [e5]
      have g5 := r5.1
      refine ⟨_,s5,rfl,by omega,r5.2.1,fun hb5 => ?_⟩
      obtain ⟨q5,p5,m5,n5⟩ := r5.2.2 hb5
      have d4 : s4.k = s3.k + 1 ∧ s3.bad < 0 := by
        rcases c4 with ⟨a,_,_,d,_⟩ | ⟨a,b⟩
        · exact ⟨a,d⟩
        · omega
      obtain ⟨q3,p3,m3,n3⟩ := r3.2.2 d4.2
      have d2 : s2.k = s1.k + 1 ∧ s1.bad < 0 := by
        rcases c2 with ⟨a,_,_,d,_⟩ | ⟨a,b⟩
        · exact ⟨a,d⟩
        · omega
      obtain ⟨q1,p1,m1,n1⟩ := r1.2.2 d2.2
      refine ⟨hb',by omega,max m1 (max m3 m5) + 1,(nice_if _ (n1.le ?_) (n3.le ?_) (n5.le ?_)).more (by omega)⟩ <;> omega
    rw [if_neg h2]
    by_cases h3 : isS T s kLet = true
    · rw [if_pos h3]
      have hup := hT.up hk h3 (by decide) (by decide)
      obtain ⟨s0,hs0⟩ : ∃ s0,s0 = takeS T s.up kRec := ⟨_,rfl⟩
      have g0 : s.k + 1 ≤ s0.k ∧ s0.k < T.length := by
        rw [hs0,takeS]
        split
        · rename_i hr
          have := hT.up (s := s.up) hup hr (by decide) (by decide)
          exact ⟨by show s.k + 1 ≤ s.up.k + 1; omega,this⟩
        · exact ⟨by omega,hup⟩
      obtain ⟨x0,hx0⟩ : ∃ x0 : Ex,x0 = ⟨if isS T s.up kRec = true then kRec else kLet,[],[],(tk T s.k).pos⟩ := ⟨_,rfl⟩
      have p0 : ∀ c,Part 0 x0 c := fun c => by
        rw [hx0]
        refine ⟨?_,rfl,Nat.zero_le _,fun y hy => absurd hy (List.not_mem_nil),Nat.zero_le _⟩
        show (if isS T s.up kRec = true then kRec else kLet) = kLet ∨ (if isS T s.up kRec = true then kRec else kLet) = kRec
        split
        · right; rfl
        · left; rfl
      rw [← hs0,← hx0]
      obtain ⟨x,s1,e1,_,k1,r1⟩ := bound_tot hT hS hE (s.k + 1) x0 s0 g0.2 g0.1 (by omega) (fun _ => ⟨0,p0 _⟩)
      rw [e1]
      obtain ⟨y,s2,e2,k2,r2⟩ := binds_tot hT hS hE (s.k + 1) (T.length + 1) x s1 (by omega) (by omega) r1
      show ∃ x' s',(match bindsS (expS T n) T (T.length + 1) x s1 with | none => none | some (y,s2) => _) = some (x',s') ∧ _
      rw [e2]
      have c3 := need_cases hT r2.2.1 kIn (by decide) (by decide)
      obtain ⟨s3,hs3⟩ : ∃ s3,s3 = needS T s2 kIn := ⟨_,rfl⟩
      show ∃ x' s',(match expS T n (needS T s2 kIn) with | none => none | some (b,s3) => _) = some (x',s') ∧ _
      rw [← hs3] at c3 ⊢
      have l3 : s3.k < T.length ∧ s2.k ≤ s3.k := by
        have := r2.2.1
        rcases c3 with ⟨b,_⟩ | ⟨b,_⟩ <;> omega
      obtain ⟨b,s4,e4,r4⟩ := hE s3 ⟨l3.1,Or.inl (by omega)⟩
      rw [e4]
      have g4 := r4.1
      refine ⟨_,s4,rfl,by omega,r4.2.1,fun hb4 => ?_⟩
      obtain ⟨q4,p4,m4,n4⟩ := r4.2.2 hb4
      have d3 : s3.k = s2.k + 1 ∧ s2.bad < 0 := by
        rcases c3 with ⟨a,_,_,d,_⟩ | ⟨a,b⟩
        · exact ⟨a,d⟩
        · omega
      obtain ⟨z2,m2,n2⟩ := r2.2.2 d3.2
      have := r4.2.1
      refine ⟨hb',by omega,max m2 m4 + 1,((n2.le (Nat.le_max_left m2 m4)).done z2 (n4.le (Nat.le_max_right m2 m4)) (by omega)).more (by omega)⟩
    rw [if_neg h3]
    obtain ⟨x,s1,e1,r1,_⟩ := atom_tot hT hS hE s hk hn
    rw [e1]
    exact app_tot hT hS hE s (T.length + 1) x s1 (by omega) (by have := r1.1; omega) r1
theorem cut_len (l : List UInt8) (i k : Nat) : (cut l i k).length ≤ k - i := by
  rw [cut,List.length_drop,List.length_take]; omega
theorem tok_facts (kw : List (List UInt8)) (s : ByteArray) (J : Nat) (hJ : J ≤ s.size) {t : Tok} {r2 : Nat} (ht : tokAt kw s.data.toList J = (t,r2)) :
    t.pos = J ∧ J ≤ r2 ∧ r2 ≤ s.size ∧ ((t.is = kName ∨ t.is = kNum) → t.s.length ≤ 8) ∧ (t.is ≠ kNone → t.is ≠ kEnd → J < r2) := by
  obtain ⟨r1,r2',hr⟩ : ∃ r1 r2',(r1,r2') = raw s.data.toList J := ⟨_,_,rfl⟩
  have hle := raw_le s J hJ
  unfold tokAt at ht
  rw [← hr] at ht hle
  simp only [Prod.mk.injEq] at ht
  obtain ⟨ht,rfl⟩ := ht
  subst ht
  obtain ⟨b,hb⟩ : ∃ b,b = if (r1 = kName ∨ r1 = kNum) ∧ r2' - J > 8 then kNone else r1 := ⟨_,rfl⟩
  have hbig : (b = kName ∨ b = kNum) → r2' - J ≤ 8 := fun h => by
    by_cases hc : (r1 = kName ∨ r1 = kNum) ∧ r2' - J > 8
    · rw [if_pos hc] at hb
      rw [hb] at h
      exact absurd h (by decide)
    · rw [if_neg hc] at hb
      subst hb
      exact Nat.not_lt.1 (fun h2 => hc ⟨h,h2⟩)
  have hbr : b ≠ kNone → b = r1 := fun h => by
    by_cases hc : (r1 = kName ∨ r1 = kNum) ∧ r2' - J > 8
    · rw [if_pos hc] at hb; exact absurd hb h
    · rw [if_neg hc] at hb; exact hb
  have hlen := cut_len s.data.toList J r2'
  refine ⟨rfl,hle.1,hle.2,fun h => ?_,fun h1 h2 => ?_⟩
  · rw [← hb] at h
    show (cut s.data.toList J r2').length ≤ 8
    by_cases hk : b = kName ∧ cut s.data.toList J r2' ∈ kw
    · have := hbig (Or.inl hk.1)
      omega
    · rw [if_neg hk] at h
      have := hbig h
      omega
  · rw [← hb] at h1 h2
    by_cases hk : b = kName ∧ cut s.data.toList J r2' ∈ kw
    · have e : b = r1 := hbr (by rw [hk.1]; decide)
      exact raw_moves s J hr (by rw [← e,hk.1]; decide) (by rw [← e,hk.1]; decide)
    · rw [if_neg hk] at h1 h2
      have e := hbr h1
      exact raw_moves s J hr (by rw [← e]; exact h1) (by rw [← e]; exact h2)
theorem tk_cons (t : Tok) (T : List Tok) (k : Nat) : tk (t :: T) (k + 1) = tk T k := by simp [tk]
theorem tk_first (t : Tok) (T : List Tok) : tk (t :: T) 0 = t := by simp [tk]
theorem tk_nil (k : Nat) : tk [] k = ⟨[],[],0⟩ := by simp [tk]
theorem toks_facts (kw : List (List UInt8)) (s : ByteArray) : ∀ (f i : Nat),i ≤ s.size → s.size - i < f →
    Wf (toks kw s.data.toList f i) ∧ Sh (toks kw s.data.toList f i) ∧ ∀ k,(tk (toks kw s.data.toList f i) k).pos ≤ s.size
  | 0,_,_,h => by omega
  | f + 1,i,hi,hf => by
    have hsl : s.data.toList.length = s.size := by rw [Array.length_toList]; rfl
    have hu := upto_le isB s.data.toList i (by omega)
    rw [hsl] at hu
    obtain ⟨J,hJ⟩ : ∃ J,J = upto isB s.data.toList i := ⟨_,rfl⟩
    rw [← hJ] at hu
    obtain ⟨t,r2,ht⟩ : ∃ t r2,tokAt kw s.data.toList J = (t,r2) := ⟨_,_,rfl⟩
    obtain ⟨f1,f2,f3,f4,f5⟩ := tok_facts kw s J hu.2 ht
    rw [toks_step kw s.data.toList f i J hJ ht]
    by_cases he : t.is = kNone ∨ t.is = kEnd
    · rw [if_pos he]
      refine ⟨⟨Nat.zero_lt_one,fun k hk => ?_⟩,fun k hk => ?_,fun k => ?_⟩
      · have : k = 0 := by simpa using hk
        subst this
        rw [tk_first]
        exact ⟨fun _ => rfl,fun _ => he⟩
      · cases k with
        | zero => rw [tk_first] at hk ⊢; exact f4 hk
        | succ k => rw [tk_cons,tk_nil]; exact Nat.zero_le _
      · cases k with
        | zero => rw [tk_first,f1]; exact hu.2
        | succ k => rw [tk_cons,tk_nil]; exact Nat.zero_le _
    · rw [if_neg he]
      have hm := f5 (fun e => he (Or.inl e)) (fun e => he (Or.inr e))
      obtain ⟨g1,g2,g3⟩ := toks_facts kw s f r2 f3 (by omega)
      refine ⟨⟨Nat.succ_pos _,fun k hk => ?_⟩,fun k hk => ?_,fun k => ?_⟩
      · cases k with
        | zero =>
          rw [tk_first,List.length_cons]
          have := g1.1
          exact ⟨fun h => absurd h he,fun h => by omega⟩
        | succ k =>
          rw [tk_cons,List.length_cons]
          rw [List.length_cons] at hk
          have := g1.2 k (by omega)
          exact ⟨fun h => by have := this.1 h; omega,fun h => this.2 (by omega)⟩
      · cases k with
        | zero => rw [tk_first] at hk ⊢; exact f4 hk
        | succ k => rw [tk_cons] at hk ⊢; exact g2 k hk
      · cases k with
        | zero => rw [tk_first,f1]; exact hu.2
        | succ k => rw [tk_cons]; exact g3 k
def toksOf (kw : List (List UInt8)) (s : ByteArray) : List Tok := toks kw s.data.toList (s.size + 1) 0
theorem toksOf_len (kw : List (List UInt8)) (s : ByteArray) : (toksOf kw s).length ≤ s.size + 1 := toks_len _ _ _ _
theorem fz_none (w : World) : Fz (fun _ => none) w := fun k o e => by cases e
def fv (a b : Int) : Value := .agg #[.int .i64 a,.int .i64 b,.string (B []),.int .i64 0,.int .i64 0]
theorem TyOk.vars {N : Nat} : ∀ (m m' : Nat) (t : Ty) (l : List Nat),TyOk N m t → m ≤ m' → tyVars m' t l = tyVars m t l
  | 0,_,_,_,h,_ => absurd h id
  | m + 1,0,_,_,_,hm => by omega
  | m + 1,m' + 1,t,l,h,hm => by
    rcases h with ⟨h1,h2,h3⟩ | ⟨h1,h2,h3⟩ | ⟨h1,h2,a,h3,h4⟩ | ⟨h1,h2,a,b,h3,h4,h5⟩
    · simp only [tyVars,if_pos h1]
    · have hk : t.kind ≠ [] := by rcases h1 with h1 | h1 <;> rw [h1] <;> decide
      simp only [tyVars,if_neg hk,h3,List.foldl_nil]
    · have hk : t.kind ≠ [] := by rw [h1]; decide
      simp only [tyVars,if_neg hk,h3,List.foldl_cons,List.foldl_nil,TyOk.vars m m' a _ h4 (by omega)]
    · have hk : t.kind ≠ [] := by rcases h1 with h1 | h1 <;> rw [h1] <;> decide
      simp only [tyVars,if_neg hk,h3,List.foldl_cons,List.foldl_nil,TyOk.vars m m' a _ h4 (by omega),TyOk.vars m m' b _ h5 (by omega)]
theorem TyOk.text {N : Nat} (ns : List (List UInt8)) : ∀ (m m' : Nat) (t : Ty),TyOk N m t → m ≤ m' → tyText m' ns t = tyText m ns t
  | 0,_,_,h,_ => absurd h id
  | m + 1,0,_,_,hm => by omega
  | m + 1,m' + 1,t,h,hm => by
    rcases h with ⟨h1,h2,h3⟩ | ⟨h1,h2,h3⟩ | ⟨h1,h2,a,h3,h4⟩ | ⟨h1,h2,a,b,h3,h4,h5⟩
    · simp only [tyText,if_pos h1]
    · have hk : t.kind ≠ [] := by rcases h1 with h1 | h1 <;> rw [h1] <;> decide
      simp only [tyText,if_neg hk,h3]
    · have hk : t.kind ≠ [] := by rw [h1]; decide
      simp only [tyText,if_neg hk,h3,TyOk.text ns m m' a h4 (by omega)]
    · have hk : t.kind ≠ [] := by rcases h1 with h1 | h1 <;> rw [h1] <;> decide
      simp only [tyText,if_neg hk,h3,TyOk.text ns m m' a h4 (by omega),TyOk.text ns m m' b h5 (by omega)]
theorem ty_same {N N' m m' : Nat} {t : Ty} (h : TyOk N m t) (h' : TyOk N' m' t) : tySize m t = tySize m' t ∧ tyCanon m t = tyCanon m' t := by
  rcases Nat.le_total m m' with hl | hl
  · exact ⟨(TyOk.size m m' t h hl).symm,by unfold tyCanon; rw [TyOk.vars m m' t [] h hl,TyOk.text _ m m' t h hl]⟩
  · exact ⟨TyOk.size m' m t h' hl,by unfold tyCanon; rw [TyOk.vars m' m t [] h' hl,TyOk.text _ m' m t h' hl]⟩
theorem getD_mem {ns : List (List UInt8)} {i : Nat} (h : i < ns.length) : ns.getD i [] ∈ ns := by
  have : ns.getD i [] = ns[i] := by simp [List.getD,h]
  rw [this]
  exact List.getElem_mem h
theorem getD_inj2 {ns : List (List UInt8)} (hd : ns.Nodup) {i j : Nat} (hi : i < ns.length) (hj : j < ns.length) (h : ns.getD i [] = ns.getD j []) : i = j := by
  have e1 : ns.getD i [] = ns[i] := by simp [List.getD,hi]
  have e2 : ns.getD j [] = ns[j] := by simp [List.getD,hj]
  rw [e1,e2] at h
  have a := hd.idxOf_getElem i hi
  have b := hd.idxOf_getElem j hj
  rw [h] at a
  omega
end Go.Proofs.YtcdijppegfcoaabGreatDoor
namespace Go.Proofs.YtcdijppegfcoaabGreatDoor
open Go.RowKit Go.Maps Go.WideMaps
def tyR1 (v : Value) : Option (DataW Unit × List MemPlace) :=
  match v with
  | .string s => if s.size ≤ maxLen then some (.lit (.string s.data.toList),[]) else none
  | _ => none
def tyR (v : Value) : Option (DataW Unit × List MemPlace) :=
  match v with
  | .agg a => if a.size = 1 then tyR1 (a.getD 0 undef) else none
  | _ => none
theorem tyR_mk {t : List UInt8} (h : t.length ≤ 1000000) : tyR (.agg #[.string (B t)]) = some (.lit (.string t),[]) := by
  have hs : (B t).size ≤ maxLen := by rw [size_B]; unfold maxLen; omega
  show (if (B t).size ≤ maxLen then some (DataW.lit (.string (B t).data.toList),[]) else none) = _
  rw [if_pos hs]
  rfl
theorem tyR_inv {v : Value} {z : DataW Unit × List MemPlace} (h : tyR v = some z) : ∃ s : ByteArray,v = .agg #[.string s] ∧ z = (.lit (.string s.data.toList),[]) := by
  unfold tyR at h
  split at h
  · rename_i a
    split at h
    · rename_i hs
      unfold tyR1 at h
      split at h
      · rename_i s hs0
        split at h
        · cases h
          refine ⟨s,?_,rfl⟩
          congr 1
          apply Array.ext
          · simp [hs]
          · intro i h1 h2
            have hi : i = 0 := by omega
            subst hi
            have : a.getD 0 undef = a[0] := by simp [Array.getD,h1]
            rw [this] at hs0
            simpa using hs0
        · cases h
      · cases h
    · cases h
  · cases h
theorem zeroTyped (w : World) : (zeroValue 68).run Tryz.prog w = .ok (.agg #[.string (B [])]) w := by kernel_rfl
def FM (w : World) (mb : Nat) (ns : List (List UInt8)) (g : List (Option (List UInt8))) : Prop :=
  ∃ D : DataW Unit,w.ownsMap Tryz.prog 9 tyR mb (g.filter Option.isSome).length D ∧ Maps.size D = (g.filter Option.isSome).length ∧
    (∀ v,v < ns.length → Maps.has D (.string (ns.getD v [])) = (g.getD v none).isSome) ∧
    (∀ v t,v < ns.length → g.getD v none = some t → D.atKey (.string (ns.getD v [])) (.lit (.string [])) = .lit (.string t)) ∧
    ∀ k,Maps.has D k = true → ∃ v,v < ns.length ∧ k = .string (ns.getD v [])
theorem filter_set : ∀ (g : List (Option (List UInt8))) (v : Nat) (t : List UInt8),v < g.length → g.getD v none = none → ((g.set v (some t)).filter Option.isSome).length = (g.filter Option.isSome).length + 1
  | [],v,t,h,_ => by simp at h
  | a :: g,0,t,h,e => by
    simp at e
    subst e
    simp
  | a :: g,v + 1,t,h,e => by
    have ih := filter_set g v t (by simpa using h) (by simpa using e)
    simp only [List.set_cons_succ,List.filter_cons]
    split <;> simp [ih]
theorem FM.new (w : World) (ns : List (List UInt8)) (n : Nat) : FM (w.alloc (.map #[] 0)) w.heap.size ns (List.replicate n none) := by
  have hf : ((List.replicate n (none : Option (List UInt8))).filter Option.isSome) = [] := by
    rw [List.filter_eq_nil_iff]
    intro a ha
    rw [List.eq_of_mem_replicate ha]
    simp
  have hg : ∀ v,(List.replicate n (none : Option (List UInt8))).getD v none = none := fun v => by
    rw [List.getD_eq_getElem?_getD]
    cases e : (List.replicate n (none : Option (List UInt8)))[v]? with
    | none => rfl
    | some o => rw [List.eq_of_mem_replicate (List.mem_of_getElem? e)]; rfl
  refine ⟨.map [],?_,by rw [hf]; rfl,fun v hv => by rw [hg v]; rfl,(fun v t hv e => absurd (e.symm.trans (hg v)) (by simp)),(fun k h => absurd h (by simp [Maps.has]))⟩
  rw [hf]
  exact World.ownsMap_made _ _ _ _
theorem FM.kept {w w' : World} {mb : Nat} {ns : List (List UInt8)} {g : List (Option (List UInt8))} {r : Option Nat} (h : FM w mb ns g) (hg : w.grownBy w' r) (hne : some mb ≠ r) : FM w' mb ns g := by
  obtain ⟨D,h1,h2⟩ := h
  exact ⟨D,h1.kept hg hne,h2⟩
theorem FM.lt {w : World} {mb : Nat} {ns : List (List UInt8)} {g : List (Option (List UInt8))} (h : FM w mb ns g) : mb < w.heap.size := by
  obtain ⟨D,h1,_⟩ := h
  exact h1.lt
theorem FM.look1 {w : World} {mb : Nat} {ns : List (List UInt8)} {g : List (Option (List UInt8))} (h : FM w mb ns g) {v : Nat} (hv : v < ns.length) (hl : (ns.getD v []).length ≤ 300) {t : List UInt8} (ht : g.getD v none = some t) :
    (Instr.lookup 60 (.map (some mb)) (.string (B (ns.getD v []))) false).run Tryz.prog w = .ok (.agg #[.string (B t)]) w := by
  obtain ⟨D,h1,h2,h3,h4,h5⟩ := h
  obtain ⟨u,ps,hr,hu⟩ := h1.lookup keyLaw Tryz.underlying60 (zeroTyped w) (tyR_mk (t := []) (by simp)) (keyB hl)
  obtain ⟨s,rfl,hs⟩ := tyR_inv hu
  rw [hr]
  rw [h4 v t hv ht] at hs
  have := congrArg Prod.fst hs
  simp at this
  have e : s = B t := by
    cases s
    simp at this
    simp [B,this]
  rw [e]
theorem FM.store {w : World} {mb : Nat} {ns : List (List UInt8)} {g : List (Option (List UInt8))} (h : FM w mb ns g) (hlen : g.length = ns.length) (hL : ns.length ≤ 1000) (hd : ns.Nodup) {v : Nat} (hv : v < ns.length) (hl : (ns.getD v []).length ≤ 300) (ht : g.getD v none = none) {t : List UInt8} (htl : t.length ≤ 1000000) :
    ∃ w',(Instr.mapUpdate 60 (.map (some mb)) (.string (B (ns.getD v []))) (.agg #[.string (B t)])).run Tryz.prog w = .ok () w' ∧ FM w' mb ns (g.set v (some t)) ∧ w.grownBy w' (some mb) := by
  obtain ⟨D,h1,h2,h3,h4,h5⟩ := h
  have td := h1.tidy keyLaw
  have hfl : (g.filter Option.isSome).length ≤ 1000 := Nat.le_trans (List.length_filter_le _ _) (by omega)
  obtain ⟨w',r1,r2,r3⟩ := h1.update keyLaw Tryz.underlying60 (by unfold maxLen; omega) (keyB hl) (tyR_mk htl)
  have hf : Maps.has D (.string (ns.getD v [])) = false := by rw [h3 v hv,ht]; rfl
  have hfs := filter_set g v t (by omega) ht
  have ne : ∀ i,i < ns.length → i ≠ v → (Lit.string (ns.getD i [])) ≠ .string (ns.getD v []) := fun i hi hne e => hne (getD_inj2 hd hi hv (by simpa using e))
  have gs : ∀ i,(g.set v (some t)).getD i none = if i = v then some t else g.getD i none := fun i => by
    rw [List.getD_eq_getElem?_getD,List.getD_eq_getElem?_getD,List.getElem?_set]
    by_cases e : v = i
    · rw [if_pos e,if_pos e.symm,if_pos (by omega)]; rfl
    · rw [if_neg e,if_neg (fun h => e h.symm)]
  refine ⟨w',r1,⟨_,by rw [hfs]; exact r2,?_,fun i hi => ?_,fun i t' hi e => ?_,fun k hk => ?_⟩,r3⟩
  · rw [size_put td,hf,h2,hfs]
    simp
  · rw [gs i]
    by_cases e : i = v
    · subst e
      rw [if_pos rfl,has_put_same (k := .string (ns.getD i [])) td.isMap (by trivial)]
      rfl
    · rw [if_neg e,has_put_other (ne i hi e),h3 i hi]
  · rw [gs i] at e
    by_cases e2 : i = v
    · subst e2
      rw [if_pos rfl] at e
      cases e
      exact atKey_put_same (k := .string (ns.getD i [])) td.isMap (by trivial) _ _
    · rw [if_neg e2] at e
      rw [atKey_put_other (ne i hi e2)]
      exact h4 i t' hi e
  · by_cases e : k = .string (ns.getD v [])
    · exact ⟨v,hv,e⟩
    · rw [has_put_other e] at hk
      exact h5 k hk
end Go.Proofs.YtcdijppegfcoaabGreatDoor
