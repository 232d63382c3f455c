import Derived.Test.YtcdijppegfcoaabGreatDoorZC32
import Derived.Test.YtcdijppegfcoaabGreatDoorZC35
set_option maxRecDepth 100000
set_option maxHeartbeats 2000000
namespace Go.Proofs.YtcdijppegfcoaabGreatDoor
open Go.RowKit
@[reducible] def UR : Type := Option (List UInt8 × Nat)
def orU (a b : UR) : UR := match a with
  | some x => some x
  | none => b
def UX (H : Nat → Option Obj) (r : UR) (x : Option Addr) : Prop := match r with
  | none => x = none
  | some y => ∃ b dep,x = some ⟨b,0,none⟩ ∧ H b = some (.cells #[dep,.string (B y.1),.int .i64 (y.2 : Int)] 163 (0,0))
def orX (a b : Option Addr) : Option Addr := match a with
  | some x => some x
  | none => b
theorem UX.or {H : Nat → Option Obj} {r s : UR} {x y : Option Addr} (h : UX H r x) (k : UX H s y) : UX H (orU r s) (orX x y) := by
  cases r with
  | none => have h' : x = none := h; subst h'; exact k
  | some z => obtain ⟨b,dep,h1,h2⟩ := h; subst h1; exact ⟨b,dep,rfl,h2⟩
def unF (P : Ex → List (List (List UInt8)) → Option UR) (R : List Ex → List (List (List UInt8)) → Option UR) (ge : List (List UInt8 × Et)) (e : Ex) (l : List (List (List UInt8))) : Option UR :=
  if e.op = kName then (match e.names with | [nm] => if nm.length ≤ 300 then some (if kn ge l nm = true then none else some (nm,e.pos)) else none | _ => none)
  else if e.op = kFun then (match e.names,e.kids with | [p],[b] => P b ([p] :: l) | _,_ => none)
  else if e.op = kIf then (match e.kids with | [a,b,c] => (match P a l,P b l,P c l with | some r,some s,some t => some (orU r (orU s t)) | _,_,_ => none) | _ => none)
  else if e.op = kLet then (match e.names,e.kids with | [p],[a,b] => (match P a l,P b ([p] :: l) with | some r,some s => some (orU r s) | _,_ => none) | _,_ => none)
  else if e.op = kRec then (if e.names.length ≤ 300 then R e.kids (e.names :: l) else none)
  else if e.op = oApp then (match e.kids with | [a,b] => (match P a l,P b l with | some r,some s => some (orU r s) | _,_ => none) | _ => none)
  else if e.op = oPair then (match e.kids with | [a,b] => (match P a l,P b l with | some r,some s => some (orU r s) | _,_ => none) | _ => none)
  else if e.op = kNum then some none
  else none
def unR (P : Ex → List (List (List UInt8)) → Option UR) : List Ex → List (List (List UInt8)) → Option UR
  | [],_ => some none
  | e :: es,l => match P e l with
    | none => none
    | some none => unR P es l
    | some (some y) => some (some y)
def unT (ge : List (List UInt8 × Et)) : Nat → Ex → List (List (List UInt8)) → Option UR
  | 0,_,_ => none
  | f + 1,e,l => unF (unT ge f) (unR (unT ge f)) ge e l
def UNP1 (H : Nat → Option Obj) (r : UR) (w : World) (e : Ending) (w' : World) : Prop := ∃ x,e = .returned (.pointer x) ∧ UX H r x ∧ w.grownBy w' none
def UNE (H : Nat → Option Obj) (mb : Nat) (ge : List (List UInt8 × Et)) (P : Ex → List (List (List UInt8)) → Option UR) : Prop := ∀ (e : Ex) (v : Value) (m : Nat) (l : List (List (List UInt8))) (kv : Value) (r : UR) (w : World),
  PRep m H v e → P e l = some r → Fz H w → GE2 H w mb ge → KF mb w l kv → Calls Tryz.prog 71 #[v,kv] w (UNP1 H r w)
theorem ptr_ne1 (a : Addr) (w : World) : (binOp .neq 157 (.pointer (some a)) (.pointer none)).run Tryz.prog w = .ok (.bool true) w := by kernel_rfl
theorem or_two (gg : Nat) (x y : Option Addr) (w : World) (h : w.heap[gg]? = some (.cells #[.pointer x,.pointer y] 157 (0,0))) :
    Calls Tryz.prog 117 #[.slice (some ⟨gg,0,none⟩) 2 2] w fun e w' => e = .returned (.pointer (orX x y)) ∧ w' = w := by
  have c0 := blk_c h 0 rfl
  have c1 := blk_c h 1 rfl
  have hp := ptr_ne
  have hp1 := ptr_ne1
  clear h
  cases x with
  | some a =>
    go_enter Tryz.func117,Tryz.ntmps117
    go_wp2_with fail
    refine wp_loop_rounds 1 ?_
    rw [rounds_succ]
    go_wp2
    go_ret
    exact ⟨rfl,rfl⟩
  | none =>
    cases y with
    | some a =>
      go_enter Tryz.func117,Tryz.ntmps117
      go_wp2_with fail
      refine wp_loop_rounds 2 ?_
      rw [rounds_succ]
      go_wp2_with fail
      rw [rounds_succ]
      go_wp2
      go_ret
      exact ⟨rfl,rfl⟩
    | none =>
      go_enter Tryz.func117,Tryz.ntmps117
      go_wp2_with fail
      refine wp_loop_rounds 3 ?_
      rw [rounds_succ]
      go_wp2_with fail
      rw [rounds_succ]
      go_wp2_with fail
      rw [rounds_succ]
      go_wp2
      go_ret
      exact ⟨rfl,rfl⟩
theorem or_three (gg : Nat) (x y z : Option Addr) (w : World) (h : w.heap[gg]? = some (.cells #[.pointer x,.pointer y,.pointer z] 157 (0,0))) :
    Calls Tryz.prog 117 #[.slice (some ⟨gg,0,none⟩) 3 3] w fun e w' => e = .returned (.pointer (orX x (orX y z))) ∧ w' = w := by
  have c0 := blk_c h 0 rfl
  have c1 := blk_c h 1 rfl
  have c2 := blk_c h 2 rfl
  have hp := ptr_ne
  have hp1 := ptr_ne1
  clear h
  cases x with
  | some a =>
    go_enter Tryz.func117,Tryz.ntmps117
    go_wp2_with fail
    refine wp_loop_rounds 1 ?_
    rw [rounds_succ]
    go_wp2
    go_ret
    exact ⟨rfl,rfl⟩
  | none =>
    cases y with
    | some a =>
      go_enter Tryz.func117,Tryz.ntmps117
      go_wp2_with fail
      refine wp_loop_rounds 2 ?_
      rw [rounds_succ]
      go_wp2_with fail
      rw [rounds_succ]
      go_wp2
      go_ret
      exact ⟨rfl,rfl⟩
    | none =>
      cases z with
      | some a =>
        go_enter Tryz.func117,Tryz.ntmps117
        go_wp2_with fail
        refine wp_loop_rounds 3 ?_
        rw [rounds_succ]
        go_wp2_with fail
        rw [rounds_succ]
        go_wp2_with fail
        rw [rounds_succ]
        go_wp2
        go_ret
        exact ⟨rfl,rfl⟩
      | none =>
        go_enter Tryz.func117,Tryz.ntmps117
        go_wp2_with fail
        refine wp_loop_rounds 4 ?_
        rw [rounds_succ]
        go_wp2_with fail
        rw [rounds_succ]
        go_wp2_with fail
        rw [rounds_succ]
        go_wp2_with fail
        rw [rounds_succ]
        go_wp2
        go_ret
        exact ⟨rfl,rfl⟩
theorem une_name {H : Nat → Option Obj} {mb b pos : Nat} {ge : List (List UInt8 × Et)} {l : List (List (List UInt8))} {kv dep : Value} {nm : List UInt8} {w : World} (hb : H b = some (.cells #[dep,.string (B nm),.int .i64 (pos : Int)] 163 (0,0))) (hn : nm.length ≤ 300) (hz : Fz H w) (hg : GE2 H w mb ge) (hk : KF mb w l kv) :
    Calls Tryz.prog 71 #[.iface 157 (.pointer (some ⟨b,0,none⟩)),kv] w (UNP1 H (if kn ge l nm = true then none else some (nm,pos)) w) := by
  have hc := known_any hn hg l kv hk
  have hbw := hz _ _ hb
  have k1 := blk_c hbw 1 rfl
  have hf := hk.form
  have a0 := xA_Name_Name b
  have HB := hid hb
  clear hb hg hk hbw hz
  cases ho : kn ge l nm
  all_goals
    rw [ho] at hc
    clear ho
    rcases hf with ⟨q1,rfl⟩ | ⟨q1,q2,rfl⟩
  all_goals
    have CK := hid hc
    unfold KCall at CK
    clear hc
    go_enter Tryz.func71,Tryz.ntmps71
    go_wp2_with fail
    refine CK.out.mono ?_
    rintro e w1 ⟨rfl,g1⟩
    have G1 := hid g1
    clear g1 CK
    go_wp2
    go_ret
    first
      | exact ⟨none,rfl,rfl,G1.out⟩
      | exact ⟨some ⟨b,0,none⟩,rfl,⟨b,dep,rfl,HB.out⟩,G1.out⟩
theorem une_fun {H : Nat → Option Obj} {mb b m : Nat} {ge : List (List UInt8 × Et)} {l : List (List (List UInt8))} {kv dep u : Value} {p : List UInt8} {e1 : Ex} {r : UR} {P : Ex → List (List (List UInt8)) → Option UR} (hP : UNE H mb ge P) {w : World} (hb : H b = some (.cells #[dep,.string (B p),u] 180 (0,0))) (hp1 : PRep m H u e1) (h1 : P e1 ([p] :: l) = some r) (hz : Fz H w) (hg : GE2 H w mb ge) (hk : KF mb w l kv) :
    Calls Tryz.prog 71 #[.iface 178 (.pointer (some ⟨b,0,none⟩)),kv] w (UNP1 H r w) := by
  obtain ⟨T1,b1,rfl⟩ := hp1.val
  have hbw := hz _ _ hb
  have k1 := blk_c hbw 1 rfl
  have k2 := blk_c hbw 2 rfl
  have hbl := lt_of_block hbw
  have gW : w.grownBy (w.alloc (.cells #[.string (B p)] 9)).drew none := grown_drew (World.grownBy_alloc _ _ _)
  have CA := hid (and_any (ns := [p]) (gg := w.heap.size) (cap := 1) (w := (w.alloc (.cells #[.string (B p)] 9)).drew) (hk.grown gW) (heap_alloc_new w _) (fun j x hx => by
    cases j with
    | zero => cases hx; rfl
    | succ j => cases hx) (by simp))
  have Q := hid (And.intro hP (And.intro hp1 (And.intro h1 (And.intro hz (And.intro hg (And.intro gW hbw))))))
  have hf := hk.form
  have a0 := xA_Fun_Name b
  have a1 := xA_Fun_Fun b
  clear hP hp1 h1 hz hg hk hb hbw gW
  rcases hf with ⟨q1,rfl⟩ | ⟨q1,q2,rfl⟩
  all_goals
    go_enter Tryz.func71,Tryz.ntmps71
    go_wp2_with fail
    go_region_with (first
      | (go_at_call 116; refine CA.out.mono ?_; rintro e w1 ⟨y1,y2,rfl,kf1,gr1⟩; have CB := hid (Q.out.1 e1 _ m _ _ r w1 Q.out.2.1 Q.out.2.2.1 (Q.out.2.2.2.1.grown (Q.out.2.2.2.2.2.1.trans gr1)) (Q.out.2.2.2.2.1.grown (Q.out.2.2.2.2.2.1.trans gr1)) kf1); have hb1 : w1.heap[b]? = _ := ((Q.out.2.2.2.2.2.1.trans gr1).block b hbl (by simp)).trans Q.out.2.2.2.2.2.2; have k3 := blk_c hb1 2 rfl; have hbl1 := lt_of_block hb1; have G1 := hid (Q.out.2.2.2.2.2.1.trans gr1); clear gr1 CA hb1 kf1)
      | (go_at_call 71; refine CB.out.mono ?_; rintro e w2 ⟨x2,rfl,ux2,gr2⟩; have G2 := hid (And.intro ux2 (G1.out.trans gr2)); clear gr2 ux2 CB))
    all_goals go_wp2
    all_goals go_ret
    all_goals exact ⟨x2,rfl,G2.out.1,G2.out.2⟩
end Go.Proofs.YtcdijppegfcoaabGreatDoor
