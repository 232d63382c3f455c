import Derived.Test.YtcdijppegfcoaabGreatDoorZK24
import Derived.Test.YtcdijppegfcoaabGreatDoorIterJ
import Derived.Deep.LoopGhost
import Derived.Test.YtcdijppegfcoaabGreatDoorZK09
import Derived.Test.YtcdijppegfcoaabGreatDoorZK00
import Derived.Test.YtcdijppegfcoaabGreatDoorZK01
import Derived.Deep.RegionWith
import Derived.Outline
import Derived.Test.YtcdijppegfcoaabGreatDoorZK07
import Derived.Test.YtcdijppegfcoaabGreatDoorZK02
import Derived.Test.YtcdijppegfcoaabGreatDoorZK21
import Derived.Laws.IdiomStrings
import Derived.Laws.OwnMore
import Derived.Test.YtcdijppegfcoaabGreatDoorZK18
import Derived.Test.YtcdijppegfcoaabGreatDoorZK11
import Derived.Test.YtcdijppegfcoaabGreatDoorShelfJ
import Derived.Test.YtcdijppegfcoaabGreatDoorZK19
import Derived.Test.YtcdijppegfcoaabGreatDoorZK20
import Derived.Test.YtcdijppegfcoaabGreatDoorZK05
set_option maxRecDepth 100000
set_option maxHeartbeats 8000000
namespace Go.Proofs.YtcdijppegfcoaabGreatDoor
open Go.RowKit
theorem map_nil (w : World) : (binOp .eql 60 (.map none) (.map none)).run Tryz.prog w = .ok (.bool true) w := by kernel_rfl
theorem map_some (b : Nat) (w : World) : (binOp .eql 60 (.map (some b)) (.map none)).run Tryz.prog w = .ok (.bool false) w := by kernel_rfl
theorem keys_c (mb : Option Nat) (W : World) : Calls Tryz.prog 25 #[.map mb] W fun e w' => e = .returned (.func (.func 43) #[] #[.pointer (some ⟨W.heap.size,0,none⟩)]) ∧ w' = W.alloc (.cells #[.map mb] 60) :=
  callsIn_wide.1 (Tryz.maps_Keys_25 mb W)
end Go.Proofs.YtcdijppegfcoaabGreatDoor
namespace Go.Proofs.YtcdijppegfcoaabGreatDoor
open Go.RowKit Go.Maps Go.Sort
def sortS (na : List (List UInt8)) : List (List UInt8) := na.mergeSort (fun x y => decide (x ≤ y))
theorem FM.perm {w : World} {mb : Nat} {ns : List (List UInt8)} {g : List (Option (List UInt8))} (h : FM w mb ns g) (hd : ns.Nodup) (hall : ∀ v,v < ns.length → (g.getD v none).isSome = true) :
    ∃ D : DataW Unit,∃ n,w.ownsMap Tryz.prog 9 tyR mb n D ∧ ns.Perm (strKeys D) ∧ Maps.size D ≤ g.length := by
  obtain ⟨D,h1,h2,h3,h4,h5⟩ := h
  refine ⟨D,_,h1,?_,by rw [h2]; exact List.length_filter_le _ _⟩
  have td := h1.tidy keyLaw
  obtain ⟨es,rfl,hp⟩ := td
  refine perm_strKeys hp (fun p hp' => ?_) hd fun x => ?_
  · have : Maps.has (.map es) p.1 = true := by
      rw [has_eq,List.any_eq_true]
      refine ⟨p,hp',?_⟩
      obtain ⟨es',e',hk⟩ := h1.keysOf
      cases e'
      obtain ⟨key,hkey⟩ := hk p hp'
      obtain ⟨y,_,hy,_⟩ := Maps.keyOf_str Tryz.underlying9 hkey
      rw [hy]
      simp [Lit.sameKey]
    obtain ⟨v,_,hv⟩ := h5 _ this
    exact ⟨_,hv⟩
  · constructor
    · intro hx
      have hi := List.idxOf_lt_length_of_mem hx
      have e : ns.getD (ns.idxOf x) [] = x := by simp [List.getD,List.getElem?_eq_getElem hi]
      have := h3 (ns.idxOf x) hi
      rw [e,hall _ hi] at this
      exact this
    · intro hx
      obtain ⟨v,hv,e⟩ := h5 _ hx
      have e2 : x = ns.getD v [] := by simpa using e
      rw [e2]
      exact getD_mem hv
theorem sorted_some (W : World) (mb : Nat) (ns : List (List UInt8)) (g : List (Option (List UInt8))) (h : FM W mb ns g) (hd : ns.Nodup) (hall : ∀ v,v < ns.length → (g.getD v none).isSome = true) (hgl : g.length ≤ 1000) :
    Calls Tryz.prog 24 #[.func (.func 43) #[] #[.pointer (some ⟨W.heap.size,0,none⟩)]] (W.alloc (.cells #[.map (some mb)] 60)) fun e w' => ∃ v,e = .returned v ∧
      w'.ownsRow (W.alloc (.cells #[.map (some mb)] 60)).heap.size 9 1 v (sortS ns).length (strs (sortS ns)) ∧ (W.alloc (.cells #[.map (some mb)] 60)).grownBy w' none := by
  obtain ⟨D,n,h1,h2,h3⟩ := h.perm hd hall
  refine (callsIn_wide.1 (Tryz.slices_Sorted_keys_24_25 mb n D tyR W h1 (by unfold maxLen; omega) (by omega))).mono ?_
  rintro e w' ⟨v,ss,rfl,hp,hrow,_,hb⟩
  have e1 : ss.mergeSort (fun x y => decide (x ≤ y)) = sortS ns := mergeSort_of_perm (hp.trans h2.symm)
  have e2 : ss.length = (sortS ns).length := by rw [← e1,List.length_mergeSort]
  have e3 : (sortS ns).map encStr = strs (sortS ns) := by
    unfold strs
    refine List.map_congr_left fun x _ => ?_
    rfl
  rw [e1,e2,e3] at hrow
  exact ⟨v,rfl,hrow,hb.os,hb.tape,hb.output,hb.size,fun k hk _ => hb.block k hk⟩
theorem FM.same {w w' : World} {mb : Nat} {ns : List (List UInt8)} {g : List (Option (List UInt8))} (h : FM w mb ns g) (e : w'.heap[mb]? = w.heap[mb]?) : FM w' mb ns g := by
  obtain ⟨D,⟨es,clock,hb,h1⟩,h2⟩ := h
  exact ⟨D,⟨es,clock,e.trans hb,h1⟩,h2⟩
theorem typed_field (s : ByteArray) (w : World) : (Instr.field 68 (.agg #[.string s]) 0).run Tryz.prog w = .ok (.string s) w := by kernel_rfl
theorem SW.gn {w w' : World} {ad : Nat → Addr} {cs : Nat → Array Value} {ts : Nat → TypeId} (h : SW w ad cs ts) (hg : Gn w w') : SW w' ad cs ts := by
  have c : ∀ {b : Nat} {v : Value},b < 8 + 1 → w.cell? ⟨b,0,none⟩ = some v → w'.cell? ⟨b,0,none⟩ = some v := fun {b v} hl e => by
    rw [World.cell?_of_block (a := ⟨b,0,none⟩) (hg.block b (Nat.lt_of_lt_of_le hl h.hsz))]
    exact e
  exact ⟨c (by decide) h.g0,c (by decide) h.g1,c (by decide) h.g2,c (by decide) h.g3,c (by decide) h.g4,c (by decide) h.g5,c (by decide) h.g6,c (by decide) h.g7,c (by decide) h.hE,
    fun k hk => by rw [hg.block _ (lt_of_block (h.hb k hk))]; exact h.hb k hk,h.hne,Nat.le_trans h.hsz hg.size⟩
end Go.Proofs.YtcdijppegfcoaabGreatDoor
namespace Go.Proofs.YtcdijppegfcoaabGreatDoor
open Go.RowKit Go.Extern.Stop Go.Stop Go.Extern
theorem Gn.drew {w w' : World} (h : Gn w w') : Gn w w'.drew := ⟨h.os,h.output,h.size,h.block⟩
def shapeB : Nat → Ex → Bool
  | 0,_ => false
  | m + 1,x => (((decide (x.op = kName) || decide (x.op = kNum)) && decide (x.names.length = 1)) || (decide (x.op = kFun) && decide (x.names.length = 1) && decide (x.kids.length = 1)) || (decide (x.op = oPair) && decide (x.kids.length = 2)) || (decide (x.op = kIf) && decide (x.kids.length = 3)) || (decide (x.op = oApp) && decide (x.kids.length = 2)) ||
      ((decide (x.op = kLet) || decide (x.op = kRec)) && decide (0 < x.names.length) && decide (x.kids.length = x.names.length + 1))) && x.kids.all (shapeB m)
theorem shapeB_ok : ∀ (m : Nat) (x : Ex),shapeB m x = true → Shape m x
  | 0,_,h => by cases h
  | m + 1,x,h => by
    simp only [shapeB,Bool.and_eq_true,Bool.or_eq_true,decide_eq_true_eq,List.all_eq_true] at h
    obtain ⟨h1,h2⟩ := h
    refine ⟨?_,fun y hy => shapeB_ok m y (h2 y hy)⟩
    rcases h1 with ((((h | h) | h) | h) | h) | h
    · exact Or.inl h
    · exact Or.inr (Or.inl ⟨h.1.1,h.1.2,h.2⟩)
    · exact Or.inr (Or.inr (Or.inl h))
    · exact Or.inr (Or.inr (Or.inr (Or.inl h)))
    · exact Or.inr (Or.inr (Or.inr (Or.inr (Or.inl h))))
    · exact Or.inr (Or.inr (Or.inr (Or.inr (Or.inr ⟨h.1.1,h.1.2,h.2⟩))))
def tyOkB (N : Nat) : Nat → Ty → Bool
  | 0,_ => false
  | m + 1,t => match t.kids with
    | [] => (decide (t.kind = []) && decide (t.var < N)) || ((decide (t.kind = kInt) || decide (t.kind = kBool)) && decide (t.var = 0))
    | [a] => decide (t.kind = oList) && decide (t.var = 0) && tyOkB N m a
    | [a,b] => (decide (t.kind = oPair) || decide (t.kind = kFun)) && decide (t.var = 0) && tyOkB N m a && tyOkB N m b
    | _ => false
theorem tyOkB_ok (N : Nat) : ∀ (m : Nat) (t : Ty),tyOkB N m t = true → TyOk N m t
  | 0,_,h => by cases h
  | m + 1,t,h => by
    unfold tyOkB at h
    split at h
    · rename_i hk
      simp only [Bool.and_eq_true,Bool.or_eq_true,decide_eq_true_eq] at h
      rcases h with h | h
      · exact Or.inl ⟨h.1,h.2,hk⟩
      · exact Or.inr (Or.inl ⟨h.1,h.2,hk⟩)
    · rename_i a hk
      simp only [Bool.and_eq_true,decide_eq_true_eq] at h
      exact Or.inr (Or.inr (Or.inl ⟨h.1.1,h.1.2,a,hk,tyOkB_ok N m a h.2⟩))
    · rename_i a b hk
      simp only [Bool.and_eq_true,Bool.or_eq_true,decide_eq_true_eq] at h
      exact Or.inr (Or.inr (Or.inr ⟨h.1.1.1,h.1.1.2,a,b,hk,tyOkB_ok N m a h.1.2,tyOkB_ok N m b h.2⟩))
    · cases h
def ROut (w w' : World) (s2 : St) (e : Ending) (ex : Ex) (bd : Addr) : Prop :=
  w.grownBy w' none ∧ ((0 ≤ s2.bad ∧ ∃ b,e = .returned (.tuple #[.nilIface,.iface 81 (.pointer (some ⟨b,0,none⟩))]) ∧ w'.heap[b]? = some (.cells #[.int .i64 s2.bad] 92 (0,0))) ∨
    (s2.bad < 0 ∧ ∃ v H' m,Fz H' w' ∧ PRep m H' v ex ∧ exDeep m ex ≤ 400 ∧ ((40 < exDeep m ex ∧ e = .returned (.tuple #[.nilIface,errV bd])) ∨ (exDeep m ex ≤ 40 ∧ e = .returned (.tuple #[v,.nilIface])))))
theorem read_p (s : ByteArray) (hs : s.size ≤ 300) (w : World) (n : Nat) (ex : Ex) (s1 : St) (hx : expS (toksOf exKw s) n ⟨0,-1⟩ = some (ex,s1)) (bd : Addr) (hg : w.cell? ⟨1,0,none⟩ = some (errV bd)) (hgl : 1 < w.heap.size) :
    Calls Tryz.prog 44 #[.string s] w fun e w' => ROut w w' (needS (toksOf exKw s) s1 kEnd) e ex bd := by
  have HC := hid (whole_p s hs w n ex s1 hx)
  clear hx
  go_enter Tryz.func44,Tryz.ntmps44
  go_wp2_with fail
  refine HC.out.mono ?_
  rintro e w1 ⟨g1,(⟨hb,v,H',m,rfl,z1,r1,d1⟩ | ⟨hb,b,rfl,hbk⟩)⟩
  · obtain ⟨t1,b1,ht1,rfl,hb1,hc1⟩ := r1.dat z1
    have hg1 : w1.cell? ⟨1,0,none⟩ = some (errV bd) := by
      rw [World.cell?_of_block (a := ⟨1,0,none⟩) (g1.block _ hgl (by simp))]
      exact hg
    have hg2 := cell_past hg1 (.cells #[.int .i64 ((exDeep m ex : Nat) : Int)] 161)
    have hme := mDepth_any ht1 b1 (exDeep m ex) _ hc1
    have Q := hid (And.intro hb (And.intro z1 (And.intro r1 d1)))
    have G1 := hid g1
    clear hb z1 r1 g1 hg hg1 hb1 hc1 HC
    unfold errV at hg2
    by_cases hd : 40 < exDeep m ex
    · have hd2 : (40 : Int) < ((exDeep m ex : Nat) : Int) := by omega
      go_wp2_with (go_at_call 241; refine (depth_p _ _).mono ?_; rintro e w' ⟨rfl,rfl⟩)
      go_region
      go_wp2
      go_ret2
      obtain ⟨hb,z1,r1,d1⟩ := Q.out
      exact ⟨grown_drew (G1.out.trans (World.grownBy_alloc _ _ _)),Or.inr ⟨hb,_,H',m,(z1.alloc _).drew,r1,d1,Or.inl ⟨hd,rfl⟩⟩⟩
    · have hd2 : ¬ (40 : Int) < ((exDeep m ex : Nat) : Int) := by omega
      go_wp2_with (go_at_call 241; refine (depth_p _ _).mono ?_; rintro e w' ⟨rfl,rfl⟩)
      go_ret2
      obtain ⟨hb,z1,r1,d1⟩ := Q.out
      exact ⟨G1.out.trans (World.grownBy_alloc _ _ _),Or.inr ⟨hb,_,H',m,z1.alloc _,r1,d1,Or.inr ⟨by omega,rfl⟩⟩⟩
  · have Q := hid (And.intro g1 (And.intro hb hbk))
    clear g1 hb hbk HC
    go_wp2
    go_ret2
    exact ⟨Q.out.1,Or.inl ⟨Q.out.2.1,b,rfl,Q.out.2.2⟩⟩
theorem as_Name_Name (b : Nat) (w : World) : (Instr.typeAssert (.iface 157 (.pointer (some ⟨b,0,none⟩))) 101 157 true).run Tryz.prog w = .ok (.tuple #[.pointer (some ⟨b,0,none⟩),.bool true]) w := by kernel_rfl
theorem as_Name_Number (b : Nat) (w : World) : (Instr.typeAssert (.iface 157 (.pointer (some ⟨b,0,none⟩))) 101 175 true).run Tryz.prog w = .ok (.tuple #[.pointer none,.bool false]) w := by kernel_rfl
theorem as_Name_Fun (b : Nat) (w : World) : (Instr.typeAssert (.iface 157 (.pointer (some ⟨b,0,none⟩))) 101 178 true).run Tryz.prog w = .ok (.tuple #[.pointer none,.bool false]) w := by kernel_rfl
theorem as_Name_If (b : Nat) (w : World) : (Instr.typeAssert (.iface 157 (.pointer (some ⟨b,0,none⟩))) 101 181 true).run Tryz.prog w = .ok (.tuple #[.pointer none,.bool false]) w := by kernel_rfl
theorem as_Name_Let (b : Nat) (w : World) : (Instr.typeAssert (.iface 157 (.pointer (some ⟨b,0,none⟩))) 101 184 true).run Tryz.prog w = .ok (.tuple #[.pointer none,.bool false]) w := by kernel_rfl
theorem as_Name_LetRec (b : Nat) (w : World) : (Instr.typeAssert (.iface 157 (.pointer (some ⟨b,0,none⟩))) 101 190 true).run Tryz.prog w = .ok (.tuple #[.pointer none,.bool false]) w := by kernel_rfl
theorem as_Name_Pair (b : Nat) (w : World) : (Instr.typeAssert (.iface 157 (.pointer (some ⟨b,0,none⟩))) 101 198 true).run Tryz.prog w = .ok (.tuple #[.pointer none,.bool false]) w := by kernel_rfl
theorem as_Number_Name (b : Nat) (w : World) : (Instr.typeAssert (.iface 175 (.pointer (some ⟨b,0,none⟩))) 101 157 true).run Tryz.prog w = .ok (.tuple #[.pointer none,.bool false]) w := by kernel_rfl
theorem as_Number_Number (b : Nat) (w : World) : (Instr.typeAssert (.iface 175 (.pointer (some ⟨b,0,none⟩))) 101 175 true).run Tryz.prog w = .ok (.tuple #[.pointer (some ⟨b,0,none⟩),.bool true]) w := by kernel_rfl
theorem as_Number_Fun (b : Nat) (w : World) : (Instr.typeAssert (.iface 175 (.pointer (some ⟨b,0,none⟩))) 101 178 true).run Tryz.prog w = .ok (.tuple #[.pointer none,.bool false]) w := by kernel_rfl
theorem as_Number_If (b : Nat) (w : World) : (Instr.typeAssert (.iface 175 (.pointer (some ⟨b,0,none⟩))) 101 181 true).run Tryz.prog w = .ok (.tuple #[.pointer none,.bool false]) w := by kernel_rfl
theorem as_Number_Let (b : Nat) (w : World) : (Instr.typeAssert (.iface 175 (.pointer (some ⟨b,0,none⟩))) 101 184 true).run Tryz.prog w = .ok (.tuple #[.pointer none,.bool false]) w := by kernel_rfl
theorem as_Number_LetRec (b : Nat) (w : World) : (Instr.typeAssert (.iface 175 (.pointer (some ⟨b,0,none⟩))) 101 190 true).run Tryz.prog w = .ok (.tuple #[.pointer none,.bool false]) w := by kernel_rfl
theorem as_Number_Pair (b : Nat) (w : World) : (Instr.typeAssert (.iface 175 (.pointer (some ⟨b,0,none⟩))) 101 198 true).run Tryz.prog w = .ok (.tuple #[.pointer none,.bool false]) w := by kernel_rfl
theorem as_Fun_Name (b : Nat) (w : World) : (Instr.typeAssert (.iface 178 (.pointer (some ⟨b,0,none⟩))) 101 157 true).run Tryz.prog w = .ok (.tuple #[.pointer none,.bool false]) w := by kernel_rfl
theorem as_Fun_Number (b : Nat) (w : World) : (Instr.typeAssert (.iface 178 (.pointer (some ⟨b,0,none⟩))) 101 175 true).run Tryz.prog w = .ok (.tuple #[.pointer none,.bool false]) w := by kernel_rfl
theorem as_Fun_Fun (b : Nat) (w : World) : (Instr.typeAssert (.iface 178 (.pointer (some ⟨b,0,none⟩))) 101 178 true).run Tryz.prog w = .ok (.tuple #[.pointer (some ⟨b,0,none⟩),.bool true]) w := by kernel_rfl
theorem as_Fun_If (b : Nat) (w : World) : (Instr.typeAssert (.iface 178 (.pointer (some ⟨b,0,none⟩))) 101 181 true).run Tryz.prog w = .ok (.tuple #[.pointer none,.bool false]) w := by kernel_rfl
theorem as_Fun_Let (b : Nat) (w : World) : (Instr.typeAssert (.iface 178 (.pointer (some ⟨b,0,none⟩))) 101 184 true).run Tryz.prog w = .ok (.tuple #[.pointer none,.bool false]) w := by kernel_rfl
theorem as_Fun_LetRec (b : Nat) (w : World) : (Instr.typeAssert (.iface 178 (.pointer (some ⟨b,0,none⟩))) 101 190 true).run Tryz.prog w = .ok (.tuple #[.pointer none,.bool false]) w := by kernel_rfl
theorem as_Fun_Pair (b : Nat) (w : World) : (Instr.typeAssert (.iface 178 (.pointer (some ⟨b,0,none⟩))) 101 198 true).run Tryz.prog w = .ok (.tuple #[.pointer none,.bool false]) w := by kernel_rfl
theorem as_If_Name (b : Nat) (w : World) : (Instr.typeAssert (.iface 181 (.pointer (some ⟨b,0,none⟩))) 101 157 true).run Tryz.prog w = .ok (.tuple #[.pointer none,.bool false]) w := by kernel_rfl
theorem as_If_Number (b : Nat) (w : World) : (Instr.typeAssert (.iface 181 (.pointer (some ⟨b,0,none⟩))) 101 175 true).run Tryz.prog w = .ok (.tuple #[.pointer none,.bool false]) w := by kernel_rfl
theorem as_If_Fun (b : Nat) (w : World) : (Instr.typeAssert (.iface 181 (.pointer (some ⟨b,0,none⟩))) 101 178 true).run Tryz.prog w = .ok (.tuple #[.pointer none,.bool false]) w := by kernel_rfl
theorem as_If_If (b : Nat) (w : World) : (Instr.typeAssert (.iface 181 (.pointer (some ⟨b,0,none⟩))) 101 181 true).run Tryz.prog w = .ok (.tuple #[.pointer (some ⟨b,0,none⟩),.bool true]) w := by kernel_rfl
theorem as_If_Let (b : Nat) (w : World) : (Instr.typeAssert (.iface 181 (.pointer (some ⟨b,0,none⟩))) 101 184 true).run Tryz.prog w = .ok (.tuple #[.pointer none,.bool false]) w := by kernel_rfl
theorem as_If_LetRec (b : Nat) (w : World) : (Instr.typeAssert (.iface 181 (.pointer (some ⟨b,0,none⟩))) 101 190 true).run Tryz.prog w = .ok (.tuple #[.pointer none,.bool false]) w := by kernel_rfl
theorem as_If_Pair (b : Nat) (w : World) : (Instr.typeAssert (.iface 181 (.pointer (some ⟨b,0,none⟩))) 101 198 true).run Tryz.prog w = .ok (.tuple #[.pointer none,.bool false]) w := by kernel_rfl
theorem as_Let_Name (b : Nat) (w : World) : (Instr.typeAssert (.iface 184 (.pointer (some ⟨b,0,none⟩))) 101 157 true).run Tryz.prog w = .ok (.tuple #[.pointer none,.bool false]) w := by kernel_rfl
theorem as_Let_Number (b : Nat) (w : World) : (Instr.typeAssert (.iface 184 (.pointer (some ⟨b,0,none⟩))) 101 175 true).run Tryz.prog w = .ok (.tuple #[.pointer none,.bool false]) w := by kernel_rfl
theorem as_Let_Fun (b : Nat) (w : World) : (Instr.typeAssert (.iface 184 (.pointer (some ⟨b,0,none⟩))) 101 178 true).run Tryz.prog w = .ok (.tuple #[.pointer none,.bool false]) w := by kernel_rfl
theorem as_Let_If (b : Nat) (w : World) : (Instr.typeAssert (.iface 184 (.pointer (some ⟨b,0,none⟩))) 101 181 true).run Tryz.prog w = .ok (.tuple #[.pointer none,.bool false]) w := by kernel_rfl
theorem as_Let_Let (b : Nat) (w : World) : (Instr.typeAssert (.iface 184 (.pointer (some ⟨b,0,none⟩))) 101 184 true).run Tryz.prog w = .ok (.tuple #[.pointer (some ⟨b,0,none⟩),.bool true]) w := by kernel_rfl
theorem as_Let_LetRec (b : Nat) (w : World) : (Instr.typeAssert (.iface 184 (.pointer (some ⟨b,0,none⟩))) 101 190 true).run Tryz.prog w = .ok (.tuple #[.pointer none,.bool false]) w := by kernel_rfl
theorem as_Let_Pair (b : Nat) (w : World) : (Instr.typeAssert (.iface 184 (.pointer (some ⟨b,0,none⟩))) 101 198 true).run Tryz.prog w = .ok (.tuple #[.pointer none,.bool false]) w := by kernel_rfl
theorem as_LetRec_Name (b : Nat) (w : World) : (Instr.typeAssert (.iface 190 (.pointer (some ⟨b,0,none⟩))) 101 157 true).run Tryz.prog w = .ok (.tuple #[.pointer none,.bool false]) w := by kernel_rfl
theorem as_LetRec_Number (b : Nat) (w : World) : (Instr.typeAssert (.iface 190 (.pointer (some ⟨b,0,none⟩))) 101 175 true).run Tryz.prog w = .ok (.tuple #[.pointer none,.bool false]) w := by kernel_rfl
theorem as_LetRec_Fun (b : Nat) (w : World) : (Instr.typeAssert (.iface 190 (.pointer (some ⟨b,0,none⟩))) 101 178 true).run Tryz.prog w = .ok (.tuple #[.pointer none,.bool false]) w := by kernel_rfl
theorem as_LetRec_If (b : Nat) (w : World) : (Instr.typeAssert (.iface 190 (.pointer (some ⟨b,0,none⟩))) 101 181 true).run Tryz.prog w = .ok (.tuple #[.pointer none,.bool false]) w := by kernel_rfl
theorem as_LetRec_Let (b : Nat) (w : World) : (Instr.typeAssert (.iface 190 (.pointer (some ⟨b,0,none⟩))) 101 184 true).run Tryz.prog w = .ok (.tuple #[.pointer none,.bool false]) w := by kernel_rfl
theorem as_LetRec_LetRec (b : Nat) (w : World) : (Instr.typeAssert (.iface 190 (.pointer (some ⟨b,0,none⟩))) 101 190 true).run Tryz.prog w = .ok (.tuple #[.pointer (some ⟨b,0,none⟩),.bool true]) w := by kernel_rfl
theorem as_LetRec_Pair (b : Nat) (w : World) : (Instr.typeAssert (.iface 190 (.pointer (some ⟨b,0,none⟩))) 101 198 true).run Tryz.prog w = .ok (.tuple #[.pointer none,.bool false]) w := by kernel_rfl
theorem as_Apply_Name (b : Nat) (w : World) : (Instr.typeAssert (.iface 195 (.pointer (some ⟨b,0,none⟩))) 101 157 true).run Tryz.prog w = .ok (.tuple #[.pointer none,.bool false]) w := by kernel_rfl
theorem as_Apply_Number (b : Nat) (w : World) : (Instr.typeAssert (.iface 195 (.pointer (some ⟨b,0,none⟩))) 101 175 true).run Tryz.prog w = .ok (.tuple #[.pointer none,.bool false]) w := by kernel_rfl
theorem as_Apply_Fun (b : Nat) (w : World) : (Instr.typeAssert (.iface 195 (.pointer (some ⟨b,0,none⟩))) 101 178 true).run Tryz.prog w = .ok (.tuple #[.pointer none,.bool false]) w := by kernel_rfl
theorem as_Apply_If (b : Nat) (w : World) : (Instr.typeAssert (.iface 195 (.pointer (some ⟨b,0,none⟩))) 101 181 true).run Tryz.prog w = .ok (.tuple #[.pointer none,.bool false]) w := by kernel_rfl
theorem as_Apply_Let (b : Nat) (w : World) : (Instr.typeAssert (.iface 195 (.pointer (some ⟨b,0,none⟩))) 101 184 true).run Tryz.prog w = .ok (.tuple #[.pointer none,.bool false]) w := by kernel_rfl
theorem as_Apply_LetRec (b : Nat) (w : World) : (Instr.typeAssert (.iface 195 (.pointer (some ⟨b,0,none⟩))) 101 190 true).run Tryz.prog w = .ok (.tuple #[.pointer none,.bool false]) w := by kernel_rfl
theorem as_Apply_Apply (b : Nat) (w : World) : (Instr.typeAssert (.iface 195 (.pointer (some ⟨b,0,none⟩))) 101 195 true).run Tryz.prog w = .ok (.tuple #[.pointer (some ⟨b,0,none⟩),.bool true]) w := by kernel_rfl
theorem as_Apply_Pair (b : Nat) (w : World) : (Instr.typeAssert (.iface 195 (.pointer (some ⟨b,0,none⟩))) 101 198 true).run Tryz.prog w = .ok (.tuple #[.pointer none,.bool false]) w := by kernel_rfl
theorem as_Pair_Name (b : Nat) (w : World) : (Instr.typeAssert (.iface 198 (.pointer (some ⟨b,0,none⟩))) 101 157 true).run Tryz.prog w = .ok (.tuple #[.pointer none,.bool false]) w := by kernel_rfl
theorem as_Pair_Number (b : Nat) (w : World) : (Instr.typeAssert (.iface 198 (.pointer (some ⟨b,0,none⟩))) 101 175 true).run Tryz.prog w = .ok (.tuple #[.pointer none,.bool false]) w := by kernel_rfl
theorem as_Pair_Fun (b : Nat) (w : World) : (Instr.typeAssert (.iface 198 (.pointer (some ⟨b,0,none⟩))) 101 178 true).run Tryz.prog w = .ok (.tuple #[.pointer none,.bool false]) w := by kernel_rfl
theorem as_Pair_If (b : Nat) (w : World) : (Instr.typeAssert (.iface 198 (.pointer (some ⟨b,0,none⟩))) 101 181 true).run Tryz.prog w = .ok (.tuple #[.pointer none,.bool false]) w := by kernel_rfl
theorem as_Pair_Let (b : Nat) (w : World) : (Instr.typeAssert (.iface 198 (.pointer (some ⟨b,0,none⟩))) 101 184 true).run Tryz.prog w = .ok (.tuple #[.pointer none,.bool false]) w := by kernel_rfl
theorem as_Pair_LetRec (b : Nat) (w : World) : (Instr.typeAssert (.iface 198 (.pointer (some ⟨b,0,none⟩))) 101 190 true).run Tryz.prog w = .ok (.tuple #[.pointer none,.bool false]) w := by kernel_rfl
theorem as_Pair_Apply (b : Nat) (w : World) : (Instr.typeAssert (.iface 198 (.pointer (some ⟨b,0,none⟩))) 101 195 true).run Tryz.prog w = .ok (.tuple #[.pointer none,.bool false]) w := by kernel_rfl
theorem as_Pair_Pair (b : Nat) (w : World) : (Instr.typeAssert (.iface 198 (.pointer (some ⟨b,0,none⟩))) 101 198 true).run Tryz.prog w = .ok (.tuple #[.pointer (some ⟨b,0,none⟩),.bool true]) w := by kernel_rfl
def TXP (f : FuncId) (w : World) (v : Value) (t : List UInt8) : Prop := ∀ wx,w.grownBy wx none → Calls Tryz.prog f #[v] wx fun e w' => e = .returned (.string (B t)) ∧ wx.grownBy w' none
theorem TXP.at {f : FuncId} {w : World} {v : Value} {t : List UInt8} (h : TXP f w v t) {wx : World} (hg : w.grownBy wx none) : TXP f wx v t := fun wy hy => h wy (hg.trans hy)
theorem ptext_name (w : World) (b : Nat) (nm : List UInt8) (hnm : nm.length ≤ 1000000000)  (c1 : w.cell? ⟨b,1,none⟩ = some (.string (B nm))) :
    Calls Tryz.prog 49 #[(.iface 157 (.pointer (some ⟨b,0,none⟩)))] w fun e w' => e = .returned (.string (B (nm))) ∧ w.grownBy w' none := by
  have qName := as_Name_Name b
  have sznm : (B nm).size ≤ 1000000000 := by rw [size_B]; exact hnm
  go_enter Tryz.func49,Tryz.ntmps49
  go_wp2
  go_ret
  exact ⟨rfl,World.grownBy.refl _ _⟩
theorem ptext_number (w : World) (b : Nat) (nm : List UInt8) (hnm : nm.length ≤ 1000000000)  (c1 : w.cell? ⟨b,1,none⟩ = some (.string (B nm))) :
    Calls Tryz.prog 49 #[(.iface 175 (.pointer (some ⟨b,0,none⟩)))] w fun e w' => e = .returned (.string (B (nm))) ∧ w.grownBy w' none := by
  have qName := as_Number_Name b
  have qNumber := as_Number_Number b
  have sznm : (B nm).size ≤ 1000000000 := by rw [size_B]; exact hnm
  go_enter Tryz.func49,Tryz.ntmps49
  go_wp2
  go_ret
  exact ⟨rfl,World.grownBy.refl _ _⟩
theorem ptext_fun (w : World) (b : Nat) (t0 b0 : Nat) (x0 : List UInt8) (nm : List UInt8) (hnm : nm.length ≤ 1000000000) (l0 : x0.length ≤ 1000000000)  (hb : b < w.heap.size) (c1 : w.cell? ⟨b,1,none⟩ = some (.string (B nm))) (c2 : w.cell? ⟨b,2,none⟩ = some (.iface t0 (.pointer (some ⟨b0,0,none⟩)))) (ih0 : TXP 49 w (.iface t0 (.pointer (some ⟨b0,0,none⟩))) x0) :
    Calls Tryz.prog 49 #[(.iface 178 (.pointer (some ⟨b,0,none⟩)))] w fun e w' => e = .returned (.string (B (tFun ++ nm ++ tArrow ++ x0))) ∧ w.grownBy w' none := by
  have qName := as_Fun_Name b
  have qNumber := as_Fun_Number b
  have qFun := as_Fun_Fun b
  have sznm : (B nm).size ≤ 1000000000 := by rw [size_B]; exact hnm
  have sz0 : (B x0).size ≤ 1000000000 := by rw [size_B]; exact l0
  have k1 : ¬ 9223372036854775807 < 4 + (B nm).size := by omega
  have k2 : ¬ 9223372036854775807 < 4 + (B nm).size + 4 := by omega
  have k3 : ¬ 9223372036854775807 < 4 + (B nm).size + 4 + (B x0).size := by omega
  have IH0 := hid ih0
  clear ih0
  go_enter Tryz.func49,Tryz.ntmps49
  go_wp2_with fail
  go_region_held3 (fun wx => wx.cell? ⟨b,1,none⟩ = some (.string (B nm)) ∧ wx.cell? ⟨b,2,none⟩ = some (.iface t0 (.pointer (some ⟨b0,0,none⟩)))) (first | assumption | exact ⟨by assumption,by assumption⟩ | go_keep) (first | (go_at_call_of 49 (Value.iface t0 (Value.pointer (some ⟨b0,0,none⟩))); refine (IH0.out _ ?_).mono ?_; exact (grown_drew (World.grownBy.refl _ _)); rintro e w1 ⟨rfl,g0⟩; have G0 : Hid (w.grownBy w1 none) := World.grownBy.trans (grown_drew (World.grownBy.refl _ _)) g0; have d0_1 := grown_cell c1 hb G0.out; have d0_2 := grown_cell c2 hb G0.out; clear g0))
  all_goals
    go_wp2
    go_ret
    refine ⟨?_,G0.out⟩
    show Ending.returned (.string (B tFun ++ B nm ++ B tArrow ++ B x0)) = _
    rw [append_B,append_B,append_B]
theorem ptext_if (w : World) (b : Nat) (t0 b0 : Nat) (x0 : List UInt8) (t1 b1 : Nat) (x1 : List UInt8) (t2 b2 : Nat) (x2 : List UInt8) (l0 : x0.length ≤ 1000000000) (l1 : x1.length ≤ 1000000000) (l2 : x2.length ≤ 1000000000)  (hb : b < w.heap.size) (c1 : w.cell? ⟨b,1,none⟩ = some (.iface t0 (.pointer (some ⟨b0,0,none⟩)))) (c2 : w.cell? ⟨b,2,none⟩ = some (.iface t1 (.pointer (some ⟨b1,0,none⟩)))) (c3 : w.cell? ⟨b,3,none⟩ = some (.iface t2 (.pointer (some ⟨b2,0,none⟩)))) (ih0 : TXP 49 w (.iface t0 (.pointer (some ⟨b0,0,none⟩))) x0) (ih1 : TXP 49 w (.iface t1 (.pointer (some ⟨b1,0,none⟩))) x1) (ih2 : TXP 49 w (.iface t2 (.pointer (some ⟨b2,0,none⟩))) x2) :
    Calls Tryz.prog 49 #[(.iface 181 (.pointer (some ⟨b,0,none⟩)))] w fun e w' => e = .returned (.string (B (tIf ++ x0 ++ tThen ++ x1 ++ tElse ++ x2))) ∧ w.grownBy w' none := by
  have qName := as_If_Name b
  have qNumber := as_If_Number b
  have qFun := as_If_Fun b
  have qIf := as_If_If b
  have sz0 : (B x0).size ≤ 1000000000 := by rw [size_B]; exact l0
  have sz1 : (B x1).size ≤ 1000000000 := by rw [size_B]; exact l1
  have sz2 : (B x2).size ≤ 1000000000 := by rw [size_B]; exact l2
  have k1 : ¬ 9223372036854775807 < 3 + (B x0).size := by omega
  have k2 : ¬ 9223372036854775807 < 3 + (B x0).size + 6 := by omega
  have k3 : ¬ 9223372036854775807 < 3 + (B x0).size + 6 + (B x1).size := by omega
  have k4 : ¬ 9223372036854775807 < 3 + (B x0).size + 6 + (B x1).size + 6 := by omega
  have k5 : ¬ 9223372036854775807 < 3 + (B x0).size + 6 + (B x1).size + 6 + (B x2).size := by omega
  have IH0 := hid ih0
  have IH1 := hid ih1
  have IH2 := hid ih2
  clear ih0 ih1 ih2
  go_enter Tryz.func49,Tryz.ntmps49
  go_wp2_with fail
  go_region_held3 (fun wx => wx.cell? ⟨b,1,none⟩ = some (.iface t0 (.pointer (some ⟨b0,0,none⟩))) ∧ wx.cell? ⟨b,2,none⟩ = some (.iface t1 (.pointer (some ⟨b1,0,none⟩))) ∧ wx.cell? ⟨b,3,none⟩ = some (.iface t2 (.pointer (some ⟨b2,0,none⟩)))) (first | assumption | exact ⟨by assumption,by assumption,by assumption⟩ | go_keep) (first | (go_at_call_of 49 (Value.iface t0 (Value.pointer (some ⟨b0,0,none⟩))); refine (IH0.out _ ?_).mono ?_; exact (grown_drew (World.grownBy.refl _ _)); rintro e w1 ⟨rfl,g0⟩; have G0 : Hid (w.grownBy w1 none) := World.grownBy.trans (grown_drew (World.grownBy.refl _ _)) g0; have d0_1 := grown_cell c1 hb G0.out; have d0_2 := grown_cell c2 hb G0.out; have d0_3 := grown_cell c3 hb G0.out; clear g0) | (go_at_call_of 49 (Value.iface t1 (Value.pointer (some ⟨b1,0,none⟩))); refine (IH1.out _ ?_).mono ?_; exact G0.out; rintro e w2 ⟨rfl,g1⟩; have G1 : Hid (w.grownBy w2 none) := World.grownBy.trans G0.out g1; have d1_1 := grown_cell c1 hb G1.out; have d1_2 := grown_cell c2 hb G1.out; have d1_3 := grown_cell c3 hb G1.out; clear g1) | (go_at_call_of 49 (Value.iface t2 (Value.pointer (some ⟨b2,0,none⟩))); refine (IH2.out _ ?_).mono ?_; exact G1.out; rintro e w3 ⟨rfl,g2⟩; have G2 : Hid (w.grownBy w3 none) := World.grownBy.trans G1.out g2; have d2_1 := grown_cell c1 hb G2.out; have d2_2 := grown_cell c2 hb G2.out; have d2_3 := grown_cell c3 hb G2.out; clear g2))
  all_goals
    go_wp2
    go_ret
    refine ⟨?_,G2.out⟩
    show Ending.returned (.string (B tIf ++ B x0 ++ B tThen ++ B x1 ++ B tElse ++ B x2)) = _
    rw [append_B,append_B,append_B,append_B,append_B]
theorem ptext_apply (w : World) (b : Nat) (t0 b0 : Nat) (x0 : List UInt8) (t1 b1 : Nat) (x1 : List UInt8) (l0 : x0.length ≤ 1000000000) (l1 : x1.length ≤ 1000000000)  (hb : b < w.heap.size) (c1 : w.cell? ⟨b,1,none⟩ = some (.iface t0 (.pointer (some ⟨b0,0,none⟩)))) (c2 : w.cell? ⟨b,2,none⟩ = some (.iface t1 (.pointer (some ⟨b1,0,none⟩)))) (ih0 : TXP 79 w (.iface t0 (.pointer (some ⟨b0,0,none⟩))) x0) (ih1 : TXP 80 w (.iface t1 (.pointer (some ⟨b1,0,none⟩))) x1) :
    Calls Tryz.prog 49 #[(.iface 195 (.pointer (some ⟨b,0,none⟩)))] w fun e w' => e = .returned (.string (B (x0 ++ tSp ++ x1))) ∧ w.grownBy w' none := by
  have qName := as_Apply_Name b
  have qNumber := as_Apply_Number b
  have qFun := as_Apply_Fun b
  have qIf := as_Apply_If b
  have qLet := as_Apply_Let b
  have qLetRec := as_Apply_LetRec b
  have qApply := as_Apply_Apply b
  have sz0 : (B x0).size ≤ 1000000000 := by rw [size_B]; exact l0
  have sz1 : (B x1).size ≤ 1000000000 := by rw [size_B]; exact l1
  have k1 : ¬ 9223372036854775807 < (B x0).size + 1 := by omega
  have k2 : ¬ 9223372036854775807 < (B x0).size + 1 + (B x1).size := by omega
  have IH0 := hid ih0
  have IH1 := hid ih1
  clear ih0 ih1
  go_enter Tryz.func49,Tryz.ntmps49
  go_wp2_with fail
  go_region_held3 (fun wx => wx.cell? ⟨b,1,none⟩ = some (.iface t0 (.pointer (some ⟨b0,0,none⟩))) ∧ wx.cell? ⟨b,2,none⟩ = some (.iface t1 (.pointer (some ⟨b1,0,none⟩)))) (first | assumption | exact ⟨by assumption,by assumption⟩ | go_keep) (first | (go_at_call_of 79 (Value.iface t0 (Value.pointer (some ⟨b0,0,none⟩))); refine (IH0.out _ ?_).mono ?_; exact (grown_drew (World.grownBy.refl _ _)); rintro e w1 ⟨rfl,g0⟩; have G0 : Hid (w.grownBy w1 none) := World.grownBy.trans (grown_drew (World.grownBy.refl _ _)) g0; have d0_1 := grown_cell c1 hb G0.out; have d0_2 := grown_cell c2 hb G0.out; clear g0) | (go_at_call_of 80 (Value.iface t1 (Value.pointer (some ⟨b1,0,none⟩))); refine (IH1.out _ ?_).mono ?_; exact G0.out; rintro e w2 ⟨rfl,g1⟩; have G1 : Hid (w.grownBy w2 none) := World.grownBy.trans G0.out g1; have d1_1 := grown_cell c1 hb G1.out; have d1_2 := grown_cell c2 hb G1.out; clear g1))
  all_goals
    go_wp2
    go_ret
    refine ⟨?_,G1.out⟩
    show Ending.returned (.string (B x0 ++ B tSp ++ B x1)) = _
    rw [append_B,append_B]
theorem ptext_pair (w : World) (b : Nat) (t0 b0 : Nat) (x0 : List UInt8) (t1 b1 : Nat) (x1 : List UInt8) (l0 : x0.length ≤ 1000000000) (l1 : x1.length ≤ 1000000000)  (hb : b < w.heap.size) (c1 : w.cell? ⟨b,1,none⟩ = some (.iface t0 (.pointer (some ⟨b0,0,none⟩)))) (c2 : w.cell? ⟨b,2,none⟩ = some (.iface t1 (.pointer (some ⟨b1,0,none⟩)))) (ih0 : TXP 49 w (.iface t0 (.pointer (some ⟨b0,0,none⟩))) x0) (ih1 : TXP 49 w (.iface t1 (.pointer (some ⟨b1,0,none⟩))) x1) :
    Calls Tryz.prog 49 #[(.iface 198 (.pointer (some ⟨b,0,none⟩)))] w fun e w' => e = .returned (.string (B (tOpen ++ x0 ++ tComma ++ x1 ++ tShut))) ∧ w.grownBy w' none := by
  have qName := as_Pair_Name b
  have qNumber := as_Pair_Number b
  have qFun := as_Pair_Fun b
  have qIf := as_Pair_If b
  have qLet := as_Pair_Let b
  have qLetRec := as_Pair_LetRec b
  have qApply := as_Pair_Apply b
  have qPair := as_Pair_Pair b
  have sz0 : (B x0).size ≤ 1000000000 := by rw [size_B]; exact l0
  have sz1 : (B x1).size ≤ 1000000000 := by rw [size_B]; exact l1
  have k1 : ¬ 9223372036854775807 < 1 + (B x0).size := by omega
  have k2 : ¬ 9223372036854775807 < 1 + (B x0).size + 2 := by omega
  have k3 : ¬ 9223372036854775807 < 1 + (B x0).size + 2 + (B x1).size := by omega
  have k4 : ¬ 9223372036854775807 < 1 + (B x0).size + 2 + (B x1).size + 1 := by omega
  have IH0 := hid ih0
  have IH1 := hid ih1
  clear ih0 ih1
  go_enter Tryz.func49,Tryz.ntmps49
  go_wp2_with fail
  go_region_held3 (fun wx => wx.cell? ⟨b,1,none⟩ = some (.iface t0 (.pointer (some ⟨b0,0,none⟩))) ∧ wx.cell? ⟨b,2,none⟩ = some (.iface t1 (.pointer (some ⟨b1,0,none⟩)))) (first | assumption | exact ⟨by assumption,by assumption⟩ | go_keep) (first | (go_at_call_of 49 (Value.iface t0 (Value.pointer (some ⟨b0,0,none⟩))); refine (IH0.out _ ?_).mono ?_; exact (grown_drew (World.grownBy.refl _ _)); rintro e w1 ⟨rfl,g0⟩; have G0 : Hid (w.grownBy w1 none) := World.grownBy.trans (grown_drew (World.grownBy.refl _ _)) g0; have d0_1 := grown_cell c1 hb G0.out; have d0_2 := grown_cell c2 hb G0.out; clear g0) | (go_at_call_of 49 (Value.iface t1 (Value.pointer (some ⟨b1,0,none⟩))); refine (IH1.out _ ?_).mono ?_; exact G0.out; rintro e w2 ⟨rfl,g1⟩; have G1 : Hid (w.grownBy w2 none) := World.grownBy.trans G0.out g1; have d1_1 := grown_cell c1 hb G1.out; have d1_2 := grown_cell c2 hb G1.out; clear g1))
  all_goals
    go_wp2
    go_ret
    refine ⟨?_,G1.out⟩
    show Ending.returned (.string (B tOpen ++ B x0 ++ B tComma ++ B x1 ++ B tShut)) = _
    rw [append_B,append_B,append_B,append_B]
theorem bindText_p (w : World) (nm x : List UInt8) (t b : Nat) (hnm : nm.length ≤ 1000000000) (hx : x.length ≤ 1000000000) (ih : TXP 49 w (.iface t (.pointer (some ⟨b,0,none⟩))) x) :
    Calls Tryz.prog 77 #[.agg #[.string (B nm),(.iface t (.pointer (some ⟨b,0,none⟩)))]] w fun e w' => e = .returned (.string (B (nm ++ tEq ++ x))) ∧ w.grownBy w' none := by
  have sznm : (B nm).size ≤ 1000000000 := by rw [size_B]; exact hnm
  have szx : (B x).size ≤ 1000000000 := by rw [size_B]; exact hx
  have k1 : ¬ 9223372036854775807 < (B nm).size + 3 := by omega
  have k2 : ¬ 9223372036854775807 < (B nm).size + 3 + (B x).size := by omega
  have IH := hid ih
  clear ih
  obtain ⟨w0,hw0⟩ : ∃ w0,w0 = w.alloc (.cells #[.string (B nm),(.iface t (.pointer (some ⟨b,0,none⟩)))] 187) := ⟨_,rfl⟩
  have G0 : Hid (w.grownBy w0 none) := by rw [hw0]; exact World.grownBy_alloc _ _ _
  have c0 : w0.cell? ⟨w.heap.size,0,none⟩ = some (.string (B nm)) := by rw [hw0]; simp [go_sem]
  have c1 : w0.cell? ⟨w.heap.size,1,none⟩ = some (.iface t (.pointer (some ⟨b,0,none⟩))) := by rw [hw0]; simp [go_sem]
  have hb : w.heap.size < w0.heap.size := by rw [hw0]; simp
  go_enter Tryz.func77,Tryz.ntmps77
  go_wp2_with fail
  rw [← hw0]
  clear hw0
  go_region_held3 (fun wx => wx.cell? ⟨w.heap.size,0,none⟩ = some (.string (B nm)) ∧ wx.cell? ⟨w.heap.size,1,none⟩ = some (.iface t (.pointer (some ⟨b,0,none⟩)))) (first | assumption | exact ⟨by assumption,by assumption⟩ | go_keep) ((go_at_call 49; refine (IH.out _ ?_).mono ?_; exact grown_drew G0.out; rintro e w1 ⟨rfl,g1⟩; have G1 : Hid (w0.grownBy w1 none) := World.grownBy.trans (grown_drew (World.grownBy.refl _ _)) g1; have d0 := grown_cell c0 hb G1.out; have d1 := grown_cell c1 hb G1.out; clear g1))
  all_goals
    go_wp2
    go_ret
    refine ⟨?_,G0.out.trans G1.out⟩
    show Ending.returned (.string (B nm ++ B tEq ++ B x)) = _
    rw [append_B,append_B]
theorem ptext_let (w : World) (b : Nat) (t0 b0 : Nat) (x0 : List UInt8) (t1 b1 : Nat) (x1 nm : List UInt8) (hnm : nm.length ≤ 1000000) (l0 : x0.length ≤ 1000000) (l1 : x1.length ≤ 1000000000) (hb : b < w.heap.size) (c1 : w.cell? ⟨b,1,none⟩ = some (.string (B nm))) (c2 : w.cell? ⟨b,2,none⟩ = some (.iface t0 (.pointer (some ⟨b0,0,none⟩)))) (c3 : w.cell? ⟨b,3,none⟩ = some (.iface t1 (.pointer (some ⟨b1,0,none⟩))))
    (ih0 : TXP 49 w (.iface t0 (.pointer (some ⟨b0,0,none⟩))) x0) (ih1 : TXP 49 w (.iface t1 (.pointer (some ⟨b1,0,none⟩))) x1) :
    Calls Tryz.prog 49 #[.iface 184 (.pointer (some ⟨b,0,none⟩))] w fun e w' => e = .returned (.string (B (tLet ++ (nm ++ tEq ++ x0) ++ tIn ++ x1))) ∧ w.grownBy w' none := by
  have qName := as_Let_Name b
  have qNumber := as_Let_Number b
  have qFun := as_Let_Fun b
  have qIf := as_Let_If b
  have qLet := as_Let_Let b
  obtain ⟨y,hy⟩ : ∃ y,y = nm ++ tEq ++ x0 := ⟨_,rfl⟩
  have hyl : y.length ≤ 1000000000 := by rw [hy]; simp [tEq]; omega
  have sz0 : (B y).size ≤ 1000000000 := by rw [size_B]; exact hyl
  have sz1 : (B x1).size ≤ 1000000000 := by rw [size_B]; exact l1
  have k1 : ¬ 9223372036854775807 < 4 + (B y).size := by omega
  have k2 : ¬ 9223372036854775807 < 4 + (B y).size + 4 := by omega
  have k3 : ¬ 9223372036854775807 < 4 + (B y).size + 4 + (B x1).size := by omega
  have IH0 : Hid (TXP 77 w (.agg #[.string (B nm),(.iface t0 (.pointer (some ⟨b0,0,none⟩)))]) y) := fun wx hg => by rw [hy]; exact bindText_p wx nm x0 t0 b0 (by omega) (by omega) (ih0.at hg)
  have IH1 := hid ih1
  rw [← hy]
  clear ih0 ih1 hy
  go_enter Tryz.func49,Tryz.ntmps49
  go_wp2_with fail
  go_region_held3 (fun wx => wx.cell? ⟨b,1,none⟩ = some (.string (B nm)) ∧ wx.cell? ⟨b,2,none⟩ = some (.iface t0 (.pointer (some ⟨b0,0,none⟩))) ∧ wx.cell? ⟨b,3,none⟩ = some (.iface t1 (.pointer (some ⟨b1,0,none⟩)))) (first | assumption | exact ⟨by assumption,by assumption,by assumption⟩ | go_keep) (first | (go_at_call 77; refine (IH0.out _ ?_).mono ?_; exact (grown_drew (World.grownBy.refl _ _)); rintro e w1 ⟨rfl,g0⟩; have G0 : Hid (w.grownBy w1 none) := World.grownBy.trans (grown_drew (World.grownBy.refl _ _)) g0; have d0_1 := grown_cell c1 hb G0.out; have d0_2 := grown_cell c2 hb G0.out; have d0_3 := grown_cell c3 hb G0.out; clear g0) | (go_at_call 49; refine (IH1.out _ ?_).mono ?_; exact G0.out; rintro e w2 ⟨rfl,g1⟩; have G1 : Hid (w.grownBy w2 none) := World.grownBy.trans G0.out g1; have d1_1 := grown_cell c1 hb G1.out; have d1_2 := grown_cell c2 hb G1.out; have d1_3 := grown_cell c3 hb G1.out; clear g1))
  all_goals
    go_wp2
    go_ret
    refine ⟨?_,G1.out⟩
    show Ending.returned (.string (B tLet ++ B y ++ B tIn ++ B x1)) = _
    rw [append_B,append_B,append_B]
theorem funText_name (w : World) (b : Nat) (x : List UInt8) (hx : x.length ≤ 1000000) (ih : TXP 49 w (.iface 157 (.pointer (some ⟨b,0,none⟩))) x) :
    Calls Tryz.prog 79 #[.iface 157 (.pointer (some ⟨b,0,none⟩))] w fun e w' => e = .returned (.string (B (inBr false x))) ∧ w.grownBy w' none := by
  have qFun := as_Name_Fun b
  have qIf := as_Name_If b
  have qLet := as_Name_Let b
  have qLetRec := as_Name_LetRec b
  have sz : (B x).size ≤ 1000000 := by rw [size_B]; exact hx
  have IH := hid (ih w (World.grownBy.refl _ _))
  clear ih
  go_enter Tryz.func79,Tryz.ntmps79
  go_wp2_with (go_at_call 49; refine IH.out.mono ?_; rintro e w1 ⟨rfl,g1⟩; have G1 := hid g1; clear g1)
  go_ret
  refine ⟨?_,G1.out⟩
  rfl
theorem funText_number (w : World) (b : Nat) (x : List UInt8) (hx : x.length ≤ 1000000) (ih : TXP 49 w (.iface 175 (.pointer (some ⟨b,0,none⟩))) x) :
    Calls Tryz.prog 79 #[.iface 175 (.pointer (some ⟨b,0,none⟩))] w fun e w' => e = .returned (.string (B (inBr false x))) ∧ w.grownBy w' none := by
  have qFun := as_Number_Fun b
  have qIf := as_Number_If b
  have qLet := as_Number_Let b
  have qLetRec := as_Number_LetRec b
  have sz : (B x).size ≤ 1000000 := by rw [size_B]; exact hx
  have IH := hid (ih w (World.grownBy.refl _ _))
  clear ih
  go_enter Tryz.func79,Tryz.ntmps79
  go_wp2_with (go_at_call 49; refine IH.out.mono ?_; rintro e w1 ⟨rfl,g1⟩; have G1 := hid g1; clear g1)
  go_ret
  refine ⟨?_,G1.out⟩
  rfl
theorem funText_fun (w : World) (b : Nat) (x : List UInt8) (hx : x.length ≤ 1000000) (ih : TXP 49 w (.iface 178 (.pointer (some ⟨b,0,none⟩))) x) :
    Calls Tryz.prog 79 #[.iface 178 (.pointer (some ⟨b,0,none⟩))] w fun e w' => e = .returned (.string (B (inBr true x))) ∧ w.grownBy w' none := by
  have qFun := as_Fun_Fun b
  have qIf := as_Fun_If b
  have qLet := as_Fun_Let b
  have qLetRec := as_Fun_LetRec b
  have sz : (B x).size ≤ 1000000 := by rw [size_B]; exact hx
  have IH := hid (ih w (World.grownBy.refl _ _))
  clear ih
  have k1 : ¬ 9223372036854775807 < 1 + (B x).size := by omega
  have k2 : ¬ 9223372036854775807 < 1 + (B x).size + 1 := by omega
  go_enter Tryz.func79,Tryz.ntmps79
  go_wp2_with (go_at_call 49; refine IH.out.mono ?_; rintro e w1 ⟨rfl,g1⟩; have G1 := hid g1; clear g1)
  go_ret
  refine ⟨?_,G1.out⟩
  show Ending.returned (.string (B tOpen ++ B x ++ B tShut)) = _
  rw [append_B,append_B]
  rfl
theorem funText_if (w : World) (b : Nat) (x : List UInt8) (hx : x.length ≤ 1000000) (ih : TXP 49 w (.iface 181 (.pointer (some ⟨b,0,none⟩))) x) :
    Calls Tryz.prog 79 #[.iface 181 (.pointer (some ⟨b,0,none⟩))] w fun e w' => e = .returned (.string (B (inBr true x))) ∧ w.grownBy w' none := by
  have qFun := as_If_Fun b
  have qIf := as_If_If b
  have qLet := as_If_Let b
  have qLetRec := as_If_LetRec b
  have sz : (B x).size ≤ 1000000 := by rw [size_B]; exact hx
  have IH := hid (ih w (World.grownBy.refl _ _))
  clear ih
  have k1 : ¬ 9223372036854775807 < 1 + (B x).size := by omega
  have k2 : ¬ 9223372036854775807 < 1 + (B x).size + 1 := by omega
  go_enter Tryz.func79,Tryz.ntmps79
  go_wp2_with (go_at_call 49; refine IH.out.mono ?_; rintro e w1 ⟨rfl,g1⟩; have G1 := hid g1; clear g1)
  go_ret
  refine ⟨?_,G1.out⟩
  show Ending.returned (.string (B tOpen ++ B x ++ B tShut)) = _
  rw [append_B,append_B]
  rfl
theorem funText_let (w : World) (b : Nat) (x : List UInt8) (hx : x.length ≤ 1000000) (ih : TXP 49 w (.iface 184 (.pointer (some ⟨b,0,none⟩))) x) :
    Calls Tryz.prog 79 #[.iface 184 (.pointer (some ⟨b,0,none⟩))] w fun e w' => e = .returned (.string (B (inBr true x))) ∧ w.grownBy w' none := by
  have qFun := as_Let_Fun b
  have qIf := as_Let_If b
  have qLet := as_Let_Let b
  have qLetRec := as_Let_LetRec b
  have sz : (B x).size ≤ 1000000 := by rw [size_B]; exact hx
  have IH := hid (ih w (World.grownBy.refl _ _))
  clear ih
  have k1 : ¬ 9223372036854775807 < 1 + (B x).size := by omega
  have k2 : ¬ 9223372036854775807 < 1 + (B x).size + 1 := by omega
  go_enter Tryz.func79,Tryz.ntmps79
  go_wp2_with (go_at_call 49; refine IH.out.mono ?_; rintro e w1 ⟨rfl,g1⟩; have G1 := hid g1; clear g1)
  go_ret
  refine ⟨?_,G1.out⟩
  show Ending.returned (.string (B tOpen ++ B x ++ B tShut)) = _
  rw [append_B,append_B]
  rfl
theorem funText_letrec (w : World) (b : Nat) (x : List UInt8) (hx : x.length ≤ 1000000) (ih : TXP 49 w (.iface 190 (.pointer (some ⟨b,0,none⟩))) x) :
    Calls Tryz.prog 79 #[.iface 190 (.pointer (some ⟨b,0,none⟩))] w fun e w' => e = .returned (.string (B (inBr true x))) ∧ w.grownBy w' none := by
  have qFun := as_LetRec_Fun b
  have qIf := as_LetRec_If b
  have qLet := as_LetRec_Let b
  have qLetRec := as_LetRec_LetRec b
  have sz : (B x).size ≤ 1000000 := by rw [size_B]; exact hx
  have IH := hid (ih w (World.grownBy.refl _ _))
  clear ih
  have k1 : ¬ 9223372036854775807 < 1 + (B x).size := by omega
  have k2 : ¬ 9223372036854775807 < 1 + (B x).size + 1 := by omega
  go_enter Tryz.func79,Tryz.ntmps79
  go_wp2_with (go_at_call 49; refine IH.out.mono ?_; rintro e w1 ⟨rfl,g1⟩; have G1 := hid g1; clear g1)
  go_ret
  refine ⟨?_,G1.out⟩
  show Ending.returned (.string (B tOpen ++ B x ++ B tShut)) = _
  rw [append_B,append_B]
  rfl
theorem funText_apply (w : World) (b : Nat) (x : List UInt8) (hx : x.length ≤ 1000000) (ih : TXP 49 w (.iface 195 (.pointer (some ⟨b,0,none⟩))) x) :
    Calls Tryz.prog 79 #[.iface 195 (.pointer (some ⟨b,0,none⟩))] w fun e w' => e = .returned (.string (B (inBr false x))) ∧ w.grownBy w' none := by
  have qFun := as_Apply_Fun b
  have qIf := as_Apply_If b
  have qLet := as_Apply_Let b
  have qLetRec := as_Apply_LetRec b
  have sz : (B x).size ≤ 1000000 := by rw [size_B]; exact hx
  have IH := hid (ih w (World.grownBy.refl _ _))
  clear ih
  go_enter Tryz.func79,Tryz.ntmps79
  go_wp2_with (go_at_call 49; refine IH.out.mono ?_; rintro e w1 ⟨rfl,g1⟩; have G1 := hid g1; clear g1)
  go_ret
  refine ⟨?_,G1.out⟩
  rfl
theorem funText_pair (w : World) (b : Nat) (x : List UInt8) (hx : x.length ≤ 1000000) (ih : TXP 49 w (.iface 198 (.pointer (some ⟨b,0,none⟩))) x) :
    Calls Tryz.prog 79 #[.iface 198 (.pointer (some ⟨b,0,none⟩))] w fun e w' => e = .returned (.string (B (inBr false x))) ∧ w.grownBy w' none := by
  have qFun := as_Pair_Fun b
  have qIf := as_Pair_If b
  have qLet := as_Pair_Let b
  have qLetRec := as_Pair_LetRec b
  have sz : (B x).size ≤ 1000000 := by rw [size_B]; exact hx
  have IH := hid (ih w (World.grownBy.refl _ _))
  clear ih
  go_enter Tryz.func79,Tryz.ntmps79
  go_wp2_with (go_at_call 49; refine IH.out.mono ?_; rintro e w1 ⟨rfl,g1⟩; have G1 := hid g1; clear g1)
  go_ret
  refine ⟨?_,G1.out⟩
  rfl
theorem argText_name (w : World) (b : Nat) (x : List UInt8) (hx : x.length ≤ 1000000) (ih : TXP 49 w (.iface 157 (.pointer (some ⟨b,0,none⟩))) x) :
    Calls Tryz.prog 80 #[.iface 157 (.pointer (some ⟨b,0,none⟩))] w fun e w' => e = .returned (.string (B (inBr false x))) ∧ w.grownBy w' none := by
  have qName := as_Name_Name b
  have qNumber := as_Name_Number b
  have qPair := as_Name_Pair b
  have sz : (B x).size ≤ 1000000 := by rw [size_B]; exact hx
  have IH := hid (ih w (World.grownBy.refl _ _))
  clear ih
  go_enter Tryz.func80,Tryz.ntmps80
  go_wp2_with (go_at_call 49; refine IH.out.mono ?_; rintro e w1 ⟨rfl,g1⟩; have G1 := hid g1; clear g1)
  go_ret
  refine ⟨?_,G1.out⟩
  rfl
theorem argText_number (w : World) (b : Nat) (x : List UInt8) (hx : x.length ≤ 1000000) (ih : TXP 49 w (.iface 175 (.pointer (some ⟨b,0,none⟩))) x) :
    Calls Tryz.prog 80 #[.iface 175 (.pointer (some ⟨b,0,none⟩))] w fun e w' => e = .returned (.string (B (inBr false x))) ∧ w.grownBy w' none := by
  have qName := as_Number_Name b
  have qNumber := as_Number_Number b
  have qPair := as_Number_Pair b
  have sz : (B x).size ≤ 1000000 := by rw [size_B]; exact hx
  have IH := hid (ih w (World.grownBy.refl _ _))
  clear ih
  go_enter Tryz.func80,Tryz.ntmps80
  go_wp2_with (go_at_call 49; refine IH.out.mono ?_; rintro e w1 ⟨rfl,g1⟩; have G1 := hid g1; clear g1)
  go_ret
  refine ⟨?_,G1.out⟩
  rfl
theorem argText_fun (w : World) (b : Nat) (x : List UInt8) (hx : x.length ≤ 1000000) (ih : TXP 49 w (.iface 178 (.pointer (some ⟨b,0,none⟩))) x) :
    Calls Tryz.prog 80 #[.iface 178 (.pointer (some ⟨b,0,none⟩))] w fun e w' => e = .returned (.string (B (inBr true x))) ∧ w.grownBy w' none := by
  have qName := as_Fun_Name b
  have qNumber := as_Fun_Number b
  have qPair := as_Fun_Pair b
  have sz : (B x).size ≤ 1000000 := by rw [size_B]; exact hx
  have IH := hid (ih w (World.grownBy.refl _ _))
  clear ih
  have k1 : ¬ 9223372036854775807 < 1 + (B x).size := by omega
  have k2 : ¬ 9223372036854775807 < 1 + (B x).size + 1 := by omega
  go_enter Tryz.func80,Tryz.ntmps80
  go_wp2_with (go_at_call 49; refine IH.out.mono ?_; rintro e w1 ⟨rfl,g1⟩; have G1 := hid g1; clear g1)
  go_ret
  refine ⟨?_,G1.out⟩
  show Ending.returned (.string (B tOpen ++ B x ++ B tShut)) = _
  rw [append_B,append_B]
  rfl
theorem argText_if (w : World) (b : Nat) (x : List UInt8) (hx : x.length ≤ 1000000) (ih : TXP 49 w (.iface 181 (.pointer (some ⟨b,0,none⟩))) x) :
    Calls Tryz.prog 80 #[.iface 181 (.pointer (some ⟨b,0,none⟩))] w fun e w' => e = .returned (.string (B (inBr true x))) ∧ w.grownBy w' none := by
  have qName := as_If_Name b
  have qNumber := as_If_Number b
  have qPair := as_If_Pair b
  have sz : (B x).size ≤ 1000000 := by rw [size_B]; exact hx
  have IH := hid (ih w (World.grownBy.refl _ _))
  clear ih
  have k1 : ¬ 9223372036854775807 < 1 + (B x).size := by omega
  have k2 : ¬ 9223372036854775807 < 1 + (B x).size + 1 := by omega
  go_enter Tryz.func80,Tryz.ntmps80
  go_wp2_with (go_at_call 49; refine IH.out.mono ?_; rintro e w1 ⟨rfl,g1⟩; have G1 := hid g1; clear g1)
  go_ret
  refine ⟨?_,G1.out⟩
  show Ending.returned (.string (B tOpen ++ B x ++ B tShut)) = _
  rw [append_B,append_B]
  rfl
theorem argText_let (w : World) (b : Nat) (x : List UInt8) (hx : x.length ≤ 1000000) (ih : TXP 49 w (.iface 184 (.pointer (some ⟨b,0,none⟩))) x) :
    Calls Tryz.prog 80 #[.iface 184 (.pointer (some ⟨b,0,none⟩))] w fun e w' => e = .returned (.string (B (inBr true x))) ∧ w.grownBy w' none := by
  have qName := as_Let_Name b
  have qNumber := as_Let_Number b
  have qPair := as_Let_Pair b
  have sz : (B x).size ≤ 1000000 := by rw [size_B]; exact hx
  have IH := hid (ih w (World.grownBy.refl _ _))
  clear ih
  have k1 : ¬ 9223372036854775807 < 1 + (B x).size := by omega
  have k2 : ¬ 9223372036854775807 < 1 + (B x).size + 1 := by omega
  go_enter Tryz.func80,Tryz.ntmps80
  go_wp2_with (go_at_call 49; refine IH.out.mono ?_; rintro e w1 ⟨rfl,g1⟩; have G1 := hid g1; clear g1)
  go_ret
  refine ⟨?_,G1.out⟩
  show Ending.returned (.string (B tOpen ++ B x ++ B tShut)) = _
  rw [append_B,append_B]
  rfl
theorem argText_letrec (w : World) (b : Nat) (x : List UInt8) (hx : x.length ≤ 1000000) (ih : TXP 49 w (.iface 190 (.pointer (some ⟨b,0,none⟩))) x) :
    Calls Tryz.prog 80 #[.iface 190 (.pointer (some ⟨b,0,none⟩))] w fun e w' => e = .returned (.string (B (inBr true x))) ∧ w.grownBy w' none := by
  have qName := as_LetRec_Name b
  have qNumber := as_LetRec_Number b
  have qPair := as_LetRec_Pair b
  have sz : (B x).size ≤ 1000000 := by rw [size_B]; exact hx
  have IH := hid (ih w (World.grownBy.refl _ _))
  clear ih
  have k1 : ¬ 9223372036854775807 < 1 + (B x).size := by omega
  have k2 : ¬ 9223372036854775807 < 1 + (B x).size + 1 := by omega
  go_enter Tryz.func80,Tryz.ntmps80
  go_wp2_with (go_at_call 49; refine IH.out.mono ?_; rintro e w1 ⟨rfl,g1⟩; have G1 := hid g1; clear g1)
  go_ret
  refine ⟨?_,G1.out⟩
  show Ending.returned (.string (B tOpen ++ B x ++ B tShut)) = _
  rw [append_B,append_B]
  rfl
theorem argText_apply (w : World) (b : Nat) (x : List UInt8) (hx : x.length ≤ 1000000) (ih : TXP 49 w (.iface 195 (.pointer (some ⟨b,0,none⟩))) x) :
    Calls Tryz.prog 80 #[.iface 195 (.pointer (some ⟨b,0,none⟩))] w fun e w' => e = .returned (.string (B (inBr true x))) ∧ w.grownBy w' none := by
  have qName := as_Apply_Name b
  have qNumber := as_Apply_Number b
  have qPair := as_Apply_Pair b
  have sz : (B x).size ≤ 1000000 := by rw [size_B]; exact hx
  have IH := hid (ih w (World.grownBy.refl _ _))
  clear ih
  have k1 : ¬ 9223372036854775807 < 1 + (B x).size := by omega
  have k2 : ¬ 9223372036854775807 < 1 + (B x).size + 1 := by omega
  go_enter Tryz.func80,Tryz.ntmps80
  go_wp2_with (go_at_call 49; refine IH.out.mono ?_; rintro e w1 ⟨rfl,g1⟩; have G1 := hid g1; clear g1)
  go_ret
  refine ⟨?_,G1.out⟩
  show Ending.returned (.string (B tOpen ++ B x ++ B tShut)) = _
  rw [append_B,append_B]
  rfl
theorem argText_pair (w : World) (b : Nat) (x : List UInt8) (hx : x.length ≤ 1000000) (ih : TXP 49 w (.iface 198 (.pointer (some ⟨b,0,none⟩))) x) :
    Calls Tryz.prog 80 #[.iface 198 (.pointer (some ⟨b,0,none⟩))] w fun e w' => e = .returned (.string (B (inBr false x))) ∧ w.grownBy w' none := by
  have qName := as_Pair_Name b
  have qNumber := as_Pair_Number b
  have qPair := as_Pair_Pair b
  have sz : (B x).size ≤ 1000000 := by rw [size_B]; exact hx
  have IH := hid (ih w (World.grownBy.refl _ _))
  clear ih
  go_enter Tryz.func80,Tryz.ntmps80
  go_wp2_with (go_at_call 49; refine IH.out.mono ?_; rintro e w1 ⟨rfl,g1⟩; have G1 := hid g1; clear g1)
  go_ret
  refine ⟨?_,G1.out⟩
  rfl
def bindsOf (ns xs : List (List UInt8)) : List (List UInt8) := List.zipWith (fun n x => n ++ tEq ++ x) ns xs
theorem bindsOf_len {ns xs : List (List UInt8)} (h : xs.length = ns.length) : (bindsOf ns xs).length = ns.length := by simp [bindsOf,h]
theorem bindsOf_get {ns xs : List (List UInt8)} {j : Nat} {n x : List UInt8} (h1 : ns[j]? = some n) (h2 : xs[j]? = some x) : (bindsOf ns xs)[j]? = some (n ++ tEq ++ x) := by
  simp [bindsOf,List.getElem?_zipWith,h1,h2]
theorem strs_step {ys : List (List UInt8)} {j : Nat} {y : List UInt8} (h : ys[j]? = some y) : strs (ys.take (j + 1)) = strs (ys.take j) ++ [.string (B y)] := by
  rw [List.take_add_one,h]
  simp [strs]
theorem own_strs {w : World} {base n : Nat} {v : Value} {ys : List (List UInt8)} (h : w.ownsRow base 9 1 v n (strs ys)) (h0 : 0 < n) : ∃ g cap,v = .slice (some ⟨g,0,none⟩) n cap ∧ g < w.heap.size ∧ n ≤ cap ∧ ∀ (j : Nat) (x : ByteArray),(ys.map B)[j]? = some x → w.cell? ⟨g,0 + j,none⟩ = some (.string x) := by
  obtain ⟨h1,h2⟩ := h
  rcases h2 with ⟨_,h3⟩ | ⟨g,cap,cur,e1,e2,e3,e4,e5,e6,e7⟩
  · omega
  · refine ⟨g,cap,e1,lt_of_block e3,e4,fun j x hx => ?_⟩
    have hx2 : (strs ys)[j]? = some (.string x) := by
      simp only [List.getElem?_map,Option.map_eq_some_iff] at hx
      obtain ⟨y,hy,rfl⟩ := hx
      simp [strs,hy]
    rw [← e7,List.getElem?_take] at hx2
    split at hx2
    · simp only [World.cell?,e3,Nat.zero_add]
      simpa using hx2
    · cases hx2
theorem B_back (ys : List (List UInt8)) : (ys.map B).map (fun x => x.data.toList) = ys := by
  rw [List.map_map]
  conv => rhs; rw [← List.map_id ys]
  apply List.map_congr_left
  intro a _
  simp [B]
theorem groupText_p (w : World) (g cap : Nat) (ns : List (List UInt8)) (us : List Value) (xs : List (List UInt8)) (hn : ns.length ≤ 1000000) (h0 : 0 < ns.length) (hxl : xs.length = ns.length) (hga : GAt w g ns us) (hax : AllX us)
    (hns : ∀ n,n ∈ ns → n.length ≤ 1000000) (hxs : ∀ x,x ∈ xs → x.length ≤ 1000000) (hj : (Lib.join (bindsOf ns xs) tAnd).length ≤ 1000000000) (ih : ∀ (j : Nat) (u : Value) (x : List UInt8),us[j]? = some u → xs[j]? = some x → TXP 49 w u x) :
    Calls Tryz.prog 78 #[.slice (some ⟨g,0,none⟩) ns.length cap] w fun e w' => e = .returned (.string (B (Lib.join (bindsOf ns xs) tAnd))) ∧ w.grownBy w' none := by
  have hul := hga.1
  obtain ⟨ys,hys⟩ : ∃ ys,ys = bindsOf ns xs := ⟨_,rfl⟩
  have hyl : ys.length = ns.length := by rw [hys]; exact bindsOf_len hxl
  rw [← hys] at hj ⊢
  have HYS := hid hys
  have GA := hid hga
  have IH := hid ih
  clear hga ih hys
  obtain ⟨i0,hi,hz0,hz1,hz2⟩ := info_parts info_str
  go_enter Tryz.func78,Tryz.ntmps78
  go_wp2_with fail
  go_loopg [3,8] (ns.length + 1) (fun q bv i wi => ∃ j : Nat,j ≤ ns.length ∧ i = .int .i64 j ∧ q = ns.length - j + 1 ∧ Hid (wi.ownsRow w.heap.size 9 1 bv j (strs (ys.take j))) ∧ Hid (w.grownBy wi none))
  case atStart => exact ⟨0,by omega,rfl,by omega,World.ownsRow_nil _ _ _ _,World.grownBy.refl _ _⟩
  case round =>
    obtain ⟨j,hj1,rfl,hq,OW,GR⟩ := hrel
    rename World => w2
    have hs2 : w.heap.size ≤ w2.heap.size := GR.out.size
    by_cases hlt : j < ns.length
    · obtain ⟨nm,hnm⟩ : ∃ nm,ns[j]? = some nm := ⟨ns[j],List.getElem?_eq_getElem _⟩
      obtain ⟨x,hx⟩ : ∃ x,xs[j]? = some x := ⟨xs[j]'(by omega),List.getElem?_eq_getElem _⟩
      obtain ⟨u,hu⟩ : ∃ u,us[j]? = some u := ⟨us[j]'(by omega),List.getElem?_eq_getElem _⟩
      obtain ⟨c0,c1,_⟩ := (GA.out.grown GR.out).2.2 j nm u hnm hu
      obtain ⟨t6,b6,rfl⟩ := hax u (List.mem_of_getElem? hu)
      have hj2 : (j : Int) < (ns.length : Int) := by omega
      have hnml := hns nm (List.mem_of_getElem? hnm)
      have hxll := hxs x (List.mem_of_getElem? hx)
      have BT := hid (bindText_p (w2.alloc (.cells #[.string (B nm),(.iface t6 (.pointer (some ⟨b6,0,none⟩)))] 187)) nm x t6 b6 (by omega) (by omega) ((IH.out j _ x hu hx).at (GR.out.trans (World.grownBy_alloc _ _ _))))
      have HY := hid (show ys[j]? = some (nm ++ tEq ++ x) by rw [HYS.out]; exact bindsOf_get hnm hx)
      obtain ⟨yy,hyy⟩ : ∃ yy,yy = nm ++ tEq ++ x := ⟨_,rfl⟩
      rw [← hyy] at BT HY
      clear hx hu hnm hyy
      go_wp2_with fail
      refine BT.out.mono ?_
      rintro e w3 ⟨rfl,g3⟩
      have own3 := own_grown (OW.out.alloc _) g3
      have GR3 := hid ((GR.out.trans (World.grownBy_alloc _ _ _)).trans g3)
      have hs3 : w.heap.size ≤ w3.heap.size := GR3.out.size
      clear g3 c0 c1
      go_wp2_with (at_builtin; refine wpList_append_lies _ rfl (.tmp 12) (.tmp 15) 26 rfl w.heap.size 9 i0 (.string (B [])) 1 16 Tryz.underlying26 hi hz0 hz1 hz2 rfl (by decide) _ _ _ rfl (own3.alloc _) ⟨w3.heap.size,0,none⟩ 1 1 [.string (B yy)] rfl rfl ?d1 ?d2 (by decide) ?d3 ?d4 ?d5 (w3.heap.size + 1) ?d6 ?_)
      case d1 => exact one_new _ _ _
      case d2 => exact one_str _
      case d3 => unfold maxLen; omega
      case d4 => omega
      case d5 => simp; omega
      case d6 => simp
      intro g7 cap7 w7 hown7 hgrow7 _ _
      have ON := hid hown7
      have GN := hid (grown_own (GR3.out.trans (World.grownBy_alloc _ _ _)) hgrow7 (fun k e => (own_lt own3 e).1))
      clear hown7 hgrow7 own3
      go_wp2_with fail
      go_roundg (ns.length - (j + 1) + 1)
      case measure => omega
      case rel =>
        refine ⟨j + 1,by omega,by go_num,rfl,?_,GN⟩
        rw [strs_step HY.out]
        exact ON
    · have hj3 : j = ns.length := by omega
      subst hj3
      have own6 := OW.out
      rw [List.take_of_length_le (by omega)] at own6
      obtain ⟨g6,cap6,rfl,hg6,hcap6,hrow6⟩ := own_strs own6 h0
      have hml : (ys.map B).length = ns.length := by simp [hyl]
      have JN := Tryz.strings_Join g6 0 cap6 (ys.map B) (B tAnd) w2 hrow6 hg6 (by omega) (by omega) (by rw [B_back]; simp [B]; omega)
      rw [hml,B_back] at JN
      have JH := hid JN
      clear JN hrow6 own6
      go_wp2_with fail
      refine JH.out.mono ?_
      rintro e w8 ⟨rfl,g8⟩
      have G8 := hid (GR.out.trans (show w2.grownBy w8 none from ⟨g8.os,g8.tape,g8.output,g8.size,fun k hk _ => g8.block k hk⟩))
      clear g8
      go_wp2
      go_ret
      refine ⟨?_,G8.out⟩
      simp [B]
theorem ptext_rec (w : World) (b : Nat) (gv : Value) (y : List UInt8) (t1 b1 : Nat) (x1 : List UInt8) (g n cap : Nat) (hgv : gv = .slice (some ⟨g,0,none⟩) n cap) (l0 : y.length ≤ 1000000000) (l1 : x1.length ≤ 1000000000) (hb : b < w.heap.size) (c1 : w.cell? ⟨b,1,none⟩ = some gv) (c2 : w.cell? ⟨b,2,none⟩ = some (.iface t1 (.pointer (some ⟨b1,0,none⟩))))
    (ih0 : TXP 78 w gv y) (ih1 : TXP 49 w (.iface t1 (.pointer (some ⟨b1,0,none⟩))) x1) :
    Calls Tryz.prog 49 #[.iface 190 (.pointer (some ⟨b,0,none⟩))] w fun e w' => e = .returned (.string (B ((tLet ++ tRec) ++ y ++ tIn ++ x1))) ∧ w.grownBy w' none := by
  subst hgv
  have qName := as_LetRec_Name b
  have qNumber := as_LetRec_Number b
  have qFun := as_LetRec_Fun b
  have qIf := as_LetRec_If b
  have qLet := as_LetRec_Let b
  have qRec := as_LetRec_LetRec b
  have sz0 : (B y).size ≤ 1000000000 := by rw [size_B]; exact l0
  have sz1 : (B x1).size ≤ 1000000000 := by rw [size_B]; exact l1
  have k1 : ¬ 9223372036854775807 < 8 + (B y).size := by omega
  have k2 : ¬ 9223372036854775807 < 8 + (B y).size + 4 := by omega
  have k3 : ¬ 9223372036854775807 < 8 + (B y).size + 4 + (B x1).size := by omega
  have IH0 := hid ih0
  have IH1 := hid ih1
  clear ih0 ih1
  go_enter Tryz.func49,Tryz.ntmps49
  go_wp2_with fail
  go_region_held3 (fun wx => wx.cell? ⟨b,1,none⟩ = some (.slice (some ⟨g,0,none⟩) n cap) ∧ wx.cell? ⟨b,2,none⟩ = some (.iface t1 (.pointer (some ⟨b1,0,none⟩)))) (first | assumption | exact ⟨by assumption,by assumption⟩ | go_keep) (first | (go_at_call 78; refine (IH0.out _ ?_).mono ?_; exact (grown_drew (World.grownBy.refl _ _)); rintro e w1 ⟨rfl,g0⟩; have G0 : Hid (w.grownBy w1 none) := World.grownBy.trans (grown_drew (World.grownBy.refl _ _)) g0; have d0_1 := grown_cell c1 hb G0.out; have d0_2 := grown_cell c2 hb G0.out; clear g0) | (go_at_call 49; refine (IH1.out _ ?_).mono ?_; exact G0.out; rintro e w2 ⟨rfl,g1⟩; have G1 : Hid (w.grownBy w2 none) := World.grownBy.trans G0.out g1; have d1_1 := grown_cell c1 hb G1.out; have d1_2 := grown_cell c2 hb G1.out; clear g1))
  all_goals
    go_wp2
    go_ret
    refine ⟨?_,G1.out⟩
    show Ending.returned (.string (B (tLet ++ tRec) ++ B y ++ B tIn ++ B x1)) = _
    rw [append_B,append_B,append_B]
theorem joinTail_snoc (sep : List UInt8) (r : List (List UInt8)) (y : List UInt8) : Lib.joinTail sep (r ++ [y]) = Lib.joinTail sep r ++ (sep ++ y) := by
  simp [Lib.joinTail]
theorem bindTo_join (nm ts : Nat → List UInt8) : ∀ N,0 < N → Lib.join ((List.range N).map fun j => nm j ++ tEq ++ ts j) tAnd = bindTo nm ts N
  | 0,h => by omega
  | 1,_ => by simp [bindTo,Lib.join_one]
  | N + 2,_ => by
    have ih := bindTo_join nm ts (N + 1) (by omega)
    rw [List.range_succ,List.map_append,List.map_singleton,bindTo,if_pos (by omega),← ih]
    generalize hl : (List.range (N + 1)).map (fun j => nm j ++ tEq ++ ts j) = l
    cases l with
    | nil => simp at hl
    | cons a r =>
      rw [List.cons_append,Lib.join_cons,Lib.join_cons,joinTail_snoc]
      simp only [List.append_assoc]
theorem bindsOf_range (ns xs : List (List UInt8)) (h : xs.length = ns.length) : bindsOf ns xs = (List.range ns.length).map fun j => nth ns j ++ tEq ++ nth xs j := by
  apply List.ext_getElem?
  intro j
  rcases Nat.lt_or_ge j ns.length with hj | hj
  · rw [bindsOf_get (List.getElem?_eq_getElem hj) (List.getElem?_eq_getElem (by omega))]
    simp [nth,hj,h]
  · rw [List.getElem?_eq_none (by rw [bindsOf_len h]; exact hj),List.getElem?_eq_none (by simp; exact hj)]
theorem funTXP {m : Nat} {H : Nat → Option Obj} {u : Value} {y : Ex} {w : World} {t : List UInt8} (h : PRep m H u y) (ht : t.length ≤ 1000000) (ih : TXP 49 w u t) : TXP 79 w u (inBr (brF y.op) t) := fun wx hg => by
  cases m with
  | zero => exact absurd h id
  | succ m =>
    obtain ⟨b,vs,rfl,hn,_⟩ := h
    have i2 := ih.at hg
    rcases hn with ⟨h0,_⟩ | ⟨h0,_⟩ | ⟨h0,_⟩ | ⟨h0,_⟩ | ⟨h0,_⟩ | ⟨h0,_⟩ | ⟨h0,_⟩ | ⟨h0,_⟩ <;> rw [h0] at i2 ⊢
    · exact funText_name wx b t ht i2
    · exact funText_number wx b t ht i2
    · exact funText_fun wx b t ht i2
    · exact funText_if wx b t ht i2
    · exact funText_let wx b t ht i2
    · exact funText_letrec wx b t ht i2
    · exact funText_apply wx b t ht i2
    · exact funText_pair wx b t ht i2
theorem argTXP {m : Nat} {H : Nat → Option Obj} {u : Value} {y : Ex} {w : World} {t : List UInt8} (h : PRep m H u y) (ht : t.length ≤ 1000000) (ih : TXP 49 w u t) : TXP 80 w u (inBr (brA y.op) t) := fun wx hg => by
  cases m with
  | zero => exact absurd h id
  | succ m =>
    obtain ⟨b,vs,rfl,hn,_⟩ := h
    have i2 := ih.at hg
    rcases hn with ⟨h0,_⟩ | ⟨h0,_⟩ | ⟨h0,_⟩ | ⟨h0,_⟩ | ⟨h0,_⟩ | ⟨h0,_⟩ | ⟨h0,_⟩ | ⟨h0,_⟩ <;> rw [h0] at i2 ⊢
    · exact argText_name wx b t ht i2
    · exact argText_number wx b t ht i2
    · exact argText_fun wx b t ht i2
    · exact argText_if wx b t ht i2
    · exact argText_let wx b t ht i2
    · exact argText_letrec wx b t ht i2
    · exact argText_apply wx b t ht i2
    · exact argText_pair wx b t ht i2
theorem PRep.valT {m : Nat} {H : Nat → Option Obj} {u : Value} {y : Ex} (h : PRep m H u y) : ∃ t b,u = (.iface t (.pointer (some ⟨b,0,none⟩))) := by
  cases m with
  | zero => exact absurd h id
  | succ m =>
    obtain ⟨b,vs,h1,_⟩ := h
    exact ⟨_,b,h1⟩
theorem kid_of {m : Nat} {H : Nat → Option Obj} {x : Ex} {vs : List Value} (hl : vs.length = x.kids.length) (hk : ∀ (i : Nat) (y : Ex) (u : Value),vs[i]? = some u → x.kids[i]? = some y → PRep m H u y) (j : Nat) {u : Value} (hu : vs[j]? = some u) : ∃ y,x.kids[j]? = some y ∧ PRep m H u y := by
  have hj : j < vs.length := by
    rcases Nat.lt_or_ge j vs.length with h | h
    · exact h
    · rw [List.getElem?_eq_none h] at hu; cases hu
  exact ⟨x.kids[j]'(by omega),List.getElem?_eq_getElem _,hk j _ u hu (List.getElem?_eq_getElem _)⟩
theorem kidT_at {m : Nat} {x y : Ex} {j : Nat} (h : x.kids[j]? = some y) : kidT m x j = exText m y := by unfold kidT; rw [h]
theorem kidO_at {x y : Ex} {j : Nat} (h : x.kids[j]? = some y) : kidO x j = y.op := by unfold kidO; rw [h]
theorem bind_parts_le (nm ts : Nat → List UInt8) {j N : Nat} (h : j < N) : (nm j).length + (ts j).length ≤ (bindTo nm ts N).length := by
  have h1 := bindTo_step nm ts j
  have h2 := bindTo_le nm ts (j + 1) N h
  omega
theorem pt_all : ∀ (m : Nat) (H : Nat → Option Obj) (v : Value) (x : Ex) (w : World),PRep m H v x → Fz H w → (exText m x).length ≤ 1000000 →
    Calls Tryz.prog 49 #[v] w fun e w' => e = .returned (.string (B (exText m x))) ∧ w.grownBy w' none
  | 0,_,_,_,_,h,_,_ => absurd h id
  | m + 1,H,v,x,w,h,hz,hl => by
    have ih := pt_all m H
    have ihx : ∀ (u : Value) (y : Ex),PRep m H u y → (exText m y).length ≤ 1000000 → TXP 49 w u (exText m y) := fun u y hy hly wx hg => ih u y wx hy (hz.grown hg) hly
    obtain ⟨b,vs,rfl,hn,hvl,hk⟩ := h
    rw [exText_succ,exBody] at hl ⊢
    rcases hn with ⟨h0,t,h1,h2,h3,h4⟩ | ⟨h0,t,h1,h2,h3,h4⟩ | ⟨h0,t,u,h1,h2,h3,h4⟩ | ⟨h0,u,v,z,h1,h3,h4⟩ | ⟨h0,t,u,v,h1,h2,h3,h4⟩ | ⟨h0,us,u,gv,h1,h2,h3,h5,h6,h4⟩ | ⟨h0,u,v,h1,h3,h4⟩ | ⟨h0,u,v,h1,h3,h4⟩
    · rw [if_pos (Or.inl h0)] at hl ⊢
      have hb := hz _ _ h4
      rw [h0,show nth x.names 0 = t from by rw [h1]; rfl] at *
      exact ptext_name w b t (by omega) (by simp [World.cell?,hb])
    · rw [if_pos (Or.inr h0)] at hl ⊢
      have hb := hz _ _ h4
      rw [h0,show nth x.names 0 = t from by rw [h1]; rfl] at *
      exact ptext_number w b t (by omega) (by simp [World.cell?,hb])
    · rw [if_neg (by rw [h0]; decide),if_pos h0] at hl ⊢
      have hb := hz _ _ h4
      obtain ⟨y,hy1,hy2⟩ := kid_of hvl hk 0 (u := u) (by rw [h3]; rfl)
      rw [h0,show nth x.names 0 = t from by rw [h1]; rfl,kidT_at hy1] at *
      obtain ⟨t0,b0,rfl⟩ := hy2.valT
      simp only [List.length_append] at hl
      exact ptext_fun w b t0 b0 _ t (by omega) (by omega) (lt_of_block hb) (by simp [World.cell?,hb]) (by simp [World.cell?,hb]) (ihx _ y hy2 (by omega))
    · rw [if_neg (by rw [h0]; decide),if_neg (by rw [h0]; decide),if_neg (by rw [h0]; decide),if_pos h0] at hl ⊢
      have hb := hz _ _ h4
      obtain ⟨y0,hy0,hr0⟩ := kid_of hvl hk 0 (u := u) (by rw [h3]; rfl)
      obtain ⟨y1,hy1,hr1⟩ := kid_of hvl hk 1 (u := v) (by rw [h3]; rfl)
      obtain ⟨y2,hy2,hr2⟩ := kid_of hvl hk 2 (u := z) (by rw [h3]; rfl)
      rw [h0,kidT_at hy0,kidT_at hy1,kidT_at hy2] at *
      obtain ⟨t0,b0,rfl⟩ := hr0.valT
      obtain ⟨t1,b1,rfl⟩ := hr1.valT
      obtain ⟨t2,b2,rfl⟩ := hr2.valT
      simp only [List.length_append] at hl
      exact ptext_if w b t0 b0 _ t1 b1 _ t2 b2 _ (by omega) (by omega) (by omega) (lt_of_block hb) (by simp [World.cell?,hb]) (by simp [World.cell?,hb]) (by simp [World.cell?,hb]) (ihx _ y0 hr0 (by omega)) (ihx _ y1 hr1 (by omega)) (ihx _ y2 hr2 (by omega))
    · rw [if_neg (by rw [h0]; decide),if_neg (by rw [h0]; decide),if_neg (by rw [h0]; decide),if_neg (by rw [h0]; decide),if_neg (by rw [h0]; decide)] at hl ⊢
      have hb := hz _ _ h4
      obtain ⟨y0,hy0,hr0⟩ := kid_of hvl hk 0 (u := u) (by rw [h3]; rfl)
      obtain ⟨y1,hy1,hr1⟩ := kid_of hvl hk 1 (u := v) (by rw [h3]; rfl)
      have e1 : x.names.length = 1 := by rw [h1]; rfl
      have e2 : letHead x.op ++ bindTo (nth x.names) (kidT m x) x.names.length ++ tIn ++ kidT m x x.names.length = tLet ++ (t ++ tEq ++ exText m y0) ++ tIn ++ exText m y1 := by
        rw [e1,kidT_at hy1,h0]
        have : nth x.names 0 = t := by rw [h1]; rfl
        simp [bindTo,letHead,kLet,kRec,this,kidT_at hy0]
      rw [e2] at hl ⊢
      rw [h0]
      obtain ⟨t0,b0,rfl⟩ := hr0.valT
      obtain ⟨t1,b1,rfl⟩ := hr1.valT
      simp only [List.length_append] at hl
      exact ptext_let w b t0 b0 _ t1 b1 _ t (by omega) (by omega) (by omega) (lt_of_block hb) (by simp [World.cell?,hb]) (by simp [World.cell?,hb]) (by simp [World.cell?,hb]) (ihx _ y0 hr0 (by omega)) (ihx _ y1 hr1 (by omega))
    · rw [if_neg (by rw [h0]; decide),if_neg (by rw [h0]; decide),if_neg (by rw [h0]; decide),if_neg (by rw [h0]; decide),if_neg (by rw [h0]; decide)] at hl ⊢
      have hb := hz _ _ h4
      obtain ⟨yl,hyl,hrl⟩ := kid_of hvl hk x.names.length (u := u) (by rw [h5,List.getElem?_append_right (by omega),h2]; simp)
      obtain ⟨xs,hxs⟩ : ∃ xs,xs = (List.range x.names.length).map (kidT m x) := ⟨_,rfl⟩
      have hxl : xs.length = x.names.length := by rw [hxs]; simp
      have hxn : ∀ j,j < x.names.length → nth xs j = kidT m x j := fun j hj => by rw [hxs]; simp [nth,hj]
      have e1 : Lib.join (bindsOf x.names xs) tAnd = bindTo (nth x.names) (kidT m x) x.names.length := by
        rw [bindsOf_range _ _ hxl,bindTo_join _ _ _ h1]
        exact bindTo_congr _ (fun j hj => ⟨rfl,hxn j hj⟩)
      have hh : letHead x.op = tLet ++ tRec := by rw [h0]; rfl
      rw [hh,kidT_at hyl,← e1] at hl ⊢
      simp only [List.length_append] at hl
      have hN : x.names.length ≤ 1000000 := by
        have := bindTo_n (nth x.names) (kidT m x) x.names.length
        rw [← e1] at this
        omega
      have part : ∀ j,j < x.names.length → (nth x.names j).length + (kidT m x j).length ≤ 1000000 := fun j hj => by
        have := bind_parts_le (nth x.names) (kidT m x) hj
        rw [← e1] at this
        omega
      obtain ⟨g,cap,cur,hg1,hg2,hg3⟩ := h6
      have hgb := hz _ _ hg2
      have husx : AllX us := fun a ha => by
        obtain ⟨i,hi,rfl⟩ := List.mem_iff_getElem.1 ha
        obtain ⟨y,_,hr⟩ := kid_of hvl hk i (u := us[i]) (by rw [h5,List.getElem?_append_left hi]; exact List.getElem?_eq_getElem hi)
        exact hr.valT
      have hga : GAt w g x.names us := by
        refine ⟨h2,lt_of_block hgb,fun i nm a e2 e3 => ?_⟩
        have hi : i < x.names.length := by
          rcases Nat.lt_or_ge i x.names.length with h | h
          · exact h
          · rw [List.getElem?_eq_none h] at e2; cases e2
        obtain ⟨q1,q2⟩ := bindCells_get x.names us i nm a h2 e2 e3
        rw [← hg3,List.getElem?_take,if_pos (by omega)] at q1 q2
        obtain ⟨t,c,rfl⟩ := husx a (List.mem_of_getElem? e3)
        refine ⟨?_,?_,rfl⟩
        · simp only [World.cell?,hgb]
          simpa using q1
        · simp only [World.cell?,hgb]
          simpa using q2
      obtain ⟨t1,b1,rfl⟩ := hrl.valT
      have gt : TXP 78 w gv (Lib.join (bindsOf x.names xs) tAnd) := fun wx hg => by
        rw [hg1]
        refine groupText_p wx g cap x.names us xs hN h1 hxl (hga.grown hg) husx (fun n hn => ?_) (fun a ha => ?_) (by omega) (fun j a tx e2 e3 => ?_)
        · obtain ⟨i,hi,rfl⟩ := List.mem_iff_getElem.1 hn
          have := part i hi
          have e : nth x.names i = x.names[i] := by simp [nth,hi]
          rw [e] at this
          omega
        · rw [hxs] at ha
          obtain ⟨j,hj,rfl⟩ := List.mem_map.1 ha
          have := part j (List.mem_range.1 hj)
          omega
        · have hj : j < x.names.length := by
            rcases Nat.lt_or_ge j us.length with h | h
            · omega
            · rw [List.getElem?_eq_none h] at e2; cases e2
          obtain ⟨y,hy,hr⟩ := kid_of hvl hk j (u := a) (by rw [h5,List.getElem?_append_left (by omega)]; exact e2)
          have et : tx = exText m y := by
            have := hxn j hj
            simp only [nth,e3,Option.getD_some] at this
            rw [this,kidT_at hy]
          have hpl := part j hj
          rw [kidT_at hy] at hpl
          rw [et]
          exact (ihx a y hr (by omega)).at hg
      rw [h0]
      exact ptext_rec w b gv _ t1 b1 _ g x.names.length cap hg1 (by omega) (by omega) (lt_of_block hb) (by simp [World.cell?,hb]) (by simp [World.cell?,hb]) gt (ihx _ yl hrl (by omega))
    · rw [if_neg (by rw [h0]; decide),if_neg (by rw [h0]; decide),if_neg (by rw [h0]; decide),if_neg (by rw [h0]; decide),if_pos h0] at hl ⊢
      have hb := hz _ _ h4
      obtain ⟨y0,hy0,hr0⟩ := kid_of hvl hk 0 (u := u) (by rw [h3]; rfl)
      obtain ⟨y1,hy1,hr1⟩ := kid_of hvl hk 1 (u := v) (by rw [h3]; rfl)
      rw [h0,kidT_at hy0,kidT_at hy1,kidO_at hy0,kidO_at hy1] at *
      obtain ⟨t0,b0,rfl⟩ := hr0.valT
      obtain ⟨t1,b1,rfl⟩ := hr1.valT
      simp only [List.length_append] at hl
      have g0 := inBr_ge (brF y0.op) (exText m y0)
      have g1 := inBr_ge (brA y1.op) (exText m y1)
      exact ptext_apply w b t0 b0 _ t1 b1 _ (by omega) (by omega) (lt_of_block hb) (by simp [World.cell?,hb]) (by simp [World.cell?,hb]) (funTXP hr0 (by omega) (ihx _ y0 hr0 (by omega))) (argTXP hr1 (by omega) (ihx _ y1 hr1 (by omega)))
    · rw [if_neg (by rw [h0]; decide),if_neg (by rw [h0]; decide),if_pos h0] at hl ⊢
      have hb := hz _ _ h4
      obtain ⟨y0,hy0,hr0⟩ := kid_of hvl hk 0 (u := u) (by rw [h3]; rfl)
      obtain ⟨y1,hy1,hr1⟩ := kid_of hvl hk 1 (u := v) (by rw [h3]; rfl)
      rw [h0,kidT_at hy0,kidT_at hy1] at *
      obtain ⟨t0,b0,rfl⟩ := hr0.valT
      obtain ⟨t1,b1,rfl⟩ := hr1.valT
      simp only [List.length_append] at hl
      exact ptext_pair w b t0 b0 _ t1 b1 _ (by omega) (by omega) (lt_of_block hb) (by simp [World.cell?,hb]) (by simp [World.cell?,hb]) (ihx _ y0 hr0 (by omega)) (ihx _ y1 hr1 (by omega))
theorem text_le {n m : Nat} {x : Ex} (h : Shape n x) (hm : n ≤ m) : exText m x = exText n x := by
  have hs : ∀ k,Shape (n + k) x ∧ exText (n + k) x = exText n x := by
    intro k
    induction k with
    | zero => exact ⟨h,rfl⟩
    | succ k ih =>
      have := more_fuel _ _ ih.1
      exact ⟨this.1,this.2.1.trans ih.2⟩
  have := (hs (m - n)).2
  rw [show n + (m - n) = m from by omega] at this
  exact this
theorem text_same {n m : Nat} {x : Ex} (h : Shape n x) (h' : Shape m x) : exText n x = exText m x ∧ exDeep n x = exDeep m x := by
  rcases Nat.le_total n m with hl | hl
  · exact ⟨(text_le h hl).symm,(deep_le h hl).symm⟩
  · exact ⟨text_le h' hl,deep_le h' hl⟩
def SOut (w w' : World) (s2 : St) (e : Ending) (ex : Ex) (bd : Addr) : Prop :=
  w.grownBy w' none ∧ ((0 ≤ s2.bad ∧ ∃ b,e = .returned (.tuple #[.string (B []),.iface 81 (.pointer (some ⟨b,0,none⟩))]) ∧ w'.heap[b]? = some (.cells #[.int .i64 s2.bad] 92 (0,0))) ∨
    (s2.bad < 0 ∧ ∀ m,Shape m ex → ((40 < exDeep m ex ∧ e = .returned (.tuple #[.string (B []),errV bd])) ∨ (exDeep m ex ≤ 40 ∧ e = .returned (.tuple #[.string (B (exText m ex)),.nilIface])))))
theorem show_p (s : ByteArray) (hs : s.size ≤ 300) (w : World) (n : Nat) (ex : Ex) (s1 : St) (hx : expS (toksOf exKw s) n ⟨0,-1⟩ = some (ex,s1)) (hni : (needS (toksOf exKw s) s1 kEnd).bad < 0 → ∃ m c,Nice m ex c ∧ c ≤ 400) (bd : Addr) (hg : w.cell? ⟨1,0,none⟩ = some (errV bd)) (hgl : 1 < w.heap.size) :
    Calls Tryz.prog 32 #[.string s] w fun e w' => SOut w w' (needS (toksOf exKw s) s1 kEnd) e ex bd := by
  have HC := hid (read_p s hs w n ex s1 hx bd hg hgl)
  clear hx hg
  go_enter Tryz.func32,Tryz.ntmps32
  go_wp2_with fail
  refine HC.out.mono ?_
  rintro e w1 ⟨g1,(⟨hb,b,rfl,hbk⟩ | ⟨hb,v,H',m,z1,r1,d1,(⟨hd,rfl⟩ | ⟨hd,rfl⟩)⟩)⟩
  · have Q := hid (And.intro g1 (And.intro hb hbk))
    clear g1 hb hbk HC
    go_wp2
    go_ret2
    exact ⟨Q.out.1,Or.inl ⟨Q.out.2.1,b,rfl,Q.out.2.2⟩⟩
  · have sh := PRep.shape _ _ _ r1
    have Q := hid (And.intro g1 (And.intro hb (And.intro sh hd)))
    clear g1 hb z1 r1 d1 sh hd HC
    unfold errV
    go_wp2
    go_ret2
    obtain ⟨g1,hb,sh,hd⟩ := Q.out
    exact ⟨g1,Or.inr ⟨hb,fun k hk => Or.inl ⟨by rw [(text_same hk sh).2]; exact hd,rfl⟩⟩⟩
  · have sh := PRep.shape _ _ _ r1
    obtain ⟨m',c,nice,hc⟩ := hni hb
    have ts := text_same sh nice.shape
    have hlen : (exText m ex).length ≤ 10000 := by
      rw [ts.1]
      have := nice.text
      omega
    have PT := hid (pt_all m H' v ex w1 r1 z1 (by omega))
    obtain ⟨t1,b1,rfl⟩ := r1.val
    have Q := hid (And.intro g1 (And.intro hb (And.intro sh hd)))
    have hsz : (B (exText m ex)).size ≤ 281474976710656 := by rw [size_B]; omega
    clear g1 hb z1 r1 d1 sh hd HC hni nice ts
    go_wp2_with (first | (go_at_call 49; refine PT.out.mono ?_; rintro e w2 ⟨rfl,g2⟩; have G2 := hid g2; clear g2) | (go_at_call 76; refine (Tryz.stringslite_Clone _ _ hsz).mono ?_; rintro e w3 ⟨rfl,g3⟩; have G3 := hid g3; clear g3) | go_in)
    go_ret2
    obtain ⟨g1,hb,sh,hd⟩ := Q.out
    exact ⟨(g1.trans G2.out).trans ⟨G3.out.os,G3.out.tape,G3.out.output,G3.out.size,fun k hk _ => G3.out.block k hk⟩,Or.inr ⟨hb,fun k hk => Or.inr ⟨by rw [(text_same hk sh).2]; exact hd,by rw [(text_same hk sh).1]; rfl⟩⟩⟩
def PSOut (w w' : World) (s2 : St) (e : Ending) (ex : Ex) : Prop :=
  Gn w w' ∧ ((0 ≤ s2.bad ∧ e = .returned (.tuple #[.string (B []),fv 2 s2.bad])) ∨
    (s2.bad < 0 ∧ ∀ m,Shape m ex → ((40 < exDeep m ex ∧ e = .returned (.tuple #[.string (B []),fv 3 0])) ∨ (exDeep m ex ≤ 40 ∧ e = .returned (.tuple #[.string (B (exText m ex)),fv 0 0])))))
theorem pshow_p (s : ByteArray) (hs : s.size ≤ 300) (w : World) (n : Nat) (ex : Ex) (s1 : St) (hx : expS (toksOf exKw s) n ⟨0,-1⟩ = some (ex,s1)) (hni : (needS (toksOf exKw s) s1 kEnd).bad < 0 → ∃ m c,Nice m ex c ∧ c ≤ 400) (ad : Nat → Addr) (cs : Nat → Array Value) (ts : Nat → TypeId) (S : SW w ad cs ts) :
    Calls Tryz.prog 15 #[.string s] w fun e w' => PSOut w w' (needS (toksOf exKw s) s1 kEnd) e ex := by
  have g0 : w.grownBy (w.alloc (.cells #[.int .i64 0,.int .i64 0,.string (B []),.int .i64 0,.int .i64 0] 23)) none := World.grownBy_alloc _ _ _
  have S0 := S.grown g0
  have HC := hid (show_p s hs _ n ex s1 hx hni (ad 1) S0.g1 (Nat.lt_of_lt_of_le (by decide) S0.hsz))
  have SH := hid S0
  have G0 := hid g0
  have HN := hid hni
  clear hx S S0 g0 hni
  generalize (needS (toksOf exKw s) s1 kEnd) = s2 at HC HN ⊢
  go_enter Tryz.func15,Tryz.ntmps15
  go_wp2_with fail
  refine HC.out.mono ?_
  rintro e w1 ⟨g1,ho⟩
  have S1 := hid (SH.out.grown g1)
  have G1 := hid (G0.out.trans g1)
  have n0 : w1.heap[w.heap.size]? = some (.cells #[.int .i64 0,.int .i64 0,.string (B []),.int .i64 0,.int .i64 0] 23 (0,0)) := by
    rw [g1.block _ (by simp) (by simp)]
    exact heap_alloc_new _ _
  have l0 := lt_of_block n0
  clear g1 HC
  rcases ho with ⟨hb,b,rfl,hbk⟩ | ⟨hb,hall⟩
  · have FA := hid (fault_syn w1 ad cs ts S1.out b _ hbk)
    have HB := hid hb
    clear hbk hb
    go_wp2_with fail
    refine FA.out.mono ?_
    rintro e w2 ⟨rfl,g2⟩
    have n2 : w2.heap[w.heap.size]? = some (.cells #[.int .i64 0,.int .i64 0,.string (B []),.int .i64 0,.int .i64 0] 23 (0,0)) := by
      rw [(Gn.of g2).block _ l0]; exact n0
    obtain ⟨⟨q0,q1,q2,q3,q4⟩,f0,f1,f2,f3,f4⟩ := five_c n2
    have G2 := hid ((Gn.of G1.out).trans (Gn.of g2))
    clear g2 n2 n0
    unfold fv
    go_wp2
    refine bodyPost_ret (v := .tuple #[.string (B []),fv 2 s2.bad]) (by simp [results,Tryz.results15,go_sem,q0,q1,q2,q3,q4]; rfl) rfl ?_
    exact ⟨G2.out.set5 (Nat.le_refl _) _ _ _ _ _,Or.inl ⟨HB.out,rfl⟩⟩
  · obtain ⟨m,c,nice,_⟩ := HN.out hb
    have HB := hid hb
    have SHP := hid nice.shape
    rcases hall m nice.shape with ⟨hd,rfl⟩ | ⟨hd,rfl⟩
    · have FA := hid (fault_err w1 ad cs ts S1.out 1 (by decide))
      have HD := hid hd
      clear hb hall hd nice
      unfold errV at FA ⊢
      go_wp2_with fail
      refine FA.out.mono ?_
      rintro e w2 ⟨rfl,g2⟩
      have n2 : w2.heap[w.heap.size]? = some (.cells #[.int .i64 0,.int .i64 0,.string (B []),.int .i64 0,.int .i64 0] 23 (0,0)) := by
        rw [(g2).block _ l0]; exact n0
      obtain ⟨⟨q0,q1,q2,q3,q4⟩,f0,f1,f2,f3,f4⟩ := five_c n2
      have G2 := hid ((Gn.of G1.out).trans (g2))
      clear g2 n2 n0
      rw [show errNo 1 = 3 from rfl]
      unfold fv
      go_wp2
      refine bodyPost_ret (v := .tuple #[.string (B []),fv 3 0]) (by simp [results,Tryz.results15,go_sem,q0,q1,q2,q3,q4]; rfl) rfl ?_
      exact ⟨G2.out.set5 (Nat.le_refl _) _ _ _ _ _,Or.inr ⟨HB.out,fun k hk => Or.inl ⟨by rw [(text_same hk SHP.out).2]; exact HD.out,rfl⟩⟩⟩
    · have FA := hid (fault_nil w1)
      have HD := hid hd
      obtain ⟨tx,htx⟩ : ∃ tx,tx = exText m ex := ⟨_,rfl⟩
      rw [← htx]
      have HTX := hid htx
      clear hb hall hd nice htx
      go_wp2_with fail
      refine FA.out.mono ?_
      rintro e w2 ⟨rfl,g2⟩
      have n2 : w2.heap[w.heap.size]? = some (.cells #[.int .i64 0,.int .i64 0,.string (B []),.int .i64 0,.int .i64 0] 23 (0,0)) := by
        rw [(Gn.of g2).block _ l0]; exact n0
      obtain ⟨⟨q0,q1,q2,q3,q4⟩,f0,f1,f2,f3,f4⟩ := five_c n2
      have G2 := hid ((Gn.of G1.out).trans (Gn.of g2))
      clear g2 n2 n0
      unfold fv
      go_wp2
      refine bodyPost_ret (v := .tuple #[.string (B tx),fv 0 0]) (by simp [results,Tryz.results15,go_sem,q0,q1,q2,q3,q4]; rfl) rfl ?_
      exact ⟨G2.out.set5 (Nat.le_refl _) _ _ _ _ _,Or.inr ⟨HB.out,fun k hk => Or.inr ⟨by rw [(text_same hk SHP.out).2]; exact HD.out,by rw [HTX.out,(text_same hk SHP.out).1]⟩⟩⟩
theorem exp_have (s : ByteArray) (hs : s.size ≤ 300) : ∃ x s1,expS (toksOf exKw s) (s.size + 2) ⟨0,-1⟩ = some (x,s1) ∧ ((needS (toksOf exKw s) s1 kEnd).bad < 0 → ∃ m c,Nice m x c ∧ c ≤ 400) := by
  obtain ⟨f1,f2,f3⟩ := toks_facts exKw s (s.size + 1) 0 (Nat.zero_le _) (by omega)
  have hlen := toksOf_len exKw s
  obtain ⟨x,s1,e,r⟩ := exp_tot (T := toksOf exKw s) f1 f2 (by omega) (s.size + 2) ⟨0,-1⟩ ⟨f1.1,Or.inl (by show (toksOf exKw s).length - 0 + 1 ≤ s.size + 2; omega)⟩
  refine ⟨x,s1,e,fun hb => ?_⟩
  have hb1 : s1.bad < 0 := by
    rcases Int.lt_or_le s1.bad 0 with h | h
    · exact h
    · rw [need_bad h] at hb
      omega
  obtain ⟨_,_,m,hm⟩ := r.2.2 hb1
  exact ⟨m,_,hm,by have := r.2.1; show s1.k - 0 ≤ 400; omega⟩
theorem unbound_num (nb : Nat) (f : Value) (w : World) : Calls Tryz.prog 71 #[.iface 175 (.pointer (some ⟨nb,0,none⟩)),f] w fun e w' => e = .returned (.pointer none) ∧ w' = w := by
  have a1 := nA_Name nb
  have a2 := nA_Fun nb
  have a3 := nA_If nb
  have a4 := nA_Let nb
  have a5 := nA_LetRec nb
  have a6 := nA_Apply nb
  have a7 := nA_Pair nb
  go_enter Tryz.func71,Tryz.ntmps71
  go_wp2
  go_ret
  exact ⟨rfl,rfl⟩
theorem ptr_nil (w : World) : (binOp .eql 157 (.pointer none) (.pointer none)).run Tryz.prog w = .ok (.bool true) w := by kernel_rfl
theorem infer_w (s : ByteArray) (mb : Nat) (fuel : Int) (w : World) (t : ByteArray) (P : Value → World → Prop)
    (h : Calls Tryz.prog 27 #[.string s,.map (some mb),.int .i64 fuel,.nilFunc] w fun e w' => w.grownBy w' none ∧ ∃ v,e = .returned (.tuple #[.string t,v]) ∧ P v w') :
    Calls Tryz.prog 30 #[.string s,.map (some mb),.int .i64 fuel] w fun e w' => w.grownBy w' none ∧ ∃ v,e = .returned (.tuple #[.string t,v]) ∧ P v w' := by
  have HW := hid h
  clear h
  go_enter Tryz.func30,Tryz.ntmps30
  go_wp2_with fail
  refine HW.out.mono ?_
  rintro e w1 ⟨g1,v,rfl,hv⟩
  have G1 := hid (And.intro g1 hv)
  clear g1 hv HW
  go_wp2
  go_ret2
  exact ⟨G1.out.1,v,rfl,G1.out.2⟩
theorem FM.len {w : World} {mb : Nat} {ns : List (List UInt8)} {g : List (Option (List UInt8))} (h : FM w mb ns g) : (Builtin.len_ #[60] 3 #[.map (some mb)]).run Tryz.prog w = .ok (.int .i64 ((g.filter Option.isSome).length : Nat)) w := by
  obtain ⟨D,h1,h2,_⟩ := h
  rw [← h2]
  exact h1.len (t := 60) Tryz.underlying60 _
theorem isNameK (k : List UInt8) (hk : k.length ≤ 300) (h0 : upto isB k 0 = 0) (h2 : nxK k 0 = 2) (ht : nxT k 0 = k) (w : World) :
    Calls Tryz.prog 70 #[.string (B k)] w fun e w' => e = .returned (.bool (!decide (k ∈ exKw))) ∧ w.grownBy w' none := by
  have HN := hid (next_any (B k) 0 (Nat.zero_le _) (by rw [size_B]; omega) w)
  have hB : (B k).data.toList = k := rfl
  rw [hB,h0,h2,ht] at HN
  clear h0 h2 ht hB
  unfold tokV at HN
  cases hd : decide (k ∈ exKw) with
  | false =>
    have HK := hid (isKeyword_p k)
    rw [hd] at HK
    clear hd
    go_enter Tryz.func70,Tryz.ntmps70
    go_wp2_with fail
    refine HN.out.mono ?_
    rintro e w1 ⟨rfl,g1⟩
    have G1 := hid g1
    clear g1 HN
    go_wp2_with fail
    refine (HK.out _).mono ?_
    rintro e w' ⟨rfl,rfl⟩
    go_wp2
    go_ret
    exact ⟨rfl,G1.out.trans (World.grownBy_alloc _ _ _)⟩
  | true =>
    have HK := hid (isKeyword_p k)
    rw [hd] at HK
    clear hd
    go_enter Tryz.func70,Tryz.ntmps70
    go_wp2_with fail
    refine HN.out.mono ?_
    rintro e w1 ⟨rfl,g1⟩
    have G1 := hid g1
    clear g1 HN
    go_wp2_with fail
    refine (HK.out _).mono ?_
    rintro e w' ⟨rfl,rfl⟩
    go_wp2
    go_ret
    exact ⟨rfl,G1.out.trans (World.grownBy_alloc _ _ _)⟩
theorem qe_up {N : Nat} {ns : List (List UInt8)} : ∀ (m : Nat) (x : Ty),TyOk N m x → qe ns (m + 1) x = qe ns m x
  | 0,_,h => absurd h id
  | m + 1,x,h => by
    have e1 : qe ns (m + 1 + 1) x = if x.kind = [] then vT (ns.getD x.var []) else ⟨x.kind,[],0,x.kids.map (qe ns (m + 1))⟩ := rfl
    have e2 : qe ns (m + 1) x = if x.kind = [] then vT (ns.getD x.var []) else ⟨x.kind,[],0,x.kids.map (qe ns m)⟩ := rfl
    rw [e1,e2]
    rcases h with ⟨h1,_⟩ | ⟨h1,_,h3⟩ | ⟨h1,h2,a,h3,h4⟩ | ⟨h1,h2,a,b,h3,h4,h5⟩
    · rw [if_pos h1,if_pos h1]
    · rw [h3]; rfl
    · rw [h3]; simp only [List.map_cons,List.map_nil]; rw [qe_up m a h4]
    · rw [h3]; simp only [List.map_cons,List.map_nil]; rw [qe_up m a h4,qe_up m b h5]
theorem qe_le {N : Nat} {ns : List (List UInt8)} {m : Nat} {x : Ty} (h : TyOk N m x) : ∀ k,qe ns (m + k) x = qe ns m x
  | 0 => rfl
  | k + 1 => by rw [← Nat.add_assoc,qe_up (m + k) x (h.le (by omega)),qe_le h k]
theorem qe_same {N N' : Nat} {ns : List (List UInt8)} {m m' : Nat} {x : Ty} (h : TyOk N m x) (h' : TyOk N' m' x) : qe ns m x = qe ns m' x := by
  rw [← qe_le h m',← qe_le h' m,Nat.add_comm]
def etK (s : List UInt8) : Option Et :=
  match arrS (toksOf tyKw (B s)) (s.length + 2) [] ⟨0,-1⟩ with
  | none => none
  | some (x,ns,s1) => if (decide ((needS (toksOf tyKw (B s)) s1 kEnd).bad < 0) && tyOkB ns.length 60 x && decide (tySize 60 x ≤ 120)) = true then some (qe ns 60 x) else none
theorem read_e {s : List UInt8} {t : Et} (hs : s.length ≤ 300) (h : etK s = some t) (w : World) (ad : Nat → Addr) (cs : Nat → Array Value) (ts : Nat → TypeId) (S : SW w ad cs ts) :
    Calls Tryz.prog 35 #[.string (B s)] w fun e w' => w.grownBy w' none ∧ ∃ u H,e = .returned (.tuple #[u,.nilIface]) ∧ Fz H w' ∧ ER H [] u t := by
  have hz : (B s).size = s.length := size_B s
  obtain ⟨x,ns,s1,hx,hk⟩ := ty_have2 (B s)
  unfold etK at h
  rw [← hz,hx] at h
  simp only at h
  split at h
  · rename_i hc
    cases h
    simp only [Bool.and_eq_true,decide_eq_true_eq] at hc
    obtain ⟨⟨a1,a2⟩,a3⟩ := hc
    have ok := tyOkB_ok _ 60 x a2
    refine (read_t (B s) x ns w ad cs ts S ⟨by omega,s1,hx,hk,a1,fun N m ok' => by rw [(ty_same ok' ok).1]; exact a3⟩).mono ?_
    rintro e w' ⟨g,u,H,m,rfl,z,q,ok',_⟩
    refine ⟨g,u,H,rfl,z,m,?_⟩
    rw [← qe_same ok' ok]
    exact QRep.et m u x q
  · cases h
def uni (H H2 : Nat → Option Obj) (k : Nat) : Option Obj := match H k with
  | some o => some o
  | none => H2 k
theorem uni_l {H H2 : Nat → Option Obj} : ∀ k o,H k = some o → uni H H2 k = some o := fun k o e => by unfold uni; rw [e]
theorem uni_r {H H2 : Nat → Option Obj} {w : World} (h1 : Fz H w) (h2 : Fz H2 w) : ∀ k o,H2 k = some o → uni H H2 k = some o := fun k o e => by
  unfold uni
  cases e1 : H k with
  | none => exact e
  | some o' =>
    have a := h1 k o' e1
    rw [h2 k o e] at a
    exact a.symm
theorem uni_fz {H H2 : Nat → Option Obj} {w : World} (h1 : Fz H w) (h2 : Fz H2 w) : Fz (uni H H2) w := fun k o e => by
  unfold uni at e
  cases e1 : H k with
  | none => rw [e1] at e; exact h2 k o e
  | some o' => rw [e1] at e; cases e; exact h1 k _ e1
theorem ER.ext {H H' : Nat → Option Obj} {ca : List Nat} {v : Value} {t : Et} (h : ER H ca v t) (e : ∀ k o,H k = some o → H' k = some o) : ER H' ca v t := by
  obtain ⟨m,h⟩ := h
  exact ⟨m,ERep.ext (Nat.le_refl _) e (List.prefix_refl _) m v t h⟩
theorem GE2.ext {H H' : Nat → Option Obj} {w : World} {mb : Nat} {ge : List (List UInt8 × Et)} (h : GE2 H w mb ge) (e : ∀ k o,H k = some o → H' k = some o) : GE2 H' w mb ge := by
  obtain ⟨gv,h1,h2⟩ := h
  exact ⟨gv,h1,fun nm => (h2 nm).imp id (fun ⟨v,t,a,b,c⟩ => ⟨v,t,a,b,c.ext e⟩)⟩
def wo (H : Nat → Option Obj) (mb : Nat) (k : Nat) : Option Obj := if k = mb then none else H k
theorem er_wo {H : Nat → Option Obj} {ca : List Nat} {mb : Nat} (hm : ∀ cs T z,H mb ≠ some (.cells cs T z)) : ∀ (m : Nat) (v : Value) (t : Et),ERep 0 H ca m v t → ERep 0 (wo H mb) ca m v t := by
  have hw : ∀ k cs T z,H k = some (.cells cs T z) → wo H mb k = some (.cells cs T z) := fun k cs T z e => by
    unfold wo
    rw [if_neg (fun e2 => hm cs T z (by rw [← e2]; exact e))]
    exact e
  intro m
  induction m with
  | zero => exact fun _ _ h => h
  | succ m ih =>
    intro v t h
    obtain ⟨b,h⟩ := h
    refine ⟨b,?_⟩
    rcases h with h | ⟨h1,h2,h3,h4,h5,h6⟩ | ⟨h1,h2,h3,h4⟩ | ⟨h1,hlo,a,u,h2,h3,h4,h5⟩ | ⟨h1,hlo,a,a2,u,z,h2,h3,h4,h5,h6⟩ | ⟨h1,hlo,a,a2,u,z,h2,h3,h4,h5,h6⟩
    · exact Or.inl h
    · exact Or.inr (Or.inl ⟨h1,h2,h3,h4,h5,hw _ _ _ _ h6⟩)
    · exact Or.inr (Or.inr (Or.inl ⟨h1,h2,h3,hw _ _ _ _ h4⟩))
    · exact Or.inr (Or.inr (Or.inr (Or.inl ⟨h1,hlo,a,u,h2,h3,hw _ _ _ _ h4,ih u a h5⟩)))
    · exact Or.inr (Or.inr (Or.inr (Or.inr (Or.inl ⟨h1,hlo,a,a2,u,z,h2,h3,hw _ _ _ _ h4,ih u a h5,ih z a2 h6⟩))))
    · exact Or.inr (Or.inr (Or.inr (Or.inr (Or.inr ⟨h1,hlo,a,a2,u,z,h2,h3,hw _ _ _ _ h4,ih u a h5,ih z a2 h6⟩))))
structure SCJ (ge : List (List UInt8 × Et)) (K : List (List UInt8)) (mb : Nat) (w3 : World) (j : Nat) (wi : World) (gv : List (List UInt8 × Value)) (H : Nat → Option Obj) : Prop where
  gm : GM kS (fun v => .agg #[v]) 9 wi mb gv
  len : gv.length ≤ j
  yes : ∀ nm,nm ∈ K.take j → ∃ v t,getL gv nm = some v ∧ getL ge nm = some t ∧ ER H [] v t
  no : ∀ nm,nm ∉ K.take j → getL gv nm = none
  fz : Fz H wi
  off : H mb = none
  gb : Gb (fun k => k = mb) w3 wi
theorem SCJ.start {ge : List (List UInt8 × Et)} {K : List (List UInt8)} {mb : Nat} {w3 : World} (h : GM kS (fun v => .agg #[v]) 9 w3 mb ([] : List (List UInt8 × Value))) : SCJ ge K mb w3 0 w3 [] (fun _ => none) :=
  ⟨h,Nat.le_refl _,(fun nm h => by cases h),(fun nm _ => rfl),(fun k o e => by cases e),rfl,Gb.refl _ _⟩
theorem SCJ.grown {ge : List (List UInt8 × Et)} {K : List (List UInt8)} {mb j : Nat} {w3 wi w' : World} {gv : List (List UInt8 × Value)} {H : Nat → Option Obj} (h : SCJ ge K mb w3 j wi gv H) (g : wi.grownBy w' none) : SCJ ge K mb w3 j w' gv H :=
  ⟨h.gm.gb (R := fun _ => False) (Gb.new g) id,h.len,h.yes,h.no,h.fz.grown g,h.off,h.gb.tr (Gb.new g)⟩
theorem SCJ.next {ge : List (List UInt8 × Et)} {K : List (List UInt8)} {mb j : Nat} {w3 wi w' : World} {gv : List (List UInt8 × Value)} {H H2 : Nat → Option Obj} {u : Value} {t : Et} {k : List UInt8} (h : SCJ ge K mb w3 j wi gv H) (z2 : Fz H2 wi) (er : ER H2 [] u t) (hk : K[j]? = some k) (hge : getL ge k = some t) (hgm : GM kS (fun v => .agg #[v]) 9 w' mb (putL gv k u)) (g : wi.grownBy w' (some mb)) :
    SCJ ge K mb w3 (j + 1) w' (putL gv k u) (uni H (wo H2 mb)) := by
  obtain ⟨es,cl,hmp⟩ := h.gm.isMap
  have hm2 : ∀ cs T z,H2 mb ≠ some (.cells cs T z) := fun cs T z e => by have := z2 _ _ e; rw [hmp] at this; cases this
  have z3 : Fz (wo H2 mb) wi := fun k o e => by
    unfold wo at e
    split at e
    · cases e
    · exact z2 k o e
  have zu := uni_fz h.fz z3
  have hoff : uni H (wo H2 mb) mb = none := by unfold uni wo; rw [h.off]; simp
  refine ⟨hgm,?_,fun nm hnm => ?_,fun nm hnm => ?_,fun k o e => ?_,hoff,h.gb.tr (Gb.of g (fun b e => Or.inl (by cases e; rfl)))⟩
  · rw [putL_len]
    have := h.len
    split <;> omega
  · rw [getL_put]
    by_cases e : k = nm
    · rw [if_pos e]
      obtain ⟨m,er⟩ := er
      exact ⟨u,t,rfl,by rw [← e]; exact hge,ER.ext ⟨m,er_wo hm2 m u t er⟩ (uni_r h.fz z3)⟩
    · rw [if_neg e]
      have hnm2 : nm ∈ K.take j := by
        rw [List.take_add_one,hk] at hnm
        rcases List.mem_append.1 hnm with h1 | h1
        · exact h1
        · simp at h1; exact absurd h1.symm e
      obtain ⟨v,t',a,b,c⟩ := h.yes nm hnm2
      exact ⟨v,t',a,b,c.ext uni_l⟩
  · rw [getL_put]
    rw [List.take_add_one,hk] at hnm
    rw [if_neg (fun e => hnm (List.mem_append.2 (Or.inr (by simp [e]))))]
    exact h.no nm (fun h1 => hnm (List.mem_append.2 (Or.inl h1)))
  · rw [g.block k (lt_of_block (zu k o e)) (fun e2 => by cases e2; rw [hoff] at e; cases e)]
    exact zu k o e
def EnvOk (na : List (List UInt8)) (g : List (Option (List UInt8))) (ge : List (List UInt8 × Et)) : Prop :=
  (∀ k,k ∈ na → k.length ≤ 300 ∧ (∀ W,Calls Tryz.prog 70 #[.string (B k)] W fun e w' => e = .returned (.bool true) ∧ W.grownBy w' none) ∧ ∃ i tx t,i < na.length ∧ na.getD i [] = k ∧ g.getD i none = some tx ∧ tx.length ≤ 300 ∧ etK tx = some t ∧ getL ge k = some t) ∧ ∀ k,k ∉ na → getL ge k = none
theorem sortS_mem (na : List (List UInt8)) (k : List UInt8) : k ∈ sortS na ↔ k ∈ na := by
  unfold sortS
  exact (List.mergeSort_perm ..).mem_iff
theorem schemes_ok (na : List (List UInt8)) (g : List (Option (List UInt8))) (ge : List (List UInt8 × Et)) (w : World) (mb : Nat) (F : FM w mb na g) (hd : na.Nodup) (hall : ∀ v,v < na.length → (g.getD v none).isSome = true) (hgl : g.length = na.length) (hL : na.length ≤ 1000) (EO : EnvOk na g ge)
    (hmk : (Instr.makeMap 104 (some (.int .i64 ((g.filter Option.isSome).length : Nat)))).run Tryz.prog w = .ok (.map (some w.heap.size)) (w.alloc (.map #[] 0))) (ad : Nat → Addr) (cs : Nat → Array Value) (ts : Nat → TypeId) (S : SW w ad cs ts) :
    Calls Tryz.prog 45 #[.map (some mb)] w fun e w' => w.grownBy w' none ∧ ∃ b H,e = .returned (.tuple #[.map (some b),.nilIface]) ∧ Fz H w' ∧ GE2 H w' b ge := by
  have hlen := FM.len F
  generalize (g.filter Option.isSome).length = nl at hlen hmk
  have CS := hid (sorted_some (w.alloc (.map #[] 0)) mb na g (F.kept (World.grownBy_alloc _ _ none) (by simp)) hd hall (by omega))
  rw [show (w.alloc (.map #[] 0)).heap.size = w.heap.size + 1 by simp] at CS
  have hml := F.lt
  have hKl : (sortS na).length = na.length := by unfold sortS; rw [List.length_mergeSort]
  have HX := hid (fun (k : List UInt8) (hk : k ∈ sortS na) => EO.1 k ((sortS_mem na k).1 hk))
  have HN := hid (fun (k : List UInt8) (hk : k ∉ sortS na) => EO.2 k (fun e => hk ((sortS_mem na k).2 e)))
  have HF := hid (And.intro F S)
  clear F hd hall EO S
  obtain ⟨K,hK⟩ : ∃ K,K = sortS na := ⟨_,rfl⟩
  rw [← hK] at hKl CS HX HN
  clear hK
  go_enter Tryz.func45,Tryz.ntmps45
  go_wp2_with fail
  refine (keys_c (some mb) _).mono ?_
  rintro e w2 ⟨rfl,rfl⟩
  go_wp2_with fail
  refine CS.out.mono ?_
  rintro e w3 ⟨vs,rfl,hrow,g3⟩
  obtain ⟨ao,cp,rfl,hview⟩ := own_view hrow
  have G3 := hid (And.intro (((World.grownBy_alloc w (.map #[] 0) none).trans (World.grownBy_alloc _ _ none)).trans g3) (And.intro hview (GM.gb (R := fun _ => False) (GM.new (kl := kS) (ev := fun v : Value => .agg #[v]) (k := 9) (w := w)) (Gb.new ((World.grownBy_alloc _ _ none).trans g3)) id)))
  have hs3 : w.heap.size < w3.heap.size := by have := g3.size; simp at this; omega
  clear g3 CS hrow hview
  have hKL : K.length ≤ 1000 := by omega
  have hbase : ((w.alloc (.map #[] 0)).alloc (.cells #[.map (some mb)] 60)).heap.size = w.heap.size + 2 := by simp
  rw [hbase] at G3
  clear hKl hgl hL hbase
  go_wp2_with fail
  go_loopg [16] (K.length + 1) (fun gh i wi => ∃ (j : Nat),j ≤ K.length ∧ i = .int .i64 j ∧ gh = K.length - j + 1 ∧ Hid (∃ gv H,SCJ ge K w.heap.size w3 j wi gv H))
  case atStart => exact ⟨0,by omega,rfl,by omega,hid ⟨_,_,SCJ.start G3.out.2.2⟩⟩
  case round =>
    obtain ⟨j,hj,rfl,hgj,HS⟩ := hrel
    by_cases hjl : j < K.length
    · obtain ⟨gv,H,s⟩ := HS.out
      obtain ⟨gn,rfl,hbn,hgn,hcell⟩ := G3.out.2.1 j hjl
      have hcj := s.gb.cell hcell hgn (by omega)
      have hk0 : K[j]? = some (K.getD j []) := by rw [List.getD_eq_getElem?_getD,List.getElem?_eq_getElem hjl]; rfl
      obtain ⟨h300,IN,i,tx,t,hi,hik,hit,htx,het,hge⟩ := HX.out _ (List.mem_of_getElem? hk0)
      have gw : w.grownBy wr none := ((Gb.new (R := fun k => w.heap.size ≤ k) G3.out.1).tr (s.gb.mono (fun k e => by omega))).none
      have HI := hid IN
      have LK := hid (show ∀ W : World,w.grownBy W none → (Instr.lookup 60 (.map (some mb)) (.string (B (K.getD j []))) false).run Tryz.prog W = .ok (.agg #[.string (B tx)]) W from fun W gW => by
        have := (HF.out.1.kept gW (by simp)).look1 hi (by rw [hik]; exact h300) hit
        rw [hik] at this
        exact this)
      have RD := hid (fun (W : World) (gW : w.grownBy W none) => read_e htx het W ad cs ts (HF.out.2.grown gW))
      have Q := hid (And.intro s (And.intro gw (And.intro hk0 (And.intro h300 hge))))
      clear s gw hcell IN hi hik hit htx het hge hk0 h300 HS
      generalize K.getD j [] = k at *
      go_wp2_with fail
      refine (HI.out _).mono ?_
      rintro e w4 ⟨rfl,g4⟩
      have G4 := hid (And.intro g4 (Q.out.2.1.trans g4))
      have lk := LK.out _ G4.out.2
      have tf := typed_field (B tx)
      clear g4 LK HI
      go_wp2_with fail
      refine (RD.out _ G4.out.2).mono ?_
      rintro e w5 ⟨g5,u,H2,rfl,z2,er⟩
      have s5 := (Q.out.1.grown G4.out.1).grown g5
      obtain ⟨w6,hup,hgm,g6⟩ := GM.store s5.gm strLaw Tryz.underlying104 kS_inj kS_lit (by have := s5.len; omega) u (kS_key Q.out.2.2.2.1)
      have N := hid (s5.next z2 er Q.out.2.2.1 Q.out.2.2.2.2 hgm g6)
      obtain ⟨T0,b0,_,rfl⟩ := er_val er
      clear g5 z2 er s5 hgm g6 RD G4 Q lk
      go_wp2
      go_roundg (K.length - (j + 1) + 1)
      case measure => omega
      case rel => exact ⟨j + 1,by omega,by go_num,rfl,hid ⟨_,_,N.out⟩⟩
    · have hje : j = K.length := by omega
      subst hje
      go_wp2
      go_ret2
      obtain ⟨gv,H,s⟩ := HS.out
      refine ⟨((Gb.new (R := fun k => w.heap.size ≤ k) G3.out.1).tr (s.gb.mono (fun k e => by omega))).none,_,H,rfl,s.fz,gv,s.gm,fun nm => ?_⟩
      have hyes := s.yes nm
      have hno := s.no nm
      rw [List.take_length] at hyes hno
      by_cases hm : nm ∈ K
      · exact Or.inr (hyes hm)
      · exact Or.inl ⟨hno hm,HN.out nm hm⟩
def exK (s : List UInt8) : Option Ex :=
  match expS (toksOf exKw (B s)) (s.length + 2) ⟨0,-1⟩ with
  | none => none
  | some (x,s1) => if (decide ((needS (toksOf exKw (B s)) s1 kEnd).bad < 0) && shapeB 60 x && decide (exDeep 60 x ≤ 40)) = true then some x else none
theorem read_x {s : List UInt8} {x : Ex} (hs : s.length ≤ 300) (h : exK s = some x) (w : World) (ad : Nat → Addr) (cs : Nat → Array Value) (ts : Nat → TypeId) (S : SW w ad cs ts) :
    Calls Tryz.prog 44 #[.string (B s)] w fun e w' => w.grownBy w' none ∧ ∃ v H m,e = .returned (.tuple #[v,.nilIface]) ∧ Fz H w' ∧ PRep m H v x := by
  have hz : (B s).size = s.length := size_B s
  obtain ⟨x',s1,hx,hni⟩ := exp_have (B s) (by omega)
  unfold exK at h
  rw [← hz,hx] at h
  simp only at h
  split at h
  · rename_i hc
    cases h
    simp only [Bool.and_eq_true,decide_eq_true_eq] at hc
    obtain ⟨⟨a1,a2⟩,a3⟩ := hc
    refine (read_p (B s) (by omega) w _ x s1 hx (ad 1) S.g1 (Nat.lt_of_lt_of_le (by decide) S.hsz)).mono ?_
    rintro e w' ⟨g,(⟨hb,_⟩ | ⟨_,v,H',m,z1,r1,d1,hd⟩)⟩
    · omega
    · have e1 := (text_same (PRep.shape m v x r1) (shapeB_ok 60 x a2)).2
      rcases hd with ⟨hd,_⟩ | ⟨_,rfl⟩
      · omega
      · exact ⟨g,v,H',m,rfl,z1,r1⟩
  · cases h
theorem al_Basic_Cell (w : World) (a b : Nat) : Calls Tryz.prog 97 #[.iface 275 (.pointer (some ⟨a,0,none⟩)),.iface 173 (.pointer (some ⟨b,0,none⟩))] w fun e w' => e = .returned (.bool false) ∧ w.grownBy w' none := by
  have pBasic := e_Basic_Basic a
  have pb := e_Cell_Basic b
  go_enter Tryz.func97,Tryz.ntmps97
  go_wp2_with fail
  go_quiet (fail)
  go_wp2
  go_ret
  exact ⟨rfl,⟨rfl,rfl,rfl,Nat.le_refl _,fun _ _ _ => rfl⟩⟩
theorem al_List_Cell (w : World) (a b : Nat) : Calls Tryz.prog 97 #[.iface 279 (.pointer (some ⟨a,0,none⟩)),.iface 173 (.pointer (some ⟨b,0,none⟩))] w fun e w' => e = .returned (.bool false) ∧ w.grownBy w' none := by
  have pBasic := e_List_Basic a
  have pList := e_List_List a
  have pb := e_Cell_List b
  go_enter Tryz.func97,Tryz.ntmps97
  go_wp2
  go_ret
  exact ⟨rfl,World.grownBy.refl _ _⟩
theorem al_Pair_Cell (w : World) (a b : Nat) : Calls Tryz.prog 97 #[.iface 291 (.pointer (some ⟨a,0,none⟩)),.iface 173 (.pointer (some ⟨b,0,none⟩))] w fun e w' => e = .returned (.bool false) ∧ w.grownBy w' none := by
  have pBasic := e_Pair_Basic a
  have pList := e_Pair_List a
  have pPair := e_Pair_Pair a
  have pb := e_Cell_Pair b
  go_enter Tryz.func97,Tryz.ntmps97
  go_wp2
  go_ret
  exact ⟨rfl,World.grownBy.refl _ _⟩
theorem al_Arrow_Cell (w : World) (a b : Nat) : Calls Tryz.prog 97 #[.iface 209 (.pointer (some ⟨a,0,none⟩)),.iface 173 (.pointer (some ⟨b,0,none⟩))] w fun e w' => e = .returned (.bool false) ∧ w.grownBy w' none := by
  have pBasic := e_Arrow_Basic a
  have pList := e_Arrow_List a
  have pPair := e_Arrow_Pair a
  have pArrow := e_Arrow_Arrow a
  have pb := e_Cell_Arrow b
  go_enter Tryz.func97,Tryz.ntmps97
  go_wp2
  go_ret
  exact ⟨rfl,World.grownBy.refl _ _⟩
theorem al_Cell (w : World) (a : Nat) (v : Value) : Calls Tryz.prog 97 #[.iface 173 (.pointer (some ⟨a,0,none⟩)),v] w fun e w' => e = .returned (.bool false) ∧ w.grownBy w' none := by
  have p1 := e_Cell_Basic a
  have p2 := e_Cell_List a
  have p3 := e_Cell_Pair a
  have p4 := e_Cell_Arrow a
  go_enter Tryz.func97,Tryz.ntmps97
  go_wp2
  go_ret
  exact ⟨rfl,World.grownBy.refl _ _⟩
def EV (H : Nat → Option Obj) (v : Value) (t : Et) : Prop := ∃ b,(t.kind = oCell ∧ v = .iface 173 (.pointer (some ⟨b,0,none⟩))) ∨ (t.kind = [] ∧ v = .iface 242 (.pointer (some ⟨b,0,none⟩)) ∧ H b = some (.cells #[.string (B t.name)] 246 (0,0)) ∧ t.name.length ≤ 300) ∨
  ((t.kind = kInt ∨ t.kind = kBool) ∧ v = .iface 275 (.pointer (some ⟨b,0,none⟩)) ∧ H b = some (.cells #[.string (B t.kind)] 277 (0,0))) ∨ (t.kind = oList ∧ v = .iface 279 (.pointer (some ⟨b,0,none⟩))) ∨ (t.kind = oPair ∧ v = .iface 291 (.pointer (some ⟨b,0,none⟩))) ∨ (t.kind = kFun ∧ v = .iface 209 (.pointer (some ⟨b,0,none⟩)))
theorem ERep.ev {lo : Nat} {H : Nat → Option Obj} {ca : List Nat} {m : Nat} {v : Value} {t : Et} (h : ERep lo H ca m v t) : EV H v t := by
  cases m with
  | zero => exact absurd h id
  | succ m =>
  obtain ⟨b,h⟩ := h
  refine ⟨b,?_⟩
  rcases h with ⟨q1,_,_,q4⟩ | ⟨q1,_,q2,_,q3,q4⟩ | ⟨q1,_,q3,q4⟩ | ⟨q1,_,_,_,_,q3,_⟩ | ⟨q1,_,_,_,_,_,_,q3,_⟩ | ⟨q1,_,_,_,_,_,_,q3,_⟩
  · exact Or.inl ⟨q1,q4⟩
  · exact Or.inr (Or.inl ⟨q1,q3,q4,q2⟩)
  · exact Or.inr (Or.inr (Or.inl ⟨q1,q3,q4⟩))
  · exact Or.inr (Or.inr (Or.inr (Or.inl ⟨q1,q3⟩)))
  · exact Or.inr (Or.inr (Or.inr (Or.inr (Or.inl ⟨q1,q3⟩))))
  · exact Or.inr (Or.inr (Or.inr (Or.inr (Or.inr ⟨q1,q3⟩))))
theorem alike_s {H : Nat → Option Obj} {u v : Value} {x y : Et} {w : World} (hu : EV H u x) (hv : EV H v y) (hz : Fz H w) (hk : x.kind ≠ []) : Calls Tryz.prog 97 #[u,v] w fun e w' => e = .returned (.bool (decide (x.kind = y.kind ∧ x.kind ≠ oCell))) ∧ w.grownBy w' none := by
  obtain ⟨a,hu⟩ := hu
  obtain ⟨b,hv⟩ := hv
  rcases hu with ⟨h1,rfl⟩ | ⟨h1,_⟩ | ⟨h1,rfl,h3⟩ | ⟨h1,rfl⟩ | ⟨h1,rfl⟩ | ⟨h1,rfl⟩
  · rw [decide_eq_false (fun e => e.2 h1)]; exact al_Cell w a v
  · exact absurd h1 hk
  · rcases hv with ⟨g1,rfl⟩ | ⟨g1,rfl,_⟩ | ⟨g1,rfl,g3⟩ | ⟨g1,rfl⟩ | ⟨g1,rfl⟩ | ⟨g1,rfl⟩
    · rw [decide_eq_false (fun e => by rcases h1 with h1 | h1 <;> exact absurd (h1.symm.trans (e.1.trans g1)) (by decide))]; exact al_Basic_Cell w a b
    · rw [decide_eq_false (fun e => by rcases h1 with h1 | h1 <;> exact absurd (h1.symm.trans (e.1.trans g1)) (by decide))]; exact al_Basic_Var w a b
    · have e : decide (x.kind = y.kind ∧ x.kind ≠ oCell) = decide (x.kind = y.kind) := by
        have h9 : x.kind ≠ oCell := by rcases h1 with h1 | h1 <;> rw [h1] <;> decide
        simp [h9]
      rw [e]
      exact al_Basic_Basic w a b _ _ (by simp [World.cell?,hz _ _ h3]) (by simp [World.cell?,hz _ _ g3])
    · rw [decide_eq_false (fun e => by rcases h1 with h1 | h1 <;> exact absurd (h1.symm.trans (e.1.trans g1)) (by decide))]; exact al_Basic_List w a b
    · rw [decide_eq_false (fun e => by rcases h1 with h1 | h1 <;> exact absurd (h1.symm.trans (e.1.trans g1)) (by decide))]; exact al_Basic_Pair w a b
    · rw [decide_eq_false (fun e => by rcases h1 with h1 | h1 <;> exact absurd (h1.symm.trans (e.1.trans g1)) (by decide))]; exact al_Basic_Arrow w a b
  · rcases hv with ⟨g1,rfl⟩ | ⟨g1,rfl,_⟩ | ⟨g1,rfl,g3⟩ | ⟨g1,rfl⟩ | ⟨g1,rfl⟩ | ⟨g1,rfl⟩
    · rw [decide_eq_false (fun e => absurd (h1.symm.trans (e.1.trans g1)) (by decide))]; exact al_List_Cell w a b
    · rw [decide_eq_false (fun e => absurd (h1.symm.trans (e.1.trans g1)) (by decide))]; exact al_List_Var w a b
    · rw [decide_eq_false (fun e => by rcases g1 with g1 | g1 <;> exact absurd (h1.symm.trans (e.1.trans g1)) (by decide))]; exact al_List_Basic w a b
    · rw [decide_eq_true ⟨by rw [h1,g1],by rw [h1]; decide⟩]; exact al_List_List w a b
    · rw [decide_eq_false (fun e => absurd (h1.symm.trans (e.1.trans g1)) (by decide))]; exact al_List_Pair w a b
    · rw [decide_eq_false (fun e => absurd (h1.symm.trans (e.1.trans g1)) (by decide))]; exact al_List_Arrow w a b
  · rcases hv with ⟨g1,rfl⟩ | ⟨g1,rfl,_⟩ | ⟨g1,rfl,g3⟩ | ⟨g1,rfl⟩ | ⟨g1,rfl⟩ | ⟨g1,rfl⟩
    · rw [decide_eq_false (fun e => absurd (h1.symm.trans (e.1.trans g1)) (by decide))]; exact al_Pair_Cell w a b
    · rw [decide_eq_false (fun e => absurd (h1.symm.trans (e.1.trans g1)) (by decide))]; exact al_Pair_Var w a b
    · rw [decide_eq_false (fun e => by rcases g1 with g1 | g1 <;> exact absurd (h1.symm.trans (e.1.trans g1)) (by decide))]; exact al_Pair_Basic w a b
    · rw [decide_eq_false (fun e => absurd (h1.symm.trans (e.1.trans g1)) (by decide))]; exact al_Pair_List w a b
    · rw [decide_eq_true ⟨by rw [h1,g1],by rw [h1]; decide⟩]; exact al_Pair_Pair w a b
    · rw [decide_eq_false (fun e => absurd (h1.symm.trans (e.1.trans g1)) (by decide))]; exact al_Pair_Arrow w a b
  · rcases hv with ⟨g1,rfl⟩ | ⟨g1,rfl,_⟩ | ⟨g1,rfl,g3⟩ | ⟨g1,rfl⟩ | ⟨g1,rfl⟩ | ⟨g1,rfl⟩
    · rw [decide_eq_false (fun e => absurd (h1.symm.trans (e.1.trans g1)) (by decide))]; exact al_Arrow_Cell w a b
    · rw [decide_eq_false (fun e => absurd (h1.symm.trans (e.1.trans g1)) (by decide))]; exact al_Arrow_Var w a b
    · rw [decide_eq_false (fun e => by rcases g1 with g1 | g1 <;> exact absurd (h1.symm.trans (e.1.trans g1)) (by decide))]; exact al_Arrow_Basic w a b
    · rw [decide_eq_false (fun e => absurd (h1.symm.trans (e.1.trans g1)) (by decide))]; exact al_Arrow_List w a b
    · rw [decide_eq_false (fun e => absurd (h1.symm.trans (e.1.trans g1)) (by decide))]; exact al_Arrow_Pair w a b
    · rw [decide_eq_true ⟨by rw [h1,g1],by rw [h1]; decide⟩]; exact al_Arrow_Arrow w a b
structure NU (w : World) (cb mb : Nat) (L : List (List UInt8)) : Prop where
  blk : w.heap[cb]? = some (.cells #[.map (some mb)] 288 (0,0))
  mp : MP w mb L
theorem NU.ne {w : World} {cb mb : Nat} {L : List (List UInt8)} (h : NU w cb mb L) : cb ≠ mb := fun e => by
  obtain ⟨es,cl,hb⟩ := h.mp.isMap
  have := h.blk
  rw [e,hb] at this
  cases this
theorem NU.gb {R : Nat → Prop} {w w' : World} {cb mb : Nat} {L : List (List UInt8)} (h : NU w cb mb L) (g : Gb R w w') (h1 : ¬ R cb) (h2 : ¬ R mb) : NU w' cb mb L := by
  refine ⟨g.at h.blk h1,?_⟩
  obtain ⟨D,q1,q2⟩ := h.mp
  have e : w'.heap[mb]? = w.heap[mb]? := g.block mb q1.lt h2
  obtain ⟨es,clock,hb,q3⟩ := q1
  exact ⟨D,⟨es,clock,by rw [e]; exact hb,q3⟩,q2⟩
theorem num_u (w : World) (cb mb : Nat) (nm : List UInt8) (L : List (List UInt8)) (hnm : nm.length ≤ 300) (h : NU w cb mb L) (hL : L.length ≤ 200) :
    Calls Tryz.prog 131 #[.string (B nm),.pointer (some ⟨cb,0,none⟩)] w fun e w' => e = .returned (.int .i64 ((ordS L nm).idxOf nm : Nat)) ∧ NU w' cb mb (ordS L nm) ∧ w.grownBy w' (some mb) := by
  have c0 : w.cell? ⟨cb,0,none⟩ = some (.map (some mb)) := by simp [World.cell?,h.blk]
  have H := hid h
  by_cases hm : nm ∈ L
  · have e : ordS L nm = L := by unfold ordS; rw [if_pos hm]
    rw [e]
    have hlk := h.mp.look_in hnm hm
    obtain ⟨ix,hixe⟩ : ∃ ix,ix = L.idxOf nm := ⟨_,rfl⟩
    rw [← hixe] at hlk ⊢
    clear h hm e hixe
    go_enter Tryz.func131,Tryz.ntmps131
    go_wp2
    go_ret
    exact ⟨rfl,H.out,World.grownBy.refl _ _⟩
  · have e : ordS L nm = L ++ [nm] := by unfold ordS; rw [if_neg hm]
    rw [e]
    have hlk := h.mp.look_out hnm hm
    have hln := fun ty => MP.len h.mp ty
    obtain ⟨w5,hst,hmp,hg5⟩ := MP.store h.mp hnm hm (by omega)
    have hix : (L ++ [nm]).idxOf nm = L.length := by rw [List.idxOf_append,if_neg hm]; simp
    rw [hix]
    have Q := hid (And.intro hmp hg5)
    clear h hm e hix hmp hg5
    go_enter Tryz.func131,Tryz.ntmps131
    go_wp2
    go_ret
    exact ⟨rfl,⟨(Gb.of (R := fun k => k = mb) Q.out.2 (fun b e => Or.inl (Option.some.inj e).symm)).at H.out.blk H.out.ne,Q.out.1⟩,Q.out.2⟩
end Go.Proofs.YtcdijppegfcoaabGreatDoor
