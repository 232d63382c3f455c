import Derived.Test.YtcdijppegfcoaabGreatDoorZC33
import Derived.Test.YtcdijppegfcoaabGreatDoorIterJ
import Derived.Deep.LoopGhost
import Derived.Test.YtcdijppegfcoaabGreatDoorZC09
import Derived.Test.YtcdijppegfcoaabGreatDoorZC00
import Derived.Test.YtcdijppegfcoaabGreatDoorZC01
import Derived.Deep.RegionWith
import Derived.Outline
import Derived.Test.YtcdijppegfcoaabGreatDoorZC07
import Derived.Test.YtcdijppegfcoaabGreatDoorZC02
import Derived.Laws.IdiomStrings
import Derived.Laws.OwnMore
import Derived.Test.YtcdijppegfcoaabGreatDoorZC17
import Derived.Test.YtcdijppegfcoaabGreatDoorZC10
import Derived.Test.YtcdijppegfcoaabGreatDoorShelfJ
import Derived.Test.YtcdijppegfcoaabGreatDoorZC31
import Derived.Test.YtcdijppegfcoaabGreatDoorZC32
set_option maxRecDepth 100000
set_option maxHeartbeats 4000000
namespace Go.Proofs.YtcdijppegfcoaabGreatDoor
open Go.RowKit
theorem map_nil (w : World) : (binOp .eql 60 (.map none) (.map none)).run Tryz.prog w = .ok (.bool true) w := by kernel_rfl
theorem map_some (b : Nat) (w : World) : (binOp .eql 60 (.map (some b)) (.map none)).run Tryz.prog w = .ok (.bool false) w := by kernel_rfl
theorem keys_c (mb : Option Nat) (W : World) : Calls Tryz.prog 25 #[.map mb] W fun e w' => e = .returned (.func (.func 43) #[] #[.pointer (some ⟨W.heap.size,0,none⟩)]) ∧ w' = W.alloc (.cells #[.map mb] 60) :=
  callsIn_wide.1 (Tryz.maps_Keys_25 mb W)
end Go.Proofs.YtcdijppegfcoaabGreatDoor
namespace Go.Proofs.YtcdijppegfcoaabGreatDoor
open Go.RowKit Go.Maps Go.Sort
def sortS (na : List (List UInt8)) : List (List UInt8) := na.mergeSort (fun x y => decide (x ≤ y))
theorem FM.perm {w : World} {mb : Nat} {ns : List (List UInt8)} {g : List (Option (List UInt8))} (h : FM w mb ns g) (hd : ns.Nodup) (hall : ∀ v,v < ns.length → (g.getD v none).isSome = true) :
    ∃ D : DataW Unit,∃ n,w.ownsMap Tryz.prog 9 tyR mb n D ∧ ns.Perm (strKeys D) ∧ Maps.size D ≤ g.length := by
  obtain ⟨D,h1,h2,h3,h4,h5⟩ := h
  refine ⟨D,_,h1,?_,by rw [h2]; exact List.length_filter_le _ _⟩
  have td := h1.tidy keyLaw
  obtain ⟨es,rfl,hp⟩ := td
  refine perm_strKeys hp (fun p hp' => ?_) hd fun x => ?_
  · have : Maps.has (.map es) p.1 = true := by
      rw [has_eq,List.any_eq_true]
      refine ⟨p,hp',?_⟩
      obtain ⟨es',e',hk⟩ := h1.keysOf
      cases e'
      obtain ⟨key,hkey⟩ := hk p hp'
      obtain ⟨y,_,hy,_⟩ := Maps.keyOf_str Tryz.underlying9 hkey
      rw [hy]
      simp [Lit.sameKey]
    obtain ⟨v,_,hv⟩ := h5 _ this
    exact ⟨_,hv⟩
  · constructor
    · intro hx
      have hi := List.idxOf_lt_length_of_mem hx
      have e : ns.getD (ns.idxOf x) [] = x := by simp [List.getD,List.getElem?_eq_getElem hi]
      have := h3 (ns.idxOf x) hi
      rw [e,hall _ hi] at this
      exact this
    · intro hx
      obtain ⟨v,hv,e⟩ := h5 _ hx
      have e2 : x = ns.getD v [] := by simpa using e
      rw [e2]
      exact getD_mem hv
theorem sorted_some (W : World) (mb : Nat) (ns : List (List UInt8)) (g : List (Option (List UInt8))) (h : FM W mb ns g) (hd : ns.Nodup) (hall : ∀ v,v < ns.length → (g.getD v none).isSome = true) (hgl : g.length ≤ 1000) :
    Calls Tryz.prog 24 #[.func (.func 43) #[] #[.pointer (some ⟨W.heap.size,0,none⟩)]] (W.alloc (.cells #[.map (some mb)] 60)) fun e w' => ∃ v,e = .returned v ∧
      w'.ownsRow (W.alloc (.cells #[.map (some mb)] 60)).heap.size 9 1 v (sortS ns).length (strs (sortS ns)) ∧ (W.alloc (.cells #[.map (some mb)] 60)).grownBy w' none := by
  obtain ⟨D,n,h1,h2,h3⟩ := h.perm hd hall
  refine (callsIn_wide.1 (Tryz.slices_Sorted_keys_24_25 mb n D tyR W h1 (by unfold maxLen; omega) (by omega))).mono ?_
  rintro e w' ⟨v,ss,rfl,hp,hrow,_,hb⟩
  have e1 : ss.mergeSort (fun x y => decide (x ≤ y)) = sortS ns := mergeSort_of_perm (hp.trans h2.symm)
  have e2 : ss.length = (sortS ns).length := by rw [← e1,List.length_mergeSort]
  have e3 : (sortS ns).map encStr = strs (sortS ns) := by
    unfold strs
    refine List.map_congr_left fun x _ => ?_
    rfl
  rw [e1,e2,e3] at hrow
  exact ⟨v,rfl,hrow,hb.os,hb.tape,hb.output,hb.size,fun k hk _ => hb.block k hk⟩
theorem FM.same {w w' : World} {mb : Nat} {ns : List (List UInt8)} {g : List (Option (List UInt8))} (h : FM w mb ns g) (e : w'.heap[mb]? = w.heap[mb]?) : FM w' mb ns g := by
  obtain ⟨D,⟨es,clock,hb,h1⟩,h2⟩ := h
  exact ⟨D,⟨es,clock,e.trans hb,h1⟩,h2⟩
theorem typed_field (s : ByteArray) (w : World) : (Instr.field 68 (.agg #[.string s]) 0).run Tryz.prog w = .ok (.string s) w := by kernel_rfl
theorem SW.gn {w w' : World} {ad : Nat → Addr} {cs : Nat → Array Value} {ts : Nat → TypeId} (h : SW w ad cs ts) (hg : Gn w w') : SW w' ad cs ts := by
  have c : ∀ {b : Nat} {v : Value},b < 8 + 1 → w.cell? ⟨b,0,none⟩ = some v → w'.cell? ⟨b,0,none⟩ = some v := fun {b v} hl e => by
    rw [World.cell?_of_block (a := ⟨b,0,none⟩) (hg.block b (Nat.lt_of_lt_of_le hl h.hsz))]
    exact e
  exact ⟨c (by decide) h.g0,c (by decide) h.g1,c (by decide) h.g2,c (by decide) h.g3,c (by decide) h.g4,c (by decide) h.g5,c (by decide) h.g6,c (by decide) h.g7,c (by decide) h.hE,
    fun k hk => by rw [hg.block _ (lt_of_block (h.hb k hk))]; exact h.hb k hk,h.hne,Nat.le_trans h.hsz hg.size⟩
def shapeB : Nat → Ex → Bool
  | 0,_ => false
  | m + 1,x => (((decide (x.op = kName) || decide (x.op = kNum)) && decide (x.names.length = 1)) || (decide (x.op = kFun) && decide (x.names.length = 1) && decide (x.kids.length = 1)) || (decide (x.op = oPair) && decide (x.kids.length = 2)) || (decide (x.op = kIf) && decide (x.kids.length = 3)) || (decide (x.op = oApp) && decide (x.kids.length = 2)) ||
      ((decide (x.op = kLet) || decide (x.op = kRec)) && decide (0 < x.names.length) && decide (x.kids.length = x.names.length + 1))) && x.kids.all (shapeB m)
theorem shapeB_ok : ∀ (m : Nat) (x : Ex),shapeB m x = true → Shape m x
  | 0,_,h => by cases h
  | m + 1,x,h => by
    simp only [shapeB,Bool.and_eq_true,Bool.or_eq_true,decide_eq_true_eq,List.all_eq_true] at h
    obtain ⟨h1,h2⟩ := h
    refine ⟨?_,fun y hy => shapeB_ok m y (h2 y hy)⟩
    rcases h1 with ((((h | h) | h) | h) | h) | h
    · exact Or.inl h
    · exact Or.inr (Or.inl ⟨h.1.1,h.1.2,h.2⟩)
    · exact Or.inr (Or.inr (Or.inl h))
    · exact Or.inr (Or.inr (Or.inr (Or.inl h)))
    · exact Or.inr (Or.inr (Or.inr (Or.inr (Or.inl h))))
    · exact Or.inr (Or.inr (Or.inr (Or.inr (Or.inr ⟨h.1.1,h.1.2,h.2⟩))))
def tyOkB (N : Nat) : Nat → Ty → Bool
  | 0,_ => false
  | m + 1,t => match t.kids with
    | [] => (decide (t.kind = []) && decide (t.var < N)) || ((decide (t.kind = kInt) || decide (t.kind = kBool)) && decide (t.var = 0))
    | [a] => decide (t.kind = oList) && decide (t.var = 0) && tyOkB N m a
    | [a,b] => (decide (t.kind = oPair) || decide (t.kind = kFun)) && decide (t.var = 0) && tyOkB N m a && tyOkB N m b
    | _ => false
theorem tyOkB_ok (N : Nat) : ∀ (m : Nat) (t : Ty),tyOkB N m t = true → TyOk N m t
  | 0,_,h => by cases h
  | m + 1,t,h => by
    unfold tyOkB at h
    split at h
    · rename_i hk
      simp only [Bool.and_eq_true,Bool.or_eq_true,decide_eq_true_eq] at h
      rcases h with h | h
      · exact Or.inl ⟨h.1,h.2,hk⟩
      · exact Or.inr (Or.inl ⟨h.1,h.2,hk⟩)
    · rename_i a hk
      simp only [Bool.and_eq_true,decide_eq_true_eq] at h
      exact Or.inr (Or.inr (Or.inl ⟨h.1.1,h.1.2,a,hk,tyOkB_ok N m a h.2⟩))
    · rename_i a b hk
      simp only [Bool.and_eq_true,Bool.or_eq_true,decide_eq_true_eq] at h
      exact Or.inr (Or.inr (Or.inr ⟨h.1.1.1,h.1.1.2,a,b,hk,tyOkB_ok N m a h.1.2,tyOkB_ok N m b h.2⟩))
    · cases h
def ROut (w w' : World) (s2 : St) (e : Ending) (ex : Ex) (bd : Addr) : Prop :=
  w.grownBy w' none ∧ ((0 ≤ s2.bad ∧ ∃ b,e = .returned (.tuple #[.nilIface,.iface 81 (.pointer (some ⟨b,0,none⟩))]) ∧ w'.heap[b]? = some (.cells #[.int .i64 s2.bad] 92 (0,0))) ∨
    (s2.bad < 0 ∧ ∃ v H' m,Fz H' w' ∧ PRep m H' v ex ∧ exDeep m ex ≤ 400 ∧ ((40 < exDeep m ex ∧ e = .returned (.tuple #[.nilIface,errV bd])) ∨ (exDeep m ex ≤ 40 ∧ e = .returned (.tuple #[v,.nilIface])))))
theorem read_p (s : ByteArray) (hs : s.size ≤ 300) (w : World) (n : Nat) (ex : Ex) (s1 : St) (hx : expS (toksOf exKw s) n ⟨0,-1⟩ = some (ex,s1)) (bd : Addr) (hg : w.cell? ⟨1,0,none⟩ = some (errV bd)) (hgl : 1 < w.heap.size) :
    Calls Tryz.prog 44 #[.string s] w fun e w' => ROut w w' (needS (toksOf exKw s) s1 kEnd) e ex bd := by
  have HC := hid (whole_p s hs w n ex s1 hx)
  clear hx
  go_enter Tryz.func44,Tryz.ntmps44
  go_wp2_with fail
  refine HC.out.mono ?_
  rintro e w1 ⟨g1,(⟨hb,v,H',m,rfl,z1,r1,d1⟩ | ⟨hb,b,rfl,hbk⟩)⟩
  · obtain ⟨t1,b1,ht1,rfl,hb1,hc1⟩ := r1.dat z1
    have hg1 : w1.cell? ⟨1,0,none⟩ = some (errV bd) := by
      rw [World.cell?_of_block (a := ⟨1,0,none⟩) (g1.block _ hgl (by simp))]
      exact hg
    have hg2 := cell_past hg1 (.cells #[.int .i64 ((exDeep m ex : Nat) : Int)] 161)
    have hme := mDepth_any ht1 b1 (exDeep m ex) _ hc1
    have Q := hid (And.intro hb (And.intro z1 (And.intro r1 d1)))
    have G1 := hid g1
    clear hb z1 r1 g1 hg hg1 hb1 hc1 HC
    unfold errV at hg2
    by_cases hd : 40 < exDeep m ex
    · have hd2 : (40 : Int) < ((exDeep m ex : Nat) : Int) := by omega
      go_wp2_with (go_at_call 241; refine (depth_p _ _).mono ?_; rintro e w' ⟨rfl,rfl⟩)
      go_region
      go_wp2
      go_ret2
      obtain ⟨hb,z1,r1,d1⟩ := Q.out
      exact ⟨grown_drew (G1.out.trans (World.grownBy_alloc _ _ _)),Or.inr ⟨hb,_,H',m,(z1.alloc _).drew,r1,d1,Or.inl ⟨hd,rfl⟩⟩⟩
    · have hd2 : ¬ (40 : Int) < ((exDeep m ex : Nat) : Int) := by omega
      go_wp2_with (go_at_call 241; refine (depth_p _ _).mono ?_; rintro e w' ⟨rfl,rfl⟩)
      go_ret2
      obtain ⟨hb,z1,r1,d1⟩ := Q.out
      exact ⟨G1.out.trans (World.grownBy_alloc _ _ _),Or.inr ⟨hb,_,H',m,z1.alloc _,r1,d1,Or.inr ⟨by omega,rfl⟩⟩⟩
  · have Q := hid (And.intro g1 (And.intro hb hbk))
    clear g1 hb hbk HC
    go_wp2
    go_ret2
    exact ⟨Q.out.1,Or.inl ⟨Q.out.2.1,b,rfl,Q.out.2.2⟩⟩
theorem strs_step {ys : List (List UInt8)} {j : Nat} {y : List UInt8} (h : ys[j]? = some y) : strs (ys.take (j + 1)) = strs (ys.take j) ++ [.string (B y)] := by
  rw [List.take_add_one,h]
  simp [strs]
theorem PRep.valT {m : Nat} {H : Nat → Option Obj} {u : Value} {y : Ex} (h : PRep m H u y) : ∃ t b,u = (.iface t (.pointer (some ⟨b,0,none⟩))) := by
  cases m with
  | zero => exact absurd h id
  | succ m =>
    obtain ⟨b,vs,h1,_⟩ := h
    exact ⟨_,b,h1⟩
theorem text_le {n m : Nat} {x : Ex} (h : Shape n x) (hm : n ≤ m) : exText m x = exText n x := by
  have hs : ∀ k,Shape (n + k) x ∧ exText (n + k) x = exText n x := by
    intro k
    induction k with
    | zero => exact ⟨h,rfl⟩
    | succ k ih =>
      have := more_fuel _ _ ih.1
      exact ⟨this.1,this.2.1.trans ih.2⟩
  have := (hs (m - n)).2
  rw [show n + (m - n) = m from by omega] at this
  exact this
theorem text_same {n m : Nat} {x : Ex} (h : Shape n x) (h' : Shape m x) : exText n x = exText m x ∧ exDeep n x = exDeep m x := by
  rcases Nat.le_total n m with hl | hl
  · exact ⟨(text_le h hl).symm,(deep_le h hl).symm⟩
  · exact ⟨text_le h' hl,deep_le h' hl⟩
theorem exp_have (s : ByteArray) (hs : s.size ≤ 300) : ∃ x s1,expS (toksOf exKw s) (s.size + 2) ⟨0,-1⟩ = some (x,s1) ∧ ((needS (toksOf exKw s) s1 kEnd).bad < 0 → ∃ m c,Nice m x c ∧ c ≤ 400) := by
  obtain ⟨f1,f2,f3⟩ := toks_facts exKw s (s.size + 1) 0 (Nat.zero_le _) (by omega)
  have hlen := toksOf_len exKw s
  obtain ⟨x,s1,e,r⟩ := exp_tot (T := toksOf exKw s) f1 f2 (by omega) (s.size + 2) ⟨0,-1⟩ ⟨f1.1,Or.inl (by show (toksOf exKw s).length - 0 + 1 ≤ s.size + 2; omega)⟩
  refine ⟨x,s1,e,fun hb => ?_⟩
  have hb1 : s1.bad < 0 := by
    rcases Int.lt_or_le s1.bad 0 with h | h
    · exact h
    · rw [need_bad h] at hb
      omega
  obtain ⟨_,_,m,hm⟩ := r.2.2 hb1
  exact ⟨m,_,hm,by have := r.2.1; show s1.k - 0 ≤ 400; omega⟩
theorem unbound_num (nb : Nat) (f : Value) (w : World) : Calls Tryz.prog 71 #[.iface 175 (.pointer (some ⟨nb,0,none⟩)),f] w fun e w' => e = .returned (.pointer none) ∧ w' = w := by
  have a1 := nA_Name nb
  have a2 := nA_Fun nb
  have a3 := nA_If nb
  have a4 := nA_Let nb
  have a5 := nA_LetRec nb
  have a6 := nA_Apply nb
  have a7 := nA_Pair nb
  go_enter Tryz.func71,Tryz.ntmps71
  go_wp2
  go_ret
  exact ⟨rfl,rfl⟩
theorem ptr_nil (w : World) : (binOp .eql 157 (.pointer none) (.pointer none)).run Tryz.prog w = .ok (.bool true) w := by kernel_rfl
theorem FM.len {w : World} {mb : Nat} {ns : List (List UInt8)} {g : List (Option (List UInt8))} (h : FM w mb ns g) : (Builtin.len_ #[60] 3 #[.map (some mb)]).run Tryz.prog w = .ok (.int .i64 ((g.filter Option.isSome).length : Nat)) w := by
  obtain ⟨D,h1,h2,_⟩ := h
  rw [← h2]
  exact h1.len (t := 60) Tryz.underlying60 _
theorem qe_up {N : Nat} {ns : List (List UInt8)} : ∀ (m : Nat) (x : Ty),TyOk N m x → qe ns (m + 1) x = qe ns m x
  | 0,_,h => absurd h id
  | m + 1,x,h => by
    have e1 : qe ns (m + 1 + 1) x = if x.kind = [] then vT (ns.getD x.var []) else ⟨x.kind,[],0,x.kids.map (qe ns (m + 1))⟩ := rfl
    have e2 : qe ns (m + 1) x = if x.kind = [] then vT (ns.getD x.var []) else ⟨x.kind,[],0,x.kids.map (qe ns m)⟩ := rfl
    rw [e1,e2]
    rcases h with ⟨h1,_⟩ | ⟨h1,_,h3⟩ | ⟨h1,h2,a,h3,h4⟩ | ⟨h1,h2,a,b,h3,h4,h5⟩
    · rw [if_pos h1,if_pos h1]
    · rw [h3]; rfl
    · rw [h3]; simp only [List.map_cons,List.map_nil]; rw [qe_up m a h4]
    · rw [h3]; simp only [List.map_cons,List.map_nil]; rw [qe_up m a h4,qe_up m b h5]
theorem qe_le {N : Nat} {ns : List (List UInt8)} {m : Nat} {x : Ty} (h : TyOk N m x) : ∀ k,qe ns (m + k) x = qe ns m x
  | 0 => rfl
  | k + 1 => by rw [← Nat.add_assoc,qe_up (m + k) x (h.le (by omega)),qe_le h k]
theorem qe_same {N N' : Nat} {ns : List (List UInt8)} {m m' : Nat} {x : Ty} (h : TyOk N m x) (h' : TyOk N' m' x) : qe ns m x = qe ns m' x := by
  rw [← qe_le h m',← qe_le h' m,Nat.add_comm]
def etK (s : List UInt8) : Option Et :=
  match arrS (toksOf tyKw (B s)) (s.length + 2) [] ⟨0,-1⟩ with
  | none => none
  | some (x,ns,s1) => if (decide ((needS (toksOf tyKw (B s)) s1 kEnd).bad < 0) && tyOkB ns.length 60 x && decide (tySize 60 x ≤ 120)) = true then some (qe ns 60 x) else none
theorem read_e {s : List UInt8} {t : Et} (hs : s.length ≤ 300) (h : etK s = some t) (w : World) (ad : Nat → Addr) (cs : Nat → Array Value) (ts : Nat → TypeId) (S : SW w ad cs ts) :
    Calls Tryz.prog 35 #[.string (B s)] w fun e w' => w.grownBy w' none ∧ ∃ u H,e = .returned (.tuple #[u,.nilIface]) ∧ Fz H w' ∧ ER H [] u t := by
  have hz : (B s).size = s.length := size_B s
  obtain ⟨x,ns,s1,hx,hk⟩ := ty_have2 (B s)
  unfold etK at h
  rw [← hz,hx] at h
  simp only at h
  split at h
  · rename_i hc
    cases h
    simp only [Bool.and_eq_true,decide_eq_true_eq] at hc
    obtain ⟨⟨a1,a2⟩,a3⟩ := hc
    have ok := tyOkB_ok _ 60 x a2
    refine (read_t (B s) x ns w ad cs ts S ⟨by omega,s1,hx,hk,a1,fun N m ok' => by rw [(ty_same ok' ok).1]; exact a3⟩).mono ?_
    rintro e w' ⟨g,u,H,m,rfl,z,q,ok',_⟩
    refine ⟨g,u,H,rfl,z,m,?_⟩
    rw [← qe_same ok' ok]
    exact QRep.et m u x q
  · cases h
def uni (H H2 : Nat → Option Obj) (k : Nat) : Option Obj := match H k with
  | some o => some o
  | none => H2 k
theorem uni_l {H H2 : Nat → Option Obj} : ∀ k o,H k = some o → uni H H2 k = some o := fun k o e => by unfold uni; rw [e]
theorem uni_r {H H2 : Nat → Option Obj} {w : World} (h1 : Fz H w) (h2 : Fz H2 w) : ∀ k o,H2 k = some o → uni H H2 k = some o := fun k o e => by
  unfold uni
  cases e1 : H k with
  | none => exact e
  | some o' =>
    have a := h1 k o' e1
    rw [h2 k o e] at a
    exact a.symm
theorem uni_fz {H H2 : Nat → Option Obj} {w : World} (h1 : Fz H w) (h2 : Fz H2 w) : Fz (uni H H2) w := fun k o e => by
  unfold uni at e
  cases e1 : H k with
  | none => rw [e1] at e; exact h2 k o e
  | some o' => rw [e1] at e; cases e; exact h1 k _ e1
theorem ER.ext {H H' : Nat → Option Obj} {ca : List Nat} {v : Value} {t : Et} (h : ER H ca v t) (e : ∀ k o,H k = some o → H' k = some o) : ER H' ca v t := by
  obtain ⟨m,h⟩ := h
  exact ⟨m,ERep.ext (Nat.le_refl _) e (List.prefix_refl _) m v t h⟩
def wo (H : Nat → Option Obj) (mb : Nat) (k : Nat) : Option Obj := if k = mb then none else H k
theorem er_wo {H : Nat → Option Obj} {ca : List Nat} {mb : Nat} (hm : ∀ cs T z,H mb ≠ some (.cells cs T z)) : ∀ (m : Nat) (v : Value) (t : Et),ERep 0 H ca m v t → ERep 0 (wo H mb) ca m v t := by
  have hw : ∀ k cs T z,H k = some (.cells cs T z) → wo H mb k = some (.cells cs T z) := fun k cs T z e => by
    unfold wo
    rw [if_neg (fun e2 => hm cs T z (by rw [← e2]; exact e))]
    exact e
  intro m
  induction m with
  | zero => exact fun _ _ h => h
  | succ m ih =>
    intro v t h
    obtain ⟨b,h⟩ := h
    refine ⟨b,?_⟩
    rcases h with h | ⟨h1,h2,h3,h4,h5,h6⟩ | ⟨h1,h2,h3,h4⟩ | ⟨h1,hlo,a,u,h2,h3,h4,h5⟩ | ⟨h1,hlo,a,a2,u,z,h2,h3,h4,h5,h6⟩ | ⟨h1,hlo,a,a2,u,z,h2,h3,h4,h5,h6⟩
    · exact Or.inl h
    · exact Or.inr (Or.inl ⟨h1,h2,h3,h4,h5,hw _ _ _ _ h6⟩)
    · exact Or.inr (Or.inr (Or.inl ⟨h1,h2,h3,hw _ _ _ _ h4⟩))
    · exact Or.inr (Or.inr (Or.inr (Or.inl ⟨h1,hlo,a,u,h2,h3,hw _ _ _ _ h4,ih u a h5⟩)))
    · exact Or.inr (Or.inr (Or.inr (Or.inr (Or.inl ⟨h1,hlo,a,a2,u,z,h2,h3,hw _ _ _ _ h4,ih u a h5,ih z a2 h6⟩))))
    · exact Or.inr (Or.inr (Or.inr (Or.inr (Or.inr ⟨h1,hlo,a,a2,u,z,h2,h3,hw _ _ _ _ h4,ih u a h5,ih z a2 h6⟩))))
structure SCJ (ge : List (List UInt8 × Et)) (K : List (List UInt8)) (mb : Nat) (w3 : World) (j : Nat) (wi : World) (gv : List (List UInt8 × Value)) (H : Nat → Option Obj) : Prop where
  gm : GM kS (fun v => .agg #[v]) 9 wi mb gv
  len : gv.length ≤ j
  yes : ∀ nm,nm ∈ K.take j → ∃ v t,getL gv nm = some v ∧ getL ge nm = some t ∧ ER H [] v t
  no : ∀ nm,nm ∉ K.take j → getL gv nm = none
  fz : Fz H wi
  off : H mb = none
  gb : Gb (fun k => k = mb) w3 wi
theorem SCJ.start {ge : List (List UInt8 × Et)} {K : List (List UInt8)} {mb : Nat} {w3 : World} (h : GM kS (fun v => .agg #[v]) 9 w3 mb ([] : List (List UInt8 × Value))) : SCJ ge K mb w3 0 w3 [] (fun _ => none) :=
  ⟨h,Nat.le_refl _,(fun nm h => by cases h),(fun nm _ => rfl),(fun k o e => by cases e),rfl,Gb.refl _ _⟩
theorem SCJ.grown {ge : List (List UInt8 × Et)} {K : List (List UInt8)} {mb j : Nat} {w3 wi w' : World} {gv : List (List UInt8 × Value)} {H : Nat → Option Obj} (h : SCJ ge K mb w3 j wi gv H) (g : wi.grownBy w' none) : SCJ ge K mb w3 j w' gv H :=
  ⟨h.gm.gb (R := fun _ => False) (Gb.new g) id,h.len,h.yes,h.no,h.fz.grown g,h.off,h.gb.tr (Gb.new g)⟩
theorem SCJ.next {ge : List (List UInt8 × Et)} {K : List (List UInt8)} {mb j : Nat} {w3 wi w' : World} {gv : List (List UInt8 × Value)} {H H2 : Nat → Option Obj} {u : Value} {t : Et} {k : List UInt8} (h : SCJ ge K mb w3 j wi gv H) (z2 : Fz H2 wi) (er : ER H2 [] u t) (hk : K[j]? = some k) (hge : getL ge k = some t) (hgm : GM kS (fun v => .agg #[v]) 9 w' mb (putL gv k u)) (g : wi.grownBy w' (some mb)) :
    SCJ ge K mb w3 (j + 1) w' (putL gv k u) (uni H (wo H2 mb)) := by
  obtain ⟨es,cl,hmp⟩ := h.gm.isMap
  have hm2 : ∀ cs T z,H2 mb ≠ some (.cells cs T z) := fun cs T z e => by have := z2 _ _ e; rw [hmp] at this; cases this
  have z3 : Fz (wo H2 mb) wi := fun k o e => by
    unfold wo at e
    split at e
    · cases e
    · exact z2 k o e
  have zu := uni_fz h.fz z3
  have hoff : uni H (wo H2 mb) mb = none := by unfold uni wo; rw [h.off]; simp
  refine ⟨hgm,?_,fun nm hnm => ?_,fun nm hnm => ?_,fun k o e => ?_,hoff,h.gb.tr (Gb.of g (fun b e => Or.inl (by cases e; rfl)))⟩
  · rw [putL_len]
    have := h.len
    split <;> omega
  · rw [getL_put]
    by_cases e : k = nm
    · rw [if_pos e]
      obtain ⟨m,er⟩ := er
      exact ⟨u,t,rfl,by rw [← e]; exact hge,ER.ext ⟨m,er_wo hm2 m u t er⟩ (uni_r h.fz z3)⟩
    · rw [if_neg e]
      have hnm2 : nm ∈ K.take j := by
        rw [List.take_add_one,hk] at hnm
        rcases List.mem_append.1 hnm with h1 | h1
        · exact h1
        · simp at h1; exact absurd h1.symm e
      obtain ⟨v,t',a,b,c⟩ := h.yes nm hnm2
      exact ⟨v,t',a,b,c.ext uni_l⟩
  · rw [getL_put]
    rw [List.take_add_one,hk] at hnm
    rw [if_neg (fun e => hnm (List.mem_append.2 (Or.inr (by simp [e]))))]
    exact h.no nm (fun h1 => hnm (List.mem_append.2 (Or.inl h1)))
  · rw [g.block k (lt_of_block (zu k o e)) (fun e2 => by cases e2; rw [hoff] at e; cases e)]
    exact zu k o e
def EnvOk (na : List (List UInt8)) (g : List (Option (List UInt8))) (ge : List (List UInt8 × Et)) : Prop :=
  (∀ k,k ∈ na → k.length ≤ 300 ∧ (∀ W,Calls Tryz.prog 70 #[.string (B k)] W fun e w' => e = .returned (.bool true) ∧ W.grownBy w' none) ∧ ∃ i tx t,i < na.length ∧ na.getD i [] = k ∧ g.getD i none = some tx ∧ tx.length ≤ 300 ∧ etK tx = some t ∧ getL ge k = some t) ∧ ∀ k,k ∉ na → getL ge k = none
theorem sortS_mem (na : List (List UInt8)) (k : List UInt8) : k ∈ sortS na ↔ k ∈ na := by
  unfold sortS
  exact (List.mergeSort_perm ..).mem_iff
theorem schemes_ok (na : List (List UInt8)) (g : List (Option (List UInt8))) (ge : List (List UInt8 × Et)) (w : World) (mb : Nat) (F : FM w mb na g) (hd : na.Nodup) (hall : ∀ v,v < na.length → (g.getD v none).isSome = true) (hgl : g.length = na.length) (hL : na.length ≤ 1000) (EO : EnvOk na g ge)
    (hmk : (Instr.makeMap 104 (some (.int .i64 ((g.filter Option.isSome).length : Nat)))).run Tryz.prog w = .ok (.map (some w.heap.size)) (w.alloc (.map #[] 0))) (ad : Nat → Addr) (cs : Nat → Array Value) (ts : Nat → TypeId) (S : SW w ad cs ts) :
    Calls Tryz.prog 45 #[.map (some mb)] w fun e w' => w.grownBy w' none ∧ ∃ b H,e = .returned (.tuple #[.map (some b),.nilIface]) ∧ Fz H w' ∧ GE2 H w' b ge := by
  have hlen := FM.len F
  generalize (g.filter Option.isSome).length = nl at hlen hmk
  have CS := hid (sorted_some (w.alloc (.map #[] 0)) mb na g (F.kept (World.grownBy_alloc _ _ none) (by simp)) hd hall (by omega))
  rw [show (w.alloc (.map #[] 0)).heap.size = w.heap.size + 1 by simp] at CS
  have hml := F.lt
  have hKl : (sortS na).length = na.length := by unfold sortS; rw [List.length_mergeSort]
  have HX := hid (fun (k : List UInt8) (hk : k ∈ sortS na) => EO.1 k ((sortS_mem na k).1 hk))
  have HN := hid (fun (k : List UInt8) (hk : k ∉ sortS na) => EO.2 k (fun e => hk ((sortS_mem na k).2 e)))
  have HF := hid (And.intro F S)
  clear F hd hall EO S
  obtain ⟨K,hK⟩ : ∃ K,K = sortS na := ⟨_,rfl⟩
  rw [← hK] at hKl CS HX HN
  clear hK
  go_enter Tryz.func45,Tryz.ntmps45
  go_wp2_with fail
  refine (keys_c (some mb) _).mono ?_
  rintro e w2 ⟨rfl,rfl⟩
  go_wp2_with fail
  refine CS.out.mono ?_
  rintro e w3 ⟨vs,rfl,hrow,g3⟩
  obtain ⟨ao,cp,rfl,hview⟩ := own_view hrow
  have G3 := hid (And.intro (((World.grownBy_alloc w (.map #[] 0) none).trans (World.grownBy_alloc _ _ none)).trans g3) (And.intro hview (GM.gb (R := fun _ => False) (GM.new (kl := kS) (ev := fun v : Value => .agg #[v]) (k := 9) (w := w)) (Gb.new ((World.grownBy_alloc _ _ none).trans g3)) id)))
  have hs3 : w.heap.size < w3.heap.size := by have := g3.size; simp at this; omega
  clear g3 CS hrow hview
  have hKL : K.length ≤ 1000 := by omega
  have hbase : ((w.alloc (.map #[] 0)).alloc (.cells #[.map (some mb)] 60)).heap.size = w.heap.size + 2 := by simp
  rw [hbase] at G3
  clear hKl hgl hL hbase
  go_wp2_with fail
  go_loopg [16] (K.length + 1) (fun gh i wi => ∃ (j : Nat),j ≤ K.length ∧ i = .int .i64 j ∧ gh = K.length - j + 1 ∧ Hid (∃ gv H,SCJ ge K w.heap.size w3 j wi gv H))
  case atStart => exact ⟨0,by omega,rfl,by omega,hid ⟨_,_,SCJ.start G3.out.2.2⟩⟩
  case round =>
    obtain ⟨j,hj,rfl,hgj,HS⟩ := hrel
    by_cases hjl : j < K.length
    · obtain ⟨gv,H,s⟩ := HS.out
      obtain ⟨gn,rfl,hbn,hgn,hcell⟩ := G3.out.2.1 j hjl
      have hcj := s.gb.cell hcell hgn (by omega)
      have hk0 : K[j]? = some (K.getD j []) := by rw [List.getD_eq_getElem?_getD,List.getElem?_eq_getElem hjl]; rfl
      obtain ⟨h300,IN,i,tx,t,hi,hik,hit,htx,het,hge⟩ := HX.out _ (List.mem_of_getElem? hk0)
      have gw : w.grownBy wr none := ((Gb.new (R := fun k => w.heap.size ≤ k) G3.out.1).tr (s.gb.mono (fun k e => by omega))).none
      have HI := hid IN
      have LK := hid (show ∀ W : World,w.grownBy W none → (Instr.lookup 60 (.map (some mb)) (.string (B (K.getD j []))) false).run Tryz.prog W = .ok (.agg #[.string (B tx)]) W from fun W gW => by
        have := (HF.out.1.kept gW (by simp)).look1 hi (by rw [hik]; exact h300) hit
        rw [hik] at this
        exact this)
      have RD := hid (fun (W : World) (gW : w.grownBy W none) => read_e htx het W ad cs ts (HF.out.2.grown gW))
      have Q := hid (And.intro s (And.intro gw (And.intro hk0 (And.intro h300 hge))))
      clear s gw hcell IN hi hik hit htx het hge hk0 h300 HS
      generalize K.getD j [] = k at *
      go_wp2_with fail
      refine (HI.out _).mono ?_
      rintro e w4 ⟨rfl,g4⟩
      have G4 := hid (And.intro g4 (Q.out.2.1.trans g4))
      have lk := LK.out _ G4.out.2
      have tf := typed_field (B tx)
      clear g4 LK HI
      go_wp2_with fail
      refine (RD.out _ G4.out.2).mono ?_
      rintro e w5 ⟨g5,u,H2,rfl,z2,er⟩
      have s5 := (Q.out.1.grown G4.out.1).grown g5
      obtain ⟨w6,hup,hgm,g6⟩ := GM.store s5.gm strLaw Tryz.underlying104 kS_inj kS_lit (by have := s5.len; omega) u (kS_key Q.out.2.2.2.1)
      have N := hid (s5.next z2 er Q.out.2.2.1 Q.out.2.2.2.2 hgm g6)
      obtain ⟨T0,b0,_,rfl⟩ := er_val er
      clear g5 z2 er s5 hgm g6 RD G4 Q lk
      go_wp2
      go_roundg (K.length - (j + 1) + 1)
      case measure => omega
      case rel => exact ⟨j + 1,by omega,by go_num,rfl,hid ⟨_,_,N.out⟩⟩
    · have hje : j = K.length := by omega
      subst hje
      go_wp2
      go_ret2
      obtain ⟨gv,H,s⟩ := HS.out
      refine ⟨((Gb.new (R := fun k => w.heap.size ≤ k) G3.out.1).tr (s.gb.mono (fun k e => by omega))).none,_,H,rfl,s.fz,gv,s.gm,fun nm => ?_⟩
      have hyes := s.yes nm
      have hno := s.no nm
      rw [List.take_length] at hyes hno
      by_cases hm : nm ∈ K
      · exact Or.inr (hyes hm)
      · exact Or.inl ⟨hno hm,HN.out nm hm⟩
def exK (s : List UInt8) : Option Ex :=
  match expS (toksOf exKw (B s)) (s.length + 2) ⟨0,-1⟩ with
  | none => none
  | some (x,s1) => if (decide ((needS (toksOf exKw (B s)) s1 kEnd).bad < 0) && shapeB 60 x && decide (exDeep 60 x ≤ 40)) = true then some x else none
theorem read_x {s : List UInt8} {x : Ex} (hs : s.length ≤ 300) (h : exK s = some x) (w : World) (ad : Nat → Addr) (cs : Nat → Array Value) (ts : Nat → TypeId) (S : SW w ad cs ts) :
    Calls Tryz.prog 44 #[.string (B s)] w fun e w' => w.grownBy w' none ∧ ∃ v H m,e = .returned (.tuple #[v,.nilIface]) ∧ Fz H w' ∧ PRep m H v x := by
  have hz : (B s).size = s.length := size_B s
  obtain ⟨x',s1,hx,hni⟩ := exp_have (B s) (by omega)
  unfold exK at h
  rw [← hz,hx] at h
  simp only at h
  split at h
  · rename_i hc
    cases h
    simp only [Bool.and_eq_true,decide_eq_true_eq] at hc
    obtain ⟨⟨a1,a2⟩,a3⟩ := hc
    refine (read_p (B s) (by omega) w _ x s1 hx (ad 1) S.g1 (Nat.lt_of_lt_of_le (by decide) S.hsz)).mono ?_
    rintro e w' ⟨g,(⟨hb,_⟩ | ⟨_,v,H',m,z1,r1,d1,hd⟩)⟩
    · omega
    · have e1 := (text_same (PRep.shape m v x r1) (shapeB_ok 60 x a2)).2
      rcases hd with ⟨hd,_⟩ | ⟨_,rfl⟩
      · omega
      · exact ⟨g,v,H',m,rfl,z1,r1⟩
  · cases h
end Go.Proofs.YtcdijppegfcoaabGreatDoor
