import Derived.Test.YtcdijppegfcoaabGreatDoorZK37
import Derived.Test.YtcdijppegfcoaabGreatDoorZK26
import Derived.Test.YtcdijppegfcoaabGreatDoorZK36
import Derived.Maps.RangeWalk
import Derived.Laws.IdiomRangeMap
import Derived.Deep.LoopGhost
import Derived.WalkKit
import Derived.Maps.Ext
set_option maxRecDepth 100000
set_option maxHeartbeats 4000000
namespace Go.Proofs.YtcdijppegfcoaabGreatDoor
open Go.RowKit
theorem ptr_nil1 (a : Addr) (w : World) : (binOp .eql 157 (.pointer (some a)) (.pointer none)).run Tryz.prog w = .ok (.bool false) w := by kernel_rfl
def AKP (r : UR) (w : World) (e : Ending) (w' : World) : Prop := w.grownBy w' none ∧ match r with
  | none => e = .returned .nilIface
  | some y => ∃ b,e = .returned (.iface 82 (.pointer (some ⟨b,0,none⟩))) ∧ w'.heap[b]? = some (.cells #[.int .i64 (y.2 : Int),.string (B y.1)] 95 (0,0)) ∧ w.heap.size ≤ b
theorem allKnown_e {H : Nat → Option Obj} {mb m f : Nat} {ge : List (List UInt8 × Et)} {v : Value} {e : Ex} {r : UR} {w : World} (hU : UNE H mb ge (unT ge f)) (hp : PRep m H v e) (ho : unT ge f e [] = some r) (hl : ∀ y,r = some y → y.1.length ≤ 300) (hz : Fz H w) (hg : GE2 H w mb ge) :
    Calls Tryz.prog 46 #[v,.map (some mb)] w (AKP r w) := by
  have hmf : ∀ (fn : Fn) (first cap : Array Value) (w : World),(Instr.makeFunc fn first cap).run Tryz.prog w = .ok (.func fn first cap) w := fun _ _ _ _ => rfl
  have pn := ptr_nil
  have pn1 := ptr_nil1
  have g1 : w.grownBy (w.alloc (.cells #[.map (some mb)] 104)) none := World.grownBy_alloc _ _ _
  obtain ⟨T0,b0,rfl⟩ := hp.val
  have CU := hid (hU e _ m [] (.func (.func 72) #[] #[.pointer (some ⟨w.heap.size,0,none⟩)]) r _ hp ho (hz.grown g1) (hg.grown g1) ⟨_,rfl,heap_alloc_new _ _⟩)
  have G := hid (And.intro g1 hz)
  clear hU hp ho hz hg g1
  go_enter Tryz.func46,Tryz.ntmps46
  go_wp2_with fail
  refine CU.out.mono ?_
  rintro e w1 ⟨x,rfl,ux,g1⟩
  cases r with
  | none =>
    have ux' : x = none := ux
    subst ux'
    have G1 := hid (G.out.1.trans g1)
    clear g1 CU ux
    go_wp2
    go_ret
    exact ⟨G1.out,rfl⟩
  | some y =>
    obtain ⟨b,dep,rfl,hb⟩ := ux
    have hbw := (G.out.2.grown (G.out.1.trans g1)) _ _ hb
    have c1 := blk_c hbw 1 rfl
    have c2 := blk_c hbw 2 rfl
    have hbl := lt_of_block hbw
    have G1 := hid (G.out.1.trans g1)
    have hszn : (B y.1).size ≤ 281474976710656 := by rw [size_B]; have := hl y rfl; omega
    clear g1 CU hb hl
    have HB := hid hbw
    clear hbw
    go_wp2_with fail
    go_region_with (go_at_call 48; refine (clone_q _ _ hszn).mono ?_; rintro e w5 ⟨rfl,g5'⟩; have g5 := grown_drew' g5'; have hb5 := (g5.block b hbl (by simp)).trans HB.out; have c3 := blk_c hb5 2 rfl; have hbl5 := lt_of_block hb5; have G5 := hid (G1.out.trans g5); clear g5 g5' hb5)
    all_goals go_wp2
    all_goals go_ret
    all_goals exact ⟨G5.out.trans (World.grownBy_alloc _ _ _),_,rfl,heap_alloc_new _ _,G5.out.size⟩
theorem watch_e0 {s : List UInt8} {σ : Sto} {c most : Nat} {t : Et} {s' : Ds} {x : Ex} (hs : s.length ≤ 300) (hx : exK s = some x) {na : List (List UInt8)} {g : List (Option (List UInt8))} {ge : List (List UInt8 × Et)} (hU : ∀ H mb,UNE H mb ge (unT ge 60)) (hok : unT ge 60 x [] = some none) (p1 : partE ge most 60 x [] ⟨[],[]⟩ = some (.inr (σ,c))) (p2 : generalU σ [] 60 c = some t) (p3 : ncB 60 t = true) (p4 : draftS ⟨[],[]⟩ 1 130 t (ds0 []) = some s') (hf1 : 1 ≤ most) (hf2 : most ≤ 12) {mb : Nat} {w : World} (F : FM w mb na g) (hd : na.Nodup) (hall : ∀ v,v < na.length → (g.getD v none).isSome = true) (hgl : g.length = na.length) (hL : na.length ≤ 1000) (EO : EnvOk na g ge)
    (hmk : ∀ W,(Instr.makeMap 104 (some (.int .i64 ((g.filter Option.isSome).length : Nat)))).run Tryz.prog W = .ok (.map (some W.heap.size)) (W.alloc (.map #[] 0))) (ad : Nat → Addr) (cs : Nat → Array Value) (ts : Nat → TypeId) (S : SW w ad cs ts) (htab : Lib.TabIs Tryz.prog w "internal/strconv.uint64pow10" .u64 Lib.pow10Tab) :
    Calls Tryz.prog 27 #[.string (B s),.map (some mb),.int .i64 (most : Int),.nilFunc] w fun e w' => w.grownBy w' none ∧ e = .returned (.tuple #[.string (B s'.out),.nilIface]) := by
  have hm1 : (1 : Int) ≤ (most : Int) := by omega
  have hm2 : (most : Int) ≤ 12 := by omega
  have HGL := hid (And.intro (GLb.of S htab) hU)
  have HR := hid (read_x hs hx w ad cs ts S)
  have HS := hid (fun (W : World) (gW : w.grownBy W none) => schemes_ok na g ge W mb (F.kept gW (by simp)) hd hall hgl hL EO (hmk W) ad cs ts (S.grown gW))
  have HK := hid (And.intro hok (And.intro p1 (And.intro p2 (And.intro p3 p4))))
  clear S hx F hd hall hgl hL EO hmk htab hU hok p1 p2 p3 p4
  go_enter Tryz.func27,Tryz.ntmps27
  go_wp2_with fail
  refine HR.out.mono ?_
  rintro e w1 ⟨g1,v,H1,m,rfl,z1,hp⟩
  have G1 := hid (And.intro g1 (And.intro z1 hp))
  obtain ⟨T0,b0,rfl⟩ := hp.val
  clear g1 z1 hp HR
  go_wp2_with fail
  refine (HS.out _ G1.out.1).mono ?_
  rintro e w2 ⟨g2,b2,H2,rfl,z2,ge2⟩
  have z12 := G1.out.2.1.grown g2
  have zu := uni_fz z12 z2
  have hp2 : PRep m (uni H1 H2) (.iface T0 (.pointer (some ⟨b0,0,none⟩))) x := PRep.ext (m := 0) ⟨uni_l,fun k hk => by omega⟩ m _ _ G1.out.2.2
  have ge3 := ge2.ext (uni_r z12 z2)
  have CK := hid (allKnown_e (HGL.out.2 _ _) hp2 HK.out.1 (fun y h => by cases h) zu ge3)
  have G2 := hid (And.intro (G1.out.1.trans g2) (And.intro zu (And.intro hp2 ge3)))
  clear g2 z2 ge2 z12 zu hp2 ge3 HS G1
  go_wp2_with fail
  refine CK.out.mono ?_
  rintro e w3 ⟨g3,rfl⟩
  have CO := hid (of_e0 (most := most) (ad := ad) G2.out.2.2.1 (G2.out.2.1.grown g3) (G2.out.2.2.2.grown g3).ge (by omega) (HGL.out.1.up (G2.out.1.trans g3)) HK.out.2.1 HK.out.2.2.1 HK.out.2.2.2.1)
  have G3 := hid (G2.out.1.trans g3)
  clear g3 G2 CK
  go_wp2_with fail
  refine CO.out.mono ?_
  rintro e w4 ⟨g4,u,H4,rfl,er4,z4⟩
  have g5 : w4.grownBy (w4.alloc (.cells #[u] 109)) none := World.grownBy_alloc _ _ _
  have CT := hid (one_any er4 HK.out.2.2.2.2 (z4.grown g5))
  have G4 := hid ((G3.out.trans g4).trans g5)
  obtain ⟨T4,b4,_,rfl⟩ := er_val er4
  clear g4 g5 er4 z4 G3 CO
  go_wp2_with fail
  refine CT.out.mono ?_
  rintro e w5 ⟨rfl,g5⟩
  have G5 := hid (G4.out.trans g5)
  clear g5 CT G4
  go_wp2
  go_ret2
  exact ⟨G5.out,rfl⟩
theorem watch_e1 {s : List UInt8} {most q : Nat} {x : Ex} (hs : s.length ≤ 300) (hx : exK s = some x) {na : List (List UInt8)} {g : List (Option (List UInt8))} {ge : List (List UInt8 × Et)} (hU : ∀ H mb,UNE H mb ge (unT ge 60)) (hok : unT ge 60 x [] = some none) (p1 : partE ge most 60 x [] ⟨[],[]⟩ = some (.inl q)) (hf1 : 1 ≤ most) (hf2 : most ≤ 12) {mb : Nat} {w : World} (F : FM w mb na g) (hd : na.Nodup) (hall : ∀ v,v < na.length → (g.getD v none).isSome = true) (hgl : g.length = na.length) (hL : na.length ≤ 1000) (EO : EnvOk na g ge)
    (hmk : ∀ W,(Instr.makeMap 104 (some (.int .i64 ((g.filter Option.isSome).length : Nat)))).run Tryz.prog W = .ok (.map (some W.heap.size)) (W.alloc (.map #[] 0))) (ad : Nat → Addr) (cs : Nat → Array Value) (ts : Nat → TypeId) (S : SW w ad cs ts) (htab : Lib.TabIs Tryz.prog w "internal/strconv.uint64pow10" .u64 Lib.pow10Tab) :
    Calls Tryz.prog 27 #[.string (B s),.map (some mb),.int .i64 (most : Int),.nilFunc] w fun e w' => w.grownBy w' none ∧ e = .returned (.tuple #[.string (B []),errV (ad q)]) := by
  have hm1 : (1 : Int) ≤ (most : Int) := by omega
  have hm2 : (most : Int) ≤ 12 := by omega
  have HGL := hid (And.intro (GLb.of S htab) hU)
  have HR := hid (read_x hs hx w ad cs ts S)
  have HS := hid (fun (W : World) (gW : w.grownBy W none) => schemes_ok na g ge W mb (F.kept gW (by simp)) hd hall hgl hL EO (hmk W) ad cs ts (S.grown gW))
  have HK := hid (And.intro hok p1)
  clear S hx F hd hall hgl hL EO hmk htab hU hok p1
  go_enter Tryz.func27,Tryz.ntmps27
  go_wp2_with fail
  refine HR.out.mono ?_
  rintro e w1 ⟨g1,v,H1,m,rfl,z1,hp⟩
  have G1 := hid (And.intro g1 (And.intro z1 hp))
  obtain ⟨T0,b0,rfl⟩ := hp.val
  clear g1 z1 hp HR
  go_wp2_with fail
  refine (HS.out _ G1.out.1).mono ?_
  rintro e w2 ⟨g2,b2,H2,rfl,z2,ge2⟩
  have z12 := G1.out.2.1.grown g2
  have zu := uni_fz z12 z2
  have hp2 : PRep m (uni H1 H2) (.iface T0 (.pointer (some ⟨b0,0,none⟩))) x := PRep.ext (m := 0) ⟨uni_l,fun k hk => by omega⟩ m _ _ G1.out.2.2
  have ge3 := ge2.ext (uni_r z12 z2)
  have CK := hid (allKnown_e (HGL.out.2 _ _) hp2 HK.out.1 (fun y h => by cases h) zu ge3)
  have G2 := hid (And.intro (G1.out.1.trans g2) (And.intro zu (And.intro hp2 ge3)))
  clear g2 z2 ge2 z12 zu hp2 ge3 HS G1
  go_wp2_with fail
  refine CK.out.mono ?_
  rintro e w3 ⟨g3,rfl⟩
  have CO := hid (of_e1 (most := most) (ad := ad) G2.out.2.2.1 (G2.out.2.1.grown g3) (G2.out.2.2.2.grown g3).ge (by omega) (HGL.out.1.up (G2.out.1.trans g3)) HK.out.2)
  have G3 := hid (G2.out.1.trans g3)
  clear g3 G2 CK
  go_wp2_with fail
  refine CO.out.mono ?_
  rintro e w4 ⟨g4,rfl,_⟩
  have G4 := hid (G3.out.trans g4)
  clear g4 CO G3
  unfold errV
  go_wp2
  go_ret2
  exact ⟨G4.out.trans (World.grownBy_alloc _ _ _),rfl⟩
theorem watch_e2 {s : List UInt8} {y : List UInt8 × Nat} {most : Nat} {x : Ex} (hs : s.length ≤ 300) (hx : exK s = some x) {na : List (List UInt8)} {g : List (Option (List UInt8))} {ge : List (List UInt8 × Et)} (hU : ∀ H mb,UNE H mb ge (unT ge 60)) (hok : unT ge 60 x [] = some (some y)) (hy : y.1.length ≤ 300) (hf1 : 1 ≤ most) (hf2 : most ≤ 12) {mb : Nat} {w : World} (F : FM w mb na g) (hd : na.Nodup) (hall : ∀ v,v < na.length → (g.getD v none).isSome = true) (hgl : g.length = na.length) (hL : na.length ≤ 1000) (EO : EnvOk na g ge)
    (hmk : ∀ W,(Instr.makeMap 104 (some (.int .i64 ((g.filter Option.isSome).length : Nat)))).run Tryz.prog W = .ok (.map (some W.heap.size)) (W.alloc (.map #[] 0))) (ad : Nat → Addr) (cs : Nat → Array Value) (ts : Nat → TypeId) (S : SW w ad cs ts) (htab : Lib.TabIs Tryz.prog w "internal/strconv.uint64pow10" .u64 Lib.pow10Tab) :
    Calls Tryz.prog 27 #[.string (B s),.map (some mb),.int .i64 (most : Int),.nilFunc] w fun e w' => w.grownBy w' none ∧ ∃ b,e = .returned (.tuple #[.string (B []),.iface 82 (.pointer (some ⟨b,0,none⟩))]) ∧ w'.heap[b]? = some (.cells #[.int .i64 (y.2 : Int),.string (B y.1)] 95 (0,0)) ∧ w.heap.size ≤ b := by
  have hm1 : (1 : Int) ≤ (most : Int) := by omega
  have hm2 : (most : Int) ≤ 12 := by omega
  have HGL := hid (And.intro (GLb.of S htab) hU)
  have HR := hid (read_x hs hx w ad cs ts S)
  have HS := hid (fun (W : World) (gW : w.grownBy W none) => schemes_ok na g ge W mb (F.kept gW (by simp)) hd hall hgl hL EO (hmk W) ad cs ts (S.grown gW))
  have HK := hid (And.intro hok hy)
  clear S hx F hd hall hgl hL EO hmk htab hU hok hy
  go_enter Tryz.func27,Tryz.ntmps27
  go_wp2_with fail
  refine HR.out.mono ?_
  rintro e w1 ⟨g1,v,H1,m,rfl,z1,hp⟩
  have G1 := hid (And.intro g1 (And.intro z1 hp))
  obtain ⟨T0,b0,rfl⟩ := hp.val
  clear g1 z1 hp HR
  go_wp2_with fail
  refine (HS.out _ G1.out.1).mono ?_
  rintro e w2 ⟨g2,b2,H2,rfl,z2,ge2⟩
  have z12 := G1.out.2.1.grown g2
  have zu := uni_fz z12 z2
  have hp2 : PRep m (uni H1 H2) (.iface T0 (.pointer (some ⟨b0,0,none⟩))) x := PRep.ext (m := 0) ⟨uni_l,fun k hk => by omega⟩ m _ _ G1.out.2.2
  have ge3 := ge2.ext (uni_r z12 z2)
  have CK := hid (allKnown_e (HGL.out.2 _ _) hp2 HK.out.1 (fun y9 h => by cases h; exact HK.out.2) zu ge3)
  have G2 := hid (And.intro (G1.out.1.trans g2) (And.intro zu (And.intro hp2 ge3)))
  clear g2 z2 ge2 z12 zu hp2 ge3 HS G1
  go_wp2_with fail
  refine CK.out.mono ?_
  rintro e w3 ⟨g3,b3,rfl,hb3,lb3⟩
  have G3 := hid (And.intro (G2.out.1.trans g3) (And.intro hb3 (Nat.le_trans G2.out.1.size lb3)))
  clear g3 hb3 lb3 G2 CK
  go_wp2
  go_ret2
  exact ⟨G3.out.1,b3,rfl,G3.out.2.1,G3.out.2.2⟩
end Go.Proofs.YtcdijppegfcoaabGreatDoor
namespace Go.Proofs.YtcdijppegfcoaabGreatDoor
open Go.RowKit Go.Maps Go.WideMaps
def SRow (w : World) (v : Value) (l : List (List UInt8)) : Prop :=
  ∃ ao cp,v = .slice ao l.length cp ∧ ∀ j,j < l.length → ∃ nb,ao = some ⟨nb,0,none⟩ ∧ nb < w.heap.size ∧ w.cell? ⟨nb,j,none⟩ = some (.string (B (l.getD j [])))
theorem SRow.gn {w w' : World} {v : Value} {l : List (List UInt8)} (h : SRow w v l) (g : Gn w w') : SRow w' v l := by
  obtain ⟨ao,cp,h1,h2⟩ := h
  refine ⟨ao,cp,h1,fun j hj => ?_⟩
  obtain ⟨nb,e1,e2,e3⟩ := h2 j hj
  exact ⟨nb,e1,Nat.lt_of_lt_of_le e2 g.size,by rw [World.cell?_of_block (a := ⟨nb,j,none⟩) (g.block nb e2)]; exact e3⟩
def upS (ts : List (List UInt8)) (n j : Nat) : List (Option (List UInt8)) := (ts.take j).map some ++ List.replicate (n - j) none
theorem upS_len {ts : List (List UInt8)} {n j : Nat} (h : ts.length = n) (hj : j ≤ n) : (upS ts n j).length = n := by
  simp [upS]; omega
theorem upS_at {ts : List (List UInt8)} {n j : Nat} (h : ts.length = n) (hj : j < n) : (upS ts n j).getD j none = none := by
  have e : (List.replicate (n - j) (none : Option (List UInt8)))[0]? = some none := by rw [List.getElem?_replicate]; rw [if_pos (by omega)]
  unfold upS
  rw [List.getD_eq_getElem?_getD,List.getElem?_append_right (by simp; omega)]
  simp only [List.length_map,List.length_take]
  rw [show j - min j ts.length = 0 by omega,e]
  rfl
theorem upS_step {ts : List (List UInt8)} {n j : Nat} (h : ts.length = n) (hj : j < n) : (upS ts n j).set j (some (ts.getD j [])) = upS ts n (j + 1) := by
  have e1 : ts[j]? = some (ts.getD j []) := by rw [List.getD_eq_getElem?_getD,List.getElem?_eq_getElem (by omega)]; rfl
  unfold upS
  rw [List.set_append,if_neg (by simp; omega),List.take_add_one,e1]
  simp only [List.length_map,List.length_take]
  rw [show j - min j ts.length = 0 by omega,show n - j = (n - (j + 1)) + 1 by omega,List.replicate_succ]
  simp
theorem mk_env (w : World) : (Instr.makeMap 60 none).run Tryz.prog w = .ok (.map (some w.heap.size)) (w.alloc (.map #[] 0)) := by kernel_rfl
theorem env_q (ns ts : List (List UInt8)) (w : World) (vn vt : Value) (hn : SRow w vn ns) (ht : SRow w vt ts) (hl : ts.length = ns.length) (hL : ns.length ≤ 1000) (hd : ns.Nodup) (hnl : ∀ i,i < ns.length → (ns.getD i []).length ≤ 300) (htl : ∀ i,i < ts.length → (ts.getD i []).length ≤ 1000000) :
    Calls Tryz.prog 26 #[vn,vt] w fun e w' => w.grownBy w' none ∧ e = .returned (.map (some w.heap.size)) ∧ FM w' w.heap.size ns (ts.map some) := by
  obtain ⟨an,cn,rfl,hn⟩ := hn
  obtain ⟨at',ct,rfl,ht⟩ := ht
  have HN := hid hn
  have HT := hid ht
  have HD := hid (And.intro hd (And.intro hnl htl))
  have F0 := hid (FM.new w ns ns.length)
  have u0 : upS ts ns.length 0 = List.replicate ns.length none := by simp [upS]
  rw [← u0] at F0
  clear hn ht hd hnl htl u0
  rw [hl]
  have hmk := mk_env w
  go_enter Tryz.func26,Tryz.ntmps26
  go_wp2_with fail
  have hws0 : w.heap.size < (w.alloc (.map #[] 0)).heap.size := by simp
  go_loopg [10] (ns.length + 1) (fun gh i wi => ∃ j : Nat,j ≤ ns.length ∧ i = .int .i64 j ∧ gh = ns.length - j + 1 ∧ Hid (FM wi w.heap.size ns (upS ts ns.length j)) ∧ Hid ((w.alloc (.map #[] 0)).grownBy wi (some w.heap.size)))
  case atStart => exact ⟨0,by omega,rfl,by omega,F0,hid (World.grownBy.refl _ _)⟩
  case round =>
    obtain ⟨j,hj,rfl,hgj,HF,HG⟩ := hrel
    by_cases hjl : j < ns.length
    · obtain ⟨nb,rfl,hnb,hc1⟩ := HN.out j hjl
      obtain ⟨tb,rfl,htb,hc2⟩ := HT.out j (by omega)
      obtain ⟨nm,hnm⟩ : ∃ nm,nm = ns.getD j [] := ⟨_,rfl⟩
      obtain ⟨tx,htx⟩ : ∃ tx,tx = ts.getD j [] := ⟨_,rfl⟩
      have d1 : wr.cell? ⟨nb,j,none⟩ = some (.string (B nm)) := by
        rw [World.cell?_of_block (a := ⟨nb,j,none⟩) (HG.out.block nb (by simp; omega) (by simp; omega)),World.cell?_of_block (a := ⟨nb,j,none⟩) (Below.heap_alloc _ _ _ hnb),hc1,hnm]
      have d2 : wr.cell? ⟨tb,j,none⟩ = some (.string (B tx)) := by
        rw [World.cell?_of_block (a := ⟨tb,j,none⟩) (HG.out.block tb (by simp; omega) (by simp; omega)),World.cell?_of_block (a := ⟨tb,j,none⟩) (Below.heap_alloc _ _ _ htb),hc2,htx]
      obtain ⟨w2,hup,hF2,hg2⟩ := FM.store (w := wr.drew) (FM.same HF.out rfl) (upS_len hl hj) hL HD.out.1 hjl (HD.out.2.1 j hjl) (upS_at hl hjl) (HD.out.2.2 j (by omega))
      rw [upS_step hl hjl] at hF2
      rw [← hnm,← htx] at hup
      have H2 := hid (And.intro hF2 ((grown_drew HG.out).trans hg2))
      have hj2 : ((j : Nat) : Int) < ((ns.length : Nat) : Int) := by omega
      clear hF2 hg2 hc1 hc2 hnm htx
      go_wp2_with fail
      go_region
      go_wp2_with fail
      go_roundg (ns.length - (j + 1) + 1)
      case measure => omega
      case rel => exact ⟨j + 1,by omega,by go_num,rfl,hid H2.out.1,hid H2.out.2⟩
    · have hje : j = ns.length := by omega
      subst hje
      have e1 : upS ts ns.length ns.length = ts.map some := by
        unfold upS
        rw [← hl,List.take_length,Nat.sub_self]
        simp
      have HR := hid (show w.grownBy wr none ∧ FM wr w.heap.size ns (ts.map some) from ⟨⟨HG.out.os,HG.out.tape,HG.out.output,by have := HG.out.size; simp at this; omega,fun k hk _ => by
        rw [HG.out.block k (by simp; omega) (by simp; omega),Below.heap_alloc _ _ _ hk]⟩,e1 ▸ HF.out⟩)
      clear HF HG e1
      go_wp2
      go_ret
      exact ⟨HR.out.1,rfl,HR.out.2⟩
theorem typed_neq (a b : ByteArray) : ∃ r,∀ w : World,(binOp .neq 68 (.agg #[.string a]) (.agg #[.string b])).run Tryz.prog w = .ok (.bool r) w := by
  by_cases h : a.toList = b.toList
  · exact ⟨false,fun w => by simp [go_sem,h]⟩
  · exact ⟨true,fun w => by simp [go_sem,h]⟩
theorem equal_q (b1 b2 : Nat) (m1 m2 : List (List UInt8)) (g1 g2 : List (Option (List UInt8))) (w : World) (F1 : FM w b1 m1 g1) (F2 : FM w b2 m2 g2) :
    Calls Tryz.prog 31 #[.map (some b1),.map (some b2)] w fun e w' => (∃ r,e = .returned (.bool r)) ∧ w.grownBy w' none := by
  obtain ⟨D1,h1,-⟩ := F1
  obtain ⟨D2,h2,-⟩ := F2
  generalize (g1.filter Option.isSome).length = n1 at h1
  generalize (g2.filter Option.isSome).length = n2 at h2
  have l1 := fun ty => h1.len (t := 60) Tryz.underlying60 ty
  have l2 := fun ty => h2.len (t := 60) Tryz.underlying60 ty
  have hb2 := h2.lt
  by_cases hsz : Maps.size D1 = Maps.size D2
  · go_enter Tryz.func31,Tryz.ntmps31
    go_wp2_with (first
      | (at_range; refine wpList_range_own _ rfl _ 60 rfl 9 68 keyLaw Tryz.underlying60 tyR b1 n1 _ rfl h1 ?_; intro w0 hrg0 hg0 hs0)
      | go_in)
    go_frame
    go_loopw [16] (fun _ wr => ∃ (left : Lit → Bool) (cnt : Nat),wr.ranges Tryz.prog 9 tyR b1 w.heap.size n1 D1 left cnt ∧ wr.ownsMap Tryz.prog 9 tyR b2 n2 D2 ∧ w.grownBy wr none)
      (fun _ wr => wr.rangeLeft b1 w.heap.size)
    case atStart => exact ⟨_,_,hrg0,h2.kept hg0 (by simp),hg0⟩
    case round =>
      obtain ⟨left,cnt,hrg,h2r,hgw⟩ := hrel
      go_wp2_with (first
        | (at_next; refine wpList_next_ranges _ rfl _ rfl 9 keyLaw tyR id id (fun key _ _ => ⟨key,rfl⟩) (fun v _ _ => ⟨v,rfl⟩) b1 w.heap.size n1 _ _ _ rfl hrg ?_ ?_)
        | go_in)
      · intro _ hl0
        go_wp2
        go_ret
        exact ⟨⟨_,rfl⟩,hgw⟩
      · intro x c kl yd yp w1 cnt1 hkey hlx hv hat hrg1 hlt hg1 hs1 hen
        have hgw1 : w.grownBy w1 none := hgw.andThen hg1 (fun j hj => by cases hj; exact Or.inl (Nat.le_refl _))
        have h2w1 := h2r.kept hg1 (fun e => by have := Option.some.inj e; omega)
        obtain ⟨sv,rfl,_⟩ := tyR_inv hv
        have hgA : w1.grownBy (w1.alloc (.cells #[.string sv] 68)) none := World.grownBy_alloc _ _ _
        obtain ⟨u,ps,hr,hu⟩ := (h2w1.kept hgA (by simp)).look_ok keyLaw Tryz.underlying60 (zeroTyped _) (tyR_mk (t := []) (by simp)) hkey
        obtain ⟨su,rfl,_⟩ := tyR_inv hu
        obtain ⟨r,hneq⟩ := typed_neq sv su
        have hgB : (w1.alloc (.cells #[.string sv] 68)).grownBy ((w1.alloc (.cells #[.string sv] 68)).alloc (.cells #[.string su] 68)) none := World.grownBy_alloc _ _ _
        have HE := hid (And.intro (hrg1.kept (hgA.trans hgB) (by simp) (by simp)) (And.intro (h2w1.kept (hgA.trans hgB) (by simp)) (hgw1.trans (hgA.trans hgB))))
        have HM := hid (And.intro hlt hrg)
        clear hat hrg1 h2w1 hgw1 hgA hgB hu hrg h2r hgw hrg0 hg0 h1 h2 hlt
        cases hh : Maps.has D2 kl
        · rw [hh] at hr
          go_wp2
          go_ret
          exact ⟨⟨_,rfl⟩,HE.out.2.2⟩
        · rw [hh] at hr
          cases r
          · go_wp2_with fail
            go_roundw
            case rel => exact ⟨_,cnt1,HE.out⟩
            case measure => rw [HE.out.1.left_eq,HM.out.2.left_eq]; exact HM.out.1
          · go_wp2
            go_ret
            exact ⟨⟨_,rfl⟩,HE.out.2.2⟩
  · have hne : ¬ ((Maps.size D1 : Int) = (Maps.size D2 : Int)) := fun e => hsz (by exact_mod_cast e)
    go_enter Tryz.func31,Tryz.ntmps31
    go_wp2
    go_ret
    exact ⟨⟨_,rfl⟩,World.grownBy.refl _ _⟩
def f5 (a b : Int) (s : ByteArray) (c d : Int) : Value := .agg #[.int .i64 a,.int .i64 b,.string s,.int .i64 c,.int .i64 d]
theorem FM.gn {w w' : World} {mb : Nat} {ns : List (List UInt8)} {g : List (Option (List UInt8))} (h : FM w mb ns g) (hg : Gn w w') : FM w' mb ns g := h.same (hg.block mb h.lt)
theorem pinfer (s : ByteArray) (fuel : Int) (ns ts : List (List UInt8)) (vn vt : Value) (t : List UInt8) (a b : Int) (nm : ByteArray) (c d : Int) (w : World) (hn : SRow w vn ns) (ht : SRow w vt ts) (hl : ts.length = ns.length) (hL : ns.length ≤ 1000) (hd : ns.Nodup) (hnl : ∀ i,i < ns.length → (ns.getD i []).length ≤ 300) (htl : ∀ i,i < ts.length → (ts.getD i []).length ≤ 1000000)
    (CI : ∀ W mb,w.grownBy W none → FM W mb ns (ts.map some) → Calls Tryz.prog 30 #[.string s,.map (some mb),.int .i64 fuel] W fun e w' => W.grownBy w' none ∧ ∃ v,e = .returned (.tuple #[.string (B t),v]) ∧ (v = .nilIface ∨ ∃ p q,v = .iface p (.pointer (some q))) ∧ Calls Tryz.prog 22 #[v] w' fun e w'' => e = .returned (f5 a b nm c d) ∧ Gn w' w'') :
    Calls Tryz.prog 20 #[.string s,vn,vt,.int .i64 fuel] w fun e w' => Gn w w' ∧ ∃ r,e = .returned (.tuple #[.string (B t),f5 a b nm c d,.bool r]) := by
  have g0 : w.grownBy (w.alloc (.cells #[.int .i64 0,.int .i64 0,.string (B []),.int .i64 0,.int .i64 0] 23)) none := World.grownBy_alloc _ _ _
  have HE := hid (env_q ns ts _ vn vt (hn.gn (Gn.of g0)) (ht.gn (Gn.of g0)) hl hL hd hnl htl)
  have HE2 := hid (fun (W : World) (gW : Gn w W) => env_q ns ts W vn vt (hn.gn gW) (ht.gn gW) hl hL hd hnl htl)
  have HC := hid CI
  have G0 := hid g0
  obtain ⟨an,cn,rfl,-⟩ := hn
  obtain ⟨at',ct,rfl,-⟩ := ht
  clear CI g0 hd hnl htl
  rw [hl]
  rw [hl] at HE HE2
  have HLL := hid hl
  clear hl
  go_enter Tryz.func20,Tryz.ntmps20
  go_wp2_with fail
  refine HE.out.mono ?_
  rintro e w1 ⟨g1,rfl,hF⟩
  have e1 : (w.alloc (.cells #[.int .i64 0,.int .i64 0,.string (B []),.int .i64 0,.int .i64 0] 23)).heap.size = w.heap.size + 1 := by simp
  rw [e1] at hF ⊢
  clear e1
  have G1 := hid (And.intro (G0.out.trans g1) (And.intro hF g1))
  clear g1 hF HE
  go_wp2_with fail
  refine (HC.out _ _ G1.out.1 G1.out.2.1).mono ?_
  rintro e w2 ⟨g2,v,rfl,hv,hf⟩
  have n0 : w2.heap[w.heap.size]? = some (.cells #[.int .i64 0,.int .i64 0,.string (B []),.int .i64 0,.int .i64 0] 23 (0,0)) := by
    rw [g2.block _ (by have := G1.out.2.2.size; simp at this; omega) (by simp),G1.out.2.2.block _ (by simp) (by simp)]
    exact heap_alloc_new _ _
  have l0 := lt_of_block n0
  have G2 := hid (And.intro (G1.out.1.trans g2) (And.intro (G1.out.2.1.kept g2 (by simp)) n0))
  have HF := hid hf
  clear g2 hf n0 G1 HC
  rcases hv with rfl | ⟨p,q,rfl⟩
  all_goals
    go_wp2_with fail
    refine HF.out.mono ?_
    rintro e w3 ⟨rfl,g3⟩
    have G3 := hid (And.intro ((Gn.of G2.out.1).trans g3) (And.intro (G2.out.2.1.gn g3) ((g3.block _ l0).trans G2.out.2.2)))
    clear g3 HF G2
    unfold f5
    go_wp2_with fail
    refine (HE2.out _ G3.out.1).mono ?_
    rintro e w4 ⟨g4,rfl,hF4⟩
    have EQ := hid (equal_q (w.heap.size + 1) w3.heap.size ns ns _ _ w4 (G3.out.2.1.kept g4 (by simp)) hF4)
    have l3 := lt_of_block G3.out.2.2
    have G4 := hid (And.intro (G3.out.1.trans (Gn.of g4)) ((g4.block _ l3 (by simp)).trans G3.out.2.2))
    clear g4 hF4 G3
    go_wp2_with fail
    refine EQ.out.mono ?_
    rintro e w5 ⟨⟨r,rfl⟩,g5⟩
    have n5 : w5.heap[w.heap.size]? = some (.cells #[.int .i64 0,.int .i64 0,.string (B []),.int .i64 0,.int .i64 0] 23 (0,0)) := (g5.block _ (lt_of_block G4.out.2) (by simp)).trans G4.out.2
    have G5 := hid (G4.out.1.trans (Gn.of g5))
    obtain ⟨⟨q0,q1,q2,q3,q4⟩,f0,f1,f2,f3,f4⟩ := five_c n5
    clear g5 n5 G4 EQ
    go_wp2
    refine bodyPost_ret (v := .tuple #[.string (B t),f5 a b nm c d,.bool (!r)]) (by simp [results,Tryz.results20,go_sem,q0,q1,q2,q3,q4]; rfl) rfl ?_
    exact ⟨G5.out.set5 (Nat.le_refl _) _ _ _ _ _,_,rfl⟩
def envN : List (List UInt8) := [[116,114,117,101],[110,105,108],[99,111,110,115],[102,115,116],[115,110,100],[97,100,100],[101,113],[104,100],[116,108],[101,109,112,116,121]]
def envT : List (List UInt8) := [[98,111,111,108],[91,97,93],[97,32,45,62,32,91,97,93,32,45,62,32,91,97,93],[40,97,44,32,98,41,32,45,62,32,97],[40,97,44,32,98,41,32,45,62,32,98],[105,110,116,32,45,62,32,105,110,116,32,45,62,32,105,110,116],[97,32,45,62,32,97,32,45,62,32,98,111,111,108],[91,97,93,32,45,62,32,97],[91,97,93,32,45,62,32,91,97,93],[91,120,93,32,45,62,32,98,111,111,108]]
def envG : List (List UInt8 × Et) := [([116,114,117,101],⟨[98,111,111,108],[],0,[]⟩),
  ([110,105,108],⟨[108,105,115,116],[],0,[⟨[],[97],0,[]⟩]⟩),
  ([99,111,110,115],⟨[102,117,110],[],0,[⟨[],[97],0,[]⟩,⟨[102,117,110],[],0,[⟨[108,105,115,116],[],0,[⟨[],[97],0,[]⟩]⟩,⟨[108,105,115,116],[],0,[⟨[],[97],0,[]⟩]⟩]⟩]⟩),
  ([102,115,116],⟨[102,117,110],[],0,[⟨[112,97,105,114],[],0,[⟨[],[97],0,[]⟩,⟨[],[98],0,[]⟩]⟩,⟨[],[97],0,[]⟩]⟩),
  ([115,110,100],⟨[102,117,110],[],0,[⟨[112,97,105,114],[],0,[⟨[],[97],0,[]⟩,⟨[],[98],0,[]⟩]⟩,⟨[],[98],0,[]⟩]⟩),
  ([97,100,100],⟨[102,117,110],[],0,[⟨[105,110,116],[],0,[]⟩,⟨[102,117,110],[],0,[⟨[105,110,116],[],0,[]⟩,⟨[105,110,116],[],0,[]⟩]⟩]⟩),
  ([101,113],⟨[102,117,110],[],0,[⟨[],[97],0,[]⟩,⟨[102,117,110],[],0,[⟨[],[97],0,[]⟩,⟨[98,111,111,108],[],0,[]⟩]⟩]⟩),
  ([104,100],⟨[102,117,110],[],0,[⟨[108,105,115,116],[],0,[⟨[],[97],0,[]⟩]⟩,⟨[],[97],0,[]⟩]⟩),
  ([116,108],⟨[102,117,110],[],0,[⟨[108,105,115,116],[],0,[⟨[],[97],0,[]⟩]⟩,⟨[108,105,115,116],[],0,[⟨[],[97],0,[]⟩]⟩]⟩),
  ([101,109,112,116,121],⟨[102,117,110],[],0,[⟨[108,105,115,116],[],0,[⟨[],[120],0,[]⟩]⟩,⟨[98,111,111,108],[],0,[]⟩]⟩)]
theorem eK0 : etK (envT.getD 0 []) = some (envG.getD 0 ([],vT [])).2 := by kernel_rfl
theorem eL0 : getL envG (envN.getD 0 []) = some (envG.getD 0 ([],vT [])).2 := by kernel_rfl
theorem eN0 : upto isB (envN.getD 0 []) 0 = 0 ∧ nxK (envN.getD 0 []) 0 = 2 ∧ nxT (envN.getD 0 []) 0 = envN.getD 0 [] ∧ decide (envN.getD 0 [] ∈ exKw) = false := ⟨by kernel_rfl,by kernel_rfl,by kernel_rfl,by kernel_rfl⟩
theorem eK1 : etK (envT.getD 1 []) = some (envG.getD 1 ([],vT [])).2 := by kernel_rfl
theorem eL1 : getL envG (envN.getD 1 []) = some (envG.getD 1 ([],vT [])).2 := by kernel_rfl
theorem eN1 : upto isB (envN.getD 1 []) 0 = 0 ∧ nxK (envN.getD 1 []) 0 = 2 ∧ nxT (envN.getD 1 []) 0 = envN.getD 1 [] ∧ decide (envN.getD 1 [] ∈ exKw) = false := ⟨by kernel_rfl,by kernel_rfl,by kernel_rfl,by kernel_rfl⟩
theorem eK2 : etK (envT.getD 2 []) = some (envG.getD 2 ([],vT [])).2 := by kernel_rfl
theorem eL2 : getL envG (envN.getD 2 []) = some (envG.getD 2 ([],vT [])).2 := by kernel_rfl
theorem eN2 : upto isB (envN.getD 2 []) 0 = 0 ∧ nxK (envN.getD 2 []) 0 = 2 ∧ nxT (envN.getD 2 []) 0 = envN.getD 2 [] ∧ decide (envN.getD 2 [] ∈ exKw) = false := ⟨by kernel_rfl,by kernel_rfl,by kernel_rfl,by kernel_rfl⟩
theorem eK3 : etK (envT.getD 3 []) = some (envG.getD 3 ([],vT [])).2 := by kernel_rfl
theorem eL3 : getL envG (envN.getD 3 []) = some (envG.getD 3 ([],vT [])).2 := by kernel_rfl
theorem eN3 : upto isB (envN.getD 3 []) 0 = 0 ∧ nxK (envN.getD 3 []) 0 = 2 ∧ nxT (envN.getD 3 []) 0 = envN.getD 3 [] ∧ decide (envN.getD 3 [] ∈ exKw) = false := ⟨by kernel_rfl,by kernel_rfl,by kernel_rfl,by kernel_rfl⟩
theorem eK4 : etK (envT.getD 4 []) = some (envG.getD 4 ([],vT [])).2 := by kernel_rfl
theorem eL4 : getL envG (envN.getD 4 []) = some (envG.getD 4 ([],vT [])).2 := by kernel_rfl
theorem eN4 : upto isB (envN.getD 4 []) 0 = 0 ∧ nxK (envN.getD 4 []) 0 = 2 ∧ nxT (envN.getD 4 []) 0 = envN.getD 4 [] ∧ decide (envN.getD 4 [] ∈ exKw) = false := ⟨by kernel_rfl,by kernel_rfl,by kernel_rfl,by kernel_rfl⟩
theorem eK5 : etK (envT.getD 5 []) = some (envG.getD 5 ([],vT [])).2 := by kernel_rfl
theorem eL5 : getL envG (envN.getD 5 []) = some (envG.getD 5 ([],vT [])).2 := by kernel_rfl
theorem eN5 : upto isB (envN.getD 5 []) 0 = 0 ∧ nxK (envN.getD 5 []) 0 = 2 ∧ nxT (envN.getD 5 []) 0 = envN.getD 5 [] ∧ decide (envN.getD 5 [] ∈ exKw) = false := ⟨by kernel_rfl,by kernel_rfl,by kernel_rfl,by kernel_rfl⟩
theorem eK6 : etK (envT.getD 6 []) = some (envG.getD 6 ([],vT [])).2 := by kernel_rfl
theorem eL6 : getL envG (envN.getD 6 []) = some (envG.getD 6 ([],vT [])).2 := by kernel_rfl
theorem eN6 : upto isB (envN.getD 6 []) 0 = 0 ∧ nxK (envN.getD 6 []) 0 = 2 ∧ nxT (envN.getD 6 []) 0 = envN.getD 6 [] ∧ decide (envN.getD 6 [] ∈ exKw) = false := ⟨by kernel_rfl,by kernel_rfl,by kernel_rfl,by kernel_rfl⟩
theorem eK7 : etK (envT.getD 7 []) = some (envG.getD 7 ([],vT [])).2 := by kernel_rfl
theorem eL7 : getL envG (envN.getD 7 []) = some (envG.getD 7 ([],vT [])).2 := by kernel_rfl
theorem eN7 : upto isB (envN.getD 7 []) 0 = 0 ∧ nxK (envN.getD 7 []) 0 = 2 ∧ nxT (envN.getD 7 []) 0 = envN.getD 7 [] ∧ decide (envN.getD 7 [] ∈ exKw) = false := ⟨by kernel_rfl,by kernel_rfl,by kernel_rfl,by kernel_rfl⟩
theorem eK8 : etK (envT.getD 8 []) = some (envG.getD 8 ([],vT [])).2 := by kernel_rfl
theorem eL8 : getL envG (envN.getD 8 []) = some (envG.getD 8 ([],vT [])).2 := by kernel_rfl
theorem eN8 : upto isB (envN.getD 8 []) 0 = 0 ∧ nxK (envN.getD 8 []) 0 = 2 ∧ nxT (envN.getD 8 []) 0 = envN.getD 8 [] ∧ decide (envN.getD 8 [] ∈ exKw) = false := ⟨by kernel_rfl,by kernel_rfl,by kernel_rfl,by kernel_rfl⟩
theorem eK9 : etK (envT.getD 9 []) = some (envG.getD 9 ([],vT [])).2 := by kernel_rfl
theorem eL9 : getL envG (envN.getD 9 []) = some (envG.getD 9 ([],vT [])).2 := by kernel_rfl
theorem eN9 : upto isB (envN.getD 9 []) 0 = 0 ∧ nxK (envN.getD 9 []) 0 = 2 ∧ nxT (envN.getD 9 []) 0 = envN.getD 9 [] ∧ decide (envN.getD 9 [] ∈ exKw) = false := ⟨by kernel_rfl,by kernel_rfl,by kernel_rfl,by kernel_rfl⟩
theorem ten {p : Nat → Prop} (i : Nat) (hi : i < 10) (h0 : p 0) (h1 : p 1) (h2 : p 2) (h3 : p 3) (h4 : p 4) (h5 : p 5) (h6 : p 6) (h7 : p 7) (h8 : p 8) (h9 : p 9) : p i := by
  have : i = 0 ∨ i = 1 ∨ i = 2 ∨ i = 3 ∨ i = 4 ∨ i = 5 ∨ i = 6 ∨ i = 7 ∨ i = 8 ∨ i = 9 := by omega
  rcases this with rfl | rfl | rfl | rfl | rfl | rfl | rfl | rfl | rfl | rfl <;> assumption
theorem envK (i : Nat) (hi : i < 10) : etK (envT.getD i []) = some (envG.getD i ([],vT [])).2 := ten (p := fun i => etK (envT.getD i []) = some (envG.getD i ([],vT [])).2) i hi eK0 eK1 eK2 eK3 eK4 eK5 eK6 eK7 eK8 eK9
theorem envL (i : Nat) (hi : i < 10) : getL envG (envN.getD i []) = some (envG.getD i ([],vT [])).2 := ten (p := fun i => getL envG (envN.getD i []) = some (envG.getD i ([],vT [])).2) i hi eL0 eL1 eL2 eL3 eL4 eL5 eL6 eL7 eL8 eL9
theorem envA (i : Nat) (hi : i < 10) : upto isB (envN.getD i []) 0 = 0 ∧ nxK (envN.getD i []) 0 = 2 ∧ nxT (envN.getD i []) 0 = envN.getD i [] ∧ decide (envN.getD i [] ∈ exKw) = false := ten (p := fun i => upto isB (envN.getD i []) 0 = 0 ∧ nxK (envN.getD i []) 0 = 2 ∧ nxT (envN.getD i []) 0 = envN.getD i [] ∧ decide (envN.getD i [] ∈ exKw) = false) i hi eN0 eN1 eN2 eN3 eN4 eN5 eN6 eN7 eN8 eN9
theorem envN_le (i : Nat) (hi : i < 10) : (envN.getD i []).length ≤ 300 := ten (p := fun i => (envN.getD i []).length ≤ 300) i hi (by decide) (by decide) (by decide) (by decide) (by decide) (by decide) (by decide) (by decide) (by decide) (by decide)
theorem envT_le (i : Nat) (hi : i < 10) : (envT.getD i []).length ≤ 300 := ten (p := fun i => (envT.getD i []).length ≤ 300) i hi (by decide) (by decide) (by decide) (by decide) (by decide) (by decide) (by decide) (by decide) (by decide) (by decide)
theorem envT_some (i : Nat) (hi : i < 10) : (envT.map some).getD i none = some (envT.getD i []) := ten (p := fun i => (envT.map some).getD i none = some (envT.getD i [])) i hi rfl rfl rfl rfl rfl rfl rfl rfl rfl rfl
theorem env_keys : envG.map (·.1) = envN := by kernel_rfl
theorem env_nodup : envN.Nodup := by decide
theorem env_ok : EnvOk envN (envT.map some) envG := by
  refine ⟨fun k hk => ?_,fun k hk => ?_⟩
  · obtain ⟨i,hi,e⟩ := List.mem_iff_getElem.1 hk
    have hi' : i < 10 := hi
    have e2 : envN.getD i [] = k := by rw [List.getD_eq_getElem?_getD,List.getElem?_eq_getElem hi,e]; rfl
    have hA := envA i hi'
    rw [← e2]
    refine ⟨envN_le i hi',fun W => ?_,i,envT.getD i [],(envG.getD i ([],vT [])).2,hi,rfl,envT_some i hi',envT_le i hi',envK i hi',envL i hi'⟩
    have h := isNameK (envN.getD i []) (envN_le i hi') hA.1 hA.2.1 hA.2.2.1 W
    rw [hA.2.2.2] at h
    exact h
  · rw [getL_none,env_keys]
    exact hk
theorem mk_map10 (w : World) : (Instr.makeMap 104 (some (.int .i64 10))).run Tryz.prog w = .ok (.map (some w.heap.size)) (w.alloc (.map #[] 0)) := by kernel_rfl
theorem SRow.ten {w : World} {b : Nat} {l : List (List UInt8)} {t : TypeId} (h : w.heap[b]? = some (.cells (l.map fun x => Value.string (B x)).toArray t (0,0))) : SRow w (.slice (some ⟨b,0,none⟩) l.length l.length) l :=
  ⟨_,_,rfl,fun j hj => ⟨b,rfl,lt_of_block h,blk_c h j (by simp [hj])⟩⟩
theorem names_k (w : World) : Calls Tryz.prog 33 #[] w fun e w' => e = .returned (.slice (some ⟨w.heap.size,0,none⟩) 10 10) ∧ w' = w.alloc (.cells (envN.map fun x => Value.string (B x)).toArray 9) := by
  go_enter Tryz.func33,Tryz.ntmps33
  go_wp2
  go_ret
  exact ⟨rfl,rfl⟩
theorem types_k (w : World) : Calls Tryz.prog 34 #[] w fun e w' => e = .returned (.slice (some ⟨w.heap.size,0,none⟩) 10 10) ∧ w' = w.alloc (.cells (envT.map fun x => Value.string (B x)).toArray 9) := by
  go_enter Tryz.func34,Tryz.ntmps34
  go_wp2
  go_ret
  exact ⟨rfl,rfl⟩
def outK (ge : List (List UInt8 × Et)) (most : Nat) (x : Ex) : Option (Sum (Sum (List UInt8 × Nat) Nat) (List UInt8)) :=
  match unT ge 60 x [] with
  | none => none
  | some (some y) => some (.inl (.inl y))
  | some none => match partE ge most 60 x [] ⟨[],[]⟩ with
    | none => none
    | some (.inl q) => some (.inl (.inr q))
    | some (.inr z) => match generalU z.1 [] 60 z.2 with
      | none => none
      | some t => if ncB 60 t = true then (match draftS ⟨[],[]⟩ 1 130 t (ds0 []) with
        | none => none
        | some s' => some (.inr s'.out)) else none
def knK (s : List UInt8) (r : Sum (Sum (List UInt8 × Nat) Nat) (List UInt8)) : Bool := decide (s.length ≤ 300) && match exK s with
  | none => false
  | some x => decide (outK envG 6 x = some r)
theorem kn_0 : knK [49] (.inr [105,110,116]) = true := by kernel_rfl
theorem kn_1 : knK [116,114,117,101] (.inr [98,111,111,108]) = true := by kernel_rfl
theorem kn_2 : knK [102,117,110,32,120,45,62,120] (.inr [97,32,45,62,32,97]) = true := by kernel_rfl
theorem kn_3 : knK [40,102,117,110,32,120,32,45,62,32,120,41,32,49] (.inr [105,110,116]) = true := by kernel_rfl
theorem kn_4 : knK [102,117,110,32,120,32,45,62,32,102,117,110,32,121,32,45,62,32,120] (.inr [97,32,45,62,32,98,32,45,62,32,97]) = true := by kernel_rfl
theorem kn_5 : knK [102,117,110,32,102,32,45,62,32,102,117,110,32,103,32,45,62,32,102,117,110,32,120,32,45,62,32,102,32,40,103,32,120,41] (.inr [40,97,32,45,62,32,98,41,32,45,62,32,40,99,32,45,62,32,97,41,32,45,62,32,99,32,45,62,32,98]) = true := by kernel_rfl
theorem kn_6 : knK [102,117,110,32,120,32,45,62,32,120,32,120] (.inl (.inr 3)) = true := by kernel_rfl
theorem kn_7 : knK [49,32,50] (.inl (.inr 3)) = true := by kernel_rfl
theorem kn_8 : knK [40,49,44,40,116,114,117,101,41,41] (.inr [40,105,110,116,44,32,98,111,111,108,41]) = true := by kernel_rfl
theorem kn_9 : knK [105,102,32,116,114,117,101,32,116,104,101,110,32,49,32,101,108,115,101,32,116,114,117,101] (.inl (.inr 3)) = true := by kernel_rfl
theorem kn_10 : knK [105,102,32,49,32,116,104,101,110,32,49,32,101,108,115,101,32,49] (.inl (.inr 3)) = true := by kernel_rfl
theorem kn_11 : knK [102,117,110,32,98,32,45,62,32,105,102,32,98,32,116,104,101,110,32,102,115,116,32,101,108,115,101,32,115,110,100] (.inr [98,111,111,108,32,45,62,32,40,97,44,32,97,41,32,45,62,32,97]) = true := by kernel_rfl
theorem kn_12 : knK [108,101,116,32,105,32,61,32,102,117,110,32,120,32,45,62,32,120,32,105,110,32,40,105,32,49,44,32,105,32,116,114,117,101,41] (.inr [40,105,110,116,44,32,98,111,111,108,41]) = true := by kernel_rfl
theorem kn_13 : knK [40,102,117,110,32,105,32,45,62,32,40,105,32,49,44,32,105,32,116,114,117,101,41,41,32,40,102,117,110,32,120,32,45,62,32,120,41] (.inl (.inr 3)) = true := by kernel_rfl
theorem kn_14 : knK [102,117,110,32,120,32,45,62,32,108,101,116,32,121,32,61,32,120,32,105,110,32,40,121,44,32,121,41] (.inr [97,32,45,62,32,40,97,44,32,97,41]) = true := by kernel_rfl
theorem kn_15 : knK [102,117,110,32,120,32,45,62,32,108,101,116,32,121,32,61,32,102,117,110,32,122,32,45,62,32,120,32,105,110,32,121] (.inr [97,32,45,62,32,98,32,45,62,32,97]) = true := by kernel_rfl
theorem kn_16 : knK [99,111,110,115,32,49,32,40,99,111,110,115,32,116,114,117,101,32,110,105,108,41] (.inl (.inr 3)) = true := by kernel_rfl
theorem kn_17 : knK [102,117,110,32,120,32,45,62,32,99,111,110,115,32,40,120,44,32,110,105,108,41,32,110,105,108] (.inr [97,32,45,62,32,91,40,97,44,32,91,98,93,41,93]) = true := by kernel_rfl
theorem kn_18 : knK [108,101,116,32,114,101,99,32,109,97,112,32,61,32,102,117,110,32,102,32,45,62,32,102,117,110,32,108,32,45,62,32,105,102,32,101,109,112,116,121,32,108,32,116,104,101,110,32,110,105,108,32,101,108,115,101,32,99,111,110,115,32,40,102,32,40,104,100,32,108,41,41,32,40,109,97,112,32,102,32,40,116,108,32,108,41,41,32,105,110,32,109,97,112] (.inr [40,97,32,45,62,32,98,41,32,45,62,32,91,97,93,32,45,62,32,91,98,93]) = true := by kernel_rfl
theorem kn_19 : knK [108,101,116,32,114,101,99,32,102,32,61,32,102,117,110,32,120,32,45,62,32,105,102,32,116,114,117,101,32,116,104,101,110,32,120,32,101,108,115,101,32,102,115,116,32,40,102,32,40,120,44,32,120,41,41,32,105,110,32,102] (.inr [97,32,45,62,32,97]) = true := by kernel_rfl
theorem kn_20 : knK [108,101,116,32,114,101,99,32,102,32,61,32,102,117,110,32,120,32,45,62,32,102,32,40,120,44,32,49,41,32,105,110,32,102] (.inr [97,32,45,62,32,98]) = true := by kernel_rfl
theorem kn_21 : knK [108,101,116,32,114,101,99,32,102,32,61,32,102,117,110,32,120,32,45,62,32,49,32,97,110,100,32,103,32,61,32,102,117,110,32,121,32,45,62,32,40,102,32,121,44,32,102,32,116,114,117,101,41,32,105,110,32,103] (.inr [97,32,45,62,32,40,105,110,116,44,32,105,110,116,41]) = true := by kernel_rfl
theorem kn_22 : knK [108,101,116,32,114,101,99,32,102,32,61,32,102,117,110,32,120,32,45,62,32,102,32,105,110,32,102] (.inl (.inr 5)) = true := by kernel_rfl
theorem kn_23 : knK [108,101,116,32,114,101,99,32,102,32,61,32,102,117,110,32,120,32,45,62,32,103,32,40,120,44,32,120,41,32,97,110,100,32,103,32,61,32,102,117,110,32,121,32,45,62,32,102,32,121,32,105,110,32,103] (.inr [97,32,45,62,32,98]) = true := by kernel_rfl
theorem kn_24 : knK [102,117,110,32,121,32,45,62,32,108,101,116,32,114,101,99,32,102,32,61,32,102,117,110,32,120,32,45,62,32,105,102,32,116,114,117,101,32,116,104,101,110,32,121,32,101,108,115,101,32,102,32,40,97,100,100,32,121,32,120,41,32,105,110,32,102] (.inr [105,110,116,32,45,62,32,105,110,116,32,45,62,32,105,110,116]) = true := by kernel_rfl
theorem kn_25 : knK [108,101,116,32,114,101,99,32,120,32,61,32,120,32,105,110,32,120] (.inr [97]) = true := by kernel_rfl
theorem kn_26 : knK [108,101,116,32,100,32,61,32,102,117,110,32,120,32,45,62,32,40,120,44,32,120,41,32,105,110,32,100,32,40,100,32,40,100,32,40,100,32,40,100,32,49,41,41,41,41] (.inr [40,40,40,40,40,105,110,116,44,32,105,110,116,41,44,32,40,105,110,116,44,32,105,110,116,41,41,44,32,40,40,105,110,116,44,32,105,110,116,41,44,32,40,105,110,116,44,32,105,110,116,41,41,41,44,32,40,40,40,105,110,116,44,32,105,110,116,41,44,32,40,105,110,116,44,32,105,110,116,41,41,44,32,40,40,105,110,116,44,32,105,110,116,41,44,32,40,105,110,116,44,32,105,110,116,41,41,41,41,44,32,40,40,40,40,105,110,116,44,32,105,110,116,41,44,32,40,105,110,116,44,32,105,110,116,41,41,44,32,40,40,105,110,116,44,32,105,110,116,41,44,32,40,105,110,116,44,32,105,110,116,41,41,41,44,32,40,40,40,105,110,116,44,32,105,110,116,41,44,32,40,105,110,116,44,32,105,110,116,41,41,44,32,40,40,105,110,116,44,32,105,110,116,41,44,32,40,105,110,116,44,32,105,110,116,41,41,41,41,41]) = true := by kernel_rfl
theorem kn_27 : knK [108,101,116,32,100,32,61,32,102,117,110,32,120,32,45,62,32,40,120,44,32,120,41,32,105,110,32,100,32,40,100,32,40,100,32,40,100,32,40,100,32,40,100,32,49,41,41,41,41,41] (.inl (.inr 4)) = true := by kernel_rfl
theorem kn_28 : knK [108,101,116,32,100,32,61,32,102,117,110,32,120,32,45,62,32,40,120,44,32,120,41,32,105,110,32,40,102,117,110,32,120,32,45,62,32,49,41,32,40,100,32,40,100,32,40,100,32,40,100,32,40,100,32,40,100,32,49,41,41,41,41,41,41] (.inl (.inr 4)) = true := by kernel_rfl
theorem kn_29 : knK [102,117,110,32,121,32,45,62,32,102,117,110,32,122,32,45,62,32,108,101,116,32,114,101,99,32,102,32,61,32,121,32,97,110,100,32,103,32,61,32,122,32,105,110,32,40,102,44,32,103,41] (.inr [97,32,45,62,32,98,32,45,62,32,40,97,44,32,98,41]) = true := by kernel_rfl
theorem kn_30 : knK [108,101,116,32,102,32,61,32,102,117,110,32,120,32,45,62,32,120,32,105,110,32,108,101,116,32,120,32,61,32,102,32,105,110,32,120] (.inr [97,32,45,62,32,97]) = true := by kernel_rfl
theorem kn_31 : knK [102,117,110,32,102,115,116,32,45,62,32,102,115,116,32,49] (.inr [40,105,110,116,32,45,62,32,97,41,32,45,62,32,97]) = true := by kernel_rfl
theorem kn_32 : knK [40,108,101,116,32,120,32,61,32,49,32,105,110,32,120,41,32,50] (.inl (.inr 3)) = true := by kernel_rfl
theorem kn_33 : knK [102,117,110,32,97,32,45,62,32,40,105,102,32,97,32,116,104,101,110,32,49,32,101,108,115,101,32,50,44,32,102,117,110,32,97,32,45,62,32,97,41] (.inr [98,111,111,108,32,45,62,32,40,105,110,116,44,32,97,32,45,62,32,97,41]) = true := by kernel_rfl
theorem kn_34 : knK [102] (.inl (.inl ([102],0))) = true := by kernel_rfl
theorem kn_35 : knK [108,101,116,32,120,32,61,32,120,32,105,110,32,49] (.inl (.inl ([120],8))) = true := by kernel_rfl
end Go.Proofs.YtcdijppegfcoaabGreatDoor
