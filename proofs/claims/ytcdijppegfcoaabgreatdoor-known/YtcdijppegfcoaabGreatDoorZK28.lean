import Derived.Test.YtcdijppegfcoaabGreatDoorZK19
import Derived.Test.YtcdijppegfcoaabGreatDoorShelfI
import Derived.Test.YtcdijppegfcoaabGreatDoorZK26
import Derived.LaidEql
import Derived.Deep.RegionHeld3
import Derived.Test.YtcdijppegfcoaabGreatDoorZK10
set_option maxRecDepth 100000
set_option maxHeartbeats 4000000
namespace Go.Proofs.YtcdijppegfcoaabGreatDoor
open Go.RowKit
def dec4 (n : Nat) : List UInt8 := if n < 10 then [UInt8.ofNat (48 + n)] else if n < 100 then [UInt8.ofNat (48 + n / 10),UInt8.ofNat (48 + n % 10)] else if n < 1000 then [UInt8.ofNat (48 + n / 100),UInt8.ofNat (48 + n / 10 % 10),UInt8.ofNat (48 + n % 10)] else [UInt8.ofNat (48 + n / 1000),UInt8.ofNat (48 + n / 100 % 10),UInt8.ofNat (48 + n / 10 % 10),UInt8.ofNat (48 + n % 10)]
theorem dec4_len (n : Nat) : (dec4 n).length ≤ 300 := by unfold dec4; (repeat' split) <;> simp
theorem dec4_is {n : Nat} (h : n < 10000) : Lib.decDigits n = dec4 n := by
  unfold dec4
  by_cases h1 : n < 10
  · rw [if_pos h1,Lib.decDigits,dif_pos h1]
  · rw [if_neg h1]
    by_cases h2 : n < 100
    · rw [if_pos h2,Lib.decDigits_two h1 h2]
    · rw [if_neg h2]
      by_cases h3 : n < 1000
      · rw [if_pos h3,Lib.decDigits,dif_neg h1,Lib.decDigits_two (by omega) (by omega),show n / 10 / 10 = n / 100 by omega]
        rfl
      · rw [if_neg h3,Lib.decDigits,dif_neg h1,Lib.decDigits,dif_neg (by omega),Lib.decDigits_two (by omega) (by omega),show n / 10 / 10 / 10 = n / 1000 by omega,show n / 10 / 10 % 10 = n / 100 % 10 by omega]
        rfl
def TabW (ca : List Nat) (w : World) : Prop := Lib.TabIs Tryz.prog w "internal/strconv.uint64pow10" .u64 Lib.pow10Tab ∧ 10 ∉ ca ∧ 10 < w.heap.size
theorem gPow10 : Tryz.prog.globalNamed "internal/strconv.uint64pow10" = some 10 := by kernel_rfl
theorem tab_same {w w' : World} (h : Lib.TabIs Tryz.prog w "internal/strconv.uint64pow10" .u64 Lib.pow10Tab) (e : w'.heap[10]? = w.heap[10]?) : Lib.TabIs Tryz.prog w' "internal/strconv.uint64pow10" .u64 Lib.pow10Tab := by
  unfold Lib.TabIs World.var? at *
  rw [gPow10] at *
  simpa [e] using h
theorem TabW.gb {ca : List Nat} {w w' : World} (h : TabW ca w) (g : Gb (InAs ca) w w') : TabW ca w' :=
  ⟨tab_same h.1 (g.block _ h.2.2 h.2.1),h.2.1,Nat.lt_of_lt_of_le h.2.2 g.size⟩
def ButU (lo : Nat) (ca : List Nat) (L : List Nat) (bv : Value) (w : World) : Prop := ButAt ca L bv w ∧ TabW ca w ∧ lo ≤ w.heap.size
theorem ButU.gb {lo : Nat} {ca : List Nat} {L : List Nat} {bv : Value} {w w' : World} (h : ButU lo ca L bv w) (g : Gb (InAs ca) w w') : ButU lo ca L bv w' := ⟨h.1.gb g,h.2.1.gb g,Nat.le_trans h.2.2 g.size⟩
theorem ButU.look {lo : Nat} {ca : List Nat} {L : List Nat} {bv : Value} {w : World} (h : ButU lo ca L bv w) {n : Nat} (hn : n ≤ 1099511627776) : (Instr.lookup 267 bv (.int .i64 ((n : Int) + 1)) true).run Tryz.prog w = .ok (.tuple #[.agg #[],.bool (decide (n ∈ L))]) w := h.1.look hn
theorem itoa_u (n : Nat) (h : n < 10000) (w : World) (ht : Lib.TabIs Tryz.prog w "internal/strconv.uint64pow10" .u64 Lib.pow10Tab) : Calls Tryz.prog 132 #[.int .i64 (n : Int)] w fun e w' => e = .returned (.string (B (dec4 n))) ∧ w.grownBy w' none := by
  refine (Tryz.strconv_Itoa (n : Int) (by omega) (by omega) w ht).mono ?_
  rintro e w' ⟨rfl,k,os,rfl⟩
  have e1 : Lib.itoa (n : Int) = dec4 n := by
    unfold Lib.itoa
    rw [if_neg (by omega),Int.toNat_natCast,dec4_is h]
  rw [e1]
  refine ⟨rfl,rfl,rfl,rfl,?_,fun i hi _ => ?_⟩
  · show w.heap.size ≤ (w.heap ++ os).size
    simp
  · show (w.heap ++ os)[i]? = w.heap[i]?
    rw [Array.getElem?_append_left hi]
def EL (lo : Nat) (H : Nat → Option Obj) (ca : List Nat) (v : Value) (t : Et) : Prop := ∃ m,ERep lo H ca m v t
theorem EL.er {lo : Nat} {H : Nat → Option Obj} {ca : List Nat} {v : Value} {t : Et} (h : EL lo H ca v t) : ER H ca v t := by
  obtain ⟨m,h⟩ := h
  exact ⟨m,h.ext (Nat.zero_le _) (fun _ _ e => e) (List.prefix_refl _) _ _ _⟩
theorem EL.onto {lo : Nat} {H H1 : Nat → Option Obj} {ca : List Nat} {v : Value} {t : Et} (h : EL lo H ca v t) (e : ∀ k o,H k = some o → H1 k = some o) : EL lo H1 ca v t := by
  obtain ⟨m,h⟩ := h
  exact ⟨m,ERep.ext (Nat.le_refl _) e (List.prefix_refl _) m v t h⟩
theorem el_list {lo : Nat} {H : Nat → Option Obj} {ca : List Nat} {p : Nat} {u : Value} {a : Et} (hl : lo ≤ p) (h : EL lo H ca u a) (hp : H p = some (.cells #[u] 281 (0,0))) : EL lo H ca (.iface 279 (.pointer (some ⟨p,0,none⟩))) ⟨oList,[],0,[a]⟩ := by
  obtain ⟨m,h⟩ := h
  exact ⟨m + 1,p,Or.inr (Or.inr (Or.inr (Or.inl ⟨rfl,hl,a,u,rfl,rfl,hp,h⟩)))⟩
theorem el_pair {lo : Nat} {H : Nat → Option Obj} {ca : List Nat} {p : Nat} {u z : Value} {a b : Et} (hl : lo ≤ p) (h : EL lo H ca u a) (h2 : EL lo H ca z b) (hp : H p = some (.cells #[u,z] 319 (0,0))) : EL lo H ca (.iface 291 (.pointer (some ⟨p,0,none⟩))) ⟨oPair,[],0,[a,b]⟩ := by
  obtain ⟨m,h⟩ := h
  obtain ⟨n,h2⟩ := h2
  exact ⟨max m n + 1,p,Or.inr (Or.inr (Or.inr (Or.inr (Or.inl ⟨rfl,hl,a,b,u,z,rfl,rfl,hp,h.le (Nat.le_max_left _ _),h2.le (Nat.le_max_right _ _)⟩))))⟩
theorem el_arrow {lo : Nat} {H : Nat → Option Obj} {ca : List Nat} {p : Nat} {u z : Value} {a b : Et} (hl : lo ≤ p) (h : EL lo H ca u a) (h2 : EL lo H ca z b) (hp : H p = some (.cells #[u,z] 211 (0,0))) : EL lo H ca (.iface 209 (.pointer (some ⟨p,0,none⟩))) ⟨kFun,[],0,[a,b]⟩ := by
  obtain ⟨m,h⟩ := h
  obtain ⟨n,h2⟩ := h2
  exact ⟨max m n + 1,p,Or.inr (Or.inr (Or.inr (Or.inr (Or.inr ⟨rfl,hl,a,b,u,z,rfl,rfl,hp,h.le (Nat.le_max_left _ _),h2.le (Nat.le_max_right _ _)⟩))))⟩
def GMP (lo : Nat) (H : Nat → Option Obj) (ca : List Nat) (σ : Sto) (d : Nat → Nat) (t : Et) (w : World) (e : Ending) (w' : World) : Prop :=
  Gb (InAs ca) w w' ∧ CSd H ca σ d w' ∧ ∃ v H',e = .returned v ∧ Fz H' w' ∧ (∀ k o,H k = some o → H' k = some o) ∧ (∀ k o,H' k = some o → H k = some o ∨ w.heap.size ≤ k) ∧ EL lo H' ca v t
theorem gmp_cell {lo : Nat} {H : Nat → Option Obj} {ca : List Nat} {σ : Sto} {d : Nat → Nat} {c b : Nat} {w w' : World} (hc : CSd H ca σ d w') (g : Gb (InAs ca) w w') (eb : ca[c]? = some b) : GMP lo H ca σ d (cT c) w (.returned (CI b)) w' :=
  ⟨g,hc,CI b,H,rfl,hc.fz,fun _ _ e => e,fun _ _ e => Or.inl e,1,b,Or.inl ⟨rfl,rfl,eb,rfl⟩⟩
theorem gmp_new {lo : Nat} {H H1 : Nat → Option Obj} {ca : List Nat} {σ : Sto} {d : Nat → Nat} {w w2 w3 : World} {p : Nat} {o : Obj} {v : Value} {t : Et} (hc : CSd H ca σ d w2) (g : Gb (InAs ca) w w2) (hz : Fz H1 w2) (hx : ∀ k x,H k = some x → H1 k = some x) (hn : ∀ k x,H1 k = some x → H k = some x ∨ w.heap.size ≤ k) (g3 : w2.grownBy w3 none) (hp : w2.heap.size ≤ p) (ho : w3.heap[p]? = some o) (hv : EL lo (onto1 H1 p o) ca v t) : GMP lo H ca σ d t w (.returned v) w3 :=
  ⟨g.tr (Gb.new g3),hc.grown0 g3,v,onto1 H1 p o,rfl,onto1_fz (hz.grown g3) ho,fun k x e => onto1_ext (hz.none hp) k x (hx k x e),onto1_new hn (Nat.le_trans g.size hp),hv⟩
def generalU (σ : Sto) (but : List Nat) : Nat → Nat → Option Et
  | 0,_ => none
  | f + 1,c => if σ.root c ∈ but then some (cT (σ.root c)) else match σ.is c with
    | none => if σ.root c < 9998 then some (vT (dec4 (σ.root c + 1))) else none
    | some nd => match mapS (fun k => generalU σ but f k.num) nd.kids with
      | none => none
      | some ks => some ⟨nd.kind,[],0,ks⟩
def GMC (lo : Nat) (H : Nat → Option Obj) (ca : List Nat) (σ : Sto) (d : Nat → Nat) (L : List Nat) (f : Nat) : Prop := ∀ (c x : Nat) (t : Et) (w : World) (bv : Value),ca[c]? = some x → generalU σ L f c = some t → CSd H ca σ d w → ButU lo ca L bv w → Calls Tryz.prog 119 #[CI x,bv] w (GMP lo H ca σ d t w)
theorem general_stepU {lo : Nat} {H : Nat → Option Obj} {ca : List Nat} {σ : Sto} {d : Nat → Nat} {L : List Nat} {f : Nat} (ih : GMC lo H ca σ d L f) : GMC lo H ca σ d L (f + 1) := by
  intro c x t w bv ec hr hc hb
  have HL := hid (last_any (d c + 1) c x w (by omega) ec hc)
  obtain ⟨b0,er0,eb0⟩ := hc.root_get ec
  have hil := (List.getElem?_eq_some_iff.1 ec).1
  have hrl : σ.root c < σ.rep.length := (List.getElem?_eq_some_iff.1 (hc.rr _ _ er0)).1
  have hfew := hc.few
  have t1 := e2_Cell x
  rw [generalU] at hr
  have HR := hid hr
  have HB := hid hb
  have EC := hid (And.intro ec (And.intro eb0 (hc.rr _ _ er0)))
  have IH := hid ih
  clear hr hc hb ih ec er0 eb0 hil
  unfold CI
  unfold CP at HL
  go_enter Tryz.func119,Tryz.ntmps119
  go_wp2_with fail
  refine HL.out.mono ?_
  rintro e w1 ⟨b1,rfl,h1,h2,h3,h4⟩
  obtain rfl := Option.some.inj (EC.out.2.1.symm.trans h1)
  obtain ⟨v1,hv1,ho1⟩ := h2.root_val (List.getElem?_eq_some_iff.1 EC.out.1).1 h1
  obtain ⟨x0,x1,_,_⟩ := cell_at hv1
  have hlk := (HB.out.gb h3).look (n := σ.root c) (by omega)
  have hbl := lt_of_block hv1
  have C1 := hid (And.intro h2 (And.intro h3 ho1))
  clear h1 h2 h3 h4 ho1 HL
  unfold CP
  by_cases hbut : σ.root c ∈ L
  · rw [decide_eq_true hbut] at hlk
    have er := HR.out
    rw [if_pos hbut] at er
    have er := (Option.some.inj er).symm
    subst er
    have Q := hid (gmp_cell (lo := lo) (C1.out.1.grown0 (World.grownBy_alloc w1 (.cells #[] 306) none)) (C1.out.2.1.alloc (.cells #[] 306)) EC.out.2.1)
    unfold CI at Q
    clear HR hbut
    go_wp2
    go_ret
    exact Q.out
  · rw [decide_eq_false hbut] at hlk
    have er := HR.out
    rw [if_neg hbut] at er
    have x1' := cell_past x1 (.cells #[] 306)
    have x0' := cell_past x0 (.cells #[] 306)
    have C2 := hid (And.intro (C1.out.1.grown0 (World.grownBy_alloc w1 (.cells #[] 306) none)) (C1.out.2.1.alloc (.cells #[] 306)))
    rcases C1.out.2.2 with ⟨eis,rfl⟩ | ⟨nd,eis,k1,k2,k3,k4⟩
    · rw [eis] at er
      simp only at er
      split at er
      · rename_i h99
        have er := (Option.some.inj er).symm
        subst er
        have IT := hid (itoa_u (σ.root c + 1) (by omega) (w1.alloc (.cells #[] 306)) (HB.out.gb (C2.out.2)).2.1.1)
        rw [show (((σ.root c + 1 : Nat)) : Int) = (σ.root c : Int) + 1 by omega] at IT
        clear HR hbut eis
        go_wp2_with fail
        refine IT.out.mono ?_
        rintro e w2 ⟨rfl,g2⟩
        have Q := hid (gmp_new (lo := lo) (C2.out.1.grown0 g2) (C2.out.2.tr (Gb.new g2)) (C2.out.1.grown0 g2).fz (fun _ _ e => e) (fun _ _ e => Or.inl e) (World.grownBy_alloc _ _ _) (Nat.le_refl _) (heap_alloc_new w2 (.cells #[.string (B (dec4 (σ.root c + 1)))] 246))
          (v := .iface 242 (.pointer (some ⟨w2.heap.size,0,none⟩))) (t := vT (dec4 (σ.root c + 1))) ⟨1,_,Or.inr (Or.inl ⟨rfl,rfl,dec4_len _,Nat.le_trans HB.out.2.2 (C2.out.2.tr (Gb.new g2)).size,rfl,onto1_at⟩)⟩)
        clear IT g2
        go_wp2
        go_ret
        exact Q.out
      · cases er
    · rw [eis] at er
      simp only at er
      cases em : mapS (fun k => generalU σ L f k.num) nd.kids with
      | none => rw [em] at er; cases er
      | some ks =>
        rw [em] at er
        have er := (Option.some.inj er).symm
        subst er
        obtain ⟨us,hul,hK,hBL⟩ := below_cell (σ := σ) (d := d) EC.out.2.1 C2.out.1
        have ekk : kidsS σ (cT c) = nd.kids := by
          have e0 : kidsS σ (cT c) = (match σ.is c with | none => [] | some nd => nd.kids) := by unfold kidsS; rw [if_pos (show (cT c).kind = oCell from rfl)]; rfl
          rw [e0,eis]
        rw [kids_root EC.out.2.2,ekk] at hK
        have HBL := hid hBL
        have HK := hid (And.intro hK (And.intro k3 em))
        have EIS := hid eis
        unfold CP at HBL
        clear HR hbut eis hK hBL ekk em k3
        obtain ⟨q,k4⟩ := k4
        rcases k4 with ⟨q1,_⟩ | ⟨q1,_⟩ | ⟨q1,q2,q3,q4⟩ | ⟨q1,_,a,u,q2,q3,q4,q5⟩ | ⟨q1,_,a,a2,u,z,q2,q3,q4,q5,q6⟩ | ⟨q1,_,a,a2,u,z,q2,q3,q4,q5,q6⟩
        · exact absurd q1 k2
        · exact absurd q1 k1
        · -- int,bool
          subst q3
          have e0 : us = [] := by have := HK.out.1.1; rw [q2] at this; exact List.length_eq_zero_iff.1 this
          have e1 : ks = [] := by have := HK.out.2.2; rw [q2] at this; exact (Option.some.inj this).symm
          subst e0 e1
          have Q1 := hid (And.intro q1 q4)
          clear q1 q2 q4 k1 k2
          go_wp2_with fail
          refine HBL.out.mono ?_
          rintro e w3 ⟨r1,r2,r3⟩
          obtain ⟨ao,cap,he⟩ : ∃ ao cap,e = .returned (.slice ao 0 cap) := by
            rcases r3 with ⟨_,rfl⟩ | ⟨gn,rfl,_⟩
            · exact ⟨none,0,rfl⟩
            · exact ⟨_,_,rfl⟩
          subst he
          obtain ⟨v3,hv3,ho3⟩ := r1.root_val (List.getElem?_eq_some_iff.1 EC.out.1).1 EC.out.2.1
          have R3 := hid (And.intro r1 (C2.out.2.tr r2))
          clear r1 r2 r3 HBL
          rcases ho3 with ⟨e3,_⟩ | ⟨nd3,e3,_,_,_,k43⟩
          · rw [EIS.out] at e3; cases e3
          · obtain rfl := Option.some.inj (EIS.out.symm.trans e3)
            obtain ⟨y0,y1,_,_⟩ := cell_at hv3
            obtain ⟨q9,k43⟩ := k43
            rcases k43 with ⟨p1,_⟩ | ⟨p1,_⟩ | ⟨p1,p2,p3,p4⟩ | ⟨p1,_⟩ | ⟨p1,_⟩ | ⟨p1,_⟩
            · rcases Q1.out.1 with h | h <;> exact absurd (h.symm.trans p1) (by decide)
            · rcases Q1.out.1 with h | h <;> exact absurd (h.symm.trans p1) (by decide)
            · subst p3
              have QE := hid (show GMP lo H ca σ d ⟨nd.kind,[],0,[]⟩ w (.returned (.iface 275 (.pointer (some ⟨q9,0,none⟩)))) w3 from ⟨R3.out.2,R3.out.1,_,H,rfl,R3.out.1.fz,fun _ _ e => e,fun _ _ e => Or.inl e,1,q9,Or.inr (Or.inr (Or.inl ⟨p1,rfl,rfl,p4⟩))⟩)
              clear p1 p2 p4 hv3 e3
              go_wp2_with fail
              refine wp_loop_rounds 1 ?_
              rw [rounds_succ]
              go_wp2_with fail
              refine (like_basic q9 _ _).mono ?_
              rintro e w4 ⟨rfl,rfl⟩
              go_wp2
              go_ret
              exact QE.out
            · rcases Q1.out.1 with h | h <;> exact absurd (h.symm.trans p1) (by decide)
            · rcases Q1.out.1 with h | h <;> exact absurd (h.symm.trans p1) (by decide)
            · rcases Q1.out.1 with h | h <;> exact absurd (h.symm.trans p1) (by decide)
        · -- a list
          subst q3
          have HQ := hid (And.intro q1 q2)
          clear q1 q2 q4 q5 k1 k2
          obtain ⟨u0,hu0⟩ : ∃ u0,us = [u0] := by
            have h9 := HK.out.1.1
            rw [HQ.out.2] at h9
            match us,h9 with
            | [u0],_ => exact ⟨u0,rfl⟩
          subst hu0
          have hk0 := HK.out.1
          rw [HQ.out.2] at hk0
          obtain ⟨y,ey,rfl⟩ := cell_val2 (hk0.2 0 u0 a rfl rfl) (HK.out.2.1 a (by rw [HQ.out.2]; simp))
          have em := HK.out.2.2
          rw [HQ.out.2,mapS] at em
          cases eg : generalU σ L f a.num with
          | none => rw [eg] at em; cases em
          | some t1 =>
            rw [eg] at em
            have em := (Option.some.inj em).symm
            subst em
            have G9 := hid (And.intro ey eg)
            clear hk0 ey eg
            unfold CI at *
            go_wp2_with fail
            refine HBL.out.mono ?_
            rintro e w3 ⟨r1,r2,r3⟩
            rcases r3 with ⟨h0,_⟩ | ⟨gn,rfl,hg,hgb⟩
            · cases h0
            have hgb : w3.heap[gn]? = some (.cells #[.iface 173 (.pointer (some ⟨y,0,none⟩))] 77 (0,0)) := hgb
            obtain ⟨z0,z1,_⟩ := grow1 (v := .nilIface) hgb
            have CI1 := hid (IH.out a.num y t1 w3 bv G9.out.1 G9.out.2 r1 (HB.out.gb (C2.out.2.tr r2)))
            unfold CI at CI1
            have hgn : ¬ InAs ca gn := fun h => by have := InAs.lt C2.out.1 h; omega
            have hHg : H gn = none := C2.out.1.fz.none hg
            have R3 := hid (And.intro r1 (And.intro (C2.out.2.tr r2) hgb))
            have hgw : w.heap.size ≤ gn := Nat.le_trans C2.out.2.size hg
            have hw23 := r2.size
            clear r1 r2 HBL hgb
            go_wp2_with fail
            refine wp_loop_rounds 2 ?_
            rw [rounds_succ]
            go_wp2_with fail
            refine CI1.out.mono ?_
            rintro e w4 ⟨g4,c4,v4,H4,rfl,f4,x4,n4,e4⟩
            have b4 : w4.heap[gn]? = _ := g4.at R3.out.2.2 hgn
            obtain ⟨T4,p4,_,rfl⟩ := er_val e4.er
            obtain ⟨z0,z1,z2⟩ := grow1 (v := .iface T4 (.pointer (some ⟨p4,0,none⟩))) b4
            have h4g : H4 gn = none := by
              cases h9 : H4 gn with
              | none => rfl
              | some o =>
                rcases n4 gn o h9 with h | h
                · rw [hHg] at h; cases h
                · have := lt_of_block R3.out.2.2; omega
            have c5 := csd_setNew c4 hgn hHg 0 (.iface T4 (.pointer (some ⟨p4,0,none⟩)))
            obtain ⟨v5,hv5,ho5⟩ := c5.root_val (List.getElem?_eq_some_iff.1 EC.out.1).1 EC.out.2.1
            obtain ⟨y0,y1,_,_⟩ := cell_at hv5
            have zc := (grow1 (v := .nilIface) z2).1
            rcases ho5 with ⟨e3,_⟩ | ⟨nd3,e3,_,_,_,k43⟩
            · rw [EIS.out] at e3; cases e3
            obtain rfl := Option.some.inj (EIS.out.symm.trans e3)
            obtain ⟨q9,k43⟩ := k43
            have hkind := HQ.out.1
            obtain ⟨q8,hq8⟩ : ∃ q8,v5 = .iface 279 (.pointer (some ⟨q8,0,none⟩)) := by
              rcases k43 with ⟨p1,_⟩ | ⟨p1,_⟩ | ⟨p1,_⟩ | ⟨p1,_,_,_,_,p3,_⟩ | ⟨p1,_⟩ | ⟨p1,_⟩
              · exact absurd (hkind.symm.trans p1) (by decide)
              · exact absurd (hkind.symm.trans p1) (by decide)
              · rcases p1 with p1 | p1 <;> exact absurd (hkind.symm.trans p1) (by decide)
              · exact ⟨q9,p3⟩
              · exact absurd (hkind.symm.trans p1) (by decide)
              · exact absurd (hkind.symm.trans p1) (by decide)
            subst hq8
            have E5 := hid (And.intro c5 (And.intro (gb_setNew (R3.out.2.1.tr g4) hgw 0 (.iface T4 (.pointer (some ⟨p4,0,none⟩)))) (And.intro (f4.set h4g 0 (.iface T4 (.pointer (some ⟨p4,0,none⟩)))) (And.intro x4 (And.intro n4 e4)))))
            have hw3 := R3.out.2.1.size
            have LI := hid (like_list q8 gn 1 T4 p4 _ zc)
            clear g4 c4 f4 x4 n4 e4 b4 z2 c5 hv5 k43 e3 CI1 R3 hkind
            go_wp2_with fail
            rw [rounds_succ]
            go_wp2_with fail
            refine LI.out.mono ?_
            rintro e w6 ⟨g6,p,rfl,hp,hb6⟩
            have QE := hid (gmp_new (lo := lo) E5.out.1 E5.out.2.1 E5.out.2.2.1 E5.out.2.2.2.1 (fun k x e => (E5.out.2.2.2.2.1 k x e).imp id (fun h => by omega)) g6 hp hb6 (el_list (Nat.le_trans HB.out.2.2 (Nat.le_trans E5.out.2.1.size hp)) (EL.onto E5.out.2.2.2.2.2 (fun k o e => onto1_ext (E5.out.2.2.1.none hp) k o e)) onto1_at))
            rw [← HQ.out.1] at QE
            clear g6 hp hb6 LI
            go_wp2
            go_ret
            exact QE.out
        · -- two
          subst q3
          have HQ := hid (And.intro q1 q2)
          clear q1 q2 q4 q5 q6 k1 k2
          obtain ⟨u0,u1,hu0⟩ : ∃ u0 u1,us = [u0,u1] := by
            have h9 := HK.out.1.1
            rw [HQ.out.2] at h9
            match us,h9 with
            | [u0,u1],_ => exact ⟨u0,u1,rfl⟩
          subst hu0
          have hk0 := HK.out.1
          rw [HQ.out.2] at hk0
          obtain ⟨y,ey,rfl⟩ := cell_val2 (hk0.2 0 u0 a rfl rfl) (HK.out.2.1 a (by rw [HQ.out.2]; simp))
          obtain ⟨y2,ey2,rfl⟩ := cell_val2 (hk0.2 1 u1 a2 rfl rfl) (HK.out.2.1 a2 (by rw [HQ.out.2]; simp))
          have em := HK.out.2.2
          rw [HQ.out.2,mapS] at em
          cases eg : generalU σ L f a.num with
          | none => rw [eg] at em; cases em
          | some t1 =>
            rw [eg] at em
            simp only [mapS] at em
            cases eg2 : generalU σ L f a2.num with
            | none => rw [eg2] at em; cases em
            | some t2 =>
            rw [eg2] at em
            have em := (Option.some.inj em).symm
            subst em
            have G9 := hid (And.intro (And.intro ey eg) (And.intro ey2 eg2))
            clear hk0 ey eg ey2 eg2
            unfold CI at *
            go_wp2_with fail
            refine HBL.out.mono ?_
            rintro e w3 ⟨r1,r2,r3⟩
            rcases r3 with ⟨h0,_⟩ | ⟨gn,rfl,hg,hgb⟩
            · cases h0
            have hgb : w3.heap[gn]? = some (.cells #[.iface 173 (.pointer (some ⟨y,0,none⟩)),.iface 173 (.pointer (some ⟨y2,0,none⟩))] 77 (0,0)) := hgb
            obtain ⟨z0,z1,_⟩ := grow2 hgb
            have CI1 := hid (IH.out a.num y t1 w3 bv G9.out.1.1 G9.out.1.2 r1 (HB.out.gb (C2.out.2.tr r2)))
            unfold CI at CI1
            have hgn : ¬ InAs ca gn := fun h => by have := InAs.lt C2.out.1 h; omega
            have hHg : H gn = none := C2.out.1.fz.none hg
            have R3 := hid (And.intro r1 (And.intro (C2.out.2.tr r2) hgb))
            have hgw : w.heap.size ≤ gn := Nat.le_trans C2.out.2.size hg
            have hw23 := r2.size
            clear r1 r2 HBL hgb
            go_wp2_with fail
            refine wp_loop_rounds 3 ?_
            rw [rounds_succ]
            go_wp2_with fail
            refine CI1.out.mono ?_
            rintro e w4 ⟨g4,c4,v4,H4,rfl,f4,x4,n4,e4⟩
            have b4 : w4.heap[gn]? = _ := g4.at R3.out.2.2 hgn
            obtain ⟨T4,p4,_,rfl⟩ := er_val e4.er
            obtain ⟨z0,z1,z2,z3,z4,_⟩ := grow2 b4
            have h4g : H4 gn = none := by
              cases h9 : H4 gn with
              | none => rfl
              | some o =>
                rcases n4 gn o h9 with h | h
                · rw [hHg] at h; cases h
                · have := lt_of_block R3.out.2.2; omega
            have c5 := csd_setNew c4 hgn hHg 0 (.iface T4 (.pointer (some ⟨p4,0,none⟩)))
            have b5 := z4 (.iface T4 (.pointer (some ⟨p4,0,none⟩)))
            have E5 := hid (And.intro c5 (And.intro (gb_setNew (R3.out.2.1.tr g4) hgw 0 (.iface T4 (.pointer (some ⟨p4,0,none⟩)))) (And.intro (f4.set h4g 0 (.iface T4 (.pointer (some ⟨p4,0,none⟩)))) (And.intro x4 (And.intro n4 (And.intro e4 b5))))))
            have hw3 := R3.out.2.1.size
            obtain ⟨y50,y51,_⟩ := grow2 b5
            have CI2 := hid (IH.out a2.num y2 t2 (w4.setCell ⟨gn,0,none⟩ (.iface T4 (.pointer (some ⟨p4,0,none⟩)))) bv G9.out.2.1 G9.out.2.2 c5 (HB.out.gb E5.out.2.1))
            unfold CI at CI2
            clear g4 c4 f4 x4 n4 e4 b4 z4 c5 b5 CI1 R3
            go_wp2_with fail
            generalize w4.setCell ⟨gn,0,none⟩ (.iface T4 (.pointer (some ⟨p4,0,none⟩))) = W5 at *
            rw [rounds_succ]
            go_wp2_with fail
            refine CI2.out.mono ?_
            rintro e w6 ⟨g6,c6,v6,H6,rfl,f6,x6,n6,e6⟩
            have b6 : w6.heap[gn]? = _ := g6.at E5.out.2.2.2.2.2.2 hgn
            obtain ⟨T6,p6,_,rfl⟩ := er_val e6.er
            obtain ⟨z0,z1,z2,z3,_,z4⟩ := grow2 b6
            have h6g : H6 gn = none := by
              cases h9 : H6 gn with
              | none => rfl
              | some o =>
                rcases n6 gn o h9 with h | h
                · rw [hHg] at h; cases h
                · have := lt_of_block E5.out.2.2.2.2.2.2; omega
            have c7 := csd_setNew c6 hgn hHg 1 (.iface T6 (.pointer (some ⟨p6,0,none⟩)))
            have b7 := z4 (.iface T6 (.pointer (some ⟨p6,0,none⟩)))
            have f46 : Fz H4 w6 := E5.out.2.2.1.gb g6 (fun k o e hk => by
              rcases E5.out.2.2.2.2.1 k o e with h | h
              · rw [E5.out.1.off k hk] at h; cases h
              · have := InAs.lt C2.out.1 hk
                omega)
            have fz7 := fz_both (f46.set h4g 1 (.iface T6 (.pointer (some ⟨p6,0,none⟩)))) (f6.set h6g 1 (.iface T6 (.pointer (some ⟨p6,0,none⟩))))
            have hs5 := E5.out.2.1.size
            have E7 := hid (And.intro c7 (And.intro (gb_setNew (E5.out.2.1.tr g6) hgw 1 (.iface T6 (.pointer (some ⟨p6,0,none⟩)))) (And.intro fz7.1 (And.intro (show ∀ k o,H k = some o → both H4 H6 k = some o from fun k o e => fz7.2.1.1 k o (E5.out.2.2.2.1 k o e)) (And.intro (show ∀ k o,both H4 H6 k = some o → H k = some o ∨ w.heap.size ≤ k from fun k o e => by
              unfold both at e
              split at e
              · rename_i o' h9
                cases e
                exact (E5.out.2.2.2.2.1 k o h9).imp id (fun h => by omega)
              · exact (n6 k o e).imp id (fun h => by omega)) (And.intro (EL.onto E5.out.2.2.2.2.2.1 fz7.2.1.1) (EL.onto e6 fz7.2.2.1)))))))
            obtain ⟨v5,hv5,ho5⟩ := c7.root_val (List.getElem?_eq_some_iff.1 EC.out.1).1 EC.out.2.1
            obtain ⟨y0,y1,_,_⟩ := cell_at hv5
            obtain ⟨zc,zd,_⟩ := grow2 b7
            rcases ho5 with ⟨e3,_⟩ | ⟨nd3,e3,_,_,_,k43⟩
            · rw [EIS.out] at e3; cases e3
            obtain rfl := Option.some.inj (EIS.out.symm.trans e3)
            obtain ⟨q9,k43⟩ := k43
            have hkind := HQ.out.1
            obtain ⟨q8,hq8⟩ : ∃ q8,v5 = .iface 291 (.pointer (some ⟨q8,0,none⟩)) := by
              rcases k43 with ⟨p1,_⟩ | ⟨p1,_⟩ | ⟨p1,_⟩ | ⟨p1,_⟩ | ⟨p1,_,_,_,_,_,_,p3,_⟩ | ⟨p1,_⟩
              · exact absurd (hkind.symm.trans p1) (by decide)
              · exact absurd (hkind.symm.trans p1) (by decide)
              · rcases p1 with p1 | p1 <;> exact absurd (hkind.symm.trans p1) (by decide)
              · exact absurd (hkind.symm.trans p1) (by decide)
              · exact ⟨q9,p3⟩
              · exact absurd (hkind.symm.trans p1) (by decide)
            subst hq8
            have LI := hid (like_pair q8 gn 2 T4 p4 T6 p6 _ zc zd)
            clear g6 c6 f6 x6 n6 e6 b6 z4 c7 b7 f46 fz7 hv5 k43 e3 CI2 E5 hkind
            go_wp2_with fail
            generalize w6.setCell ⟨gn,1,none⟩ (.iface T6 (.pointer (some ⟨p6,0,none⟩))) = W7 at *
            rw [rounds_succ]
            go_wp2_with fail
            refine LI.out.mono ?_
            rintro e w8 ⟨g8,p,rfl,hp,hb8⟩
            have QE := hid (gmp_new (lo := lo) E7.out.1 E7.out.2.1 E7.out.2.2.1 E7.out.2.2.2.1 E7.out.2.2.2.2.1 g8 hp hb8 (el_pair (Nat.le_trans HB.out.2.2 (Nat.le_trans E7.out.2.1.size hp)) (EL.onto E7.out.2.2.2.2.2.1 (fun k o e => onto1_ext (E7.out.2.2.1.none hp) k o e)) (EL.onto E7.out.2.2.2.2.2.2 (fun k o e => onto1_ext (E7.out.2.2.1.none hp) k o e)) onto1_at))
            rw [← HQ.out.1] at QE
            clear g8 hp hb8 LI
            go_wp2
            go_ret
            exact QE.out
        · -- two
          subst q3
          have HQ := hid (And.intro q1 q2)
          clear q1 q2 q4 q5 q6 k1 k2
          obtain ⟨u0,u1,hu0⟩ : ∃ u0 u1,us = [u0,u1] := by
            have h9 := HK.out.1.1
            rw [HQ.out.2] at h9
            match us,h9 with
            | [u0,u1],_ => exact ⟨u0,u1,rfl⟩
          subst hu0
          have hk0 := HK.out.1
          rw [HQ.out.2] at hk0
          obtain ⟨y,ey,rfl⟩ := cell_val2 (hk0.2 0 u0 a rfl rfl) (HK.out.2.1 a (by rw [HQ.out.2]; simp))
          obtain ⟨y2,ey2,rfl⟩ := cell_val2 (hk0.2 1 u1 a2 rfl rfl) (HK.out.2.1 a2 (by rw [HQ.out.2]; simp))
          have em := HK.out.2.2
          rw [HQ.out.2,mapS] at em
          cases eg : generalU σ L f a.num with
          | none => rw [eg] at em; cases em
          | some t1 =>
            rw [eg] at em
            simp only [mapS] at em
            cases eg2 : generalU σ L f a2.num with
            | none => rw [eg2] at em; cases em
            | some t2 =>
            rw [eg2] at em
            have em := (Option.some.inj em).symm
            subst em
            have G9 := hid (And.intro (And.intro ey eg) (And.intro ey2 eg2))
            clear hk0 ey eg ey2 eg2
            unfold CI at *
            go_wp2_with fail
            refine HBL.out.mono ?_
            rintro e w3 ⟨r1,r2,r3⟩
            rcases r3 with ⟨h0,_⟩ | ⟨gn,rfl,hg,hgb⟩
            · cases h0
            have hgb : w3.heap[gn]? = some (.cells #[.iface 173 (.pointer (some ⟨y,0,none⟩)),.iface 173 (.pointer (some ⟨y2,0,none⟩))] 77 (0,0)) := hgb
            obtain ⟨z0,z1,_⟩ := grow2 hgb
            have CI1 := hid (IH.out a.num y t1 w3 bv G9.out.1.1 G9.out.1.2 r1 (HB.out.gb (C2.out.2.tr r2)))
            unfold CI at CI1
            have hgn : ¬ InAs ca gn := fun h => by have := InAs.lt C2.out.1 h; omega
            have hHg : H gn = none := C2.out.1.fz.none hg
            have R3 := hid (And.intro r1 (And.intro (C2.out.2.tr r2) hgb))
            have hgw : w.heap.size ≤ gn := Nat.le_trans C2.out.2.size hg
            have hw23 := r2.size
            clear r1 r2 HBL hgb
            go_wp2_with fail
            refine wp_loop_rounds 3 ?_
            rw [rounds_succ]
            go_wp2_with fail
            refine CI1.out.mono ?_
            rintro e w4 ⟨g4,c4,v4,H4,rfl,f4,x4,n4,e4⟩
            have b4 : w4.heap[gn]? = _ := g4.at R3.out.2.2 hgn
            obtain ⟨T4,p4,_,rfl⟩ := er_val e4.er
            obtain ⟨z0,z1,z2,z3,z4,_⟩ := grow2 b4
            have h4g : H4 gn = none := by
              cases h9 : H4 gn with
              | none => rfl
              | some o =>
                rcases n4 gn o h9 with h | h
                · rw [hHg] at h; cases h
                · have := lt_of_block R3.out.2.2; omega
            have c5 := csd_setNew c4 hgn hHg 0 (.iface T4 (.pointer (some ⟨p4,0,none⟩)))
            have b5 := z4 (.iface T4 (.pointer (some ⟨p4,0,none⟩)))
            have E5 := hid (And.intro c5 (And.intro (gb_setNew (R3.out.2.1.tr g4) hgw 0 (.iface T4 (.pointer (some ⟨p4,0,none⟩)))) (And.intro (f4.set h4g 0 (.iface T4 (.pointer (some ⟨p4,0,none⟩)))) (And.intro x4 (And.intro n4 (And.intro e4 b5))))))
            have hw3 := R3.out.2.1.size
            obtain ⟨y50,y51,_⟩ := grow2 b5
            have CI2 := hid (IH.out a2.num y2 t2 (w4.setCell ⟨gn,0,none⟩ (.iface T4 (.pointer (some ⟨p4,0,none⟩)))) bv G9.out.2.1 G9.out.2.2 c5 (HB.out.gb E5.out.2.1))
            unfold CI at CI2
            clear g4 c4 f4 x4 n4 e4 b4 z4 c5 b5 CI1 R3
            go_wp2_with fail
            generalize w4.setCell ⟨gn,0,none⟩ (.iface T4 (.pointer (some ⟨p4,0,none⟩))) = W5 at *
            rw [rounds_succ]
            go_wp2_with fail
            refine CI2.out.mono ?_
            rintro e w6 ⟨g6,c6,v6,H6,rfl,f6,x6,n6,e6⟩
            have b6 : w6.heap[gn]? = _ := g6.at E5.out.2.2.2.2.2.2 hgn
            obtain ⟨T6,p6,_,rfl⟩ := er_val e6.er
            obtain ⟨z0,z1,z2,z3,_,z4⟩ := grow2 b6
            have h6g : H6 gn = none := by
              cases h9 : H6 gn with
              | none => rfl
              | some o =>
                rcases n6 gn o h9 with h | h
                · rw [hHg] at h; cases h
                · have := lt_of_block E5.out.2.2.2.2.2.2; omega
            have c7 := csd_setNew c6 hgn hHg 1 (.iface T6 (.pointer (some ⟨p6,0,none⟩)))
            have b7 := z4 (.iface T6 (.pointer (some ⟨p6,0,none⟩)))
            have f46 : Fz H4 w6 := E5.out.2.2.1.gb g6 (fun k o e hk => by
              rcases E5.out.2.2.2.2.1 k o e with h | h
              · rw [E5.out.1.off k hk] at h; cases h
              · have := InAs.lt C2.out.1 hk
                omega)
            have fz7 := fz_both (f46.set h4g 1 (.iface T6 (.pointer (some ⟨p6,0,none⟩)))) (f6.set h6g 1 (.iface T6 (.pointer (some ⟨p6,0,none⟩))))
            have hs5 := E5.out.2.1.size
            have E7 := hid (And.intro c7 (And.intro (gb_setNew (E5.out.2.1.tr g6) hgw 1 (.iface T6 (.pointer (some ⟨p6,0,none⟩)))) (And.intro fz7.1 (And.intro (show ∀ k o,H k = some o → both H4 H6 k = some o from fun k o e => fz7.2.1.1 k o (E5.out.2.2.2.1 k o e)) (And.intro (show ∀ k o,both H4 H6 k = some o → H k = some o ∨ w.heap.size ≤ k from fun k o e => by
              unfold both at e
              split at e
              · rename_i o' h9
                cases e
                exact (E5.out.2.2.2.2.1 k o h9).imp id (fun h => by omega)
              · exact (n6 k o e).imp id (fun h => by omega)) (And.intro (EL.onto E5.out.2.2.2.2.2.1 fz7.2.1.1) (EL.onto e6 fz7.2.2.1)))))))
            obtain ⟨v5,hv5,ho5⟩ := c7.root_val (List.getElem?_eq_some_iff.1 EC.out.1).1 EC.out.2.1
            obtain ⟨y0,y1,_,_⟩ := cell_at hv5
            obtain ⟨zc,zd,_⟩ := grow2 b7
            rcases ho5 with ⟨e3,_⟩ | ⟨nd3,e3,_,_,_,k43⟩
            · rw [EIS.out] at e3; cases e3
            obtain rfl := Option.some.inj (EIS.out.symm.trans e3)
            obtain ⟨q9,k43⟩ := k43
            have hkind := HQ.out.1
            obtain ⟨q8,hq8⟩ : ∃ q8,v5 = .iface 209 (.pointer (some ⟨q8,0,none⟩)) := by
              rcases k43 with ⟨p1,_⟩ | ⟨p1,_⟩ | ⟨p1,_⟩ | ⟨p1,_⟩ | ⟨p1,_⟩ | ⟨p1,_,_,_,_,_,_,p3,_⟩
              · exact absurd (hkind.symm.trans p1) (by decide)
              · exact absurd (hkind.symm.trans p1) (by decide)
              · rcases p1 with p1 | p1 <;> exact absurd (hkind.symm.trans p1) (by decide)
              · exact absurd (hkind.symm.trans p1) (by decide)
              · exact absurd (hkind.symm.trans p1) (by decide)
              · exact ⟨q9,p3⟩
            subst hq8
            have LI := hid (like_arrow q8 gn 2 T4 p4 T6 p6 _ zc zd)
            clear g6 c6 f6 x6 n6 e6 b6 z4 c7 b7 f46 fz7 hv5 k43 e3 CI2 E5 hkind
            go_wp2_with fail
            generalize w6.setCell ⟨gn,1,none⟩ (.iface T6 (.pointer (some ⟨p6,0,none⟩))) = W7 at *
            rw [rounds_succ]
            go_wp2_with fail
            refine LI.out.mono ?_
            rintro e w8 ⟨g8,p,rfl,hp,hb8⟩
            have QE := hid (gmp_new (lo := lo) E7.out.1 E7.out.2.1 E7.out.2.2.1 E7.out.2.2.2.1 E7.out.2.2.2.2.1 g8 hp hb8 (el_arrow (Nat.le_trans HB.out.2.2 (Nat.le_trans E7.out.2.1.size hp)) (EL.onto E7.out.2.2.2.2.2.1 (fun k o e => onto1_ext (E7.out.2.2.1.none hp) k o e)) (EL.onto E7.out.2.2.2.2.2.2 (fun k o e => onto1_ext (E7.out.2.2.1.none hp) k o e)) onto1_at))
            rw [← HQ.out.1] at QE
            clear g8 hp hb8 LI
            go_wp2
            go_ret
            exact QE.out
theorem general_anyU {lo : Nat} {H : Nat → Option Obj} {ca : List Nat} {σ : Sto} {d : Nat → Nat} {L : List Nat} : ∀ f,GMC lo H ca σ d L f
  | 0 => fun c x t w bv _ h _ _ => by cases h
  | f + 1 => general_stepU (general_anyU f)
theorem General_u {lo : Nat} {H : Nat → Option Obj} {ca : List Nat} {σ : Sto} {d : Nat → Nat} {L : List Nat} {f c x : Nat} {t : Et} {bv : Value} {w : World} (ex : ca[c]? = some x) (hg : generalU σ L f c = some t) (hc : CSd H ca σ d w) (hb : ButU lo ca L bv w) :
    Calls Tryz.prog 74 #[CP x,bv] w fun e w' => Gb (InAs ca) w w' ∧ CSd H ca σ d w' ∧ ∃ v H',e = .returned (.agg #[v]) ∧ Fz H' w' ∧ (∀ k o,H k = some o → H' k = some o) ∧ (∀ k o,H' k = some o → H k = some o ∨ w.heap.size ≤ k) ∧ EL lo H' ca v t := by
  have g1 : w.grownBy (w.alloc (.cells #[.nilIface] 109)) none := World.grownBy_alloc _ _ _
  have CG := hid (general_anyU f c x t (w.alloc (.cells #[.nilIface] 109)) bv ex hg (hc.grown0 g1) (hb.gb (Gb.new g1)))
  have hz0 := hc.fz.none (Nat.le_refl w.heap.size)
  have hza : ¬ InAs ca w.heap.size := fun hm => by have := InAs.lt hc hm; omega
  have hbv : bv = .map none ∨ ∃ mb,bv = .map (some mb) := by
    rcases hb.1 with ⟨h,_⟩ | ⟨mb,h,_⟩
    · exact Or.inl h
    · exact Or.inr ⟨mb,h⟩
  clear ex hg hc hb
  unfold CI CP at *
  rcases hbv with rfl | ⟨mb,rfl⟩
  all_goals
    go_enter Tryz.func74,Tryz.ntmps74
    go_wp2_with fail
    refine CG.out.mono ?_
    rintro e w' ⟨g,cs,v,H',rfl,z,x1,x2,er⟩
    have n0 : w'.heap[w.heap.size]? = some (.cells #[.nilIface] 109 (0,0)) := g.at (heap_alloc_new _ _) hza
    have hz1 : H' w.heap.size = none := by
      cases h9 : H' w.heap.size with
      | none => rfl
      | some o =>
        rcases x2 _ o h9 with h | h
        · rw [hz0] at h; cases h
        · simp at h; omega
    obtain ⟨T0,b0,_,rfl⟩ := er_val er.er
    have c0 : w'.cell? ⟨w.heap.size,0,none⟩ = some .nilIface := blk_c n0 0 rfl
    have f0 : w'.frozen? ⟨w.heap.size,0,none⟩ = false := blk_f n0 0
    have c1 : (w'.setCell ⟨w.heap.size,0,none⟩ (.iface T0 (.pointer (some ⟨b0,0,none⟩)))).cell? ⟨w.heap.size,0,none⟩ = some (.iface T0 (.pointer (some ⟨b0,0,none⟩))) := blk_c (put_c n0 _) 0 rfl
    have z2 : Fz H' (w'.setCell ⟨w.heap.size,0,none⟩ (.iface T0 (.pointer (some ⟨b0,0,none⟩)))) := fun k o e => by
      rw [Below.heap_setCell _ _ _ _ (show k ≠ w.heap.size from fun e2 => by rw [e2,hz1] at e; cases e)]; exact z k o e
    have Q := hid (And.intro (show Gb (InAs ca) w (w'.setCell ⟨w.heap.size,0,none⟩ (.iface T0 (.pointer (some ⟨b0,0,none⟩)))) from ((Gb.new g1).tr g).set (b := w.heap.size) (Or.inr (Nat.le_refl _)) 0 _) (And.intro (csd_setNew cs hza hz0 0 (.iface T0 (.pointer (some ⟨b0,0,none⟩)))) (And.intro z2 (And.intro x1 (And.intro x2 er)))))
    clear g cs z x1 x2 er n0 z2 CG
    go_wp2
    refine bodyPost_ret (v := .agg #[.iface T0 (.pointer (some ⟨b0,0,none⟩))]) (by simp [results,Tryz.results74,go_sem,c1]) rfl ?_
    obtain ⟨q1,q2,q3,q4,q5,q6⟩ := Q.out
    exact ⟨q1,q2,_,H',rfl,q3,q4,fun k o e => (q5 k o e).imp id (fun e => by simp at e; omega),q6⟩
def SMP (H : Nat → Option Obj) (ca : List Nat) (σ : Sto) (d : Nat → Nat) (c1 m1 c2 m2 : Nat) (r : Option (List (List UInt8) × List (List UInt8))) (w : World) (e : Ending) (w' : World) : Prop :=
  CSd H ca σ d w' ∧ Gb (fun k => InAs ca k ∨ k = m1 ∨ k = m2) w w' ∧ match r with
    | none => e = .returned (.bool false)
    | some x => e = .returned (.bool true) ∧ NU w' c1 m1 x.1 ∧ NU w' c2 m2 x.2
structure NUo (H : Nat → Option Obj) (ca : List Nat) (c1 m1 c2 m2 : Nat) : Prop where
  a1 : m1 ∉ ca
  a2 : m2 ∉ ca
  a3 : c1 ∉ ca
  a4 : c2 ∉ ca
  h1 : H m1 = none
  h2 : H m2 = none
  n1 : m1 ≠ m2
  n2 : c1 ≠ m2
  n3 : c2 ≠ m1
def smV (c1 c2 : Nat) : Value := .agg #[numV c1,numV c2]
theorem not_var {T0 : TypeId} (h : IsE T0) (hn : T0 ≠ 242) (b : Nat) (w : World) : (Instr.typeAssert (.iface T0 (.pointer (some ⟨b,0,none⟩))) 77 242 true).run Tryz.prog w = .ok (.tuple #[.pointer none,.bool false]) w := by
  rcases h with rfl | rfl | rfl | rfl | rfl | rfl
  · exact e_Cell_Var b w
  · exact absurd rfl hn
  · exact e_Basic_Var b w
  · exact e_List_Var b w
  · exact e_Pair_Var b w
  · exact e_Arrow_Var b w
theorem iface_ne {T1 T2 : TypeId} (h1 : IsE T1) (h2 : IsE T2) (hn : T1 ≠ T2) (b1 b2 : Nat) (w : World) : (binOp .eql 77 (.iface T1 (.pointer (some ⟨b1,0,none⟩))) (.iface T2 (.pointer (some ⟨b2,0,none⟩)))).run Tryz.prog w = .ok (.bool false) w := by
  rcases h1 with rfl | rfl | rfl | rfl | rfl | rfl <;> rcases h2 with rfl | rfl | rfl | rfl | rfl | rfl <;> first | exact absurd rfl hn | kernel_rfl
theorem map_someX {α β : Type} {o : Option α} {f : α → β} {b : β} (h : o.map f = some b) : ∃ a,o = some a ∧ f a = b := by
  cases o with
  | none => cases h
  | some a => exact ⟨a,rfl,Option.some.inj h⟩
theorem cmp_Cell : (Tryz.prog.info? 173).map (·.comparable) = some true ∧ (Tryz.prog.info? 284).map (fun j => decide (j.size ≠ 0)) = some true := ⟨by kernel_rfl,by kernel_rfl⟩
theorem cmp_Var : (Tryz.prog.info? 242).map (·.comparable) = some true ∧ (Tryz.prog.info? 246).map (fun j => decide (j.size ≠ 0)) = some true := ⟨by kernel_rfl,by kernel_rfl⟩
theorem cmp_Basic : (Tryz.prog.info? 275).map (·.comparable) = some true ∧ (Tryz.prog.info? 277).map (fun j => decide (j.size ≠ 0)) = some true := ⟨by kernel_rfl,by kernel_rfl⟩
theorem cmp_List : (Tryz.prog.info? 279).map (·.comparable) = some true ∧ (Tryz.prog.info? 281).map (fun j => decide (j.size ≠ 0)) = some true := ⟨by kernel_rfl,by kernel_rfl⟩
theorem cmp_Pair : (Tryz.prog.info? 291).map (·.comparable) = some true ∧ (Tryz.prog.info? 319).map (fun j => decide (j.size ≠ 0)) = some true := ⟨by kernel_rfl,by kernel_rfl⟩
theorem cmp_Arrow : (Tryz.prog.info? 209).map (·.comparable) = some true ∧ (Tryz.prog.info? 211).map (fun j => decide (j.size ≠ 0)) = some true := ⟨by kernel_rfl,by kernel_rfl⟩
theorem cmp_E {T : TypeId} (h : IsE T) : ∃ te i j,Tryz.prog.underlying T = some (.pointer te) ∧ Tryz.prog.info? T = some i ∧ i.comparable = true ∧ Tryz.prog.info? te = some j ∧ j.size ≠ 0 := by
  rcases h with rfl | rfl | rfl | rfl | rfl | rfl
  · obtain ⟨i,hi,hc⟩ := map_someX cmp_Cell.1
    obtain ⟨j,hj,hs⟩ := map_someX cmp_Cell.2
    exact ⟨_,i,j,Tryz.underlying173,hi,hc,hj,of_decide_eq_true hs⟩
  · obtain ⟨i,hi,hc⟩ := map_someX cmp_Var.1
    obtain ⟨j,hj,hs⟩ := map_someX cmp_Var.2
    exact ⟨_,i,j,Tryz.underlying242,hi,hc,hj,of_decide_eq_true hs⟩
  · obtain ⟨i,hi,hc⟩ := map_someX cmp_Basic.1
    obtain ⟨j,hj,hs⟩ := map_someX cmp_Basic.2
    exact ⟨_,i,j,Tryz.underlying275,hi,hc,hj,of_decide_eq_true hs⟩
  · obtain ⟨i,hi,hc⟩ := map_someX cmp_List.1
    obtain ⟨j,hj,hs⟩ := map_someX cmp_List.2
    exact ⟨_,i,j,Tryz.underlying279,hi,hc,hj,of_decide_eq_true hs⟩
  · obtain ⟨i,hi,hc⟩ := map_someX cmp_Pair.1
    obtain ⟨j,hj,hs⟩ := map_someX cmp_Pair.2
    exact ⟨_,i,j,Tryz.underlying291,hi,hc,hj,of_decide_eq_true hs⟩
  · obtain ⟨i,hi,hc⟩ := map_someX cmp_Arrow.1
    obtain ⟨j,hj,hs⟩ := map_someX cmp_Arrow.2
    exact ⟨_,i,j,Tryz.underlying209,hi,hc,hj,of_decide_eq_true hs⟩
theorem ieq_same {T : TypeId} (h : IsE T) (b : Nat) (w : World) : (binOp .eql 77 (.iface T (.pointer (some ⟨b,0,none⟩))) (.iface T (.pointer (some ⟨b,0,none⟩)))).run Tryz.prog w = .ok (.bool true) w := by
  obtain ⟨te,i,j,h1,h2,h3,h4,_⟩ := cmp_E h
  exact run_eql_iface_ptr_same (P := Tryz.prog) w _ Tryz.underlying77 h1 h2 h3 h4
theorem ieq_other {T : TypeId} (h : IsE T) {b1 b2 : Nat} (hn : b1 ≠ b2) {w : World} {ca cb : Array Value} {ta tb : TypeId} (ha : w.heap[b1]? = some (.cells ca ta (0,0))) (hb : w.heap[b2]? = some (.cells cb tb (0,0))) : (binOp .eql 77 (.iface T (.pointer (some ⟨b1,0,none⟩))) (.iface T (.pointer (some ⟨b2,0,none⟩)))).run Tryz.prog w = .ok (.bool false) w := by
  obtain ⟨te,i,j,h1,h2,h3,h4,h5⟩ := cmp_E h
  exact run_eql_iface_ptr_other (P := Tryz.prog) w Tryz.underlying77 h1 h2 h3 h4 h5 (fun e => hn (by injection e)) ha hb
theorem same_nvar {H : Nat → Option Obj} {ca : List Nat} {σ : Sto} {d : Nat → Nat} {c1 m1 c2 m2 : Nat} {w : World} {Ta ba Tb bb b1 T2 : Nat} (hc : CSd H ca σ d w) (hT : IsE T2) (hn : T2 ≠ 242)
    (CA : ∀ w,CSd H ca σ d w → Calls Tryz.prog 168 #[.iface Ta (.pointer (some ⟨ba,0,none⟩))] w (NOW H ca σ d (.iface 242 (.pointer (some ⟨b1,0,none⟩))) w))
    (CB : ∀ w,CSd H ca σ d w → ∃ b2,Calls Tryz.prog 168 #[.iface Tb (.pointer (some ⟨bb,0,none⟩))] w (NOW H ca σ d (.iface T2 (.pointer (some ⟨b2,0,none⟩))) w)) :
    Calls Tryz.prog 206 #[smV c1 c2,.iface Ta (.pointer (some ⟨ba,0,none⟩)),.iface Tb (.pointer (some ⟨bb,0,none⟩))] w (SMP H ca σ d c1 m1 c2 m2 none w) := by
  have g0 : w.grownBy (w.alloc (.cells #[numV c1,numV c2] 363)) none := World.grownBy_alloc _ _ _
  have C1 := hid (CA _ (hc.grown0 g0))
  have C2 := hid CB
  have a1 := e_Var_Var b1
  clear CA CB hc
  unfold smV numV at *
  go_enter Tryz.func206,Tryz.ntmps206
  go_wp2_with fail
  refine C1.out.mono ?_
  rintro e w1 ⟨rfl,h1,h2⟩
  obtain ⟨b2,C3'⟩ := C2.out w1 h1
  have C3 := hid C3'
  have a2 := not_var hT hn b2
  have G1 := hid ((Gb.new g0).tr h2)
  clear h1 h2 C1 C2 g0 C3'
  go_wp2_with fail
  refine C3.out.mono ?_
  rintro e w2 ⟨rfl,h1,h2⟩
  have Q9 := hid (show ∀ q,SMP H ca σ d c1 m1 c2 m2 none w (.returned (.bool false)) (w2.drewN q) from fun q => ⟨h1.grown0 ⟨rfl,rfl,rfl,Nat.le_refl _,fun _ _ _ => rfl⟩,((G1.out.tr h2).mono (fun k e => Or.inl e)).tr ⟨rfl,rfl,rfl,Nat.le_refl _,fun _ _ _ => rfl⟩,rfl⟩)
  clear h1 h2 C3
  go_wp2_with fail
  go_quiet (fail)
  go_wp2
  go_ret
  exact Q9.out _
theorem NU.drew {w : World} {cb mb : Nat} {L : List (List UInt8)} (h : NU w cb mb L) : NU w.drew cb mb L := h.gb (R := fun _ => False) (Gb.refl _ w).drew id id
theorem gb_m1 {R : Nat → Prop} {w w' : World} {m : Nat} (g : w.grownBy w' (some m)) (h : R m) : Gb R w w' := Gb.of g (fun b e => Or.inl (by rw [← Option.some.inj e]; exact h))
theorem nm_h {H : Nat → Option Obj} {b m : Nat} {o : Obj} (h : H b = some o) (hm : H m = none) (e : b = m) : False := by rw [e,hm] at h; cases h
theorem same_var {H : Nat → Option Obj} {ca : List Nat} {σ : Sto} {d : Nat → Nat} {c1 m1 c2 m2 : Nat} {w : World} {Ta ba Tb bb b1 b2 : Nat} {n1 n2 : List UInt8} {p q : List (List UInt8)} (hc : CSd H ca σ d w) (hl1 : n1.length ≤ 300) (hl2 : n2.length ≤ 300) (hp : p.length ≤ 200) (hq : q.length ≤ 200) (h1 : H b1 = some (.cells #[.string (B n1)] 246 (0,0))) (h2 : H b2 = some (.cells #[.string (B n2)] 246 (0,0))) (N1 : NU w c1 m1 p) (N2 : NU w c2 m2 q) (no : NUo H ca c1 m1 c2 m2)
    (CA : ∀ w,CSd H ca σ d w → Calls Tryz.prog 168 #[.iface Ta (.pointer (some ⟨ba,0,none⟩))] w (NOW H ca σ d (.iface 242 (.pointer (some ⟨b1,0,none⟩))) w))
    (CB : ∀ w,CSd H ca σ d w → Calls Tryz.prog 168 #[.iface Tb (.pointer (some ⟨bb,0,none⟩))] w (NOW H ca σ d (.iface 242 (.pointer (some ⟨b2,0,none⟩))) w)) :
    Calls Tryz.prog 206 #[smV c1 c2,.iface Ta (.pointer (some ⟨ba,0,none⟩)),.iface Tb (.pointer (some ⟨bb,0,none⟩))] w (SMP H ca σ d c1 m1 c2 m2 (if (ordS p n1).idxOf n1 = (ordS q n2).idxOf n2 then some (ordS p n1,ordS q n2) else none) w) := by
  obtain ⟨r,hr⟩ : ∃ r,r = if (ordS p n1).idxOf n1 = (ordS q n2).idxOf n2 then some (ordS p n1,ordS q n2) else none := ⟨_,rfl⟩
  rw [← hr]
  have HR := hid hr
  clear hr
  have g0 : w.grownBy (w.alloc (.cells #[numV c1,numV c2] 363)) none := World.grownBy_alloc _ _ _
  have nb0 : (w.alloc (.cells #[numV c1,numV c2] 363)).heap[w.heap.size]? = some (.cells #[numV c1,numV c2] 363 (0,0)) := heap_alloc_new _ _
  have hwa : ¬ InAs ca w.heap.size := fun hm => by have := InAs.lt hc hm; omega
  have hm1 := N1.mp.lt
  have hm2 := N2.mp.lt
  have C1 := hid (CA _ (hc.grown0 g0))
  have C2 := hid CB
  have a1 := e_Var_Var b1
  have a2 := e_Var_Var b2
  have Q0 := hid (And.intro g0 (And.intro nb0 (And.intro hwa (And.intro N1 (And.intro N2 no)))))
  have Q1 := hid (And.intro h1 (And.intro h2 (And.intro hl1 (And.intro hl2 (And.intro hp hq)))))
  clear CA CB hc g0 nb0 hwa N1 N2 no h1 h2 hl1 hl2 hp hq
  unfold smV numV at *
  go_enter Tryz.func206,Tryz.ntmps206
  go_wp2_with fail
  refine C1.out.mono ?_
  rintro e w1 ⟨rfl,h1,h2⟩
  have C3 := hid (C2.out w1 h1)
  have G1 := hid ((Gb.new Q0.out.1 (R := InAs ca)).tr h2)
  have B1 := hid (h2.at Q0.out.2.1 Q0.out.2.2.1)
  clear h1 h2 C1 C2
  go_wp2_with fail
  refine C3.out.mono ?_
  rintro e w2 ⟨rfl,h1,h2⟩
  have g2 := G1.out.tr h2
  have B2 := hid (h2.at B1.out Q0.out.2.2.1)
  have n1' := Q0.out.2.2.2.1.gb g2 Q0.out.2.2.2.2.2.a3 Q0.out.2.2.2.2.2.a1
  have n2' := Q0.out.2.2.2.2.1.gb g2 Q0.out.2.2.2.2.2.a4 Q0.out.2.2.2.2.2.a2
  have k1 := blk_c (h1.fz _ _ Q1.out.1) 0 rfl
  have k2 := blk_c (h1.fz _ _ Q1.out.2.1) 0 rfl
  have l1 := lt_of_block (h1.fz _ _ Q1.out.1)
  have l2 := lt_of_block (h1.fz _ _ Q1.out.2.1)
  have s1 := blk_c B2.out 0 rfl
  have s2 := blk_c B2.out 1 rfl
  have ls := lt_of_block B2.out
  have CN := hid (num_u w2.drew c1 m1 n1 p Q1.out.2.2.1 n1'.drew Q1.out.2.2.2.2.1)
  have G2 := hid (And.intro g2 (And.intro n2' h1))
  clear h1 h2 C3 g2 n1' n2'
  generalize hi1 : (ordS p n1).idxOf n1 = i1 at *
  generalize hi2 : (ordS q n2).idxOf n2 = i2 at *
  unfold numV at *
  go_wp2_with fail
  have S2 := hid (And.intro s1 (And.intro s2 (And.intro k1 k2)))
  go_region_held3 (fun wx => wx.cell? ⟨w.heap.size,0,none⟩ = some (.func (.func 131) #[] #[.pointer (some ⟨c1,0,none⟩)]) ∧ wx.cell? ⟨w.heap.size,1,none⟩ = some (.func (.func 131) #[] #[.pointer (some ⟨c2,0,none⟩)]) ∧ wx.cell? ⟨b1,0,none⟩ = some (.string (B n1)) ∧ wx.cell? ⟨b2,0,none⟩ = some (.string (B n2))) (first | exact S2.out | exact S4.out | exact S3.out | go_keep) (first
    | (go_at_call_of 131 (Value.pointer (some ⟨c1,0,none⟩)); refine CN.out.mono ?_; rintro e w3 ⟨rfl,n3,g3⟩; have g3' := gb_m1 (R := fun k => k = m1) g3 rfl; have ls' : ¬ w.heap.size = m1 := (by omega); have S3 := hid (And.intro (g3'.drewL.cell s1 ls ls') (And.intro (g3'.drewL.cell s2 ls ls') (And.intro (g3'.drewL.cell k1 l1 (fun e => nm_h Q1.out.1 Q0.out.2.2.2.2.2.h1 e)) (g3'.drewL.cell k2 l2 (fun e => nm_h Q1.out.2.1 Q0.out.2.2.2.2.2.h1 e))))); have CM := hid (num_u w3 c2 m2 n2 q Q1.out.2.2.2.1 (G2.out.2.1.gb g3'.drewL Q0.out.2.2.2.2.2.n3 (fun e => Q0.out.2.2.2.2.2.n1 e.symm)) Q1.out.2.2.2.2.2); have G3 := hid (And.intro n3 g3'); rw [hi2] at CM; clear n3 g3 g3')
    | (go_at_call_of 131 (Value.pointer (some ⟨c2,0,none⟩)); refine CM.out.mono ?_; rintro e w4 ⟨rfl,n4,g4⟩; have g4' := gb_m1 (R := fun k => k = m2) g4 rfl; have ls4 : ¬ w.heap.size = m2 := (by omega); have S4 := hid (And.intro (g4'.cell S3.out.1 (Nat.lt_of_lt_of_le ls G3.out.2.drewL.size) ls4) (And.intro (g4'.cell S3.out.2.1 (Nat.lt_of_lt_of_le ls G3.out.2.drewL.size) ls4) (And.intro (g4'.cell S3.out.2.2.1 (Nat.lt_of_lt_of_le l1 G3.out.2.drewL.size) (fun e => nm_h Q1.out.1 Q0.out.2.2.2.2.2.h2 e)) (g4'.cell S3.out.2.2.2 (Nat.lt_of_lt_of_le l2 G3.out.2.drewL.size) (fun e => nm_h Q1.out.2.1 Q0.out.2.2.2.2.2.h2 e))))); have G4 := hid (And.intro n4 g4'); clear n4 g4 g4'))
  go_wp2
  go_ret
  have gA : Gb (fun k => InAs ca k ∨ k = m1 ∨ k = m2) w w4 := ((G2.out.1.mono (fun k e => Or.inl e)).tr (G3.out.2.drewL.mono (fun k e => Or.inr (Or.inl e)))).tr (G4.out.2.mono (fun k e => Or.inr (Or.inr e)))
  have n1F : NU w4 c1 m1 (ordS p n1) := G3.out.1.gb G4.out.2 Q0.out.2.2.2.2.2.n2 Q0.out.2.2.2.2.2.n1
  have cF : CSd H ca σ d w4 := (G2.out.2.2.gb G3.out.2.drewL (fun a ha e => Q0.out.2.2.2.2.2.a1 (e ▸ ha)) (fun k o e e2 => nm_h e Q0.out.2.2.2.2.2.h1 e2)).gb G4.out.2 (fun a ha e => Q0.out.2.2.2.2.2.a2 (e ▸ ha)) (fun k o e e2 => nm_h e Q0.out.2.2.2.2.2.h2 e2)
  refine ⟨cF,gA,?_⟩
  rw [HR.out]
  by_cases he : i1 = i2
  · rw [if_pos he]
    subst he
    exact ⟨by simp,n1F,G4.out.1⟩
  · rw [if_neg he]
    show Ending.returned (Value.bool ((i1 : Int) == (i2 : Int))) = _
    have hb : ((i1 : Int) == (i2 : Int)) = false := beq_eq_false_iff_ne.2 (fun e => he (by omega))
    rw [hb]
theorem SMP.last {H : Nat → Option Obj} {ca : List Nat} {σ : Sto} {d : Nat → Nat} {c1 m1 c2 m2 : Nat} {p q : List (List UInt8)} {w w' : World} (N1 : NU w c1 m1 p) (N2 : NU w c2 m2 q) (no : NUo H ca c1 m1 c2 m2) (h : CSd H ca σ d w') (g : Gb (InAs ca) w w') : SMP H ca σ d c1 m1 c2 m2 (some (p,q)) w (.returned (.bool true)) w' :=
  ⟨h,g.mono (fun _ e => Or.inl e),rfl,N1.gb g no.a3 no.a1,N2.gb g no.a4 no.a2⟩
def RAt (w : World) (mb : Nat) (L : List Nat) : Prop := GM kI uV 3 w mb (L.map fun n => (n,()))
def ROk (σ : Sto) (L : List Nat) : Prop := ∀ n,n ∈ L → n < σ.rep.length
theorem RAt.len {σ : Sto} {w : World} {mb : Nat} {L : List Nat} (h : RAt w mb L) (ok : ROk σ L) : (L.map fun n => (n,())).length ≤ σ.rep.length := by
  obtain ⟨D,_,_,hn,_⟩ := h
  have e : (L.map fun n => (n,())).map (·.1) = L := by rw [List.map_map]; exact List.map_id L
  rw [e] at hn
  have h1 : L.Subset (List.range σ.rep.length) := fun a ha => List.mem_range.2 (ok a ha)
  have h2 := List.Nodup.length_le_of_subset hn h1
  simpa using h2
theorem put_unit {L : List Nat} {n : Nat} (h : n ∉ L) : putL (L.map fun n => (n,())) n () = (L ++ [n]).map fun n => (n,()) := by
  have e : getL (L.map fun n => (n,())) n = none := by
    have h1 := getL_unit L n
    rw [decide_eq_false h] at h1
    cases hg : getL (L.map fun n => (n,())) n with
    | none => rfl
    | some u => rw [hg] at h1; cases h1
  rw [putL_new () e,List.map_append]
  rfl
def RAP (H : Nat → Option Obj) (ca : List Nat) (σ : Sto) (d : Nat → Nat) (mb : Nat) (L : List Nat) (w : World) (e : Ending) (w' : World) : Prop :=
  (∃ z,e = .returned z) ∧ CSd H ca σ d w' ∧ RAt w' mb L ∧ ROk σ L ∧ Gb (fun k => InAs ca k ∨ k = mb) w w'
theorem not_cell {T0 : TypeId} (h : IsE T0) (hn : T0 ≠ 173) (b : Nat) (w : World) : (Instr.typeAssert (.iface T0 (.pointer (some ⟨b,0,none⟩))) 77 173 true).run Tryz.prog w = .ok (.tuple #[.pointer none,.bool false]) w := by
  rcases h with rfl | rfl | rfl | rfl | rfl | rfl
  · exact absurd rfl hn
  · exact e_Var_Cell b w
  · exact e_Basic_Cell b w
  · exact e_List_Cell b w
  · exact e_Pair_Cell b w
  · exact e_Arrow_Cell b w
theorem row_of {H : Nat → Option Obj} {ca : List Nat} {σ : Sto} {d : Nat → Nat} {mb : Nat} {us : List Value} {w w3 : World} {e : Ending} (hc : CSd H ca σ d w) (hm : mb < w.heap.size)
    (r3 : (us = [] ∧ e = .returned (.slice none 0 0)) ∨ ∃ gn,e = .returned (.slice (some ⟨gn,0,none⟩) us.length us.length) ∧ w.heap.size ≤ gn ∧ w3.heap[gn]? = some (.cells us.toArray 77 (0,0))) :
    ∃ ao cap,e = .returned (.slice ao us.length cap) ∧ ∀ (j : Nat) (u : Value),us[j]? = some u → ∃ gn,ao = some ⟨gn,0,none⟩ ∧ gn < w3.heap.size ∧ ¬ InAs ca gn ∧ gn ≠ mb ∧ w3.cell? ⟨gn,j,none⟩ = some u := by
  rcases r3 with ⟨rfl,rfl⟩ | ⟨gn,rfl,q1,q2⟩
  · exact ⟨none,0,rfl,fun j u h => by simp at h⟩
  · refine ⟨_,_,rfl,fun j u h => ⟨gn,rfl,lt_of_block q2,fun hk => ?_,?_,?_⟩⟩
    · have h9 := InAs.lt hc hk
      omega
    · omega
    · rw [cell_of_row w3 gn j _ _ _ q2]
      simpa using h
theorem reach_any {H : Nat → Option Obj} {ca : List Nat} {σ : Sto} {d : Nat → Nat} {mb : Nat} (hmb : H mb = none) (hma : mb ∉ ca) : ∀ (f : Nat) (t : Et) (v : Value) (L L' : List Nat) (w : World),ER H ca v t → addS σ f t L = some L' → CSd H ca σ d w → RAt w mb L → ROk σ L →
    Calls Tryz.prog 195 #[.map (some mb),v] w (RAP H ca σ d mb L' w) := by
  intro f
  induction f with
  | zero => intro t v L L' w _ h; cases h
  | succ f ih =>
    intro t v L L' w hv hr hc hf ok
    rw [addS] at hr
    by_cases hk : t.kind = oCell
    · rw [if_pos hk] at hr
      obtain ⟨x,ec,rfl⟩ := cell_val2 hv hk
      obtain ⟨c,hcn⟩ : ∃ c,c = t.num := ⟨_,rfl⟩
      have ekk : kidsS σ t = kidsS σ (cT c) := by unfold kidsS; rw [if_pos hk,if_pos (show (cT c).kind = oCell from rfl),hcn]; rfl
      rw [ekk,← hcn] at hr
      rw [← hcn] at ec
      have HL := hid (last_any (d c + 1) c x w (by omega) ec hc)
      obtain ⟨b0,er0,eb0⟩ := hc.root_get ec
      have hrl : σ.root c < σ.rep.length := (List.getElem?_eq_some_iff.1 (hc.rr _ _ er0)).1
      have hfew := hc.few
      have hlt := hf.lt
      have t1 := e_Cell_Cell x
      have tm := eB_Cell x
      have HR := hid hr
      have HF := hid (And.intro hf ok)
      have EC := hid (And.intro ec (And.intro eb0 (hc.rr _ _ er0)))
      have IH := hid ih
      clear hr hc hf ok ih ec er0 eb0 hv hk ekk hcn
      unfold CI
      unfold CP at HL
      go_enter Tryz.func195,Tryz.ntmps195
      go_wp2_with fail
      refine HL.out.mono ?_
      rintro e w1 ⟨b1,rfl,h1,h2,h3,h4⟩
      obtain rfl := Option.some.inj (EC.out.2.1.symm.trans h1)
      obtain ⟨v1,hv1,ho1⟩ := h2.root_val (List.getElem?_eq_some_iff.1 EC.out.1).1 h1
      obtain ⟨x0,x1,_,_⟩ := cell_at hv1
      have hf1 : RAt w1 mb L := HF.out.1.gb h3 hma
      have hlk := ButAt.look (ca := ca) (L := L) (bv := .map (some mb)) (w := w1) (n := σ.root c) (Or.inr ⟨mb,rfl,hma,hf1⟩) (by omega)
      have C1 := hid (And.intro h2 (And.intro h3 (And.intro hf1 ho1)))
      clear h1 h2 h3 h4 hv1 hf1 ho1 HL
      unfold CP
      have hr := HR.out
      by_cases hin : σ.root c ∈ L
      · rw [if_pos hin] at hr
        cases hr
        rw [decide_eq_true hin] at hlk
        have ga : w1.grownBy (w1.alloc (.cells #[] 306)) none := World.grownBy_alloc _ _ _
        have Q9 := hid (show RAP H ca σ d mb L w (.returned (.tuple #[])) (w1.alloc (.cells #[] 306)) from ⟨⟨_,rfl⟩,C1.out.1.grown0 ga,GM.gb C1.out.2.2.1 (R := fun _ => False) (Gb.new ga) id,HF.out.2,(C1.out.2.1.mono (R' := fun k => InAs ca k ∨ k = mb) (fun i e => Or.inl e)).tr (Gb.new ga)⟩)
        clear HR hin ga
        go_wp2
        refine bodyPost_ret (results_none rfl _ _ _) rfl ?_
        exact Q9.out
      · rw [if_neg hin] at hr
        rw [decide_eq_false hin] at hlk
        have ga : w1.grownBy (w1.alloc (.cells #[] 306)) none := World.grownBy_alloc _ _ _
        have hf1 : RAt (w1.alloc (.cells #[] 306)) mb L := GM.gb C1.out.2.2.1 (R := fun _ => False) (Gb.new ga) id
        obtain ⟨w2,hup,hf2,g2⟩ := GM.store hf1 intLaw Tryz.underlying267 kI_inj kI_lit (by have := RAt.len C1.out.2.2.1 HF.out.2; omega) () (kI_key (n := σ.root c) (by omega))
        have hup1 : (Instr.mapUpdate 267 (.map (some mb)) (.int .i64 ((σ.root c : Int) + 1)) (.agg #[])).run Tryz.prog (w1.alloc (.cells #[] 306)) = .ok () w2 := hup
        rw [put_unit hin] at hf2
        have ok2 : ROk σ (L ++ [σ.root c]) := fun n hn => by
          rcases List.mem_append.1 hn with h | h
          · exact HF.out.2 n h
          · rw [List.mem_singleton.1 h]; exact hrl
        have gb2 : Gb (fun k => k = mb) w1 w2 := (Gb.new ga).tr (Gb.of g2 (fun b e => Or.inl (Option.some.inj e).symm))
        have c2 : CSd H ca σ d w2 := C1.out.1.gb gb2 (fun a ha e => hma (e ▸ ha)) (fun k o e e2 => by rw [e2,hmb] at e; cases e)
        obtain ⟨us,hul,hK,hB⟩ := below_cell (σ := σ) (d := d) EC.out.1 c2
        have HB := hid hB
        have HK := hid hK
        have G2 := hid (And.intro (C1.out.2.1.mono (R' := fun k => InAs ca k ∨ k = mb) (fun i e => Or.inl e)) (gb2.mono (R' := fun k => InAs ca k ∨ k = mb) (fun i e => Or.inr e)))
        have F2 := hid (And.intro hf2 (And.intro ok2 c2))
        have HR2 := hid hr
        have tm2 := tm w2
        clear hup hf2 g2 ok2 gb2 c2 hK hB hr HF HR hin ga hf1
        unfold CP at HB
        go_wp2_with fail
        refine HB.out.mono ?_
        rintro e w3 ⟨r1,r2,r3⟩
        obtain ⟨ao,cap,he,hrow⟩ := row_of (mb := mb) F2.out.2.2 F2.out.1.lt r3
        subst he
        have HROW := hid hrow
        have G3 := hid (And.intro r1 (And.intro (F2.out.1.gb r2 hma) (And.intro F2.out.2.1 (G2.out.1.tr (G2.out.2.tr (r2.mono (fun i e => Or.inl e)))))))
        clear hrow r1 r2 r3 HB x0 x1 hlk hup1 G2 F2 C1 tm tm2
        go_wp2_with fail
        go_loopg [35] (us.length + 1) (fun gh i wi => ∃ (j : Nat) (Lj : List Nat),j ≤ us.length ∧ i = .int .i64 j ∧ gh = us.length - j + 1 ∧ Hid (addAllS (addS σ f) ((kidsS σ (cT c)).drop j) Lj = some L') ∧ Hid ((CSd H ca σ d wi ∧ RAt wi mb Lj ∧ ROk σ Lj) ∧ Gb (fun k => InAs ca k ∨ k = mb) w3 wi))
        case atStart => exact ⟨0,_,by omega,rfl,by omega,HR2,hid ⟨⟨G3.out.1,G3.out.2.1,G3.out.2.2.1⟩,Gb.refl _ _⟩⟩
        case round =>
          obtain ⟨j,Lj,hj,rfl,hgj,HJ,HG⟩ := hrel
          by_cases hjl : j < us.length
          · have hjk : j < (kidsS σ (cT c)).length := by rw [← HK.out.1]; exact hjl
            obtain ⟨u,hu⟩ : ∃ u,us[j]? = some u := ⟨_,List.getElem?_eq_getElem hjl⟩
            obtain ⟨y,hy⟩ : ∃ y,(kidsS σ (cT c))[j]? = some y := ⟨_,List.getElem?_eq_getElem hjk⟩
            obtain ⟨gn,rfl,hg1,hn1,hn2,cu⟩ := HROW.out j u hu
            have du : wr.cell? ⟨gn,j,none⟩ = some u := HG.out.2.cell cu hg1 (fun e => e.elim hn1 hn2)
            have hd : (kidsS σ (cT c)).drop j = y :: (kidsS σ (cT c)).drop (j + 1) := by
              rw [List.drop_eq_getElem_cons hjk]
              rw [List.getElem?_eq_getElem hjk] at hy
              rw [Option.some.inj hy]
            have hjj := HJ.out
            rw [hd,addAllS] at hjj
            cases er : addS σ f y Lj with
            | none => rw [er] at hjj; cases hjj
            | some Lk =>
              rw [er] at hjj
              have CON := hid (IH.out y u Lj Lk wr (HK.out.2 j u y hu hy) er HG.out.1.1 HG.out.1.2.1 HG.out.1.2.2)
              have J2 := hid (show addAllS (addS σ f) ((kidsS σ (cT c)).drop (j + 1)) Lk = some L' from hjj)
              clear hu hy cu hd hjj er HJ
              go_wp2_with fail
              refine CON.out.mono ?_
              rintro e w5 ⟨⟨z,rfl⟩,c5,f5,o5,g5⟩
              have G5 := hid (And.intro (And.intro c5 (And.intro f5 o5)) g5)
              clear c5 f5 o5 g5 CON
              go_wp2_with fail
              go_roundg (us.length - (j + 1) + 1)
              case measure => omega
              case rel => exact ⟨j + 1,Lk,by omega,by go_num,rfl,J2,hid ⟨G5.out.1,HG.out.2.tr G5.out.2⟩⟩
          · have hje : j = us.length := by omega
            subst hje
            have hR : Lj = L' := by
              have h3 := HJ.out
              rw [HK.out.1,List.drop_length] at h3
              exact Option.some.inj h3
            subst hR
            have Q9 := hid (show RAP H ca σ d mb Lj w (.returned (.tuple #[])) wr from ⟨⟨_,rfl⟩,HG.out.1.1,HG.out.1.2.1,HG.out.1.2.2,G3.out.2.2.2.tr HG.out.2⟩)
            clear HJ
            go_wp2
            refine bodyPost_ret (results_none rfl _ _ _) rfl ?_
            exact Q9.out
    · rw [if_neg hk] at hr
      obtain ⟨m,hv⟩ := hv
      cases m with
      | zero => exact absurd hv id
      | succ m =>
      obtain ⟨_,_,hI,hve⟩ := hv.val
      obtain ⟨T0,b,F,us,rfl,hT,hul,hK,hN,hF⟩ := below_node σ d hv hk
      obtain ⟨rfl,_⟩ := Value.iface.inj hve
      have ta := not_cell hI hT b
      obtain ⟨tm,hB,_⟩ := hN w hc
      have HB := hid hB
      have HK := hid hK
      have HR2 := hid hr
      have F2 := hid (And.intro hf (And.intro ok hc))
      have IH := hid ih
      have hlt := hf.lt
      clear hr hc hf ok ih hv hk hB hK hN hI hve
      unfold CP at HB
      rcases hF with rfl | rfl | rfl | rfl | rfl
      all_goals
        go_enter Tryz.func195,Tryz.ntmps195
        go_wp2_with fail
        refine HB.out.mono ?_
        rintro e w3 ⟨r1,r2,r3⟩
        obtain ⟨ao,cap,he,hrow⟩ := row_of (mb := mb) F2.out.2.2 F2.out.1.lt r3
        subst he
        have HROW := hid hrow
        have G3 := hid (And.intro r1 (And.intro (F2.out.1.gb r2 hma) (And.intro F2.out.2.1 (r2.mono (R' := fun k => InAs ca k ∨ k = mb) (fun i e => Or.inl e)))))
        clear hrow r1 r2 r3 HB F2
        go_wp2_with fail
        go_loopg [35] (us.length + 1) (fun gh i wi => ∃ (j : Nat) (Lj : List Nat),j ≤ us.length ∧ i = .int .i64 j ∧ gh = us.length - j + 1 ∧ Hid (addAllS (addS σ f) (t.kids.drop j) Lj = some L') ∧ Hid ((CSd H ca σ d wi ∧ RAt wi mb Lj ∧ ROk σ Lj) ∧ Gb (fun k => InAs ca k ∨ k = mb) w3 wi))
        case atStart => exact ⟨0,_,by omega,rfl,by omega,HR2,hid ⟨⟨G3.out.1,G3.out.2.1,G3.out.2.2.1⟩,Gb.refl _ _⟩⟩
        case round =>
          obtain ⟨j,Lj,hj,rfl,hgj,HJ,HG⟩ := hrel
          by_cases hjl : j < us.length
          · have hjk : j < (t.kids).length := by rw [← HK.out.1]; exact hjl
            obtain ⟨u,hu⟩ : ∃ u,us[j]? = some u := ⟨_,List.getElem?_eq_getElem hjl⟩
            obtain ⟨y,hy⟩ : ∃ y,(t.kids)[j]? = some y := ⟨_,List.getElem?_eq_getElem hjk⟩
            obtain ⟨gn,rfl,hg1,hn1,hn2,cu⟩ := HROW.out j u hu
            have du : wr.cell? ⟨gn,j,none⟩ = some u := HG.out.2.cell cu hg1 (fun e => e.elim hn1 hn2)
            have hd : (t.kids).drop j = y :: (t.kids).drop (j + 1) := by
              rw [List.drop_eq_getElem_cons hjk]
              rw [List.getElem?_eq_getElem hjk] at hy
              rw [Option.some.inj hy]
            have hjj := HJ.out
            rw [hd,addAllS] at hjj
            cases er : addS σ f y Lj with
            | none => rw [er] at hjj; cases hjj
            | some Lk =>
              rw [er] at hjj
              have CON := hid (IH.out y u Lj Lk wr (HK.out.2 j u y hu hy) er HG.out.1.1 HG.out.1.2.1 HG.out.1.2.2)
              have J2 := hid (show addAllS (addS σ f) ((t.kids).drop (j + 1)) Lk = some L' from hjj)
              clear hu hy cu hd hjj er HJ
              go_wp2_with fail
              refine CON.out.mono ?_
              rintro e w5 ⟨⟨z,rfl⟩,c5,f5,o5,g5⟩
              have G5 := hid (And.intro (And.intro c5 (And.intro f5 o5)) g5)
              clear c5 f5 o5 g5 CON
              go_wp2_with fail
              go_roundg (us.length - (j + 1) + 1)
              case measure => omega
              case rel => exact ⟨j + 1,Lk,by omega,by go_num,rfl,J2,hid ⟨G5.out.1,HG.out.2.tr G5.out.2⟩⟩
          · have hje : j = us.length := by omega
            subst hje
            have hR : Lj = L' := by
              have h3 := HJ.out
              rw [HK.out.1,List.drop_length] at h3
              exact Option.some.inj h3
            subst hR
            have Q9 := hid (show RAP H ca σ d mb Lj w (.returned (.tuple #[])) wr from ⟨⟨_,rfl⟩,HG.out.1.1,HG.out.1.2.1,HG.out.1.2.2,G3.out.2.2.2.tr HG.out.2⟩)
            clear HJ
            go_wp2
            refine bodyPost_ret (results_none rfl _ _ _) rfl ?_
            exact Q9.out
end Go.Proofs.YtcdijppegfcoaabGreatDoor
