import Derived.Test.YtcdijppegfcoaaaGreatDoorChecked
import Derived.Test.YtcdijppegfcoaaaGreatDoorLexB
import Derived.WalkSpells
import Derived.Outline
import Derived.Deep.DeepCutAuto
import Derived.Deep.LoopGhost
import Derived.Deep.CutBlock
import Derived.Lib.SlBytesConst
namespace Go.Proofs.YtcdijppegfcoaaaGreatDoor
open Go.RowKit

/-- Keywords in a row of memory, from a place on. -/
def KwO (w : World) (kb ko : Nat) (kw : List (List UInt8)) : Prop := ∀ j, j < kw.length → w.cell? ⟨kb, ko + j, none⟩ = some (.string (B (kw.getD j [])))

theorem low_any (n : Int) (w : World) : Calls Tryz.prog 73 #[.int .u8 n] w fun e w' => e = .returned (.bool (decide (97 ≤ n ∧ n ≤ 122))) ∧ w' = w := by
  by_cases h1 : 97 ≤ n <;> by_cases h2 : n ≤ 122 <;>
  · go_enter Tryz.func73, Tryz.ntmps73
    go_wp2
    go_ret
    exact ⟨by simp [h1, h2], rfl⟩

theorem fig_any (n : Int) (w : World) : Calls Tryz.prog 74 #[.int .u8 n] w fun e w' => e = .returned (.bool (decide (48 ≤ n ∧ n ≤ 57))) ∧ w' = w := by
  by_cases h1 : 48 ≤ n <;> by_cases h2 : n ≤ 57 <;>
  · go_enter Tryz.func74, Tryz.ntmps74
    go_wp2
    go_ret
    exact ⟨by simp [h1, h2], rfl⟩


theorem low_is (c : UInt8) (w : World) : Calls Tryz.prog 73 #[.int .u8 (c.toNat : Int)] w fun e w' => e = .returned (.bool (low c)) ∧ w' = w := by
  refine (low_any _ w).mono ?_
  rintro e w' ⟨rfl, rfl⟩
  refine ⟨?_, rfl⟩
  have h : decide (97 ≤ (c.toNat : Int) ∧ (c.toNat : Int) ≤ 122) = low c := by
    unfold low
    rw [decide_eq_decide]
    omega
  rw [h]
theorem fig_is (c : UInt8) (w : World) : Calls Tryz.prog 74 #[.int .u8 (c.toNat : Int)] w fun e w' => e = .returned (.bool (fig c)) ∧ w' = w := by
  refine (fig_any _ w).mono ?_
  rintro e w' ⟨rfl, rfl⟩
  refine ⟨?_, rfl⟩
  have h : decide (48 ≤ (c.toNat : Int) ∧ (c.toNat : Int) ≤ 57) = fig c := by
    unfold fig
    rw [decide_eq_decide]
    omega
  rw [h]

theorem info_tok : (Tryz.prog.info? 151).map (fun i => (i.zero, i.size, i.bytes)) = some (some (.agg #[.string (B []), .string (B []), .int .i64 0]), 3, 40) := by kernel_rfl


/-- The block of a number in a body. -/
def findBlock (n : Nat) : Code → Option Code
  | .block m c => if m = n then some (.block m c) else findBlock n c
  | .seq a b => match findBlock n a with
    | some c => some c
    | none => findBlock n b
  | .loop c => findBlock n c
  | .cond _ a b => match findBlock n a with
    | some c => some c
    | none => findBlock n b
  | .scope c => findBlock n c
  | _ => none

set_option maxRecDepth 100000 in
set_option maxHeartbeats 4000000 in
theorem kinds_wp (c : Code) (hc : (Tryz.f38.body.bind (findBlock 4)) = some c) (s : ByteArray) (J : Nat) (w1 : World) (hs : s.size ≤ 300) (hJ2 : J ≤ s.size)
    (p1 p4 p5 p10 p12 p13 p14 p15 p16 p17 p18 p19 p20 p21 p22 p23 p24 p25 p26 p27 p28 p29 p30 p31 p32 p33 p34 p35 p36 p37 p38 p39 p40 p41 p42 p43 p44 p45 p46 p47 p48 p49 p50 p51 p52 p53 p54 p55 p56 p57 p58 p59 p60 p61 p62 p63 p64 p65 p66 p67 p68 p69 p70 p71 p72 p73 p74 p75 p76 p77 p78 p79 p80 p81 p82 p83 p84 p85 p86 p87 p88 p89 p90 p91 p92 p93 p94 p95 p96 p97 p98 p99 p100 p101 p102 p103 p104 p105 p106 p107 p108 p109 p110 p111 p112 p113 p114 p115 p116 p117 p118 p119 p120 p121 p122 p123 p124 p125 p126 p127 p128 p129 p130 p131 p132 p133 p134 p135 p136 p137 p138 p139 p140 p141 p142 p143 p144 p145 p146 p147 p148 p149 p150 p151 p152 p153 p154 p155 p156 p157 p158 p159 p160 p161 p162 p163 p164 p165 p166 p167 p168 p169 p170 p171 p172 p173 p174 p175 p176 : Value) (K : Act → World → Prop) (Q : Exit → Act → World → Prop)
    (hK : ∀ (n8 n10 n34 n35 n36 n37 n38 n39 n40 n41 n42 n43 n44 n45 n46 n47 n48 n49 n50 n51 n52 n53 n54 n55 n56 n57 n58 n59 n60 n61 n62 n63 n64 n65 n66 n67 n68 n69 n70 n71 n72 n73 n74 n75 n76 n77 n78 n79 n80 n81 n82 n83 n84 n85 n86 n87 n88 n89 n90 n91 n92 n93 n94 n95 n96 n97 n98 n99 n100 n101 n102 n103 n104 n105 n106 n107 n108 n109 n110 n111 n112 n113 n114 n115 n116 n117 n118 n119 n120 n121 n122 n123 n124 : Value) (wd : World), (n8 = .int .i64 ((raw s.data.toList J).2 : Nat) ∧ wd.heap[w1.heap.size]? = some (.cells #[.string (B (raw s.data.toList J).1), .string (B []), .int .i64 (J : Int)] 151 (0, 0)) ∧ Below w1.heap.size w1 wd) → K ⟨#[.string s, p1, undef, undef, p4, p5, .int .i64 (J : Int), .pointer (some ⟨w1.heap.size, 0, none⟩), n8, undef, n10, undef, p12, p13, p14, p15, p16, p17, p18, p19, p20, p21, p22, p23, p24, p25, p26, p27, p28, p29, p30, p31, p32, p33, n34, n35, n36, n37, n38, n39, n40, n41, n42, n43, n44, n45, n46, n47, n48, n49, n50, n51, n52, n53, n54, n55, n56, n57, n58, n59, n60, n61, n62, n63, n64, n65, n66, n67, n68, n69, n70, n71, n72, n73, n74, n75, n76, n77, n78, n79, n80, n81, n82, n83, n84, n85, n86, n87, n88, n89, n90, n91, n92, n93, n94, n95, n96, n97, n98, n99, n100, n101, n102, n103, n104, n105, n106, n107, n108, n109, n110, n111, n112, n113, n114, n115, n116, n117, n118, n119, n120, n121, n122, n123, n124, p125, p126, p127, p128, p129, p130, p131, p132, p133, p134, p135, p136, p137, p138, p139, p140, p141, p142, p143, p144, p145, p146, p147, p148, p149, p150, p151, p152, p153, p154, p155, p156, p157, p158, p159, p160, p161, p162, p163, p164, p165, p166, p167, p168, p169, p170, p171, p172, p173, p174, p175, p176], []⟩ wd) :
    Code.wp Tryz.prog c (Exit.then K Q) ⟨#[.string s, p1, undef, undef, p4, p5, .int .i64 (J : Int), .pointer (some ⟨w1.heap.size, 0, none⟩), .int .i64 (J : Int), undef, p10, undef, p12, p13, p14, p15, p16, p17, p18, p19, p20, p21, p22, p23, p24, p25, p26, p27, p28, p29, p30, p31, p32, p33, p34, p35, p36, p37, p38, p39, p40, p41, p42, p43, p44, p45, p46, p47, p48, p49, p50, p51, p52, p53, p54, p55, p56, p57, p58, p59, p60, p61, p62, p63, p64, p65, p66, p67, p68, p69, p70, p71, p72, p73, p74, p75, p76, p77, p78, p79, p80, p81, p82, p83, p84, p85, p86, p87, p88, p89, p90, p91, p92, p93, p94, p95, p96, p97, p98, p99, p100, p101, p102, p103, p104, p105, p106, p107, p108, p109, p110, p111, p112, p113, p114, p115, p116, p117, p118, p119, p120, p121, p122, p123, p124, p125, p126, p127, p128, p129, p130, p131, p132, p133, p134, p135, p136, p137, p138, p139, p140, p141, p142, p143, p144, p145, p146, p147, p148, p149, p150, p151, p152, p153, p154, p155, p156, p157, p158, p159, p160, p161, p162, p163, p164, p165, p166, p167, p168, p169, p170, p171, p172, p173, p174, p175, p176], []⟩ (w1.alloc (.cells #[Value.string { data := #[110, 111, 110, 101] }, Value.string { data := #[] }, Value.int IntKind.i64 (J : Int)] 151)) := by
  have HKK0 := hid hK
  clear hK
  have hsl : s.data.toList.length = s.size := by rw [Array.length_toList]; rfl
  conv at hc => lhs; whnf
  injection hc with hc
  subst hc
  by_cases hJs : J < s.size
  · have hne : ((J : Int) == (s.size : Int)) = false := beq_eq_false_iff_ne.2 (by omega)
    cases hlow : low s[J] with
    | true => 
      obtain ⟨K, hK⟩ : ∃ K, K = upto lowfig s.data.toList J := ⟨_, rfl⟩
      have hKb := upto_le lowfig s.data.toList J (by omega)
      rw [← hK, hsl] at hKb
      obtain ⟨hK1, hK2⟩ := hKb
      have HR : Hid (raw s.data.toList J = (kName, K)) := by
        show raw s.data.toList J = (kName, K)
        rw [hK]
        exact raw_name s J hJs hlow
      have HKK := (show Hid (K = upto lowfig s.data.toList J) from hK)
      clear hK
      go_wp2_with (go_at_call 73; refine (low_is _ _).mono ?_; rintro e w' ⟨rfl, rfl⟩)
      go_loopg [8] (K - J + 1) (fun g i wi => ∃ m : Nat, J ≤ m ∧ m ≤ K ∧ i = .int .i64 m ∧ g = K - m + 1 ∧ wi = w1.alloc (Obj.cells #[Value.string { data := #[110, 111, 110, 101] }, Value.string { data := #[] }, Value.int IntKind.i64 (J : Int)] 151))
      case atStart => exact ⟨J, by omega, by omega, rfl, by omega, rfl⟩
      case round =>
        obtain ⟨m, hm1, hm2, rfl, hgm, rfl⟩ := hrel
        by_cases hlt : m < K
        · have hml : m < s.size := by omega
          obtain ⟨c, hc1, hc2⟩ := upto_in lowfig s.data.toList J m hm1 (by rw [← HKK.out]; exact hlt)
          rw [byteAt s m hml] at hc1
          have hc3 : lowfig s[m] = true := by
            simp only [Option.some.injEq] at hc1
            rw [hc1]
            exact hc2
          clear hc1 hc2
          cases hlm : low s[m] with
          | true =>
            go_wp2_with (first | (go_at_call 73; refine (low_is _ _).mono ?_; rintro e w' ⟨rfl, rfl⟩) | (go_at_call 74; refine (fig_is _ _).mono ?_; rintro e w' ⟨rfl, rfl⟩))
            go_roundg (K - (m + 1) + 1)
            case measure => omega
            case rel => exact ⟨m + 1, by omega, by omega, by go_num, rfl, rfl⟩
          | false =>
            have hfm : fig s[m] = true := by simpa [lowfig, hlm] using hc3
            go_wp2_with (first | (go_at_call 73; refine (low_is _ _).mono ?_; rintro e w' ⟨rfl, rfl⟩) | (go_at_call 74; refine (fig_is _ _).mono ?_; rintro e w' ⟨rfl, rfl⟩))
            go_roundg (K - (m + 1) + 1)
            case measure => omega
            case rel => exact ⟨m + 1, by omega, by omega, by go_num, rfl, rfl⟩
        · have hmK : m = K := by omega
          subst hmK
          by_cases hml : m < s.size
          · have hb : lowfig s[m] = false := upto_out lowfig s.data.toList J s[m] (by rw [← HKK.out]; exact byteAt s m hml)
            have hb1 : low s[m] = false := by
              cases h : low s[m] with
              | true => simp [lowfig, h] at hb
              | false => rfl
            have hb2 : fig s[m] = false := by simpa [lowfig, hb1] using hb
            clear hb
            go_wp2_with (first | (go_at_call 73; refine (low_is _ _).mono ?_; rintro e w' ⟨rfl, rfl⟩) | (go_at_call 74; refine (fig_is _ _).mono ?_; rintro e w' ⟨rfl, rfl⟩))
            refine HKK0.out _ _ _ _ _ _ _ _ _ _ _ _ _ _ _ _ _ _ _ _ _ _ _ _ _ _ _ _ _ _ _ _ _ _ _ _ _ _ _ _ _ _ _ _ _ _ _ _ _ _ _ _ _ _ _ _ _ _ _ _ _ _ _ _ _ _ _ _ _ _ _ _ _ _ _ _ _ _ _ _ _ _ _ _ _ _ _ _ _ _ _ _ _ _ ?_
            rw [HR.out]
            exact ⟨rfl, heap_alloc_new _ _, (Below.refl _ _).alloc (Nat.le_refl _) _⟩
          · go_wp2_with fail
            refine HKK0.out _ _ _ _ _ _ _ _ _ _ _ _ _ _ _ _ _ _ _ _ _ _ _ _ _ _ _ _ _ _ _ _ _ _ _ _ _ _ _ _ _ _ _ _ _ _ _ _ _ _ _ _ _ _ _ _ _ _ _ _ _ _ _ _ _ _ _ _ _ _ _ _ _ _ _ _ _ _ _ _ _ _ _ _ _ _ _ _ _ _ _ _ _ _ ?_
            rw [HR.out]
            exact ⟨rfl, heap_alloc_new _ _, (Below.refl _ _).alloc (Nat.le_refl _) _⟩
    | false =>
      cases hfig : fig s[J] with
      | true =>
        obtain ⟨K, hK⟩ : ∃ K, K = upto fig s.data.toList J := ⟨_, rfl⟩
        have hKb := upto_le fig s.data.toList J (by omega)
        rw [← hK, hsl] at hKb
        obtain ⟨hK1, hK2⟩ := hKb
        have HR : Hid (raw s.data.toList J = (kNum, K)) := by
          show raw s.data.toList J = (kNum, K)
          rw [hK]
          exact raw_num s J hJs hlow hfig
        have HKK := (show Hid (K = upto fig s.data.toList J) from hK)
        clear hK
        go_wp2_with (first | (go_at_call 73; refine (low_is _ _).mono ?_; rintro e w' ⟨rfl, rfl⟩) | (go_at_call 74; refine (fig_is _ _).mono ?_; rintro e w' ⟨rfl, rfl⟩))
        go_loopg [8] (K - J + 1) (fun g i wi => ∃ m : Nat, J ≤ m ∧ m ≤ K ∧ i = .int .i64 m ∧ g = K - m + 1 ∧ wi = w1.alloc (Obj.cells #[Value.string { data := #[110, 111, 110, 101] }, Value.string { data := #[] }, Value.int IntKind.i64 (J : Int)] 151))
        case atStart => exact ⟨J, by omega, by omega, rfl, by omega, rfl⟩
        case round =>
          obtain ⟨m, hm1, hm2, rfl, hgm, rfl⟩ := hrel
          by_cases hlt : m < K
          · have hml : m < s.size := by omega
            obtain ⟨c, hc1, hc2⟩ := upto_in fig s.data.toList J m hm1 (by rw [← HKK.out]; exact hlt)
            rw [byteAt s m hml] at hc1
            have hc3 : fig s[m] = true := by
              simp only [Option.some.injEq] at hc1
              rw [hc1]
              exact hc2
            clear hc1 hc2
            go_wp2_with (first | (go_at_call 73; refine (low_is _ _).mono ?_; rintro e w' ⟨rfl, rfl⟩) | (go_at_call 74; refine (fig_is _ _).mono ?_; rintro e w' ⟨rfl, rfl⟩))
            go_roundg (K - (m + 1) + 1)
            case measure => omega
            case rel => exact ⟨m + 1, by omega, by omega, by go_num, rfl, rfl⟩
          · have hmK : m = K := by omega
            subst hmK
            by_cases hml : m < s.size
            · have hb : fig s[m] = false := upto_out fig s.data.toList J s[m] (by rw [← HKK.out]; exact byteAt s m hml)
              go_wp2_with (first | (go_at_call 73; refine (low_is _ _).mono ?_; rintro e w' ⟨rfl, rfl⟩) | (go_at_call 74; refine (fig_is _ _).mono ?_; rintro e w' ⟨rfl, rfl⟩))
              refine HKK0.out _ _ _ _ _ _ _ _ _ _ _ _ _ _ _ _ _ _ _ _ _ _ _ _ _ _ _ _ _ _ _ _ _ _ _ _ _ _ _ _ _ _ _ _ _ _ _ _ _ _ _ _ _ _ _ _ _ _ _ _ _ _ _ _ _ _ _ _ _ _ _ _ _ _ _ _ _ _ _ _ _ _ _ _ _ _ _ _ _ _ _ _ _ _ ?_
              rw [HR.out]
              exact ⟨rfl, heap_alloc_new _ _, (Below.refl _ _).alloc (Nat.le_refl _) _⟩
            · go_wp2_with fail
              refine HKK0.out _ _ _ _ _ _ _ _ _ _ _ _ _ _ _ _ _ _ _ _ _ _ _ _ _ _ _ _ _ _ _ _ _ _ _ _ _ _ _ _ _ _ _ _ _ _ _ _ _ _ _ _ _ _ _ _ _ _ _ _ _ _ _ _ _ _ _ _ _ _ _ _ _ _ _ _ _ _ _ _ _ _ _ _ _ _ _ _ _ _ _ _ _ _ ?_
              rw [HR.out]
              exact ⟨rfl, heap_alloc_new _ _, (Below.refl _ _).alloc (Nat.le_refl _) _⟩
      | false =>
        by_cases harr : ((s[J].toNat : Int) == 45) = true ∧ ∃ h : J + 1 < s.size, ((s[J + 1].toNat : Int) == 62) = true
        · obtain ⟨h45, hJ3, h62⟩ := harr
          have HR : Hid (raw s.data.toList J = (kArrow, J + 2)) := raw_arrow s J hJs hJ3 hlow hfig ((int_byte _ 45 (by decide)).1 h45) ((int_byte _ 62 (by decide)).1 h62)
          go_wp2_with (first | (go_at_call 73; refine (low_is _ _).mono ?_; rintro e w' ⟨rfl, rfl⟩) | (go_at_call 74; refine (fig_is _ _).mono ?_; rintro e w' ⟨rfl, rfl⟩))
          refine HKK0.out _ _ _ _ _ _ _ _ _ _ _ _ _ _ _ _ _ _ _ _ _ _ _ _ _ _ _ _ _ _ _ _ _ _ _ _ _ _ _ _ _ _ _ _ _ _ _ _ _ _ _ _ _ _ _ _ _ _ _ _ _ _ _ _ _ _ _ _ _ _ _ _ _ _ _ _ _ _ _ _ _ _ _ _ _ _ _ _ _ _ _ _ _ _ ?_
          rw [HR.out]
          exact ⟨rfl, heap_alloc_new _ _, (Below.refl _ _).alloc (Nat.le_refl _) _⟩
        · have HR : Hid (raw s.data.toList J = if s[J] ∈ signs then ([s[J]], J + 1) else (kNone, J)) :=
            raw_other s J hJs hlow hfig (fun e h' e' => harr ⟨(int_byte _ 45 (by decide)).2 e, h', (int_byte _ 62 (by decide)).2 e'⟩)
          have HQ := (show Hid (¬ (((s[J].toNat : Int) == 45) = true ∧ ∃ h : J + 1 < s.size, ((s[J + 1].toNat : Int) == 62) = true)) from harr)
          clear harr
          go_upto_region 24 with (first | (go_at_call 73; refine (low_is _ _).mono ?_; rintro e w' ⟨rfl, rfl⟩) | (go_at_call 74; refine (fig_is _ _).mono ?_; rintro e w' ⟨rfl, rfl⟩))
          go_cut [103] from 104 to 121 (fun b wx => b = .bool false ∧ wx = w1.alloc (Obj.cells #[Value.string { data := #[110, 111, 110, 101] }, Value.string { data := #[] }, Value.int IntKind.i64 (J : Int)] 151))
          case first =>
            cases h45 : ((s[J].toNat : Int) == 45) with
            | true =>
              by_cases hJ3 : J + 1 < s.size
              · have h62 : ((s[J + 1].toNat : Int) == 62) = false := by
                  cases h62 : ((s[J + 1].toNat : Int) == 62) with
                  | true => exact absurd ⟨h45, hJ3, h62⟩ HQ.out
                  | false => rfl
                go_wp2
                go_meet
                case rel => exact ⟨rfl, rfl⟩
              · have hd : decide ((J : Int) + 1 < (s.size : Int)) = false := by simp; omega
                go_wp2
                go_meet
                case rel => exact ⟨rfl, rfl⟩
            | false =>
              go_wp2
              go_meet
              case rel => exact ⟨rfl, rfl⟩
          case rest =>
            obtain ⟨rfl, rfl⟩ := hcut
            have kc := fun (o : Obj) (C : Array Value) (n c : Nat) => Lib.run_convert_bytes_const (P := Tryz.prog) (w1.alloc o) 153 5 C n c Tryz.underlying153 Tryz.underlying5
            simp only [World.size_alloc] at kc
            go_wp2_with fail
            go_loopg [8, 37] 7 (fun g k8 i wi => ∃ j X kk : Nat, j ≤ 6 ∧ i = .int .i64 j ∧ g = 7 - j ∧ k8 = .int .i64 kk ∧ X = 0 ∧ Hid (kk = J + (if s[J] ∈ signs.take j then 1 else 0)) ∧
                Hid (wi.heap[w1.heap.size]? = some (.cells #[.string (if s[J] ∈ signs.take j then B [s[J]] else B kNone), .string (B []), .int .i64 (J : Int)] 151 (0, 0))) ∧
                Hid (wi.heap[w1.heap.size + 1]? = some (.cells #[Value.int IntKind.u8 61, Value.int IntKind.u8 40, Value.int IntKind.u8 41, Value.int IntKind.u8 44, Value.int IntKind.u8 91, Value.int IntKind.u8 93] 5 (6, 7))) ∧ Below w1.heap.size w1 wi)
            case atStart =>
              exact ⟨0, 0, J, by omega, rfl, by omega, rfl, rfl, rfl, signs_start w1 J, heap_alloc_at _ _ _ (by simp), ((Below.refl _ _).alloc (Nat.le_refl _) _).alloc (by simp) _⟩
            case round =>
              obtain ⟨j, X, kk, hj, rfl, hgj, rfl, _, HKj, HT1, HS1, hbw⟩ := hrel
              by_cases hj6 : j < 6
              · have c1 := signs_cell HS1.out j hj6
                have c2 := cell_first HT1.out
                have c3 := free_first HT1.out
                obtain ⟨X1, hX1⟩ : ∃ X1, X1 = (if s[J] ∈ signs.take j then B [s[J]] else B kNone) := ⟨_, rfl⟩
                rw [← hX1] at c2
                obtain ⟨q, hq⟩ : ∃ q : Nat, q = (signs.getD j 0).toNat := ⟨_, rfl⟩
                rw [← hq] at c1
                have HX1 := (show Hid (X1 = (if s[J] ∈ signs.take j then B [s[J]] else B kNone)) from hX1)
                have Hq := (show Hid (q = (signs.getD j 0).toNat) from hq)
                clear hX1 hq
                have hkk : kk ≤ J + 1 := by have := HKj.out; split at this <;> omega
                cases hcc : ((s[J].toNat : Int) == (q : Int)) with
                | true =>
                  have R := sign_yes hJs hj6 HKj.out HT1.out HS1.out hbw Hq.out hcc
                  have HRR := hid R
                  clear R
                  go_wp2
                  go_roundg (7 - (j + 1))
                  case measure => omega
                  case rel => exact ⟨j + 1, 0, kk + 1, by omega, by go_num, rfl, by go_num, rfl, HRR.out.1, HRR.out.2.1, HRR.out.2.2.1, HRR.out.2.2.2⟩
                | false =>
                  have R := sign_no hJs hj6 HKj.out HT1.out Hq.out hcc
                  have HRR := hid R
                  clear R
                  go_wp2
                  go_roundg (7 - (j + 1))
                  case measure => omega
                  case rel => exact ⟨j + 1, 0, kk, by omega, by go_num, rfl, rfl, rfl, HRR.out.1, HRR.out.2, HS1, hbw⟩
              · have hj6' : j = 6 := by omega
                subst hj6'
                go_wp2
                refine HKK0.out _ _ _ _ _ _ _ _ _ _ _ _ _ _ _ _ _ _ _ _ _ _ _ _ _ _ _ _ _ _ _ _ _ _ _ _ _ _ _ _ _ _ _ _ _ _ _ _ _ _ _ _ _ _ _ _ _ _ _ _ _ _ _ _ _ _ _ _ _ _ _ _ _ _ _ _ _ _ _ _ _ _ _ _ _ _ _ _ _ _ _ _ _ _ ?_
                obtain ⟨r1, r2⟩ := sign_end hJs HKj.out HT1.out
                rw [HR.out]
                exact ⟨by rw [← r1], r2, hbw⟩
  · have hJe : J = s.size := by omega
    have heq : ((J : Int) == (s.size : Int)) = true := beq_iff_eq.2 (by omega)
    have HR : Hid (raw s.data.toList J = (kEnd, J)) := raw_end s J hJs
    clear hJe
    go_wp2
    refine HKK0.out _ _ _ _ _ _ _ _ _ _ _ _ _ _ _ _ _ _ _ _ _ _ _ _ _ _ _ _ _ _ _ _ _ _ _ _ _ _ _ _ _ _ _ _ _ _ _ _ _ _ _ _ _ _ _ _ _ _ _ _ _ _ _ _ _ _ _ _ _ _ _ _ _ _ _ _ _ _ _ _ _ _ _ _ _ _ _ _ _ _ _ _ _ _ ?_
    rw [HR.out]
    exact ⟨rfl, heap_alloc_new _ _, (Below.refl _ _).alloc (Nat.le_refl _) _⟩
end Go.Proofs.YtcdijppegfcoaaaGreatDoor
