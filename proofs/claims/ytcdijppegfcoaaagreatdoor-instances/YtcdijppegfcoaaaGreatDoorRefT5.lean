/-
  OUR OWN TEXT. typerref.Text, whole.
-/
import Derived.Test.YtcdijppegfcoaaaGreatDoorRefT4
namespace Go.Proofs.YtcdijppegfcoaaaGreatDoor
open Go.RowKit

def nth (l : List (List UInt8)) (j : Nat) : List UInt8 := (l[j]?).getD []
/-- The text of an expression. -/
def exText : Nat → Ex → List UInt8
  | 0, _ => []
  | m + 1, x =>
    let k := fun j => match x.kids[j]? with | some y => exText m y | none => []
    let o := fun j => match x.kids[j]? with | some y => y.op | none => []
    if x.op = kName ∨ x.op = kNum then nth x.names 0
    else if x.op = kFun then tFun ++ nth x.names 0 ++ tArrow ++ k 0
    else if x.op = oPair then tOpen ++ k 0 ++ tComma ++ k 1 ++ tShut
    else if x.op = kIf then tIf ++ k 0 ++ tThen ++ k 1 ++ tElse ++ k 2
    else if x.op = oApp then inBr (brF (o 0)) (k 0) ++ tSp ++ inBr (brA (o 1)) (k 1)
    else letHead x.op ++ bindTo (nth x.names) k x.names.length ++ tIn ++ k x.names.length
/-- It has the parts that its kind has. -/
def Shape : Nat → Ex → Prop
  | 0, _ => False
  | m + 1, x => (((x.op = kName ∨ x.op = kNum) ∧ x.names.length = 1) ∨ (x.op = kFun ∧ x.names.length = 1 ∧ x.kids.length = 1) ∨ (x.op = oPair ∧ x.kids.length = 2) ∨ (x.op = kIf ∧ x.kids.length = 3) ∨ (x.op = oApp ∧ x.kids.length = 2) ∨
      ((x.op = kLet ∨ x.op = kRec) ∧ 0 < x.names.length ∧ x.kids.length = x.names.length + 1)) ∧ ∀ y, y ∈ x.kids → Shape m y
theorem bindTo_n (nm ts : Nat → List UInt8) (j : Nat) : j ≤ (bindTo nm ts j).length := by
  induction j with
  | zero => exact Nat.zero_le _
  | succ j ih => have := bindTo_step nm ts j; omega
theorem inBr_ge (b : Bool) (t : List UInt8) : t.length ≤ (inBr b t).length := by
  unfold inBr
  split
  · simp [tOpen, tShut]; omega
  · exact Nat.le_refl _
theorem Fz.drawn {H : Nat → Option Obj} {w : World} (h : Fz H w) (n : Nat) : Fz H (w.drewN n) := fun k o e => by
  have := h k o e
  simpa using this

theorem XRep.op {m : Nat} {H : Nat → Option Obj} {b : Nat} {x : Ex} {w : World} (h : XRep m H b x) (hz : Fz H w) : w.cell? ⟨b, 0, none⟩ = some (.string (B x.op)) := by
  cases m with
  | zero => exact absurd h id
  | succ m =>
    obtain ⟨ns, ks, bs, h1, _⟩ := h
    have hb := hz _ _ h1
    simp [World.cell?, hb]
/-- The kid at a place. -/
theorem kid_at {m : Nat} {H : Nat → Option Obj} {x : Ex} {bs : List Nat} (h4 : bs.length = x.kids.length) (h5 : ∀ (i : Nat) (y : Ex) (c : Nat), bs[i]? = some c → x.kids[i]? = some y → XRep m H c y) (j : Nat) (hj : j < x.kids.length) :
    ∃ c y, bs[j]? = some c ∧ x.kids[j]? = some y ∧ XRep m H c y ∧ y ∈ x.kids := by
  have e1 : bs[j]? = some (bs[j]'(by omega)) := List.getElem?_eq_getElem _
  have e2 : x.kids[j]? = some (x.kids[j]) := List.getElem?_eq_getElem _
  exact ⟨_, _, e1, e2, h5 j _ _ e1 e2, List.mem_of_getElem? e2⟩

theorem text_any : ∀ (m : Nat) (H : Nat → Option Obj) (b : Nat) (x : Ex) (w : World), XRep m H b x → Fz H w → Shape m x → (exText m x).length ≤ 1000000 →
    Calls Tryz.prog 17 #[.pointer (some ⟨b, 0, none⟩)] w fun e w' => e = .returned (.string (B (exText m x))) ∧ ∃ q, w' = w.drewN q := by
  intro m
  induction m with
  | zero => intro H b x w h; exact absurd h id
  | succ m ih =>
    intro H b x w h hz hs hlen
    obtain ⟨ns, ks, bs, h1, h2, h3, h4, h5⟩ := h
    have hb := hz _ _ h1
    obtain ⟨ao, ca, rfl, hnr⟩ := srow_view h2 hz
    obtain ⟨ko, ck, rfl, hkr⟩ := row_view h3 hz
    have tx : ∀ c y, XRep m H c y → y ∈ x.kids → (exText m y).length ≤ 1000000 → TX w c (exText m y) := fun c y hc hy hl n => ih H c y (w.drewN n) hc (hz.drawn n) (hs.2 y hy) hl
    have hnm : ∀ j, j < x.names.length → ∃ gn, ao = some ⟨gn, 0, none⟩ ∧ w.cell? ⟨gn, j, none⟩ = some (.string (B (nth x.names j))) := fun j hj => by
      have e : x.names[j]? = some (nth x.names j) := by rw [nth, List.getElem?_eq_getElem hj]; rfl
      exact hnr j _ e
    rcases hs.1 with ⟨ho, hn⟩ | ⟨ho, hn, hk⟩ | ⟨ho, hk⟩ | ⟨ho, hk⟩ | ⟨ho, hk⟩ | ⟨ho, hn, hk⟩
    · obtain ⟨gn, rfl, hc⟩ := hnm 0 (by omega)
      have et : exText (m + 1) x = nth x.names 0 := by simp only [exText]; rw [if_pos ho]
      rw [et]
      rw [hn] at hb
      rcases ho with ho | ho
      · rw [ho] at hb; exact text_name w b gn ca _ _ _ hb hc
      · rw [ho] at hb; exact text_num w b gn ca _ _ _ hb hc
    · obtain ⟨gn, rfl, hc⟩ := hnm 0 (by omega)
      obtain ⟨c0, y0, hc0, hy0, hr0, hm0⟩ := kid_at h4 h5 0 (by omega)
      obtain ⟨gk, rfl, hk0⟩ := hkr 0 c0 hc0
      have et : exText (m + 1) x = tFun ++ nth x.names 0 ++ tArrow ++ exText m y0 := by
        simp only [exText]; rw [if_neg (by rw [ho]; decide), if_pos ho, hy0]
      rw [et] at hlen ⊢
      simp only [List.length_append] at hlen
      rw [hn, h4, hk, ho] at hb
      exact text_fun w b c0 gn gk ca ck _ _ _ (by omega) (by omega) hb hc hk0 (tx c0 y0 hr0 hm0 (by omega))
    · obtain ⟨c0, y0, hc0, hy0, hr0, hm0⟩ := kid_at h4 h5 0 (by omega)
      obtain ⟨c1, y1, hc1, hy1, hr1, hm1⟩ := kid_at h4 h5 1 (by omega)
      obtain ⟨gk, rfl, hk0⟩ := hkr 0 c0 hc0
      obtain ⟨gk', eg, hk1⟩ := hkr 1 c1 hc1
      cases eg
      have et : exText (m + 1) x = tOpen ++ exText m y0 ++ tComma ++ exText m y1 ++ tShut := by
        simp only [exText]; rw [if_neg (by rw [ho]; decide), if_neg (by rw [ho]; decide), if_pos ho, hy0, hy1]
      rw [et] at hlen ⊢
      simp only [List.length_append] at hlen
      rw [h4, hk, ho] at hb
      exact text_pair w b gk ck c0 c1 _ _ _ _ (by omega) (by omega) hb hk0 hk1 (tx c0 y0 hr0 hm0 (by omega)) (tx c1 y1 hr1 hm1 (by omega))
    · obtain ⟨c0, y0, hc0, hy0, hr0, hm0⟩ := kid_at h4 h5 0 (by omega)
      obtain ⟨c1, y1, hc1, hy1, hr1, hm1⟩ := kid_at h4 h5 1 (by omega)
      obtain ⟨c2, y2, hc2, hy2, hr2, hm2⟩ := kid_at h4 h5 2 (by omega)
      obtain ⟨gk, rfl, hk0⟩ := hkr 0 c0 hc0
      obtain ⟨gk', eg, hk1⟩ := hkr 1 c1 hc1
      cases eg
      obtain ⟨gk', eg, hk2⟩ := hkr 2 c2 hc2
      cases eg
      have et : exText (m + 1) x = tIf ++ exText m y0 ++ tThen ++ exText m y1 ++ tElse ++ exText m y2 := by
        simp only [exText]; rw [if_neg (by rw [ho]; decide), if_neg (by rw [ho]; decide), if_neg (by rw [ho]; decide), if_pos ho, hy0, hy1, hy2]
      rw [et] at hlen ⊢
      simp only [List.length_append] at hlen
      rw [h4, hk, ho] at hb
      exact text_if w b gk ck c0 c1 c2 _ _ _ _ _ (by omega) (by omega) (by omega) hb hk0 hk1 hk2 (tx c0 y0 hr0 hm0 (by omega)) (tx c1 y1 hr1 hm1 (by omega)) (tx c2 y2 hr2 hm2 (by omega))
    · obtain ⟨c0, y0, hc0, hy0, hr0, hm0⟩ := kid_at h4 h5 0 (by omega)
      obtain ⟨c1, y1, hc1, hy1, hr1, hm1⟩ := kid_at h4 h5 1 (by omega)
      obtain ⟨gk, rfl, hk0⟩ := hkr 0 c0 hc0
      obtain ⟨gk', eg, hk1⟩ := hkr 1 c1 hc1
      cases eg
      have et : exText (m + 1) x = inBr (brF y0.op) (exText m y0) ++ tSp ++ inBr (brA y1.op) (exText m y1) := by
        simp only [exText]; rw [if_neg (by rw [ho]; decide), if_neg (by rw [ho]; decide), if_neg (by rw [ho]; decide), if_neg (by rw [ho]; decide), if_pos ho, hy0, hy1]
      rw [et] at hlen ⊢
      simp only [List.length_append] at hlen
      have g0 := inBr_ge (brF y0.op) (exText m y0)
      have g1 := inBr_ge (brA y1.op) (exText m y1)
      rw [h4, hk, ho] at hb
      exact text_app w b gk ck c0 c1 _ _ _ _ _ _ (by omega) (by omega) hb hk0 hk1 (hr0.op hz) (hr1.op hz) (tx c0 y0 hr0 hm0 (by omega)) (tx c1 y1 hr1 hm1 (by omega))
    · have hop : x.op ≠ kName ∧ x.op ≠ kNum ∧ x.op ≠ kFun ∧ x.op ≠ oPair ∧ x.op ≠ kIf ∧ x.op ≠ oApp := by
        rcases ho with ho | ho <;> rw [ho] <;> decide
      obtain ⟨gn, rfl, _⟩ := hnm 0 hn
      obtain ⟨c0, _, hc0, _, _, _⟩ := kid_at h4 h5 0 (by omega)
      obtain ⟨gk, rfl, _⟩ := hkr 0 c0 hc0
      obtain ⟨kt, hkt⟩ : ∃ kt : Nat → List UInt8, kt = fun j => match x.kids[j]? with | some y => exText m y | none => [] := ⟨_, rfl⟩
      have et : exText (m + 1) x = letHead x.op ++ bindTo (nth x.names) kt x.names.length ++ tIn ++ kt x.names.length := by
        simp only [exText]
        rw [if_neg (fun e => e.elim hop.1 hop.2.1), if_neg hop.2.2.1, if_neg hop.2.2.2.1, if_neg hop.2.2.2.2.1, if_neg hop.2.2.2.2.2, hkt]
      rw [et] at hlen ⊢
      simp only [List.length_append] at hlen
      have hbn := bindTo_n (nth x.names) kt x.names.length
      rw [h4, hk] at hb
      refine text_let w b gn gk ca ck x.names.length (fun j => (bs[j]?).getD 0) (nth x.names) kt x.op _ (by omega) hn hop hb (fun j hj => ?_) (fun j hj => ?_) (fun j hj => ?_) (by omega)
      · obtain ⟨gn', eg, e⟩ := hnm j hj
        cases eg
        exact e
      · obtain ⟨c, y, hc, hy, hr, hm⟩ := kid_at h4 h5 j (by omega)
        obtain ⟨gk', eg, e⟩ := hkr j c hc
        cases eg
        simp only [hc, Option.getD_some]
        exact e
      · obtain ⟨c, y, hc, hy, hr, hm⟩ := kid_at h4 h5 j (by omega)
        have ek : kt j = exText m y := by rw [hkt]; simp only [hy]
        have hle : (kt j).length ≤ 1000000 := by
          rcases Nat.lt_or_ge j x.names.length with hjn | hjn
          · have a1 := bindTo_step (nth x.names) kt j
            have a2 := bindTo_le (nth x.names) kt (j + 1) x.names.length (by omega)
            omega
          · rw [show j = x.names.length from by omega]; omega
        simp only [hc, Option.getD_some]
        rw [ek] at hle ⊢
        exact tx c y hr hm hle
end Go.Proofs.YtcdijppegfcoaaaGreatDoor
