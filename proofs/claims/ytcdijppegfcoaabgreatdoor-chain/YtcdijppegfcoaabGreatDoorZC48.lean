import Derived.Stop.LaidErr
import Derived.LaidHandle
namespace Go.Proofs.YtcdijppegfcoaabGreatDoor
open Go
def sentD (x : String × List UInt8) : String × DataW Unit := (x.1,.iface "*errors.errorString" (.ptr (.agg [.lit (.string x.2)])))
theorem sents {P : Program} {W : World} {ti tp te ts : TypeId} {ms : Array (String × TypeId)} {f : Field}
    (hi : P.underlying ti = some (.interface ms)) (hrow : ∀ u,P.typeName? 3 u = some "*errors.errorString" → u = tp)
    (hp : P.underlying tp = some (.pointer te)) (he : P.underlying te = some (.struct #[f])) (hft : f.type = ts) (hfo : f.offset = 0) (hs : P.underlying ts = some .string) (hc : P.cellsOf te = 1) (hcs : P.cellsOf ts = 1) :
    ∀ (L : List (String × List UInt8)) (ps : List MemPlace),DataW.LaidVars P W (L.map sentD) ps → ps.Nodup →
      (∀ b off,MemPlace.cell b off ∈ ps → (∃ c t,W.heap[b]? = some (.cells c t (0,0))) ∧ ∀ u v,W.cell? ⟨b,off,none⟩ = some (.iface u v) → Value.okWide P W .any 0 u v) →
      (∀ x ∈ L,∃ g,P.globalNamed x.1 = some g ∧ (P.globals[g]?).map (·.type) = some ti) →
      ∃ as : List Addr,as.length = L.length ∧ as.Nodup ∧ (∀ a ∈ as,MemPlace.cell a.block a.off ∈ ps) ∧
        (∀ (i : Nat) (n : String),(L[i]?).map (fun y : String × List UInt8 => y.1) = some n → ∃ a,as[i]? = some a ∧ W.var? P n = some #[.iface tp (.pointer (some a))])
  | [],ps,_,_,_,_ => ⟨[],rfl,List.nodup_nil,(fun _ h => by cases h),(fun i n h => by simp at h)⟩
  | x :: r,ps,hv,hnd,hrows,hgs => by
    obtain ⟨g0,t0,cs0,f0,p0,q0,hg0,ht0,hv0,hd0,hq,e0⟩ := hv
    obtain ⟨g,hg,ht⟩ := hgs x (List.mem_cons_self ..)
    obtain rfl := Option.some.inj (hg.symm.trans hg0)
    obtain rfl := Option.some.inj (ht.symm.trans ht0)
    obtain ⟨l0⟩ := cs0
    have ok0 : ∀ u v,l0 = [.iface u v] → Value.okWide P W .any 0 u v := fun u v e => by
      subst e
      exact (hrows g 0 (by rw [e0]; simp [MemPlace.row])).2 u v (by simpa using World.var?_cell hg0 hv0 0)
    obtain ⟨a0,s0,rfl,hc0,hs0,hz0,rfl⟩ := errorString_of_trod hi hrow hp he hft hfo hs hc hcs hd0 ok0
    have hsub : q0.Sublist ps := by rw [e0]; exact List.sublist_append_right _ _
    obtain ⟨as,h1,h2,h3,h4⟩ := sents hi hrow hp he hft hfo hs hc hcs r q0 hq (List.Nodup.sublist hsub hnd) (fun b off hm => hrows b off (hsub.subset hm)) (fun y hy => hgs y (List.mem_cons_of_mem _ hy))
    have hm0 : MemPlace.cell a0.block a0.off ∈ MemPlace.row a0 1 := by simp [MemPlace.row]
    refine ⟨a0 :: as,by simp [h1],?_,?_,?_⟩
    · refine List.nodup_cons.2 ⟨fun hm => ?_,h2⟩
      have hq0 := h3 a0 hm
      rw [e0,List.nodup_append] at hnd
      exact hnd.2.2 _ (List.mem_append_right _ hm0) _ hq0 rfl
    · intro a ha
      rcases List.mem_cons.1 ha with rfl | ha
      · rw [e0]
        exact List.mem_append_left _ (List.mem_append_right _ hm0)
      · exact hsub.subset (h3 a ha)
    · intro i n hn
      cases i with
      | zero =>
        simp only [List.getElem?_cons_zero,Option.map_some,Option.some.injEq] at hn
        subst hn
        exact ⟨a0,rfl,hv0⟩
      | succ i =>
        simp only [List.getElem?_cons_succ] at hn ⊢
        exact h4 i n hn
end Go.Proofs.YtcdijppegfcoaabGreatDoor
