import Derived.Stop.LaidErr
import Derived.LaidHandle
set_option linter.unusedSimpArgs false
namespace Go.Proofs.YtcdijppegfcoaaaGreatDoor
open Go
def XY(x:String×List UInt8):String×DataW Unit:=(x.1, .iface "*errors.errorString" (.ptr (.agg [.lit (.string x.2)])))
theorem Od{P:Program}{W:World}{V A z C:TypeId}{ms:Array (String×TypeId)}{f:Field}
  (M:P.underlying V=some (.interface ms)) (Q:∀u,P.typeName? 3 u=some "*errors.errorString" ->u=A)
  (O:P.underlying A=some (.pointer z)) (G:P.underlying z=some (.struct #[f])) (I:f.type=C) (H:f.offset=0) (S:P.underlying C=some .string) (E:P.cellsOf z=1) (F:P.cellsOf C=1):
  ∀(L:List (String×List UInt8)) (w:List MemPlace),DataW.LaidVars P W (L.map XY) w->w.Nodup->
   (∀b m,MemPlace.cell b m∈w->(∃c t,W.heap[b]? =some (.cells c t (0,0)))/\∀u v,W.cell? ⟨b,m,none⟩=some (.iface u v)->Value.okWide P W .any 0 u v)->
   (∀x∈L,∃g,P.globalNamed x.1=some g/\(P.globals[g]?).map (·.type)=some V)->
   ∃j:List Addr,j.length=L.length/\j.Nodup/\(∀a∈j,MemPlace.cell a.block a.off∈w)/\
    (∀(i:Nat) (n:String),(L[i]?).map (λy:String×List UInt8=>y.1)=some n->∃a,j[i]? =some a/\W.var? P n=some #[.iface A (.pointer (some a))])
 |[],w,_,_,_,_=>⟨[],rfl,List.nodup_nil,(λ_ h=>by cases h),(λi n h=>by simp at h)⟩
 |x::r,w,hv,q,R,K=>by
  obtain⟨g0,t0,X,f0,p0,U,J,h6,T,h0,hq,k⟩:=hv
  obtain⟨g,hg,ht⟩:=K x (List.mem_cons_self ..)
  obtain rfl:=Option.some.inj (hg.symm.trans J)
  obtain rfl:=Option.some.inj (ht.symm.trans h6)
  obtain⟨l0⟩:=X
  have h7:∀u v,l0=[.iface u v]->Value.okWide P W .any 0 u v:=λu v e=>by
   subst e
   exact(R g 0 (by rw[k];simp[MemPlace.row])).2 u v (by simpa using World.var?_cell J T 0)
  obtain⟨d,s0,rfl,h8,h9,e1,rfl⟩:=errorString_of_trod M Q O G I H S E F h0 h7
  have s:U.Sublist w:=by rw[k];exact List.sublist_append_right _ _
  obtain⟨j,Y,Z,D,h4⟩:=Od M Q O G I H S E F r U hq (List.Nodup.sublist s q) (λb m p=>R b m (s.subset p)) (λy hy=>K y (List.mem_cons_of_mem _ hy))
  have N:MemPlace.cell d.block d.off∈MemPlace.row d 1:=by simp[MemPlace.row]
  refine⟨d::j,by simp[Y], ?_, ?_, ?_⟩
  ·refine List.nodup_cons.2 ⟨λp=> ?_,Z⟩
   have h5:=D d p
   rw[k,List.nodup_append]at q
   exact q.2.2 _ (List.mem_append_right _ N) _ h5 rfl
  ·intro a o
   rcases List.mem_cons.1 o with rfl|o
   ·rw[k]
    exact List.mem_append_left _ (List.mem_append_right _ N)
   ·exact s.subset (D a o)
  ·intro i n l
   cases i with
   |zero=>
    simp only[List.getElem?_cons_zero,Option.map_some,Option.some.injEq]at l
    subst l
    exact⟨d,rfl,T⟩
   |succ i=>
    simp only[List.getElem?_cons_succ]at l⊢
    exact h4 i n l
end Go.Proofs.YtcdijppegfcoaaaGreatDoor
