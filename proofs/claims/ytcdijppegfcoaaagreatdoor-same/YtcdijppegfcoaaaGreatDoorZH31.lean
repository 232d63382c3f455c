import Derived.Test.YtcdijppegfcoaaaGreatDoorZH28
set_option linter.unusedSimpArgs false
namespace Go.Proofs.YtcdijppegfcoaaaGreatDoor
open Go.RowKit Go.Maps Go.Sort Tryz
def mX(h:aD):List aA:=h.mergeSort (λx y=>decide (x<=y))
def jt(h:aD)(g:aK)(k:aA):aA:=(g.getD (h.idxOf k) none).getD []
theorem FM.perm{w:World}{k:Nat}{a:aD}{g:aK}(h:FM w k a g)(t:a.Nodup)(s:∀v,v<a.length->(g.getD v none).isSome=true):
  ∃D:DataW Unit,∃n,w.ownsMap prog 9 Ir k n D/\a.Perm (strKeys D)/\Maps.size D<=g.length:=by
 obtain⟨D,b,q,r,G,i⟩:=h;refine⟨D,_,b, ?_,by rw[q];exact List.length_filter_le _ _⟩;have E:=b.tidy rL;obtain⟨o,rfl,A⟩:=E;refine perm_strKeys A (λp j=> ?_) t λx=> ?_
 ·have:Maps.has (.map o) p.1=true:=by rw[has_eq,List.any_eq_true];refine⟨p,j, ?_⟩;obtain⟨F,l,u⟩:=b.keysOf;cases l;obtain⟨H,z⟩:=u p j;obtain⟨y,_,C,_⟩:=Maps.keyOf_str underlying9 z;rw[C];simp[Lit.sameKey]
  obtain⟨v,_,d⟩:=i _ this;exact⟨_,d⟩
 ·constructor
  ·intro f;have c:=iG f;have e:a.getD (a.idxOf x) []=x:=by simp[List.getD,aP c]
   have:=r (a.idxOf x) c;rw[e,s _ c]at this;exact this
  ·intro f;obtain⟨v,d,e⟩:=i _ f;have m:x=a.getD v []:=by simpa using e
   rw[m];exact xJ d
theorem LU(W:World)(b:Nat)(w:aD)(g:aK)(h:FM W b w g)(q:w.Nodup)(p:∀v,v<w.length->(g.getD v none).isSome=true)(u:g.length<=1000):
  Calls prog 48 #[.func (.func 87) #[] #[.pointer (some ⟨W.heap.size,0,none⟩)]] (W.alloc (.cells #[.map (some b)] 93)) λe c=>∃v,e= .returned v/\
   c.ownsRow (W.alloc (.cells #[.map (some b)] 93)).heap.size 9 1 v (mX w).length (pS (mX w))/\(W.alloc (.cells #[.map (some b)] 93)).grownBy c none:=by
 obtain⟨D,n,m,o,t⟩:=h.perm q p;refine(callsIn_wide.1 (Tryz.slices_Sorted_keys_48_49 b n D Ir W m (by unfold maxLen;omega) (by omega))).mono ?_;rintro e c ⟨v,i,rfl,s,f,_,a⟩;have d:i.mergeSort (λx y=>decide (x<=y))=mX w:=mergeSort_of_perm (s.trans o.symm);have j:i.length=(mX w).length:=by rw[<-d,MI]
 have l:(mX w).map encStr=pS (mX w):=by unfold pS;refine dF λx _=> ?_;rfl
 rw[d,j,l]at f;exact⟨v,rfl,f,a.os,a.tape,a.output,a.size,λk r _=>a.block k r⟩
end Go.Proofs.YtcdijppegfcoaaaGreatDoor
