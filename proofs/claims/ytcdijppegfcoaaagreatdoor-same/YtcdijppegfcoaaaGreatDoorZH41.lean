import Derived.Test.YtcdijppegfcoaaaGreatDoorZH36
set_option maxRecDepth 100000
set_option maxHeartbeats 2000000
set_option linter.unusedSimpArgs false
namespace Go.Proofs.YtcdijppegfcoaaaGreatDoor
open Go.RowKit Go.Extern.Stop Go.Stop Go.Extern Tryz
theorem kg(h:Nat)(q:Addr)(w:World)(y:h<w.heap.size)
  (x:w.cell? ⟨10,0,none⟩=some YV) (v:10<w.heap.size):
  Calls prog 70 #[.iface 135 (.pointer (some q)), .iface 138 (.pointer (some ⟨h,0,none⟩))] w λe a=>e= .returned (.bool false)/\w.grownBy a none:=by
 unfold YV at x;have b:=sV;have c:=sW;have d:=vW;have f:=yC;have g:=uC;have i:=vX;have j:=uD;have k:=uF;have l:=vY;have m:=AD;have n:=lK;have o:=jY;have p:=vZ;have r:=LB;have s:=zH;have t:=zC;have u:=xG;have z:h<w.heap.size+1:=by omega
 have A:h<w.heap.size+1+1:=by omega
 have C:10<w.heap.size+1:=by omega
 go_enter func70,ntmps70;go_wp2;refine dX 1 ?_;rw[dH];go_wp2;go_ret;exact⟨rfl,((aO _ _ _).trans (aO _ _ _)).trans (aO _ _ _)⟩
theorem kh(h:Nat)(q:Addr)(w:World)(y:h<w.heap.size)
  (x:w.cell? ⟨10,0,none⟩=some YV) (v:10<w.heap.size):
  Calls prog 70 #[.iface 135 (.pointer (some q)), .iface 143 (.pointer (some ⟨h,0,none⟩))] w λe a=>e= .returned (.bool false)/\w.grownBy a none:=by
 unfold YV at x;have b:=pB;have c:=pC;have d:=rG;have f:=sU;have g:=qA;have i:=rH;have j:=qB;have k:=qC;have l:=rI;have m:=AD;have n:=lK;have o:=jY;have p:=vZ;have r:=LB;have s:=wB;have t:=zC;have u:=xG;have z:h<w.heap.size+1:=by omega
 have A:h<w.heap.size+1+1:=by omega
 have C:10<w.heap.size+1:=by omega
 go_enter func70,ntmps70;go_wp2;refine dX 1 ?_;rw[dH];go_wp2;go_ret;exact⟨rfl,((aO _ _ _).trans (aO _ _ _)).trans (aO _ _ _)⟩
theorem ki(h:Nat)(q:Addr)(d:Value)(w:World)(b:w.cell? ⟨h,0,none⟩=some d)(i:w.frozen? ⟨h,0,none⟩=false)(c:h<w.heap.size)
  (g:w.cell? ⟨10,0,none⟩=some YV) (F:10<w.heap.size):
  Calls prog 70 #[.iface 135 (.pointer (some q)), .iface 146 (.pointer (some ⟨h,0,none⟩))] w λe f=>e= .returned (.bool true)/\f.cell? ⟨h,0,none⟩=some (.pointer (some q))/\w.grownBy f (some h):=by
 unfold YV at g;have k:=sY;have l:=sZ;have m:=vF;have n:=xD;have o:=tZ;have p:=vG;have r:=u9;have s:=uA;have t:=vI;have y:=AD;have z:=lK;have A:=jY;have C:=vZ;have D:=uY;have E:=yB
 have u:=λ(x a:Obj)=>JQ ⟨w.heap.size,0,none⟩ ⟨h,0,none⟩ (((w.alloc (.cells #[.pointer (some ⟨h,0,none⟩)] 146)).alloc x).alloc a)
  (by rw[eM _ _ _ (by simp;omega),eM _ _ _ (by simp),World.cell?_alloc_new];rfl)
 have v:=λ(j x a:Obj)=>ML ⟨h,0,none⟩ ⟨w.heap.size+1+1+1,0,none⟩ (some q) d ((((w.alloc j).alloc x).alloc a).alloc (.cells #[.pointer (some q)] 135))
  (by rw[World.cell?_alloc_at _ _ _ _ (by simp)];rfl)
  (by rw[eM _ _ _ (by simp;omega),eM _ _ _ (by simp;omega),eM _ _ _ (by simp;omega),eM _ _ _ c];exact b)
  (by rw[iF _ _ _ (by simp;omega),iF _ _ _ (by simp;omega),iF _ _ _ (by simp;omega),iF _ _ _ c];exact i)
 have G:h<w.heap.size+1:=by omega
 have H:h<w.heap.size+1+1:=by omega
 have I:h<w.heap.size+1+1+1:=by omega
 have J:10<w.heap.size+1:=by omega
 go_enter func70,ntmps70;go_wp2;refine dX 1 ?_;rw[dH];go_wp2;go_ret;exact⟨rfl,dP (dP (dP (dP (pe b _) _) _) _) _,(((((gX.refl h w).setCell 0 _).alloc _).alloc _).alloc _).alloc _⟩
end Go.Proofs.YtcdijppegfcoaaaGreatDoor
