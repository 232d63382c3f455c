import Derived.Test.YtcdijppegfcoaaaGreatDoorZH40
set_option maxRecDepth 100000
set_option maxHeartbeats 8000000
set_option linter.unusedSimpArgs false
namespace Go.Proofs.YtcdijppegfcoaaaGreatDoor
open Go.RowKit Tryz
theorem Ll{H:aB}{z b m S T:Nat}{K:lQE}{l:List (List aA)}{h0 U V W:Value}{g i j:Ex}{r s t:UR}{P:Ex->List (List aA)->Option UR}(n:ZZ H z K P){w:World}(R:H b=some (.cells #[h0,U,V,W] 199 (0,0)))(u:dI m H U g)(v:dI m H V i)(y:dI m H W j)(M:P g l=some r)(N:P i l=some s)(O:P j l=some t)(f:Fz H w)(p:NS H w z K)(q:KF z w l (.func (.func 199) #[] #[.pointer (some ⟨S,0,none⟩), .pointer (some ⟨T,0,none⟩)])):
  Calls prog 124 #[.iface 197 (.pointer (some ⟨b,0,none⟩)), .func (.func 199) #[] #[.pointer (some ⟨S,0,none⟩), .pointer (some ⟨T,0,none⟩)]] w (IY H (LY r (LY s t)) w):=by
 obtain⟨T1,b1,rfl⟩:=u.val;obtain⟨T2,b2,rfl⟩:=v.val;obtain⟨T3,b3,rfl⟩:=y.val;have c:=f _ _ R;have k1:=cU c 1 rfl;have k2:=cU c 2 rfl;have k3:=cU c 3 rfl;have h4:=aT c;have E:=aS (n g _ m l _ r w.drew u M f p (q.grown (cZ (Gb.refl (λk=>w.heap.size<=k) w).none)));have Q:=aS (aL n (aL v (aL N (aL f (aL p (aL q (aL c (aL y O))))))));have a0:=tN b;have a1:=wY b;have a2:=zS b;clear n u v y M N O f p q R c
 all_goals
  go_enter func124,ntmps124;go_wp2_with fail
  go_region_with (first
   |(go_at_call 124;refine E.mono ?_;rintro e w1 ⟨A,rfl,X,x⟩;have F:=aS (Q.1 i _ m _ _ s w1 Q.2.1 Q.2.2.1 (Q.2.2.2.1.grown (fT x)) (Q.2.2.2.2.1.grown (fT x)) (Q.2.2.2.2.2.1.grown (fT x)));have d:w1.heap[b]? =_:=(x.block b h4 (by simp)).trans Q.2.2.2.2.2.2.1;have k4:=cU d 2 rfl;have k5:=cU d 3 rfl;have h5:=aT d;have h:=aS (aL X (aL (fT x) d));clear x X E d)
   |(go_at_call 124;refine F.mono ?_;rintro e w2 ⟨C,rfl,Y,a⟩;have G:=aS (Q.1 j _ m _ _ t w2 Q.2.2.2.2.2.2.2.1 Q.2.2.2.2.2.2.2.2 (Q.2.2.2.1.grown (h.2.1.trans a)) (Q.2.2.2.2.1.grown (h.2.1.trans a)) (Q.2.2.2.2.2.1.grown (h.2.1.trans a)));have o:w2.heap[b]? =_:=(a.block b h5 (by simp)).trans h.2.2;have k6:=cU o 3 rfl;have h6:=aT o;have I:=aS (aL Y (h.2.1.trans a));clear a Y F o)
   |(go_at_call 124;refine G.mono ?_;rintro e w3 ⟨D,rfl,Z,L⟩;have CO:=aS (aa w3.heap.size A C D (w3.alloc (.cells #[.pointer A, .pointer C, .pointer D] 186)) (bY _ _));have J:=aS (aL Z (I.2.trans L));clear L Z G)
   |(go_at_call 168;refine CO.mono ?_;rintro e w4 ⟨rfl,rfl⟩))
  all_goals go_wp2
  all_goals go_ret
  all_goals exact⟨zh A (zh C D),rfl,h.1.or (I.1.or J.1),J.2.trans (aO _ _ _)⟩
end Go.Proofs.YtcdijppegfcoaaaGreatDoor
