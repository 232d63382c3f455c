import Derived.Test.YtcdijppegfcoaaaGreatDoorZH45
import Derived.Test.YtcdijppegfcoaaaGreatDoorZH46
set_option maxRecDepth 100000
set_option maxHeartbeats 2000000
set_option linter.unusedSimpArgs false
namespace Go.Proofs.YtcdijppegfcoaaaGreatDoor
open Go.RowKit Tryz
theorem yk{H:aB}{q b m:Nat}{C:lQE}{l:List (List aA)}{p R I J:Value}{d f:Ex}{r s:UR}{P:Ex->List (List aA)->Option UR}(g:ZZ H q C P){w:World}(G:H b=some (.cells #[R,I,J] 213 (0,0)))(n:dI m H I d)(o:dI m H J f)(E:P d l=some r)(F:P f l=some s)(c:Fz H w)(j:NS H w q C)(a:KF q w l p):
  Calls prog 124 #[.iface 211 (.pointer (some ⟨b,0,none⟩)),p] w (IY H (LY r s) w):=by
 obtain⟨V,b1,rfl⟩:=n.val;obtain⟨W,b2,rfl⟩:=o.val;have x:=c _ _ G;have k1:=cU x 1 rfl;have k2:=cU x 2 rfl;have S:=aT x;have v:=aS (g d _ m l p r w.drew n E c j (a.grown (cZ (Gb.refl (λk=>w.heap.size<=k) w).none)));have Q:=aS (aL g (aL o (aL F (aL c (aL j (aL a x))))));have T:=a.form;have X:=rR b;have Y:=t8 b;have Z:=vB b;have a3:=tC b;have a4:=oS b;have a5:=tS b;clear g n o E F c j a G x;rcases T with⟨U,rfl⟩|⟨U,q2,rfl⟩
 all_goals
  go_enter func124,ntmps124;go_wp2_with fail
  go_region_with (first
   |(go_at_call 124;refine v.mono ?_;rintro e M ⟨t,rfl,K,h⟩;have y:=aS (Q.1 f _ m _ _ s M Q.2.1 Q.2.2.1 (Q.2.2.2.1.grown (fT h)) (Q.2.2.2.2.1.grown (fT h)) (Q.2.2.2.2.2.1.grown (fT h)));have i:M.heap[b]? =_:=(h.block b S (by simp)).trans Q.2.2.2.2.2.2;have k3:=cU i 2 rfl;have h0:=aT i;have z:=aS (aL K h);clear h K v i)
   |(go_at_call 124;refine y.mono ?_;rintro e N ⟨u,rfl,L,D⟩;have O:=aS (WR N.heap.size t u (N.alloc (.cells #[.pointer t, .pointer u] 186)) (bY _ _));have A:=aS (aL L D);clear D L y)
   |(go_at_call 168;refine O.mono ?_;rintro e w3 ⟨rfl,rfl⟩))
  all_goals go_wp2
  all_goals go_ret
  all_goals exact⟨zh t u,rfl,z.1.or A.1,fT (z.2.trans (A.2.trans (aO _ _ _)))⟩
theorem Ru{H:aB}{e b m:Nat}{d:lQE}{l:List (List aA)}{v C y z A:Value}{x a c:Ex}{r s t:UR}{P:Ex->List (List aA)->Option UR}(j:ZZ H e d P){w:World}(k:H b=some (.cells #[C,y,z,A] 199 (0,0)))(o:dI m H y x)(p:dI m H z a)(q:dI m H A c)(f:P x l=some r)(g:P a l=some s)(i:P c l=some t)(u:Fz H w)(n:NS H w e d)(h:KF e w l v):
  Calls prog 124 #[.iface 197 (.pointer (some ⟨b,0,none⟩)),v] w (IY H (LY r (LY s t)) w):=by
 rcases h.form with⟨D,rfl⟩|⟨D,E,rfl⟩
 ·exact Li j k o p q f g i u n h
 ·exact Ll j k o p q f g i u n h
end Go.Proofs.YtcdijppegfcoaaaGreatDoor
