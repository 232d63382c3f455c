import Derived.Test.YtcdijppegfcoaaaGreatDoorZH40
set_option maxRecDepth 100000
set_option maxHeartbeats 8000000
set_option linter.unusedSimpArgs false
namespace Go.Proofs.YtcdijppegfcoaaaGreatDoor
open Go.RowKit Tryz
theorem Eo{H:aB}{K b m q1 q2:Nat}{S:lQE}{l:List (List aA)}{h4 u1 u2:Value}{p:aA}{q E:Ex}{r s:UR}{P:Ex->List (List aA)->Option UR}(t:ZZ H K S P){w:World}(W:H b=some (.cells #[h4, .string (B p),u1,u2] 205 (0,0)))(y:dI m H u1 q)(J:dI m H u2 E)(F:P q l=some r)(V:P E ([p]::l)=some s)(n:Fz H w)(u:NS H w K S)(v:KF K w l (.func (.func 199) #[] #[.pointer (some ⟨q1,0,none⟩), .pointer (some ⟨q2,0,none⟩)])):
  Calls prog 124 #[.iface 200 (.pointer (some ⟨b,0,none⟩)), .func (.func 199) #[] #[.pointer (some ⟨q1,0,none⟩), .pointer (some ⟨q2,0,none⟩)]] w (IY H (LY r s) w):=by
 obtain⟨T1,b1,rfl⟩:=y.val;obtain⟨T2,b2,rfl⟩:=J.val;have f:=n _ _ W;have k1:=cU f 1 rfl;have k2:=cU f 2 rfl;have k3:=cU f 3 rfl;have I:=aT f;have O:w.grownBy w.drew none:=cZ (Gb.refl (λk=>w.heap.size<=k) w).none;have i:w.grownBy (w.alloc (.cells #[.string (B p)] 9)).drew none:=cZ (aO _ _ _);have A:=aS (t q _ m l _ r w.drew y F n u (v.grown O));have C:=aS (t q _ m l _ r _ y F (n.grown i) (u.grown i) (v.grown i))
 have X:∀(j:Nat) x,[p][j]? =some x->(#[Value.string (B p)]:Array Value)[j]? =some (.string (B x)):=λj x Z=>by
  cases j with
  |zero=>cases Z;rfl
  |succ j=>cases Z
 have Q:=aS (aL t (aL J (aL V (aL n (aL u (aL v (aL f (aL i X))))))));have a0:=rZ b;have a1:=tO b;have a2:=wZ b;have a3:=tQ b;clear t y J F V n u v W f O i X;go_enter func124,ntmps124;go_wp2_with fail
 go_region_with (first
  |(go_at_call 124;refine A.mono ?_;rintro e a ⟨z,rfl,o,c⟩;have h:a.heap[b]? =_:=(c.block b I (by simp)).trans Q.2.2.2.2.2.2.1;have k4:=cU h 1 rfl;have k5:=cU h 3 rfl;have h5:=aT h;have R:a.grownBy (a.alloc (.cells #[.string (B p)] 9)) none:=aO _ _ _;have d:=aS (aL o ((fT c).trans R));have D:=aS (CZ (ns:=[p]) (gg:=a.heap.size) (cap:=1) (Q.2.2.2.2.2.1.grown d.2) (bY a _) Q.2.2.2.2.2.2.2.2 (vU (dG _)));clear c o A C h R)
  |(go_at_call 124;refine C.mono ?_;rintro e a ⟨z,rfl,o,c⟩;have d:=aS (aL o (Q.2.2.2.2.2.2.2.1.trans c));have h:a.heap[b]? =_:=(d.2.block b I (by simp)).trans Q.2.2.2.2.2.2.1;have k4:=cU h 1 rfl;have k5:=cU h 3 rfl;have h5:=aT h;have Y:a.heap[w.heap.size]? =some (.cells #[.string (B p)] 9 (0,0)):=(c.block _ (by simp) (by simp)).trans (bY w _);have D:=aS (CZ (ns:=[p]) (gg:=w.heap.size) (cap:=1) (Q.2.2.2.2.2.1.grown d.2) Y Q.2.2.2.2.2.2.2.2 (vU (dG _)));clear c o A C h Y)
  |(go_at_call 167;refine D.mono ?_;rintro e w2 ⟨y1,y2,rfl,h0,T⟩;have g:=d.2.trans T;have M:=aS (Q.1 E _ m _ _ s w2 Q.2.1 Q.2.2.1 (Q.2.2.2.1.grown g) (Q.2.2.2.2.1.grown g) h0);have G:w2.heap[b]? =_:=(g.block b I (by simp)).trans Q.2.2.2.2.2.2.1;have k6:=cU G 3 rfl;have h6:=aT G;have G2:=aS g;clear T g G h0 D)
  |(go_at_call 124;refine M.mono ?_;rintro e w3 ⟨L,rfl,h3,U⟩;have CO:=aS (WR w3.heap.size z L (w3.alloc (.cells #[.pointer z, .pointer L] 186)) (bY _ _));have N:=aS (aL h3 (G2.trans U));clear U h3 M)
  |(go_at_call 168;refine CO.mono ?_;rintro e w4 ⟨rfl,rfl⟩))
 all_goals go_wp2
 all_goals go_ret
 all_goals exact⟨zh z L,rfl,d.1.or N.1,N.2.trans (aO _ _ _)⟩
end Go.Proofs.YtcdijppegfcoaaaGreatDoor
