import Derived.Test.YtcdijppegfcoaaaGreatDoorZH12
set_option maxRecDepth 100000
set_option maxHeartbeats 4000000
set_option linter.unusedSimpArgs false
namespace Go.Proofs.YtcdijppegfcoaaaGreatDoor
open Go.RowKit Tryz
theorem yI{H:aB}{p:aC}{σ:bM}{d:aI}{i a:Nat}{w:World}(f:p[i]? =some a)(x:fY H p σ d w):
  ∃n,n.length<=2/\KR H p n (fH σ (cT i))/\Calls prog 201 #[CP a] w (Ze H p σ d n w):=by
 obtain⟨b0,v,q⟩:=x.root_get f;have y:=(aU.1 f).1;obtain⟨v0,z,V⟩:=x.root_val y q;have t:=aS (jG (d i+1) i a w (by omega) f x);have b:=aS (aL q (aL z (x.rr _ _ v)));have r:fH σ (cT i)=(match σ.is i with|none=>[]|some F=>F.kids):=by unfold fH;rw[aR (show(cT i).kind=cM from rfl)];rfl
 unfold CP at t⊢;rcases V with⟨l,rfl⟩|⟨F,l,Z,E,k3,A⟩
 ·refine⟨[],by simp,by rw[r,l];exact KR.nil, ?_⟩;clear f x v q z y l r;go_enter func201,ntmps201;go_wp2_with fail;refine t.mono ?_;rintro e K ⟨O,rfl,h,g,j,k⟩;obtain rfl:=aY (b.1.symm.trans h);have x1:=(fZ ((k _ _ b.2.2 h).trans b.2.1)).2.1;have c:=aS (aL g j);clear h g j k;unfold CP;go_wp2;go_ret;exact⟨c.1,c.2,aQ ⟨rfl,rfl⟩⟩
 ·obtain⟨T0,c0,F0,n,Y,R,T,C,s,Q⟩:=E9 σ d (m:=1) A E;refine⟨n,T,by rw[r,l];exact C, ?_⟩;subst Y;have N:=aS s;have D:=λW S=>(s W S).1;have U:∀(W:World),True:=λ_=>trivial;obtain⟨t0,b9,X,u⟩:=A.val;injection u with u _;subst u;have M:=aS (s w x).1;clear s f x v q z y l r Z E k3 A D U C R;rcases Q with rfl|rfl|rfl|rfl|rfl
  all_goals
   have D:=M.out;rcases X with rfl|rfl|rfl|rfl|rfl|rfl
   all_goals
    go_enter func201,ntmps201;go_wp2_with fail;refine t.mono ?_;rintro e K ⟨O,rfl,h,g,j,k⟩;obtain rfl:=aY (b.1.symm.trans h);have x1:=(fZ ((k _ _ b.2.2 h).trans b.2.1)).2.1;have L:=aS (N.out K g).2.1;have c:=aS j;clear h g j k;unfold CP at*;go_wp2_with fail;refine L.mono ?_;rintro e w2 ⟨G,I,J⟩;have o:=aS (aL G (aL I J));have h0:=c.size;rcases J with⟨rfl,rfl⟩|⟨P,rfl,r4,r5⟩
    all_goals
     clear G I;go_wp2;go_ret
    ·exact⟨o.1,c.tr o.2.1,aQ ⟨rfl,rfl⟩⟩
    ·exact⟨o.1,c.tr o.2.1,aM ⟨P,rfl,by omega,r5⟩⟩
end Go.Proofs.YtcdijppegfcoaaaGreatDoor
