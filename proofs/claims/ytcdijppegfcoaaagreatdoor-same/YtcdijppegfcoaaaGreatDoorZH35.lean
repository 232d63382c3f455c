import Derived.Test.YtcdijppegfcoaaaGreatDoorZH33
import Derived.Maps.Ext
set_option maxRecDepth 100000
set_option maxHeartbeats 4000000
set_option linter.unusedSimpArgs false
namespace Go.Proofs.YtcdijppegfcoaaaGreatDoor
open Go.RowKit Go.Maps Go.WideMaps Tryz
variable{ts:List aA}{n j:Nat}
def EU(w:World)(v:Value)(l:aD):Prop:=
 ∃e x,v= .slice e l.length x/\∀j,j<l.length->∃h,e=some ⟨h,0,none⟩/\h<w.heap.size/\w.cell? ⟨h,j,none⟩=some (.string (B (l.getD j [])))
theorem EU.gn{w b:World}{v:Value}{l:aD}(h:EU w v l)(g:Gn w b):EU b v l:=by obtain⟨c,d,k,m⟩:=h;refine⟨c,d,k,λj n=> ?_⟩;obtain⟨e,f,x,i⟩:=m j n;exact⟨e,f,aZ x g.size,by rw[bT (a:=⟨e,j,none⟩) (g.block e x)];exact i⟩
def zg(h:aD)(n j:Nat):List (Option aA):=(h.take j).map some++List.replicate (n-j) none
theorem Kv(h:ts.length=n)(e:j<=n):(zg ts n j).length=n:=by simp[zg];omega
theorem Qz(h:ts.length=n)(w:j<n):(zg ts n j).getD j none=none:=by
 have e:(List.replicate (n-j) (none:Option aA))[0]? =some none:=by rw[List.getElem?_replicate];rw[aR (by omega)]
 unfold zg;rw[aW,cD (by simp;omega)];simp only[fM,gK];rw[show j-min j ts.length=0 by omega,e];rfl
theorem Dr(h:ts.length=n)(w:j<n):(zg ts n j).set j (some (ts.getD j []))=zg ts n (j+1):=by
 have e:ts[j]? =some (ts.getD j []):=by rw[aW,aP (by omega)];rfl
 unfold zg;rw[List.set_append,aN (by simp;omega),iI,e];simp only[fM,gK];rw[show j-min j ts.length=0 by omega,show n-j=(n-(j+1))+1 by omega,List.replicate_succ];simp
theorem Ra(w:World):(Instr.makeMap 93 none).run prog w= .ok (.map (some w.heap.size)) (w.alloc (.map #[] 0)):=by kernel_rfl
theorem On(h x:aD)(w:World)(I J:Value)(f:EU w I h)(g:EU w J x)(d:x.length=h.length)(P:h.length<=1000)(D:h.Nodup)(F:∀i,i<h.length->(h.getD i []).length<=300)(G:∀i,i<x.length->(x.getD i []).length<=1000000):
  Calls prog 51 #[I,J] w λe K=>w.grownBy K none/\e= .returned (.map (some w.heap.size))/\FM K w.heap.size h (x.map some):=by
 obtain⟨W,Y,rfl,f⟩:=f;obtain⟨X,Z,rfl,g⟩:=g;have M:=aS f;have N:=aS g;have n:=aS (aL D (aL F G));have u:=aS (FM.new w h h.length);have H:zg x h.length 0=List.replicate h.length none:=by simp[zg]
 rw[<-H]at u;clear f g D F G H;rw[d];have h2:=Ra w;go_enter func51,ntmps51;go_wp2_with fail;have h3:w.heap.size<(w.alloc (.map #[] 0)).heap.size:=by simp
 go_loopg [10] (h.length+1) (λO i L=>∃j:Nat,j<=h.length/\i= .int .i64 j/\O=h.length-j+1/\Hid (FM L w.heap.size h (zg x h.length j))/\Hid ((w.alloc (.map #[] 0)).grownBy L (some w.heap.size)))
 case atStart=>exact⟨0,by omega,rfl,by omega,u,aS (bC _ _)⟩
 case round=>
  obtain⟨j,Q,rfl,h0,o,b⟩:=hrel;by_cases c:j<h.length
  ·obtain⟨l,rfl,T,A⟩:=M.out j c;obtain⟨m,rfl,U,C⟩:=N.out j (by omega);obtain⟨s,q⟩:∃s,s=h.getD j []:=⟨_,rfl⟩;obtain⟨t,r⟩:∃t,t=x.getD j []:=⟨_,rfl⟩
   have d1:wr.cell? ⟨l,j,none⟩=some (.string (B s)):=by rw[bT (a:=⟨l,j,none⟩) (b.out.block l (by simp;omega) (by simp;omega)),bT (a:=⟨l,j,none⟩) (bQ _ _ _ T),A,q]
   have d2:wr.cell? ⟨m,j,none⟩=some (.string (B t)):=by rw[bT (a:=⟨m,j,none⟩) (b.out.block m (by simp;omega) (by simp;omega)),bT (a:=⟨m,j,none⟩) (bQ _ _ _ U),C,r]
   obtain⟨w2,V,p,E⟩:=FM.store (w:=wr.drew) (FM.same o.out rfl) (Kv d Q) P n.1 c (n.2.1 j c) (Qz d c) (n.2.2 j (by omega));rw[Dr d c]at p;rw[<-q,<-r]at V;have v:=aS (aL p ((cZ b.out).trans E));have h1:((j:Nat):Int)<((h.length:Nat):Int):=by omega
   clear p E A C q r;go_wp2_with fail
   go_region
   go_wp2_with fail
   go_roundg (h.length-(j+1)+1)
   case measure=>omega
   case rel=>exact⟨j+1,by omega,by go_num,rfl,aS v.1,aS v.2⟩
  ·have R:j=h.length:=by omega
   subst R
   have z:zg x h.length h.length=x.map some:=by unfold zg;rw[<-d,kK,Nat.sub_self];simp
   have y:=aS (show w.grownBy wr none/\FM wr w.heap.size h (x.map some)from⟨⟨b.out.os,b.out.tape,b.out.output,by have:=b.out.size;simp at this;omega,λk S _=>by
    rw[b.out.block k (by simp;omega) (by simp;omega),bQ _ _ _ S]⟩,z▸o.out⟩)
   clear o b z;go_wp2;go_ret;exact⟨y.1,rfl,y.2⟩
theorem xj(a b:ByteArray):∃r,∀w:World,(binOp .neq 101 (.agg #[.string a]) (.agg #[.string b])).run prog w= .ok (.bool r) w:=by
 by_cases h:a.toList=b.toList
 ·exact⟨false,λw=>by simp[go_sem,h]⟩
 ·exact⟨true,λw=>by simp[go_sem,h]⟩
theorem Kw(h o:Nat)(Z m2:aD)(E F:aK)(w:World)(Q:FM w h Z E)(F2:FM w o m2 F):
  Calls prog 53 #[.map (some h), .map (some o)] w λe w'=>(∃r,e= .returned (.bool r))/\w.grownBy w' none:=by
 obtain⟨n,k,-⟩:=Q;obtain⟨g,a,-⟩:=F2;generalize (E.filter Option.isSome).length=z at k;generalize (F.filter Option.isSome).length=n2 at a;have l1:=λA=>k.len (t:=93) underlying93 A;have l2:=λA=>a.len (t:=93) underlying93 A;have h0:=a.lt;by_cases V:Maps.size n=Maps.size g
 ·go_enter func53,ntmps53
  go_wp2_with (first
   |(at_range;refine wpList_range_own _ rfl _ 93 rfl 9 101 rL underlying93 Ir h z _ rfl k ?_;intro w0 M q h8)
   |go_in)
  go_frame
  go_loopw [16] (λ_ f=>∃(left:Lit->Bool) (D:Nat),f.ranges prog 9 Ir h w.heap.size z n left D/\f.ownsMap prog 9 Ir o n2 g/\w.grownBy f none)
   (λ_ f=>f.rangeLeft h w.heap.size)
  case atStart=>exact⟨_,_,M,a.kept q (by simp),q⟩
  case round=>
   obtain⟨left,D,y,G,s⟩:=hrel
   go_wp2_with (first
    |(at_next;refine wpList_next_ranges _ rfl _ rfl 9 rL Ir id id (λX _ _=>⟨X,rfl⟩) (λv _ _=>⟨v,rfl⟩) h w.heap.size z _ _ _ rfl y ?_ ?_)
    |go_in)
   ·intro _ h4;go_wp2;go_ret;exact⟨⟨_,rfl⟩,s⟩
   ·intro x c Y yd yp d R U h5 W S N K H h9 h3;have I:w.grownBy d none:=s.andThen H (λj T=>by cases T;exact aQ (aV _));have p:=G.kept H (λe=>by have:=aY e;omega);obtain⟨m,rfl,_⟩:=II W;have b:d.grownBy (d.alloc (.cells #[.string m] 101)) none:=aO _ _ _;obtain⟨u,ps,L,O⟩:=(p.kept b (by simp)).look_ok rL underlying93 (BZ _) (Q7 (t:=[]) (by simp)) U;obtain⟨P,rfl,_⟩:=II O;obtain⟨r,h7⟩:=xj m P;have l:(d.alloc (.cells #[.string m] 101)).grownBy ((d.alloc (.cells #[.string m] 101)).alloc (.cells #[.string P] 101)) none:=aO _ _ _;have i:=aS (aL (N.kept (b.trans l) (by simp) (by simp)) (aL (p.kept (b.trans l) (by simp)) (I.trans (b.trans l))));have C:=aS (aL K y);clear S N p I b l O y G s M q k a K;cases J:Maps.has g Y
    ·rw[J]at L;go_wp2;go_ret;exact⟨⟨_,rfl⟩,i.2.2⟩
    ·rw[J]at L;cases r
     ·go_wp2_with fail
      go_roundw
      case rel=>exact⟨_,R,i.out⟩
      case measure=>rw[i.1.left_eq,C.2.left_eq];exact C.1
     ·go_wp2;go_ret;exact⟨⟨_,rfl⟩,i.2.2⟩
 ·have h6:¬((Maps.size n:Int)=(Maps.size g:Int)):=λe=>V (by exact_mod_cast e);go_enter func53,ntmps53;go_wp2;go_ret;exact⟨⟨_,rfl⟩,bC _ _⟩
end Go.Proofs.YtcdijppegfcoaaaGreatDoor
