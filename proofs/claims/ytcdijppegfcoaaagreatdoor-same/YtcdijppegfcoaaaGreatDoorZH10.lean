import Derived.Test.YtcdijppegfcoaaaGreatDoorZH09
set_option linter.unusedSimpArgs false
namespace Go.Proofs.YtcdijppegfcoaaaGreatDoor
open Go.RowKit Go.Maps Go.WideMaps Tryz
variable{w':World}{t:TypeId}{L:List aA}
def dR{α β:Type}[DecidableEq α]:List (α×β)->α->Option β
 |[],_=>none
 |p::l,a=>if p.1=a then some p.2 else dR l a
def sI{α β:Type}[DecidableEq α]:List (α×β)->α->β->List (α×β)
 |[],a,b=>[(a,b)]
 |p::l,a,b=>if p.1=a then(a,b)::l else p::sI l a b
theorem lY{α β:Type}[DecidableEq α](a:α)(b:β)(c:α):∀(l:List (α×β)),dR (sI l a b) c=if a=c then some b else dR l c
 |[]=>rfl
 |p::l=>by
  rw[sI];split
  ·rename_i h;rw[dR];simp only;split
   ·rfl
   ·rename_i x;rw[dR,aN (by rw[h];exact x)]
  ·rename_i h;rw[dR,lY a b c l,dR];by_cases w:p.1=c
   ·rw[aR w,aN (λe=>h (w.trans e.symm)),aR w]
   ·rw[aN w,aN w]
theorem rK{α β:Type}[DecidableEq α]{a:α}:∀{l:List (α×β)},dR l a=none↔a∉l.map (·.1)
 |[]=>by simp[dR]
 |p::l=>by
  rw[dR];split
  ·rename_i h;simp[h]
  ·rename_i h;rw[rK];simp[kU h]
theorem oP{α β:Type}[DecidableEq α]{a:α}(b:β):∀{l:List (α×β)},dR l a=none->sI l a b=l++[(a,b)]
 |[],_=>rfl
 |p::l,h=>by
  rw[dR]at h;split at h
  ·cases h
  ·rename_i e;rw[sI,aN e,oP b h];rfl
theorem BM{α β:Type}[DecidableEq α]{a:α}(b:β):∀{l:List (α×β)},(dR l a).isSome=true->(sI l a b).map (·.1)=l.map (·.1)
 |[],h=>by simp[dR]at h
 |p::l,h=>by
  rw[sI];split
  ·rename_i e;simp[e]
  ·rename_i e;rw[dR,aN e]at h;simp[BM b h]
theorem OX{α β:Type}[DecidableEq α](l:List (α×β))(a:α)(b:β):(sI l a b).length=l.length+if(dR l a).isSome=true then 0 else 1:=by
 cases e:dR l a with
 |none=>rw[oP b e];simp
 |some c=>have:=eC List.length (BM b (l:=l) (a:=a) (by rw[e];rfl));simpa using this
theorem gd{α β:Type}[DecidableEq α]{l:List (α×β)}(h:(l.map (·.1)).Nodup)(a:α)(b:β):((sI l a b).map (·.1)).Nodup:=by
 cases e:dR l a with
 |none=>rw[oP b e,eR,jX];refine⟨h,by simp,λx w y d=> ?_⟩;simp at d;rw[d];intro f;rw[f]at w;exact(rK.1 e) w
 |some c=>rw[BM b (by rw[e];rfl)];exact h
def hR(v:Value):Option (DataW Value×List MemPlace):=some (.held v,[])
def GM{α β:Type}[DecidableEq α](kl:α->Lit)(ev:β->Value)(k:TypeId)(w:World)(mb:Nat)(l:List (α×β)):Prop:=
 ∃D:DataW Value,w.ownsMap prog k hR mb l.length D/\Maps.size D=l.length/\(l.map (·.1)).Nodup/\(∀a,Maps.has D (kl a)=(dR l a).isSome)/\∀a b z,dR l a=some b->D.atKey (kl a) z= .held (ev b)
section
variable {α β:Type} [DecidableEq α] {kl:α->Lit} {ev:β->Value} {k:TypeId} {w:World} {mb:Nat} {l:List (α×β)}
theorem GM.new:GM kl ev k (w.alloc (.map #[] 0)) w.heap.size ([]:List (α×β)):=
 ⟨.map [],dx _ _ _ _,rfl,by simp,λa=>rfl,λa b z h=>by cases h⟩
theorem GM.isMap(h:GM kl ev k w mb l):∃x e,w.heap[mb]? =some (.map x e):=by obtain⟨D,⟨x,e,a,_⟩,_⟩:=h;exact⟨x,e,a⟩
theorem GM.lt(h:GM kl ev k w mb l):mb<w.heap.size:=by obtain⟨D,e,_⟩:=h;exact e.lt
theorem GM.same(h:GM kl ev k w mb l)(d:w'.heap[mb]? =w.heap[mb]?):GM kl ev k w' mb l:=by obtain⟨D,⟨x,e,a,b⟩,c⟩:=h;exact⟨D,⟨x,e,d.trans a,b⟩,c⟩
theorem GM.gb{R:Nat->Prop}(h:GM kl ev k w mb l)(g:Gb R w w')(e:¬R mb):GM kl ev k w' mb l:=h.same (g.block mb h.lt e)
theorem GM.apart{b:Nat}{a:Array Value}{f:Nat×Nat}(h:GM kl ev k w mb l)(x:w.heap[b]? =some (.cells a t f)):b≠mb:=λe=>by obtain⟨g,d,c⟩:=h.isMap;rw[e,c]at x;cases x
theorem GM.len{e:TypeId}(h:GM kl ev k w mb l)(c:prog.underlying t=some (.map k e))(x:TypeId):(Builtin.len_ #[t] x #[.map (some mb)]).run prog w= .ok (.int .i64 (l.length:Int)) w:=by obtain⟨D,a,b,_⟩:=h;rw[a.len c x,b]
theorem GM.look{t e:TypeId}(h:GM kl ev k w mb l)(K:Keyed prog k)(o:prog.underlying t=some (.map k e)){z:Value}(p:(zeroValue e).run prog w= .ok z w){f:Value}{a:α}(m:keyOf prog k f=some (kl a)):
  (Instr.lookup t (.map (some mb)) f true).run prog w= .ok (.tuple #[((dR l a).map ev).getD z, .bool (dR l a).isSome]) w:=by
 obtain⟨D,g,q,r,d,i⟩:=h;obtain⟨u,s,n,x⟩:=g.look_ok K o p (show hR z=some (.held z,[])from rfl) m;rw[n,d a]
 cases c:dR l a with
 |none=>
  have j:Maps.has D (kl a)=false:=by rw[d a,c];rfl
  rw[atKey_of_not_has j]at x;simp[hR]at x;rw[x.1];rfl
 |some b=>rw[i a b _ c]at x;simp[hR]at x;rw[x.1];rfl
theorem GM.look1{t e:TypeId}(h:GM kl ev k w mb l)(K:Keyed prog k)(o:prog.underlying t=some (.map k e)){z:Value}(p:(zeroValue e).run prog w= .ok z w){d:Value}{a:α}(m:keyOf prog k d=some (kl a)):
  (Instr.lookup t (.map (some mb)) d false).run prog w= .ok (((dR l a).map ev).getD z) w:=by
 obtain⟨D,f,q,r,g,i⟩:=h;obtain⟨u,s,n,x⟩:=f.lookup K o p (show hR z=some (.held z,[])from rfl) m;rw[n]
 cases c:dR l a with
 |none=>
  have j:Maps.has D (kl a)=false:=by rw[g a,c];rfl
  rw[atKey_of_not_has j]at x;simp[hR]at x;rw[x.1];rfl
 |some b=>rw[i a b _ c]at x;simp[hR]at x;rw[x.1];rfl
theorem GM.store{e:TypeId}(h:GM kl ev k w mb l)(K:Keyed prog k)(F:prog.underlying t=some (.map k e))(n:∀x y,kl x=kl y->x=y)(o:∀x,WideAt.IsKeyLit (kl x))(M:l.length<=9223372036854775806){q:Value}{a:α}(b:β)(E:keyOf prog k q=some (kl a)):
  ∃f,(Instr.mapUpdate t (.map (some mb)) q (ev b)).run prog w= .ok () f/\GM kl ev k f mb (sI l a b)/\w.grownBy f (some mb):=by
 obtain⟨D,j,v,A,m,C⟩:=h;have i:=j.tidy K;obtain⟨f,I,J,L⟩:=j.update K F (by unfold maxLen;omega) E (show hR (ev b)=some (.held (ev b),[])from rfl)
 have p:Maps.size (D.put (kl a) (.held (ev b)))=(sI l a b).length:=by rw[size_put i,m a,v,OX];cases(dR l a).isSome<;>simp
 refine⟨f,I,⟨_, ?_,p,gd A a b,λc=> ?_,λc x z d=> ?_⟩,L⟩
 ·obtain⟨u,s,G,H,N,r⟩:=J;refine⟨u,s,G,H, ?_,r⟩;rw[<-p,r];simp[Maps.size,length_sorted]
 ·rw[lY];by_cases e:a=c
  ·rw[aR e,<-e,has_put_same i.isMap (o a)];rfl
  ·rw[aN e,has_put_other (λg=>e (n _ _ g.symm)),m c]
 ·rw[lY]at d;by_cases e:a=c
  ·rw[aR e]at d;cases d;rw[<-e];exact atKey_put_same i.isMap (o a) _ _
  ·rw[aN e]at d;rw[atKey_put_other (λg=>e (n _ _ g.symm))];exact C c x z d
end
def kI(n:Nat):Lit:= .int .i64 ((n:Int)+1)
theorem OY(x y:Nat)(h:kI x=kI y):x=y:=by unfold kI at h;injection h with _ e;omega
theorem OZ(x:Nat):WideAt.IsKeyLit (kI x):=trivial
theorem wC:Keyed prog 3:=int_keyed underlying3
theorem wD{n:Nat}(h:n<=9223372036854775806):keyOf prog 3 (.int .i64 ((n:Int)+1))=some (kI n):=
 keyOf_int_mk underlying3 (WalkArith.wf_i64 (n:=(n:Int)+1) (by omega))
def kS(s:aA):Lit:= .string s
theorem Av(x y:aA)(h:kS x=kS y):x=y:=by unfold kS at h;injection h
theorem Aw(x:aA):WideAt.IsKeyLit (kS x):=trivial
theorem P0:Keyed prog 9:=string_keyed underlying9
theorem P6{k:aA}(h:k.length<=300):keyOf prog 9 (.string (B k))=some (kS k):=by have:=keyOf_string_mk (P:=prog) (k:=9) underlying9 (s:=B k) (by rw[dY];unfold maxLen;omega);rw[this];rfl
theorem rL:Keyed prog 9:=string_keyed underlying9
theorem N7(w:World):(zeroValue 3).run prog w= .ok (.int .i64 0) w:=by kernel_rfl
def MP(w:World)(h:Nat)(L:aD):Prop:=
 ∃D:DataW Unit,w.ownsMap prog 9 (plainElem prog 3) h L.length D/\Maps.size D=L.length/\(∀k:aA,Maps.has D (.string k)=decide (k∈L))/\∀k,k∈L->D.atKey (.string k) (.lit (.int .i64 0))= .lit (.int .i64 (L.idxOf k:Int))
theorem MP.new(w:World):MP (w.alloc (.map #[] 0)) w.heap.size []:=
 ⟨.map [],dx _ _ _ _,rfl,λk=>rfl,λk h=>by cases h⟩
theorem MP.kept{w:World}{e:Nat}{r:Option Nat}(h:MP w e L)(b:w.grownBy w' r)(c:some e≠r):MP w' e L:=by obtain⟨D,x,a⟩:=h;exact⟨D,x.kept b c,a⟩
theorem MP.lt{w:World}{e:Nat}(h:MP w e L):e<w.heap.size:=by obtain⟨D,x,_⟩:=h;exact x.lt
theorem MP.isMap{w:World}{a:Nat}(h:MP w a L):∃x e,w.heap[a]? =some (.map x e):=by obtain⟨D,⟨x,e,b,_⟩,_⟩:=h;exact⟨x,e,b⟩
theorem gi{k:aA}(h:k.length<=300):keyOf prog 9 (.string (B k))=some (.string k):=by have:=keyOf_string_mk (P:=prog) (k:=9) underlying9 (s:=B k) (by rw[dY];unfold maxLen;omega);rw[this];rfl
theorem MP.look_in{w:World}{a:Nat}(h:MP w a L){k:aA}(g:k.length<=300)(x:k∈L):
  (Instr.lookup 358 (.map (some a)) (.string (B k)) true).run prog w= .ok (.tuple #[.int .i64 (L.idxOf k:Int), .bool true]) w:=by
 obtain⟨D,b,l,d,f⟩:=h;obtain⟨v,m,i,j⟩:=b.look_ok rL underlying358 (N7 w) (plainElem_int underlying3 (by decide)) (gi g);obtain⟨c,rfl,e,_⟩:=plainElem_int_inv underlying3 j;rw[i,d k,dE x];rw[f k x]at e;have:=eC Prod.fst e;simp at this;rw[this]
theorem MP.look_out{w:World}{a:Nat}(h:MP w a L){k:aA}(f:k.length<=300)(g:k∉L):
  (Instr.lookup 358 (.map (some a)) (.string (B k)) true).run prog w= .ok (.tuple #[.int .i64 0, .bool false]) w:=by
 obtain⟨D,b,l,d,m⟩:=h;obtain⟨v,n,i,j⟩:=b.look_ok rL underlying358 (N7 w) (plainElem_int underlying3 (by decide)) (gi f);obtain⟨c,rfl,e,_⟩:=plainElem_int_inv underlying3 j;have x:Maps.has D (.string k)=false:=by rw[d k,bN g]
 rw[i,x];rw[atKey_of_not_has x]at e;have:=eC Prod.fst e;simp at this;rw[this]
theorem MP.len{w:World}{e:Nat}(h:MP w e L)(x:TypeId):(Builtin.len_ #[358] x #[.map (some e)]).run prog w= .ok (.int .i64 (L.length:Int)) w:=by obtain⟨D,a,b,c,d⟩:=h;rw[a.len underlying358 x,b]
theorem MP.store{w:World}{c:Nat}(h:MP w c L){k:aA}(p:k.length<=300)(j:k∉L)(u:L.length<=1000):
  ∃b,(Instr.mapUpdate 358 (.map (some c)) (.string (B k)) (.int .i64 (L.length:Int))).run prog w= .ok () b/\MP b c (L++[k])/\w.grownBy b (some c):=by
 obtain⟨D,f,l,g,m⟩:=h;have d:=f.tidy rL;obtain⟨b,r,s,t⟩:=f.update rL underlying358 (by unfold maxLen;omega) (gi p) (plainElem_int underlying3 (a:=(L.length:Int)) (WalkArith.wf_i64 (n:=(L.length:Int)) (by omega)));have o:Maps.has D (.string k)=false:=by rw[g k,bN j]
 refine⟨b,r,⟨_,by rw[bD];exact s, ?_,λx=> ?_,λx q=> ?_⟩,t⟩
 ·rw[size_put d,o,l];simp
 ·by_cases e:x=k
  ·subst e;rw[has_put_same (k:= .string x) d.isMap (by trivial)];simp
  ·rw[has_put_other (by simpa using e),g x];simp[e]
 ·by_cases e:x=k
  ·subst e;rw[atKey_put_same (k:= .string x) d.isMap (by trivial)];rw[mJ,aN j];simp
  ·rw[atKey_put_other (by simpa using e)]
   have i:x∈L:=by
    rcases cH.1 q with h|h
    ·exact h
    ·exact absurd (bF.1 h) e
   rw[m x i,mJ,aR i]
end Go.Proofs.YtcdijppegfcoaaaGreatDoor
