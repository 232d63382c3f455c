import Derived.Test.YtcdijppegfcoaaaGreatDoorZH18
import Derived.Test.YtcdijppegfcoaaaGreatDoorZH14
set_option linter.unusedSimpArgs false
namespace Go.Proofs.YtcdijppegfcoaaaGreatDoor
open Go.RowKit Go.Maps Go.WideMaps Tryz
variable{v mb:Nat}{w:World}{ns:List aA}{g:List (Option aA)}
def Uv(v:Value):Option (DataW Unit×List MemPlace):=
 match v with
 | .string s=>if s.size<=maxLen then some (.lit (.string s.data.toList),[])else none
 |_=>none
def Ir(v:Value):Option (DataW Unit×List MemPlace):=
 match v with
 | .agg a=>if a.size=1 then Uv (a.getD 0 undef)else none
 |_=>none
theorem Q7{t:aA}(h:t.length<=1000000):Ir (.agg #[.string (B t)])=some (.lit (.string t),[]):=by
 have e:(B t).size<=maxLen:=by rw[dY];unfold maxLen;omega
 show(if(B t).size<=maxLen then some (DataW.lit (.string (B t).data.toList),[])else none)=_;rw[aR e];rfl
theorem II{v:Value}{z:DataW Unit×List MemPlace}(h:Ir v=some z):∃s:ByteArray,v= .agg #[.string s]/\z=(.lit (.string s.data.toList),[]):=by
 unfold Ir at h;split at h
 ·rename_i a;split at h
  ·rename_i b;unfold Uv at h;split at h
   ·rename_i s e;split at h
    ·cases h;refine⟨s, ?_,rfl⟩;congr 1;apply Array.ext
     ·simp[b]
     ·intro i w c;have x:i=0:=by omega
      subst x;have:a.getD 0 undef=a[0]:=by simp[Array.getD,w]
      rw[this]at e;simpa using e
    ·cases h
   ·cases h
  ·cases h
 ·cases h
theorem BZ(w:World):(zeroValue 101).run prog w= .ok (.agg #[.string (B [])]) w:=by kernel_rfl
def FM(w:World)(e:Nat)(h:aD)(g:aK):Prop:=
 ∃D:DataW Unit,w.ownsMap prog 9 Ir e (g.filter Option.isSome).length D/\Maps.size D=(g.filter Option.isSome).length/\
  (∀v,v<h.length->Maps.has D (.string (h.getD v []))=(g.getD v none).isSome)/\
  (∀v t,v<h.length->g.getD v none=some t->D.atKey (.string (h.getD v [])) (.lit (.string []))= .lit (.string t))/\
  ∀k,Maps.has D k=true->∃v,v<h.length/\k= .string (h.getD v [])
theorem Q8:∀(g:aK) (v:Nat) (t:aA),v<g.length->g.getD v none=none->((g.set v (some t)).filter Option.isSome).length=(g.filter Option.isSome).length+1
 |[],v,t,h,_=>by simp at h
 |a::g,0,t,h,e=>by simp at e;subst e;simp
 |a::g,v+1,t,h,e=>by have w:=Q8 g v t (by simpa using h) (by simpa using e);simp only[List.set_cons_succ,eh];split<;>simp[w]
theorem FM.new(w:World)(f:aD)(n:Nat):FM (w.alloc (.map #[] 0)) w.heap.size f (List.replicate n none):=by
 have x:((List.replicate n (none:Option aA)).filter Option.isSome)=[]:=by rw[List.filter_eq_nil_iff];intro a c;rw[List.eq_of_mem_replicate c];simp
 have b:∀v,(List.replicate n (none:Option aA)).getD v none=none:=λv=>by
  rw[aW]
  cases e:(List.replicate n (none:Option aA))[v]? with
  |none=>rfl
  |some o=>rw[List.eq_of_mem_replicate (cK e)];rfl
 refine⟨.map [], ?_,by rw[x];rfl,λv d=>by rw[b v];rfl,(λv t d e=>absurd (e.symm.trans (b v)) (by simp)),(λk h=>absurd h (by simp[Maps.has]))⟩;rw[x];exact dx _ _ _ _
theorem FM.kept{e:World}{r:Option Nat}(h:FM w mb ns g)(b:w.grownBy e r)(c:some mb≠r):FM e mb ns g:=by obtain⟨D,x,a⟩:=h;exact⟨D,x.kept b c,a⟩
theorem FM.lt(h:FM w mb ns g):mb<w.heap.size:=by obtain⟨D,e,_⟩:=h;exact e.lt
theorem FM.look_in(h:FM w mb ns g)(b:v<ns.length)(i:(ns.getD v []).length<=300){t:aA}(a:g.getD v none=some t):
  (Instr.lookup 93 (.map (some mb)) (.string (B (ns.getD v []))) true).run prog w= .ok (.tuple #[.agg #[.string (B t)], .bool true]) w:=by
 obtain⟨D,c,l,d,f,m⟩:=h;obtain⟨u,n,j,k⟩:=c.look_ok rL underlying93 (BZ w) (Q7 (t:=[]) (by simp)) (gi i);obtain⟨s,rfl,x⟩:=II k;rw[j,d v b,a];rw[f v t b a]at x;have:=eC Prod.fst x;simp at this
 have e:s=B t:=by cases s;simp at this;simp[B,this]
 rw[e];rfl
theorem FM.look1(h:FM w mb ns g)(j:v<ns.length)(c:(ns.getD v []).length<=300){t:aA}(f:g.getD v none=some t):
  (Instr.lookup 93 (.map (some mb)) (.string (B (ns.getD v []))) false).run prog w= .ok (.agg #[.string (B t)]) w:=by
 obtain⟨D,a,k,l,b,m⟩:=h;obtain⟨u,n,d,i⟩:=a.lookup rL underlying93 (BZ w) (Q7 (t:=[]) (by simp)) (gi c);obtain⟨s,rfl,x⟩:=II i;rw[d];rw[b v t j f]at x;have:=eC Prod.fst x;simp at this
 have e:s=B t:=by cases s;simp at this;simp[B,this]
 rw[e]
theorem FM.look_out(h:FM w mb ns g)(k:v<ns.length)(d:(ns.getD v []).length<=300)(i:g.getD v none=none):
  (Instr.lookup 93 (.map (some mb)) (.string (B (ns.getD v []))) true).run prog w= .ok (.tuple #[.agg #[.string (B [])], .bool false]) w:=by
 obtain⟨D,b,l,c,m,n⟩:=h;obtain⟨u,o,f,j⟩:=b.look_ok rL underlying93 (BZ w) (Q7 (t:=[]) (by simp)) (gi d);obtain⟨s,rfl,a⟩:=II j;have x:Maps.has D (.string (ns.getD v []))=false:=by rw[c v k,i];rfl
 rw[f,x];rw[atKey_of_not_has x]at a;have:=eC Prod.fst a;simp at this
 have e:s=B []:=by cases s;simp at this;simp[B,this]
 rw[e]
theorem FM.store(h:FM w mb ns g)(K:g.length=ns.length)(I:ns.length<=1000)(u:ns.Nodup)(c:v<ns.length)(z:(ns.getD v []).length<=300)(o:g.getD v none=none){t:aA}(C:t.length<=1000000):
  ∃a,(Instr.mapUpdate 93 (.map (some mb)) (.string (B (ns.getD v []))) (.agg #[.string (B t)])).run prog w= .ok () a/\FM a mb ns (g.set v (some t))/\w.grownBy a (some mb):=by
 obtain⟨D,j,q,l,r,s⟩:=h;have d:=j.tidy rL;have J:(g.filter Option.isSome).length<=1000:=bV (List.length_filter_le _ _) (by omega);obtain⟨a,E,F,G⟩:=j.update rL underlying93 (by unfold maxLen;omega) (gi z) (Q7 C);have y:Maps.has D (.string (ns.getD v []))=false:=by rw[l v c,o];rfl
 have m:=Q8 g v t (by omega) o;have p:∀i,i<ns.length->i≠v->(Lit.string (ns.getD i []))≠ .string (ns.getD v []):=λi x A e=>A (YN u x c (by simpa using e))
 have f:∀i,(g.set v (some t)).getD i none=if i=v then some t else g.getD i none:=λi=>by
  rw[aW,aW,mK];by_cases e:v=i
  ·rw[aR e,aR e.symm,aR (by omega)];rfl
  ·rw[aN e,aN (λh=>e h.symm)]
 refine⟨a,E,⟨_,by rw[m];exact F, ?_,λi x=> ?_,λi H x e=> ?_,λk n=> ?_⟩,G⟩
 ·rw[size_put d,y,q,m];simp
 ·rw[f i];by_cases e:i=v
  ·subst e;rw[aR rfl,has_put_same (k:= .string (ns.getD i [])) d.isMap (by trivial)];rfl
  ·rw[aN e,has_put_other (p i x e),l i x]
 ·rw[f i]at e;by_cases b:i=v
  ·subst b;rw[aR rfl]at e;cases e;exact atKey_put_same (k:= .string (ns.getD i [])) d.isMap (by trivial) _ _
  ·rw[aN b]at e;rw[atKey_put_other (p i x b)];exact r i H x e
 ·by_cases e:k= .string (ns.getD v [])
  ·exact⟨v,c,e⟩
  ·rw[has_put_other e]at n;exact s k n
end Go.Proofs.YtcdijppegfcoaaaGreatDoor
