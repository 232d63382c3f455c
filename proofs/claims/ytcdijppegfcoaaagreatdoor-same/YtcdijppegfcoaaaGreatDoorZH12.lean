import Derived.Test.YtcdijppegfcoaaaGreatDoorZH11
set_option maxRecDepth 100000
set_option maxHeartbeats 8000000
set_option linter.unusedSimpArgs false
namespace Go.Proofs.YtcdijppegfcoaaaGreatDoor
open Go.RowKit Tryz
variable{L:List aA}{n:aA}{m:Nat}{v:Value}
def H8(s:aA×Nat×Nat):List Value:=[.string (B s.1), .int .i64 (s.2.1:Int), .int .i64 (s.2.2:Int)]
def Bb(s:aA×Nat×Nat):Value:= .agg #[.string (B s.1), .int .i64 (s.2.1:Int), .int .i64 (s.2.2:Int)]
def JU(s:Nat×Nat):Value:= .agg #[.string (B []), .int .i64 (s.1:Int), .int .i64 (s.2:Int)]
def nG(l:List (aA×Nat×Nat)):List Value:=l.flatMap H8
def uH:List (aA×Nat×Nat)->aA->aA
 |[],out=>out
 |(x,f,t)::l,out=>uH l (out++x++((out++x).drop f).take (t-f))
theorem P7(l r:List (aA×Nat×Nat))(h:aA):uH (l++r) h=uH r (uH l h):=by
 induction l generalizing h with
 |nil=>rfl
 |cons a l e=>obtain⟨x,f,t⟩:=a;simp[uH,e]
def Jp:List (aA×Nat×Nat)->aA->Prop
 |[],_=>True
 |(x,f,t)::l,out=>f<=t/\t<=out.length+x.length/\Jp l (out++x++((out++x).drop f).take (t-f))
theorem Jq(l r:List (aA×Nat×Nat))(h:aA):Jp (l++r) h↔Jp l h/\Jp r (uH l h):=by
 induction l generalizing h with
 |nil=>simp[Jp,uH]
 |cons a l e=>obtain⟨x,f,t⟩:=a;simp[Jp,uH,e,and_assoc]
def Uh(h:Nat):Value:= .func (.func 267) #[] #[.pointer (some ⟨h,0,none⟩)]
def Ui(a:AB):Value:= .func (.func 264) #[] #[.pointer (some ⟨a.kb,0,none⟩), .pointer (some ⟨a.nb,0,none⟩)]
def Bc(n:Nat):Value:= .int .i64 (n:Int)
structure XJ(w:World)(a:AB)(O:aC):Prop where
 mrk:w.heap[a.kb]? =some (.cells #[.string (B [95])] 9 (0,0))
 nf:w.heap[a.nb]? =some (.cells #[Uh a.cb] 429 (0,0))
 blk:w.heap[a.cb]? =some (.cells #[.map (some a.mb)] 424 (0,0))
 mp:GM kI Bc 3 w a.mb (O.zip (List.range O.length))
 few:∀c,c∈O->c<=9223372036854775806
theorem XJ.same{w e:World}{a:AB}{O:aC}(h:XJ w a O)(x:e.heap[a.kb]? =w.heap[a.kb]?)(b:e.heap[a.nb]? =w.heap[a.nb]?)(c:e.heap[a.cb]? =w.heap[a.cb]?)(d:e.heap[a.mb]? =w.heap[a.mb]?):XJ e a O:=
 ⟨x.trans h.mrk,b.trans h.nf,c.trans h.blk,h.mp.same d,h.few⟩
theorem VR.same{w e:World}{a:AB}(h:VR w a L)(c:e.heap[a.kb]? =w.heap[a.kb]?)(d:e.heap[a.nb]? =w.heap[a.nb]?)(f:e.heap[a.cb]? =w.heap[a.cb]?)(g:e.heap[a.mb]? =w.heap[a.mb]?):VR e a L:=by refine⟨c.trans h.mrk,d.trans h.nf,f.trans h.blk, ?_⟩;obtain⟨D,⟨b,x,i,j⟩,k⟩:=h.mp;exact⟨D,⟨b,x,g.trans i,j⟩,k⟩
structure Dc where
 db:Nat
 mb:Nat
 any:Option AB
 own:Option AB
def ownV:Value:= .func (.func 229) #[] #[]
def Dc.anyV(c:Dc):Value:=match c.any with
 |none=>ownV
 |some a=>Jo a
def Dc.ownV(c:Dc):Value:=match c.own with
 |none=> .nilFunc
 |some a=>Ui a
def oB(c:Dc)(h:Value)(n:Nat):Obj:= .cells #[c.anyV,c.ownV,h, .int .i64 (n:Int), .map (some c.mb)] 298 (0,0)
structure DR(c:Dc)(bs:Nat)(s:Ds)(w:World):Prop where
 blk:∃sv,w.heap[c.db]? =some (oB c sv s.out.length)/\w.ownsRow bs 306 3 sv s.steps.length (nG s.steps)
 run:uH s.steps []=s.out
 ok:Jp s.steps []
 short:s.out.length<=100000/\s.steps.length<=100000
 st:GM kI JU 3 w c.mb s.stands
 an:∀a,c.any=some a->VR w a s.L/\bs<=a.mb/\a.mb≠c.mb
 ow:∀a,c.own=some a->XJ w a s.O/\a.mb≠c.mb
 ap:∀a b,c.any=some a->c.own=some b->a.mb≠b.mb
 lo:bs<=c.db/\bs<=c.mb
def Zv(c:Dc)(h:Nat)(k:Nat):Prop:=h<=k\/∃a,c.own=some a/\k=a.mb
theorem DR.put{c:Dc}{u:Nat}{s:Ds}{w z j:World}{L y:Value}{x:aA}{f t:Nat}{Y:Ds}(h:DR c u s w)(E:qE x f t s=some Y)(v:w.heap[c.db]? =some (oB c L s.out.length))
  (g:w.grownBy z L.ownBlock) (V:z.ownsRow u 306 3 y (s.steps.length+1) (nG s.steps++H8 (x,f,t))) (S:w.ownsRow u 306 3 L s.steps.length (nG s.steps))
  (h2:j.heap[c.db]? =some (oB c y (s.out.length+(x.length+(t-f))))) (P:∀k,k<z.heap.size->k≠c.db->j.heap[k]? =z.heap[k]?):DR c u Y j:=by
 unfold qE at E;split at E
 ·rename_i hc;obtain⟨Z,c2,c3,c4⟩:=hc;cases E;have U:(s.out++x++((s.out++x).drop f).take (t-f)).length=s.out.length+(x.length+(t-f)):=by simp;omega
  have W:∀k o,w.heap[k]? =some o->(∀A C,o≠ .cells A 306 C)->k≠c.db->j.heap[k]? =w.heap[k]? :=λk o b F G=>by
   have Q:=aT b;rw[P k (aZ Q g.size) G,g.block k Q (λl=> ?_)];rcases S.2 with⟨rfl,_⟩|⟨H,M,N,rfl,_,d,_⟩
   ·simp[Value.ownBlock]at l
   ·simp[Value.ownBlock]at l;rw[l,d]at b;exact F _ _ (aY b).symm
  have r:∀(k:Nat) (A:Array Value) (T:TypeId) (C:Nat×Nat),w.heap[k]? =some (Obj.cells A T C)->T≠306->T≠298->j.heap[k]? =w.heap[k]? :=λk A T C b F G=>
   W k _ b (λh0 h1 e=>by injection e;exact F (by assumption)) (λe=>by rw[e,v]at b;unfold oB at b;injection b with b;injection b with _ b _;exact G b.symm)
  have R:∀(k:Nat) (m:Array MapEntry) (p:Nat),w.heap[k]? =some (Obj.map m p)->j.heap[k]? =w.heap[k]? :=λk m p b=>
   W k _ b (λh0 h1 e=>by cases e) (λe=>by rw[e,v]at b;unfold oB at b;cases b)
  have O:∀(a:Nat),(∃m p,w.heap[a]? =some (Obj.map m p))->j.heap[a]? =w.heap[a]? :=λa ⟨m,p,e⟩=>R a m p e;refine⟨⟨y,by show j.heap[c.db]? =some (oB c y (s.out++x++((s.out++x).drop f).take (t-f)).length);rw[U];exact h2, ?_⟩, ?_, ?_,⟨by show(s.out++x++((s.out++x).drop f).take (t-f)).length<=_;rw[U];omega,by simp;omega⟩, ?_,λa I=> ?_,λa I=> ?_,h.ap,h.lo⟩
  ·show j.ownsRow u _ 3 y (s.steps++[(x,f,t)]).length (nG (s.steps++[(x,f,t)]));have b:nG (s.steps++[(x,f,t)])=nG s.steps++H8 (x,f,t):=by simp[nG]
   rw[b,bD];refine⟨V.1, ?_⟩;rcases V.2 with q|⟨H,M,N,K,X,d,q4⟩
   ·exact aQ q
   ·refine aM ⟨H,M,N,K,X, ?_,q4⟩;rw[P H (aT d) (λe=> ?_)]
    ·exact d
    ·have hd:z.heap[c.db]? =w.heap[c.db]? :=g.block c.db (aT v) (λl=>by
      rcases S.2 with⟨rfl,_⟩|⟨h6,h3,h5,rfl,_,n,_⟩
      ·simp[Value.ownBlock]at l
      ·simp[Value.ownBlock]at l;rw[<-l,v]at n;unfold oB at n;injection n with n;injection n with _ n _
       exact absurd n (by decide))
     rw[e,hd,v]at d;unfold oB at d;injection d with d;injection d with _ d _;exact absurd d (by decide)
  ·show uH (s.steps++[(x,f,t)]) []=_;rw[P7,h.run];rfl
  ·show Jp (s.steps++[(x,f,t)]) [];rw[Jq,h.run];exact⟨h.ok,Z,c2,trivial⟩
  ·exact h.st.same (O _ h.st.isMap)
  ·obtain⟨i,J,l2⟩:=h.an a I;obtain⟨D,⟨m,h4,K,X⟩,d⟩:=i.mp;exact⟨i.same (r _ _ _ _ i.mrk (by decide) (by decide)) (r _ _ _ _ i.nf (by decide) (by decide)) (r _ _ _ _ i.blk (by decide) (by decide)) (R _ _ _ K),J,l2⟩
  ·obtain⟨i,J⟩:=h.ow a I;exact⟨i.same (r _ _ _ _ i.mrk (by decide) (by decide)) (r _ _ _ _ i.nf (by decide) (by decide)) (r _ _ _ _ i.blk (by decide) (by decide)) (O _ i.mp.isMap),J⟩
 ·cases E
def Zd(c:Dc)(h:Nat)(a:Ds)(w:World)(e:Ending)(x:World):Prop:=e= .returned (.tuple #[])/\DR c h a x/\Gb (λk=>h<=k) w x
theorem vc:(prog.info? 306).map (λi=>(i.zero,i.size,i.bytes))=some (some (.agg #[.string (B []), .int .i64 0, .int .i64 0]),3,32):=by kernel_rfl
theorem k8{w:World}{c:Dc}{e:Value}{n:Nat}(h:w.heap[c.db]? =some (oB c e n)):w.cell? ⟨c.db,0,none⟩=some c.anyV/\w.cell? ⟨c.db,1,none⟩=some c.ownV/\w.cell? ⟨c.db,2,none⟩=some e/\w.cell? ⟨c.db,3,none⟩=some (.int .i64 (n:Int))/\w.cell? ⟨c.db,4,none⟩=some (.map (some c.mb))/\w.frozen? ⟨c.db,2,none⟩=false/\w.frozen? ⟨c.db,3,none⟩=false:=by simp[World.cell?,World.frozen?,h,oB]
theorem Bd(w:World)(n:Nat)(e:w.heap.size=n)(a b c:Value)(t:TypeId):∀(j:Nat) (u:Value),[a,b,c][j]? =some u->(w.alloc (.cells #[a,b,c] t)).cell? (Addr.add ⟨n,0,none⟩ j)=some u:=by
 subst e;intro j u h
 match j,h with
 |0,h=>simp at h;subst h;simp[go_sem]
 |1,h=>simp at h;subst h;simp[go_sem]
 |2,h=>simp at h;subst h;simp[go_sem]
 |j+3,h=>simp at h
theorem Be(x:aA)(f t:Nat):∀u,u∈H8 (x,f,t)->u.oneCell'=true:=by intro u h;simp[H8]at h;rcases h with rfl|rfl|rfl<;>rfl
theorem Og{w:World}{k:Nat}{e a x:Obj}(h:w.heap[k]? =some x):((w.alloc e).alloc a).heap[k]? =some x:=by rw[bQ _ _ _ (by simp;have:=aT h;omega),bQ _ _ _ (aT h)];exact h
theorem Qa{w:World}{h:Value}{x:Nat}{c:aH}{t:TypeId}{k:Nat}(a:w.ownsRow x t k h m c):some w.heap.size≠h.ownBlock:=λe=>by
 rcases a.2 with⟨rfl,_⟩|⟨g,d,f,rfl,_,b,_⟩
 ·simp[Value.ownBlock]at e
 ·simp[Value.ownBlock]at e;have:=aT b;omega
theorem Uj{w:World}{e:Obj}{h:Array Value}{t:TypeId}:((w.alloc (.cells h t)).alloc e).heap[w.heap.size]? =some (.cells h t (0,0)):=by rw[bQ _ _ _ (by simp)];exact dC _ _ _ rfl
theorem AH{w:World}{n:Nat}{x y z:Value}{t:TypeId}(h:w.heap[n]? =some (.cells #[x,y,z] t (0,0))):w.cell? ⟨n,0,none⟩=some x/\w.cell? ⟨n,1,none⟩=some y/\w.cell? ⟨n,2,none⟩=some z:=by simp[World.cell?,h]
theorem Bf{w:World}{c:Dc}{a:Value}{n b:Nat}{f:aH}(h:w.heap[c.db]? =some (oB c a n))(d:w.ownsRow b 306 3 a m f):some c.db≠a.ownBlock:=λe=>by
 rcases d.2 with⟨rfl,_⟩|⟨j,g,i,rfl,_,x,_⟩
 ·simp[Value.ownBlock]at e
 ·simp[Value.ownBlock]at e;rw[<-e,h]at x;unfold oB at x;injection x with x;injection x with _ x _;exact absurd x (by decide)
theorem Jr{c:Dc}{i:Nat}{s u:Ds}{w W a:World}{x:aA}{f t:Nat}{l:Value}{q p:Nat}(h:DR c i s w)(n:qE x f t s=some u)(z:w.heap[c.db]? =some (oB c l s.out.length))(r:w.ownsRow i 306 3 l s.steps.length (nG s.steps))
  (d:w.grownBy W none) (A:a.ownsRow i 306 3 (.slice (some ⟨q,0,none⟩) (s.steps.length+1) p) (s.steps.length+1) (nG s.steps++H8 (x,f,t))) (j:W.grownBy a l.ownBlock) (v:a.heap[c.db]? =some (oB c l s.out.length)):
  Zd c i u w (.returned (.tuple #[])) ((a.setCell ⟨c.db,2,none⟩ (.slice (some ⟨q,0,none⟩) (s.steps.length+1) p)).setCell ⟨c.db,3,none⟩ (.int .i64 ((s.out.length:Int)+((x.length:Int)+(t:Int)-(f:Int))))).drew:=by
 have g:w.grownBy a l.ownBlock:=⟨j.os.trans d.os,j.tape.trans d.tape,j.output.trans d.output,bV d.size j.size,λk o m=>by rw[j.block k (aZ o d.size) m,d.block k o (by simp)]⟩
 have G:f<=t:=by
  unfold qE at n;split at n
  ·omega
  ·cases n
 refine⟨rfl,h.put n z g A r ?_ (λk o m=> ?_), ?_⟩
 ·show((a.setCell _ _).setCell _ _).heap[c.db]? =_;have e:((s.out.length:Int)+((x.length:Int)+(t:Int)-(f:Int)))=((s.out.length+(x.length+(t-f)):Nat):Int):=by omega
  rw[e];simp[World.setCell,dN,v,oB]
 ·show((a.setCell _ _).setCell _ _).heap[k]? =_;rw[bO _ _ _ _ m,bO _ _ _ _ m]
 ·have y:Gb (λk=>i<=k) w a:=Gb.of g (λb e=>aQ (by
   rcases r.2 with⟨rfl,_⟩|⟨F,D,E,rfl,C,_⟩
   ·cases e
   ·simp[Value.ownBlock]at e
    rw[<-e];exact C))
  exact((y.set (aQ h.lo.1) 2 _).set (aQ h.lo.1) 3 _).drew
theorem nz{c:Dc}{b:Nat}{s m:Ds}{w:World}{x:aA}{f t:Nat}(h:DR c b s w)(a:qE x f t s=some m)(I:b<=w.heap.size):
  Calls prog 186 #[CP c.db,Bb (x,f,t)] w (Zd c b m w):=by
 obtain⟨A,e,g⟩:=h.blk;obtain⟨_,_,C,D,_,F,G⟩:=k8 e;have J:=aT e;have Q:=aS (aL h (aL a (aL e (aL g (Bf e g)))))
 have r:s.out.length<=100000/\s.steps.length<100000/\f<=t/\t<=100000/\x.length<=100000:=by
  unfold qE at a;split at a
  ·omega
  ·cases a
 obtain⟨K,L,M,N,O⟩:=r;obtain⟨z,n,u,v,y⟩:=oR vc;clear h a e;unfold CP Bb;go_enter func186,ntmps186;go_wp2_with fail;have NR:=aS (Qa g);have P:(B x).size=x.length:=dY x;have o:s.steps.length+1<=maxLen:=by unfold maxLen;omega
 have p:(s.steps.length+1)*32<=140737488355328:=by omega
 have q:(w.alloc (.cells #[.string (B x), .int .i64 (f:Int), .int .i64 (t:Int)] 306)).heap.size=w.heap.size+1:=by simp
 go_region_law (refine yw _ rfl (.tmp 9) (.tmp 11) 296 rfl b 306 z (.agg #[.string (B []), .int .i64 0, .int .i64 0]) 3 32 underlying296 n u v y rfl (by decide) A s.steps.length (nG s.steps) rfl (((g.alloc _).alloc _)) ⟨w.heap.size+1,0,none⟩ 1 1 (H8 (x,f,t)) rfl rfl (Bd _ _ q _ _ _ _) (Be x f t) (by decide) o p (by simp;omega) (w.heap.size+2) (by simp) ?_;intro H E R l d k _;have j:=(d.block c.db (by simp;omega) Q.2.2.2.2).trans (Og Q.2.2.1);obtain⟨_,_,S,T,_,U,V⟩:=k8 j;obtain⟨W,X,Y⟩:=AH ((d.block w.heap.size (by simp;omega) NR.out).trans Uj);have i:=aS (aL l (aL d (aL k j)));clear l d k j)
 all_goals
  go_wp2_with fail
  go_region
  go_wp2
  first|go_end0|skip
  exact Jr Q.1 Q.2.1 Q.2.2.1 Q.2.2.2.1 (cZ ((aO _ _ none).trans (aO _ _ none))) i.1 i.2.1 i.2.2.2
def MO(O:aC):List (Nat×Nat):=O.zip (List.range O.length)
theorem vd(O:aC)(c:Nat):MO (O++[c])=MO O++[(c,O.length)]:=by unfold MO;rw[bD];show(O++[c]).zip (List.range (O.length+1))=_;rw[mH,List.zip_append (by simp)];rfl
theorem ve(O:aC):(MO O).map (·.1)=O:=by unfold MO;rw[List.map_fst_zip];simp
theorem TK{c:Nat}:∀(O:aC) (n:Nat),c∈O->dR (O.zip (List.range' n O.length)) c=some (n+O.idxOf c)
 |[],_,h=>by cases h
 |a::O,n,h=>by
  rw[bU,List.range'_succ,List.zip_cons_cons,dR,oI];by_cases e:a=c
  ·simp[e]
  ·rw[aN e,TK O (n+1) (by rcases bH.1 h with h|h;exact absurd h.symm e;exact h)];rw[ua e];show some (n+1+O.idxOf c)=some (n+(O.idxOf c+1));congr 1;omega
theorem Js{O:aC}{c:Nat}(h:c∈O):dR (MO O) c=some (O.idxOf c):=by have:=TK O 0 h;rw[<-List.range_eq_range']at this;simpa[MO]using this
theorem Bg{O:aC}{c:Nat}(h:c∉O):dR (MO O) c=none:=rK.2 (by rw[ve];exact h)
theorem XJ.ne{w:World}{a:AB}{O:aC}(h:XJ w a O):a.cb≠a.mb/\a.kb≠a.mb/\a.nb≠a.mb:=⟨h.mp.apart h.blk,h.mp.apart h.mrk,h.mp.apart h.nf⟩
theorem XJ.over{w b:World}{a:AB}{O e:aC}(h:XJ w a O)(x:w.grownBy b (some a.mb))(f:GM kI Bc 3 b a.mb (MO e))(d:∀c,c∈e->c<=9223372036854775806):XJ b a e:=
 ⟨by rw[x.block _ (aT h.mrk) (by simp;exact h.ne.2.1)];exact h.mrk,by rw[x.block _ (aT h.nf) (by simp;exact h.ne.2.2)];exact h.nf,by rw[x.block _ (aT h.blk) (by simp;exact h.ne.1)];exact h.blk,f,d⟩
theorem Uk(w:World)(a:AB)(c:Nat)(O:aC)(i:c<=9223372036854775806)(h:XJ w a O)(z:O.length<=200):
  Calls prog 267 #[.int .i64 ((c:Int)+1), .pointer (some ⟨a.cb,0,none⟩)] w λe r=>e= .returned (.int .i64 ((jO O c).idxOf c:Nat))/\XJ r a (jO O c)/\w.grownBy r (some a.mb):=by
 have y:w.cell? ⟨a.cb,0,none⟩=some (.map (some a.mb)):=by simp[World.cell?,h.blk]
 have H:=aS h;have f:=h.mp.look wC underlying424 (N7 w) (wD i);by_cases d:c∈O
 ·have e:jO O c=O:=by unfold jO;rw[aR d]
  rw[e];have b:=Js d;unfold MO at b;rw[b]at f;obtain⟨q,m⟩:∃q,q=O.idxOf c:=⟨_,rfl⟩;rw[<-m]at f⊢;simp only[jI,qR,Bc,zM]at f;clear h d e m b;go_enter func267,ntmps267;go_wp2;go_ret;exact⟨rfl,H.out,bC _ _⟩
 ·have e:jO O c=O++[c]:=by unfold jO;rw[aN d]
  rw[e];have b:=Bg d;have j:=b;unfold MO at b;rw[b]at f;have s:=λu=>GM.len h.mp underlying424 u;obtain⟨v,t,o,k⟩:=GM.store h.mp wC underlying424 OY OZ (by simp;omega) O.length (wD i);have l:(O++[c]).idxOf c=O.length:=by rw[mJ,aN d];simp
  rw[l]
  have p:GM kI Bc 3 v a.mb (MO (O++[c])):=by rw[vd,<-oP _ j];exact o
  have Q:=aS (aL p (aL k (show∀x,x∈O++[c]->x<=9223372036854775806 fromλx g=>by
   rcases cH.1 g with g|g
   ·exact h.few x g
   ·rw[bF.1 g];exact i)))
  simp only[oJ,vR,zO]at f;have n:(O.zip (List.range O.length)).length=O.length:=by simp
  rw[n]at s;unfold Bc at t;clear h d e l o k b j p n;go_enter func267,ntmps267;go_wp2;go_ret;exact⟨rfl,H.over Q.2.1 Q.1 Q.2.2,Q.2.1⟩
theorem Qb{e:Type}[DecidableEq e]{L:List e}{x:e}(w:L.length<=200):(jO L x).idxOf x<=200:=by
 unfold jO;split
 ·rename_i h;have:=iG h;omega
 ·rename_i h;rw[mJ,aN h];simp;omega
theorem Ul(w:World)(a:AB)(c:Nat)(O:aC)(n:c<=9223372036854775806)(h:XJ w a O)(j:O.length<=200):
  Calls prog 264 #[.int .i64 ((c:Int)+1), .pointer (some ⟨a.kb,0,none⟩), .pointer (some ⟨a.nb,0,none⟩)] w λe p=>e= .returned (.string (B ([95]++fQ ((jO O c).idxOf c))))/\XJ p a (jO O c)/\w.grownBy p (some a.mb):=by
 have s:w.cell? ⟨a.kb,0,none⟩=some (.string (B [95])):=by simp[World.cell?,h.mrk]
 have t:w.cell? ⟨a.nb,0,none⟩=some (.func (.func 267) #[] #[.pointer (some ⟨a.cb,0,none⟩)]):=by simp[World.cell?,h.nf,Uh]
 have k:(jO O c).idxOf c<=200:=Qb j;have i:=aS (Uk w.drew a c O n ⟨h.mrk,h.nf,h.blk,h.mp,h.few⟩ j);obtain⟨g,m⟩:∃g,g=jO O c:=⟨_,rfl⟩;rw[<-m]at i k⊢;obtain⟨d,o⟩:∃d,d=g.idxOf c:=⟨_,rfl⟩;rw[<-o]at i k⊢;have q:=aS (λw=>Oe w d (by omega))
 have v:(B (fQ d)).size<=1000:=by rw[dY];unfold fQ;split<;>simp
 have y:(B ([95]:aA)).size=1:=rfl;have W:=aS (show∀f,XJ f a g->f.cell? ⟨a.kb,0,none⟩=some (.string (B [95]))fromλf b=>by simp[World.cell?,b.mrk]);clear h j m o k n;go_enter func264,ntmps264;go_wp2_with fail
 go_region_with (first
  |(go_at_call 267;refine i.mono ?_;rintro e f ⟨rfl,b,l⟩;have u:=W.out f b;have r:=aS b;have x:=aS l;clear b l)
  |(go_at_call 147;refine(q.out _).mono ?_;rintro e z ⟨rfl,rfl⟩))
 all_goals
  go_wp2;go_ret;refine⟨?_,r.out,⟨x.os,x.tape,x.output,x.size,x.block⟩⟩;show Ending.returned (.string (B [95]++B (fQ d)))=_;rw[dQ];rfl
def gp(o:Obj):Prop:=∀h e,o≠ .cells h 354 e
theorem gq(w:Array MapEntry)(h:Nat):gp (.map w h):=λx a e=>by cases e
theorem yF{w:Array Value}{t:TypeId}{x:Nat×Nat}(h:t≠354):gp (.cells w t x):=λa b e=>by injection e;exact h (by assumption)
theorem DR.same{c:Dc}{bs:Nat}{s:Ds}{w w':World}(h:DR c bs s w)(d:∀(k:Nat) (o:Obj),w.heap[k]? =some o->gp o->w'.heap[k]? =some o):DR c bs s w':=by
 obtain⟨H,C,r⟩:=h.blk;have j:∀(k:Nat),(∃b f,w.heap[k]? =some (Obj.map b f))->w'.heap[k]? =w.heap[k]? :=λk ⟨b,f,e⟩=>(d k _ e (gq b f)).trans e.symm;have x:∀(k:Nat) (n:Array Value) (t:TypeId) (p:Nat×Nat),w.heap[k]? =some (Obj.cells n t p)->t≠354->w'.heap[k]? =w.heap[k]? :=λk n t p e E=>(d k _ e (yF E)).trans e.symm;refine⟨⟨H,d _ _ C (yF (by decide)),r.1, ?_⟩,h.run,h.ok,h.short,h.st.same (j _ h.st.isMap),λa g=> ?_,λa g=> ?_,h.ap,h.lo⟩
 ·rcases r.2 with q|⟨A,y,z,m,u,v,G⟩
  ·exact aQ q
  ·exact aM ⟨A,y,z,m,u,d _ _ v (yF (by decide)),G⟩
 ·obtain⟨i,l,F⟩:=h.an a g;obtain⟨D,⟨b,I,m,u⟩,v⟩:=i.mp;exact⟨i.same (x _ _ _ _ i.mrk (by decide)) (x _ _ _ _ i.nf (by decide)) (x _ _ _ _ i.blk (by decide)) (j _ ⟨_,_,m⟩),l,F⟩
 ·obtain⟨i,l⟩:=h.ow a g;exact⟨i.same (x _ _ _ _ i.mrk (by decide)) (x _ _ _ _ i.nf (by decide)) (x _ _ _ _ i.blk (by decide)) (j _ i.mp.isMap),l⟩
structure DW(H:aB)(ca:aC)(σ:bM)(d:aI)(c:Dc)(bs:Nat)(s:Ds)(w:World):Prop where
 cs:fY H ca σ d w
 dr:DR c bs s w
 lowa:∀a,a∈ca->a<bs
 lowH:∀k o,H k=some o->k<bs
 off:∀a,c.own=some a->H a.mb=none/\a.mb∉ca
 big:bs<=w.heap.size
def DG(ca:aC)(c:Dc)(bs:Nat)(k:Nat):Prop:=k∈ca\/Zv c bs k
section
variable {H:Nat->Option Obj} {ca:List Nat} {σ:bM} {d:Nat->Nat} {c:Dc} {bs:Nat} {s s':Ds} {w w':World}
theorem DW.put(h:DW H ca σ d c bs s w)(b:DR c bs s' w')(g:Gb (λk=>bs<=k) w w'):DW H ca σ d c bs s' w':=
 ⟨h.cs.gb g (λa x=>by have:=h.lowa a x;omega) (λk o e=>by have:=h.lowH k o e;omega),b,h.lowa,h.lowH,h.off,bV h.big g.size⟩
theorem DW.cells(h:DW H ca σ d c bs s w)(a:fY H ca σ d w')(g:Gb (dT ca) w w'):DW H ca σ d c bs s w':=by refine⟨a,h.dr.same λk o e j=> ?_,h.lowa,h.lowH,h.off,bV h.big g.size⟩;refine g.at e (λf=> ?_);obtain⟨i,b⟩:=wQ f;obtain⟨v,x,_⟩:=h.cs.blk i k b;rw[e]at x;exact j _ _ (aY x)
theorem DG.put(g:Gb (λk=>bs<=k) w w'):Gb (DG ca c bs) w w':=g.mono λ_ e=>aM (aQ e)
theorem DG.cells(g:Gb (dT ca) w w'):Gb (DG ca c bs) w w':=g.mono λ_ e=>aQ e
end
def XK(H:aB)(ca:aC)(σ:bM)(d:aI)(c:Dc)(bs:Nat)(s':Ds)(w:World)(e:Ending)(w':World):Prop:=
 e= .returned (.tuple #[])/\DW H ca σ d c bs s' w'/\Gb (DG ca c bs) w w'
theorem mM{H:aB}{ca:aC}{σ:bM}{d:aI}{c:Dc}{bs:Nat}{s s':Ds}{w:World}{x:aA}(h:DW H ca σ d c bs s w)(g:qE x 0 0 s=some s'):
  Calls prog 224 #[CP c.db, .string (B x)] w (XK H ca σ d c bs s' w):=by
 have b:=aS (nz h.dr g h.big);have j:=aS h;clear h g;unfold CP at b⊢;go_enter func224,ntmps224;go_wp2_with (go_at_call 186;refine b.mono ?_;rintro e k ⟨rfl,i,f⟩;have a:=aS (aL i f);clear i f)
 first|go_end0|skip
 exact⟨rfl,j.put a.1 a.2,DG.put a.2⟩
def ER(H:aB)(ca:aC)(v:Value)(t:Et):Prop:=∃m,fP 0 H ca m v t
theorem Oh{H:aB}{ca:aC}{σ:bM}{d:aI}{t:Et}{w:World}(h:ER H ca v t)(a:fY H ca σ d w):∃x m,fP 0 H ca (m+2) x (dW σ t)/\(t.kind≠cM->x=v)/\Calls prog 223 #[v] w (ny H ca σ d x w):=by obtain⟨m,h⟩:=h;obtain⟨x,b,c,f⟩:=Jn (m:=m) (h.le (by omega)) a;exact⟨x,m,b.ext (by split<;>omega) (λ_ _ e=>e) (dD _) _ _ _,c,f⟩
theorem uI{x:aA}{o:Option Ds}{s':Ds}(h:jV x o=some s'):∃e,o=some e/\qE x 0 0 e=some s':=by
 cases o with
 |none=>cases h
 |some e=>exact⟨e,rfl,h⟩
theorem xI{A:Et->Ds->Option Ds}{t:Et}{o:Option Ds}{s':Ds}(h:wE A t o=some s'):∃e,o=some e/\A t e=some s':=by
 cases o with
 |none=>cases h
 |some e=>exact⟨e,rfl,h⟩
def Md(md:Nat)(c:Dc):Prop:=(md=0↔c.any=none)/\(md=2->c.own.isSome=true)
section
variable (H:Nat->Option Obj) (ca:List Nat) (σ:bM) (d:Nat->Nat) (c:Dc) (bs:Nat) (md:Nat)
def gz(f:Nat):Prop:=∀v t s s' w,ER H ca v t->fS σ md f t s=some s'->DW H ca σ d c bs s w->Calls prog 144 #[CP c.db,v] w (XK H ca σ d c bs s' w)
def Um(f:Nat):Prop:=∀v t s s' w,ER H ca v t->E8 (fS σ md f) σ md t s=some s'->DW H ca σ d c bs s w->Calls prog 184 #[CP c.db,v] w (XK H ca σ d c bs s' w)
def Qc(f:Nat):Prop:=∀v t s s' w,ER H ca v t->LD (fS σ md f) σ t (some s)=some s'->DW H ca σ d c bs s w->Calls prog 225 #[CP c.db,v] w (XK H ca σ d c bs s' w)
end
theorem DR.anyL{c:Dc}{bs:Nat}{s:Ds}{w w':World}{a:AB}(h:DR c bs s w)(m:c.any=some a)(i:VR w' a L)(g:w.grownBy w' (some a.mb)):DR c bs ⟨s.steps,s.out,s.stands,L,s.O⟩ w':=by
 obtain⟨Q,z,A⟩:=h.blk;obtain⟨K,M,C⟩:=h.an a m;have f:∀(k:Nat) (o:Obj),w.heap[k]? =some o->k≠a.mb->w'.heap[k]? =some o:=λk o e n=>(g.block k (aT e) (by simpa using n)).trans e
 have d:∀(k:Nat) (u:Array Value) (t:TypeId) (y:Nat×Nat),w.heap[k]? =some (Obj.cells u t y)->k≠a.mb:=λk u t y e I=>by obtain⟨D,⟨v,R,p,E⟩,r⟩:=K.mp;rw[I,p]at e;cases e
 refine⟨⟨Q,f _ _ z (d _ _ _ _ z),A.1, ?_⟩,h.run,h.ok,h.short, ?_,λb x=> ?_,λb x=> ?_,h.ap,h.lo⟩
 ·rcases A.2 with q|⟨J,F,H,p,E,r,P⟩
  ·exact aQ q
  ·exact aM ⟨J,F,H,p,E,f _ _ r (d _ _ _ _ r),P⟩
 ·obtain⟨v,G,e⟩:=h.st.isMap;exact h.st.same ((f _ _ e (kU C)).trans e.symm)
 ·rw[m]at x;cases x;exact⟨i,M,C⟩
 ·obtain⟨j,N⟩:=h.ow b x;obtain⟨v,G,e⟩:=j.mp.isMap;have l:∀(k:Nat) (o:Obj),w.heap[k]? =some o->k≠a.mb->w'.heap[k]? =w.heap[k]? :=λk o e n=>(f k o e n).trans e.symm;exact⟨j.same (l _ _ j.mrk (d _ _ _ _ j.mrk)) (l _ _ j.nf (d _ _ _ _ j.nf)) (l _ _ j.blk (d _ _ _ _ j.blk)) (l _ _ e (kU (h.ap a b m x))),N⟩
theorem DR.ownL{c:Dc}{bs:Nat}{s:Ds}{w w':World}{a:AB}{O:aC}(h:DR c bs s w)(m:c.own=some a)(i:XJ w' a O)(g:w.grownBy w' (some a.mb)):DR c bs ⟨s.steps,s.out,s.stands,s.L,O⟩ w':=by
 obtain⟨N,y,z⟩:=h.blk;obtain⟨I,A⟩:=h.ow a m;have f:∀(k:Nat) (o:Obj),w.heap[k]? =some o->k≠a.mb->w'.heap[k]? =some o:=λk o e n=>(g.block k (aT e) (by simpa using n)).trans e;have d:∀(k:Nat) (u:Array Value) (t:TypeId) (v:Nat×Nat),w.heap[k]? =some (Obj.cells u t v)->k≠a.mb:=λk u t v e=>I.mp.apart e;refine⟨⟨N,f _ _ y (d _ _ _ _ y),z.1, ?_⟩,h.run,h.ok,h.short, ?_,λb x=> ?_,λb x=> ?_,h.ap,h.lo⟩
 ·rcases z.2 with q|⟨H,E,F,p,C,r,M⟩
  ·exact aQ q
  ·exact aM ⟨H,E,F,p,C,f _ _ r (d _ _ _ _ r),M⟩
 ·obtain⟨G,P,e⟩:=h.st.isMap;exact h.st.same ((f _ _ e (kU A)).trans e.symm)
 ·obtain⟨j,J,K⟩:=h.an b x;obtain⟨D,⟨G,Q,p,C⟩,r⟩:=j.mp;have l:∀(k:Nat) (o:Obj),w.heap[k]? =some o->k≠a.mb->w'.heap[k]? =w.heap[k]? :=λk o e n=>(f k o e n).trans e.symm;exact⟨j.same (l _ _ j.mrk (d _ _ _ _ j.mrk)) (l _ _ j.nf (d _ _ _ _ j.nf)) (l _ _ j.blk (d _ _ _ _ j.blk)) (l _ _ p (h.ap b a x m)),J,K⟩
 ·rw[m]at x;cases x;exact⟨i,A⟩
section
variable {H:Nat->Option Obj} {ca:List Nat} {σ:bM} {d:Nat->Nat} {c:Dc} {bs:Nat} {s s':Ds} {w w':World}
theorem DW.anyL{a:AB}(h:DW H ca σ d c bs s w)(f:c.any=some a)(i:VR w' a L)(g:w.grownBy w' (some a.mb)):DW H ca σ d c bs ⟨s.steps,s.out,s.stands,L,s.O⟩ w'/\Gb (DG ca c bs) w w':=by obtain⟨_,j,_⟩:=h.dr.an a f;have x:Gb (λk=>bs<=k) w w':=Gb.of g (λb e=>by cases e;exact aQ j);exact⟨h.put (h.dr.anyL f i g) x,DG.put x⟩
theorem DW.ownL{a:AB}{O:aC}(h:DW H ca σ d c bs s w)(j:c.own=some a)(i:XJ w' a O)(g:w.grownBy w' (some a.mb)):DW H ca σ d c bs ⟨s.steps,s.out,s.stands,s.L,O⟩ w'/\Gb (DG ca c bs) w w':=by obtain⟨n,p⟩:=h.off a j;have f:Gb (λk=>k=a.mb) w w':=Gb.of g (λb e=>by cases e;exact aQ rfl);refine⟨⟨h.cs.gb f (λx m e=>p (e▸m)) (λk o e l=>by rw[l,n]at e;cases e),h.dr.ownL j i g,h.lowa,h.lowH,h.off,bV h.big f.size⟩,f.mono λk e=>aM (aM ⟨a,j,e⟩)⟩
end
theorem Jt(w:World)(t:aA):Calls prog 229 #[.string (B t)] w λe h=>e= .returned (.string (B t))/\h=w:=by go_enter func229,ntmps229;go_wp2;go_ret;exact⟨rfl,rfl⟩
def Wt(H:aB)(a:aC)(g:bM)(d:aI)(c:Dc)(h:Nat)(s:Ds)(n:aA)(j:Ds)(F:FuncId)(i:Array Value):Prop:=
 ∀w,DW H a g d c h s w->Calls prog F (#[.string (B n)]++i) w λe f=>∃x b,e= .returned (.string (B x))/\qE x 0 0 b=some j/\DW H a g d c h b f/\Gb (DG a c h) w f
theorem Qd{H:aB}{b:aC}{g:bM}{d:aI}{c:Dc}{a:Nat}{s x:Ds}(f:qE n 0 0 s=some x):Wt H b g d c a s n x 229 #[]:=λw h=>by refine(Jt w n).mono ?_;rintro e i ⟨rfl,rfl⟩;exact⟨n,s,rfl,f,h,Gb.refl _ _⟩
theorem Bh(L:aD)(n:aA):JS L n=jO L n:=by unfold JS jO;split<;>simp_all
theorem Ju{H:aB}{j:aC}{q:bM}{d:aI}{c:Dc}{f:Nat}{s b:Ds}{a:AB}(x:c.any=some a)(l:n.length<=300)(k:s.L.length<=200)
  (m:qE (fQ ((jO s.L n).idxOf n)) 0 0 ⟨s.steps,s.out,s.stands,jO s.L n,s.O⟩=some b):Wt H j q d c f s n b 146 #[.pointer (some ⟨a.kb,0,none⟩), .pointer (some ⟨a.nb,0,none⟩)]:=λw h=>by
 refine(Ug w a n s.L l (h.dr.an a x).1 k).mono ?_;rintro e r ⟨rfl,i,g⟩;rw[Bh]at i⊢;obtain⟨o,p⟩:=h.anyL x i g;exact⟨_,_,rfl,m,o,p⟩
theorem YM{H:aB}{a:aC}{u:bM}{d:aI}{c:Dc}{h:Nat}{s r:Ds}{w:World}{b:Nat}{x:aA}
  (n:Calls prog 223 #[v] w λe t=>e= .returned (.iface 346 (.pointer (some ⟨b,0,none⟩)))/\DW H a u d c h s t/\Gb (DG a c h) w t)
  (o:H b=some (.cells #[.string (B x)] 348 (0,0))) (p:qE x 0 0 s=some r):
  Calls prog 184 #[CP c.db,v] w (XK H a u d c h r w):=by
 have i:=aS n;have g:=aS (aL o p);have C:=kO b;clear n o p;unfold CP;go_enter func184,ntmps184;go_wp2_with fail;refine i.mono ?_;rintro e z ⟨rfl,f,l⟩;have A:z.cell? ⟨b,0,none⟩=some (.string (B x)):=by simp[World.cell?,f.cs.fz _ _ g.1]
 have j:=aS (mM f g.2);have y:=aS l;clear f l i;unfold CP at j;go_wp2_with (go_at_call 224;refine j.mono ?_;rintro e D ⟨rfl,q,m⟩;have k:=aS (aL q m);clear q m)
 first|go_end0|skip
 exact⟨rfl,k.1,y.tr k.2⟩
theorem Gb.drewL{R:Nat->Prop}{w e:World}(h:Gb R w.drew e):Gb R w e:=⟨h.os,h.tape,h.output,h.size,h.block⟩
theorem fY.drew{H:aB}{e:aC}{x:bM}{d:aI}{w:World}(h:fY H e x d w):fY H e x d w.drew:=⟨h.fz,h.len,h.lenc,h.nd,h.off,h.few,h.rr,h.blk⟩
theorem DR.drew{c:Dc}{x:Nat}{s:Ds}{w:World}(h:DR c x s w):DR c x s w.drew:=h.same λ_ _ e _=>e
theorem VS{H:aB}{f:aC}{j:bM}{d:aI}{c:Dc}{a:Nat}{s E:Ds}{w:World}{b:Nat}(C:c.any=none)
  (u:Calls prog 223 #[v] w λe F=>e= .returned (.iface 309 (.pointer (some ⟨b,0,none⟩)))/\DW H f j d c a s F/\Gb (DG f c a) w F)
  (y:H b=some (.cells #[.string (B n)] 313 (0,0))) (t:Wt H f j d c a s n E 229 #[]):
  Calls prog 184 #[CP c.db,v] w (XK H f j d c a E w):=by
 have l:=aS u;have k:=aS (aL y t);have N:=zR b;have O:=rC b;have I:=aS C;clear u y t C;unfold CP;go_enter func184,ntmps184;go_wp2_with fail;refine l.mono ?_;rintro e i ⟨rfl,h,p⟩;have L:i.cell? ⟨b,0,none⟩=some (.string (B n)):=by simp[World.cell?,h.cs.fz _ _ k.1]
 obtain⟨Q,A,_⟩:=h.dr.blk;have M:i.cell? ⟨c.db,0,none⟩=some (.func (.func 229) #[] #[]):=by rw[(k8 A).1];unfold Dc.anyV;rw[I.out];rfl
 have G:=aS (k.2 i.drew ⟨h.cs.drew,h.dr.drew,h.lowa,h.lowH,h.off,h.big⟩);have J:=aS (aL h p);clear h p l A;go_wp2_with fail
 go_region_with (first
  |(go_at_call 229;refine G.mono ?_;rintro e R ⟨x,P,rfl,z,g,q⟩;have m:=aS (mM g z);have K:=aS (aL g q);clear g q z;unfold CP at m)
  |(go_at_call 224;refine m.mono ?_;rintro e S ⟨rfl,D,r⟩;have o:=aS (aL D r);clear D r))
 all_goals
  go_wp2
  first|go_end0|skip
  exact⟨rfl,o.1,(J.2.tr (Gb.drewL K.2)).tr o.2⟩
theorem SN{H:aB}{g:aC}{k:bM}{d:aI}{c:Dc}{f:Nat}{s F:Ds}{w:World}{b:Nat}{a:AB}(D:c.any=some a)
  (y:Calls prog 223 #[v] w λe G=>e= .returned (.iface 309 (.pointer (some ⟨b,0,none⟩)))/\DW H g k d c f s G/\Gb (DG g c f) w G)
  (z:H b=some (.cells #[.string (B n)] 313 (0,0))) (u:Wt H g k d c f s n F 146 #[.pointer (some ⟨a.kb,0,none⟩), .pointer (some ⟨a.nb,0,none⟩)]):
  Calls prog 184 #[CP c.db,v] w (XK H g k d c f F w):=by
 have m:=aS y;have l:=aS (aL z u);have O:=zR b;have P:=rC b;have J:=aS D;clear y z u D;unfold CP;go_enter func184,ntmps184;go_wp2_with fail;refine m.mono ?_;rintro e j ⟨rfl,h,q⟩;have M:j.cell? ⟨b,0,none⟩=some (.string (B n)):=by simp[World.cell?,h.cs.fz _ _ l.1]
 obtain⟨R,C,_⟩:=h.dr.blk;have N:j.cell? ⟨c.db,0,none⟩=some (.func (.func 146) #[] #[.pointer (some ⟨a.kb,0,none⟩), .pointer (some ⟨a.nb,0,none⟩)]):=by rw[(k8 C).1];unfold Dc.anyV;rw[J.out];rfl
 have I:=aS (l.2 j.drew ⟨h.cs.drew,h.dr.drew,h.lowa,h.lowH,h.off,h.big⟩);have K:=aS (aL h q);clear h q m C;go_wp2_with fail
 go_region_with (first
  |(go_at_call 146;refine I.mono ?_;rintro e S ⟨x,Q,rfl,A,i,r⟩;have o:=aS (mM i A);have L:=aS (aL i r);clear i r A;unfold CP at o)
  |(go_at_call 224;refine o.mono ?_;rintro e T ⟨rfl,E,t⟩;have p:=aS (aL E t);clear E t))
 all_goals
  go_wp2
  first|go_end0|skip
  exact⟨rfl,p.1,(K.2.tr (Gb.drewL L.2)).tr p.2⟩
def Ze(H:aB)(b:aC)(c:bM)(d:aI)(h:aH)(w:World)(e:Ending)(a:World):Prop:=
 fY H b c d a/\Gb (dT b) w a/\((h=[]/\e= .returned (.slice none 0 0))\/∃x,e= .returned (.slice (some ⟨x,0,none⟩) h.length h.length)/\w.heap.size<=x/\a.heap[x]? =some (.cells h.toArray 156 (0,0)))
def KR(H:aB)(w:aC)(e:aH)(h:List Et):Prop:=e.length=h.length/\∀(i:Nat) (u:Value) (k:Et),e[i]? =some u->h[i]? =some k->ER H w u k
theorem KR.nil{H:aB}{e:aC}:KR H e [] []:=⟨rfl,λi u k h=>by simp at h⟩
theorem KR.one{H:aB}{a:aC}{u:Value}{k:Et}(h:ER H a u k):KR H a [u] [k]:=⟨rfl,λi x y e w=>by
 match i,e,w with
 |0,e,w=>simp at e w;subst e w;exact h
 |i+1,e,w=>simp at e⟩
theorem KR.two{H:aB}{a:aC}{u z:Value}{k l:Et}(h:ER H a u k)(b:ER H a z l):KR H a [u,z] [k,l]:=⟨rfl,λi x y e w=>by
 match i,e,w with
 |0,e,w=>simp at e w;subst e w;exact h
 |1,e,w=>simp at e w;subst e w;exact b
 |i+2,e,w=>simp at e⟩
@[reducible] def tG(h:TypeId)(e:FuncId):Prop:=∀(b:Nat) (w:World),(Go.method 567 h (.pointer (some ⟨b,0,none⟩)) "Below").run prog w= .ok (e, .pointer (some ⟨b,0,none⟩)) w
theorem Qe:tG 309 306:=λ_ _=>by kernel_rfl
theorem I0:tG 346 307:=λ_ _=>by kernel_rfl
theorem N8:tG 349 308:=λ_ _=>by kernel_rfl
theorem N9:tG 361 309:=λ_ _=>by kernel_rfl
theorem I7:tG 291 304:=λ_ _=>by kernel_rfl
theorem od:tG 265 201:=λ_ _=>by kernel_rfl
theorem Qf(b:Nat)(w:World):Calls prog 306 #[CP b] w λe h=>e= .returned (.slice none 0 0)/\h=w:=by unfold CP;go_enter func306,ntmps306;go_wp2;go_ret;exact⟨rfl,rfl⟩
theorem I9(b:Nat)(w:World):Calls prog 307 #[CP b] w λe h=>e= .returned (.slice none 0 0)/\h=w:=by unfold CP;go_enter func307,ntmps307;go_wp2;go_ret;exact⟨rfl,rfl⟩
theorem NC(b:Nat)(w:World)(a:TypeId)(x:Nat)(h:w.heap[b]? =some (.cells #[(.iface a (.pointer (some ⟨x,0,none⟩)))] 351 (0,0))):
  Calls prog 308 #[CP b] w λe c=>e= .returned (.slice (some ⟨w.heap.size,0,none⟩) 1 1)/\c=w.alloc (.cells #[(.iface a (.pointer (some ⟨x,0,none⟩)))] 156):=by
 have d:w.cell? ⟨b,0,none⟩=some (.iface a (.pointer (some ⟨x,0,none⟩))):=by simp[World.cell?,h]
 clear h;unfold CP;go_enter func308,ntmps308;go_wp2;go_ret;exact⟨rfl,rfl⟩
theorem ND(b:Nat)(w:World)(c d:TypeId)(x a:Nat)(h:w.heap[b]? =some (.cells #[(.iface c (.pointer (some ⟨x,0,none⟩))),(.iface d (.pointer (some ⟨a,0,none⟩)))] 384 (0,0))):
  Calls prog 309 #[CP b] w λe f=>e= .returned (.slice (some ⟨w.heap.size,0,none⟩) 2 2)/\f=(w.alloc (.cells #[(.iface c (.pointer (some ⟨x,0,none⟩))),(.iface d (.pointer (some ⟨a,0,none⟩)))] 156)).drew:=by
 have g:w.cell? ⟨b,0,none⟩=some (.iface c (.pointer (some ⟨x,0,none⟩))):=by simp[World.cell?,h]
 have i:w.cell? ⟨b,1,none⟩=some (.iface d (.pointer (some ⟨a,0,none⟩))):=by simp[World.cell?,h]
 clear h;unfold CP;go_enter func309,ntmps309;go_wp2_with fail
 (try go_region)
 go_wp2;go_ret;exact⟨rfl,rfl⟩
theorem IA(b:Nat)(w:World)(c d:TypeId)(x a:Nat)(h:w.heap[b]? =some (.cells #[(.iface c (.pointer (some ⟨x,0,none⟩))),(.iface d (.pointer (some ⟨a,0,none⟩)))] 293 (0,0))):
  Calls prog 304 #[CP b] w λe f=>e= .returned (.slice (some ⟨w.heap.size,0,none⟩) 2 2)/\f=(w.alloc (.cells #[(.iface c (.pointer (some ⟨x,0,none⟩))),(.iface d (.pointer (some ⟨a,0,none⟩)))] 156)).drew:=by
 have g:w.cell? ⟨b,0,none⟩=some (.iface c (.pointer (some ⟨x,0,none⟩))):=by simp[World.cell?,h]
 have i:w.cell? ⟨b,1,none⟩=some (.iface d (.pointer (some ⟨a,0,none⟩))):=by simp[World.cell?,h]
 clear h;unfold CP;go_enter func304,ntmps304;go_wp2_with fail
 (try go_region)
 go_wp2;go_ret;exact⟨rfl,rfl⟩
def oe(H:aB)(e:aC)(a:bM)(d:aI)(h:TypeId)(b:Nat)(F:FuncId)(x:aH)(w:World):Prop:=
 (∀w,(Go.method 567 h (.pointer (some ⟨b,0,none⟩)) "Below").run prog w= .ok (F, .pointer (some ⟨b,0,none⟩)) w)/\Calls prog F #[CP b] w (Ze H e a d x w)/\
 (F=306\/F=307\/F=308\/F=309\/F=304\/F=201)
def P8(H:aB)(h:aC)(e:bM)(d:aI)(x:TypeId)(b:Nat)(F:FuncId)(a:aH):Prop:=∀w,fY H h e d w->oe H h e d x b F a w
theorem E9{H:aB}{n:aC}(D:bM)(d:aI){I:Nat}{t:Et}(h:fP I H n (m+1) v t)(G:t.kind≠cM):
  ∃r b F C,v= .iface r (.pointer (some ⟨b,0,none⟩))/\r≠265/\C.length<=2/\KR H n C t.kids/\P8 H n D d r b F C/\(F=306\/F=307\/F=308\/F=309\/F=304):=by
 have al:∀(w:World) (E:Array Value),fY H n D d w->fY H n D d (w.alloc (.cells E 156)):=λw E x=>x.gb (R:=λ_=>False) ((Gb.refl _ _).alloc _) (λ_ _ e=>e) (λ_ _ _ e=>e);obtain⟨b,h⟩:=h;rcases h with⟨k,f,g,i⟩|⟨k,f,g,y,i,j⟩|⟨k,f,g,i⟩|⟨k,y,a,u,f,g,i,j⟩|⟨k,y,a,c,u,z,f,g,i,j,o⟩|⟨k,y,a,c,u,z,f,g,i,j,o⟩
 ·exact absurd k G
 ·refine⟨_,b,_,[],i,by decide,by simp,by rw[f];exact KR.nil,λw x=>⟨λw=>Qe b w,(Qf b w).mono ?_,aQ rfl⟩,aQ rfl⟩;rintro e q ⟨rfl,rfl⟩;exact⟨x,Gb.refl _ _,aQ ⟨rfl,rfl⟩⟩
 ·refine⟨_,b,_,[],g,by decide,by simp,by rw[f];exact KR.nil,λw x=>⟨λw=>I0 b w,(I9 b w).mono ?_,aM (aQ rfl)⟩,aM (aQ rfl)⟩;rintro e q ⟨rfl,rfl⟩;exact⟨x,Gb.refl _ _,aQ ⟨rfl,rfl⟩⟩
 ·obtain⟨p,l,_,rfl⟩:=j.val;refine⟨_,b,_,[_],g,by decide,by simp,by rw[f];exact KR.one ⟨m,j.ext (dG _) (λ_ _ e=>e) (dD _) _ _ _⟩,λw x=>⟨λw=>N8 b w,(NC b w p l (x.fz _ _ i)).mono ?_,aM (aM (aQ rfl))⟩,aM (aM (aQ rfl))⟩;rintro e q ⟨rfl,rfl⟩;exact⟨al _ _ x,(Gb.refl _ _).alloc _,aM ⟨_,rfl,aV _,dC _ _ _ rfl⟩⟩
 ·obtain⟨p,l,_,rfl⟩:=j.val;obtain⟨A,s,_,rfl⟩:=o.val;refine⟨_,b,_,[_,_],g,by decide,by simp,by rw[f];exact KR.two ⟨m,j.ext (dG _) (λ_ _ e=>e) (dD _) _ _ _⟩ ⟨m,o.ext (dG _) (λ_ _ e=>e) (dD _) _ _ _⟩,λw x=>⟨λw=>N9 b w,(ND b w p A l s (x.fz _ _ i)).mono ?_,aM (aM (aM (aQ rfl)))⟩,aM (aM (aM (aQ rfl)))⟩;rintro e q ⟨rfl,rfl⟩;exact⟨(al _ _ x).drew,((Gb.refl _ _).alloc _).drew,aM ⟨_,rfl,aV _,dC _ _ _ rfl⟩⟩
 ·obtain⟨p,l,_,rfl⟩:=j.val;obtain⟨A,s,_,rfl⟩:=o.val;refine⟨_,b,_,[_,_],g,by decide,by simp,by rw[f];exact KR.two ⟨m,j.ext (dG _) (λ_ _ e=>e) (dD _) _ _ _⟩ ⟨m,o.ext (dG _) (λ_ _ e=>e) (dD _) _ _ _⟩,λw x=>⟨λw=>I7 b w,(IA b w p A l s (x.fz _ _ i)).mono ?_,aM (aM (aM (aM (aQ rfl))))⟩,aM (aM (aM (aM rfl)))⟩;rintro e q ⟨rfl,rfl⟩;exact⟨(al _ _ x).drew,((Gb.refl _ _).alloc _).drew,aM ⟨_,rfl,aV _,dC _ _ _ rfl⟩⟩
end Go.Proofs.YtcdijppegfcoaaaGreatDoor
