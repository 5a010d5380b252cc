import Derived.Test.YtkfgnpcanadjhaaGreatDoorHSk13
set_option linter.all false
set_option maxRecDepth 100000
set_option maxHeartbeats 25600000
namespace Go.Proofs.YtkfgnpcanadjhaaGreatDoor
open Go.RowKit Go.Maps Go.WideMaps
abbrev bV(E:Bs):Value:= .pointer (some ⟨E.bb,0,none⟩)
def Txt(k:Int)(t:ByteArray):Prop:=(k≠25/\t.size<=19/\Cs t 90)\/(k=25/\(Sml t\/(Lng t/\t.size<=4000)))
theorem Txt.size{k:Int}{t:ByteArray}(a:Txt k t):t.size<=4000:=by
 rcases a with⟨_,a,_⟩|⟨_,a|⟨_,a⟩⟩
 ·omega
 ·have:=a.1;omega
 ·exact a
theorem iq{k:Int}(a:k≠25):Txt k ⟨#[]⟩:= .inl ⟨a,by decide,agt.le (by decide)⟩
theorem aa9{k:Int}{s:ByteArray}(c:k≠25)(a:Shr s):Txt k s:=by
 by_cases b:s.size<=19
 ·exact .inl ⟨c,b,a.cs.le (by decide)⟩
 ·have:=a.sz;omega
structure Lt (N:Nd):Prop where
 nm:N.nm.length<=3
 ks:N.ks.length<=64
 x:Txt N.k N.x
 s:∀s∈N.nm,Shr s
 int:rA N
def bgN(N:Nd):Nat:=if 19<N.x.size then 1 else 0
def EB(L:List Nd):Nat:=(L.map bgN).sum
theorem aba(L M:List Nd):EB (L++M)=EB L+EB M:=by unfold EB;simp
abbrev TO(t:TypeId):Prop:=t≠50/\t≠94/\t≠40
theorem toS:TO 9:=by decide
theorem toI:TO 3:=by decide
structure Rwx where
 t:TypeId
 v:Value
 xs:List Value
abbrev rS(v:Value)(l:List ByteArray):Rwx:=⟨9,v,l.map Value.string⟩
abbrev rI(v:Value)(l:List Int):Rwx:=⟨3,v,l.map (Value.int .i64)⟩
def bR(R:List Rwx):List Nat:=R.flatMap fun r=>r.v.ownBlock.toList
def bL(L:List Mb):List Nat:=L.flatMap fun y=>y.vn.ownBlock.toList++y.vk.ownBlock.toList
structure Bd (C:Cd) (T:Int) (E:Bs) (W:World) (c:Cr) (L:List Mb) (R:List Rwx):Prop where
 cu:Cu C E W c
 bb:E.base<=E.bb
 row:∃v,W.heap[E.bb]?=some (.cells #[cV E,v,.int .i64 (T-L.length)] 94 (0,0))/\W.ownsRow E.base 50 9 v L.length (im L)
 each:∀y∈L,W.ownsRow E.base 9 1 y.vn y.N.nm.length (y.N.nm.map Value.string)/\W.ownsRow E.base 3 1 y.vk y.N.ks.length (y.N.ks.map (Value.int .i64))
 rows:∀r∈R,TO r.t/\W.ownsRow E.base r.t 1 r.v r.xs.length r.xs
 sep:(bR R++bL L).Nodup
section
variable {C : Cd} {T : Int} {E : Bs} {W W' : World} {c c' : Cr} {L : List Mb} {R : List Rwx} {r : Rwx}
theorem Bd.lt(a:Bd C T E W c L R):E.cb<W.heap.size/\E.bb<W.heap.size/\E.base<=W.heap.size/\E.cb≠E.bb:=by
 obtain⟨f,d,_⟩:=a.row
 have b:=a.cu.cur
 refine⟨a.cu.lt,aw d,a.cu.lo.2,fun e=>?_⟩
 rw[e,d]at b
 simp only[fe,ia]at b
 exact absurd b.2.1 (by decide)
theorem Bd.below(a:Bd C T E W c L R)(b:Below W.heap.size W W'):Bd C T E W' c L R:=by
 obtain⟨h,f,g⟩:=a.row
 exact⟨a.cu.below b,a.bb,⟨h,(b.block _ a.lt.2.1).trans f,cF g b⟩,fun e d=>⟨cF (a.each e d).1 b,cF (a.each e d).2 b⟩,fun e d=>⟨(a.rows e d).1,cF (a.rows e d).2 b⟩,a.sep⟩
theorem Bd.ltR(f:Bd C T E W c L R):∀b∈bR R++bL L,b<W.heap.size:=by
 intro b hb
 rcases List.mem_append.1 hb with hb|hb
 ·obtain⟨d,a,e⟩:=List.mem_flatMap.1 hb
  exact((f.rows d a).2.lt b (Option.mem_toList.1 e)).2
 ·obtain⟨d,a,e⟩:=List.mem_flatMap.1 hb
  rcases List.mem_append.1 e with e|e
  ·exact((f.each d a).1.lt b (Option.mem_toList.1 e)).2
  ·exact((f.each d a).2.lt b (Option.mem_toList.1 e)).2
theorem Bd.went(a:Bd C T E W c L R)(g:W.grownBy W' (some E.cb))(p:Cu C E W' c'):Bd C T E W' c' L R:=by
 have h:=a.lt
 obtain⟨r,n,o⟩:=a.row
 have f:∀{e k i:Nat}{l:Value}{m:List Value},W.ownsRow E.base e k l i m->e≠40->W'.ownsRow E.base e k l i m:=fun j q=>j.kept g (.inr (ee j a.cu.cur (eA q)))
 exact⟨p,a.bb,⟨r,(g.block _ h.2.1 (fun e=>h.2.2.2 (bh e).symm)).trans n,f o (by decide)⟩,fun d b=>⟨f (a.each d b).1 (by decide),f (a.each d b).2 (by decide)⟩,fun d b=>⟨(a.rows d b).1,f (a.rows d b).2 (a.rows d b).1.2.2⟩,a.sep⟩
theorem Bd.hot{r':Rwx}(d:Bd C T E W c L (r::R))(n:W.grownBy W' r.v.ownBlock)(ht:TO r'.t)(J:W'.ownsRow E.base r'.t 1 r'.v r'.xs.length r'.xs)(G:∀b,r'.v.ownBlock=some b->r.v.ownBlock=some b\/W.heap.size<=b):Bd C T E W' c L (r'::R)/\Below E.base W W':=by
 have H:=d.lt
 obtain⟨v,F,x⟩:=d.row
 have j:=d.rows r da
 have p:TO r.t:=j.1
 have e:Below E.base W W':=(ag _ W).grown n H.2.2.1 (fun k g=>(j.2.lt k g).1)
 have y:=d.sep
 have u:bR (r::R)=r.v.ownBlock.toList++bR R:=rfl
 rw[u,cG,xc]at y
 obtain⟨am,ad,af⟩:=y
 have m:∀b∈bR R++bL L,r.v.ownBlock≠some b:=fun b e a=>af b (Option.mem_toList.2 a) b e rfl
 have l:∀{a size o:Nat}{h:Value}{xs:List Value},W.ownsRow E.base a size h o xs->(∀b,h.ownBlock=some b->r.v.ownBlock≠some b)->W'.ownsRow E.base a size h o xs:=fun {a size o h xs} K I=>by
  refine K.kept n ?_
  cases hu:h.ownBlock with
  |none=>exact .inl rfl
  |some b=>exact .inr (fun a=>I b hu a.symm)
 have z:∀{k:Nat}{s:Array Value}{t:TypeId}{w:Nat×Nat},W.heap[k]?=some (.cells s t w)->t≠r.t->W'.heap[k]?=some (.cells s t w):=fun g ht=>(n.block _ (aw g) (fun a=>ee j.2 g ht a.symm)).trans g
 refine⟨⟨⟨⟨d.cu.lo.1,ch d.cu.lo.2 e.size⟩,d.cu.code.below e,z d.cu.cur (eA p.2.2)⟩,d.bb,⟨v,z F (eA p.2.1),l x (fun b a A=>?_)⟩,fun f hz=>⟨l (d.each f hz).1 (fun b a=>m b (List.mem_append.2 (.inr (List.mem_flatMap.2 ⟨f,hz,List.mem_append.2 (.inl (Option.mem_toList.2 a))⟩)))),l (d.each f hz).2 (fun b a=>m b (List.mem_append.2 (.inr (List.mem_flatMap.2 ⟨f,hz,List.mem_append.2 (.inr (Option.mem_toList.2 a))⟩))))⟩,fun f hz=>?_,?_⟩,e⟩
 ·rcases x.2 with⟨q,_⟩|⟨B,ak,al,q,_,i,_⟩
  ·rw[q]at a;simp[Value.ownBlock]at a
  ·rw[q]at a
   obtain rfl:B=b:=by simpa [Value.ownBlock] using a
   exact ee j.2 i (eA p.1) A
 ·rcases List.mem_cons.1 hz with rfl|hz
  ·exact⟨ht,J⟩
  ·have:=d.rows f (ep _ hz)
   exact⟨this.1,l this.2 (fun b a=>m b (List.mem_append.2 (.inl (List.mem_flatMap.2 ⟨f,hz,Option.mem_toList.2 a⟩))))⟩
 ·show(r'.v.ownBlock.toList++bR R++bL L).Nodup
  rw[cG,xc]
  refine⟨?_,ad,fun b e c i a=>?_⟩
  ·cases r'.v.ownBlock<;>simp
  ·subst a
   rcases G b (Option.mem_toList.1 e) with q|q
   ·exact m b i q
   ·have:=d.ltR b (by rw[u,cG];exact List.mem_append.2 (.inr i))
    omega
theorem Bd.new(b:Bd C T E W c L R){t:TypeId}(ht:TO t)(cs:Array Value)(r':Rwx)(g:r'.t=t)(i:(W.alloc (.cells cs t)).ownsRow E.base t 1 r'.v r'.xs.length r'.xs)(d:r'.v.ownBlock=some W.heap.size):Bd C T E (W.alloc (.cells cs t)) c L (r'::R):=by
 have a:=b.below (dh W (.cells cs t))
 refine⟨a.cu,a.bb,a.row,a.each,fun j hz=>?_,?_⟩
 ·rcases List.mem_cons.1 hz with rfl|hz
  ·rw[g];exact⟨ht,i⟩
  ·exact a.rows j hz
 ·show(r'.v.ownBlock.toList++bR R++bL L).Nodup
  rw[cG,xc]
  refine⟨by rw[d];simp,b.sep,fun f e c h k=>?_⟩
  rw[d]at e
  have:f=W.heap.size:=by simpa using e
  have:=b.ltR c h
  omega
theorem Bd.newI(a:Bd C T E W c L R)(ks:List Int)(b:ks.length<=100):Bd C T E (W.alloc (.cells (ks.map (Value.int .i64)).toArray 3)) c L (rI (.slice (some ⟨W.heap.size,0,none⟩) ks.length ks.length) ks::R):=by
 refine a.new toI _ _ rfl ?_ rfl
 have:=wH (base:=E.base) (e:=3) (size:=1) W (ks.map (Value.int .i64)).toArray ks.length a.lt.2.2.1 (by unfold maxLen;omega) (by simp)
 simpa using this
theorem Bd.nil(a:Bd C T E W c L R){t:TypeId}(ht:TO t):Bd C T E W c L (⟨t,.slice none 0 0,[]⟩::R):=
 ⟨a.cu,a.bb,a.row,a.each,fun b hz=>by
  rcases List.mem_cons.1 hz with rfl|hz
  ·exact⟨ht,dy _ _ _ _⟩
  ·exact a.rows b hz,a.sep⟩
theorem Bd.drop(a:Bd C T E W c L (r::R)):Bd C T E W c L R:=by
 have b:=a.sep
 have d:bR (r::R)=r.v.ownBlock.toList++bR R:=rfl
 rw[d,cG,xc]at b
 exact⟨a.cu,a.bb,a.row,a.each,fun f e=>a.rows f (ep _ e),b.2.1⟩
theorem Bd.swap{a:Rwx}(b:Bd C T E W c L (r::a::R)):Bd C T E W c L (a::r::R):=by
 refine⟨b.cu,b.bb,b.row,b.each,fun g hz=>b.rows g ?_,?_⟩
 ·simp only[gi]at hz⊢;rcases hz with hz|hz|hz<;>simp[hz]
 ·have d:=b.sep
  have e:bR (r::a::R)=r.v.ownBlock.toList++(a.v.ownBlock.toList++bR R):=rfl
  have f:bR (a::r::R)=a.v.ownBlock.toList++(r.v.ownBlock.toList++bR R):=rfl
  rw[e]at d
  rw[f]
  refine List.Perm.nodup_iff ?_ |>.1 d
  rw[<-cG,<-cG (a.v.ownBlock.toList)]
  exact(List.perm_append_comm.append_right _).append_right _
theorem Bd.c0(d:Bd C T E W c L R):W.cell? ⟨E.bb,0,none⟩=some (cV E)/\W.cell? ⟨E.bb,2,none⟩=some (.int .i64 (T-L.length)):=by
 obtain⟨g,b,f⟩:=d.row
 have a:=fun e=>au W E.bb e _ _ _ b
 exact⟨a 0,a 2⟩
theorem Bd.form{t:TypeId}{v:Value}{xs:List Value}(b:Bd C T E W c L (⟨t,v,xs⟩::R)):∃a c,v= .slice a xs.length c:=bG (b.rows _ da).2
theorem Bd.less(a:Bd C T E W c L R):Bd C (T-1) E (W.setCell ⟨E.bb,2,none⟩ (.int .i64 (T-L.length-1))) c L R/\Below E.base W (W.setCell ⟨E.bb,2,none⟩ (.int .i64 (T-L.length-1))):=by
 have p:=a.lt
 obtain⟨q,h,n⟩:=a.row
 have g:Below E.base W (W.setCell ⟨E.bb,2,none⟩ (.int .i64 (T-L.length-1))):=(ag _ W).setCell a.bb _
 have e:∀{f k i:Nat}{l:Value}{m:List Value},W.ownsRow E.base f k l i m->f≠94->(W.setCell ⟨E.bb,2,none⟩ (.int .i64 (T-L.length-1))).ownsRow E.base f k l i m:=fun j o=>jA j (ee j h (eA o)) 2 _
 refine⟨⟨⟨⟨a.cu.lo.1,ch a.cu.lo.2 g.size⟩,a.cu.code.below g,(aK _ _ _ _ p.2.2.2).trans a.cu.cur⟩,a.bb,⟨q,?_,e n (by decide)⟩,fun d b=>⟨e (a.each d b).1 (by decide),e (a.each d b).2 (by decide)⟩,fun d b=>⟨(a.rows d b).1,e (a.rows d b).2 (a.rows d b).1.2.1⟩,a.sep⟩,g⟩
 rw[show T-1-(L.length:Int)=T-L.length-1 by omega]
 exact bI _ E.bb 2 _ _ _ h
theorem Bd.push{N:Nd}{vn vk:Value}(a:Bd C (T-1) E W c L (rS vn N.nm::rI vk N.ks::R)){v:Value}(j:W.heap[E.bb]?=some (.cells #[cV E,v,.int .i64 (T-L.length-1)] 94 (0,0))){b:World}{g r cap:Nat}(am:L.length+1=r)(z:b.ownsRow E.base 50 9 (.slice (some ⟨g,0,none⟩) r cap) r (im (L++[⟨N,vn,vk⟩])))(i:W.grownBy b v.ownBlock):
  Bd C T E (b.setCell ⟨E.bb,1,none⟩ (.slice (some ⟨g,0,none⟩) r cap)) c (L++[⟨N,vn,vk⟩]) R/\Below E.base W (b.setCell ⟨E.bb,1,none⟩ (.slice (some ⟨g,0,none⟩) r cap))/\b.heap[E.bb]?=some (.cells #[cV E,v,.int .i64 (T-L.length-1)] 94 (0,0)):=by
 subst am
 obtain⟨a1,t,u⟩:=a.row
 obtain rfl:a1=v:=by rw[t]at j;simp at j;exact j.1
 have w:=a.lt
 have m:∀{d:Nat}{q:Array Value}{p:TypeId}{s:Nat×Nat},W.heap[d]?=some (.cells q p s)->p≠50->b.heap[d]?=some (.cells q p s):=fun e an=>(i.block _ (aw e) (fun f=>ee u e an f.symm)).trans e
 have n:=m j (by decide)
 have a0:∀d,d≠E.bb->(b.setCell ⟨E.bb,1,none⟩ (.slice (some ⟨g,0,none⟩) (L.length+1) cap)).heap[d]?=b.heap[d]?:=fun d e=>aK _ _ _ _ e
 have h:∀{base f F y:Nat}{G:Value}{H:List Value},W.ownsRow base f F G y H->f≠50->f≠94->(b.setCell ⟨E.bb,1,none⟩ (.slice (some ⟨g,0,none⟩) (L.length+1) cap)).ownsRow base f F G y H:=fun B af ak=>by
  refine jA ?_ ?_ 1 _
  ·obtain⟨ar,o⟩:=B
   refine⟨ar,?_⟩
   rcases o with o|⟨g,cap,J,ao,i,al,av⟩
   ·exact .inl o
   ·exact .inr ⟨g,cap,J,ao,i,m al af,av⟩
  ·exact ee B t (eA ak)
 have l:Below E.base W (b.setCell ⟨E.bb,1,none⟩ (.slice (some ⟨g,0,none⟩) (L.length+1) cap)):=((ag _ W).grown i w.2.2.1 (fun d e=>(u.lt d e).1)).setCell a.bb _
 have on:=(a.rows _ da).2
 have A:=(a.rows _ (ep _ da)).2
 simp only[aI]at on A
 refine⟨⟨⟨⟨a.cu.lo.1,ch a.cu.lo.2 l.size⟩,a.cu.code.below l,(a0 _ w.2.2.2).trans (m a.cu.cur (by decide))⟩,a.bb,⟨.slice (some ⟨g,0,none⟩) (L.length+1) cap,?_,?_⟩,fun I hy=>?_,fun a2 ap=>?_,?_⟩,l,n⟩
 ·rw[aD,show T-((L.length+[(⟨N,vn,vk⟩:Mb)].length:Nat):Int)=T-L.length-1 by simp;omega]
  exact bI _ E.bb 1 _ _ _ n
 ·rw[aD]
  exact jA z (ee z n (by decide)) 1 _
 ·rcases List.mem_append.1 hy with hy|hy
  ·exact⟨h (a.each I hy).1 (by decide) (by decide),h (a.each I hy).2 (by decide) (by decide)⟩
  ·obtain rfl:=List.mem_singleton.1 hy
   exact⟨h on (by decide) (by decide),h A (by decide) (by decide)⟩
 ·have k:=a.rows a2 (ep _ (ep _ ap))
  exact⟨k.1,h k.2 k.1.1 k.1.2.1⟩
 ·have x:=a.sep
  have K:bR (rS vn N.nm::rI vk N.ks::R)++bL L=(vn.ownBlock.toList++vk.ownBlock.toList)++(bR R++bL L):=by unfold bR;simp[xd]
  have ad:bR R++bL (L++[⟨N,vn,vk⟩])=(bR R++bL L)++(vn.ownBlock.toList++vk.ownBlock.toList):=by unfold bL;simp[Ht]
  rw[K]at x
  rw[ad]
  exact List.perm_append_comm.nodup_iff.1 x
end
def dN(k op n:Int)(t:ByteArray)(nm:List ByteArray)(ks:List Int):Nd:=⟨k,0,0,0,op,n,t,nm,ks⟩
section
variable {C : Cd} {T : Int} {E : Bs} {W W' : World} {c c' : Cr} {L : List Mb} {R : List Rwx}
theorem aij{N:Nd}{b a:Option Addr}{f d mk ck:Nat}(l:Bd C T E W c L (rS (.slice b f d) N.nm::rI (.slice a mk ck) N.ks::R))(cb: -100000<=T/\T<=100000)(bD:L.length<=25000):
  Calls Tryz.prog 98 #[bV E,.agg (pu N (.slice b f d) (.slice a mk ck))] W fun e w'=>e= .returned (.int .i64 (L.length:Nat))/\Bd C T E w' c (L++[⟨N,.slice b f d,.slice a mk ck⟩]) R/\Below E.base W w':=by
 obtain⟨n,a2⟩:=aE L.length
 obtain⟨s,J⟩:=aE (T-(L.length:Int))
 have cc: -200000<=s/\s<=200000:=by omega
 rw[a2]at bD⊢
 have ce:=l.lt
 have a0:=dh W (.cells (pu N (.slice b f d) (.slice a mk ck)) 50)
 have a8:=(l.below a0).c0
 have bx:(W.alloc (.cells (pu N (.slice b f d) (.slice a mk ck)) 50)).frozen? ⟨E.bb,2,none⟩=false:=by
  obtain⟨v,w,G⟩:=(l.below a0).row
  exact cA _ _ _ _ _ w
 rw[J]at a8
 clear a0
 go_in
 go_wp21
 obtain⟨al,ar⟩:=aE (W.setCell ⟨E.bb,2,none⟩ (.int .i64 (s-1)))
 have x:=l.less
 rw[J]at x
 have a3:(W.setCell ⟨E.bb,2,none⟩ (.int .i64 (s-1))).heap.size=W.heap.size:=by simp[World.setCell]
 obtain⟨a5,ap,a9⟩:=l.row
 rw[J]at ap
 have ad:(W.setCell ⟨E.bb,2,none⟩ (.int .i64 (s-1))).heap[E.bb]?=some (.cells #[cV E,a5,.int .i64 (s-1)] 94 (0,0)):=bI W E.bb 2 _ _ _ ap
 rw[ar]at x a3 ad
 rw[ar]
 have y:=dh al (.cells (pu N (.slice b f d) (.slice a mk ck)) 50)
 have m:=ay al (.cells (pu N (.slice b f d) (.slice a mk ck)) 50)
 obtain⟨h,I⟩:=aE (al.alloc (.cells (pu N (.slice b f d) (.slice a mk ck)) 50))
 rw[I]at y m
 rw[a3]at m
 have q:=FC (x.1.below y) (x.2.trans (y.mono (by omega))) m (show h.heap.size=W.heap.size+1 by rw[<-I];simp[a3])
 have p:=(y.block _ (aw ad)).trans ad
 rw[I]
 clear I ar x y m ad a8 bx
 have bf:a5.ownBlock≠some W.heap.size:=fun e=>by have:=(a9.lt _ e).2;omega
 obtain⟨v,w,G⟩:=q.1.row
 obtain rfl:a5=v:=by
  rw[w]at p
  simp at p
  exact p.1.symm
 obtain⟨t,u,rfl⟩:=bG G
 have ao:h.cell? ⟨E.bb,1,none⟩=some (.slice t L.length u):=by rw[au _ _ _ _ _ _ w];rfl
 rw[a2]at ao G bf p
 clear ap a9 w
 have m:=q.2.2.1
 refine wp_region_held_drew (S:=fun af=>af.heap[W.heap.size]?=some (.cells (pu N (.slice b f d) (.slice a mk ck)) 50 (0,0))) (by kernel_rfl) m (fun hS=>?_)
 simp only[gG,co,dB,Nat.reduceAdd,je,jf,jg,er,fl]
 refine cj 0 (.pointer (some ⟨E.bb,0,none⟩)) rfl rfl (by kernel_rfl) (fun _ _ _=>id) hS (fun w' r=>by go_simp) ?_
 simp only[List.set]
 refine cj 1 (.pointer (some ⟨E.bb,0,none⟩)) rfl rfl (by kernel_rfl) (fun _ _ _=>id) hS (fun w' r=>by go_simp) ?_
 simp only[List.set]
 refine cj 2 (.pointer (some ⟨E.bb,0,none⟩)) rfl rfl (by kernel_rfl) (fun _ _ _=>id) hS (fun w' r=>by go_simp) ?_
 simp only[List.set]
 refine cj 3 (.pointer (some ⟨E.bb,1,none⟩)) rfl rfl (by kernel_rfl) (fun _ _ _=>id) hS (fun w' r=>by go_simp) ?_
 simp only[List.set]
 refine eK 5 17 (.agg (pu N (.slice b f d) (.slice a mk ck))) rfl rfl (by kernel_rfl) (by kernel_rfl) (by kernel_rfl) (fun _ _ _ l=>l) (by rfl) hS (fun w' r=>by have cl:=bz (N:=N) r;go_simp) ?_
 simp only[Act.put,aB,aA,aC]
 have bE:=ao
 refine oc (S:=fun af=>af.cell? ⟨E.bb,1,none⟩=some (.slice t n u)) (C:=fun z=>!(z==7||z==8||z==9||z==10)) (i:=4) (v:= .slice t n u) rfl (sA (by kernel_rfl)) (fun _ _ _ l=>l) ?hC _ _ _ _ (sB rfl (by kernel_rfl)) (List.contains_iff_mem.1 (by kernel_rfl)) (Or.inl ⟨by rfl,fun w' r=>by go_simp⟩) hS bE ?_
 case hC=>
  intro z cf bc j
  simp only[Bool.not_eq_false',sD,ib]at j
  rcases j with((rfl|rfl)|rfl)|rfl
  ·obtain rfl:=bh bc
   exact⟨{on:=4,ground:=Ground.data},by simp,rfl,rfl⟩
  all_goals
   obtain rfl:=bh bc
   exact⟨{on:=4,ground:=Ground.phase},by simp,rfl,rfl⟩
 simp only[Act.put,aB,aA,aC]
 refine dI (i:=6) (by kernel_rfl) rfl (fun k g=>?_)
 go_simp
 have am:∀bk,Below h.heap.size h (h.drew.alloc bk):=fun bk=>(aq (ag _ _)).alloc (by simp) _
 refine g _ _ (((am _).block _ (aw m)).trans m) (fun _=>ai (am _) ao) ?_
 clear g k hS am
 try simp only[aB,aA,aC]
 have o:=aq (dh h (.cells (pu N (.slice b f d) (.slice a mk ck)) 50))
 have br:(h.alloc (.cells (pu N (.slice b f d) (.slice a mk ck)) 50)).drew.heap[h.heap.size]?=_:=ay h _
 generalize World.drew (World.alloc _ _)=bt at o br⊢
 have bn:=q.1.below o
 have bl:=(o.block _ (aw p)).trans p
 have b0:=q.1.lt
 have b1:=q.2.2.2
 obtain⟨b2,b5,b7,b8,b9⟩:=dD tA
 refine dI (i:=7) (by kernel_rfl) rfl (fun k g=>?_)
 refine step_append_lies _ (by rfl) _ _ 23 (by rfl) E.base 50 b2 _ 9 112 Tryz.underlying23 b5 b7 b8 b9 rfl (by decide) (.slice t n u) n _ (by rfl) (cF G o) ⟨h.heap.size,0,none⟩ 1 1 (pu N (.slice b f d) (.slice a mk ck)).toList (by rw[b1];rfl) rfl (World.news_of_block br) (by intro cg bd;simp at bd;rcases bd with rfl|rfl|rfl|rfl|rfl|rfl|rfl|rfl|rfl<;>rfl) (by decide) (by unfold maxLen;omega) (by omega) (by have:=o.size;omega) bt.heap.size rfl ?_
 intro H F A a4 a1 bF cd
 have ba:im L++(pu N (.slice b f d) (.slice a mk ck)).toList=im (L++[⟨N,.slice b f d,.slice a mk ck⟩]):=by rw[og];show _=im L++(cMb _++[]);rw[dA];rfl
 rw[ba]at a4
 obtain⟨bo,a7,K⟩:=bn.push (by rw[J];exact bl) (by rw[a2]) a4 a1
 have B:=(a1.block _ (by have:=o.size;omega) (fun e=>bf e.symm)).trans ((o.block _ (by omega)).trans m)
 have bs:(A.setCell ⟨E.bb,1,none⟩ (.slice (some ⟨H,0,none⟩) (n+1) F)).heap[W.heap.size]?=some (.cells (pu N (.slice b f d) (.slice a mk ck)) 50 (0,0)):=(aK _ _ _ _ (by show W.heap.size≠E.bb;omega)).trans B
 have bv:A.cell? ⟨E.bb,1,none⟩=some (.slice t n u):=by rw[au _ _ _ _ _ _ K];rfl
 have bA:A.frozen? ⟨E.bb,1,none⟩=false:=cA _ _ _ _ _ K
 have a6:=eJ bo ((q.2.1.trans (o.mono b0.2.2.1)).trans a7)
 have bw:(A.setCell ⟨E.bb,1,none⟩ (.slice (some ⟨H,0,none⟩) (n+1) F)).cell? ⟨E.bb,1,none⟩=some (.slice (some ⟨H,0,none⟩) (n+1) F):=by rw[au _ _ _ _ _ _ (bI _ E.bb 1 _ _ _ K)];rfl
 clear bo a7 ba a4 a1 bF bn
 refine g _ _ B (fun j=>by cases j) ?_
 clear g k
 simp only[Act.put,aB,aA,aC]
 refine dI (i:=8) (by kernel_rfl) rfl (fun k g=>?_)
 go_simp
 refine g _ _ B (fun j=>by cases j) ?_
 clear g k
 try simp only[aB,aA,aC]
 refine dI (i:=9) (by kernel_rfl) rfl (fun k g=>?_)
 go_simp
 refine g _ _ B (fun j=>by cases j) ?_
 clear g k
 try simp only[aB,aA,aC]
 refine dI (i:=10) (by kernel_rfl) rfl (fun k g=>?_)
 go_simp
 refine g _ _ bs (fun j=>by cases j) ?_
 clear g k
 refine qi (by kernel_rfl) ?_ _
 generalize A.setCell ⟨E.bb,1,none⟩ (.slice (some ⟨H,0,none⟩) (n+1) F)=ca at a6 bw⊢
 clear K bv bA B bs bl p
 go_wp21
 go_ret
 exact⟨by go_num,a6⟩
end
def In(C:Cd)(T:Int)(E:Bs)(W:World)(c:Cr)(L:List Nd)(R:List Rwx):Prop:=∃M:List Mb,M.map Mb.N=L/\Bd C T E W c M R
def Rb(C:Cd)(T:Int)(f:FuncId)(b:List Value)(c:Cr)(L:List Nd)(v:Value)(d:Cr)(a:List Nd):Prop:=
 ∀ ⦃E:Bs⦄ ⦃W:World⦄ ⦃R:List Rwx⦄,In C T E W c L R->Calls Tryz.prog f (bV E::b).toArray W fun e w'=>e= .returned v/\In C T E w' d a R/\Below E.base W w'
def Rr(C:Cd)(T:Int)(f:FuncId)(e:List Value)(c:Cr)(L:List Nd)(t:TypeId)(n:Nat)(xs:List Value)(g:Cr)(d:List Nd):Prop:=
 ∀ ⦃E:Bs⦄ ⦃W:World⦄ ⦃R:List Rwx⦄,In C T E W c L R->Calls Tryz.prog f (bV E::e).toArray W fun h w'=>∃a b,h= .returned (.slice a n b)/\In C T E w' g d (⟨t,.slice a n b,xs⟩::R)/\Below E.base W w'
structure At (C:Cd) (T:Int) (E:Bs) (W w:World) (c:Cr) (L:List Nd) (R:List Rwx):Prop where
 bd:In C T E w c L R
 bel:Below E.base W w
theorem abb:(Tryz.prog.info? 3).map (fun i=>(i.zero,i.size,i.bytes))=some (some (.int .i64 0),1,8):=by kernel_rfl
section
variable {C : Cd} {T : Int} {E : Bs} {W w w' : World} {c c' : Cr} {L L' : List Nd} {R : List Rwx} {f : FuncId} {ar : List Value} {v : Value} {Q : Ending → World → Prop} {t : TypeId} {n : Nat} {xs : List Value}
theorem In.at(a:In C T E w c L R):At C T E w w c L R:=⟨a,ag _ _⟩
theorem At.run(a:At C T E W w c L R)(k:Rb C T f ar c L v c' L')(d:∀w',At C T E W w' c' L' R->Q (.returned v) w'):Calls Tryz.prog f (bV E::ar).toArray w Q:=
 (k a.bd).mono fun e w' b=>b.1 ▸ d w' ⟨b.2.1,a.bel.trans b.2.2⟩
theorem At.runC(a:At C T E W w c L R)(k:Rc C f ar c v c')(h:∀w',At C T E W w' c' L R->w.grownBy w' (some E.cb)->Q (.returned v) w'):Calls Tryz.prog f (cV E::ar).toArray w Q:=by
 obtain⟨⟨g,e,b⟩,i⟩:=a
 refine(k b.cu).mono ?_
 rintro e w' ⟨rfl,j,d⟩
 exact h w' ⟨⟨g,e,b.went d j⟩,i.trans (jy d b.cu.lo.1 b.cu.lo.2)⟩ d
theorem At.runR(a:At C T E W w c L R)(k:Rr C T f ar c L t n xs c' L')(b:∀w' av cp,At C T E W w' c' L' (⟨t,.slice av n cp,xs⟩::R)->Q (.returned (.slice av n cp)) w'):Calls Tryz.prog f (bV E::ar).toArray w Q:=by
 refine(k a.bd).mono ?_
 rintro g w' ⟨av,cp,rfl,d,e⟩
 exact b w' av cp ⟨d,a.bel.trans e⟩
theorem At.low(a:At C T E W w c L R):E.base<=w.heap.size/\E.cb<w.heap.size/\E.bb<w.heap.size:=by
 obtain⟨d,_,b⟩:=a.bd
 have:=b.lt
 omega
theorem At.cu(a:At C T E W w c L R):Cu C E w c:=by
 obtain⟨d,_,b⟩:=a.bd
 exact b.cu
theorem At.cs(a:At C T E W w c L R):(w.cell? ⟨E.bb,0,none⟩=some (cV E)/\w.cell? ⟨E.bb,2,none⟩=some (.int .i64 (T-L.length)))/\E.bb<w.heap.size:=by
 obtain⟨d,e,b⟩:=a.bd
 have:=b.c0
 rw[show d.length=L.length by rw[<-e,aI]]at this
 exact⟨this,b.lt.2.1⟩
theorem At.below(a:At C T E W w c L R)(d:Below w.heap.size w w'):At C T E W w' c L R:=by
 obtain⟨⟨e,f,b⟩,g⟩:=a
 exact⟨⟨e,f,b.below d⟩,g.trans (d.mono b.lt.2.2.1)⟩
theorem At.al{o:Obj}(a:At C T E W w c L R):At C T E W (w.alloc o) c L R:=a.below (dh w o)
theorem At.lit(a:At C T E W w c L R)(ks:List Int)(f:ks.length<=100):At C T E W (w.alloc (.cells (ks.map (Value.int .i64)).toArray 3)) c L (rI (.slice (some ⟨w.heap.size,0,none⟩) ks.length ks.length) ks::R):=by
 obtain⟨⟨d,e,b⟩,g⟩:=a
 exact⟨⟨d,e,b.newI ks f⟩,g.trans ((dh w _).mono b.lt.2.2.1)⟩
theorem At.lit1{z:Int}(a:At C T E W w c L R):At C T E W (w.alloc (.cells #[.int .i64 z] 3)) c L (rI (.slice (some ⟨w.heap.size,0,none⟩) 1 1) [z]::R):=a.lit [z] (by simp)
theorem At.lit2{z b:Int}(a:At C T E W w c L R):At C T E W (w.alloc (.cells #[.int .i64 z,.int .i64 b] 3)) c L (rI (.slice (some ⟨w.heap.size,0,none⟩) 2 2) [z,b]::R):=a.lit [z,b] (by simp)
theorem At.nilI(a:At C T E W w c L R):At C T E W w c L (rI (.slice none 0 0) []::R):=by
 obtain⟨⟨b,e,d⟩,f⟩:=a
 exact⟨⟨b,e,d.nil toI⟩,f⟩
theorem At.nilS(a:At C T E W w c L R):At C T E W w c L (rS (.slice none 0 0) []::R):=by
 obtain⟨⟨b,e,d⟩,f⟩:=a
 exact⟨⟨b,e,d.nil toS⟩,f⟩
theorem At.swap{r b:Rwx}(a:At C T E W w c L (r::b::R)):At C T E W w c L (b::r::R):=by
 obtain⟨⟨d,f,e⟩,g⟩:=a
 exact⟨⟨d,f,e.swap⟩,g⟩
theorem At.drop{r:Rwx}(a:At C T E W w c L (r::R)):At C T E W w c L R:=by
 obtain⟨⟨b,e,d⟩,f⟩:=a
 exact⟨⟨b,e,d.drop⟩,f⟩
theorem At.form(a:At C T E W w c L (⟨t,v,xs⟩::R)):∃a c,v= .slice a xs.length c:=by
 obtain⟨⟨d,e,b⟩,f⟩:=a
 exact b.form
theorem At.apG{st:TypeId}{u g:Value}{b:Nat}{l:Array Oper}{m:List Oper}{o:Oper}{a:Act}{h:Exit->Act->World->Prop}(A:Tryz.prog.underlying st=some (.slice t))(y:(Tryz.prog.info? t).map (fun i=>(i.zero,i.size,i.bytes))=some (some g,1,b))(ar:g.cells.size=1)(F:b<=100)(ht:TO t)(x:At C T E W w c L (⟨t,v,xs⟩::R))(K:xs.length=n)(a7:n<=1000)(am:u.oneCell'=true)(H:o.guard=none)(s z:Operand)
  (ad:o.op= .call {callee:= .builtin .append,args:=#[s,z],argTypes:=#[st,st]}) (ak:a.eval s=v) (ao:a.eval z= .slice (some ⟨w.heap.size,0,none⟩) 1 1)
  (k:∀av cv w1,At C T E W w1 c L (⟨t,.slice av (n+1) cv,xs++[u]⟩::R)->wpList Tryz.prog l h m (a.put o.dst (.slice av (n+1) cv)) w1):
  wpList Tryz.prog l h (o::m) a (w.alloc (.cells #[u] t)):=by
 subst K
 obtain⟨⟨p,r,e⟩,an⟩:=x.al (o:= .cells #[u] t)
 obtain⟨a3,J,a0,a1,a2⟩:=dD y
 have af:(w.alloc (.cells #[u] t)).ownsRow E.base t 1 v xs.length xs:=(e.rows _ da).2
 have a6:(xs.length+1)*b<=1001*100:=Nat.mul_le_mul (by omega) F
 refine wpList_append_own_at _ H s z st ad E.base t a3 g 1 b A J a0 a1 a2 ar (by decide) v _ _ ak af ⟨w.heap.size,0,none⟩ 1 1 [u] ao (by simp) (World.news_of_block (cs:=#[u]) (ay w _)) (by intro a9 ap;rw[List.mem_singleton.1 ap];exact am) (by unfold maxLen;omega) (by omega) e.lt.2.2.1 ?_
 intro a8 w1 j G _ B
 obtain⟨av,cv,rfl⟩:=bG j
 have I:∀d,(Value.slice av (xs.length+1) cv).ownBlock=some d->v.ownBlock=some d\/(w.alloc (.cells #[u] t)).heap.size<=d:=fun d f=>by
  rcases B with q|q
  ·exact .inl (q ▸ f)
  ·rw[q]at f;cases f;exact .inr (ah _)
 obtain⟨a4,a5⟩:=e.hot (r':=⟨t,.slice av (xs.length+1) cv,xs++[u]⟩) G ht (by simpa using j) I
 exact k av cv w1 ⟨⟨p,r,a4⟩,an.trans a5⟩
theorem At.app{d:Array Oper}{e:List Oper}{o:Oper}{a:Act}{b:Exit->Act->World->Prop}{ks:List Int}{z:Int}(g:At C T E W w c L (rI v ks::R))(i:ks.length=n)(j:n<=1000)(h:o.guard=none)(s x:Operand)(l:o.op= .call {callee:= .builtin .append,args:=#[s,x],argTypes:=#[31,31]})(m:a.eval s=v)(p:a.eval x= .slice (some ⟨w.heap.size,0,none⟩) 1 1)
  (k:∀av cv w1,At C T E W w1 c L (rI (.slice av (n+1) cv) (ks++[z])::R)->wpList Tryz.prog d b e (a.put o.dst (.slice av (n+1) cv)) w1):wpList Tryz.prog d b (o::e) a (w.alloc (.cells #[.int .i64 z] 3)):=
 At.apG Tryz.underlying31 abb rfl (by decide) toI g (by rw[aI,i]) j rfl h s x l m p fun av cv w1 f=>k av cv w1 (by unfold rI;rw[dm];exact f)
theorem At.appS{d:Array Oper}{e:List Oper}{o:Oper}{a:Act}{b:Exit->Act->World->Prop}{ks:List ByteArray}{z:ByteArray}(g:At C T E W w c L (rS v ks::R))(i:ks.length=n)(j:n<=1000)(h:o.guard=none)(s x:Operand)(l:o.op= .call {callee:= .builtin .append,args:=#[s,x],argTypes:=#[48,48]})(m:a.eval s=v)(p:a.eval x= .slice (some ⟨w.heap.size,0,none⟩) 1 1)
  (k:∀av cv w1,At C T E W w1 c L (rS (.slice av (n+1) cv) (ks++[z])::R)->wpList Tryz.prog d b e (a.put o.dst (.slice av (n+1) cv)) w1):wpList Tryz.prog d b (o::e) a (w.alloc (.cells #[.string z] 9)):=
 At.apG Tryz.underlying48 ql rfl (by decide) toS g (by rw[aI,i]) j rfl h s x l m p fun av cv w1 f=>k av cv w1 (by unfold rS;rw[dm];exact f)
theorem At.add{k op m:Int}{x:ByteArray}{nm:List ByteArray}{ks:List Int}{d b:Option Addr}{h e mk ck:Nat}(a:At C T E W w c L (rS (.slice d h e) nm::rI (.slice b mk ck) ks::R))(n: -100000<=T/\T<=100000)(g:L.length<=25000)(f:∀w',At C T E W w' c (L++[dN k op m x nm ks]) R->Q (.returned (.int .i64 (L.length:Nat))) w'):
  Calls Tryz.prog 98 #[bV E,.agg #[.int .i64 k,.int .i64 0,.int .i64 0,.int .i64 0,.int .i64 op,.int .i64 m,.string x,.slice d h e,.slice b mk ck]] w Q:=by
 obtain⟨⟨p,rfl,i⟩,o⟩:=a
 rw[aI]at g
 refine(aij (N:=dN k op m x nm ks) i n g).mono ?_
 rintro q w' ⟨rfl,j,l⟩
 rw[aI]at f
 exact f w' ⟨⟨_,by rw[dm];rfl,j⟩,o.trans l⟩
theorem At.kids{k:Int}{ks:List Int}{b:Option Addr}{mk ck:Nat}(a:At C T E W w c L (rI (.slice b mk ck) ks::R))(l: -100000<=T/\T<=100000)(j:L.length<=25000)(e:∀w',At C T E W w' c (L++[dN k 0 0 ⟨#[]⟩ [] ks]) R->Q (.returned (.int .i64 (L.length:Nat))) w'):
  Calls Tryz.prog 99 #[bV E,.int .i64 k,.slice b mk ck] w Q:=by
 have g:Calls Tryz.prog 99 #[bV E,.int .i64 k,.slice b mk ck] w fun d w'=>d= .returned (.int .i64 (L.length:Nat))/\At C T E W w' c (L++[dN k 0 0 ⟨#[]⟩ [] ks]) R:=by
  clear e
  have h:=aj a.nilS
  clear a
  go_in
  go_wp2_with fail
  refine h.out.add l j fun w1 i=>?_
  go_wp2_with fail
  go_ret
  exact⟨rfl,i⟩
 exact g.mono fun d w' f=>f.1 ▸ e w' f.2
end
theorem gn{k op n:Int}{t:ByteArray}{nm:List ByteArray}{ks:List Int}(g:0<=k/\k<=1000)(h:0<=op/\op<=1000)(e: -9223372036854775808<=n/\n<=9223372036854775807)(ht:Txt k t)(a:nm.length<=3)(b:∀s∈nm,Shr s)(c:ks.length<=64)(d:∀z∈ks,0<=z/\z<=100000):Lt (dN k op n t nm ks):=by
 have z: -9223372036854775808<=(0:Int)/\(0:Int)<=9223372036854775807:=by decide
 exact⟨a,c,ht,b,⟨⟨by show _<=k;omega,by show k<=_;omega⟩,z,z,z,⟨by show _<=op;omega,by show op<=_;omega⟩,e,fun z f=>by have:=d z f;omega⟩⟩
def Nx(c:Cr)(L:List Nd)(a:Cr)(b:List Nd):Prop:=∃M,b=L++M/\(∀d∈M,Lt d)/\c.r+EB M<=a.r/\(c.r<=3->a.r<=3)
structure Pd (T:Int) (c:Cr) (L:List Nd) (m:Int):Prop where
 sum:T<=140
 lo: -20000+12*m<=T-L.length
 hx:c.p-400*L.length+1000*m<=4000000
 m0:0<=m/\m<=1300
 p0:0<=c.p/\0<=c.r
structure Mv (T:Int) (c0:Cr) (L0:List Nd) (c:Cr) (L:List Nd) (y:Int):Prop where
 nx:Nx c0 L0 c L
 n:L0.length<=L.length
 p:c.p<=c0.p+400*(L.length-L0.length)+y
 p0:0<=c.p/\0<=c.r
 lo: -20000<=T-L.length
abbrev Lf(s k l a:Int):Prop:=(l<5->l-s<=a)/\(5<=l->5-k<=a)
structure An (T:Int) (c:Cr) (L:List Nd) (c':Cr) (L':List Nd) (z s k g:Int):Prop where
 nx:Nx c L c' L'
 n:L.length<L'.length
 z:z=L'.length-1
 p:c'.p<=c.p+400*(L'.length-L.length)-g
 p0:0<=c'.p/\0<=c'.r
 lf:Lf s k (T-L.length) (T-L'.length)
def FB(f:FuncId)(d m s k g:Int):Prop:=∀ ⦃C:Cd⦄ ⦃T:Int⦄ ⦃c:Cr⦄ ⦃L:List Nd⦄,Pd T c L m->∃a c' L',An T c L c' L' a s k g/\Rb C T f [.int .i64 d] c L (.int .i64 a) c' L'
theorem FB.up{f:FuncId}{d m i s k j h g e:Int}(q:FB f d m s k g)(t:0<=m:=by omega)(w:m<=i:=by omega)(x:s<=j:=by omega)(u:k<=h:=by omega)(v:e<=g:=by omega):FB f d i j h e:=fun C T c L b=>by
 obtain⟨r,p,o,a,l⟩:=q (C:=C) (T:=T) (c:=c) (L:=L) ⟨b.sum,by have:=b.lo;omega,by have:=b.hx;omega,by have:=b.m0;omega,b.p0⟩
 exact⟨r,p,o,⟨a.nx,a.n,a.z,by have:=a.p;omega,a.p0,by have:=a.lf;omega⟩,l⟩
theorem Nx.refl{c b:Cr}(L:List Nd)(a:b.r=c.r):Nx c L b L:=⟨[],(dA L).symm,fun d a=>(by cases a),by rw[a];exact Int.le_of_eq (Int.add_zero _),by rw[a];exact id⟩
theorem Nx.trans{c f g:Cr}{L d e:List Nd}(a:Nx c L f d)(k:Nx f d g e):Nx c L g e:=by
 obtain⟨h,rfl,i,n,j⟩:=a
 obtain⟨b,rfl,l,o,m⟩:=k
 exact⟨h++b,cG _ _ _,fun b a=>(List.mem_append.1 a).elim (i b) (l b),by rw[aba];omega,fun a=>m (j a)⟩
theorem Nx.add{c a b:Cr}{L e:List Nd}(d:Nx c L a e){N:Nd}(f:Lt N)(g:a.r+bgN N<=b.r)(h:a.r<=3->b.r<=3):Nx c L b (e++[N]):=
 d.trans ⟨[N],rfl,fun i d=>by rw[List.mem_singleton.1 d];exact f,by unfold EB;simp;exact g,h⟩
theorem It{N:Nd}(a:N.x.size<=19):bgN N=0:=by unfold bgN;rw[aa (by omega)]
def Pl(ks:List Int):Prop:=∀a∈ks,0<=a/\a<=100000
theorem Pl.add{ks:List Int}(a:Pl ks){z:Int}(b:0<=z/\z<=100000):Pl (ks++[z]):=fun c hy=>by
 rcases List.mem_append.1 hy with hy|hy
 ·exact a c hy
 ·rw[List.mem_singleton.1 hy];exact b
theorem Lu:Pl []:=fun b a=>by cases a
theorem Fz{z:Int}(a:0<=z/\z<=100000):Pl [z]:=fun c b=>by rw[List.mem_singleton.1 b];exact a
theorem pl2{z a:Int}(b:0<=z/\z<=100000)(k:0<=a/\a<=100000):Pl [z,a]:=(Fz b).add k
theorem io:∀s∈([]:List ByteArray),Shr s:=fun s a=>by cases a
section
variable {T : Int} {c0 c : Cr} {L0 L : List Nd} {y m : Int}
theorem Pd.mv(p:Pd T c L m):Mv T c L c L 0:=⟨Nx.refl L rfl,ah _,by omega,p.p0,by have:=p.lo;have:=p.m0;omega⟩
theorem Mv.len(p:Pd T c0 L0 m)(a:Mv T c0 L0 c L y)(j:y<=600):(L.length<=25000/\ -100000<=T/\T<=100000)/\c.p<=20000000:=by
 have b:=p.sum
 have d:=a.lo
 have e:=a.p
 have f:=p.hx
 have g:=p.m0
 have h:=a.n
 have i:=p.lo
 omega
theorem Mv.pick(p:Pd T c0 L0 m)(a:Mv T c0 L0 c L y)(C:Cd)(k:Int)(l:y<=500:=by omega)(f:2<=k:=by decide)(g:k<=200:=by decide):∃z c',(0<=z/\z<k)/\Mv T c0 L0 c' L (y+1)/\Rc C 13 [.int .i64 k] c (.int .i64 z) c':=by
 have i:=a.len p (by omega)
 have d:=a.p0
 have j:=a.p
 obtain⟨z,c',h,e,b⟩:=dc C c k f g d.1 (by omega)
 exact⟨z,c',h,⟨a.nx.trans (Nx.refl L e.2),a.n,by omega,by omega,a.lo⟩,b⟩
theorem Mv.sub(p:Pd T c0 L0 m)(a:Mv T c0 L0 c L y)(C:Cd){f:FuncId}{d b s k g:Int}(hF:FB f d b s k g)(F:1<=b/\b+1<=m:=by omega)(H:y<=500:=by omega)(t: -20000+12*b<=T-L.length:=by omega)(G:s<=12/\k<=4000:=by omega):
  ∃(z:Int) (c':Cr) (L':List Nd),(0<=z/\z<=100000)/\(L.length<L'.length/\z=L'.length-1/\Lf s k (T-L.length) (T-L'.length))/\Mv T c0 L0 c' L' (y-g)/\Rb C T f [.int .i64 d] c L (.int .i64 z) c' L':=by
 have E:=a.len p (by omega)
 have v:=p.hx
 have w:=a.p
 have r:=a.p0
 have x:=p.m0
 have A:=a.n
 have B:=p.sum
 obtain⟨z,c',L',h,e⟩:=hF (C:=C) (T:=T) (c:=c) (L:=L) ⟨p.sum,t,by omega,by omega,r⟩
 obtain⟨i,j,l,u,o,q⟩:=h
 exact⟨z,c',L',by omega,⟨j,l,q⟩,⟨a.nx.trans i,by omega,by omega,o,by omega⟩,e⟩
theorem Mv.fin(p:Pd T c0 L0 m)(a:Mv T c0 L0 c L y){k op n:Int}{t:ByteArray}{nm:List ByteArray}{ks:List Int}{s q g:Int}(b:Lt (dN k op n t nm ks))(h:y<=400-g:=by omega)(f:Lf s q (T-L0.length) (T-L.length-1):=by omega)(ht:t.size<=19:=by first|decide|omega):An T c0 L0 c (L++[dN k op n t nm ks]) (L.length:Nat) s q g:=by
 have d:=a.p
 have e:=a.n
 exact⟨a.nx.add b (by rw[It (show(dN k op n t nm ks).x.size<=19 from ht)];omega) id,by simp;omega,by simp,by simp;omega,a.p0,by simp only[aD,co,dB];omega⟩
theorem Mv.on(a:Mv T c0 L0 c L y){N:Nd}(b:Lt N)(ht:N.x.size<=19)(f: -20000<=T-L.length-1):Mv T c0 L0 c (L++[N]) (y-400):=by
 have d:=a.p
 have e:=a.n
 exact⟨a.nx.add b (by rw[It ht];omega) id,by simp;omega,by simp;omega,a.p0,by simp;omega⟩
theorem Mv.tail(p:Pd T c0 L0 m)(a:Mv T c0 L0 c L0 y)(C:Cd){f:FuncId}{d e s k g:Int}(hF:FB f d e s k g)(t:0<=e/\e+1<=m:=by omega)(u:y<=g:=by omega)(r:g<=500:=by decide):∃z c' L',An T c0 L0 c' L' z s k 0/\Rb C T f [.int .i64 d] c L0 (.int .i64 z) c' L':=by
 have j:=p.hx
 have l:=a.p
 have i:=a.p0
 have o:=p.m0
 have q:=p.lo
 obtain⟨z,c',L',b,h⟩:=hF (C:=C) (T:=T) (c:=c) (L:=L0) ⟨p.sum,by omega,by omega,by omega,i⟩
 exact⟨z,c',L',⟨a.nx.trans b.nx,b.n,b.z,by have:=b.p;omega,b.p0,b.lf⟩,h⟩
end
def shL:List ByteArray:=[⟨#[97]⟩,⟨#[98]⟩,⟨#[120]⟩,⟨#[121,49]⟩,⟨#[95]⟩,⟨#[73,102]⟩,⟨#[101,108,105]⟩,⟨#[102]⟩]
section
variable {T : Int} {c0 c : Cr} {L0 L : List Nd} {y m : Int}
theorem aeb{C:Cd}{e:Cr}{z:Int}{t:ByteArray}(n:0<=z/\z<8)(g:Rc C 13 [.int .i64 8] c (.int .i64 z) e)(ht:shL[z.toNat]?=some t):Rb C T 165 [] c L (.string t) e L:=by
 intro k m l i
 have a:=i.at
 have h:=a.cs
 have j:=a.cu
 rcases(show z=0\/z=1\/z=2\/z=3\/z=4\/z=5\/z=6\/z=7 by omega) with rfl|rfl|rfl|rfl|rfl|rfl|rfl|rfl
 all_goals
  obtain rfl:=bh (show some (_:ByteArray)=some t from ht)
  go_in
  go_wp2_with fail
  refine a.al.runC g fun w1 d f=>?_
  have o:=nE j f
  have b:=aj d
  clear h f d a
  go_wp2_with fail
  go_ret
  exact⟨rfl,b.out.bd,b.out.bel⟩
theorem Mv.short(p:Pd T c0 L0 m)(a:Mv T c0 L0 c L y)(C:Cd)(j:y<=500:=by omega):∃(t:ByteArray) (c':Cr),Shr t/\Mv T c0 L0 c' L (y+1)/\Rb C T 165 [] c L (.string t) c' L:=by
 obtain⟨d,g,i,f,e⟩:=a.pick p C 8
 obtain⟨t,b⟩:∃t,shL[d.toNat]?=some t:=⟨_,aF (show d.toNat<8 by omega)⟩
 have h:t.size<=3:=(show ∀t∈shL,t.size<=3 by decide) t (bJ b)
 exact⟨t,g,⟨h,qu (by omega)⟩,f,aeb i e b⟩
inductive Nmc (C:Cd) (T:Int) (L:List Nd):Nat->Cr->List ByteArray->Cr->Prop
 |nil (c:Cr):Nmc C T L 0 c [] c
 |cons {n:Nat}{c c1 c2:Cr}{t:ByteArray}{l:List ByteArray}:Rb C T 165 [] c L (.string t) c1 L->Nmc C T L n c1 l c2->Nmc C T L (n+1) c (t::l) c2
theorem nmc(p:Pd T c0 L0 m)(C:Cd):∀(n:Nat)(c:Cr)(y:Int),Mv T c0 L0 c L y->y+n<=500->∃(l:List ByteArray) (c':Cr),l.length=n/\(∀s∈l,Shr s)/\Mv T c0 L0 c' L (y+n)/\Nmc C T L n c l c':=by
 intro n
 induction n with
 |zero=>exact fun c y a _=>⟨[],c,rfl,io,by simpa using a,.nil c⟩
 |succ n q=>
  intro c y a t
  obtain⟨r,g,o,e,d⟩:=a.short p C
  obtain⟨l,i,j,k,f,b⟩:=q g (y+1) e (by omega)
  exact⟨r::l,i,by simp[j],fun s h=>by rcases List.mem_cons.1 h with rfl|h;exact o;exact k s h,by rw[show y+((n+1:Nat):Int)=y+1+n by omega];exact f,.cons d b⟩
theorem Mv.names(p:Pd T c0 L0 m)(a:Mv T c0 L0 c L y)(C:Cd)(n:Nat)(ao:n<=8:=by omega)(ar:y<=450:=by omega):∃(nm:List ByteArray) (c':Cr),nm.length=n/\(∀s∈nm,Shr s)/\Mv T c0 L0 c' L (y+n)/\Rr C T 105 [.int .i64 n] c L 9 n (nm.map Value.string) c' L:=by
 obtain⟨nm,t,i,j,o,d⟩:=nmc p C n c y a (by omega)
 refine⟨nm,t,i,j,o,fun E H G v=>?_⟩
 have b:=v.at.nilS
 clear a o p v j
 go_in
 go_wp2_with fail
 go_loopw [1,5] (fun l ak wr=>∃(m g:Nat) (f k:List ByteArray) (h:Cr),l= .int .i64 m/\m+g=n/\f.length=g/\At C T E H wr h L (rS ak f::G)/\Nmc C T L m h k t/\f++k=nm) (fun l _ _=>(intOf l).toNat)
 case atStart=>exact⟨n,0,[],nm,c,rfl,rfl,rfl,b,d,rfl⟩
 case round=>
  clear b d
  obtain⟨m,g,f,k,h,rfl,z,x,b,A,u⟩:=hrel
  have e:=jw z x u
  have an:m<=n:=by omega
  clear z x u i
  cases A with
  |@cons m _ J _ af ad F B=>
   have am:(0:Int)<((m+1:Nat):Int):=by omega
   have ap:IntKind.i64.wrap (((m+1:Nat):Int)-1)=(m:Int):=by rw[bm];omega
   go_wp2_with fail
   refine b.run F fun w1 r=>?_
   have d:=aj r
   clear b r
   go_wp2_with (at_builtin;refine d.out.appS e.2.1 (by have:=e.1;omega) rfl _ _ rfl rfl rfl ?_;intro q al a0 I)
   go_roundw
   case rel=>exact⟨m,g+1,f++[af],ad,J,by go_num,by have:=e.1;omega,by simp[e.2.1],I,B,by rw[cG];exact e.2.2⟩
   case measure=>simp[intOf]
  |nil=>
   obtain⟨i,j,w⟩:=e.out
   rw[dA]at w
   subst w
   obtain⟨q,K,rfl⟩:=b.form
   rw[aI,show f.length=n by omega]at b⊢
   have d:=aj b
   clear b
   go_wp2_with fail
   go_ret
   exact⟨q,K,rfl,d.out.bd,d.out.bel⟩
end
theorem w1{d:Int}(a: -1000<=d/\d<=1000):IntKind.i64.wrap (d-1)=d-1:=by rw[bm];omega
theorem wq{a o:Int}{q:Nat}(b:a+o=(q:Int))(c:q<=100):IntKind.i64.wrap (a+o)=(q:Int):=by rw[bm];omega
theorem wi{a:Int}(b: -9223372036854775808<=a/\a<=9223372036854775807):IntKind.i64.wrap a=a:=by rw[bm];omega
theorem At.last{C:Cd}{T:Int}{E:Bs}{W w:World}{c:Cr}{L:List Nd}{R:List Rwx}(a:At C T E W w c L R){i:Nat}{N:Nd}(b:L[i]?=some N):∃g cap,w.cell? ⟨E.bb,1,none⟩=some (.slice (some ⟨g,0,none⟩) L.length cap)/\w.cell? ⟨g,i*9,none⟩=some (.int .i64 N.k)/\i<L.length:=by
 obtain⟨⟨l,rfl,f⟩,_⟩:=a
 obtain⟨n,h,d⟩:=f.row
 have e:=(List.getElem?_eq_some_iff.1 b).1
 rw[bq]at b
 obtain⟨o,j,rfl⟩:=Option.map_eq_some_iff.1 b
 rw[aI]at e⊢
 rcases bg d with⟨m,rfl⟩|⟨g,cap,rfl⟩
 ·omega
 ·exact⟨g,cap,by rw[au _ _ _ _ _ _ h];rfl,(en d j).1,e⟩
theorem afz{d me m ce:Int}(w:1<=me/\me+1<=m)(u:0<=ce/\ce<=3990)(H:FB 107 d me 1 ce 0):FB 164 d m 2 (ce+1) 0:=by
 intro A ad af L a
 have v:=a.lo
 have x:=a.m0
 obtain⟨ao,ak,p,g,j,b,y⟩:=a.mv.sub a A H
 have s:=b.len a (by omega)
 obtain⟨o,rfl⟩:=dv g.1
 obtain⟨i,l⟩:∃i,p[o]?=some i:=⟨_,aF (by omega)⟩
 have al:(0:Int)<=(o:Int):=g.1
 by_cases r:i.k=27
 ·refine⟨_,_,_,b.fin a (k:=37) (op:=0) (n:=0) (t:=⟨#[]⟩) (gn (by decide) (by decide) (by decide) (iq (by decide)) (by decide) io (by simp) (Fz g)),fun B E C f=>?_⟩
  have e:=f.at
  clear f b j g a v x u w
  go_in
  go_wp2_with fail
  refine e.run y fun w1 c=>?_
  obtain⟨G,F,J,z,K⟩:=c.last l
  rw[r]at z
  have I:(o:Int)<(p.length:Int):=by omega
  have h:=aj c
  clear e c l
  go_wp2_with fail
  refine h.out.lit1.kids s.1.2 s.1.1 fun an q=>?_
  go_wp2_with fail
  go_ret
  exact⟨rfl,q.bd,q.bel⟩
 ·refine⟨_,_,_,⟨b.nx,j.1,j.2.1,by have:=b.p;omega,b.p0,by omega⟩,fun B E C f=>?_⟩
  have e:=f.at
  clear f b j g a v x u w
  go_in
  go_wp2_with fail
  refine e.run y fun w1 c=>?_
  obtain⟨G,F,J,z,K⟩:=c.last l
  have am:(i.k==27)=false:=by simpa using r
  have I:(o:Int)<(p.length:Int):=by omega
  have h:=aj c
  clear e c l
  go_wp2_with fail
  go_ret
  exact⟨rfl,h.out.bd,h.out.bel⟩
theorem fnB{d mk m ck:Int}(A:1<=mk/\mk+1<=m)(y:0<=ck/\ck<=3900)(r: -1000<=d/\d<=1000)(x:FB 111 (d-1) mk 1 ck 0):FB 108 d m 2 (ck+1) 100:=by
 intro g J L G e
 have z:=e.lo
 have B:=e.m0
 have ao:=w1 r
 obtain⟨n,ad,s,i,ap⟩:=e.mv.pick e g 3
 obtain⟨n,rfl⟩:=dv s.1
 obtain⟨a6,af,w,q,j,ar⟩:=i.names e g n
 obtain⟨a7,ak,H,C,v,l,a0⟩:=j.sub e g x
 obtain⟨E,al,an,h,a5⟩:=l.pick e g 2
 have b:=h.len e (by omega)
 refine⟨_,_,_,h.fin e (k:=36) (op:=E) (n:=0) (t:=⟨#[]⟩) (gn (by decide) (by omega) (by decide) (iq (by decide)) (by omega) q (by simp) (Fz C)),?_⟩
 clear w q i j l h v e z B y A s r
 intro F K I p
 have a:=p.at
 have c:=a.cs
 clear p
 go_in
 repeat' (go_wp2_with (at_builtin;with_reducible refine At.app a rfl (by simp) rfl _ _ rfl rfl rfl ?_;clear a c;intro o am f a;have c:=a.cs);first
  |(go_at_call 13;(first|with_reducible refine At.runC a (by assumption) ?_|with_reducible refine At.runC a.lit2 (by assumption) ?_|with_reducible refine At.runC a.lit1 (by assumption) ?_);clear a c;intro f a _;have c:=a.cs)
  |(go_at_call 105;with_reducible refine At.runR a (by assumption) ?_;clear a c;intro f o u a;have c:=a.cs)
  |(go_at_call 106;with_reducible refine At.runR a (by assumption) ?_;clear a c;intro f o u a;have c:=a.cs)
  |(go_at_call 99;(first|with_reducible refine At.kids a.lit1 b.1.2 b.1.1 ?_|with_reducible refine At.kids a.lit2 b.1.2 b.1.1 ?_|with_reducible refine At.kids a.nilI b.1.2 b.1.1 ?_);clear a c;intro f a;have c:=a.cs)
  |(go_at_call 98;(first|with_reducible refine At.add a.lit1.nilS b.1.2 b.1.1 ?_|with_reducible refine At.add a.lit2.nilS b.1.2 b.1.1 ?_|with_reducible refine At.add a.lit1.swap b.1.2 b.1.1 ?_|with_reducible refine At.add a.lit2.swap b.1.2 b.1.1 ?_|with_reducible refine At.add a.swap b.1.2 b.1.1 ?_|with_reducible refine At.add a b.1.2 b.1.1 ?_|with_reducible refine At.add a.nilS b.1.2 b.1.1 ?_|with_reducible refine At.add a.nilI.nilS b.1.2 b.1.1 ?_);clear a c;intro f a;have c:=a.cs)
  |(go_ret;exact⟨rfl,a.bd,a.bel⟩)
  |(with_reducible refine At.run a (by assumption) ?_;clear a c;intro f a;have c:=a.cs))
theorem aec{d mb me m cb ce:Int}(H:(1<=mb/\mb+1<=m)/\1<=me/\me+1<=m)(F:0<=ce/\ce<=cb/\cb<=3900)(x: -1000<=d/\d<=1000)(w:FB 164 (d-1) mb 2 cb 0)(E:FB 107 (d-1) me 1 ce 0):FB 109 d m 4 (cb+3) 0:=by
 intro g am ao af c
 have G:=c.lo
 have I:=c.m0
 have a5:=w1 x
 obtain⟨n,ap,o,h,a6⟩:=c.mv.pick c g 4
 rcases(show n=0\/n=1\/(n≠0/\n≠1) by omega) with rfl|rfl|⟨s,u⟩
 case' inl=>
  obtain⟨L,A,z,p,l,j,K⟩:=h.sub c g w
  obtain⟨a7,r,ak,J,C,f,y⟩:=j.sub c g E
  have b:=f.len c (by omega)
  refine⟨_,_,_,f.fin c (k:=32) (op:=0) (n:=0) (t:=⟨#[]⟩) (gn (by decide) (by decide) (by decide) (iq (by decide)) (by decide) io (by simp) (pl2 p J)),?_⟩
  clear h j f l C o
 case' inr.inl=>
  obtain⟨L,A,z,p,l,j,K⟩:=h.sub c g w
  obtain⟨t,r,ht,f,y⟩:=j.short c g
  have b:=f.len c (by omega)
  refine⟨_,_,_,f.fin c (k:=33) (op:=0) (n:=0) (t:=t) (gn (by decide) (by decide) (by decide) (aa9 (by decide) ht) (by decide) io (by simp) (Fz p)) (ht:=by have:=ht.sz;omega),?_⟩
  clear h j f l o ht
 case' inr.inr=>
  have a0:(n==0)=false:=by simpa using s
  have a4:(n==1)=false:=by simpa using u
  obtain⟨t,r,ht,f,y⟩:=h.short c g
  have b:=f.len c (by omega)
  refine⟨_,_,_,f.fin c (k:=26) (op:=0) (n:=0) (t:=t) (gn (by decide) (by decide) (by decide) (aa9 (by decide) ht) (by decide) io (by simp) Lu) (ht:=by have:=ht.sz;omega),?_⟩
  clear h f o ht s u
 all_goals
  clear c G I F H x
  intro ad an al v
  have a:=v.at
  have e:=a.cs
  clear v
  go_in
  repeat' (go_wp2_with (at_builtin;with_reducible refine At.app a rfl (by simp) rfl _ _ rfl rfl rfl ?_;clear a e;intro q ar i a;have e:=a.cs);first
   |(go_at_call 13;(first|with_reducible refine At.runC a (by assumption) ?_|with_reducible refine At.runC a.lit2 (by assumption) ?_|with_reducible refine At.runC a.lit1 (by assumption) ?_);clear a e;intro i a _;have e:=a.cs)
   |(go_at_call 105;with_reducible refine At.runR a (by assumption) ?_;clear a e;intro i q B a;have e:=a.cs)
   |(go_at_call 106;with_reducible refine At.runR a (by assumption) ?_;clear a e;intro i q B a;have e:=a.cs)
   |(go_at_call 99;(first|with_reducible refine At.kids a.lit1 b.1.2 b.1.1 ?_|with_reducible refine At.kids a.lit2 b.1.2 b.1.1 ?_|with_reducible refine At.kids a.nilI b.1.2 b.1.1 ?_);clear a e;intro i a;have e:=a.cs)
   |(go_at_call 98;(first|with_reducible refine At.add a.lit1.nilS b.1.2 b.1.1 ?_|with_reducible refine At.add a.lit2.nilS b.1.2 b.1.1 ?_|with_reducible refine At.add a.lit1.swap b.1.2 b.1.1 ?_|with_reducible refine At.add a.lit2.swap b.1.2 b.1.1 ?_|with_reducible refine At.add a.swap b.1.2 b.1.1 ?_|with_reducible refine At.add a b.1.2 b.1.1 ?_|with_reducible refine At.add a.nilS b.1.2 b.1.1 ?_|with_reducible refine At.add a.nilI.nilS b.1.2 b.1.1 ?_);clear a e;intro i a;have e:=a.cs)
   |(go_ret;exact⟨rfl,a.bd,a.bel⟩)
   |(with_reducible refine At.run a (by assumption) ?_;clear a e;intro i a;have e:=a.cs))
def flL:List ByteArray:=[⟨#[49,46,53]⟩,⟨#[48,46,48]⟩,⟨#[49,101,57]⟩,⟨#[50,46,50,53,101,45,51]⟩,⟨#[57,50,50,51,51,55,50,48,51,54,56,53,52,55,55,53,56,48,56]⟩]
section
variable {T : Int} {c : Cr} {L : List Nd} {m : Int}
theorem afA(p:Pd T c L m)(C:Cd)(E:1<=m):∃z c' L',An T c L c' L' z 1 1 0/\Rb C T 166 [] c L (.int .i64 z) c' L':=by
 have B:=p.lo
 have F:=p.m0
 obtain⟨z,A,G,f,am⟩:=p.mv.pick p C 9
 have e:=f.len p (by omega)
 have l:=f.p0
 have u:=f.p
 rcases(show z=0\/(z=1\/z=2)\/z=3\/z=4\/z=5\/(z≠0/\z≠1/\z≠2/\z≠3/\z≠4/\z≠5) by omega) with rfl|h12|rfl|rfl|rfl|⟨ao,ap,ar,a0,a3,a4⟩
 case' inl=>
  obtain⟨o,q,bl,i,v⟩:=f.pick p C 3
  have bs:=wi (a:=20+o) (by omega)
  refine⟨_,_,_,i.fin p (k:=20+o) (op:=0) (n:=0) (t:=⟨#[]⟩) (gn (by omega) (by decide) (by decide) (iq (by omega)) (by decide) io (by simp) Lu),?_⟩
  clear f i l u B F p G E
 case' inr.inl=>
  obtain⟨n,q,a7,a5,v⟩:=Is C A l.1 (by omega)
  have i:Mv T c L q L 4:=⟨f.nx.trans (Nx.refl L a5.2.2),f.n,by omega,by omega,f.lo⟩
  refine⟨_,_,_,i.fin p (k:=23) (op:=0) (n:=n) (t:=⟨#[]⟩) (gn (by decide) (by decide) a7 (iq (by decide)) (by decide) io (by simp) Lu),?_⟩
  clear f i l u B F p G E a7 a5
 case inr.inr.inl=>
  obtain⟨o,q,bl,i,v⟩:=f.pick p C 5
  obtain⟨t,ht⟩:∃t,flL[o.toNat]?=some t:=⟨_,aF (show o.toNat<5 by omega)⟩
  have af:t.size<=19:=(show ∀t∈flL,t.size<=19 by decide) t (bJ ht)
  refine⟨_,_,_,i.fin p (k:=24) (op:=0) (n:=0) (t:=t) (gn (by decide) (by decide) (by decide) (.inl ⟨by decide,af,qu (by omega)⟩) (by decide) io (by simp) Lu) (ht:=af),fun J ad K h=>?_⟩
  clear f i l u p af
  have b:=h.at
  have d:=b.cs
  clear h
  rcases(show o=0\/o=1\/o=2\/o=3\/o=4 by omega) with rfl|rfl|rfl|rfl|rfl
  all_goals
   obtain rfl:=bh (show some (_:ByteArray)=some t from ht)
   go_in
   go_wp2_with fail
   refine b.runC am fun w1 g _=>?_
   clear b d
   have bk:=g.cu
   have d:=g.cs
   go_wp2_with fail
   refine g.al.runC v fun a9 j a6=>?_
   have bt:=nE bk a6
   have y:=aj j
   clear d a6 g j
   go_wp2_with fail
   refine y.out.nilI.nilS.add e.1.2 e.1.1 fun ba r=>?_
   go_wp2_with fail
   go_ret
   exact⟨rfl,r.bd,r.bel⟩
 case inr.inr.inr.inl=>
  obtain⟨I,q,ak,a8,v⟩:=afy C A l.1 (by omega) l.2
  have H:∀{t:ByteArray},Rb C T 166 [] c L (.int .i64 (L.length:Nat)) q (L++[dN 25 0 0 t [] []])->(Sml t/\A.r<=q.r\/(Lng t/\t.size<=4000/\A.r+1<=q.r))->(A.r<=3->q.r<=3)->∃z c' L',An T c L c' L' z 1 1 0/\Rb C T 166 [] c L (.int .i64 z) c' L':=fun {t} k h bf=>⟨_,_,_,⟨f.nx.add (gn (by decide) (by decide) (by decide) (.inr ⟨rfl,h.imp (fun s=>s.1) fun s=>⟨s.1,s.2.1⟩⟩) (by decide) io (by simp) Lu) (by
   rcases h with h|h
   ·rw[It (show(dN 25 0 0 t [] []).x.size<=19 from h.1.1)];omega
   ·have:bgN (dN 25 0 0 t [] [])<=1:=by unfold bgN;split<;>decide
    omega) bf,by simp,by simp,by simp;omega,⟨by omega,by omega⟩,by simp only[aD,co,dB];omega⟩,k⟩
  by_cases br:4000<I.size
  ·have bc:(4000:Int)<(I.size:Int):=by omega
   refine H (t:=⟨#[99,117,116]⟩) (fun J ad K h=>?_) (.inl ⟨⟨by decide,qu⟩,by omega⟩) (by omega)
   clear H f l u p ak a8
   have b:=h.at
   have d:=b.cs
   clear h
   go_in
   go_wp2_with fail
   refine b.runC am fun w1 g _=>?_
   clear b d
   have d:=g.cs
   go_wp2_with fail
   refine g.runC v fun a9 j _=>?_
   clear g d
   have d:=j.cs
   have y:=aj j
   clear j
   go_wp2_with fail
   refine y.out.nilI.nilS.add e.1.2 e.1.1 fun ba r=>?_
   go_wp2_with fail
   go_ret
   exact⟨rfl,r.bd,r.bel⟩
  ·have bc:¬(4000:Int)<(I.size:Int):=by omega
   refine H (t:=I) (fun J ad K h=>?_) (ak.imp (fun s=>⟨s.1,by omega⟩) fun s=>⟨s.1,by omega,by omega⟩) (by omega)
   clear H f l u p ak a8
   have b:=h.at
   have d:=b.cs
   clear h
   go_in
   go_wp2_with fail
   refine b.runC am fun w1 g _=>?_
   clear b d
   have d:=g.cs
   go_wp2_with fail
   refine g.runC v fun a9 j _=>?_
   clear g d
   have d:=j.cs
   have y:=aj j
   clear j
   go_wp2_with fail
   refine y.out.nilI.nilS.add e.1.2 e.1.1 fun ba r=>?_
   go_wp2_with fail
   go_ret
   exact⟨rfl,r.bd,r.bel⟩
 case' inr.inr.inr.inr.inl=>
  refine⟨_,_,_,f.fin p (k:=27) (op:=0) (n:=0) (t:=⟨#[]⟩) (gn (by decide) (by decide) (by decide) (iq (by decide)) (by decide) io (by simp) Lu),?_⟩
  clear f l u B F p G E
 case' inr.inr.inr.inr.inr=>
  obtain⟨t,q,ht,i,v⟩:=f.short p C
  refine⟨_,_,_,i.fin p (k:=26) (op:=0) (n:=0) (t:=t) (gn (by decide) (by decide) (by decide) (aa9 (by decide) ht) (by decide) io (by simp) Lu) (ht:=by have:=ht.sz;omega),?_⟩
  have bo:((z==0)=false/\(z==1)=false/\(z==2)=false)/\(z==3)=false/\(z==4)=false/\(z==5)=false:=by simp[ao,ap,ar,a0,a3,a4]
  clear f i l u B F p G E ht ao ap ar a0 a3 a4
 case' inr.inl=>rcases h12 with rfl|rfl
 all_goals
  intro J ad K h
  have b:=h.at
  have d:=b.cs
  clear h
  go_in
  repeat' (go_wp2_with (at_builtin;with_reducible refine At.app b rfl (by simp) rfl _ _ rfl rfl rfl ?_;clear b d;intro an bn w b;have d:=b.cs);first
   |(go_at_call 13;(first|with_reducible refine At.runC b (by assumption) ?_|with_reducible refine At.runC b.lit2 (by assumption) ?_|with_reducible refine At.runC b.lit1 (by assumption) ?_);clear b d;intro w b _;have d:=b.cs)
   |(go_at_call 113;with_reducible refine At.runC b (by assumption) ?_;clear b d;intro w b _;have d:=b.cs)
   |(go_at_call 105;with_reducible refine At.runR b (by assumption) ?_;clear b d;intro w an bb b;have d:=b.cs)
   |(go_at_call 106;with_reducible refine At.runR b (by assumption) ?_;clear b d;intro w an bb b;have d:=b.cs)
   |(go_at_call 99;(first|with_reducible refine At.kids b.lit1 e.1.2 e.1.1 ?_|with_reducible refine At.kids b.lit2 e.1.2 e.1.1 ?_|with_reducible refine At.kids b.nilI e.1.2 e.1.1 ?_);clear b d;intro w b;have d:=b.cs)
   |(go_at_call 98;(first|with_reducible refine At.add b.lit1.nilS e.1.2 e.1.1 ?_|with_reducible refine At.add b.lit2.nilS e.1.2 e.1.1 ?_|with_reducible refine At.add b.lit1.swap e.1.2 e.1.1 ?_|with_reducible refine At.add b.lit2.swap e.1.2 e.1.1 ?_|with_reducible refine At.add b.swap e.1.2 e.1.1 ?_|with_reducible refine At.add b e.1.2 e.1.1 ?_|with_reducible refine At.add b.nilS e.1.2 e.1.1 ?_|with_reducible refine At.add b.nilI.nilS e.1.2 e.1.1 ?_);clear b d;intro w b;have d:=b.cs)
   |(go_ret;exact⟨rfl,b.bd,b.bel⟩)
   |(with_reducible refine At.run b (by assumption) ?_;clear b d;intro w b;have d:=b.cs))
end
theorem yC{d:Int}(v:d<=0):FB 107 d 2 1 1 0:=by
 intro k g n l f
 obtain⟨q,o,m,h,w⟩:=afA f k (by decide)
 refine⟨q,o,m,h,?_⟩
 have b:(l.length<=25000/\ -100000<=g/\g<=100000)/\n.p<=20000000:=f.mv.len f (by decide)
 clear h
 intro r t s j
 have a:=j.at
 have c:=a.cs
 clear j
 go_in
 repeat' (go_wp2_with (at_builtin;with_reducible refine At.app a rfl (by simp) rfl _ _ rfl rfl rfl ?_;clear a c;intro i u e a;have c:=a.cs);first
  |(go_at_call 13;(first|with_reducible refine At.runC a (by assumption) ?_|with_reducible refine At.runC a.lit2 (by assumption) ?_|with_reducible refine At.runC a.lit1 (by assumption) ?_);clear a c;intro e a _;have c:=a.cs)
  |(go_at_call 105;with_reducible refine At.runR a (by assumption) ?_;clear a c;intro e i p a;have c:=a.cs)
  |(go_at_call 106;with_reducible refine At.runR a (by assumption) ?_;clear a c;intro e i p a;have c:=a.cs)
  |(go_at_call 99;(first|with_reducible refine At.kids a.lit1 b.1.2 b.1.1 ?_|with_reducible refine At.kids a.lit2 b.1.2 b.1.1 ?_|with_reducible refine At.kids a.nilI b.1.2 b.1.1 ?_);clear a c;intro e a;have c:=a.cs)
  |(go_at_call 98;(first|with_reducible refine At.add a.lit1.nilS b.1.2 b.1.1 ?_|with_reducible refine At.add a.lit2.nilS b.1.2 b.1.1 ?_|with_reducible refine At.add a.lit1.swap b.1.2 b.1.1 ?_|with_reducible refine At.add a.lit2.swap b.1.2 b.1.1 ?_|with_reducible refine At.add a.swap b.1.2 b.1.1 ?_|with_reducible refine At.add a b.1.2 b.1.1 ?_|with_reducible refine At.add a.nilS b.1.2 b.1.1 ?_|with_reducible refine At.add a.nilI.nilS b.1.2 b.1.1 ?_);clear a c;intro e a;have c:=a.cs)
  |(go_ret;exact⟨rfl,a.bd,a.bel⟩)
  |(with_reducible refine At.run a (by assumption) ?_;clear a c;intro e a;have c:=a.cs))
theorem agy{d me mb mc m ce cb cc:Int}(a0:1<=d/\d<=1000)(a6:(1<=me/\me+1<=m)/\(1<=mb/\mb+1<=m)/\(1<=mc/\mc+1<=m))(ar:1<=ce/\ce<=cb/\cb+1<=cc/\cc<=3800)(w:FB 107 (d-1) me 1 ce 0)(L:FB 164 (d-1) mb 2 cb 0)
  (ad:FB 104 d mc 12 cc 100) (ap:FB 167 d mc 12 cc 100) (hF:FB 108 d mc 12 cc 100):FB 107 d m 1 (cc+1) 0:=by
 intro f B an F c
 have bo:=w1 (d:=d) (by omega)
 have a5:=c.lo
 have a7:=c.m0
 have bl:¬d<=0:=by omega
 by_cases bn:B-F.length<5
 case' pos=>
  obtain⟨l,I,am,a,ba⟩:=afA c f (by have:=c.m0;omega)
  have e:(F.length<=25000/\ -100000<=B/\B<=100000)/\an.p<=20000000:=c.mv.len c (by decide)
  refine⟨l,I,am,⟨a.nx,a.n,a.z,a.p,a.p0,by have:=a.lf;omega⟩,?_⟩
  clear a
 case' neg=>
  obtain⟨n,I,a8,i,ba⟩:=c.mv.pick c f 14
  rcases(show(n=0\/n=1\/n=2\/n=3)\/n=4\/(n=5\/n=6)\/n=7\/n=8\/(n=9\/n=10)\/n=11\/n=12\/n=13 by omega) with a9|rfl|hn2|rfl|rfl|hn2|rfl|rfl|rfl
  case' inl=>
   obtain⟨l,q,o,s,r,g,u⟩:=i.sub c f w
   obtain⟨al,C,G,A,y,j,E⟩:=g.sub c f w
   obtain⟨v,J,z,p,ak⟩:=j.pick c f 18
   have e:=p.len c (by omega)
   have af:=wi (a:=1+v) (by omega)
   refine⟨_,_,_,p.fin c (k:=31) (op:=1+v) (n:=0) (t:=⟨#[]⟩) (gn (by decide) (by omega) (by decide) (iq (by decide)) (by decide) io (by simp) (pl2 s A)),?_⟩
   clear g j p r y z
  case' inr.inl=>
   obtain⟨l,q,o,s,r,g,u⟩:=i.sub c f w
   obtain⟨al,C,G,A,y,j,E⟩:=g.sub c f w
   obtain⟨v,J,z,p,ak⟩:=j.pick c f 2
   have e:=p.len c (by omega)
   have af:=wi (a:=28+v) (by omega)
   refine⟨_,_,_,p.fin c (k:=28+v) (op:=0) (n:=0) (t:=⟨#[]⟩) (gn (by omega) (by decide) (by decide) (iq (by omega)) (by decide) io (by simp) (pl2 s A)),?_⟩
   clear g j p r y z
  case' inr.inr.inl=>
   obtain⟨l,q,o,s,r,g,u⟩:=i.sub c f w
   obtain⟨v,J,z,p,ak⟩:=g.pick c f 4
   have e:=p.len c (by omega)
   have af:=wi (a:=19+v) (by omega)
   refine⟨_,_,_,p.fin c (k:=30) (op:=19+v) (n:=0) (t:=⟨#[]⟩) (gn (by decide) (by omega) (by decide) (iq (by decide)) (by decide) io (by simp) (Fz s)),?_⟩
   clear g p r z
  case' inr.inr.inr.inl=>
   obtain⟨l,q,o,s,r,g,u⟩:=i.sub c f L
   obtain⟨al,C,G,A,y,j,E⟩:=g.sub c f w
   have e:=j.len c (by omega)
   refine⟨_,_,_,j.fin c (k:=32) (op:=0) (n:=0) (t:=⟨#[]⟩) (gn (by decide) (by decide) (by decide) (iq (by decide)) (by decide) io (by simp) (pl2 s A)),?_⟩
   clear g j r y
  case' inr.inr.inr.inr.inl=>
   obtain⟨l,q,o,s,r,g,u⟩:=i.sub c f L
   obtain⟨t,C,ht,j,E⟩:=g.short c f
   have e:=j.len c (by omega)
   refine⟨_,_,_,j.fin c (k:=33) (op:=0) (n:=0) (t:=t) (gn (by decide) (by decide) (by decide) (aa9 (by decide) ht) (by decide) io (by simp) (Fz s)) (ht:=by have:=ht.sz;omega),?_⟩
   clear g j r ht
  case' inr.inr.inr.inr.inr.inl=>
   obtain⟨l,q,o,a,u⟩:=i.tail c f ad
   have e:=i.len c (by omega)
   refine⟨l,q,o,⟨a.nx,a.n,a.z,a.p,a.p0,by have:=a.lf;omega⟩,?_⟩
   clear a
  case' inr.inr.inr.inr.inr.inr.inl=>
   obtain⟨l,q,o,a,u⟩:=i.tail c f ap
   have e:=i.len c (by omega)
   refine⟨l,q,o,⟨a.nx,a.n,a.z,a.p,a.p0,by have:=a.lf;omega⟩,?_⟩
   clear a
  case' inr.inr.inr.inr.inr.inr.inr.inl=>
   obtain⟨l,q,o,a,u⟩:=i.tail c f hF
   have e:=i.len c (by omega)
   refine⟨l,q,o,⟨a.nx,a.n,a.z,a.p,a.p0,by have:=a.lf;omega⟩,?_⟩
   clear a
  case' inr.inr.inr.inr.inr.inr.inr.inr=>
   obtain⟨l,q,o,s,r,g,u⟩:=i.sub c f ad
   have e:=g.len c (by omega)
   refine⟨_,_,_,g.fin c (k:=37) (op:=0) (n:=0) (t:=⟨#[]⟩) (gn (by decide) (by decide) (by decide) (iq (by decide)) (by decide) io (by simp) (Fz s)),?_⟩
   clear g r
  all_goals clear i a8
  all_goals (try rcases a9 with rfl|rfl|rfl|rfl)
  all_goals (try rcases hn2 with rfl|rfl)
 all_goals
  clear c a5 a7 ar a6 a0
  intro bb bf bc K
  have b:=K.at
  have h:=b.cs
  clear K
  go_in
  repeat' (go_wp2_with (at_builtin;with_reducible refine At.app b rfl (by simp) rfl _ _ rfl rfl rfl ?_;clear b h;intro H bk x b;have h:=b.cs);first
   |(go_at_call 13;(first|with_reducible refine At.runC b (by assumption) ?_|with_reducible refine At.runC b.lit2 (by assumption) ?_|with_reducible refine At.runC b.lit1 (by assumption) ?_);clear b h;intro x b _;have h:=b.cs)
   |(go_at_call 105;with_reducible refine At.runR b (by assumption) ?_;clear b h;intro x H ao b;have h:=b.cs)
   |(go_at_call 106;with_reducible refine At.runR b (by assumption) ?_;clear b h;intro x H ao b;have h:=b.cs)
   |(go_at_call 99;(first|with_reducible refine At.kids b.lit1 e.1.2 e.1.1 ?_|with_reducible refine At.kids b.lit2 e.1.2 e.1.1 ?_|with_reducible refine At.kids b.nilI e.1.2 e.1.1 ?_);clear b h;intro x b;have h:=b.cs)
   |(go_at_call 98;(first|with_reducible refine At.add b.lit1.nilS e.1.2 e.1.1 ?_|with_reducible refine At.add b.lit2.nilS e.1.2 e.1.1 ?_|with_reducible refine At.add b.lit1.swap e.1.2 e.1.1 ?_|with_reducible refine At.add b.lit2.swap e.1.2 e.1.1 ?_|with_reducible refine At.add b.swap e.1.2 e.1.1 ?_|with_reducible refine At.add b e.1.2 e.1.1 ?_|with_reducible refine At.add b.nilS e.1.2 e.1.1 ?_|with_reducible refine At.add b.nilI.nilS e.1.2 e.1.1 ?_);clear b h;intro x b;have h:=b.cs)
   |(go_ret;exact⟨rfl,b.bd,b.bel⟩)
   |(with_reducible refine At.run b (by assumption) ?_;clear b h;intro x b;have h:=b.cs))
inductive Xsc (C:Cd) (T:Int) (f:FuncId) (d:Int):Nat->Cr->List Nd->List Int->Cr->List Nd->Prop
 |nil (c:Cr) (L:List Nd):Xsc C T f d 0 c L [] c L
 |cons {n:Nat}{c c1 c2:Cr}{L L1 L2:List Nd}{z:Int}{l:List Int}:Rb C T f [.int .i64 d] c L (.int .i64 z) c1 L1->Xsc C T f d n c1 L1 l c2 L2->Xsc C T f d (n+1) c L (z::l) c2 L2
section
variable {T : Int} {c0 c : Cr} {L0 L : List Nd} {y m : Int}
theorem xsc(p:Pd T c0 L0 m)(C:Cd){f:FuncId}{d me s ce:Int}(z:FB f d me s ce 0)(K:1<=me/\me+1<=m)(A:1<=s/\s<=4/\0<=ce/\ce<=3950):∀(n:Nat)(c:Cr)(L:List Nd),Mv T c0 L0 c L y->y<=500->n<=8-> -20000+12*me+s*n<=T-L.length->∃(l:List Int) (c':Cr) (L':List Nd),l.length=n/\Pl l/\(L.length<=L'.length/\Lf (s*n) (ce+s*n) (T-L.length) (T-L'.length)/\(n=0->L'.length=L.length)/\(1<=n->5<=T-L.length->5-ce-s*n+s<=T-L'.length))/\Mv T c0 L0 c' L' y/\Xsc C T f d n c L l c' L':=by
 intro n
 have ad:=p.m0
 induction n with
 |zero=>exact fun c L a _ _ _=>⟨[],c,L,rfl,Lu,⟨ah _,by simp;omega,fun _=>rfl,fun J=>by omega⟩,a,.nil c L⟩
 |succ n e=>
  intro c L a B af b
  have t:s*((n+1:Nat):Int)=s*n+s:=by rw[show((n+1:Nat):Int)=n+1 by omega,Int.mul_add,Int.mul_one]
  have u:s*(n:Int)<=4*8:=Int.mul_le_mul A.2.1 (by omega) (by omega) (by decide)
  have v:0<=s*(n:Int):=Int.mul_nonneg (by omega) (by omega)
  rw[t]at b⊢
  generalize s*(n:Int)=ak at e b u v⊢
  obtain⟨G,q,i,E,H,k,h⟩:=a.sub p C z
  obtain⟨l,r,j,w,x,I,o,g⟩:=e q i (by simpa using k) B (by omega) (by omega)
  exact⟨G::l,r,j,by simp[w],fun F hx=>by rcases List.mem_cons.1 hx with rfl|hx;exact E;exact x F hx,⟨by omega,by omega,by omega,by omega⟩,o,.cons h g⟩
theorem Mv.exprs(p:Pd T c0 L0 m)(a:Mv T c0 L0 c L y)(C:Cd){d me ce:Int}(E:FB 107 d me 1 ce 0)(n:Nat)(ao:n<=8:=by omega)(ap:y<=500:=by omega)(F:1<=me/\me+1<=m:=by omega)(a4:0<=ce/\ce<=3950:=by omega)(q: -20000+12*me+8<=T-L.length:=by omega):
  ∃(ks:List Int) (c':Cr) (L':List Nd),ks.length=n/\Pl ks/\(L.length<=L'.length/\Lf n (ce+n) (T-L.length) (T-L'.length))/\Mv T c0 L0 c' L' y/\Rr C T 106 [.int .i64 n,.int .i64 d] c L 3 n (ks.map (Value.int .i64)) c' L':=by
 obtain⟨ks,x,t,l,o,k,u,e⟩:=xsc p C E F (by omega) n c L a ap ao (by omega)
 refine⟨ks,x,t,l,o,⟨k.1,by simpa using k.2.1⟩,u,fun J ak af A=>?_⟩
 have b:=A.at.nilI
 clear a u p A o k E
 go_in
 go_wp2_with fail
 go_loopw [1,7] (fun s a0 wr=>∃(m h:Nat) (g r:List Int) (j:Cr) (i:List Nd),s= .int .i64 m/\m+h=n/\g.length=h/\At C T J ak wr j i (rI a0 g::af)/\Xsc C T 107 d m j i r x t/\g++r=ks) (fun s _ _=>(intOf s).toNat)
 case atStart=>exact⟨n,0,[],ks,c,L,rfl,rfl,rfl,b,e,rfl⟩
 case round=>
  clear b e
  obtain⟨m,h,g,r,j,i,rfl,G,q,b,H,z⟩:=hrel
  have f:=jw G q z
  have a5:m<=n:=by omega
  clear G q z l
  cases H with
  |@cons m _ am _ _ ad _ a1 ar K I=>
   have F:(0:Int)<((m+1:Nat):Int):=by omega
   have a6:IntKind.i64.wrap (((m+1:Nat):Int)-1)=(m:Int):=by rw[bm];omega
   go_wp2_with fail
   refine b.run K fun w1 w=>?_
   have e:=aj w
   clear b w
   go_wp2_with (at_builtin;refine e.out.app f.2.1 (by have:=f.1;omega) rfl _ _ rfl rfl rfl ?_;intro v a3 a7 al)
   go_roundw
   case rel=>exact⟨m,h+1,g++[a1],ar,am,ad,by go_num,by have:=f.1;omega,by simp[f.2.1],al,I,by rw[cG];exact f.2.2⟩
   case measure=>simp[intOf]
  |nil=>
   obtain⟨l,o,B⟩:=f.out
   rw[dA]at B
   subst B
   obtain⟨v,an,rfl⟩:=b.form
   rw[aI,show g.length=n by omega]at b⊢
   have e:=aj b
   clear b
   go_wp2_with fail
   go_ret
   exact⟨v,an,rfl,e.out.bd,e.out.bel⟩
end
theorem At.intAt{C:Cd}{T:Int}{E:Bs}{W w:World}{c:Cr}{L:List Nd}{R:List Rwx}{r:Rwx}{a:Option Addr}{n cp:Nat}{ks:List Int}(h:At C T E W w c L (r::rI (.slice a n cp) ks::R)){i:Nat}{z:Int}(e:ks[i]?=some z):∃g,a=some ⟨g,0,none⟩/\w.cell? ⟨g,i,none⟩=some (.int .i64 z):=by
 obtain⟨⟨j,_,f⟩,_⟩:=h
 have b:=(f.rows _ (ep _ da)).2
 simp only[aI]at b
 have m:=(List.getElem?_eq_some_iff.1 e).1
 rcases bg b with⟨l,_⟩|⟨g,k,d⟩
 ·omega
 ·simp at d
  obtain⟨rfl,rfl,rfl⟩:=d
  refine⟨g,rfl,?_⟩
  rw[b.cellAt i (by omega),bq,e];rfl
theorem afB{d mb me m cb ce:Int}(ar:1<=mb/\mb+1<=m/\1<=me/\me+2<=m)(an:0<=ce/\ce<=cb/\cb<=3900)(x: -1000<=d/\d<=1000)(al:FB 164 (d-1) mb 2 cb 0)(am:FB 107 (d-1) me 1 ce 0):FB 104 d m 5 (cb+3) 100:=by
 intro h F ba a8 c
 have ap:=c.lo
 have a0:=c.m0
 have bs:=w1 x
 obtain⟨f,bb,a9,z,ad,o,a4⟩:=c.mv.sub c h al
 obtain⟨n,I,y,i,a5⟩:=o.pick c h 3
 obtain⟨n,rfl⟩:=dv y.1
 obtain⟨ks,J,C,ak,v,af,j,a6⟩:=i.exprs c h am n
 have w:=j.len c (by omega)
 refine⟨_,_,_,j.fin c (k:=34) (op:=0) (n:=0) (t:=⟨#[]⟩) (nm:=[]) (ks:=f::ks) (gn (by decide) (by decide) (by decide) (iq (by decide)) (by decide) io (by simp;omega) (fun g hx=>by rcases List.mem_cons.1 hx with rfl|hx;exact z;exact v g hx)),fun A G E u=>?_⟩
 have br:n<3:=by omega
 clear o i j ad af c ap a0 an ar x y z v
 have b:=u.at
 clear u
 go_in
 go_wp2_with fail
 refine b.run a4 fun w1 l=>?_
 clear b
 have L:=l.cs
 go_wp2_with fail
 refine l.lit1.runC a5 fun bt q _=>?_
 clear l L
 go_wp2_with fail
 refine q.runR a6 fun bv p K r=>?_
 have e:=aj r.swap
 clear q r
 go_wp2_with fail
 go_loopw [6,25] (fun a7 iv wr=>∃(a:Nat),iv= .int .i64 a/\a<=n/\At h F A G wr J C (rI a7 (f::ks.take a)::rI (.slice p n K) ks::E)) (fun _ iv _=>n-(intOf iv).toNat)
 case atStart=>exact⟨0,rfl,aJ _,e.out⟩
 case round=>
  clear e
  obtain⟨a,rfl,bo,b⟩:=hrel
  by_cases bl:a<n
  ·obtain⟨g,hx⟩:∃g,ks[a]?=some g:=⟨_,aF (by omega)⟩
   obtain⟨bk,rfl,bf⟩:=b.intAt hx
   have bn:(0:Int)<=(a:Int):=by omega
   have ao:(a:Int)<(n:Int):=by omega
   have e:=eJ b (show(f::ks.take a).length=a+1 by simp;omega)
   have B:=aj (show f::ks.take (a+1)=f::ks.take a++[g] by rw[gv,hx];rfl)
   clear b hx
   go_wp2_with (at_builtin;refine e.1.app e.2 (by omega) rfl _ _ rfl rfl rfl ?_;intro p bc bw H)
   go_roundw
   case rel=>exact⟨a+1,by go_num,by omega,by rw[B.out];exact H⟩
   case measure=>simp[intOf];omega
  ·obtain⟨i,I,rfl⟩:=b.form
   have ao:¬(a:Int)<(n:Int):=by omega
   rw[aI,show(f::ks.take a).length=a+1 by simp;omega]at b⊢
   rw[bH (by omega)]at b
   have e:=aj (b.swap.drop.nilS)
   clear b ak
   go_wp2_with fail
   refine e.out.add w.1.2 w.1.1 fun bx s=>?_
   go_wp2_with fail
   go_ret
   exact⟨rfl,s.bd,s.bel⟩
inductive Bkc (C:Cd) (T:Int) (d:Int):Nat->Cr->List Nd->List Int->Cr->List Nd->Prop
 |stop {n:Nat}{c:Cr}{L:List Nd}:n=0\/¬5<T-L.length->Bkc C T d n c L [] c L
 |cons {n:Nat}{c c1 c2:Cr}{L L1 L2:List Nd}{z:Int}{l:List Int}:5<T-L.length->Rb C T 38 [.int .i64 d] c L (.int .i64 z) c1 L1->Bkc C T d n c1 L1 l c2 L2->Bkc C T d (n+1) c L (z::l) c2 L2
section
variable {T : Int} {c0 c : Cr} {L0 L : List Nd} {y m : Int}
theorem bkc(p:Pd T c0 L0 m)(C:Cd){d ms cs:Int}(hS:FB 38 d ms 6 cs 0)(A:1<=ms/\ms+1<=m)(z:0<=cs/\cs<=3900)(E:y<=500):∀(n:Nat)(c:Cr)(L:List Nd),Mv T c0 L0 c L y->∃(l:List Int) (c':Cr) (L':List Nd),l.length<=n/\Pl l/\((T-L.length<5->L'.length=L.length)/\(5<=T-L.length->5-cs<=T-L'.length))/\Mv T c0 L0 c' L' y/\Bkc C T d n c L l c' L':=by
 intro n
 have B:=p.m0
 induction n with
 |zero=>exact fun c L a=>⟨[],c,L,ah _,Lu,by omega,a,.stop (.inl rfl)⟩
 |succ n t=>
  intro c L a
  by_cases b:5<T-L.length
  ·obtain⟨v,k,g,s,w,i,f⟩:=a.sub p C hS
   obtain⟨l,o,h,q,r,x,j,e⟩:=t k g (by simpa using i)
   exact⟨v::l,o,h,by simp[q],fun u hx=>by rcases List.mem_cons.1 hx with rfl|hx;exact s;exact r u hx,by omega,j,.cons b f e⟩
  ·exact⟨[],c,L,aJ _,Lu,by omega,a,.stop (.inr b)⟩
end
theorem abc{d ms m cs:Int}(G:1<=ms/\ms+1<=m)(F:0<=cs/\cs<=3900)(hS:FB 38 d ms 6 cs 0):FB 111 d m 1 (cs+1) 100:=by
 intro g l ba u c
 have a0:=c.lo
 have a3:=c.m0
 obtain⟨n,A,H,w,a6⟩:=c.mv.pick c g 4
 obtain⟨n,rfl⟩:=dv H.1
 obtain⟨ks,an,v,ar,C,ap,o,e⟩:=bkc c g hS G F (by decide) n A u w
 have E:=o.len c (by omega)
 refine⟨_,_,_,o.fin c (k:=1) (op:=0) (n:=0) (t:=⟨#[]⟩) (nm:=[]) (ks:=ks) (gn (by decide) (by decide) (by decide) (iq (by decide)) (by decide) io (by omega) C),fun K ak af B=>?_⟩
 have bn:n<=3:=by omega
 have b:=B.at.nilI
 have cs:=b.cs
 clear w o ap c a0 a3 F G H C B ar hS
 go_in
 go_wp2_with fail
 refine b.runC a6 fun w1 x _=>?_
 clear b cs
 go_wp2_with fail
 go_loopw [5,6] (fun a8 s wr=>∃(a:Nat) (f r:List Int) (p:Cr) (j:List Nd),s= .int .i64 a/\f.length+a<=3/\At g l K ak wr p j (rI a8 f::af)/\Bkc g l d a p j r an v/\f++r=ks) (fun _ s _=>(intOf s).toNat)
 case atStart=>exact⟨n,[],ks,A,u,rfl,by simp;omega,x,e,rfl⟩
 case round=>
  clear x e
  obtain⟨a,f,r,p,j,rfl,q,b,I,h⟩:=hrel
  have cs:=b.cs
  cases I with
  |@cons a _ ao _ _ ad _ a9 a7 bf L J=>
   have bk:(0:Int)<((a+1:Nat):Int):=by omega
   have bo:IntKind.i64.wrap (((a+1:Nat):Int)-1)=(a:Int):=by rw[bm];omega
   have i:=eJ q h
   have bl:a<=3:=by omega
   clear q h
   go_wp2_with fail
   refine b.run L fun bs y=>?_
   have e:=aj y
   clear b y cs
   go_wp2_with (at_builtin;refine e.out.app rfl (by have:=i.1;omega) rfl _ _ rfl rfl rfl ?_;intro al bc bt am)
   go_roundw
   case rel=>exact⟨a,f++[a9],a7,ao,ad,by go_num,by have:=i.1;simp;omega,am,J,by rw[cG];exact i.2⟩
   case measure=>simp[intOf]
  |stop a5=>
   rw[dA]at h
   subst h
   obtain⟨al,bb,rfl⟩:=b.form
   rw[aI]at b⊢
   have e:=aj b.nilS
   clear b
   have a4:(0<(a:Int)/\¬5<l-v.length)\/¬0<(a:Int):=by omega
   clear a5 q
   rcases a4 with⟨q1,br⟩|q1
   all_goals
    go_wp2_with fail
    refine e.out.add E.1.2 E.1.1 fun bv z=>?_
    go_wp2_with fail
    go_ret
    exact⟨rfl,z.bd,z.bel⟩
inductive Tbc (C:Cd) (T:Int) (d:Int):Nat->Cr->List Nd->List Int->Cr->List Nd->Prop
 |nil (c:Cr) (L:List Nd):Tbc C T d 0 c L [] c L
 |item {n:Nat}{c c1 c2 c3:Cr}{L L1 L3:List Nd}{z:Int}{l:List Int}:Rb C T 107 [.int .i64 d] c L (.int .i64 z) c1 L1->Rc C 13 [.int .i64 3] c1 (.int .i64 0) c2->L1.length<=25000->Tbc C T d n c2 (L1++[dN 40 0 0 ⟨#[]⟩ [] [z]]) l c3 L3->Tbc C T d (n+1) c L ((L1.length:Nat)::l) c3 L3
 |pair {n:Nat}{c c1 c2 c3 c4:Cr}{L L1 L2 L3:List Nd}{z y:Int}{l:List Int}:Rb C T 107 [.int .i64 d] c L (.int .i64 z) c1 L1->Rc C 13 [.int .i64 3] c1 (.int .i64 1) c2->Rb C T 107 [.int .i64 d] c2 L1 (.int .i64 y) c4 L2->L2.length<=25000->Tbc C T d n c4 (L2++[dN 41 0 0 ⟨#[]⟩ [] [z,y]]) l c3 L3->Tbc C T d (n+1) c L ((L2.length:Nat)::l) c3 L3
 |named {n:Nat}{c c1 c2 c3 c4:Cr}{L L1 L3:List Nd}{z o:Int}{t:ByteArray}{l:List Int}:Rb C T 107 [.int .i64 d] c L (.int .i64 z) c1 L1->Rc C 13 [.int .i64 3] c1 (.int .i64 o) c2->((o==0)=false/\(o==1)=false)->Rb C T 165 [] c2 L1 (.string t) c4 L1->L1.length<=25000->Tbc C T d n c4 (L1++[dN 42 0 0 t [] [z]]) l c3 L3->Tbc C T d (n+1) c L ((L1.length:Nat)::l) c3 L3
section
variable {T : Int} {c0 c : Cr} {L0 L : List Nd} {y m : Int}
theorem tbc(p:Pd T c0 L0 m)(C:Cd){d me ce:Int}(I:FB 107 d me 1 ce 0)(a6:1<=me/\me+1<=m)(av:0<=ce/\ce<=3900):∀(n:Nat)(c:Cr)(L:List Nd)(y:Int),Mv T c0 L0 c L y->y<=400->n<=3-> -20000+12*me+3*n<=T-L.length->∃(l:List Int) (c':Cr) (L':List Nd) (b:Int),b<=y/\l.length=n/\Pl l/\(L.length<=L'.length/\Lf (3*n) (ce+3*n) (T-L.length) (T-L'.length))/\Mv T c0 L0 c' L' b/\Tbc C T d n c L l c' L':=by
 intro n
 have a7:=p.m0
 induction n with
 |zero=>exact fun c L y u _ _ _=>⟨[],c,L,y,Int.le_refl _,rfl,Lu,⟨ah _,by simp;omega⟩,u,.nil c L⟩
 |succ n z=>
  intro c L y u ba a8 a0
  obtain⟨F,ao,am,x,ap,ad,A⟩:=u.sub p C I
  obtain⟨t,af,a9,s,B⟩:=ad.pick p C 3
  have g:∀{G:List Nd}{N:Nd},((G++[N]).length:Int)=G.length+1:=by simp
  rcases(show t=0\/t=1\/(t≠0/\t≠1) by omega) with rfl|rfl|⟨ak,al⟩
  ·have r:=s.len p (by omega)
   have e:=s.on (N:=dN 40 0 0 ⟨#[]⟩ [] [F]) (gn (by decide) (by decide) (by decide) (iq (by decide)) (by decide) io (by simp) (Fz x)) (aJ 19) (by omega)
   obtain⟨l,k,i,b,H,o,q,a,j,h⟩:=z af _ _ e (by omega) (by omega) (by rw[g];omega)
   rw[g]at a
   exact⟨_::l,k,i,b,by omega,by simp[o],fun f hx=>by rcases List.mem_cons.1 hx with rfl|hx;exact⟨by omega,by omega⟩;exact q f hx,⟨by have:=a.1;simp at this;omega,by omega⟩,j,.item A B r.1.1 h⟩
  ·obtain⟨f,w,an,hx,ar,e,E⟩:=s.sub p C I
   have r:=e.len p (by omega)
   have v:=e.on (N:=dN 41 0 0 ⟨#[]⟩ [] [F,f]) (gn (by decide) (by decide) (by decide) (iq (by decide)) (by decide) io (by simp) (pl2 x hx)) (aJ 19) (by omega)
   obtain⟨l,k,i,b,H,o,q,a,j,h⟩:=z w _ _ v (by omega) (by omega) (by rw[g];omega)
   rw[g]at a
   exact⟨_::l,k,i,b,by omega,by simp[o],fun f hx=>by rcases List.mem_cons.1 hx with rfl|hx;exact⟨by omega,by omega⟩;exact q f hx,⟨by have:=a.1;simp at this;omega,by omega⟩,j,.pair A B E r.1.1 h⟩
  ·obtain⟨K,w,J,e,E⟩:=s.short p C
   have r:=e.len p (by omega)
   have v:=e.on (N:=dN 42 0 0 K [] [F]) (gn (by decide) (by decide) (by decide) (aa9 (by decide) J) (by decide) io (by simp) (Fz x)) (by have:=J.sz;show K.size<=19;omega) (by omega)
   obtain⟨l,k,i,b,H,o,q,a,j,h⟩:=z w _ _ v (by omega) (by omega) (by rw[g];omega)
   rw[g]at a
   exact⟨_::l,k,i,b,by omega,by simp[o],fun f hx=>by rcases List.mem_cons.1 hx with rfl|hx;exact⟨by omega,by omega⟩;exact q f hx,⟨by have:=a.1;simp at this;omega,by omega⟩,j,.named A B ⟨by simpa using ak,by simpa using al⟩ E r.1.1 h⟩
end
theorem agz{d me m ce:Int}(a5:1<=me/\me+1<=m)(ar:0<=ce/\ce<=3900)(a0: -1000<=d/\d<=1000)(ap:FB 107 (d-1) me 1 ce 0):FB 167 d m 10 (ce+10) 100:=by
 intro x K b7 I j
 have bx:=j.lo
 have bA:=j.m0
 have cc:=w1 a0
 obtain⟨n,af,a6,L,bE⟩:=j.mv.pick j x 4
 obtain⟨n,rfl⟩:=dv a6.1
 obtain⟨ks,bs,bn,cg,bD,bw,ao,bv,A,e⟩:=tbc j x ap a5 ar n af I _ L (by decide) (by omega) (by omega)
 have E:=A.len j (by omega)
 have F:=E.1.2
 refine⟨_,_,_,A.fin j (k:=35) (op:=0) (n:=0) (t:=⟨#[]⟩) (nm:=[]) (ks:=ks) (gn (by decide) (by decide) (by decide) (iq (by decide)) (by decide) io (by omega) ao),fun bl br bo an=>?_⟩
 have ca:n<=3:=by omega
 have b:=an.at.nilI
 have l:=b.cs
 clear L A bv j bx bA ar a5 a6 ao an bw ap a0 bD
 go_in
 go_wp2_with fail
 refine b.runC bE fun w1 ad _=>?_
 clear b l
 go_wp2_with fail
 go_loopw [5,6] (fun bF H wr=>∃(a:Nat) (o G:List Int) (C:Cr) (z:List Nd),H= .int .i64 a/\o.length+a<=3/\At x K bl br wr C z (rI bF o::bo)/\Tbc x K (d-1) a C z G bs bn/\o++G=ks) (fun _ H _=>(intOf H).toNat)
 case atStart=>exact⟨n,[],ks,af,I,rfl,by simp;omega,ad,e,rfl⟩
 case round=>
  clear ad e
  obtain⟨a,o,G,C,z,rfl,a3,b,bk,u⟩:=hrel
  have f:=eJ a3 u
  have b9:a<=3:=by omega
  clear a3 u
  cases bk with
  |nil=>
   have u:=f.2
   rw[dA]at u
   subst u
   obtain⟨B,b8,rfl⟩:=b.form
   rw[aI]at b⊢
   have e:=aj b.nilS
   clear b
   go_wp2_with fail
   refine e.out.add E.1.2 E.1.1 fun bb i=>?_
   go_wp2_with fail
   go_ret
   exact⟨rfl,i.bd,i.bel⟩
  |@item a _ ak al _ _ J _ bf w q r v p=>
   have a4:(0:Int)<((a+1:Nat):Int):=by omega
   have a7:IntKind.i64.wrap (((a+1:Nat):Int)-1)=(a:Int):=by rw[bm];omega
   go_wp2_with fail
   refine b.run q fun a8 c=>?_
   clear b
   have l:=c.cs
   go_wp2_with fail
   refine c.runC r fun a9 g _=>?_
   clear c l
   go_wp2_with fail
   refine g.lit1.kids F v fun ba h=>?_
   have e:=aj h
   clear g h
   go_wp2_with (at_builtin;refine e.out.app rfl (by have:=f.1;omega) rfl _ _ rfl rfl rfl ?_;intro B am bc s)
   go_roundw
   case rel=>exact⟨a,o++[_],w,_,_,by go_num,by have:=f.1;simp;omega,s,p,by rw[cG];exact f.2⟩
   case measure=>simp[intOf]
  |@pair a _ ak al _ bt _ J b0 _ bf cf w q r y v p=>
   have a4:(0:Int)<((a+1:Nat):Int):=by omega
   have a7:IntKind.i64.wrap (((a+1:Nat):Int)-1)=(a:Int):=by rw[bm];omega
   go_wp2_with fail
   refine b.run q fun a8 c=>?_
   clear b
   have l:=c.cs
   go_wp2_with fail
   refine c.runC r fun a9 g _=>?_
   clear c l
   go_wp2_with fail
   refine g.run y fun ba h=>?_
   clear g
   go_wp2_with fail
   refine h.lit2.kids F v fun bb i=>?_
   have e:=aj i
   clear h i
   go_wp2_with (at_builtin;refine e.out.app rfl (by have:=f.1;omega) rfl _ _ rfl rfl rfl ?_;intro B am bc s)
   go_roundw
   case rel=>exact⟨a,o++[_],w,_,_,by go_num,by have:=f.1;simp;omega,s,p,by rw[cG];exact f.2⟩
   case measure=>simp[intOf]
  |@named a _ ak al _ bt _ J _ bf cd t w q r cb y v p=>
   have a4:(0:Int)<((a+1:Nat):Int):=by omega
   have a7:IntKind.i64.wrap (((a+1:Nat):Int)-1)=(a:Int):=by rw[bm];omega
   go_wp2_with fail
   refine b.run q fun a8 c=>?_
   clear b
   have l:=c.cs
   go_wp2_with fail
   refine c.runC r fun a9 g _=>?_
   clear c l
   go_wp2_with fail
   refine g.run y fun ba h=>?_
   clear g
   go_wp2_with fail
   refine h.lit1.nilS.add F v fun bb i=>?_
   have e:=aj i
   clear h i
   go_wp2_with (at_builtin;refine e.out.app rfl (by have:=f.1;omega) rfl _ _ rfl rfl rfl ?_;intro B am bc s)
   go_roundw
   case rel=>exact⟨a,o++[_],w,_,_,by go_num,by have:=f.1;simp;omega,s,p,by rw[cG];exact f.2⟩
   case measure=>simp[intOf]
def FBl(f:FuncId)(d m s k b:Int):Prop:=∀ ⦃C:Cd⦄ ⦃T:Int⦄ ⦃c:Cr⦄ ⦃L:List Nd⦄,Pd T c L m->T-L.length<=b->∃a c' L',An T c L c' L' a s k 100/\Rb C T f [.int .i64 d] c L (.int .i64 a) c' L'
theorem FBl.all{f:FuncId}{d m s k:Int}(b:FBl f d m s k 140):FB f d m s k 100:=fun _ _ _ _ a=>b a (by have:=a.sum;omega)
theorem Mv.subL{T:Int}{h c:Cr}{g L:List Nd}{i m:Int}(p:Pd T h g m)(a:Mv T h g c L i)(C:Cd){f:FuncId}{d e s k b:Int}(hF:FBl f d e s k b)(v:T-L.length<=b)(H:1<=e/\e+1<=m)(J:i<=500)(w: -20000+12*e<=T-L.length)(I:s<=12/\k<=4000):
  ∃(z:Int) (c':Cr) (L':List Nd),(0<=z/\z<=100000)/\(L.length<L'.length/\z=L'.length-1/\Lf s k (T-L.length) (T-L'.length))/\Mv T h g c' L' (i-100)/\Rb C T f [.int .i64 d] c L (.int .i64 z) c' L':=by
 have G:=a.len p (by omega)
 have y:=p.hx
 have A:=a.p
 have u:=a.p0
 have B:=p.m0
 have E:=a.n
 have F:=p.sum
 obtain⟨z,c',L',b,j⟩:=hF (C:=C) (T:=T) (c:=c) (L:=L) ⟨p.sum,w,by omega,by omega,u⟩ v
 obtain⟨l,o,q,x,r,t⟩:=b
 exact⟨z,c',L',by omega,⟨o,q,t⟩,⟨a.nx.trans l,by omega,by omega,r,by omega⟩,j⟩
theorem Cz{d me mk mr m ce ck cr k b:Int}(A: -1000<=d/\d<=1000)(B:(1<=me/\me+1<=m)/\(1<=mk/\mk+1<=m)/\(1<=mr/\mr+1<=m))(L:(0<=ce/\ce+3<=k)/\(0<=ck/\ck+3<=k)/\(0<=cr/\cr+1<=k)/\k<=3800)(K:FB 107 d me 1 ce 0)(y:FB 111 (d-1) mk 1 ck 0)
  (z:10<b->FBl 110 (d-1) mr 4 cr (b-2)):FBl 110 d m 4 k b:=by
 intro i F a6 ap c ad
 have bf:=w1 A
 have af:=c.lo
 have ak:=c.m0
 obtain⟨br,a7,ar,q,I,r,bk⟩:=c.mv.sub c i K
 obtain⟨bo,a8,C,p,J,s,bl⟩:=r.sub c i y
 obtain⟨n,a9,al,g,bn⟩:=s.pick c i 3
 have l:=gn (k:=7) (op:=0) (n:=0) (t:=⟨#[]⟩) (by decide) (by decide) (by decide) (iq (by decide)) (by decide) io (by simp) (pl2 q p)
 have a:=g.len c (by omega)
 rcases(show n=0\/n=1\/(n≠0/\n≠1) by omega) with rfl|rfl|⟨v,w⟩
 case' inl=>
  obtain⟨an,G,E,o,j,f,am⟩:=g.sub c i y
  have a:=f.len c (by omega)
  refine⟨_,_,_,f.fin c (gn (k:=7) (op:=0) (n:=0) (t:=⟨#[]⟩) (by decide) (by decide) (by decide) (iq (by decide)) (by decide) io (by simp) ((pl2 q p).add o)),?_⟩
  clear f j
 case' inr.inl=>
  by_cases bc:10<F-C.length
  case' pos=>
   obtain⟨an,G,E,o,j,f,am⟩:=g.subL c i (z (by omega)) (by omega) B.2.2 (by omega) (by omega) (by omega)
   have a:=f.len c (by omega)
   refine⟨_,_,_,f.fin c (gn (k:=7) (op:=0) (n:=0) (t:=⟨#[]⟩) (by decide) (by decide) (by decide) (iq (by decide)) (by decide) io (by simp) ((pl2 q p).add o)),?_⟩
   clear f j
  case' neg=>refine⟨_,_,_,g.fin c l,?_⟩
 case' inr.inr=>
  refine⟨_,_,_,g.fin c l,?_⟩
  have bb:(n==0)=false/\(n==1)=false:=by simp[v,w]
  clear v w
 all_goals
  clear r s g I J al l c af ak L B A ad z
  intro ao a5 a0 x
  have b:=x.at
  have e:=b.cs
  clear x
  go_in
  repeat' (go_wp2_with (at_builtin;with_reducible refine At.app b rfl (by simp) rfl _ _ rfl rfl rfl ?_;clear b e;intro u ba h b;have e:=b.cs);first
   |(go_at_call 13;(first|with_reducible refine At.runC b (by assumption) ?_|with_reducible refine At.runC b.lit2 (by assumption) ?_|with_reducible refine At.runC b.lit1 (by assumption) ?_);clear b e;intro h b _;have e:=b.cs)
   |(go_at_call 105;with_reducible refine At.runR b (by assumption) ?_;clear b e;intro h u H b;have e:=b.cs)
   |(go_at_call 106;with_reducible refine At.runR b (by assumption) ?_;clear b e;intro h u H b;have e:=b.cs)
   |(go_at_call 99;(first|with_reducible refine At.kids b.lit1 a.1.2 a.1.1 ?_|with_reducible refine At.kids b.lit2 a.1.2 a.1.1 ?_|with_reducible refine At.kids b.nilI a.1.2 a.1.1 ?_);clear b e;intro h b;have e:=b.cs)
   |(go_at_call 98;(first|with_reducible refine At.add b.lit1.nilS a.1.2 a.1.1 ?_|with_reducible refine At.add b.lit2.nilS a.1.2 a.1.1 ?_|with_reducible refine At.add b.lit1.swap a.1.2 a.1.1 ?_|with_reducible refine At.add b.lit2.swap a.1.2 a.1.1 ?_|with_reducible refine At.add b.swap a.1.2 a.1.1 ?_|with_reducible refine At.add b a.1.2 a.1.1 ?_|with_reducible refine At.add b.nilS a.1.2 a.1.1 ?_|with_reducible refine At.add b.nilI.nilS a.1.2 a.1.1 ?_);clear b e;intro h b;have e:=b.cs)
   |(go_ret;exact⟨rfl,b.bd,b.bel⟩)
   |(with_reducible refine At.run b (by assumption) ?_;clear b e;intro h b;have e:=b.cs))
theorem agA{d C' m:Int}(G:d<=0)(s:2<=m)(q:0<=C'/\C'<=3800)(p:FB 104 1 (m-1) 5 C' 0):FB 38 d m 6 (C'+1) 0:=by
 intro j A C x e
 have r:=e.lo
 have u:=e.m0
 obtain⟨I,E,y,v,o,g,H⟩:=e.mv.sub e j p
 have b:=g.len e (by omega)
 refine⟨_,_,_,g.fin e (k:=6) (op:=0) (n:=0) (t:=⟨#[]⟩) (gn (by decide) (by decide) (by decide) (iq (by decide)) (by decide) io (by simp) (Fz v)),?_⟩
 clear g o e r u q s
 intro w B z i
 have a:=i.at
 have c:=a.cs
 clear i
 go_in
 repeat' (go_wp2_with (at_builtin;with_reducible refine At.app a rfl (by simp) rfl _ _ rfl rfl rfl ?_;clear a c;intro h F f a;have c:=a.cs);first
  |(go_at_call 13;(first|with_reducible refine At.runC a (by assumption) ?_|with_reducible refine At.runC a.lit2 (by assumption) ?_|with_reducible refine At.runC a.lit1 (by assumption) ?_);clear a c;intro f a _;have c:=a.cs)
  |(go_at_call 105;with_reducible refine At.runR a (by assumption) ?_;clear a c;intro f h l a;have c:=a.cs)
  |(go_at_call 106;with_reducible refine At.runR a (by assumption) ?_;clear a c;intro f h l a;have c:=a.cs)
  |(go_at_call 99;(first|with_reducible refine At.kids a.lit1 b.1.2 b.1.1 ?_|with_reducible refine At.kids a.lit2 b.1.2 b.1.1 ?_|with_reducible refine At.kids a.nilI b.1.2 b.1.1 ?_);clear a c;intro f a;have c:=a.cs)
  |(go_at_call 98;(first|with_reducible refine At.add a.lit1.nilS b.1.2 b.1.1 ?_|with_reducible refine At.add a.lit2.nilS b.1.2 b.1.1 ?_|with_reducible refine At.add a.lit1.swap b.1.2 b.1.1 ?_|with_reducible refine At.add a.lit2.swap b.1.2 b.1.1 ?_|with_reducible refine At.add a.swap b.1.2 b.1.1 ?_|with_reducible refine At.add a b.1.2 b.1.1 ?_|with_reducible refine At.add a.nilS b.1.2 b.1.1 ?_|with_reducible refine At.add a.nilI.nilS b.1.2 b.1.1 ?_);clear a c;intro f a;have c:=a.cs)
  |(go_ret;exact⟨rfl,a.bd,a.bel⟩)
  |(with_reducible refine At.run a (by assumption) ?_;clear a c;intro f a;have c:=a.cs))
theorem aik{C:Cd}{T:Int}{c an s B ao t:Cr}{L w k:List Nd}{d z o u:Int}{q f:Nat}{ks g:List Int}(bx:1<=d/\d<=1000)(b6:¬T-L.length<8)(bc:z=4\/z=5\/z=6)(bf:Rc C 13 [.int .i64 17] c (.int .i64 z) an)(bk:Rc C 13 [.int .i64 2] an (.int .i64 o) s)(b7:IntKind.i64.wrap (1+o)=(q:Int))(b9:q<=3)(e:Xsc C T 109 d q s L ks B w)(bl:Rc C 13 [.int .i64 2] B (.int .i64 u) ao)(b8:IntKind.i64.wrap (1+u)=(f:Int))(ca:f<=3)(bn:Rr C T 106 [.int .i64 f,.int .i64 d] ao w 3 f (g.map (Value.int .i64)) t k)(v:ks.length=q)(bb:g.length=f)(ar:(k.length<=25000/\ -100000<=T/\T<=100000)/\t.p<=20000000):Rb C T 38 [.int .i64 d] c L (.int .i64 (k.length:Nat)) t (k++[dN 5 0 q ⟨#[]⟩ [] (ks++g)]):=by
 intro ad ak af ap
 have b:=ap.at
 have m:=b.cs
 have bA:¬d<=0:=by omega
 clear ap
 rcases bc with rfl|rfl|rfl
 all_goals
  go_in
  go_wp2_with fail
  refine b.runC bf fun w1 A _=>?_
  clear b m
  have m:=A.cs
  go_wp2_with fail
  refine A.runC bk fun cb al _=>?_
  clear A m
  go_wp2_with fail
  go_loopw [11,13] (fun J iv wr=>∃(a:Nat) (r:Nat) (h I:List Int) (E:Cr) (x:List Nd),iv= .int .i64 a/\a+r=q/\h.length=a/\At C T ad ak wr E x (rI J h::af)/\Xsc C T 109 d r E x I B w/\h++I=ks) (fun _ iv _=>q-(intOf iv).toNat)
  case atStart=>exact⟨0,q,[],ks,s,L,rfl,by simp,rfl,al.nilI,e,rfl⟩
  case round=>
   clear al
   obtain⟨a,r,h,I,E,x,rfl,G,a0,b,a3,n⟩:=hrel
   have i:=jw G a0 n
   have b0:a<=q:=by omega
   clear a0 n
   cases a3 with
   |@cons r _ a8 _ _ a7 _ bs bo a6 a4=>
    have F:(a:Int)<(q:Int):=by omega
    clear G
    go_wp2_with fail
    refine b.run a6 fun br l=>?_
    have e:=aj l
    clear b l
    go_wp2_with (at_builtin;refine e.out.app i.2.1 (by omega) rfl _ _ rfl rfl rfl ?_;intro y ba a1 j)
    go_roundw
    case rel=>exact⟨a+1,r,h++[bs],bo,a8,a7,by go_num,by have:=i.1;omega,by simp[i.2.1],j,a4,by rw[cG];exact i.2.2⟩
    case measure=>simp[intOf];omega
   |nil=>
    have F:¬(a:Int)<(q:Int):=by omega
    have n:=i.2.2
    rw[dA]at n
    subst n
    have m:=b.cs
    clear G i
    go_wp2_with fail
    refine b.runC bl fun br l _=>?_
    clear b m
    go_wp2_with fail
    refine l.runR bn fun a1 y a9 j=>?_
    have e:=aj j.swap
    clear l j
    go_wp2_with fail
    go_loopw [11,118] (fun J iv wr=>∃(a:Nat),iv= .int .i64 a/\a<=f/\At C T ad ak wr t k (rI J (h++g.take a)::rI (.slice y f a9) g::af)) (fun _ iv _=>f-(intOf iv).toNat)
    case atStart=>exact⟨0,rfl,aJ _,by simpa using e.out⟩
    case round=>
     clear e
     obtain⟨a,rfl,bF,b⟩:=hrel
     by_cases bD:a<f
     ·obtain⟨K,H⟩:∃K,g[a]?=some K:=⟨_,aF (by omega)⟩
      obtain⟨bw,rfl,bv⟩:=b.intAt H
      have bE:(0:Int)<=(a:Int):=by omega
      have F:(a:Int)<(f:Int):=by omega
      have e:=eJ b (show(h++g.take a).length=q+a by rw[aD,dt,v];omega)
      have a5:=aj (show h++g.take (a+1)=h++g.take a++[K] by rw[gv,H,cG];rfl)
      clear b H v
      go_wp2_with (at_builtin;refine e.1.app e.2 (by omega) rfl _ _ rfl rfl rfl ?_;intro y ba a1 j)
      go_roundw
      case rel=>exact⟨a+1,by go_num,by omega,by rw[a5.out];exact j⟩
      case measure=>simp[intOf];omega
     ·obtain⟨bt,s,rfl⟩:=b.form
      have F:¬(a:Int)<(f:Int):=by omega
      rw[aI,show(h++g.take a).length=q+a by rw[aD,dt,v];omega]at b⊢
      rw[bH (by omega)]at b
      have e:=aj (b.swap.drop.nilS)
      clear b v bb
      go_wp2_with fail
      refine e.out.add ar.1.2 ar.1.1 fun cc am=>?_
      go_wp2_with fail
      go_ret
      exact⟨rfl,am.bd,am.bel⟩
theorem ail{d mm m C':Int}(b0:1<=d/\d<=1000)(b4:1<=mm/\mm+2<=m)(bF:4<=C'/\C'<=3700)(I:FB 107 d mm 1 C' 0)(bn:FB 108 d mm 12 C' 0)(bo:FB 109 d mm 4 (C'-3) 0)(a9:FB 104 d mm 12 C' 0)(bl:FB 104 1 mm 5 C' 0)
  (bk:FB 110 d mm 12 C' 100) (ad:FB 111 (d-1) mm 1 C' 100):FB 38 d m 6 (C'+5) 0:=by
 intro e ap cf ba b
 have cm:=w1 (d:=d) (by omega)
 have b3:=b.lo
 have b5:=b.m0
 have ck:¬d<=0:=by omega
 by_cases b2:ap-ba.length<8
 case' pos=>
  obtain⟨E,bw,cc,r,bE,l,br⟩:=b.mv.sub b e bl
  have g:=l.len b (by omega)
  refine⟨_,_,_,l.fin b (k:=6) (op:=0) (n:=0) (t:=⟨#[]⟩) (gn (by decide) (by decide) (by decide) (iq (by decide)) (by decide) io (by simp) (Fz r)),?_⟩
  clear l bE
 case' neg=>
  obtain⟨n,bw,b6,l,br⟩:=b.mv.pick b e 17
  rcases(show(n=0\/n=1)\/n=2\/n=3\/(n=4\/n=5\/n=6)\/n=7\/(n=8\/n=9)\/n=10\/n=11\/n=12\/n=13\/n=14\/n=15\/n=16 by omega) with hn2|rfl|rfl|hn'|rfl|hn2|rfl|rfl|rfl|rfl|rfl|rfl|rfl
  case' inl=>
   obtain⟨j,s,C,f,A⟩:=l.pick b e 3
   obtain⟨i,x⟩:∃i:Nat,1+j=(i:Int):=⟨(1+j).toNat,by omega⟩
   have a0:=wq x (by omega)
   obtain⟨nm,u,z,o,h,w⟩:=f.names b e i
   obtain⟨G,am,K,q,an⟩:=h.pick b e 3
   obtain⟨G,rfl⟩:=dv K.1
   obtain⟨ks,ar,bv,L,H,bc,p,al⟩:=q.exprs b e I G
   have g:=p.len b (by omega)
   refine⟨_,_,_,p.fin b (k:=2) (op:=0) (n:=0) (t:=⟨#[]⟩) (nm:=nm) (ks:=ks) (gn (by decide) (by decide) (by decide) (iq (by decide)) (by omega) o (by omega) H),?_⟩
   clear f h q p bc C K z o L H x
  case' inr.inl=>
   obtain⟨E,s,B,r,y,f,A⟩:=l.sub b e I
   obtain⟨nm,u,z,o,h,w⟩:=f.names b e 1
   replace w:Rr e ap 105 [.int .i64 1] s B 9 1 (nm.map Value.string) u B:=w
   have g:=h.len b (by omega)
   refine⟨_,_,_,h.fin b (k:=3) (op:=0) (n:=0) (t:=⟨#[]⟩) (nm:=nm) (gn (by decide) (by decide) (by decide) (iq (by decide)) (by omega) o (by simp) (Fz r)),?_⟩
   clear f h y z o
  case' inr.inr.inl=>
   obtain⟨E,s,B,r,y,f,A⟩:=l.sub b e bn
   obtain⟨nm,u,z,o,h,w⟩:=f.names b e 1
   replace w:Rr e ap 105 [.int .i64 1] s B 9 1 (nm.map Value.string) u B:=w
   have g:=h.len b (by omega)
   refine⟨_,_,_,h.fin b (k:=4) (op:=0) (n:=0) (t:=⟨#[]⟩) (nm:=nm) (gn (by decide) (by decide) (by decide) (iq (by decide)) (by omega) o (by simp) (Fz r)),?_⟩
   clear f h y z o
  case inr.inr.inr.inl=>
   obtain⟨j,s,C,f,A⟩:=l.pick b e 2
   obtain⟨i,x⟩:∃i:Nat,1+j=(i:Int):=⟨(1+j).toNat,by omega⟩
   have a0:=wq x (by omega)
   obtain⟨ks,u,J,z,o,F,h,bt⟩:=xsc b e bo (by omega) (by omega) i s ba f (by omega) (by omega) (by omega)
   obtain⟨G,am,K,q,an⟩:=h.pick b e 2
   obtain⟨ca,bD⟩:∃i:Nat,1+G=(i:Int):=⟨(1+G).toNat,by omega⟩
   have b7:=wq bD (by omega)
   have cl:12-C'-4*i<=ap-J.length:=by have:=F.2.2.2 (by omega) (by omega);omega
   obtain⟨b9,ar,bv,L,H,bc,p,al⟩:=q.exprs b e I ca
   have g:=p.len b (by omega)
   exact⟨_,_,_,p.fin b (k:=5) (op:=0) (n:=i) (t:=⟨#[]⟩) (nm:=[]) (ks:=ks++b9) (gn (by decide) (by decide) (by omega) (iq (by decide)) (by decide) io (by rw[aD];omega) (fun bs b8=>(List.mem_append.1 b8).elim (o bs) (H bs))),aik b0 b2 hn' br A a0 (by omega) bt an b7 (by omega) al z L g⟩
  case' inr.inr.inr.inr.inl=>
   obtain⟨E,s,B,r,y,f,A⟩:=l.sub b e a9
   have g:=f.len b (by omega)
   refine⟨_,_,_,f.fin b (k:=6) (op:=0) (n:=0) (t:=⟨#[]⟩) (gn (by decide) (by decide) (by decide) (iq (by decide)) (by decide) io (by simp) (Fz r)),?_⟩
   clear f y
  case' inr.inr.inr.inr.inr.inl=>
   obtain⟨E,s,B,a,A⟩:=l.tail b e bk
   have g:=l.len b (by omega)
   refine⟨E,s,B,⟨a.nx,a.n,a.z,a.p,a.p0,by have:=a.lf;omega⟩,?_⟩
   clear a
  case' inr.inr.inr.inr.inr.inr.inl=>
   obtain⟨E,s,B,r,y,f,A⟩:=l.sub b e I
   obtain⟨a6,u,J,ak,F,h,w⟩:=f.sub b e ad
   have g:=h.len b (by omega)
   refine⟨_,_,_,h.fin b (k:=8) (op:=0) (n:=0) (t:=⟨#[]⟩) (gn (by decide) (by decide) (by decide) (iq (by decide)) (by decide) io (by simp) (pl2 r ak)),?_⟩
   clear f h y F
  case' inr.inr.inr.inr.inr.inr.inr.inl=>
   obtain⟨j,s,C,f,A⟩:=l.pick b e 2
   obtain⟨i,x⟩:∃i:Nat,2+j=(i:Int):=⟨(2+j).toNat,by omega⟩
   have a0:=wq x (by omega)
   obtain⟨ks,u,J,L,H,F,h,w⟩:=f.exprs b e I i
   obtain⟨a6,am,a7,ak,a8,q,an⟩:=h.sub b e ad
   obtain⟨nm,ar,z,o,p,al⟩:=q.names b e 1
   replace al:Rr e ap 105 [.int .i64 1] am a7 9 1 (nm.map Value.string) ar a7:=al
   have g:=p.len b (by omega)
   refine⟨_,_,_,p.fin b (k:=9) (op:=0) (n:=0) (t:=⟨#[]⟩) (nm:=nm) (ks:=ks++[a6]) (gn (by decide) (by decide) (by decide) (iq (by decide)) (by omega) o (by simp;omega) (H.add ak)),?_⟩
   have b1:i<=1000:=by omega
   clear f h q p F a8 C z o H x
  case' inr.inr.inr.inr.inr.inr.inr.inr.inl=>
   obtain⟨E,s,B,r,y,f,A⟩:=l.sub b e I
   obtain⟨a6,u,J,ak,F,h,w⟩:=f.sub b e ad
   obtain⟨j,am,C,q,an⟩:=h.pick b e 2
   obtain⟨i,x⟩:∃i:Nat,1+j=(i:Int):=⟨(1+j).toNat,by omega⟩
   have a0:=wq x (by omega)
   obtain⟨nm,ar,z,o,p,al⟩:=q.names b e i
   have g:=p.len b (by omega)
   refine⟨_,_,_,p.fin b (k:=10) (op:=0) (n:=0) (t:=⟨#[]⟩) (nm:=nm) (gn (by decide) (by decide) (by decide) (iq (by decide)) (by omega) o (by simp) (pl2 r ak)),?_⟩
   clear f h q p y F C z o x
  case' inr.inr.inr.inr.inr.inr.inr.inr.inr.inl=>
   obtain⟨j,s,C,f,A⟩:=l.pick b e 2
   by_cases af:j=0
   case' pos=>
    subst af
    obtain⟨G,u,K,h,w⟩:=f.pick b e 2
    have cn:=wi (a:=11+G) (by omega)
    have g:=h.len b (by omega)
    refine⟨_,_,_,h.fin b (k:=11+G) (op:=0) (n:=0) (t:=⟨#[]⟩) (gn (by omega) (by decide) (by decide) (iq (by omega)) (by decide) io (by simp) Lu),?_⟩
    clear h K
   case' neg=>
    have bA:(j==0)=false:=by simpa using af
    obtain⟨G,u,K,h,w⟩:=f.pick b e 3
    obtain⟨G,rfl⟩:=dv K.1
    obtain⟨ks,am,a7,L,H,a8,q,an⟩:=h.exprs b e I G
    have g:=q.len b (by omega)
    refine⟨_,_,_,q.fin b (k:=13) (op:=0) (n:=0) (t:=⟨#[]⟩) (ks:=ks) (gn (by decide) (by decide) (by decide) (iq (by decide)) (by decide) io (by omega) H),?_⟩
    clear h q a8 K L H af
   all_goals clear f C
  case' inr.inr.inr.inr.inr.inr.inr.inr.inr.inr.inl=>
   obtain⟨E,s,B,r,y,f,A⟩:=l.sub b e ad
   obtain⟨a6,u,J,ak,F,h,w⟩:=f.sub b e ad
   obtain⟨j,am,C,q,an⟩:=h.pick b e 2
   obtain⟨i,x⟩:∃i:Nat,1+j=(i:Int):=⟨(1+j).toNat,by omega⟩
   have a0:=wq x (by omega)
   obtain⟨nm,ar,z,o,p,al⟩:=q.names b e i
   have g:=p.len b (by omega)
   refine⟨_,_,_,p.fin b (k:=14) (op:=0) (n:=0) (t:=⟨#[]⟩) (nm:=nm) (gn (by decide) (by decide) (by decide) (iq (by decide)) (by omega) o (by simp) (pl2 r ak)),?_⟩
   clear f h q p y F C z o x
  case' inr.inr.inr.inr.inr.inr.inr.inr.inr.inr.inr.inl=>
   obtain⟨j,s,C,f,A⟩:=l.pick b e 2
   by_cases af:j=0
   case' pos=>
    subst af
    obtain⟨E,u,J,a,w⟩:=f.tail b e ad
    have g:=f.len b (by omega)
    refine⟨E,u,J,⟨a.nx,a.n,a.z,a.p,a.p0,by have:=a.lf;omega⟩,?_⟩
    clear a
   case' neg=>
    have bA:(j==0)=false:=by simpa using af
    obtain⟨E,u,J,r,F,h,w⟩:=f.sub b e I
    have g:=h.len b (by omega)
    refine⟨_,_,_,h.fin b (k:=15) (op:=0) (n:=0) (t:=⟨#[]⟩) (gn (by decide) (by decide) (by decide) (iq (by decide)) (by decide) io (by simp) (Fz r)),?_⟩
    clear h F af
   all_goals clear f C
  case' inr.inr.inr.inr.inr.inr.inr.inr.inr.inr.inr.inr=>
   obtain⟨E,s,B,r,y,f,A⟩:=l.sub b e a9
   have g:=f.len b (by omega)
   refine⟨_,_,_,f.fin b (k:=16) (op:=0) (n:=0) (t:=⟨#[]⟩) (gn (by decide) (by decide) (by decide) (iq (by decide)) (by decide) io (by simp) (Fz r)),?_⟩
   clear f y
  all_goals clear l b6
  all_goals (try rcases hn2 with rfl|rfl)
 all_goals
  clear b b3 bF b4 b5 I bn bo a9 bl bk ad
  intro cb ce cd bf
  have c:=bf.at
  have v:=c.cs
  clear bf
  go_in
  repeat' (go_wp2_with (at_builtin;with_reducible refine At.app c L b1 rfl _ _ rfl rfl rfl ?_;clear c v;intro bb cg ao c;have v:=c.cs);first
   |(go_at_call 13;(first|with_reducible refine At.runC c (by assumption) ?_|with_reducible refine At.runC c.lit2 (by assumption) ?_|with_reducible refine At.runC c.lit1 (by assumption) ?_);clear c v;intro ao c _;have v:=c.cs)
   |(go_at_call 105;with_reducible refine At.runR c (by assumption) ?_;clear c v;intro ao bb bx c;have v:=c.cs)
   |(go_at_call 106;with_reducible refine At.runR c (by assumption) ?_;clear c v;intro ao bb bx c;have v:=c.cs)
   |(go_at_call 99;(first|with_reducible refine At.kids c.lit1 g.1.2 g.1.1 ?_|with_reducible refine At.kids c.lit2 g.1.2 g.1.1 ?_|with_reducible refine At.kids c.nilI g.1.2 g.1.1 ?_);clear c v;intro ao c;have v:=c.cs)
   |(go_at_call 98;(first|with_reducible refine At.add c.lit1.nilS g.1.2 g.1.1 ?_|with_reducible refine At.add c.lit2.nilS g.1.2 g.1.1 ?_|with_reducible refine At.add c.lit1.swap g.1.2 g.1.1 ?_|with_reducible refine At.add c.lit2.swap g.1.2 g.1.1 ?_|with_reducible refine At.add c.swap g.1.2 g.1.1 ?_|with_reducible refine At.add c g.1.2 g.1.1 ?_|with_reducible refine At.add c.nilS g.1.2 g.1.1 ?_|with_reducible refine At.add c.nilI.nilS g.1.2 g.1.1 ?_);clear c v;intro ao c;have v:=c.cs)
   |(go_ret;exact⟨rfl,c.bd,c.bel⟩)
   |(with_reducible refine At.run c (by assumption) ?_;clear c v;intro ao c;have v:=c.cs))
theorem afC:FB 104 1 10 5 5 100:=afB (mb:=3) (me:=2) (cb:=2) (ce:=1) (by decide) (by decide) (by decide) (afz (me:=2) (ce:=1) (by decide) (by decide) (yC (by decide))) (yC (by decide))
theorem Gr{d:Int}(a:d<=0):FB 111 d 16 1 7 100:=abc (ms:=15) (cs:=6) (by decide) (by decide) (agA (C':=5) a (by decide) (by decide) afC.up)
theorem aed:∀(b:Nat)(d:Int),b<=1000->d<=0-> -1000+(b:Int)<=d->FBl 110 d (17+b) 4 (10+((b / 2:Nat):Int)) b:=by
 intro b
 induction b using Nat.strongRecOn with
 |_ b e=>
  intro d f a g
  rcases ci b 2 with hb2|hb2
  ·refine Cz (me:=2) (mk:=16) (mr:=15) (ce:=1) (ck:=7) (cr:=0) (by omega) (by omega) (by omega) (yC a) (Gr (by omega)).up (fun c=>by omega)
  refine Cz (me:=2) (mk:=16) (mr:=15+b) (ce:=1) (ck:=7) (cr:=9+((b / 2:Nat):Int)) (by omega) (by omega) (by omega) (yC a) (Gr (by omega)).up (fun c=>?_)
  have:=e (b-2) (by omega) (d-1) (by omega) (by omega) (by omega)
  rw[show((b-2:Nat):Int)=(b:Int)-2 by omega,show(17:Int)+((b:Int)-2)=15+b by omega,show(10:Int)+(((b-2) / 2:Nat):Int)=9+((b / 2:Nat):Int) by omega]at this
  exact this
structure Lv (d m Ce Ck Cr:Int):Prop where
 e:FB 107 d m 1 Ce 0
 k:FB 111 d m 1 Ck 100
 r:FB 110 d m 4 Cr 100
theorem lv0:Lv 0 160 1 7 80:=⟨(yC (by decide)).up,(Gr (by decide)).up,(FBl.all (aed 140 0 (by decide) (by decide) (by decide))).up⟩
theorem lvS{d m a b Cr cc cb:Int}(g:Lv d m a b Cr)(y:0<=d/\d<=10)(z:20<=m/\m<=1200)(v:1<=a/\1<=b/\1<=Cr:=by decide)(x:a+10<=cc/\b+1<=cc:=by decide)(w:cc+4<=cb/\b+3<=cb/\Cr+1<=cb/\cb<=3000:=by decide):FB 38 (d+1) (m+9) 6 (cb+5) 0/\Lv (d+1) (m+10) (cc+1) (cb+6) cb:=by
 have f:d+1-1=d:=by omega
 have c:FB 107 (d+1-1) m 1 a 0:=by rw[f];exact g.e
 have j:FB 111 (d+1-1) m 1 b 100:=by rw[f];exact g.k
 have q:FB 110 (d+1-1) m 4 Cr 100:=by rw[f];exact g.r
 have h:FB 164 (d+1-1) (m+1) 2 (a+1) 0:=afz (by omega) (by omega) c
 have n:FB 104 (d+1) (m+3) 5 (a+1+3) 100:=afB (by omega) (by omega) (by omega) h c
 have t:FB 167 (d+1) (m+1) 10 (a+10) 100:=agz (by omega) (by omega) (by omega) c
 have o:FB 108 (d+1) (m+1) 2 (b+1) 100:=fnB (mk:=m) (ck:=b) (by omega) (by omega) (by omega) j.up
 have i:FB 107 (d+1) (m+5) 1 (cc+1) 0:=agy (mc:=m+4) (cc:=cc) (by omega) (by omega) (by omega) c h n.up t.up o.up
 have s:FB 109 (d+1) (m+2) 4 (a+1+3) 0:=aec (by omega) (by omega) (by omega) h c
 have l:FB 110 (d+1) (m+6) 4 cb 100:=FBl.all (Cz (me:=m+5) (mk:=m) (ce:=cc+1) (ck:=b) (mr:=m) (cr:=Cr) (by omega) (by omega) (by omega) i j.up (fun _=>fun _ _ _ _ u _=>q u))
 have hS:FB 38 (d+1) (m+9) 6 (cb+5) 0:=ail (mm:=m+7) (by omega) (by omega) (by omega) i.up o.up s.up n.up afC.up l.up j.up
 have p:FB 111 (d+1) (m+10) 1 (cb+5+1) 100:=abc (ms:=m+9) (cs:=cb+5) (by omega) (by omega) hS
 exact⟨hS,i.up,p.up,l.up⟩
theorem abd{d:Int}(g:1<=d/\d<=5):FB 38 d 220 6 130 0:=by
 have a:=lvS (cc:=11) (cb:=81) lv0 (by decide) (by decide) (by decide) (by decide) (by decide)
 have b:=lvS (cc:=88) (cb:=92) a.2 (by decide) (by decide) (by decide) (by decide) (by decide)
 have c:=lvS (cc:=99) (cb:=103) b.2 (by decide) (by decide) (by decide) (by decide) (by decide)
 have e:=lvS (cc:=110) (cb:=114) c.2 (by decide) (by decide) (by decide) (by decide) (by decide)
 have f:=lvS (cc:=121) (cb:=125) e.2 (by decide) (by decide) (by decide) (by decide) (by decide)
 rcases(show d=1\/d=2\/d=3\/d=4\/d=5 by omega) with rfl|rfl|rfl|rfl|rfl
 ·exact a.1.up
 ·exact b.1.up
 ·exact c.1.up
 ·exact e.1.up
 ·exact f.1.up
structure Tw (w:World) (lo:Nat) (v:Value) (M:List Mb):Prop where
 lw:Lw w lo v M
 sep:(bL M).Nodup
def TrP(C:Cd)(E:Bs)(W:World)(L:List Nd)(d:Cr)(e:Ending)(a:World):Prop:=∃(c b:Nat) (M:List Mb),e= .returned (.agg #[.slice (some ⟨c,0,none⟩) L.length b])/\M.map Mb.N=L/\Tw a E.base (.slice (some ⟨c,0,none⟩) L.length b) M/\Cu C E a d/\Below E.base W a
def Rt(C:Cd)(f:FuncId)(c:Cr)(L:List Nd)(a:Cr):Prop:=∀ ⦃E:Bs⦄ ⦃W:World⦄,Cu C E W c->Calls Tryz.prog f #[cV E] W (TrP C E W L a)
abbrev J9(q:Nat):Rwx:=⟨25,.slice (some ⟨q,0,none⟩) 1 1,[.slice none 0 0]⟩
section
variable {C : Cd} {T : Int} {E F : Bs} {W W' : World} {c : Cr} {M : List Mb}
theorem Cu.start{w1:World}(d:Cu C E w1 c)(T:Int){q:Nat}(h:w1.heap[q]?=some (.cells #[.slice none 0 0] 25 (0,0)))(f:E.base<=q):Bd C T ⟨E.base,E.cb,w1.heap.size,E.a0,E.cap⟩ (w1.alloc (.cells #[cV E,.slice none 0 0,.int .i64 T] 94)) c [] [J9 q]:=by
 have e:=dh w1 (.cells #[cV E,.slice none 0 0,.int .i64 T] 94)
 have a:=d.below e
 have g:w1.ownsRow E.base 25 1 (.slice (some ⟨q,0,none⟩) 1 1) 1 [.slice none 0 0]:=⟨rfl,.inr ⟨q,1,#[.slice none 0 0],rfl,f,h,ah _,by unfold maxLen;omega,rfl,rfl⟩⟩
 refine⟨⟨a.lo,a.code,a.cur⟩,d.lo.2,⟨.slice none 0 0,?_,dy _ _ _ _⟩,fun i b=>(by cases b),fun i b=>?_,?_⟩
 ·simpa using ay w1 (.cells #[cV E,.slice none 0 0,.int .i64 T] 94)
 ·rw[List.mem_singleton.1 b]
  exact⟨by show TO 25;decide,cF g e⟩
 ·simp[bR,bL,Value.ownBlock]
theorem Bd.ans{q:Nat}(e:Bd C T F W c M [J9 q]):W.heap[q]?=some (.cells #[.slice none 0 0] 25 (0,0))/\q≠F.bb:=by
 have j:=(e.rows _ da).2
 have b:W.heap[q]?=some (.cells #[.slice none 0 0] 25 (0,0)):=by
  rcases j.2 with⟨a,_⟩|⟨m,l,d,a,_,i,n,o,f,g⟩
  ·cases a
  ·cases a
   have:d.toList=[.slice none 0 0]:=by
    have h:d.toList.take (1*1)=[.slice none 0 0]:=g
    rw[<-h,bH]
    rw[gw,f];exact ah _
   rw[i,Array.toList_inj.1 (this.trans rfl:d.toList=(#[.slice none 0 0]:Array Value).toList)]
 obtain⟨p,k,_⟩:=e.row
 refine⟨b,fun a=>?_⟩
 rw[a,k]at b
 simp only[fe,ia]at b
 exact absurd b.2.1 (by decide)
theorem Bd.done{q:Nat}{v:Value}(b:Bd C T F W c M [J9 q])(f:W.cell? ⟨F.bb,1,none⟩=some v):Tw (W.setCell ⟨q,0,none⟩ v) F.base v M/\Cu C F (W.setCell ⟨q,0,none⟩ v) c/\Below F.base W (W.setCell ⟨q,0,none⟩ v)/\(W.setCell ⟨q,0,none⟩ v).heap[q]?=some (.cells #[v] 25 (0,0)):=by
 obtain⟨k,j⟩:=b.ans
 obtain⟨e,g,p2⟩:=b.row
 obtain rfl:e=v:=by
  rw[au _ _ _ _ _ _ g]at f
  exact bh f
 obtain⟨a,h⟩:=b.hot (r':=⟨25,.slice none 0 0,[]⟩) (uo (sJ W q) 0 e) (by show TO 25;decide) (dy _ _ _ _) (fun n i=>by cases i)
 obtain⟨m,d,l⟩:=a.row
 obtain rfl:m=e:=by
  rw[aK _ _ _ _ j.symm,g]at d
  simp at d
  exact d.symm
 exact⟨⟨⟨l,a.each⟩,by simpa [bR,Value.ownBlock] using a.sep⟩,a.cu,h,bI _ q 0 _ _ _ k⟩
theorem Bd.root{wr e:World}{q cp cv:Nat}{b av:Option Addr}{ks:List Int}{v5:Value}(l:Bd C T F wr c M (rS (.slice none 0 0) []::rI (.slice b ks.length cp) ks::[J9 q]))
  (k:wr.heap[F.bb]?=some (.cells #[cV F,.slice av M.length cv,.int .i64 (T-M.length)] 94 (0,0)))
  (i:e.ownsRow F.base 50 9 v5 (M.length+1) (im M++(pu (dN 1 0 0 ⟨#[]⟩ [] ks) (.slice none 0 0) (.slice b ks.length cp)).toList))
  (A:(wr.alloc (.cells (pu (dN 1 0 0 ⟨#[]⟩ [] ks) (.slice none 0 0) (.slice b ks.length cp)) 50)).grownBy e (Value.slice av M.length cv).ownBlock):
  ∃d a,v5= .slice (some ⟨d,0,none⟩) (M.length+1) a/\(e.cell? ⟨F.bb,1,none⟩=some (.slice av M.length cv)/\e.frozen? ⟨F.bb,1,none⟩=false)/\(e.cell? ⟨q,0,none⟩=some (.slice none 0 0)/\e.frozen? ⟨q,0,none⟩=false)/\q≠F.bb/\F.bb≠q/\
   Hid (∀f,f=(e.setCell ⟨F.bb,1,none⟩ (.slice (some ⟨d,0,none⟩) (M.length+1) a)).setCell ⟨q,0,none⟩ (.slice (some ⟨d,0,none⟩) (M.length+1) a)->Tw f F.base (.slice (some ⟨d,0,none⟩) (M.length+1) a) (M++[⟨dN 1 0 0 ⟨#[]⟩ [] ks,.slice none 0 0,.slice b ks.length cp⟩])/\Cu C F f c/\Below F.base wr f/\f.heap[q]?=some (.cells #[.slice (some ⟨d,0,none⟩) (M.length+1) a] 25 (0,0))):=by
 have h:=dh wr (.cells (pu (dN 1 0 0 ⟨#[]⟩ [] ks) (.slice none 0 0) (.slice b ks.length cp)) 50)
 have z:=l.below h
 have B:=(h.block _ (aw k)).trans k
 rcases bg i with⟨E,_⟩|⟨d,a,rfl⟩
 ·omega
 have y:im M++(pu (dN 1 0 0 ⟨#[]⟩ [] ks) (.slice none 0 0) (.slice b ks.length cp)).toList=im (M++[⟨dN 1 0 0 ⟨#[]⟩ [] ks,.slice none 0 0,.slice b ks.length cp⟩]):=by rw[og];show _=im M++(cMb _++[]);rw[dA];rfl
 rw[y]at i
 have w:T+1-1=T:=by omega
 have x:T+1-(M.length:Int)-1=T-M.length:=by omega
 obtain⟨n,p,j⟩:=Bd.push (T:=T+1) (N:=dN 1 0 0 ⟨#[]⟩ [] ks) (by rw[w];exact z) (by rw[x];exact B) rfl i A
 obtain⟨o,g⟩:=n.ans
 have m:e.heap[q]?=some (.cells #[.slice none 0 0] 25 (0,0)):=(aK _ _ _ _ g).symm.trans o
 refine⟨d,a,rfl,⟨by rw[au _ _ _ _ _ _ j];rfl,cA _ _ _ _ _ j⟩,⟨by rw[au _ _ _ _ _ _ m];rfl,cA _ _ _ _ _ m⟩,g,g.symm,?_⟩
 rintro f rfl
 obtain⟨r,s,t,u⟩:=n.done (v:= .slice (some ⟨d,0,none⟩) (M.length+1) a) (by rw[au _ _ _ _ _ _ (bI _ F.bb 1 _ _ _ j)];rfl)
 exact⟨r,s,((h.mono l.lt.2.2.1).trans p).trans t,u⟩
end
structure Td (c:Cr) (L:List Nd) (c':Cr):Prop where
 nd:∀N∈L,Lt N
 n:L≠[]/\L.length<=265
 p:0<=c'.p/\c'.p<=20000000
 r:0<=c'.r/\c.r+EB L<=c'.r/\(c.r<=3->c'.r<=3)
theorem Gs(C:Cd)(c:Cr)(bt:0<=c.p/\c.p<=100)(cB:0<=c.r):∃L c',Td c L c'/\Rt C 15 c L c':=by
 obtain⟨k,ce,bE,cl,df⟩:=dc C c 120 (by decide) (by decide) bt.1 (by omega)
 obtain⟨ak,cf,bn,cm,dg⟩:=dc C ce 5 (by decide) (by decide) (by omega) (by omega)
 obtain⟨H,af,br,cn,dk⟩:=dc C cf 8 (by decide) (by decide) (by omega) (by omega)
 obtain⟨H,rfl⟩:=dv br.1
 have p:Pd (20+k) af [] 221:=⟨by omega,by simp;omega,by simp;omega,by decide,by omega⟩
 obtain⟨v,a6,J,eg,bx,bc,A,w⟩:=bkc p C (abd (d:=1+ak) (by omega)) (by decide) (by decide) (by decide) H af [] p.mv
 simp only[dB]at bc
 have cz:J.length<=264:=by omega
 have bw:=A.p
 simp only[dB]at bw
 have bd:Lt (dN 1 0 0 ⟨#[]⟩ [] v):=gn (by decide) (by decide) (by decide) (iq (by decide)) (by decide) io (by omega) bx
 obtain⟨d4,E,bF,ds,dz⟩:=A.nx.add bd (by rw[It (show(dN 1 0 0 ⟨#[]⟩ [] v).x.size<=19 from aJ _)];exact Int.le_of_eq (Int.add_zero _)) id
 rw[er]at E
 have cq:=A.p0
 refine⟨J++[dN 1 0 0 ⟨#[]⟩ [] v],a6,⟨by rw[E];exact bF,⟨by simp,by simp;omega⟩,by omega,by rw[E];omega⟩,fun b j n=>?_⟩
 have et:=wi (a:=20+k) (by omega)
 have es:=wi (a:=1+ak) (by omega)
 have el:H<=7:=by omega
 have eb:=bn.1
 have ev:=bE.1
 clear bF ds dz E A p bc bw bd bx cl cm cn bn bE br cq bt cB
 have a:=n.cw
 go_in
 go_wp2_with fail
 refine a.al.run df fun w1 q m=>?_
 have G:=(m.block j.heap.size (by simp) (fun l=>by have:=n.lt;have:=bh l;omega)).trans (ay j _)
 have cy:=q.cu.lt
 have cr:b.base<=j.heap.size:=n.lo.2
 have o:=q.cu.start (20+k) G cr
 have bf:Below b.base j w1:=jy q.gr n.lo.1 n.lo.2
 have bk:=bf.trans ((dh w1 (.cells #[cV b,.slice none 0 0,.int .i64 (20+k)] 94)).mono q.cu.lo.2)
 have y:=aj bk
 clear a G m bf bk n q
 go_wp2_with fail
 obtain⟨g,hF⟩:=aE (⟨b.base,b.cb,w1.heap.size,b.a0,b.cap⟩:Bs)
 have u:g.base=b.base/\g.cb=b.cb/\w1.heap.size=g.bb/\g.a0=b.a0/\g.cap=b.cap:=by rw[<-hF];exact⟨rfl,rfl,rfl,rfl,rfl⟩
 rw[hF]at o
 have ba:cV b=cV g:=by show Value.pointer _=Value.pointer _;rw[u.2.1]
 have f:=In.at (R:=[J9 j.heap.size]) ⟨[],rfl,o⟩
 rw[<-u.1]at y
 generalize (w1.alloc _)=cc at f y⊢
 rw[u.2.2.1,ba]
 have b8:=aj u
 clear o hF ba u cy
 have cx:=y.out
 refine f.runC dg fun d1 s _=>?_
 clear f
 go_wp2_with fail
 refine s.runC dk fun d2 B _=>?_
 have a3:=aj B.nilI
 clear s B cx
 go_wp2_with fail
 go_loopw [5,6] (fun b1 ap wr=>∃(e:Nat) (i ao:List Int) (t:Cr) (K:List Nd),ap= .int .i64 e/\i.length+e<=7/\At C (20+k) g cc wr t K (rI b1 i::[J9 j.heap.size])/\Bkc C (20+k) (1+ak) e t K ao a6 J/\i++ao=v) (fun _ ap _=>(intOf ap).toNat)
 case atStart=>exact⟨H,[],v,af,[],rfl,by simp;omega,a3.out,w,rfl⟩
 case round=>
  clear a3 w
  obtain⟨e,i,ao,t,K,rfl,an,f,o,l⟩:=hrel
  have a8:=f.cs
  cases o with
  |@cons e _ cg _ _ ca _ d3 dn ea b9 b5=>
   have ed:(0:Int)<((e+1:Nat):Int):=by omega
   have eq:IntKind.i64.wrap (((e+1:Nat):Int)-1)=(e:Int):=by rw[bm];omega
   have I:=eJ an l
   have ef:e<=7:=by omega
   clear an l
   go_wp2_with fail
   refine f.run b9 fun d1 s=>?_
   have w:=aj s
   clear f s a8
   go_wp2_with (at_builtin;refine w.out.app rfl (by have:=I.1;omega) rfl _ _ rfl rfl rfl ?_;intro a2 a9 d2 B)
   go_roundw
   case rel=>exact⟨e,i++[d3],dn,cg,ca,by go_num,by have:=I.1;simp;omega,B,b5,by rw[cG];exact I.2⟩
   case measure=>simp[intOf]
  |stop bA=>
   rw[dA]at l
   subst l
   obtain⟨a5,a7,rfl⟩:=f.form
   rw[aI]at f⊢
   obtain⟨⟨ad,rfl,F⟩,bl⟩:=f.nilS
   rw[aI]at cz a8 bA
   obtain⟨b1,m,am⟩:=F.row
   obtain⟨a2,a9,rfl⟩:=bG am
   have d6:wr.cell? ⟨g.bb,1,none⟩=some (.slice a2 ad.length a9):=by rw[au _ _ _ _ _ _ m];rfl
   have z:=FC F m am (y.out.trans bl)
   have eh:=F.lt
   obtain⟨cI,c0,c7,c8,c9⟩:=dD tA
   clear f m am F bl
   have G:(0<(e:Int)/\¬5<20+k-ad.length)\/¬0<(e:Int):=by omega
   clear bA an
   rcases G with⟨q1,ex⟩|q1
   all_goals
    go_wp2_with (at_builtin;refine wpList_append_own_at _ rfl _ _ 23 rfl g.base 50 cI _ 9 112 Tryz.underlying23 c0 c7 c8 c9 rfl (by decide) _ _ _ rfl (cF z.2.2.1 (dh wr _)) ⟨wr.heap.size,0,none⟩ 1 1 (pu (dN 1 0 0 ⟨#[]⟩ [] i) (.slice none 0 0) (.slice a5 i.length a7)).toList rfl rfl (World.news_of_block (ay wr _)) (by intro e2 bD;simp at bD;rcases bD with rfl|rfl|rfl|rfl|rfl|rfl|rfl|rfl|rfl<;>rfl) (by unfold maxLen;omega) (by omega) (by simp;omega) ?_;intro e3 e4 bs bo _ ct;obtain⟨ck,t,rfl,d8,d9,em,ei,b6⟩:=z.1.root z.2.1 bs bo;clear bs bo ct)
    obtain⟨b0,ar,cd,d0⟩:=b6.out _ rfl
    have h:=b8.out
    rw[h.1]at b0
    exact aH (du rfl _ _ j.heap.size _ _ _ _ rfl d0 Tryz.underlying25 rfl (by kernel_rfl)) rfl ⟨ck,t,ad++[⟨dN 1 0 0 ⟨#[]⟩ [] i,.slice none 0 0,.slice a5 i.length a7⟩],by simp,by simp,by simpa using b0,⟨by rw[<-h.1,<-h.2.1];exact ar.lo,by rw[<-h.1,<-h.2.2.2.1];exact ar.code,by have:=ar.cur;unfold cuO at this;rw[h.2.1,h.2.2.2.1,h.2.2.2.2]at this;exact this⟩,by have:=z.2.2.2.trans cd;rw[h.1]at this;exact this⟩
