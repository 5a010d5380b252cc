import Derived.Test.YtkfgnpcanadjhaaGreatDoorHSk06
import Derived.Test.YtkfgnpcanadjhaaGreatDoorHSk11
import Derived.WalkSmall
set_option linter.all false
set_option maxRecDepth 100000
set_option maxHeartbeats 25600000
namespace Go.Proofs.YtkfgnpcanadjhaaGreatDoor
open Go.RowKit
structure Mb where
 N:Nd
 vn:Value
 vk:Value
def cMb(x:Mb):List Value:=[.int .i64 x.N.k,.int .i64 x.N.f,.int .i64 x.N.t,.int .i64 x.N.l,.int .i64 x.N.op,.int .i64 x.N.n,.string x.N.x,x.vn,x.vk]
def im(l:List Mb):List Value:=l.flatMap cMb
theorem ri(a:Mb)(r:List Mb):im (a::r)=cMb a++im r:=by simp[im]
theorem og(a b:List Mb):im (a++b)=im a++im b:=by simp[im]
theorem yu(l:List Mb):(im l).length=l.length*9:=by
 induction l with
 |nil=>rfl
 |cons a d b=>
  have c:(cMb a).length=9:=rfl
  rw[ri,aD,b,c,co];omega
theorem ad3(b:List Mb)(i j:Nat)(T:Mb)(a:b[i]?=some T)(f:j<9):(im b)[i*9+j]?=(cMb T)[j]?:=by
 induction b generalizing i with
 |nil=>simp at a
 |cons c g d=>
  have e:(cMb c).length=9:=rfl
  rw[ri]
  cases i with
  |zero=>simp at a;subst a;rw[gL (by omega)];congr 1;omega
  |succ i=>
   rw[gq (by omega),e,show(i+1)*9+j-9=i*9+j by omega]
   exact d i (by simpa using a)
def afx(e:List Value):Prop:=∀(c d:Nat)(a b:Value),c≠d->e[c]?=some a->e[d]?=some b->a.ownBlock=none\/a.ownBlock≠b.ownBlock
structure AK (W:World) (lo hi:Nat) (x:Mb):Prop where
 on:W.ownsRow lo 9 1 x.vn x.N.nm.length (x.N.nm.map Value.string)
 ok:W.ownsRow lo 3 1 x.vk x.N.ks.length (x.N.ks.map (Value.int .i64))
 hn:∀g,x.vn.ownBlock=some g->g<hi
 hk:∀g,x.vk.ownBlock=some g->g<hi
structure nH (W:World) (lo hi:Nat) (v:Value) (L:List Mb):Prop where
 row:W.ownsRow lo 50 9 v L.length (im L)
 hh:∀g,v.ownBlock=some g->g<hi
 each:∀x∈L,AK W lo hi x
 dn:afx (L.map Mb.vn)
 dk:afx (L.map Mb.vk)
theorem AK.below{W b:World}{e d:Nat}{x:Mb}(a:AK W e d x)(c:Below W.heap.size W b):AK b e d x:=⟨cF a.on c,cF a.ok c,a.hn,a.hk⟩
theorem nH.below{W b:World}{e d:Nat}{v:Value}{L:List Mb}(a:nH W e d v L)(c:Below W.heap.size W b):nH b e d v L:=
 ⟨cF a.row c,a.hh,fun g f=>(a.each g f).below c,a.dn,a.dk⟩
structure Lq (lo hi:Nat) (w w':World):Prop where
 os:w'.os=w.os
 tape:w'.tape=w.tape
 output:w'.output=w.output
 size:w.heap.size<=w'.heap.size
 block:∀k,k<w.heap.size->(k<lo\/hi<=k)->w'.heap[k]?=w.heap[k]?
theorem Lq.refl(b a:Nat)(w:World):Lq b a w w:=⟨rfl,rfl,rfl,ah _,fun _ _ _=>rfl⟩
theorem Lq.trans{c b:Nat}{x f z:World}(a:Lq c b x f)(k:Lq c b f z):Lq c b x z:=
 ⟨k.os.trans a.os,k.tape.trans a.tape,k.output.trans a.output,ch a.size k.size,fun e b d=>(k.block e (fi b a.size) d).trans (a.block e b d)⟩
theorem Lq.kept{m d:Nat}{w f:World}(i:Lq m d w f){base e size n:Nat}{v:Value}{xs:List Value}(o:w.ownsRow base e size v n xs)(q:d<=base):f.ownsRow base e size v n xs:=by
 obtain⟨j,a⟩:=o
 refine⟨j,?_⟩
 rcases a with a|⟨b,g,h,l,k,c,p⟩
 ·exact .inl a
 ·exact .inr ⟨b,g,h,l,k,(i.block b (aw c) (.inr (by omega))).trans c,p⟩
theorem Lq.tree{i f:Nat}{w h:World}(c:Lq i f w h){e g:Nat}{v:Value}{L:List Mb}(o:nH w e g v L)(d:f<=e):nH h e g v L:=
 ⟨c.kept o.row d,o.hh,fun b a=>⟨c.kept (o.each b a).on d,c.kept (o.each b a).ok d,(o.each b a).hn,(o.each b a).hk⟩,o.dn,o.dk⟩
theorem Lq.bel{d g base:Nat}{f w e:World}(a:Lq d g w e)(b:Below base f w)(i:base<=d)(j:base<=w.heap.size):Below base f e:=
 ⟨a.os.trans b.os,a.tape.trans b.tape,a.output.trans b.output,ch b.size a.size,fun c h=>(a.block c (by omega) (.inl (by omega))).trans (b.block c h)⟩
theorem AL{W:World}{base:Nat}{v:Value}{l:List ByteArray}(a:W.ownsRow base 9 1 v l.length (l.map Value.string)):bp W v l:=by
 rcases bg a with⟨b,rfl⟩|⟨d,c,rfl⟩
 ·exact .inl ⟨fj b,_,_,rfl⟩
 ·exact DI a rfl
theorem rj{W:World}{base:Nat}{v:Value}{l:List Int}(a:W.ownsRow base 3 1 v l.length (l.map (Value.int .i64))):cH W v l:=by
 rcases bg a with⟨b,rfl⟩|⟨d,c,rfl⟩
 ·exact .inl ⟨fj b,_,_,rfl⟩
 ·exact DJ a rfl
theorem en{W:World}{h g n cap:Nat}{L:List Mb}(d:W.ownsRow h 50 9 (.slice (some ⟨g,0,none⟩) n cap) n (im L)){i:Nat}{x:Mb}(c:L[i]?=some x):
  W.cell? ⟨g,i*9,none⟩=some (.int .i64 x.N.k)/\W.cell? ⟨g,i*9+1,none⟩=some (.int .i64 x.N.f)/\W.cell? ⟨g,i*9+2,none⟩=some (.int .i64 x.N.t)/\W.cell? ⟨g,i*9+3,none⟩=some (.int .i64 x.N.l)/\W.cell? ⟨g,i*9+4,none⟩=some (.int .i64 x.N.op)/\W.cell? ⟨g,i*9+5,none⟩=some (.int .i64 x.N.n)/\W.cell? ⟨g,i*9+6,none⟩=some (.string x.N.x)/\W.cell? ⟨g,i*9+7,none⟩=some x.vn/\W.cell? ⟨g,i*9+8,none⟩=some x.vk:=by
 have m:n*9=L.length*9:=by have:=d.1;rw[yu]at this;omega
 have j:i<L.length:=by rcases ci i L.length with g|g;exact g;rw[iC g]at c;cases c
 have a:∀b,b<9->W.cell? ⟨g,i*9+b,none⟩=(cMb x)[b]?:=fun b e=>by
  rw[d.cellAt (i*9+b) (by omega),ad3 L i b x c e]
 exact⟨a 0 (by omega),a 1 (by omega),a 2 (by omega),a 3 (by omega),a 4 (by omega),a 5 (by omega),a 6 (by omega),a 7 (by omega),a 8 (by omega)⟩
theorem nH.nds{W:World}{s p:Nat}{v:Value}{L:List Mb}(b:nH W s p v L):dK W v (L.map Mb.N):=by
 rcases bg b.row with⟨q,rfl⟩|⟨o,n,rfl⟩
 ·exact .inl ⟨by rw[fj q];rfl,_,_,rfl⟩
 ·refine .inr ⟨⟨o,0,none⟩,n,by rw[aI],fun r N a=>?_⟩
  rw[bq]at a
  cases hx:L[r]? with
  |none=>rw[hx]at a;cases a
  |some c=>
   rw[hx]at a
   obtain rfl:=bh a
   rw[AD]
   obtain⟨e,f,g,h,i,j,k,l,m⟩:=en b.row hx
   have d:=b.each c (bJ hx)
   exact⟨c.vn,c.vk,e,f,g,h,i,j,k,l,m,AL d.on,rj d.ok⟩
def nxt(a:Nat)(N:Nd):Nat:=a+7+N.nm.length+N.ks.length
def Fy:Nat->List Nd->Nat
 |K,[]=>K
 |K,N::r=>Fy (nxt K N) r
theorem aaK(b c:List Nd):∀a,Fy a (b++c)=Fy (Fy a b) c:=by
 induction b with
 |nil=>intro a;rfl
 |cons f e d=>intro a;simp[Fy,d]
theorem nH.put{w f:World}{d e g n cap:Nat}{a b:List Mb}{x c:Mb}{k:Nat}(q:a.length=k)(h:nH w d e (.slice (some ⟨g,0,none⟩) n cap) (a++x::b))(l:f.ownsRow d 50 9 (.slice (some ⟨g,0,none⟩) n cap) n (im (a++c::b)))
  (j:n=(a++x::b).length) (p:AK f d e c) (o:c.vn=x.vn) (m:c.vk=x.vk) (i:∀z,z∈a\/z∈b->AK f d e z):nH f d e (.slice (some ⟨g,0,none⟩) n cap) (a++c::b):=by
 refine⟨?_,h.hh,?_,?_,?_⟩
 ·rw[show(a++c::b).length=n by rw[j];simp];exact l
 ·intro z hz
  rcases List.mem_append.1 hz with hz|hz
  ·exact i z (.inl hz)
  ·rcases List.mem_cons.1 hz with rfl|hz
   ·exact p
   ·exact i z (.inr hz)
 ·have:=h.dn;rw[dm,jh]at this⊢;rw[o];exact this
 ·have:=h.dk;rw[dm,jh]at this⊢;rw[m];exact this
def iH(w:World)(r:List Int×Bool)(e:Ending)(c:World):Prop:=
 ∃a b,e= .returned (.tuple #[.slice a r.1.length b,.bool r.2])/\c.ownsRow w.heap.size 3 1 (.slice a r.1.length b) r.1.length (r.1.map (Value.int .i64))/\Below w.heap.size w c
theorem aaL(w:World)(l:List Int)(n:Nat)(a:l.length=n)(b:n<=100):(w.alloc (.cells (l.map (Value.int .i64)).toArray 3)).ownsRow w.heap.size 3 1 (.slice (some ⟨w.heap.size,0,none⟩) n n) n (l.map (Value.int .i64)):=by
 have:=wH (base:=w.heap.size) (e:=3) (size:=1) w (l.map (Value.int .i64)).toArray n (ah _) (by unfold maxLen;omega) (by simp[a])
 simpa using this
theorem oh(w:World)(l:List Int)(b:Bool)(a:l.length<=100):iH w (l,b) (.returned (.tuple #[.slice (some ⟨w.heap.size,0,none⟩) l.length l.length,.bool b])) (w.alloc (.cells (l.map (Value.int .i64)).toArray 3)):=
 ⟨_,_,rfl,aaL w l _ rfl a,dh w _⟩
theorem xq(w:World)(b:Bool):iH w ([],b) (.returned (.tuple #[.slice none 0 0,.bool b])) w:=⟨_,_,rfl,dy _ _ _ _,ag _ w⟩
theorem rk(v:Value)(w:World):Calls Tryz.prog 225 #[v] w fun e a=>e= .returned v/\a=w:=by
 go_in
 go_wp2
 go_ret
 exact⟨rfl,rfl⟩
theorem pp(w:World)(t:Int):Calls Tryz.prog 258 #[.int .i64 t] w fun e g=>e= .returned (.bool (kC t))/\g=w:=by
 by_cases a:t=25\/t=50\/t=62\/t=69
 ·have e:kC t=true:=bB a
  rw[e]
  rcases a with rfl|rfl|rfl|rfl
  all_goals
   go_in
   go_wp2
   go_ret
   exact⟨rfl,rfl⟩
 ·have e:kC t=false:=az a
  rw[e]
  have b:¬t=25:=by omega
  have c:¬t=50:=by omega
  have d:¬t=62:=by omega
  have f:¬t=69:=by omega
  have h:(t==25)=false:=beq_eq_false_iff_ne.2 b
  have i:(t==50)=false:=beq_eq_false_iff_ne.2 c
  have j:(t==62)=false:=beq_eq_false_iff_ne.2 d
  have k:(t==69)=false:=beq_eq_false_iff_ne.2 f
  clear a e
  go_in
  go_wp2
  go_ret
  exact⟨rfl,rfl⟩
theorem vE(w:World)(t:Int):Calls Tryz.prog 261 #[.int .i64 t] w fun e d=>e= .returned (.bool (iL t))/\d=w:=by
 by_cases a:t=10\/t=26
 ·have e:iL t=true:=bB (by omega)
  rw[e]
  rcases a with rfl|rfl
  all_goals
   go_in
   go_wp2
   go_ret
   exact⟨rfl,rfl⟩
 ·have b:¬t=10:=by omega
  have c:¬t=26:=by omega
  have f:(t==10)=false:=beq_eq_false_iff_ne.2 b
  have g:(t==26)=false:=beq_eq_false_iff_ne.2 c
  by_cases h:60<t
  ·have e:iL t=true:=bB (by omega)
   rw[e]
   clear a e
   go_in
   go_wp2
   go_ret
   exact⟨rfl,rfl⟩
  ·have e:iL t=false:=az (by omega)
   rw[e]
   clear a e
   go_in
   go_wp2
   go_ret
   exact⟨rfl,rfl⟩
theorem pq(w:World)(t:Int):Calls Tryz.prog 227 #[.int .i64 t] w fun e c=>e= .returned (.bool (dw t))/\c=w:=by
 by_cases a:t=1\/t=2\/t=3\/t=4\/t=24\/t=29\/t=17\/t=49\/t=18\/t=40\/t=42
 ·have e:dw t=true:=by unfold dw;rw[bB a];rfl
  rw[e]
  rcases a with rfl|rfl|rfl|rfl|rfl|rfl|rfl|rfl|rfl|rfl|rfl
  all_goals
   go_in
   go_wp2
   go_ret
   exact⟨rfl,rfl⟩
 ·have e:dw t=kC t:=by unfold dw;rw[az a];rfl
  rw[e]
  simp only[not_or]at a
  obtain⟨_,_,_,_,_,_,_,_,_,_,_⟩:=a
  have b:=fun w=>pp w t
  clear e
  generalize kC t=d at b⊢
  go_in
  go_wp2_with (go_at_call 258;refine dj (b _) ?_)
  go_ret
  exact⟨rfl,rfl⟩
def aa0(b:Nat)(W:World)(c X:World->Prop):Exit->Act->World->Prop
 | .normal,_,a=>KeepsFrom b W a/\c a
 | .ret,_,a=>KeepsFrom b W a/\X a
 |_,_,_=>False
theorem A4{P:Program}{n:Nat}{g:Operand}{ps:Array Tmp}{assign body:Go.Code}{A:Exit->Act->World->Prop}{a:Act}{w:World}{gf:Nat}{lb:Array Value}
  (a9:a.eval g= .func (.func gf) #[] lb) (ap:∀args w,(callFunc gf args).run P w= .ok (.enter gf args) w) (enc:Nat->Array Value) (bc:∀x,(enc x).size=ps.size) (y:Nat)
  (h:Nat->World->Prop) (z:Nat->Act->World->Prop) (X:World->Prop)
  (ao:∀m W r o,h m W->W.heap[w.heap.size+1]?=some (.loop r)->h m (W.putObj (w.heap.size+1) o))
  (bl:∀m d W r o,z m d W->W.heap[w.heap.size+1]?=some (.loop r)->z m d (W.putObj (w.heap.size+1) o)) (an:∀W r o,X W->W.heap[w.heap.size+1]?=some (.loop r)->X (W.putObj (w.heap.size+1) o))
  (ar:∀c,Below w.heap.size w c->c.heap.size=w.heap.size+2->h y c)
  (a1:∀(l m:Nat) W (L:Act->World->Prop),m<y->h (m+1) W->(∀d b,z m d b->KeepsFrom w.heap.size W b->L d b)->
   assign.wpIn (Fence.wide.inRound l) (n-1-1) P (Exit.then L (fun _ _ _=>False)) {tmps:=(ps.zip (enc m)).foldl (fun t (p,v)=>t.setIfInBounds p v) a.tmps,defers:=[]} W)
  (a4:∀(l m:Nat) d W,m<y->z m d W->body.wpIn (Fence.wide.inRound l) (n-1-1) P (aa0 w.heap.size W (h m) X) d W)
  (bk:∀(l:Nat)(k:Nat->World->Prop)(K:World->Prop),(∀m W,k m W->h m W)->
   (∀m W,m<y->k (m+1) W->YieldAt Fence.wide (n-1-1) P l (enc m) W fun e b=>(e= .returned (.bool true)/\k m b)\/(e= .returned (.bool false)/\K b))->
   ∀W,k y W->CallsIn Fence.wide (n-1) P gf (#[.func (.yield l) #[] #[]]++lb) W fun e b=>(∃v,e= .returned v)/\(k 0 b\/K b))
  (a7:∀W,h 0 W->W.heap[w.heap.size]?=some (.deferred (some []))->A .normal {a with defers:={target:= .collected w.heap.size,args:=#[]}::a.defers} W)
  (bd:∀W,X W->W.heap[w.heap.size]?=some (.deferred (some []))->A .ret {a with defers:={target:= .collected w.heap.size,args:=#[]}::a.defers} W):
  (Go.Code.rangeFunc g ps assign body).wpIn Fence.wide n P A a w:=by
 refine wpIn_rangeFunc ?_
 intro fn a8
 show ∃l bD bE bv bF bw args b0,(Instr.enterLoop fn a.tmps ps assign body none).run P w=_/\_
 obtain⟨rc,f⟩:∃rc:LoopState->Option Go.Code->Loop,rc=fun bo bn=>{state:=bo,pending:=bn,fn,tmps:=a.tmps,params:=ps,assign,body,defers:=w.heap.size}:=⟨_,rfl⟩
 have F:=run_enterLoop_outer (P:=P) (w:=w) fn a.tmps ps assign body
 rw[show({state:= .ready,pending:=none,fn,tmps:=a.tmps,params:=ps,assign,body,defers:=w.heap.size}:Loop)=rc .ready none by rw[f]]at F
 obtain⟨c,q⟩:=aE ((w.alloc (.deferred (some []))).alloc (.loop (rc .ready none)))
 rw[q]at F
 have ba:c.heap[w.heap.size+1]?=some (.loop (rc .ready none)):=by
  rw[<-q];have:=World.alloc_heap_new (w.alloc (.deferred (some []))) (.loop (rc .ready none));rwa [db]at this
 have a5:c.heap[w.heap.size]?=some (.deferred (some [])):=by
  rw[<-q];exact(eo _ _ _ (by simp)).trans (World.alloc_heap_new w _)
 have a2:Below w.heap.size w c:=by rw[<-q];exact((ag _ w).alloc (ah _) _).alloc (by simp) _
 have bf:c.heap.size=w.heap.size+2:=by rw[<-q];simp
 refine⟨w.heap.size+1,[{target:= .collected w.heap.size,args:=#[]}],c,{target:= .fn (.func gf) lb,args:=#[.func (.yield (w.heap.size+1)) #[] #[]]},c,gf,
  #[.func (.yield (w.heap.size+1)) #[] #[]]++lb,c,F,?_,?_,?_,fun B=>by simp[Fence.wide]at B,?_⟩
 ·simp only[resolve,a9];simp[go_sem]
 ·intro bx bA;trivial
 ·simp[invoke,go_sem,ap]
 ·refine(bk (w.heap.size+1) (fun m W=>h m W/\W.heap[w.heap.size+1]?=some (.loop (rc .ready none))/\W.heap[w.heap.size]?=some (.deferred (some [])))
   (fun W=>X W/\W.heap[w.heap.size+1]?=some (.loop (rc .done (some .ret)))/\W.heap[w.heap.size]?=some (.deferred (some []))) (fun _ _ B=>B.1) ?_ c ⟨ar c a2 bf,ba,a5⟩).mono ?_
  ·rintro m W al ⟨C,i,s⟩
   have am:=run_yield (P:=P) (args:=enc m) i (by rw[f];exact bc m)
   rw[f]at am
   refine⟨fn,_,assign,body,am,roundIn_of_wpIn a8 (a1 _ m W _ al C fun d b av af=>?_)⟩
   have G:=af.same _ _ (by omega) i rfl
   have a6:=af.same _ _ (ah _) s rfl
   have bb:w.heap.size+1<b.heap.size:=(Array.getElem?_eq_some_iff.1 G).1
   refine⟨_,run_beginRound G (by rw[f]),?_⟩
   have ak:(b.putObj (w.heap.size+1) (.loop {rc .ready none with state:= .busy})).heap[w.heap.size+1]?=some (.loop {rc .ready none with state:= .busy}):=World.putObj_heap_same bb
   have ad:(b.putObj (w.heap.size+1) (.loop {rc .ready none with state:= .busy})).heap[w.heap.size]?=some (.deferred (some [])):=(World.putObj_heap_other (by omega)).trans a6
   refine wpIn_mono (a4 _ m d _ al (bl _ _ _ _ _ av G)) ?_
   rintro e bt bs I
   cases e with
   |normal=>
    obtain⟨u,J⟩:=I
    have j:=u.same _ _ (by omega) ak rfl
    have E:=u.same _ _ (ah _) ad rfl
    have H:=(Array.getElem?_eq_some_iff.1 j).1
    refine⟨_,_,run_endRound (P:=P) none j,.inl ⟨rfl,ao _ _ _ _ J j,?_,(World.putObj_heap_other (by omega)).trans E⟩⟩
    rw[World.putObj_heap_same H];simp[f]
   |ret=>
    obtain⟨u,J⟩:=I
    have j:=u.same _ _ (by omega) ak rfl
    have E:=u.same _ _ (ah _) ad rfl
    have H:=(Array.getElem?_eq_some_iff.1 j).1
    refine⟨_,_,run_endRound (P:=P) (some .ret) j,.inr ⟨rfl,an _ _ _ J j,?_,(World.putObj_heap_other (by omega)).trans E⟩⟩
    rw[World.putObj_heap_same H];simp[f]
   |_=>exact I.elim
  ·rintro e br ⟨⟨v,rfl⟩,⟨C,i,s⟩|⟨a0,i,s⟩⟩
   ·refine⟨none,_,by have:=run_endLoop (P:=P) i (by rw[f];simp);rw[f]at this;exact this,?_⟩
    exact a7 _ (ao _ _ _ _ C i) ((World.putObj_heap_other (by omega)).trans s)
   ·refine⟨some .ret,_,by have:=run_endLoop (P:=P) i (by rw[f];simp);rw[f]at this;exact this,?_⟩
    exact wpIn_ret (bd _ (an _ _ _ a0 i) ((World.putObj_heap_other (by omega)).trans s))
theorem Gl{P:Program}{l n:Nat}{o:Oper}{a:Act}{e:Act->World->Prop}{f:Exit->Act->World->Prop}(r:Result Next)(b:o.upon P a e f r):o.uponIn (Fence.wide.inRound l) n P a e f r:=by
 have g:(Fence.wide.inRound l).depth.isSome=true->1<=n:=fun b=>by simp[Fence.wide,Fence.inRound]at b
 cases r with
 |ok d k=>
  cases d with
  |value c=>exact b
  |skip=>exact b
  |defer p=>exact b
  |enter q args=>exact⟨g,CallsIn.inRound l (callsIn_wide.2 b)⟩
  |row row args=>exact⟨g,fun h i _=>let ⟨c,m,r,j⟩:=b h i;⟨c,m,r,stepsIn_wide.2 j⟩⟩
  |_=>exact b.elim
 |halt d k=>
  cases d with
  |panic c=>exact b
  |_=>exact b.elim
def Et(o:Oper):Bool:=match o.op with| .defer _=>false|_=>true
theorem aa1{o:Oper}(a:Et o=true):∀c,o.op≠ .defer c:=by
 intro c b
 unfold Et at a
 rw[b]at a
 cases a
theorem Gm{P:Program}{b:Array Oper}{c:Exit->Act->World->Prop}{l n i:Nat}{e:Act->World->Prop}{a:Act}{w:World}(g:∀(j:Nat) (o:Oper),b[j]?=some o->Et o=true)(k:¬LetsOut c)(h:wpOp P b c i e a w):wpOpIn (Fence.wide.inRound l) n P b c i e a w:=by
 unfold wpOp at h
 unfold wpOpIn
 cases ho:b[i]? with
 |none=>simpa [ho] using h
 |some o=>
  simp only[ho]at h⊢
  split
  ·rename_i d
   simp only[d,qH]at h
   rcases h with h|h
   ·refine⟨fun f _=>trivial,?_⟩
    show o.uponIn _ _ _ _ _ _ ((o.semAt (some l) a.eval).run P w)
    rw[Bl l a.eval o (aa1 (g i o ho))]
    exact Gl _ h
   ·exact absurd h.2 k
  ·rename_i d
   simp only[d]at h
   exact⟨fun f _=>trivial,by simpa using h⟩
theorem rC{P:Program}{h:Region.Mode}{d:Array Oper}{c:Exit->Act->World->Prop}{l n:Nat}(e:∀(j:Nat) (o:Oper),d[j]?=some o->Et o=true)(f:¬LetsOut c):
  ∀(fuel:Nat)(g:Array Bool)(a:Act)(w:World),wpAny P h d c fuel g a w->wpAnyIn (Fence.wide.inRound l) n P h d c fuel g a w
 |0,_,_,_,b=>b
 |fuel+1,_,_,_,b=>⟨b.1,fun i p=>Gm e f (wpOp_mono (fun k q m=>rC e f fuel _ k q m) (b.2 i p))⟩
theorem pt{P:Program}{b:Array Oper}{c:Exit->Act->World->Prop}{l n id:Nat}{S:World->Prop}{a:Act}{w:World}(h:P.follows .mixedOrders=true)(f:b.all Et=true)(j:¬LetsOut c)(hS:S w.drew)
  (e:S w.drew->wpAnyH P .any b c S b.size (Array.replicate b.size false) a w.drew):(Go.Code.region id b true).wpIn (Fence.wide.inRound l) n P c a w:=
 wpIn_region_any h (rC (fun k m i=>by
  obtain⟨g,d⟩:=Array.getElem?_eq_some_iff.1 i
  rw[<-d]
  exact Array.all_eq_true.1 f k g) j _ _ _ _ (wpAny_of_held _ _ _ _ (e hS)))
theorem eK{P:Program}{g:Region.Mode}{b:Array Oper}{e:Exit->Act->World->Prop}{S:World->Prop}(i:Nat)(d:Tmp)(v:Value){h:Oper}{fuel:Nat}{f:Array Bool}{a:Act}{w:World}(n:b[i]?=some h)(j:h.dst=some d)
  (p:Region.noSelect b=true) (m:Region.free g b f i=true) (o:(Region.ready g b f).contains i=true)
  (l:∀c a w,e (.panic c) (a.put (some d) v) w->e (.panic c) a w) (q:Region.wanted h (yielded b a.tmps)=true) (hS:S w) (r:∀w,S w->(execOp a.eval h).run P w= .ok (.value v) w)
  (k:wpAnyH P g b e S fuel (f.setIfInBounds i true) (a.put (some d) v) w):wpAnyH P g b e S (fuel+1) f a w:=
 wpAnyH_take n p m o (by rw[j];exact l) (Or.inl ⟨q,r⟩) hS (by rw[j];exact k)
def aih(b:Region.Mode)(a:Array Oper)(m:List Bool)(i:Nat)(l:List Value):Bool:=Region.noSelect a&&Region.free b a m.toArray i&&(Region.ready b a m.toArray).contains i&&(match a[i]? with|some c=>Region.wanted c (yielded a l.toArray)|none=>false)
theorem cj{P:Program}{h:Region.Mode}{f:Array Oper}{e:Exit->Act->World->Prop}{S:World->Prop}(i:Nat)(v:Value){d:Tmp}{j:Oper}{fuel:Nat}{m:List Bool}{l:List Value}{g:List Deferred}{w:World}(k:f[i]?=some j)(p:j.dst=some d)(b:aih h f m i l=true)
  (o:∀c a w,e (.panic c) (a.put (some d) v) w->e (.panic c) a w) (hS:S w) (q:∀w,S w->(execOp (Act.mk l.toArray g).eval j).run P w= .ok (.value v) w)
  (n:wpAnyH P h f e S fuel (m.set i true).toArray ⟨(l.set d v).toArray,g⟩ w):wpAnyH P h f e S (fuel+1) m.toArray ⟨l.toArray,g⟩ w:=by
 unfold aih at b
 rw[k]at b
 simp only[dr]at b
 refine eK i d v k p b.1.1.1 b.1.1.2 b.1.2 o b.2 hS q ?_
 simp only[Act.put,aB]
 exact n
open Go.Maps Go.WideMaps
theorem ee{W:World}{base e size n g:Nat}{v:Value}{xs:List Value}(o:W.ownsRow base e size v n xs){cs:Array Value}{t:TypeId}{fr:Nat×Nat}(c:W.heap[g]?=some (.cells cs t fr))(ht:t≠e):v.ownBlock≠some g:=fun a=>by
 rcases o.2 with⟨b,_⟩|⟨d,h,i,b,_,f,_⟩
 ·rw[b]at a;simp[Value.ownBlock]at a
 ·rw[b]at a
  obtain rfl:d=g:=by simpa [Value.ownBlock] using a
  rw[f]at c
  cases c
  exact ht rfl
theorem jA{W:World}{base e size n:Nat}{v:Value}{xs:List Value}(o:W.ownsRow base e size v n xs){g:Nat}(a:v.ownBlock≠some g)(q:Nat)(u:Value):(W.setCell ⟨g,q,none⟩ u).ownsRow base e size v n xs:=
 o.kept (row:=some g) ⟨rfl,rfl,rfl,by simp[World.setCell],fun f d b=>aK _ _ _ _ (fun e=>b (by rw[e]))⟩ (by
  cases hv:v.ownBlock with
  |none=>exact .inl rfl
  |some c=>exact .inr (fun e=>a (by rw[hv,e])))
theorem tA:(Tryz.prog.info? 50).map (fun i=>(i.zero,i.size,i.bytes))=some (some (.agg #[.int .i64 0,.int .i64 0,.int .i64 0,.int .i64 0,.int .i64 0,.int .i64 0,.string ⟨#[]⟩,.slice none 0 0,.slice none 0 0]),9,112):=by kernel_rfl
abbrev pu(N:Nd)(vn vk:Value):Array Value:=#[.int .i64 N.k,.int .i64 N.f,.int .i64 N.t,.int .i64 N.l,.int .i64 N.op,.int .i64 N.n,.string N.x,vn,vk]
theorem mh{w h:World}{c d e size n:Nat}{v:Value}{xs:List Value}(o:w.ownsRow c e size v n xs)(l:∀g,v.ownBlock=some g->c<=g->g<w.heap.size->h.heap[g]?=w.heap[g]?/\d<=g):h.ownsRow d e size v n xs:=by
 obtain⟨k,a⟩:=o
 refine⟨k,?_⟩
 rcases a with a|⟨g,i,j,rfl,m,b,p⟩
 ·exact .inl a
 ·have f:=l g rfl m (aw b)
  exact .inr ⟨g,i,j,rfl,f.2,f.1.trans b,p⟩
structure Lw (w:World) (lo:Nat) (lv:Value) (L:List Mb):Prop where
 row:w.ownsRow lo 50 9 lv L.length (im L)
 each:∀x∈L,w.ownsRow lo 9 1 x.vn x.N.nm.length (x.N.nm.map Value.string)/\w.ownsRow lo 3 1 x.vk x.N.ks.length (x.N.ks.map (Value.int .i64))
theorem Lw.mono{w h:World}{f:Nat}{v:Value}{L:List Mb}(d:Lw w f v L)(e:∀k,f<=k->k<w.heap.size->h.heap[k]?=w.heap[k]?):Lw h f v L:=
 ⟨mh d.row fun b _ a c=>⟨e b a c,a⟩,fun i g=>⟨mh (d.each i g).1 fun b _ a c=>⟨e b a c,a⟩,mh (d.each i g).2 fun b _ a c=>⟨e b a c,a⟩⟩⟩
theorem Lw.nds{w:World}{r:Nat}{v:Value}{L:List Mb}(c:Lw w r v L):dK w v (L.map Mb.N):=by
 rcases bg c.row with⟨q,rfl⟩|⟨b,p,rfl⟩
 ·exact .inl ⟨by rw[fj q];rfl,_,_,rfl⟩
 ·refine .inr ⟨⟨b,0,none⟩,p,by rw[aI],fun d N a=>?_⟩
  rw[bq]at a
  cases hx:L[d]? with
  |none=>rw[hx]at a;cases a
  |some e=>
   rw[hx]at a
   obtain rfl:=bh a
   rw[show(⟨b,0,none⟩:Addr).add (d*9)=⟨b,d*9,none⟩ by unfold Addr.add;split<;>simp_all]
   obtain⟨g,h,i,j,k,l,m,n,o⟩:=en c.row hx
   have f:=c.each e (bJ hx)
   exact⟨e.vn,e.vk,g,h,i,j,k,l,m,n,o,AL f.1,rj f.2⟩
theorem ieq(t c:Int):(t=c)=((t==c)=true):=by simp
theorem Gn(w:World)(t:Int):Calls Tryz.prog 226 #[.int .i64 t] w (iH w (gA t)):=by
 go_in
 go_wp2_with (go_at_call 225;refine dj (rk _ _) ?_)
 all_goals
  go_ret2
  go_tidy
  simp only[gA,ieq, *]
  simp[*]
  first|exact oh w _ _ (by simp)|exact xq w _
theorem Gp(w:World)(t:Int):Calls Tryz.prog 260 #[.int .i64 t] w (iH w (DH t)):=by
 have b:=fun w=>pp w t
 have a:=fun w=>pq w t
 go_in
 go_wp2_with (first|(go_at_call 225;refine dj (rk _ _) ?_)|(go_at_call 258;refine dj (b _) ?_)|(go_at_call 227;refine dj (a _) ?_))
 all_goals
  go_ret2
  go_tidy
  simp only[DH,ieq, *]
  simp[*]
  first|exact oh w _ _ (by simp)|exact xq w _
theorem J6{w w1:World}{r:List Int×Bool}{e:Ending}{b:World}(a:Below w.heap.size w w1)(f:iH w1 r e b):iH w r e b:=by
 obtain⟨c,d,rfl,h,g⟩:=f
 exact⟨c,d,rfl,us h a.size,a.trans (g.mono a.size)⟩
theorem ad4{p:Prop}[Decidable p] {a b:List Int×Bool}(c:a.1.length<=6) (d:b.1.length<=6):(if p then a else b).1.length<=6:=by split<;>assumption
theorem J7(t:Int):(gA t).1.length<=6:=by
 unfold gA
 repeat' (first|(apply ad4<;>skip)|exact Nat.le_of_ble_eq_true rfl)
theorem yv(w:World)(t:Int):Calls Tryz.prog 197 #[.int .i64 100,.int .i64 t] w (iH w (Jr t)):=by
 unfold Jr
 by_cases f:t=5
 ·subst f
  show Calls _ _ _ _ (iH w ([5,100],true))
  go_in
  go_wp2_with (go_at_call 225;refine dj (rk _ _) ?_)
  go_ret2
  exact oh w [5,100] true (by simp)
 ·rw[aa f]
  have a:=fun w=>Gn w t
  have d:=J7 t
  generalize gA t=y at a d⊢
  obtain⟨x,j⟩:=y
  simp only at d⊢
  obtain⟨C,c⟩:=aE x.length
  obtain⟨q,r,s,u,v⟩:=dD rh
  cases j with
  |true=>
   rw[ab rfl]
   unfold iH at a⊢
   simp only at a⊢
   rw[aD,dm]
   rw[c]at a d⊢
   clear c
   go_in
   go_wp2_with (first|(go_at_call 226;refine(a _).mono ?_;rintro l w1 ⟨i,k,rfl,e,b⟩;have p:=b.size)|(at_builtin;refine qE _ rfl _ _ 31 rfl w.heap.size 3 q _ 1 8 Tryz.underlying31 r s u v rfl (by decide) _ _ _ rfl (e.alloc _) ⟨w1.heap.size,0,none⟩ 1 1 [.int .i64 101] rfl rfl (World.news_of_block (cs:=#[.int .i64 101]) (fr:=(0,0)) (ay w1 _)) (by intro E h;simp at h;subst h;rfl) (by unfold maxLen;omega) (by omega) (by simp;omega) ?_;intro F G g o B;obtain⟨A,z,rfl⟩:=ownsRow_succ g))
   go_ret2
   exact⟨_,_,rfl,g,(b.alloc p _).grown o (by simp;omega) (fun m n=>(e.lt m n).1)⟩
  |false=>
   rw[aa (by decide)]
   unfold iH at a
   simp only at a
   rw[c]at a
   clear c
   go_in
   go_wp2_with (go_at_call 226;refine(a _).mono ?_;rintro l w1 ⟨i,k,rfl,e,b⟩)
   go_ret2
   exact J6 b (xq _ true)
theorem Eu(w:World)(s t:Int)(b:101<=s)(c:s<=133):Calls Tryz.prog 197 #[.int .i64 s,.int .i64 t] w (iH w (xE s t)):=by
 have f:=fun w=>pq w t
 have g:=fun w=>vE w t
 have h:=fun w=>Gp w t
 obtain rfl|rfl|rfl|rfl|rfl|rfl|rfl|rfl|rfl|rfl|rfl|rfl|rfl|rfl|rfl|rfl|rfl|rfl|rfl|rfl|rfl|rfl|rfl|rfl|rfl|rfl|rfl|rfl|rfl|rfl|rfl|rfl|rfl:s=101\/s=102\/s=103\/s=104\/s=105\/s=106\/s=107\/s=108\/s=109\/s=110\/s=111\/s=112\/s=113\/s=114\/s=115\/s=116\/s=117\/s=118\/s=119\/s=120\/s=121\/s=122\/s=123\/s=124\/s=125\/s=126\/s=127\/s=128\/s=129\/s=130\/s=131\/s=132\/s=133:=by omega
 all_goals
  clear b c
  go_in
  go_wp2_with (first|(go_at_call 225;refine dj (rk _ _) ?_)|(go_at_call 227;refine dj (f _) ?_)|(go_at_call 261;refine dj (g _) ?_)|(go_at_call 260;refine(h _).mono ?_;rintro a k ⟨i,j,rfl,e,d⟩)|go_in)
  all_goals
   go_ret2
   first
    |exact⟨_,_,rfl,e,d⟩
    |(go_tidy
      simp only[xE,na,adh,aic,adi,adj,LG,adk,adl,adm,adn,LH,af7,af8,LI,LJ,af9,LK,aga,agb,ado,adp,adq,adr,agc,ads,LL,adt,L8,adu,adv,L9,aaa,adw,ieq, *]
      simp[*]
      first|exact oh w _ _ (by simp)|exact xq w _|(by_cases a:t=21<;>simp_all<;>(try rw[show(t==46||t==21)=false by simp[*]])<;>exact oh w _ _ (by simp))|(by_cases a:t=44<;>simp_all<;>exact oh w _ _ (show 2<=100 by decide)))
theorem Co(w:World)(s t:Int)(c:100<=s)(b:s<=133):Calls Tryz.prog 197 #[.int .i64 s,.int .i64 t] w (iH w (xE s t)):=by
 by_cases a:s=100
 ·subst a
  exact yv w t
 ·exact Eu w s t (by omega) b
theorem aa2:(Tryz.prog.info? 222).map (fun i=>(i.zero,i.size,i.bytes))=some (some (.agg #[.int .i64 0,.int .i64 0]),2,16):=by kernel_rfl
def Lr(C:List (Int×Int)):List Value:=C.flatMap fun a=>[.int .i64 a.1,.int .i64 a.2]
theorem ad5(C:List (Int×Int)):(Lr C).length=C.length*2:=by
 induction C with
 |nil=>rfl
 |cons b c a=>simp only[Lr,xd,aD,co,dB]at a⊢;omega
theorem Io(C D:List (Int×Int)):Lr (C++D)=Lr C++Lr D:=by simp[Lr]
theorem aa3:∀(C:List (Int×Int))(i:Nat)(c:Int×Int),C[i]?=some c->(Lr C)[i*2]?=some (.int .i64 c.1)/\(Lr C)[i*2+1]?=some (.int .i64 c.2)
 |[],i,c,b=>by simp at b
 |a::r,0,c,b=>by
  obtain rfl:a=c:=by simpa using b
  exact⟨rfl,rfl⟩
 |a::r,i+1,c,b=>by
  have f:=aa3 r i c (by simpa using b)
  have e:∀d,(Lr (a::r))[d+2]?=(Lr r)[d]?:=fun d=>rfl
  rw[show(i+1)*2=i*2+2 by omega,show i*2+2+1=(i*2+1)+2 by omega,e,e]
  exact f
structure rl (W:World) (base mb:Nat) (C:List (Int×Int)):Prop where
 ex:∃v,W.heap[mb]?=some (.cells #[v] 180 (0,0))/\W.ownsRow base 222 2 v C.length (Lr C)
 lo:base<=mb
structure Kp (mb:Nat) (w w':World):Prop where
 os:w'.os=w.os
 tape:w'.tape=w.tape
 output:w'.output=w.output
 size:w.heap.size<=w'.heap.size
 block:∀k,k<w.heap.size->k≠mb->(∀cs fr,w.heap[k]?≠some (.cells cs 222 fr))->w'.heap[k]?=w.heap[k]?
theorem Kp.refl(mb:Nat)(w:World):Kp mb w w:=⟨rfl,rfl,rfl,ah _,fun _ _ _ _=>rfl⟩
theorem Kp.trans{mb:Nat}{x f z:World}(a:Kp mb x f)(k:Kp mb f z):Kp mb x z:=
 ⟨k.os.trans a.os,k.tape.trans a.tape,k.output.trans a.output,ch a.size k.size,fun e c d b=>
  (k.block e (fi c a.size) d (fun g h=>by rw[a.block e c d b];exact b g h)).trans (a.block e c d b)⟩
theorem Kp.of_below{mb:Nat}{w b:World}(a:Below w.heap.size w b):Kp mb w b:=⟨a.os,a.tape,a.output,a.size,fun d c _ _=>a.block d c⟩
theorem Kp.blk{mb:Nat}{w c:World}(d:Kp mb w c){k:Nat}{cs:Array Value}{t:TypeId}{fr:Nat×Nat}(a:w.heap[k]?=some (.cells cs t fr))(ht:t≠222)(e:k≠mb):c.heap[k]?=some (.cells cs t fr):=
 (d.block k (aw a) e (fun f g b=>by rw[a]at b;cases b;exact ht rfl)).trans a
theorem Kp.row{mb:Nat}{w c:World}(i:Kp mb w c){s:Value}{g:Nat×Nat}(k:w.heap[mb]?=some (.cells #[s] 180 g)){base e size n:Nat}{v:Value}{xs:List Value}(o:w.ownsRow base e size v n xs)(l:e≠222)(m:e≠180):c.ownsRow base e size v n xs:=by
 obtain⟨j,b⟩:=o
 refine⟨j,?_⟩
 rcases b with b|⟨h,d,f,q,p,a,r⟩
 ·exact .inl b
 ·refine .inr ⟨h,d,f,q,p,i.blk a l ?_,r⟩
  rintro rfl
  rw[k]at a
  simp only[fe,ia]at a
  exact m a.2.1.symm
theorem rl.below{W a:World}{base mb:Nat}{C:List (Int×Int)}(b:rl W base mb C)(d:Below W.heap.size W a):rl a base mb C:=by
 obtain⟨f,c,e⟩:=b.ex
 exact⟨⟨f,(d.block _ (aw c)).trans c,cF e d⟩,b.lo⟩
theorem rl.alloc{W:World}{base mb:Nat}{C:List (Int×Int)}(a:rl W base mb C)(o:Obj):rl (W.alloc o) base mb C:=a.below (dh W o)
def jE(C:List (Int×Int)):Int->List Int->Prop
 |top,[]=>top= -1
 |top,s::r=>∃(i:Nat) (b:Int),top=(i:Int)/\C[i]?=some (s,b)/\jE C b r
theorem jE.app{C:List (Int×Int)}(D:List (Int×Int)):∀{st:List Int}{a:Int},jE C a st->jE (C++D) a st
 |[],a,d=>d
 |s::r,a,⟨i,b,e,c,f⟩=>⟨i,b,e,by rw[gL (List.getElem?_eq_some_iff.1 c).1];exact c,f.app D⟩
theorem jE.push{C:List (Int×Int)}{st:List Int}{a:Int}(b:jE C a st)(s:Int):jE (C++[(s,a)]) (C.length:Int) (s::st):=
 ⟨C.length,a,rfl,by rw[gq (ah _),fw];rfl,b.app _⟩
theorem jE.lt{C:List (Int×Int)}:∀{st:List Int}{a:Int},jE C a st-> -1<=a/\a<(C.length:Int)
 |[],a,b=>by obtain rfl:a= -1:=b;omega
 |s::h,a,⟨g,d,e,c,f⟩=>by have:=(List.getElem?_eq_some_iff.1 c).1;omega
theorem yw(w:World)(base mb:Nat)(C:List (Int×Int))(l k:Int)(t:rl w base mb C)(ad:C.length<=100000000):
  Calls Tryz.prog 198 #[.pointer (some ⟨mb,0,none⟩),.int .i64 l,.int .i64 k] w fun e y=>e= .returned (.int .i64 (C.length:Nat))/\rl y base mb (C++[(k,l)])/\Kp mb w y/\Below base w y:=by
 obtain⟨a2,f,g⟩:=t.ex
 have E:=t.lo
 obtain⟨j,u⟩:=aE C.length
 rw[u]at g ad⊢
 obtain⟨n,o,rfl⟩:=bG g
 obtain⟨al,am,an,ao,ap⟩:=dD aa2
 have af:=aw f
 have ar:w.cell? ⟨mb,0,none⟩=some (.slice n j o):=by rw[au _ _ _ _ _ _ f];rfl
 have F:∀c,(Value.slice n j o).ownBlock=some c->c≠mb/\base<=c:=fun c i=>by
  refine⟨?_,(g.lt c i).1⟩
  rintro rfl
  rcases g.2 with⟨a,_⟩|⟨q,z,A,a,_,d,_⟩
  ·rw[a]at i;simp[Value.ownBlock]at i
  ·rw[a]at i
   obtain rfl:q=c:=by simpa [Value.ownBlock] using i
   rw[d]at f
   cases f
 have m:=jw g f u
 clear g f u t
 go_in
 go_wp2_with (at_builtin;refine qE _ rfl _ _ 178 rfl base 222 al _ 2 16 Tryz.underlying178 am an ao ap rfl (by decide) _ _ _ rfl (m.1.alloc _) ⟨w.heap.size,0,none⟩ 1 1 [.int .i64 k,.int .i64 l] rfl rfl (World.news_of_block (cs:=#[.int .i64 k,.int .i64 l]) (fr:=(0,0)) (ay w _)) (by intro a1 G;simp at G;rcases G with rfl|rfl<;>rfl) (by unfold maxLen;omega) (by omega) (by simp;omega) ?_;intro a3 H x b a0;obtain⟨B,J,rfl⟩:=ownsRow_succ x;have r:=(b.block mb (by simp;omega) (fun e=>(F mb e.symm).1 rfl)).trans ((eo _ _ _ af).trans m.2.1);have a4:H.cell? ⟨mb,0,none⟩=some (.slice n j o):=(by rw[au _ _ _ _ _ _ r];rfl);have av:H.frozen? ⟨mb,0,none⟩=false:=cA _ _ _ _ _ r)
 go_ret
 have ak:=b.size
 rw[db]at ak
 refine⟨by go_num,⟨⟨.slice (some ⟨B,0,none⟩) (j+1) J,bI _ mb 0 _ _ _ r,?_⟩,E⟩,?_,?_⟩
 ·rw[aD,m.out.2.2,Io]
  refine x.kept (row:=some mb) ⟨rfl,rfl,rfl,by simp[World.setCell],fun h s v=>aK _ _ _ _ (fun e=>v (by rw[e]))⟩ ?_
  refine .inr ?_
  intro e
  obtain rfl:B=mb:=by simpa [Value.ownBlock] using e
  rcases x.2 with⟨a,_⟩|⟨q,z,A,a,_,d,_⟩
  ·cases a
  ·cases a;rw[r]at d;cases d
 ·refine⟨b.os,b.tape,b.output,by simp[World.setCell];omega,fun h s v L=>?_⟩
  rw[aK _ _ _ _ v]
  refine(b.block h (by simp;omega) (fun e=>?_)).trans (eo _ _ _ s)
  have p:(Value.slice n j o).ownBlock=some h:=e.symm
  rcases m.1.2 with⟨a,_⟩|⟨q,z,A,a,_,d,_⟩
  ·rw[a]at p;simp[Value.ownBlock]at p
  ·rw[a]at p
   obtain rfl:q=h:=by simpa [Value.ownBlock] using p
   exact L _ _ d
 ·have K:base<=w.heap.size:=by omega
  have I:Below base w (w.alloc (.cells #[.int .i64 k,.int .i64 l] 222)):=(ag _ w).alloc K _
  exact(I.grown b (by simp;omega) (fun h s=>(F h s).2)).setCell E _
theorem uD:∀{f:Nat}{st:List Int}{t:Int}{n:Nat}{c:List Int}{b:Option Bool}{m:Nat},iF f st t n=some (c,b,m)->n<=m
 |0,_,_,_,_,_,_,a=>by simp[iF]at a
 |f+1,[],t,n,c,b,m,a=>by
  simp only[iF,fe,ll]at a
  omega
 |f+1,s::r,t,n,c,b,m,a=>by
  by_cases e:s<100
  ·have:=(qh a e).2.2;omega
  ·rcases jq a (by omega) with⟨_,d⟩|⟨_,_,_,d⟩
   ·have:=uD d;omega
   ·omega
structure yx (w:World) (base mb:Nat) (C:List (Int×Int)) (t:Int) (Res:List Int×Bool) (k:Nat) (stk:List Int) (top:Int) (D:List (Int×Int)) (W:World):Prop where
 m:rl W base mb (C++D)
 s:jE (C++D) top stk
 o:Li stk
 kp:Kp mb w W
 bl:Below base w W
 d:D.length<=20
 ph:(D=[]/\dF stk t=Res/\stk.length+9<=k)\/∃cur r f lo b m,stk=cur++r/\iF f cur t D.length=some (lo,some b,m)/\(lo++r,b)=Res/\m<=20/\f<=k
theorem yx.nil{w:World}{base mb:Nat}{C:List (Int×Int)}{t:Int}{a:List Int×Bool}{k:Nat}{i:Int}{D:List (Int×Int)}{W:World}(g:yx w base mb C t a k [] i D W):a=([],false):=by
 rcases g.ph with⟨_,e,_⟩|⟨d,n,c,l,j,m,f,b,_⟩
 ·rw[<-e];rfl
 ·have h:d=[]:=(List.append_eq_nil_iff.1 f.symm).1
  subst h
  cases c with
  |zero=>simp[iF]at b
  |succ c=>simp[iF]at b
theorem yx.tok{w:World}{base mb:Nat}{C:List (Int×Int)}{t:Int}{c:List Int×Bool}{k:Nat}{s:Int}{f:List Int}{m:Int}{D:List (Int×Int)}{W:World}(j:yx w base mb C t c k (s::f) m D W)(e:s<100):c=(f,decide (s=t)):=by
 rcases j.ph with⟨_,g,_⟩|⟨d,q,b,o,n,p,h,a,i,_⟩
 ·rw[<-g];exact ob e
 ·cases d with
  |nil=>
   cases b with
   |zero=>simp[iF]at a
   |succ b=>simp[iF]at a
  |cons r d=>
   obtain⟨rfl,rfl⟩:=xa h
   cases b with
   |zero=>simp[iF]at a
   |succ b=>
    obtain⟨rfl,l,_⟩:=qh a e
    rw[<-i,bh l];rfl
theorem yx.no{w:World}{base mb:Nat}{C:List (Int×Int)}{t:Int}{h:List Int×Bool}{k:Nat}{s:Int}{m:List Int}{y:Int}{D:List (Int×Int)}{W:World}(j:yx w base mb C t h k (s::m) y D W)(v:1<=t)(x:t<=78)(d:100<=s)(g:(xE s t).2=false):h=(m,false):=by
 rcases j.ph with⟨_,p,_⟩|⟨i,B,c,u,n,z,q,a,r,_⟩
 ·have l:¬((xE s t).1=[]/\(xE s t).2=true):=by rw[g];simp
  obtain⟨u,n,A,a,_⟩:=B9 d (j.o s (da ..)) v x l
  rw[<-p,rf d l a]
  rcases jq a d with⟨b,_⟩|⟨_,e,f,_⟩
  ·rw[g]at b;cases b
  ·rw[e,bh f];rfl
 ·cases i with
  |nil=>
   cases c with
   |zero=>simp[iF]at a
   |succ c=>simp[iF]at a
  |cons E i=>
   obtain⟨rfl,rfl⟩:=xa q
   cases c with
   |zero=>simp[iF]at a
   |succ c=>
    rcases jq a d with⟨b,_⟩|⟨_,e,f,_⟩
    ·rw[g]at b;cases b
    ·rw[<-r,e,bh f];rfl
theorem yx.step{w:World}{base mb:Nat}{C:List (Int×Int)}{t:Int}{z:List Int×Bool}{k:Nat}{s:Int}{c:List Int}{a0:Int}{D:List (Int×Int)}{W:World}(p:yx w base mb C t z k (s::c) a0 D W)(F:1<=t)(G:t<=78)(e:100<=s)(hx:(xE s t).2=true){E:List (Int×Int)}{y:Int}{f:World}(q:E.length=(xE s t).1.length)
  (ak:rl f base mb (C++D++E)) (an:jE (C++D++E) y ((xE s t).1++c)) (u:Kp mb w f) (r:Below base w f):D.length+(xE s t).1.length<=20/\∃B,B<k/\yx w base mb C t z B ((xE s t).1++c) y (D++E) f:=by
 have A:=p.o s (da ..)
 have ao:=(Hw e A F G).1
 have j:Li ((xE s t).1++c):=fun H hx=>by
  rcases List.mem_append.1 hx with hx|hx
  ·exact ao H hx
  ·exact p.o H (ep _ hx)
 have v:rl f base mb (C++(D++E)):=by rw[<-cG];exact ak
 have i:jE (C++(D++E)) y ((xE s t).1++c):=by rw[<-cG];exact an
 have g:(D++E).length=D.length+(xE s t).1.length:=by rw[aD,q]
 rcases p.ph with⟨L,n,af⟩|⟨m,av,d,x,l,ap,I,b,J,K,a1⟩
 ·subst L
  by_cases h:(xE s t).1=[]/\(xE s t).2=true
  ·rw[h.1]at q i j g⊢
   have ad:E=[]:=fj (by simpa using q)
   subst ad
   refine⟨by simp,c.length+9,by simp only[co]at af;omega,v,i,j,u,r,by simp,.inl ⟨rfl,?_,ah _⟩⟩
   rw[er,<-n,re e h]
  ·obtain⟨x,l,ar,b,am⟩:=B9 e A F G h
   rw[rf e h b]at n
   rcases jq b e with⟨_,a⟩|⟨a,_⟩
   ·rw[dA]at a
    have al:=uD a
    refine⟨by simp only[dB];omega,7,by omega,v,i,j,u,r,by rw[g];simp only[dB];omega,.inr ⟨(xE s t).1,c,7,x,l,ar,rfl,?_,n,am,ah _⟩⟩
    rw[g];exact a
   ·rw[hx]at a;cases a
 ·cases m with
  |nil=>
   cases d with
   |zero=>simp[iF]at b
   |succ d=>simp[iF]at b
  |cons a2 m=>
   obtain⟨rfl,rfl⟩:=xa I
   cases d with
   |zero=>simp[iF]at b
   |succ d=>
    rcases jq b e with⟨_,a⟩|⟨a,_⟩
    ·have al:=uD a
     refine⟨by omega,d,by omega,v,i,j,u,r,by rw[g];omega,.inr ⟨(xE s t).1++m,av,d,x,l,ap,by rw[cG];rfl,?_,J,K,ah _⟩⟩
     rw[g];exact a
    ·rw[hx]at a;cases a
def qs(w:World)(base mb:Nat)(C:List (Int×Int))(b:List Int×Bool)(e:Ending)(a:World):Prop:=
 ∃(c:Int) (D:List (Int×Int)),e= .returned (.tuple #[.int .i64 c,.bool b.2])/\rl a base mb (C++D)/\jE (C++D) c b.1/\D.length<=20/\Kp mb w a/\Below base w a
theorem tB(w:World)(base mb:Nat)(C:List (Int×Int))(st:List Int)(K t:Int)(o:rl w base mb C)(bv:jE C K st)(bs:Li st)(a4:1<=t)(a5:t<=78)(c1:C.length<=50000000):
  Calls Tryz.prog 161 #[.pointer (some ⟨mb,0,none⟩),.int .i64 K,.int .i64 t] w (qs w base mb C (dF st t)):=by
 obtain⟨A,am⟩:=aE (dF st t)
 rw[am]
 have cl:base<=w.heap.size:=by obtain⟨bE,b7,_⟩:=o.ex;have:=aw b7;have:=o.lo;omega
 have ba:Hid (yx w base mb C t A (st.length+9) st K [] w):=⟨by rw[dA];exact o,by rw[dA];exact bv,bs,Kp.refl _ _,ag _ _,by simp,.inl ⟨rfl,am,ah _⟩⟩
 clear o bv bs am
 go_in
 go_wp2_with fail
 go_loopg [1] (st.length+9) (fun cm a9 wr=>∃(a3:List Int) (s:Int) (D:List (Int×Int)),a9= .int .i64 s/\Hid (yx w base mb C t A cm a3 s D wr))
 case atStart=>exact⟨st,K,[],rfl,ba⟩
 case round=>
  obtain⟨a3,s,D,rfl,a⟩:=hrel
  clear ba
  cases a3 with
  |nil=>
   have al:=a.s
   subst al
   have j:=aj a.nil
   go_wp2_with fail
   go_ret2
   refine⟨-1,D,?_,a.m,?_,a.d,a.kp,a.bl⟩
   ·rw[j.out];rfl
   ·rw[j.out];exact a.s
  |cons e a6=>
   obtain⟨f,k,cc,an,q⟩:=a.s
   subst cc
   obtain⟨bE,F,H⟩:=a.m.ex
   have cd:=(List.getElem?_eq_some_iff.1 an).1
   obtain⟨g,ak,rfl⟩:∃g ak,bE= .slice (some ⟨g,0,none⟩) (C++D).length ak:=by
    rcases bg H with⟨hz,_⟩|hz
    ·omega
    ·exact hz
   have ao:=aa3 _ f _ an
   have bc:wr.cell? ⟨g,f*2,none⟩=some (.int .i64 e):=by rw[H.cellAt (f*2) (by omega)];exact ao.1
   have bd:wr.cell? ⟨g,f*2+1,none⟩=some (.int .i64 k):=by rw[H.cellAt (f*2+1) (by omega)];exact ao.2
   obtain⟨a0,G⟩:=aE ((C++D).length)
   have cv:=a.d
   have c3:a0<=50000020:=by rw[<-G,aD];omega
   rw[G]at F cd
   have bb:wr.cell? ⟨mb,0,none⟩=some (.slice (some ⟨g,0,none⟩) a0 ak):=by rw[au _ _ _ _ _ _ F];rfl
   obtain⟨u,E⟩:∃u:Addr,(⟨g,0,none⟩:Addr)=u:=⟨_,rfl⟩
   have b5:wr.cell? (u.add (f*2))=some (.int .i64 e):=by rw[<-E,show((⟨g,0,none⟩:Addr).add (f*2))=⟨g,f*2,none⟩ by unfold Addr.add;split<;>simp_all];exact bc
   have b6:wr.cell? ⟨(u.add (f*2)).block,(u.add (f*2)).off+1,none⟩=some (.int .i64 k):=by rw[<-E,show((⟨g,0,none⟩:Addr).add (f*2))=⟨g,f*2,none⟩ by unfold Addr.add;split<;>simp_all];exact bd
   rw[E]at bb
   have cx:(f:Int)<(a0:Int):=by omega
   have cw:(0:Int)<=(f:Int):=by omega
   have ct:base<=wr.heap.size:=ch cl a.bl.size
   have z:=jw G F q
   clear bc bd ao H F G E an q
   by_cases cg:e<100
   ·have j:Hid (A=(a6,decide (e=t))):=a.tok cg
    have ca:∀a1,Below base wr (wr.alloc a1).drew:=fun a1=>aq ((ag _ wr).alloc (by omega) a1)
    have cu:(wr.alloc (.cells #[.int .i64 e,.int .i64 k] 222)).cell? ⟨wr.heap.size,0,none⟩=some (.int .i64 e):=by rw[au _ _ _ _ _ _ (ay wr _)];rfl
    go_wp2_with fail
    go_region_held3 (fun cq=>cq.cell? ⟨wr.heap.size,0,none⟩=some (.int .i64 e)) (go_keep) (fail)
    go_wp2_with fail
    go_ret2
    have p:Below wr.heap.size wr (wr.alloc (.cells #[.int .i64 e,.int .i64 k] 222)).drew:=aq (dh wr _)
    refine⟨k,D,?_,a.m.below p,?_,a.d,a.kp.trans (Kp.of_below p),a.bl.trans (ca _)⟩
    ·rw[j.out];rfl
    ·rw[j.out];exact z.2.2
   ·have J:100<=e:=by omega
    have bw:e<=133:=a.o e (da ..)
    have v:=fun w=>Co w e t J bw
    have bx:=(Hw J bw a4 a5).2
    obtain⟨r,I⟩:=aE ((xE e t).1)
    obtain⟨cp,ar⟩:=aE ((xE e t).2)
    unfold iH at v
    rw[I,ar]at v
    rw[I]at bx
    obtain⟨h,ap⟩:=aE r.length
    rw[ap]at v bx
    have n:=jw I ar ap
    clear I ar ap
    have p:=dh wr (.cells #[.int .i64 e,.int .i64 k] 222)
    go_wp2_with fail
    refine(v _).mono ?_
    rintro al x ⟨a2,rc,rfl,bt,bk⟩
    have af:Below wr.heap.size wr x:=p.trans (bk.mono p.size)
    have l:Hid (rl x base mb (C++D)/\Kp mb w x/\Below base w x/\x.ownsRow base 3 1 (.slice a2 h rc) h (r.map (Value.int .i64))):=
     ⟨a.m.below af,a.kp.trans (Kp.of_below af),a.bl.trans (af.mono (by omega)),us bt (by simp;omega)⟩
    clear v p bt bk bb b5 b6
    cases cp with
    |false=>
     have j:Hid (A=(a6,false)):=a.no a4 a5 J n.2.1
     go_wp2_with fail
     go_ret2
     refine⟨k,D,?_,l.1,?_,a.d,l.2.1,l.2.2.1⟩
     ·rw[j.out];rfl
     ·rw[j.out];exact z.2.2
    |true=>
     have c2:(C++D).length<=50000020:=by rw[z.out.1];omega
     go_wp2_with fail
     go_loopw [1,11] (fun a9 a8 L=>∃(b:Nat) (s:Int) (i:List (Int×Int)),b<=h/\a8= .int .i64 ((b:Int)-1)/\a9= .int .i64 s/\Hid (i.length=h-b/\rl L base mb (C++D++i)/\jE (C++D++i) s (r.drop b++a6)/\Kp mb w L/\Below base w L/\L.ownsRow base 3 1 (.slice a2 h rc) h (r.map (Value.int .i64)))) (fun _ a8 _=>(intOf a8+1).toNat)
     case atStart=>
      refine⟨h,k,[],ah _,rfl,rfl,by simp,?_,?_,l.2.1,l.2.2.1,l.2.2.2⟩
      ·rw[dA];exact l.1
      ·rw[dA,oJ (by rw[n.out.2.2];exact ah _)];exact z.2.2
     case round=>
      obtain⟨b,a7,i,cy,rfl,rfl,c⟩:=hrel
      cases b with
      |zero=>
       have q:=c.2.2.1
       rw[dJ,<-n.out.1]at q
       obtain⟨_,cn,ce,bD⟩:=a.step a4 a5 J n.2.1 (by rw[n.out.1,n.out.2.2];exact c.1) c.2.1 q c.2.2.2.1 c.2.2.2.2.1
       have b0:=aj bD
       clear bD q
       go_wp2_with fail
       go_roundg cn
       case measure=>exact ce
       case rel=>exact⟨_,a7,_,rfl,b0⟩
      |succ b=>
       have b4:(((b+1:Nat)):Int)-1=(b:Int):=by omega
       rw[b4]
       have cB:(0:Int)<=(b:Int):=by omega
       have cI:(b:Int)<(h:Int):=by omega
       obtain⟨y,hz⟩:=bC n.2.2 (show b<h by omega)
       obtain⟨B,cb⟩:∃B,a2=some ⟨B,0,none⟩:=by
        rcases bg c.2.2.2.2.2 with⟨o,_⟩|⟨B,cr,o⟩
        ·omega
        ·cases o;exact⟨_,rfl⟩
       subst cb
       have cs:wr.cell? ⟨B,b,none⟩=some (.int .i64 y):=by rw[c.out.2.2.2.2.2.cellAt b (by omega),bq,hz];rfl
       have b8:(C++D++i).length<=100000000:=by rw[aD,c.out.1];omega
       have bA:=yw wr base mb (C++D++i) a7 y c.2.1 b8
       have av:=c.2.2.1.push y
       have bn:r.drop b=y::r.drop (b+1):=by
        have bo:=List.getElem?_eq_some_iff.1 hz
        rw[ju bo.1,bo.2]
       have bF:=aj bn
       obtain⟨ad,bf⟩:∃ad:Int,(((C++D++i).length:Nat):Int)=ad:=⟨_,rfl⟩
       rw[bf]at bA av
       have b3:=aj av
       clear av bn bf hz
       go_wp2_with (go_at_call 198;refine bA.mono ?_;rintro al c5 ⟨rfl,cf,br,b9⟩)
       refine⟨⟨b,ad,i++[(y,a7)],by omega,rfl,rfl,?_,?_,?_,c.2.2.2.1.trans br,c.2.2.2.2.1.trans b9,?_⟩,by simp[intOf]⟩
       ·rw[aD,c.out.1];simp;omega
       ·rw[<-cG];exact cf
       ·rw[<-cG,bF.out];exact b3
       ·obtain⟨c4,ck,_⟩:=c.2.1.ex
        exact br.row ck c.2.2.2.2.2 (by decide) (by decide)
theorem ad6{w:World}{base:Nat}{e:TypeId}{size g cap n d:Nat}{xs f:List Value}(c:xs.length=n*size)
  (h:w.ownsRow base e size (.slice (some ⟨g,0,none⟩) (n+d) cap) (n+d) (xs++f)):w.ownsRow base e size (.slice (some ⟨g,0,none⟩) n cap) n xs:=by
 obtain⟨_,j⟩:=h
 rcases j with⟨i,_⟩|⟨s,r,a,q,l,m,t,k,o,p⟩
 ·cases i
 ·cases q
  refine⟨c,.inr ⟨g,cap,a,rfl,l,m,by omega,k,o,?_⟩⟩
  have b:(a.toList.take ((n+d)*size)).take (n*size)=(xs++f).take (n*size):=by rw[p]
  rw[List.take_take,pd (Nat.mul_le_mul_right _ (by omega))]at b
  rw[b,<-c]
  exact take_len _ _
theorem ad7{w:World}{base:Nat}{e:TypeId}{size g cap n:Nat}{xs:List Value}(a:w.ownsRow base e size (.slice (some ⟨g,0,none⟩) n cap) n xs):n<=cap:=by
 rcases a.2 with⟨b,_⟩|⟨i,f,h,d,k,l,c,j,m,o⟩
 ·cases b
 ·cases d;exact c
def jF(st:List Int):Nat->List Int
 |0=>[]
 |j+1=>if(dF st ((j:Int)+1)).2=true then jF st j++[(j:Int)+1] else jF st j
def Ev(st:List Int):List Int:=jF st 78
theorem rm(st:List Int):∀j,(jF st j).length<=j
 |0=>ah _
 |j+1=>by
  have:=rm st j
  rw[jF]
  split
  ·rw[aD];simp;omega
  ·omega
theorem rl.put{W:World}{base mb:Nat}{C:List (Int×Int)}{i:Value}(e:W.heap[mb]?=some (.cells #[i] 180 (0,0)))(h:base<=mb){v:Value}(c:W.ownsRow base 222 2 v C.length (Lr C)):rl (W.setCell ⟨mb,0,none⟩ v) base mb C:=by
 refine⟨⟨v,bI _ mb 0 _ _ _ e,?_⟩,h⟩
 refine c.kept (row:=some mb) ⟨rfl,rfl,rfl,by simp[World.setCell],fun o n g=>aK _ _ _ _ (fun a=>g (by rw[a]))⟩ ?_
 rcases bg c with⟨_,rfl⟩|⟨f,j,rfl⟩
 ·exact .inl rfl
 ·refine .inr ?_
  intro a
  obtain rfl:f=mb:=by simpa [Value.ownBlock] using a
  rcases c.2 with⟨b,_⟩|⟨m,k,l,b,_,d,_⟩
  ·cases b
  ·cases b;rw[e]at d;cases d
theorem Kp.put{mb:Nat}{w W:World}(a:Kp mb w W)(j:Nat)(v:Value):Kp mb w (W.setCell ⟨mb,j,none⟩ v):=
 a.trans ⟨rfl,rfl,rfl,by simp[World.setCell],fun c _ b _=>aK _ _ _ _ b⟩
theorem J8(w:World)(base mb:Nat)(g:rl w base mb []):
  Calls Tryz.prog 193 #[.pointer (some ⟨mb,0,none⟩)] w fun e a=>e= .returned (.int .i64 1)/\rl a base mb [(6, -1),(100,0)]/\Kp mb w a/\Below base w a:=by
 have b:=yw w base mb [] (-1) 6 g (by simp)
 go_in
 go_wp2_with fail
 refine b.mono ?_
 rintro e w1 ⟨rfl,h,j,d⟩
 have c:=yw w1 base mb [(6, -1)] 0 100 h (by simp)
 clear b
 simp only[dB,Int.natCast_zero]
 go_wp2_with fail
 refine c.mono ?_
 rintro e k ⟨rfl,i,p2,f⟩
 clear c
 simp only[co,dB,qG,Int.natCast_one]
 go_wp2_with fail
 go_ret
 exact⟨rfl,i,j.trans p2,d.trans f⟩
structure ad8 (w:World) (base mb:Nat) (C:List (Int×Int)) (st:List Int) (j:Nat) (vo:Value) (W:World):Prop where
 m:rl W base mb C
 kp:Kp mb w W
 bl:Below base w W
 row:W.ownsRow w.heap.size 3 1 vo (jF st j).length ((jF st j).map (Value.int .i64))
theorem Ip(w:World)(base mb:Nat)(C:List (Int×Int))(st:List Int)(a3:Int)(t:rl w base mb C)(bn:jE C a3 st)(bc:Li st)(cc:0<C.length)(bb:C.length<=50000000):
  Calls Tryz.prog 196 #[.pointer (some ⟨mb,0,none⟩),.int .i64 a3] w fun e H=>∃a c,e= .returned (.slice a (Ev st).length c)/\H.ownsRow w.heap.size 3 1 (.slice a (Ev st).length c) (Ev st).length ((Ev st).map (Value.int .i64))/\rl H base mb C/\Kp mb w H/\Below base w H:=by
 obtain⟨cz,am,bf⟩:=t.ex
 have c7:base<=w.heap.size:=by have:=aw am;have:=t.lo;omega
 have ao:=t.lo
 obtain⟨i,B⟩:=aE C.length
 obtain⟨r,p,rfl⟩:∃r p,cz= .slice (some ⟨r,0,none⟩) i p:=by
  rcases bg bf with⟨hz,_⟩|hz
  ·omega
  ·rw[<-B];exact hz
 have b8:w.cell? ⟨mb,0,none⟩=some (.slice (some ⟨r,0,none⟩) i p):=by rw[au _ _ _ _ _ _ am];rfl
 have bF:ad8 w base mb C st 0 (.slice none 0 0) w:=⟨t,Kp.refl _ _,ag _ _,dy _ _ _ _⟩
 have m:=jw B bn bc
 have a6:=aj bF
 rw[B]at cc bb
 obtain⟨cp,cq,cr,ct,cu⟩:=dD rh
 clear t bf am bF B bn bc
 go_in
 go_wp21
 go_loopw [5,7] (fun b1 a4 wr=>∃(b:Nat),b<=78/\a4= .int .i64 ((b:Int)+1)/\(∃a c,∃cw:Nat,b1= .slice a cw c)/\Hid (ad8 w base mb C st b b1 wr)) (fun _ a4 _=>(79-intOf a4).toNat)
 case atStart=>exact⟨0,aJ _,rfl,⟨_,_,_,rfl⟩,a6⟩
 case round=>
  obtain⟨b,c5,rfl,⟨x,y,mv,rfl⟩,g⟩:=hrel
  clear a6 b8
  by_cases c6:b<78
  ·have F:((b:Int)+1)<=78:=by omega
   have o:=tB wr base mb C st a3 ((b:Int)+1) g.m m.2.1 m.2.2 (by omega) F (by rw[m.out.1];exact bb)
   obtain⟨b6,ak⟩:=aE (dF st ((b:Int)+1))
   rw[ak]at o
   obtain⟨bA,ar⟩:=aE b6.2
   unfold qs at o
   rw[ar]at o
   have a5:Hid ((dF st ((b:Int)+1)).2=bA):=by show _=_;rw[ak];exact ar
   obtain⟨l,al⟩:∃l:Int,(b:Int)+1=l:=⟨_,rfl⟩
   have J:=aj al
   have c3:l<=78:=by omega
   have c2:1<=l:=by omega
   rw[al]at o⊢
   clear ak ar al F
   go_wp21
   refine o.mono ?_
   rintro e k ⟨c8,D,rfl,bv,_,cd,p2,a7⟩
   obtain⟨cB,v,E⟩:=bv.ex
   rw[aD,m.out.1,Io]at E
   obtain⟨s,q,rfl⟩:∃r p,cB= .slice (some ⟨r,0,none⟩) (i+D.length) p:=by
    rcases bg E with⟨hz,_⟩|hz
    ·omega
    ·exact hz
   have hcut:=ad6 (by rw[ad5,m.out.1]) E
   have c4:=ad7 hcut
   have z0:k.cell? ⟨mb,0,none⟩=some (.slice (some ⟨s,0,none⟩) (i+D.length) q):=by rw[au _ _ _ _ _ _ v];rfl
   have dk:k.frozen? ⟨mb,0,none⟩=false:=cA _ _ _ _ _ v
   have bw:=rl.put v ao (by rw[m.out.1];exact hcut)
   obtain⟨dg,br,_⟩:=g.m.ex
   have bD:=p2.row br g.row (by decide) (by decide)
   have bE:(k.setCell ⟨mb,0,none⟩ (.slice (some ⟨s,0,none⟩) i q)).ownsRow w.heap.size 3 1 (.slice x mv y) (jF st b).length ((jF st b).map (Value.int .i64)):=
    ((Kp.refl mb k).put 0 _).row v bD (by decide) (by decide)
   have f:Hid (ad8 w base mb C st b (.slice x mv y) (k.setCell ⟨mb,0,none⟩ (.slice (some ⟨s,0,none⟩) i q))):=
    ⟨bw,(g.kp.trans p2).put _ _,(g.bl.trans a7).setCell ao _,bE⟩
   obtain⟨c1,ce⟩:=aE (i+D.length)
   rw[ce]at z0
   clear o bv E v hcut bw bD bE br p2 a7 g cd
   have cg:=rm st b
   cases bA with
   |false=>
    have e:jF st (b+1)=jF st b:=by rw[jF,a5.out,aa (by decide)]
    go_wp21
    refine⟨⟨b+1,by omega,?_,⟨_,_,_,rfl⟩,⟨f.m,f.kp,f.bl,by rw[e];exact f.row⟩⟩,?_⟩
    ·have:=J.out;congr 1;push_cast;omega
    ·simp[intOf];omega
   |true=>
    have e:jF st (b+1)=jF st b++[(b:Int)+1]:=by rw[jF,a5.out,ab rfl]
    have b3:Hid (jF st (b+1)=jF st b++[l]):=by show _=_;rw[e,J.out]
    obtain⟨b7,b9,L⟩:=bG f.row
    cases L
    obtain⟨mv,A⟩:=aE ((jF st b).length)
    have b4:=aj A
    rw[A]at cg⊢
    have a1:=f.row
    rw[A]at a1
    have n:=aj a1
    clear e A a1
    have cm:=f.kp.size
    have u:Hid ((k.setCell ⟨mb,0,none⟩ (.slice (some ⟨s,0,none⟩) i q)).heap.size=k.heap.size):=by show _=_;simp[World.setCell]
    go_wp2_with (at_builtin;rw[<-u.out];generalize k.setCell ⟨mb,0,none⟩ (.slice (some ⟨s,0,none⟩) i q)=K at f n cm⊢;refine qE _ rfl _ _ 31 rfl w.heap.size 3 cp _ 1 8 Tryz.underlying31 cq cr ct cu rfl (by decide) _ _ _ rfl (n.alloc _) ⟨K.heap.size,0,none⟩ 1 1 [.int .i64 l] rfl rfl (World.news_of_block (cs:=#[.int .i64 l]) (fr:=(0,0)) (ay K _)) (by intro dd bo;simp at bo;subst bo;rfl) (by unfold maxLen;omega) (by omega) (by simp;omega) ?_;intro df I ap j ck;obtain⟨cb,ca,rfl⟩:=ownsRow_succ ap)
    obtain⟨cI,bs,bk⟩:=f.m.ex
    have bd:∀d,(Value.slice x mv y).ownBlock=some d->w.heap.size<=d:=fun d h=>(n.out.lt d h).1
    have a0:∀(d:Nat)(cs:Array Value)(G:TypeId)(fr:Nat×Nat),K.heap[d]?=some (.cells cs G fr)->G≠3->I.heap[d]?=some (.cells cs G fr):=fun d cs G fr h F=>by
     refine(j.block d (by simp;have:=aw h;omega) (fun e=>?_)).trans ((eo _ _ _ (aw h)).trans h)
     have z:(Value.slice x mv y).ownBlock=some d:=e.symm
     rcases n.2 with⟨af,_⟩|⟨ad,a8,ba,af,_,u,_⟩
     ·rw[af]at z;simp[Value.ownBlock]at z
     ·rw[af]at z
      obtain rfl:ad=d:=by simpa [Value.ownBlock] using z
      rw[h]at u
      simp only[fe,ia]at u
      exact F u.2.1
    have bt:Kp mb w I:=⟨j.os.trans f.kp.os,j.tape.trans f.kp.tape,j.output.trans f.kp.output,by have:=j.size;simp at this;omega,fun d h cl an=>
     (j.block d (by simp;omega) (fun e=>by have:=bd d e.symm;omega)).trans ((eo _ _ _ (by omega)).trans (f.kp.block d h cl an))⟩
    have bx:rl I base mb C:=by
     refine⟨⟨cI,a0 _ _ _ _ bs (by decide),?_⟩,ao⟩
     obtain⟨cx,a2⟩:=bk
     refine⟨cx,?_⟩
     rcases a2 with a2|⟨ad,a8,ba,cn,cf,an,cy⟩
     ·exact .inl a2
     ·exact .inr ⟨ad,a8,ba,cn,cf,a0 _ _ _ _ an (by decide),cy⟩
    have b0:ad8 w base mb C st (b+1) (.slice (some ⟨cb,0,none⟩) (mv+1) ca) I:=by
     refine⟨bx,bt,?_,?_⟩
     ·exact(f.bl.alloc (by omega) _).grown j (by simp;omega) (fun d h=>by have:=(n.out.lt d h).1;omega)
     ·rw[b3.out,aD,b4.out,dm];exact ap
    have b5:=aj b0
    clear b0 bx bt bs bk bd a0 ap j ck f n
    refine⟨⟨b+1,by omega,?_,⟨_,_,_,rfl⟩,b5⟩,?_⟩
    ·have:=J.out;congr 1;push_cast;omega
    ·simp[intOf];omega
  ·obtain rfl:b=78:=by omega
   obtain⟨b7,b9,L⟩:=bG g.row
   cases L
   go_wp21
   go_ret
   exact⟨_,_,rfl,g.row,g.m,g.kp,g.bl⟩
theorem Ew{s t:ByteArray}(b:s≠t):(s.toList==t.toList)=false:=by
 rw[cJ]
 intro a
 apply b
 rw[gc,gc]at a
 cases s;cases t
 simp only at a
 congr 1
 exact Array.toList_inj.1 a
theorem aa4{s t:ByteArray}(a:s=t):(s.toList==t.toList)=true:=by subst a;simp
theorem Gq(w:World)(B C:Value)(c d:List ByteArray)(n:bp w B c)(o:bp w C d)(x:c.length<=1048576)(y:d.length<=1048576):
  Calls Tryz.prog 169 #[B,C] w fun e ak=>e= .returned (.bool (decide (c=d)))/\Below w.heap.size w ak:=by
 obtain⟨H,J,rfl⟩:=n.form
 obtain⟨I,K,rfl⟩:=o.form
 by_cases q:c.length=d.length
 ·obtain⟨m,r⟩:=aE (decide (c=d))
  rw[r]
  obtain⟨f,k⟩:=aE c.length
  have p:d.length=f:=by rw[<-q];exact k
  have h:=jw k p r
  have u:Hid (bp w (.slice H f J) c/\bp w (.slice I f K) d):=⟨by rw[<-k];exact n,by rw[<-p];exact o⟩
  rw[k]at x⊢
  rw[p]
  clear n o k p r q y
  go_in
  go_wp21
  go_loopw [13] (fun t wr=>∃b:Nat,b<=f/\t= .int .i64 b/\Hid (∀a,a<b->c[a]?=d[a]?)/\Below w.heap.size w wr) (fun t _=>f-(intOf t).toNat)
  case atStart=>exact⟨0,by omega,rfl,fun a L=>by omega,ag _ _⟩
  case round=>
   obtain⟨b,ar,rfl,v,j⟩:=hrel
   by_cases z:b<f
   ·obtain⟨ad,i⟩:=bC h.1 z
    obtain⟨af,l⟩:=bC h.2.1 z
    obtain⟨al,rfl,an⟩:=(u.1.below j).get i
    obtain⟨am,rfl,ao⟩:=(u.2.below j).get l
    by_cases s:ad=af
    ·subst s
     have E:Hid (∀a,a<b+1->c[a]?=d[a]?):=fun a L=>by
      rcases ci a b with g|g
      ·exact v a g
      ·obtain rfl:a=b:=by omega
       rw[i,l]
     clear i l
     go_wp21
     go_quiet (fail)
     go_wp21
     exact⟨⟨b+1,by omega,by go_num,E,jc j _⟩,by simp[intOf];omega⟩
    ·have F:Hid (m=false):=by
      show m=false
      rw[<-h.out.2.2]
      refine az fun e=>s ?_
      rw[e,l]at i
      exact(bh i).symm
     have ap:=Ew s
     clear i l
     go_wp21
     go_quiet (fail)
     go_wp21
     go_ret
     exact⟨by rw[F.out];rfl,jc j _⟩
   ·obtain rfl:b=f:=by omega
    have G:Hid (m=true):=by
     show m=true
     rw[<-h.out.2.2]
     refine bB (List.ext_getElem? fun a=>?_)
     rcases ci a b with g|g
     ·exact v a g
     ·rw[iC (by rw[h.out.1];exact g),iC (by rw[h.out.2.1];exact g)]
    go_wp21
    go_ret
    exact⟨by rw[G.out];rfl,j⟩
 ·rw[az (fun e=>q (by rw[e]))]
  have A:¬(c.length:Int)=(d.length:Int):=by omega
  generalize c.length=av at A x⊢
  generalize d.length=a0 at A y⊢
  clear n o q
  go_in
  go_wp2
  go_ret
  exact⟨rfl,ag _ _⟩
def vF(M N:Nd):Bool:=decide (M.op=N.op/\M.n=N.n/\M.x=N.x/\M.nm=N.nm)
theorem yy(w:World)(M N:Nd)(K L vn vk:Value)(k:bp w K M.nm)(l:bp w vn N.nm)(ak:∃a n c,L= .slice a n c)(af:∃a n c,vk= .slice a n c)(al:M.nm.length<=1048576)(am:N.nm.length<=1048576):
  Calls Tryz.prog 120 #[gF M K L,gF N vn vk] w fun e an=>e= .returned (.bool (vF M N))/\Below w.heap.size w an:=by
 have j:∀f g,Below w.heap.size w ((w.alloc f).alloc g):=fun f g=>((ag _ w).alloc (ah _) f).alloc (by simp) g
 have d:=fun f g=>Gq ((w.alloc f).alloc g) K vn M.nm N.nm (k.below (j f g)) (l.below (j f g)) al am
 obtain⟨av,a7,rfl⟩:=k.form
 obtain⟨a0,a8,rfl⟩:=l.form
 obtain⟨a5,bb,a9,rfl⟩:=ak
 obtain⟨a6,bc,ba,rfl⟩:=af
 unfold gF vF
 generalize M.nm.length=ao at d⊢
 generalize N.nm.length=ap at d⊢
 by_cases h:M.op=N.op
 ·by_cases m:M.n=N.n
  ·by_cases i:M.x=N.x
   ·have e:decide (M.op=N.op/\M.n=N.n/\M.x=N.x/\M.nm=N.nm)=decide (M.nm=N.nm):=by
     by_cases o:M.nm=N.nm
     ·rw[bB o,bB ⟨h,m,i,o⟩]
     ·rw[az o,az (fun b=>o b.2.2.2)]
    rw[e]
    have J:=aa4 i
    generalize decide (M.nm=N.nm)=ar at d⊢
    clear e i k l
    obtain⟨q,p,v,r,u,s,y,t,mks⟩:=M
    obtain⟨A,z,H,C,G,E,I,F,B⟩:=N
    simp only at h m J⊢
    go_in
    go_wp2_with (go_at_call 169;refine(d _ _).mono ?_;rintro e bd ⟨rfl,ad⟩)
    go_ret
    exact⟨rfl,(j _ _).trans (ad.mono (by simp;omega))⟩
   ·rw[az (fun b=>i b.2.2.1)]
    have J:=Ew i
    clear i k l d
    obtain⟨q,p,v,r,u,s,y,t,mks⟩:=M
    obtain⟨A,z,H,C,G,E,I,F,B⟩:=N
    simp only at h m J⊢
    go_in
    go_wp2
    go_ret
    exact⟨rfl,j _ _⟩
  ·rw[az (fun b=>m b.2.1)]
   clear k l d
   obtain⟨q,p,v,r,u,s,y,t,mks⟩:=M
   obtain⟨A,z,H,C,G,E,I,F,B⟩:=N
   simp only at h m⊢
   go_in
   go_wp2
   go_ret
   exact⟨rfl,j _ _⟩
 ·rw[az (fun b=>h b.1)]
  clear k l d
  obtain⟨q,p,v,r,u,s,y,t,mks⟩:=M
  obtain⟨A,z,H,C,G,E,I,F,B⟩:=N
  simp only at h⊢
  go_in
  go_wp2
  go_ret
  exact⟨rfl,j _ _⟩
def Cp(b:Nat):Deferred:={target:= .collected b,args:=#[]}
structure oq (B:Nat) (c:List Nat) (W:World):Prop where
 nd:c.Nodup
 lo:∀b∈c,B<=b
 at_:∀b∈c,W.heap[b]?=some (.deferred (some []))
structure Cq (c:List Nat) (W W':World):Prop where
 os:W'.os=W.os
 tape:W'.tape=W.tape
 output:W'.output=W.output
 size:W'.heap.size=W.heap.size
 same:∀k,k ∉ c->W'.heap[k]?=W.heap[k]?
theorem pv{j:Fence}{n:Nat}{P:Program}{k:Func}{tmps:Array Value}{R:Ending->World->Prop}(i:Nat):∀(c:List Nat)(W:World),oq i c W->(∀f,Cq c W f->LeavesInM j n P k tmps R [] .returning f)->LeavesInM j n P k tmps R (c.map Cp) .returning W
 |[],W,_,h=>h W ⟨rfl,rfl,rfl,rfl,fun _ _=>rfl⟩
 |b::c,W,g,h=>by
  have m:=g.at_ b (by simp)
  have l:=List.nodup_cons.1 g.nd
  refine⟨by simp,.inl ⟨b,_,rfl,run_takeDeferred m,?_⟩⟩
  refine pv i c _ ⟨l.2,fun e a=>g.lo e (by simp[a]),fun e a=>?_⟩ (fun f d=>?_)
  ·exact(World.putObj_heap_other (by rintro rfl;exact l.1 a)).trans (g.at_ e (by simp[a]))
  ·refine h f ⟨d.os,d.tape,d.output,d.size.trans (by simp),fun e a=>?_⟩
   simp at a
   exact(d.same e a.2).trans (World.putObj_heap_other a.1)
theorem Cq.below{c:List Nat}{w W g:World}{e:Nat}(a:Cq c W g)(d:Below e w W)(h:∀b∈c,e<=b)(k:e<=w.heap.size):Below e w g:=
 ⟨a.os.trans d.os,a.tape.trans d.tape,a.output.trans d.output,by rw[a.size];exact d.size,fun f i=>(a.same f (fun j=>by have:=h f j;omega)).trans (d.block f i)⟩
theorem oq.below{d:Nat}{c:List Nat}{W e:World}(a:oq d c W)(g:Below W.heap.size W e):oq d c e:=
 ⟨a.nd,a.lo,fun b f=>(g.block b (Array.getElem?_eq_some_iff.1 (a.at_ b f)).1).trans (a.at_ b f)⟩
theorem oq.set{d:Nat}{c:List Nat}{W:World}(b:oq d c W)(a:Addr)(v:Value){cs:Array Value}{t:TypeId}{fr:Nat×Nat}(h:W.heap[a.block]?=some (.cells cs t fr)):oq d c (W.setCell a v):=
 ⟨b.nd,b.lo,fun e f=>(aK _ _ _ _ (fun g=>by
  have:=b.at_ e f
  rw[g,h]at this
  cases this)).trans (b.at_ e f)⟩
theorem oq.keeps{b:Nat}{c:List Nat}{W d:World}(a:oq b c W)(f:KeepsOthers W d):oq b c d:=
 ⟨a.nd,a.lo,fun e g=>f.same e _ (a.at_ e g) rfl⟩
