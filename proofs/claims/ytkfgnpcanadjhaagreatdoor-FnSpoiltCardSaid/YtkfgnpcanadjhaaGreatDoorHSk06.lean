import Derived.Test.YtkfgnpcanadjhaaGreatDoorHSk03
import Derived.Test.YtkfgnpcanadjhaaGreatDoorHSk02
import Derived.Deep.Strs
import Derived.OpenShut
import Derived.Laws.AppendOwnNone
import Derived.Lib.ItoaLen
import Derived.Lib.AppendZerosOnto
set_option linter.all false
set_option maxRecDepth 100000
set_option maxHeartbeats 6400000
namespace Go.Proofs.YtkfgnpcanadjhaaGreatDoor
open Go.RowKit
theorem jc{c:Nat}{a w:World}(b:Below c a w)(n:Nat):Below c a (w.drewN n):=⟨b.os,b.tape,b.output,b.size,b.block⟩
theorem aq{c:Nat}{a w:World}(b:Below c a w):Below c a w.drew:=⟨b.os,b.tape,b.output,b.size,b.block⟩
def mkT:Nat->Nat->ByteArray->ByteArray
 |0,_,o=>o
 |f+1,c,o=>if c=0 then o else mkT f (c / 10) (eI [48+((c%10:Nat):Int)]++o)
def mtI(k:Nat):ByteArray:=⟨#[109]⟩++mkT k k ⟨#[]⟩
theorem bG{W:World}{base e size n:Nat}{v:Value}{xs:List Value}(b:W.ownsRow base e size v n xs):∃a cap,v= .slice a n cap:=by
 rcases b.2 with⟨rfl,c⟩|⟨f,cap,d,rfl,_⟩
 ·exact⟨none,0,by rw[c]⟩
 ·exact⟨_,_,rfl⟩
def mks(a n:Nat):List ByteArray:=(List.range n).map fun b=>mtI (a+b)
theorem bg{W:World}{base e size n:Nat}{v:Value}{xs:List Value}(a:W.ownsRow base e size v n xs):(n=0/\v= .slice none 0 0)\/∃g cap,v= .slice (some ⟨g,0,none⟩) n cap:=by
 rcases a.2 with⟨rfl,b⟩|⟨g,cap,c,rfl,_⟩
 ·exact .inl ⟨b,rfl⟩
 ·exact .inr ⟨_,_,rfl⟩
structure Nb where
 N:Nd
 g:Nat
 h:Nat
def Nb.vn(x:Nb):Value:= .slice (some ⟨x.g,0,none⟩) x.N.nm.length x.N.nm.length
def Nb.vk(x:Nb):Value:= .slice (some ⟨x.h,0,none⟩) x.N.ks.length x.N.ks.length
def cNb(x:Nb):List Value:=[.int .i64 x.N.k,.int .i64 x.N.f,.int .i64 x.N.t,.int .i64 x.N.l,.int .i64 x.N.op,.int .i64 x.N.n,.string x.N.x,x.vn,x.vk]
def Cc(l:List Nb):List Value:=l.flatMap cNb
def zc:List Value:=[.int .i64 0,.int .i64 0,.int .i64 0,.int .i64 0,.int .i64 0,.int .i64 0,.string ⟨#[]⟩,.slice none 0 0,.slice none 0 0]
theorem Ea(l:List Nb):(Cc l).length=l.length*9:=by
 induction l with
 |nil=>rfl
 |cons a b d=>
  have c:Cc (a::b)=cNb a++Cc b:=by simp[Cc]
  have e:(cNb a).length=9:=rfl
  rw[c,aD,d,e,co];omega
structure yj (W:World) (base:Nat) (x:Nb):Prop where
 on:W.ownsRow base 9 1 x.vn x.N.nm.length (x.N.nm.map Value.string)
 ok:W.ownsRow base 3 1 x.vk x.N.ks.length (x.N.ks.map (Value.int .i64))
theorem yj.below{W a:World}{base:Nat}{x:Nb}(b:yj W base x)(c:Below W.heap.size W a):yj a base x:=⟨cF b.on c,cF b.ok c⟩
theorem yj.set{W:World}{base:Nat}{x:Nb}(b:yj W base x){a:Addr}(c:x.g≠a.block)(d:x.h≠a.block)(u:Value):yj (W.setCell a u) base x:=
 ⟨ownsRow_setCell_other b.on (by unfold Nb.vn Value.ownBlock;simp;exact c) u,ownsRow_setCell_other b.ok (by unfold Nb.vk Value.ownBlock;simp;exact d) u⟩
structure nG (W:World) (base g n:Nat) (L:List Nb) (rest:List Value):Prop where
 row:W.ownsRow base 50 9 (.slice (some ⟨g,0,none⟩) n n) n (Cc L++rest)
 each:∀x∈L,yj W base x
 dn:(L.map Nb.g).Nodup
 dk:(L.map Nb.h).Nodup
theorem nG.below{W b:World}{base g n:Nat}{L:List Nb}{d:List Value}(a:nG W base g n L d)(c:Below W.heap.size W b):nG b base g n L d:=
 ⟨cF a.row c,fun f e=>(a.each f e).below c,a.dn,a.dk⟩
theorem nG.le{W:World}{base c g n:Nat}{L:List Nb}{e:List Value}(a:nG W base g n L e)(b:c<=base):nG W c g n L e:=
 ⟨us a.row b,fun f d=>⟨us (a.each f d).on b,us (a.each f d).ok b⟩,a.dn,a.dk⟩
theorem adC(c:List Nb)(i j:Nat)(T:Nb)(a:c[i]?=some T)(h:j<9):(Cc c)[i*9+j]?=(cNb T)[j]?:=by
 induction c generalizing i with
 |nil=>simp at a
 |cons b d f=>
  have e:Cc (b::d)=cNb b++Cc d:=by simp[Cc]
  have g:(cNb b).length=9:=rfl
  rw[e]
  cases i with
  |zero=>simp at a;subst a;rw[gL (by omega)];congr 1;omega
  |succ i=>
   rw[gq (by omega),g,show(i+1)*9+j-9=i*9+j by omega]
   exact f i (by simpa using a)
theorem AD(g m:Nat):(⟨g,0,none⟩:Addr).add m=⟨g,m,none⟩:=by unfold Addr.add;split<;>simp_all
theorem nG.nd{W:World}{base g n:Nat}{L:List Nb}(c:nG W base g n L []){i:Nat}{x:Nb}(d:L[i]?=some x):FG W ⟨g,i*9,none⟩ x.N x.vn x.vk:=by
 have j:n*9=L.length*9:=by have:=c.row.1;rw[dA,Ea]at this;omega
 have h:i<L.length:=by rcases ci i L.length with g|g;exact g;rw[iC g]at d;cases d
 have a:∀b,b<9->W.cell? ⟨g,i*9+b,none⟩=(cNb x)[b]?:=fun b f=>by
  rw[c.row.cellAt (i*9+b) (by omega),dA,adC L i b x d f]
 have e:=bJ d
 exact⟨a 0 (by omega),a 1 (by omega),a 2 (by omega),a 3 (by omega),a 4 (by omega),a 5 (by omega),a 6 (by omega),a 7 (by omega),a 8 (by omega),DI (c.each x e).on rfl,DJ (c.each x e).ok rfl⟩
theorem nG.nds{W:World}{base g n:Nat}{L:List Nb}(b:nG W base g n L []):dK W (.slice (some ⟨g,0,none⟩) n n) (L.map Nb.N):=by
 have c:n=(L.map Nb.N).length:=by have:=b.row.1;rw[dA,Ea]at this;rw[aI];omega
 refine .inr ⟨⟨g,0,none⟩,n,by rw[<-c],fun d N a=>?_⟩
 rw[bq]at a
 cases hx:L[d]? with
 |none=>rw[hx]at a;cases a
 |some e=>
  rw[hx]at a
  obtain rfl:=bh a
  rw[AD]
  exact⟨_,_,b.nd hx⟩
open Go.ChangeShapes Go.WideShapes Go.ChangeAt Go.WideMaps Go.WideElems Go.Deep
structure rA (N:Nd):Prop where
 k: -9223372036854775808<=N.k/\N.k<=9223372036854775807
 f: -9223372036854775808<=N.f/\N.f<=9223372036854775807
 t: -9223372036854775808<=N.t/\N.t<=9223372036854775807
 l: -9223372036854775808<=N.l/\N.l<=9223372036854775807
 op: -9223372036854775808<=N.op/\N.op<=9223372036854775807
 n: -9223372036854775808<=N.n/\N.n<=9223372036854775807
 ks:∀z∈N.ks, -9223372036854775808<=z/\z<=9223372036854775807
end Go.Proofs.YtkfgnpcanadjhaaGreatDoor
namespace Go.Proofs.YtkfgnpcanadjhaaGreatDoor
open Go.RowKit Go.Maps Go.WideMaps
def qa(base:Nat)(W:World)(v:Value)(xs:List ByteArray):Prop:=W.ownsRow base 9 1 v xs.length (xs.map Value.string)
theorem qa.form{base:Nat}{W:World}{v:Value}{xs:List ByteArray}(b:qa base W v xs):∃a c,v= .slice a xs.length c:=bG b
theorem qa.below{base:Nat}{W a:World}{v:Value}{xs:List ByteArray}(b:qa base W v xs)(c:Below W.heap.size W a):qa base a v xs:=cF b c
theorem ql:(Tryz.prog.info? 9).map (fun i=>(i.zero,i.size,i.bytes))=some (some (.string ⟨#[]⟩),1,16):=by kernel_rfl
theorem wo{w:World}{base:Nat}{v:Value}{n:Nat}{xs:List Value}(e:TypeId)(c:Nat)(d:w.ownsRow base 9 1 v n xs):
  (Builtin.append_ #[48,48] e #[v,.slice none 0 c]).run Tryz.prog w= .ok v w:=by
 obtain⟨l,a,i,j,k⟩:=dD ql
 rcases d.2 with⟨rfl,rfl⟩|⟨h,f,g,rfl,_,_,b,_⟩
 ·simp[Builtin.append_,run_underlying Tryz.underlying48,sizeOf,typeInfo,a,Builtin.lenOf,Builtin.firstCells]
 ·simp[Builtin.append_,run_underlying Tryz.underlying48,sizeOf,typeInfo,a,Builtin.lenOf,Builtin.firstCells,b,storeCells]
theorem adD:∀(l:List ByteArray),∀u∈l.map Value.string,u.oneCell'=true:=fun l u a=>by
 obtain⟨b,_,rfl⟩:=List.mem_map.1 a
 rfl
theorem AE{w:World}{k:Array Oper}{l:List Oper}{o:Oper}{a:Act}{i:Exit->Act->World->Prop}(z:o.guard=none)(s x:Operand)
  (A:o.op= .call {callee:= .builtin .append,args:=#[s,x],argTypes:=#[48,48]}) (base:Nat) (v:Value) (xs:List ByteArray) (C:a.eval s=v)
  (L:qa base w v xs) (y:base<=w.heap.size) (F:Value) (d:List ByteArray) (q:a.eval x=F) (K:bp w F d) (a2:xs.length<=4194304) (a1:d.length<=4194304) (r:Nat) (p:xs.length+d.length=r)
  (u:∀av cv w1,qa base w1 (.slice av r cv) (xs++d)->Below base w w1->wpList Tryz.prog k i l (a.put o.dst (.slice av r cv)) w1):
  wpList Tryz.prog k i (o::l) a w:=by
 subst p
 obtain⟨an,I,ak,al,am⟩:=dD ql
 have e:=L
 have ar:∀b,a.eval x= .slice none 0 b->d=[]->wpList Tryz.prog k i (o::l) a w:=fun b t g=>by
  subst g
  obtain⟨av,cv,rfl⟩:=bG e
  refine wpList_plain z fun a0 G=>?_
  have p:=wo o.type b e
  unfold Oper.wp execOp
  simp only[A,resolve,invoke,builtin,Sem.run_bind,Sem.run_pure,Result.andThen_ok,List.map_toArray,jh,List.map_nil,C,t,p]
  exact G _ _ (u av cv w (by rw[dA];exact e) (ag _ _))
 have E:∀c b,a.eval x= .slice (some c) d.length b->(∀h m,d[h]?=some m->w.cell? (c.add h)=some (.string m))->wpList Tryz.prog k i (o::l) a w:=fun c b t n=>by
  refine wpList_append_own_at _ z s x 48 A base 9 an _ 1 16 Tryz.underlying48 I ak al am rfl (by decide) v _ _ C e c d.length b (d.map Value.string) t (by simp) (fun h m f=>?_) (adD d) (by unfold maxLen;omega) (by omega) y ?_
  ·rw[bq]at f
   obtain⟨ap,af,rfl⟩:=Option.map_eq_some_iff.1 f
   exact n h ap af
  ·intro a3 w1 B H _ _
   obtain⟨av,cv,rfl⟩:=bG B
   exact u av cv w1 (by unfold qa;rw[aD,dm];exact B) ((ag base w).grown H y (fun ao J=>(e.lt ao J).1))
 rcases K with⟨g,c,b,j⟩|⟨c,b,j,n⟩
 ·cases c with
  |none=>exact ar b (q.trans j) g
  |some c=>exact E c b (by rw[q,j,g];rfl) (fun h m f=>by rw[g]at f;simp at f)
 ·exact E c b (q.trans j) n
def eB(k:Int):Bool:=decide (20<=k/\k<=37)
def gI(k:Int):Bool:=decide (1<=k/\k<=16)
def vB(k:Int):Bool:=decide (k=26\/k=32\/k=33)
theorem F9(k:Int)(w:World):Calls Tryz.prog 177 #[.int .i64 k] w fun e c=>e= .returned (.bool (eB k))/\c=w:=by
 unfold eB
 rcases(show(20<=k/\k<=37)\/(20<=k/\¬k<=37)\/¬20<=k by omega) with⟨h1,b⟩|⟨h1,b⟩|h1
 ·rw[bB ⟨h1,b⟩]
  go_in
  go_wp2
  go_ret
  exact⟨rfl,rfl⟩
 ·rw[az (fun a=>b a.2)]
  go_in
  go_wp2
  go_ret
  exact⟨rfl,rfl⟩
 ·rw[az (fun a=>h1 a.1)]
  go_in
  go_wp2
  go_ret
  exact⟨rfl,rfl⟩
theorem yk(k:Int)(w:World):Calls Tryz.prog 45 #[.int .i64 k] w fun e c=>e= .returned (.bool (gI k))/\c=w:=by
 unfold gI
 rcases(show(1<=k/\k<=16)\/(1<=k/\¬k<=16)\/¬1<=k by omega) with⟨h1,b⟩|⟨h1,b⟩|h1
 ·rw[bB ⟨h1,b⟩]
  go_in
  go_wp2
  go_ret
  exact⟨rfl,rfl⟩
 ·rw[az (fun a=>b a.2)]
  go_in
  go_wp2
  go_ret
  exact⟨rfl,rfl⟩
 ·rw[az (fun a=>h1 a.1)]
  go_in
  go_wp2
  go_ret
  exact⟨rfl,rfl⟩
theorem Cf(k:Int)(w:World):Calls Tryz.prog 129 #[.int .i64 k] w fun e d=>e= .returned (.bool (vB k))/\d=w:=by
 unfold vB
 by_cases a:k=26
 ·subst a
  go_in
  go_wp2
  go_ret
  exact⟨rfl,rfl⟩
 have f:(k==26)=false:=by rw[cJ];exact a
 by_cases b:k=32
 ·subst b
  go_in
  go_wp2
  go_ret
  exact⟨rfl,rfl⟩
 have g:(k==32)=false:=by rw[cJ];exact b
 by_cases c:k=33
 ·subst c
  go_in
  go_wp2
  go_ret
  exact⟨rfl,rfl⟩
 have h:(k==33)=false:=by rw[cJ];exact c
 rw[az (by omega)]
 go_in
 go_wp2
 go_ret
 exact⟨rfl,rfl⟩
theorem Jy(w:World)(n:Value)(a:List Nd)(N M:Nd)(vn vk:Value)(i:Nat)(z:Nat)(ht:dK w n a)(m:bp w vn N.nm)(d:cH w vk N.ks)(c:N.ks[i]?=some (z:Int))(b:a[z]?=some M)(q:a.length<=1048576)(r:N.ks.length<=1048576):
  Calls Tryz.prog 125 #[.agg #[n],gF N vn vk,.int .i64 i] w fun e u=>e= .returned (.int .i64 M.k)/\Below w.heap.size w u:=by
 have p:∀f g,Below w.heap.size w ((w.alloc f).alloc g):=fun f g=>((ag _ w).alloc (ah _) f).alloc (by simp) g
 obtain⟨A,E,rfl⟩:=ht.form
 obtain⟨B,F,rfl⟩:=m.form
 obtain⟨C,G,rfl⟩:=d.form
 obtain⟨ap,rfl,a0,av,l⟩:=ht.get b
 obtain⟨ar,rfl,o⟩:=d.get c
 have t:z<a.length:=by rcases ci z a.length with h|h;exact h;rw[iC h]at b;cases b
 have s:i<N.ks.length:=by rcases ci i N.ks.length with h|h;exact h;rw[iC h]at c;cases c
 have j:=l.c0
 have H:=tg o
 have I:=tg j
 unfold gF
 generalize a.length=J at q t
 generalize N.ks.length=x at r s
 generalize N.nm.length=v
 generalize M.k=y at j
 clear ht m d c b l
 obtain⟨L,K,an,af,am,ak,ao,al,ad⟩:=N
 simp only
 go_in
 go_wp21
 go_quiet (fail)
 go_wp21
 go_ret
 exact⟨rfl,jc (p _ _) _⟩
def eC(a:List Nd)(N:Nd)(j:Nat):Int:=(a.getD ((N.ks.getD j 0).toNat) Hy).k
def jj(a:List Nd)(N:Nd):Nat->Nat->Bool
 |0,_=>true
 |f+1,j=>eB (eC a N j)&&jj a N f (j+1)
structure agh (ns:List Nd) (N:Nd) (f j:Nat) (R:Bool):Prop where
 out:jj ns N f j=R
structure uw (ns:List Nd) (N:Nd):Prop where
 ok:∀z∈N.ks,0<=z/\z<(ns.length:Int)
theorem uw.get{a:List Nd}{N:Nd}(f:uw a N){j:Nat}(d:j<N.ks.length):∃(z:Nat) (M:Nd),N.ks[j]?=some (z:Int)/\a[z]?=some M/\eC a N j=M.k/\z<a.length:=by
 have c:N.ks[j]?=some N.ks[j]:=aF d
 obtain⟨g,h⟩:=f.ok N.ks[j] (xg d)
 obtain⟨z,e⟩:∃z:Nat,N.ks[j]=(z:Int):=⟨N.ks[j].toNat,by omega⟩
 have b:z<a.length:=by omega
 refine⟨z,a[z],by rw[c,e],aF b,?_,b⟩
 unfold eC
 rw[aL,aL,c,e]
 simp[b]
theorem jr(w:World)(J:Value)(b:List Nd)(N:Nd)(vn vk:Value)(i k:Nat)(ht:dK w J b)(c:bp w vn N.nm)(s:cH w vk N.ks)(ap:uw b N)(a5:k<=N.ks.length)(av:b.length<=1048576)(a0:N.ks.length<=1048576):
  Calls Tryz.prog 128 #[.agg #[J],gF N vn vk,.int .i64 i,.int .i64 k] w fun e a7=>e= .returned (.bool (jj b N (k-i) i))/\Below w.heap.size w a7:=by
 obtain⟨n,r⟩:=aE (jj b N (k-i) i)
 rw[r]
 have L:agh b N (k-i) i n:=⟨r⟩
 clear r
 have ar:∀t u,Below w.heap.size w ((w.alloc t).alloc u):=fun t u=>((ag _ w).alloc (ah _) t).alloc (by simp) u
 have g:=eJ ht s
 obtain⟨ad,ak,rfl⟩:=ht.form
 obtain⟨a9,ba,rfl⟩:=c.form
 obtain⟨af,al,rfl⟩:=s.form
 clear ht c s
 unfold gF
 obtain⟨I,c⟩:=aE b.length
 obtain⟨z,q⟩:=aE N.ks.length
 have y:=eJ c q
 rw[c]at g av⊢
 rw[q]at g a0 a5⊢
 clear c q
 generalize N.nm.length=a8
 go_in
 go_wp2_with fail
 generalize H:(w.alloc _).alloc _=h
 obtain⟨o,p,G, -⟩:=Dy H
 replace o:h.cell? ⟨w.heap.size,0,none⟩=some (.slice ad I ak):=(au _ _ _ _ _ _ o).trans rfl
 replace p:h.cell? ⟨w.heap.size+1,8,none⟩=some (.slice af z al):=(au _ _ _ _ _ _ p).trans rfl
 clear H ar
 go_loopw [9] (fun v wr=>∃(j:Nat),v= .int .i64 j/\i<=j/\(i<=k->j<=k)/\agh b N (k-j) j n/\Below h.heap.size h wr) (fun v _=>k-(intOf v).toNat)
 case atStart=>exact⟨i,rfl,ah _,fun ao=>ao,L,ag _ _⟩
 case round=>
  obtain⟨j,rfl,bf,bl,x,l⟩:=hrel
  have m:=G.trans (l.mono G.size)
  by_cases bo:j<k
  ·obtain⟨K,A,B,C,E,am⟩:=ap.get (j:=j) (by rw[y.out.2];omega)
   rw[y.out.1]at am
   obtain⟨bt,rfl,bx,bw,F⟩:=(g.1.below m).get C
   obtain⟨bv,rfl,bd⟩:=(g.2.below m).get B
   have bb:=ai l o
   have bc:=ai l p
   have an:=F.c0
   have a:=x.out
   rw[show k-j=(k-(j+1))+1 by omega,jj,E]at a
   have a4:(j:Int)<(k:Int):=by omega
   have bn:(j:Int)<(z:Int):=by omega
   have bs:(K:Int)<(I:Int):=by omega
   have br:(0:Int)<=(K:Int):=by omega
   have bk:(0:Int)<=(j:Int):=by omega
   have f:=fun w=>F9 A.k w
   generalize A.k=a6 at an a f
   clear B C E F
   cases hx:eB a6 with
   |true=>
    rw[hx,ez]at a
    rw[hx]at f
    have d:agh b N (k-(j+1)) (j+1) n:=⟨a⟩
    clear a hx
    go_wp2_with fail
    go_quiet ((go_at_call 177;exact Calls.quiet_of_same (f _)))
    go_wp2_with fail
    exact⟨⟨j+1,by go_num,by omega,fun _=>by omega,d,jc l _⟩,by simp[intOf];omega⟩
   |false=>
    rw[hx,dC]at a
    rw[hx]at f
    have d:=aj a
    clear a hx
    go_wp2_with fail
    go_quiet ((go_at_call 177;exact Calls.quiet_of_same (f _)))
    go_wp2_with fail
    go_ret
    exact⟨by rw[<-d.out];rfl,jc m _⟩
  ·have a:=x.out
   rw[show k-j=0 by omega,jj]at a
   have d:=aj a
   have a4:¬(j:Int)<(k:Int):=by omega
   clear a
   go_wp2_with fail
   go_ret
   exact⟨by rw[<-d.out];rfl,m⟩
def ux(x:ByteArray):Bool:=decide (x.toList=[])
def bj(N:Nd)(op b c a:Bool):Bool:=(op||N.op==0)&&(b||N.n==0)&&(c||ux N.x)&&(a||decide (N.nm.length=0))
theorem Ga(w:World)(N:Nd)(vn vk:Value)(h:bp w vn N.nm)(g:cH w vk N.ks)(s:N.nm.length<=1048576)(a b c d:Bool):
  Calls Tryz.prog 126 #[gF N vn vk,.bool a,.bool b,.bool c,.bool d] w fun e l=>e= .returned (.bool (bj N a b c d))/\Below w.heap.size w l:=by
 have j:=aj (dh w)
 obtain⟨o,q,rfl⟩:=h.form
 obtain⟨p,r,rfl⟩:=g.form
 clear h g
 obtain⟨n,f⟩:=aE (bj N a b c d)
 rw[f]
 unfold gF
 generalize N.ks.length=m
 unfold bj ux at f
 by_cases k:N.x.toList=[]
 all_goals
  simp only[k,decide_true,decide_false]at f
  have i:=aj f
  clear f
  cases t4:((N.nm.length:Int)==0)
  all_goals
   go_in
   go_wp2
   all_goals
    go_ret
    exact⟨by rw[<-i.out];simp at t4;simp[*],j _⟩
def Jz:List Nd->Nat
 |[]=>0
 |N::l=>Aw N+Jz l
def tr(n:Int):ByteArray:=⟨(Lib.itoa n).toArray⟩
def yl:ByteArray:=⟨#[32]⟩
def agi:ByteArray:=⟨#[10]⟩
def Eb:List ByteArray->ByteArray
 |[]=>⟨#[]⟩
 |s::l=>(yl++s)++Eb l
def Gb:List ByteArray->Nat
 |[]=>0
 |s::l=>s.size+Gb l
theorem ym(l:List ByteArray):(Eb l).size=l.length+Gb l:=by
 induction l with
 |nil=>rfl
 |cons a l b=>show((yl++a)++Eb l).size=_;rw[ax,ax,b];show 1+a.size+_=(l.length+1)+(a.size+Gb l);omega
def afv(N:Nd):ByteArray:=
 (((((((⟨#[]⟩:ByteArray)++(tr N.k++yl))++(tr N.f++yl))++(tr N.t++yl))++(tr N.l++yl))++(tr N.op++yl))++(tr N.n++yl))
def aaw(s:ByteArray):ByteArray:=eI (iK s)
def adE(N:Nd):ByteArray:=
 (((afv N++((aaw N.x++yl)++tr N.nm.length))++Eb N.nm)++(yl++tr N.ks.length))++Eb (N.ks.map tr)
def Ig:List Nd->ByteArray
 |[]=>⟨#[]⟩
 |N::l=>(adE N++agi)++Ig l
theorem iG(n:Int)(a: -9223372036854775808<=n)(b:n<=9223372036854775807):(tr n).size<=21:=by
 show(Lib.itoa n).toArray.size<=21
 rw[gG]
 exact Lib.itoa_length_le n a b
theorem Gc(x:List Int):(eI x).size=x.length:=by
 have d:∀(x:List Int)(a:ByteArray),(x.foldl (fun b e=>b.push (UInt8.ofNat e.toNat)) a).size=a.size+x.length:=by
  intro x
  induction x with
  |nil=>intro a;rfl
  |cons f b c=>intro a;show(b.foldl _ (a.push _)).size=_;rw[c];simp;omega
 have:=d x ByteArray.empty
 unfold eI
 rw[this]
 simp
theorem uy(s:ByteArray):(aaw s).size<=2+4*s.size:=by
 unfold aaw
 rw[Gc]
 unfold iK
 have:=xC s s.size (ah _)
 simp
 omega
theorem adF(l:List ByteArray):Gb l=Jt l:=by
 induction l with
 |nil=>rfl
 |cons a l b=>show a.size+Gb l=a.size+Jt l;rw[b]
theorem aax(l:List Int)(b:∀z∈l, -9223372036854775808<=z/\z<=9223372036854775807):Gb (l.map tr)<=21*l.length:=by
 induction l with
 |nil=>exact ah _
 |cons a l d=>
  have e:=d fun z c=>b z (ep _ c)
  have f:=iG a (b a (da)).1 (b a (da)).2
  show(tr a).size+Gb (l.map tr)<=21*(l.length+1)
  omega
theorem JA{N:Nd}(a:rA N)(u:N.nm.length<=1048576)(s:N.ks.length<=1048576):(adE N).size<=220+22*Aw N:=by
 have c:=iG _ a.k.1 a.k.2
 have d:=iG _ a.f.1 a.f.2
 have e:=iG _ a.t.1 a.t.2
 have g:=iG _ a.l.1 a.l.2
 have h:=iG _ a.op.1 a.op.2
 have i:=iG _ a.n.1 a.n.2
 have j:=iG (N.nm.length:Int) (by omega) (by omega)
 have m:=iG (N.ks.length:Int) (by omega) (by omega)
 have o:=uy N.x
 have p:=ym N.nm
 have b:=ym (N.ks.map tr)
 have q:=aax N.ks a.ks
 have r:=adF N.nm
 have v:yl.size=1:=rfl
 have s0:(⟨#[]⟩:ByteArray).size=0:=rfl
 rw[aI]at b
 unfold adE afv Aw aaf
 simp only[ax]
 omega
theorem Ge(l:List Nd)(d:∀N∈l,rA N)(a:∀N∈l,N.nm.length<=1048576/\N.ks.length<=1048576):(Ig l).size<=221*l.length+22*Jz l:=by
 induction l with
 |nil=>exact ah _
 |cons N l e=>
  have f:=e (fun c b=>d c (ep _ b)) fun c b=>a c (ep _ b)
  have g:=JA (d N (da)) (a N (da)).1 (a N (da)).2
  have h:agi.size=1:=rfl
  show((adE N++agi)++Ig l).size<=221*(l.length+1)+22*(Aw N+Jz l)
  rw[ax,ax]
  omega
def wB:Nat->ByteArray
 |0=>⟨#[115,116,97,116]⟩
 |1=>⟨#[98,108,111,99,107]⟩
 |2=>⟨#[101,108,115,101]⟩
 |3=>⟨#[101,120,112,114]⟩
 |4=>⟨#[98,97,115,101]⟩
 |5=>⟨#[116,97,114,103,101,116]⟩
 |6=>⟨#[99,97,108,108]⟩
 |7=>⟨#[109,97,110,121]⟩
 |8=>⟨#[102,110]⟩
 |_=>⟨#[101,110,116,114,121]⟩
def ms:Nat->Int->Bool
 |0,k=>gI k
 |1,k=>k==1
 |2,k=>k==1||k==7
 |3,k=>eB k
 |4,k=>eB k&&k !=27
 |5,k=>k==26||k==32||k==33
 |6,k=>k==34
 |7,k=>k==34||k==27
 |8,k=>k==36
 |_,k=>decide (40<=k/\k<=42)
theorem yo(k:Int)(w:World):Calls Tryz.prog 252 #[.int .i64 k] w fun e c=>e= .returned (.bool (eB k))/\c=w:=by
 unfold eB
 rcases(show(20<=k/\k<=37)\/(20<=k/\¬k<=37)\/¬20<=k by omega) with⟨h1,b⟩|⟨h1,b⟩|h1
 ·rw[bB ⟨h1,b⟩]
  go_in
  go_wp2
  go_ret
  exact⟨rfl,rfl⟩
 ·rw[az (fun a=>b a.2)]
  go_in
  go_wp2
  go_ret
  exact⟨rfl,rfl⟩
 ·rw[az (fun a=>h1 a.1)]
  go_in
  go_wp2
  go_ret
  exact⟨rfl,rfl⟩
theorem JB(k:Int)(w:World):Calls Tryz.prog 211 #[.string ⟨#[115,116,97,116]⟩,.int .i64 k] w fun e b=>e= .returned (.bool (ms 0 k))/\b=w:=by
 rcases(show(1<=k/\k<=16)\/(1<=k/\¬k<=16)\/(¬1<=k) by omega) with⟨h0,a⟩|⟨h0,a⟩|h0
 ·rw[show ms 0 k=true from bB (by omega)]
  go_in
  go_wp2
  go_ret
  exact⟨rfl,rfl⟩
 ·rw[show ms 0 k=false from az (by omega)]
  go_in
  go_wp2
  go_ret
  exact⟨rfl,rfl⟩
 ·rw[show ms 0 k=false from az (by omega)]
  go_in
  go_wp2
  go_ret
  exact⟨rfl,rfl⟩
theorem JC(k:Int)(w:World):Calls Tryz.prog 211 #[.string ⟨#[98,108,111,99,107]⟩,.int .i64 k] w fun e a=>e= .returned (.bool (ms 1 k))/\a=w:=by
 unfold ms
 go_in
 go_wp2
 go_ret
 exact⟨rfl,rfl⟩
theorem JD(k:Int)(w:World):Calls Tryz.prog 211 #[.string ⟨#[101,108,115,101]⟩,.int .i64 k] w fun e a=>e= .returned (.bool (ms 2 k))/\a=w:=by
 unfold ms
 rcases(show(k=1)\/(k=7)\/(¬k=1/\¬k=7) by omega) with rfl|rfl|⟨b,c⟩
 ·go_in
  go_wp2
  go_ret
  exact⟨rfl,rfl⟩
 ·go_in
  go_wp2
  go_ret
  exact⟨rfl,rfl⟩
 ·go_in
  go_wp2
  go_ret
  exact⟨rfl,rfl⟩
theorem JE(k:Int)(w:World):Calls Tryz.prog 211 #[.string ⟨#[101,120,112,114]⟩,.int .i64 k] w fun e a=>e= .returned (.bool (ms 3 k))/\a=w:=by
 have c:=fun w=>yo k w
 obtain⟨d,b⟩:=aE (eB k)
 show Calls _ _ _ _ fun e a=>e= .returned (.bool (eB k))/\a=w
 rw[b]at c⊢
 clear b
 go_in
 go_wp2_with (go_at_call 252;refine dj (c _) ?_)
 go_ret
 exact⟨rfl,rfl⟩
theorem JF(k:Int)(w:World):Calls Tryz.prog 211 #[.string ⟨#[98,97,115,101]⟩,.int .i64 k] w fun e b=>e= .returned (.bool (ms 4 k))/\b=w:=by
 have a:=fun w=>yo k w
 obtain⟨d,c⟩:=aE (eB k)
 show Calls _ _ _ _ fun e b=>e= .returned (.bool (eB k&&k !=27))/\b=w
 rw[c]at a⊢
 clear c
 cases d
 ·rw[dC]
  go_in
  go_wp2_with (go_at_call 252;refine dj (a _) ?_)
  go_ret
  exact⟨rfl,rfl⟩
 ·rw[ez]
  go_in
  go_wp2_with (go_at_call 252;refine dj (a _) ?_)
  go_ret
  exact⟨rfl,rfl⟩
theorem JG(k:Int)(w:World):Calls Tryz.prog 211 #[.string ⟨#[116,97,114,103,101,116]⟩,.int .i64 k] w fun e a=>e= .returned (.bool (ms 5 k))/\a=w:=by
 unfold ms
 rcases(show(k=26)\/(k=32)\/(k=33)\/(¬k=26/\¬k=32/\¬k=33) by omega) with rfl|rfl|rfl|⟨b,c,d⟩
 ·go_in
  go_wp2
  go_ret
  exact⟨rfl,rfl⟩
 ·go_in
  go_wp2
  go_ret
  exact⟨rfl,rfl⟩
 ·go_in
  go_wp2
  go_ret
  exact⟨rfl,rfl⟩
 ·go_in
  go_wp2
  go_ret
  exact⟨rfl,rfl⟩
theorem JH(k:Int)(w:World):Calls Tryz.prog 211 #[.string ⟨#[99,97,108,108]⟩,.int .i64 k] w fun e a=>e= .returned (.bool (ms 6 k))/\a=w:=by
 unfold ms
 go_in
 go_wp2
 go_ret
 exact⟨rfl,rfl⟩
theorem JI(k:Int)(w:World):Calls Tryz.prog 211 #[.string ⟨#[109,97,110,121]⟩,.int .i64 k] w fun e a=>e= .returned (.bool (ms 7 k))/\a=w:=by
 unfold ms
 rcases(show(k=34)\/(k=27)\/(¬k=34/\¬k=27) by omega) with rfl|rfl|⟨b,c⟩
 ·go_in
  go_wp2
  go_ret
  exact⟨rfl,rfl⟩
 ·go_in
  go_wp2
  go_ret
  exact⟨rfl,rfl⟩
 ·go_in
  go_wp2
  go_ret
  exact⟨rfl,rfl⟩
theorem JJ(k:Int)(w:World):Calls Tryz.prog 211 #[.string ⟨#[102,110]⟩,.int .i64 k] w fun e a=>e= .returned (.bool (ms 8 k))/\a=w:=by
 unfold ms
 go_in
 go_wp2
 go_ret
 exact⟨rfl,rfl⟩
theorem JK(k:Int)(w:World):Calls Tryz.prog 211 #[.string ⟨#[101,110,116,114,121]⟩,.int .i64 k] w fun e b=>e= .returned (.bool (ms 9 k))/\b=w:=by
 rcases(show(40<=k/\k<=42)\/(40<=k/\¬k<=42)\/(¬40<=k) by omega) with⟨h0,a⟩|⟨h0,a⟩|h0
 ·rw[show ms 9 k=true from bB (by omega)]
  go_in
  go_wp2
  go_ret
  exact⟨rfl,rfl⟩
 ·rw[show ms 9 k=false from az (by omega)]
  go_in
  go_wp2
  go_ret
  exact⟨rfl,rfl⟩
 ·rw[show ms 9 k=false from az (by omega)]
  go_in
  go_wp2
  go_ret
  exact⟨rfl,rfl⟩
theorem Cg(i:Nat)(a:i<10)(k:Int)(w:World):Calls Tryz.prog 211 #[.string (wB i),.int .i64 k] w fun e b=>e= .returned (.bool (ms i k))/\b=w:=by
 match i,a with
 |0,_=>exact JB k w
 |1,_=>exact JC k w
 |2,_=>exact JD k w
 |3,_=>exact JE k w
 |4,_=>exact JF k w
 |5,_=>exact JG k w
 |6,_=>exact JH k w
 |7,_=>exact JI k w
 |8,_=>exact JJ k w
 |9,_=>exact JK k w
theorem qm(z:Value)(n:Nat)(a:z.cells.size=1):(Builtin.zeroCells z.cells n).size=n:=by unfold Builtin.zeroCells;simp[a]
theorem aay(n:Nat)(v:1<=n)(x:n<=1000000)(w:World):Calls Tryz.prog 255 #[.slice none 0 0,.int .i64 (n:Int)] w fun e q=>
  ∃c,e= .returned (.slice (some ⟨w.heap.size,0,none⟩) 0 c)/\qa w.heap.size q (.slice (some ⟨w.heap.size,0,none⟩) 0 c) []/\Below w.heap.size w q:=by
 obtain⟨u,r,s,t,p⟩:=dD ql
 have d:∀h,(Builtin.append_ #[48,3] h #[.slice none 0 0,.int .i64 (n:Int)]).run Tryz.prog w= .ok (.slice (some ⟨w.heap.size,0,none⟩) (0+n) (grownCap w (0+n) 0 9)) (w.drew.alloc (.cells ([].toArray++Builtin.zeroCells (Value.string ⟨#[]⟩).cells n++Builtin.zeroCells (Value.string ⟨#[]⟩).cells (grownCap w (0+n) 0 9-(0+n))) 9)):=fun h=>
  Lib.run_append_grow_zeros w 48 3 h 9 u (.string ⟨#[]⟩) .i64 .i64 Tryz.underlying48 Tryz.underlying3 r s none 0 0 [] (run_firstCells_none _ _ _ _ _) n (by omega) (by rw[t];omega) (by omega) (by omega) (by rw[p];omega) (growslice_fits (by omega) (by rw[p];omega))
 have k:0+n<=grownCap w (0+n) 0 9:=grownCap_ge w _ _ _
 have f:=grownCap_le_maxLen w (0+n) 0 9 (by unfold maxLen;omega)
 obtain⟨a,j⟩:∃a,a=grownCap w (0+n) 0 9:=⟨_,rfl⟩
 rw[<-j]at d k f
 obtain⟨b,g⟩:∃b,([].toArray++Builtin.zeroCells (Value.string ⟨#[]⟩).cells n++Builtin.zeroCells (Value.string ⟨#[]⟩).cells (a-(0+n)))=b:=⟨_,rfl⟩
 have o:b.size=a:=by rw[<-g];rw[Array.size_append,Array.size_append,qm _ _ rfl,qm _ _ rfl];simp;omega
 rw[g]at d
 have l:Below w.heap.size w (w.drew.alloc (.cells b 9)):=(aq (ag _ w)).alloc (ah _) _
 have m:qa w.heap.size (w.drew.alloc (.cells b 9)) (.slice (some ⟨w.heap.size,0,none⟩) 0 a) []:=by
  refine⟨rfl,.inr ⟨w.heap.size,a,b,rfl,ah _,ay w.drew _,aJ _,f,by rw[o];omega,by simp⟩⟩
 have i:Hid (qa w.heap.size (w.drew.alloc (.cells b 9)) (.slice (some ⟨w.heap.size,0,none⟩) 0 a) []/\Below w.heap.size w (w.drew.alloc (.cells b 9))):=⟨m,l⟩
 rw[show 0+n=n by omega]at d k
 clear m l g j o f
 go_enter Tryz.func255,Tryz.ntmps255
 go_wp2_with (at_builtin;refine Lib.wpList_append_run _ rfl _ _ _ _ rfl _ _ rfl rfl _ _ (d _) ?_)
 all_goals (go_ret;exact⟨a,rfl,i.out.1,i.out.2⟩)
