import Derived.Test.YtnlhhmlcjbohbaaGreatDoorHNk07
set_option linter.all false
set_option maxRecDepth 100000
set_option maxHeartbeats 6400000
open Go renaming World->M,Value->V,Calls->Ax
open Go.Value renaming int->O,ownBlock->X,bool->A0,string->A2,tuple->A5
open Go.IntKind renaming i64->Q
open Go.Proofs.Tryz renaming prog->R
open Option renaming some->S,none->Z
open Go.Ending renaming returned->U
open Go.World renaming setCell->Y
namespace Go.Proofs.YtnlhhmlcjbohbaaGreatDoor
open Go.RowKit
variable{T:ByteArray}{W w0:World}{vt:Value}
def Ar(x:ByteArray):Bool:=decide (x.toList=[])
def bC(N:Nd)(op b c a:Bool):Bool:=(op||N.op==0)&&(b||N.n==0)&&(c||Ar N.x)&&(a||decide (N.nm.length=0))
theorem aaG(w:M)(N:Nd)(vn vk:V)(h:dA w vn N.nm)(g:dm w vk N.ks)(s:N.nm.length<=1048576)(a b c d:Bool):
  Ax R 195 #[jo N vn vk,A0 a,A0 b,A0 c,A0 d] w fun e l=>e= U (A0 (bC N a b c d))/\Below w.heap.size w l:=by
 have j:=aw (bG w);obtain⟨o,q,rfl⟩:=h.form;obtain⟨p,r,rfl⟩:=g.form;clear h g;obtain⟨n,f⟩:=aA (bC N a b c d);rw[f];unfold jo;generalize N.ks.length=m;unfold bC Ar at f;by_cases k:N.x.toList=[];all_goals
  simp only[k,decide_true,decide_false]at f;have i:=aw f;clear f;cases t4:((N.nm.length:Int)==0);all_goals
   go_in;go_wp2;all_goals
    go_ret;exact⟨by rw[<-i.out];simp at t4;simp[*],j _⟩
open Go.Lib (strCells strCells_length wpList_append_own_string)
theorem anh:(Tryz.prog.info? 5).map (fun i=>(i.zero,i.size,i.bytes))=S (S (O .u8 0),1,1):=by kernel_rfl
theorem Hx(a b:ByteArray):strCells (a++b)=strCells a++strCells b:=by
 unfold strCells;rw[show(a++b).data=a.data++b.data from oa];simp
structure Kq (b:Nat) (w w':M):Prop where
 os:w'.os=w.os
 tape:w'.tape=w.tape
 output:w'.output=w.output
 size:w.heap.size<=w'.heap.size
 block:∀k,k<w.heap.size->k≠b->(∀cs fr,w.heap[k]?≠S (.cells cs 5 fr))->w'.heap[k]?=w.heap[k]?
theorem Kq.refl(b:Nat)(w:M):Kq b w w:=⟨rfl,rfl,rfl,ae _,fun _ _ _ _=>rfl⟩
theorem Kq.trans{b:Nat}{x y z:M}(h:Kq b x y)(k:Kq b y z):Kq b x z:=
 ⟨k.os.trans h.os,k.tape.trans h.tape,k.output.trans h.output,bg h.size k.size,fun e c d a=>
  (k.block e (gh c h.size) d (fun f g=>by rw[h.block e c d a];exact a f g)).trans (h.block e c d a)⟩
theorem Kq.of_below{b:Nat}{w a:M}(h:Below w.heap.size w a):Kq b w a:=⟨h.os,h.tape,h.output,h.size,fun d c _ _=>h.block d c⟩
structure Pr (w0:M) (vt:V) (T:ByteArray) (tab:Int) (W:M):Prop where
 bel:Below w0.heap.size w0 W
 row:∃o,W.heap[w0.heap.size]?=S (.cells #[vt,o,.int .i64 tab] 130 (0,0))/\W.ownsRow (w0.heap.size+1) 5 1 o T.size (strCells T)
theorem Pr.lt{tab:Int}(h:Pr w0 vt T tab W):w0.heap.size<W.heap.size:=by
 obtain⟨c,a,b⟩:=h.row;exact ai a
theorem Pr.below{tab:Int}{b:M}(h:Pr w0 vt T tab W)(a:Below W.heap.size W b):Pr w0 vt T tab b:=by
 obtain⟨e,c,d⟩:=h.row;exact⟨h.bel.trans (a.mono h.bel.size),e,(a.block _ (ai c)).trans c,bJ d a⟩
theorem ago{p:Nat}{o:V}{cs:Array V}{t:TypeId}{fr:Nat×Nat}{n:Nat}{i:List V}(c:W.heap[p]?=S (.cells cs t fr))(h:t≠5){base:Nat}(d:W.ownsRow base 5 1 o n i)(g:Nat)(a:o.ownBlock=S g):g≠p/\base<=g:=by
 refine⟨?_,(d.lt g a).1⟩;rintro rfl;rcases d.2 with⟨b,_⟩|⟨e,j,k,b,_,f,_⟩
 ·rw[b]at a;simp[X]at a
 ·rw[b]at a;obtain rfl:e=g:=by simpa [X] using a
  rw[f]at c;cases c;exact h rfl
theorem Pr.put{g:V}{d:Int}(e:Below w0.heap.size w0 W)(b:W.heap[w0.heap.size]?=S (.cells #[vt,g,O Q d] 130 (0,0))){o:V}(c:W.ownsRow (w0.heap.size+1) 5 1 o T.size (strCells T)):Pr w0 vt T d (W.setCell ⟨w0.heap.size,1,Z⟩ o):=
 ⟨e.setCell (ae _) _,o,aL _ _ 1 _ _ _ b,c.kept (row:=S w0.heap.size) ⟨rfl,rfl,rfl,by simp[Y],fun j i f=>aC _ _ _ _ (fun a=>f (by rw[a]))⟩ (by
  cases hv:o.ownBlock with
  |none=>exact .inl rfl
  |some h=>exact .inr (fun a=>by cases a;exact(ago b (by decide) c _ hv).1 rfl))⟩
theorem Pr.putTab{g:Int}(h:Pr w0 vt T g W)(e:Int):Pr w0 vt T e (W.setCell ⟨w0.heap.size,2,Z⟩ (O Q e)):=by
 obtain⟨d,b,c⟩:=h.row;exact⟨h.bel.setCell (ae _) _,d,aL _ _ 2 _ _ _ b,c.kept (row:=S w0.heap.size) ⟨rfl,rfl,rfl,by simp[Y],fun k j f=>aC _ _ _ _ (fun a=>f (by rw[a]))⟩ (by
  cases hv:d.ownBlock with
  |none=>exact .inl rfl
  |some i=>exact .inr (fun a=>by cases a;exact(ago b (by decide) c _ hv).1 rfl))⟩
theorem Kq.putP(b:Nat)(W:M)(i:Nat)(v:V):Kq b W (W.setCell ⟨b,i,Z⟩ v):=
 ⟨rfl,rfl,rfl,by simp[Y],fun d c a _=>aC _ _ _ _ a⟩
theorem Pr.cells{tab:Int}(h:Pr w0 vt T tab W):W.cell? ⟨w0.heap.size,0,Z⟩=S vt/\W.cell? ⟨w0.heap.size,2,Z⟩=S (O Q tab)/\∀j,W.frozen? ⟨w0.heap.size,j,Z⟩=false:=by
 obtain⟨c,a,b⟩:=h.row;exact⟨by rw[au _ _ _ _ _ _ a];rfl,by rw[au _ _ _ _ _ _ a];rfl,fun j=>bI _ _ _ _ _ a⟩
theorem ga(a:M)(r:V)(T s:ByteArray)(tab:Int)(w:M)(h:Pr a r T tab w)(G:T.size+s.size<=140737488355328):
  Ax R 72 #[.pointer (S ⟨a.heap.size,0,Z⟩),.string s] w fun e z=>e= .returned (.tuple #[])/\Pr a r (T++s) tab z/\Kq a.heap.size w z:=by
 obtain⟨ao,d,f⟩:=h.row;have v:=h.bel;obtain⟨i,q⟩:=aA T.size;rw[q]at f G;obtain⟨l,m,rfl⟩:=cj f;obtain⟨J,K,L,ad,af⟩:=dD anh;have H:=ai d;have ag:w.cell? ⟨a.heap.size,1,Z⟩=S (.slice l i m):=by rw[au _ _ _ _ _ _ d];rfl
 have x:=ago d (by decide) f;have c:=CB f d q v;clear f d q h v;go_in;go_wp2_with (at_builtin;refine wpList_append_own_string _ rfl _ _ 22 9 rfl (a.heap.size+1) 5 J Tryz.underlying22 Tryz.underlying9 K L ad af _ _ _ rfl c.1 s rfl (by unfold maxLen;omega) (by omega) (by omega) ?_;intro ap k y b an;obtain⟨t,u,rfl⟩:=cj y;have o:=(b.block _ H (fun e=>(x _ e.symm).1 rfl)).trans c.2.1;have ar:k.cell? ⟨a.heap.size,1,Z⟩=S (.slice l i m):=(by rw[au _ _ _ _ _ _ o];rfl);have am:k.frozen? ⟨a.heap.size,1,Z⟩=false:=bI _ _ _ _ _ o);have B:Pr a r (T++s) tab (k.setCell ⟨a.heap.size,1,Z⟩ (.slice t (i+s.size) u)):=Pr.put (c.2.2.2.grown b (by omega) (fun g p=>by have:=(x g p).2;omega)) o (by rw[ax,c.out.2.2.1,Hx];exact y);have A:Kq a.heap.size w (k.setCell ⟨a.heap.size,1,Z⟩ (.slice t (i+s.size) u)):=by
  refine⟨b.os,b.tape,b.output,by simp[Y];exact b.size,fun g p I F=>?_⟩;rw[aC _ _ _ _ I];refine b.block g p (fun e=>?_);have j:(Value.slice l i m).ownBlock=S g:=e.symm;rcases c.1.2 with⟨n,_⟩|⟨C,ak,al,n,_,E,_⟩
  ·rw[n]at j;simp[X]at j
  ·rw[n]at j;obtain rfl:C=g:=by simpa [X] using j
   exact F _ _ E
 go_end0
 exact⟨rfl,B,A⟩
end Go.Proofs.YtnlhhmlcjbohbaaGreatDoor
namespace Go.Proofs.YtnlhhmlcjbohbaaGreatDoor
open Go.RowKit
variable{T:ByteArray}{W w0:World}{vt:Value}
def Do:Nat->ByteArray
 |0=>ByteArray.empty
 |n+1=>Do n++⟨#[9]⟩
def lJ(t:Nat):ByteArray:=⟨#[10]⟩++Do t
theorem As:∀t,(Do t).size=t
 |0=>rfl
 |t+1=>by rw[Do,ax,As t];rfl
theorem np(t:Nat):(lJ t).size=t+1:=by rw[lJ,ax,As];show 1+t=_;omega
def js:ByteArray:=⟨#[44,32]⟩
def akl(a:Bool×ByteArray)(x:ByteArray):Bool×ByteArray:=(true,(if a.1=true then a.2++js else a.2)++x)
def agp(l:List ByteArray):Bool×ByteArray:=l.foldl akl (false,ByteArray.empty)
def ft(l:List ByteArray):ByteArray:=(agp l).2
theorem FD(l:List ByteArray)(x:ByteArray):agp (l++[x])=akl (agp l) x:=by unfold agp;rw[List.foldl_append];rfl
theorem agq:∀l:List ByteArray,(agp l).1=!l.isEmpty:=by
 intro l;rcases List.eq_nil_or_concat l with rfl|⟨a,b,rfl⟩
 ·rfl
 ·rw[List.concat_eq_append,FD];unfold akl;simp
theorem pF(l:List ByteArray)(k:Nat)(x:ByteArray)(f:l[k]?=S x):ft (l.take (k+1))=(if k=0 then ft (l.take k) else ft (l.take k)++js)++x:=by
 obtain⟨b,e⟩:=List.getElem?_eq_some_iff.1 f;have d:l.take (k+1)=l.take k++[x]:=by rw[List.take_succ_eq_append_getElem b,e]
 unfold ft;rw[d,FD];unfold akl;simp only;rw[agq];by_cases a:k=0
 ·subst a;simp
 ·rw[aa a,ab];cases l with
  |nil=>simp at b
  |cons g h=>obtain⟨c,rfl⟩:∃c,k=c+1:=⟨k-1,by omega⟩;simp
theorem agr(l:List ByteArray)(k:Nat):(ft (l.take k)).size<=(ft (l.take (k+1))).size:=by
 by_cases a:k<l.length
 ·rw[pF l k _ (aE a),ax];split
  ·omega
  ·rw[ax];omega
 ·rw[dj (by omega),dj (by omega)];exact ae _
theorem Cq(l:List ByteArray)(k:Nat):(ft (l.take k)).size<=(ft l).size:=by
 have b:∀a,(ft (l.take k)).size<=(ft (l.take (k+a))).size:=by
  intro a
  induction a with
  |zero=>exact ae _
  |succ a c=>exact bg c (agr l (k+a))
 have:=b l.length
 rwa [dj (show l.length<=k+l.length by omega)]at this
theorem Ke(b:M)(d:V)(T:ByteArray)(t:Nat)(w:M)(h:Pr b d T t w)(u:t<=1000000)(r:T.size+(t+1)<=140737488355328):
  Ax R 158 #[.pointer (S ⟨b.heap.size,0,Z⟩)] w fun e j=>e= U (A5 #[])/\Pr b d (T++lJ t) t j/\Kq b.heap.size w j:=by
 have l:=aw h;clear h;go_in;go_wp2_with (go_at_call 72;refine(ga b d T _ _ _ l (by show T.size+1<=_;omega)).mono ?_;rintro e w1 ⟨rfl,i,g⟩);have k:=dC i g;clear i g;go_loopw [2] (fun f wr=>∃a:Nat,a<=t/\f= O Q a/\Hid (Pr b d (T++(⟨#[10]⟩++Do a)) t wr/\Kq b.heap.size w wr)) (fun f _=>t-(intOf f).toNat)
 case atStart=>exact⟨0,by omega,rfl,by rw[show(⟨#[10]⟩:ByteArray)++Do 0=⟨#[10]⟩ from rfl];exact k⟩
 case round=>
  obtain⟨a,q,rfl,c⟩:=hrel;obtain⟨n,o,p⟩:=c.1.cells;by_cases s:a<t
  ·go_wp2_with (go_at_call 72;refine(ga b d _ _ _ _ c.1 (by rw[ax,ax,As];show T.size+(1+a)+1<=_;omega)).mono ?_;rintro e v ⟨rfl,p2,m⟩);refine⟨⟨a+1,by omega,by go_num,?_⟩,by simp[intOf];omega⟩;refine⟨?_,c.2.trans m⟩;rw[show T++((⟨#[10]⟩:ByteArray)++Do (a+1))=T++(⟨#[10]⟩++Do a)++⟨#[9]⟩ by rw[Do,fh,fh]];exact p2
  ·obtain rfl:a=t:=by omega
   go_wp21
   go_end0
   exact⟨rfl,c.1,c.2⟩
theorem aec(b:M)(f vn:V)(l:List ByteArray)(T:ByteArray)(t:Int)(w:M)(h:Pr b f T t w)(q:dA b vn l)(K:l.length<=1048576)(ak:T.size+(ft l).size<=140737488355328):
  Ax R 111 #[.pointer (S ⟨b.heap.size,0,Z⟩),vn] w fun e G=>e= U (A5 #[])/\Pr b f (T++ft l) t G/\Kq b.heap.size w G:=by
 have o:=dC h q;obtain⟨L,ad,rfl⟩:=q.form;clear h q;obtain⟨m,p⟩:=aA l.length;rw[p]at K o⊢;have y:=aw p;clear p;go_in;go_wp21
 go_loopw [8] (fun s wr=>∃a:Nat,a<=m/\s= O Q a/\Hid (Pr b f (T++ft (l.take a)) t wr/\Kq b.heap.size w wr)) (fun s _=>m-(intOf s).toNat)
 case atStart=>exact⟨0,by omega,rfl,by rw[show T++ft (l.take 0)=T from ByteArray.append_empty];exact o.1,Kq.refl _ _⟩
 case round=>
  obtain⟨a,ag,rfl,c⟩:=hrel;by_cases J:a<m
  ·obtain⟨n,r⟩:=co y.out J;obtain⟨H,rfl,I⟩:=(o.2.below c.1.bel).get r;have B:=pF l a n r;have C:=Cq l (a+1);have g:=dC B C;clear B C r;by_cases A:a=0
   ·subst A;have d:ft (l.take (0+1))=ft (l.take 0)++n:=by rw[g.out.1,ab rfl]
    have j:=g.2;rw[d,ax]at j;have i:=aw d;clear d g;have af:wr.cell? H=S (A2 n):=by simpa [Addr.add] using I
    go_wp2_with (go_at_call 72;refine(ga b f _ _ _ _ c.1 (by rw[ax];omega)).mono ?_;rintro e u ⟨rfl,p2,k⟩);refine⟨⟨1,by omega,by go_num,?_,c.2.trans k⟩,by simp[intOf];omega⟩;rw[show(1:Nat)=0+1 from rfl,i.out,<-fh];exact p2
   ·have d:ft (l.take (a+1))=ft (l.take a)++js++n:=by rw[g.out.1,aa A]
    have j:=g.2;rw[d,ax,ax]at j;have z:js.size=2:=rfl;have i:=iF d j z;clear d j z g;go_wp21
    refine(ga b f _ _ _ _ c.1 (by have:=i.2;rw[ax];show _+js.size<=_;omega)).mono ?_;rintro e u ⟨rfl,p2,k⟩;have v:Hid (Pr b f (T++ft (l.take a)++js) t u/\Kq b.heap.size wr u):=⟨p2,k⟩;clear p2 k;go_wp21
    refine(ga b f _ _ _ _ v.1 (by have:=i.2;rw[ax,ax];omega)).mono ?_;rintro e al ⟨rfl,F,E⟩;have x:=dC F E;clear F E;go_wp21
    refine⟨⟨a+1,by omega,by go_num,?_,(c.2.trans v.2).trans x.2⟩,by simp[intOf];omega⟩;rw[i.out.1,<-fh,<-fh];exact x.1
  ·obtain rfl:a=m:=by omega
   go_wp21
   go_end0
   refine⟨rfl,?_,c.2⟩;have:=c.1
   rwa [dj (by rw[y.out];exact ae _)]at this
def pwF(op:Int):Int×Int:=
 if 13<=op/\op<=18 then(3,4) else if op=12 then(4,4) else if op=8 then(5,6) else if op=9 then(6,7) else if op=7 then(7,8) else if op=10\/op=11 then(8,9) else if op=1\/op=2 then(9,10) else(10,11)
theorem Bb(op:Int)(b:1<=op)(c:op<=18)(w:M):
  Ax R 199 #[O Q (60+op)] w fun e d=>e= U (A5 #[O Q (pwF op).1,O Q (pwF op).2])/\d=w:=by
 have a:op=1\/op=2\/op=3\/op=4\/op=5\/op=6\/op=7\/op=8\/op=9\/op=10\/op=11\/op=12\/op=13\/op=14\/op=15\/op=16\/op=17\/op=18:=by omega
 clear b c;rcases a with rfl|rfl|rfl|rfl|rfl|rfl|rfl|rfl|rfl|rfl|rfl|rfl|rfl|rfl|rfl|rfl|rfl|rfl<;>
  (go_in
   go_wp2;exact aI (results_tmp2 rfl _ _ _) rfl ⟨rfl,rfl⟩)
def jH(k op:Int):Int:=if k=29 then 1 else if k=28 then 2 else if k=31 then(pwF op).1 else if k=30 then 11 else 12
def xC(k op:Int):Int:=if k=29 then 2 else if k=28 then 3 else(pwF op).2
def acx(k:Int):Bool:=k==26||k==32||k==33||k==34||k==37
theorem Bc(N:Nd)(vn vk:V)(h:N.k=31->1<=N.op/\N.op<=18)(w:M):
  Ax R 159 #[jo N vn vk] w fun e v=>e= U (O Q (jH N.k N.op))/\Below w.heap.size w v:=by
 have i:Below w.heap.size w (w.alloc (.cells #[O Q N.k,O Q N.f,O Q N.t,O Q N.l,O Q N.op,O Q N.n,A2 N.x,vn,vk] 111)):=(ah _ w).alloc (ae _) _;unfold jo;by_cases a:N.k=29
 ·have o:(N.k==29)=true:=by simpa using a
  have b:Hid (jH N.k N.op=1):=by show _=_;unfold jH;rw[ab a]
  clear a h;go_in;go_wp2;go_ret;exact⟨by rw[b.out];rfl,i⟩
 have o:(N.k==29)=false:=by simpa using a
 by_cases c:N.k=28
 ·have p:(N.k==28)=true:=by simpa using c
  have b:Hid (jH N.k N.op=2):=by show _=_;unfold jH;rw[aa a,ab c]
  clear a c h;go_in;go_wp2;go_ret;exact⟨by rw[b.out];rfl,i⟩
 have p:(N.k==28)=false:=by simpa using c
 by_cases d:N.k=31
 ·have q:(N.k==31)=true:=by simpa using d
  have b:Hid (jH N.k N.op=(pwF N.op).1):=by show _=_;unfold jH;rw[aa a,aa c,ab d]
  obtain⟨s,u⟩:=h d;have j:=Bb N.op s u;generalize pwF N.op=m at j b;obtain⟨y,z⟩:=m;simp only at j b;clear a c d h;go_in;go_wp2_with (go_at_call 199;refine eH (j _) ?_);go_ret;exact⟨by rw[b.out];rfl,i⟩
 have q:(N.k==31)=false:=by simpa using d
 by_cases g:N.k=30
 ·have r:(N.k==30)=true:=by simpa using g
  have b:Hid (jH N.k N.op=11):=by show _=_;unfold jH;rw[aa a,aa c,aa d,ab g]
  clear a c d g h;go_in;go_wp2;go_ret;exact⟨by rw[b.out];rfl,i⟩
 have r:(N.k==30)=false:=by simpa using g
 have b:Hid (jH N.k N.op=12):=by show _=_;unfold jH;rw[aa a,aa c,aa d,aa g]
 clear a c d g h;go_in;go_wp2;go_ret;exact⟨by rw[b.out];rfl,i⟩
theorem Kf(N:Nd)(vn vk:V)(d:N.k≠29->N.k≠28->1<=N.op/\N.op<=18)(w:M):
  Ax R 200 #[jo N vn vk] w fun e q=>e= U (O Q (xC N.k N.op))/\Below w.heap.size w q:=by
 have g:Below w.heap.size w (w.alloc (.cells #[O Q N.k,O Q N.f,O Q N.t,O Q N.l,O Q N.op,O Q N.n,A2 N.x,vn,vk] 111)):=(ah _ w).alloc (ae _) _;unfold jo;by_cases a:N.k=29
 ·have j:(N.k==29)=true:=by simpa using a
  have b:Hid (xC N.k N.op=2):=by show _=_;unfold xC;rw[ab a]
  clear a d;go_in;go_wp2;go_ret;exact⟨by rw[b.out];rfl,g⟩
 have j:(N.k==29)=false:=by simpa using a
 by_cases c:N.k=28
 ·have m:(N.k==28)=true:=by simpa using c
  have b:Hid (xC N.k N.op=3):=by show _=_;unfold xC;rw[aa a,ab c]
  clear a c d;go_in;go_wp2;go_ret;exact⟨by rw[b.out];rfl,g⟩
 have m:(N.k==28)=false:=by simpa using c
 have b:Hid (xC N.k N.op=(pwF N.op).2):=by show _=_;unfold xC;rw[aa a,aa c]
 obtain⟨o,p⟩:=d a c;have h:=Bb N.op o p;generalize pwF N.op=i at h b;obtain⟨r,s⟩:=i;simp only at h b;clear a c d;go_in;go_wp2_with (go_at_call 199;refine eH (h _) ?_);go_ret;exact⟨by rw[b.out];rfl,g⟩
theorem aaH(k:Int)(w:M):Ax R 201 #[O Q k] w fun e a=>e= U (A0 (acx k))/\a=w:=by
 unfold acx;cases f1:(k==26)<;>cases f2:(k==32)<;>cases f3:(k==33)<;>cases f4:(k==34)<;>cases f5:(k==37)<;>
  (go_in
   go_wp2;go_ret;exact⟨rfl,rfl⟩)
