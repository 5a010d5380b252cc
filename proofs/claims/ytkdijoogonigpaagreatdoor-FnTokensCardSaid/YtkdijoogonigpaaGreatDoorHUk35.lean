import Derived.Test.YtkdijoogonigpaaGreatDoorHUk12
set_option linter.all false
set_option maxRecDepth 100000
set_option maxHeartbeats 3200000
open Go renaming World->M,Value->R,Calls->Ax
open Go.Value renaming int->O,ownBlock->V,string->A0,tuple->A2
open Go.IntKind renaming i64->Q
open Option renaming some->S,none->Z
open Go.Proofs.Tryz renaming prog->U
open Go.World renaming setCell->X
open Go.Ending renaming returned->Y
namespace Go.Proofs.YtkdijoogonigpaaGreatDoor
open Go.Lib (strCells strCells_length wpList_append_own_string)
open Go.RowKit
theorem adJ:(Tryz.prog.info? 5).map (fun i=>(i.zero,i.size,i.bytes))=S (S (O .u8 0),1,1):=by kernel_rfl
theorem Ae(a b:ByteArray):strCells (a++b)=strCells a++strCells b:=by
 unfold strCells;rw[show(a++b).data=a.data++b.data from lC];simp
structure Kq (b:Nat) (w w':M):Prop where
 os:w'.os=w.os
 tape:w'.tape=w.tape
 output:w'.output=w.output
 size:w.heap.size<=w'.heap.size
 block:∀k,k<w.heap.size->k≠b->(∀cs fr,w.heap[k]?≠S (.cells cs 5 fr))->w'.heap[k]?=w.heap[k]?
theorem Kq.refl(b:Nat)(w:M):Kq b w w:=⟨rfl,rfl,rfl,ag _,fun _ _ _ _=>rfl⟩
theorem Kq.trans{b:Nat}{x y z:M}(a:Kq b x y)(k:Kq b y z):Kq b x z:=
 ⟨k.os.trans a.os,k.tape.trans a.tape,k.output.trans a.output,bA a.size k.size,fun f d e c=>
  (k.block f (eI d a.size) e (fun g h=>by rw[a.block f d e c];exact c g h)).trans (a.block f d e c)⟩
theorem Kq.of_below{b:Nat}{w c:M}(a:Below w.heap.size w c):Kq b w c:=⟨a.os,a.tape,a.output,a.size,fun e d _ _=>a.block e d⟩
structure Pr (w0:M) (vt:R) (T:ByteArray) (tab:Int) (W:M):Prop where
 bel:Below w0.heap.size w0 W
 row:∃o,W.heap[w0.heap.size]?=S (.cells #[vt,o,.int .i64 tab] 105 (0,0))/\W.ownsRow (w0.heap.size+1) 5 1 o T.size (strCells T)
theorem Pr.lt{w0:M}{e:R}{b:ByteArray}{tab:Int}{a:M}(c:Pr w0 e b tab a):w0.heap.size<a.heap.size:=by
 obtain⟨g,d,f⟩:=c.row;exact au d
theorem Pr.below{w0:M}{g:R}{d:ByteArray}{tab:Int}{a e:M}(b:Pr w0 g d tab a)(c:Below a.heap.size a e):Pr w0 g d tab e:=by
 obtain⟨i,f,h⟩:=b.row;exact⟨b.bel.trans (c.mono b.bel.size),i,(c.block _ (au f)).trans f,ei h c⟩
theorem Ka{d:M}{p:Nat}{g:R}{cs:Array R}{t:TypeId}{fr:Nat×Nat}{n:Nat}{k:List R}(e:d.heap[p]?=S (.cells cs t fr))(j:t≠5){base:Nat}(f:d.ownsRow base 5 1 g n k)(a:Nat)(b:g.ownBlock=S a):a≠p/\base<=a:=by
 refine⟨?_,(f.lt a b).1⟩;rintro rfl;rcases f.2 with⟨c,_⟩|⟨h,l,m,c,_,i,_⟩
 ·rw[c]at b;simp[V]at b
 ·rw[c]at b;obtain rfl:h=a:=by simpa [V] using b
  rw[i]at e;cases e;exact j rfl
theorem Pr.put{w0 a:M}{h k:R}{g:Int}(i:Below w0.heap.size w0 a)(e:a.heap[w0.heap.size]?=S (.cells #[h,k,O Q g] 105 (0,0))){b:R}{c:ByteArray}(f:a.ownsRow (w0.heap.size+1) 5 1 b c.size (strCells c)):Pr w0 h c g (a.setCell ⟨w0.heap.size,1,Z⟩ b):=
 ⟨i.setCell (ag _) _,b,bK _ _ 1 _ _ _ e,f.kept (row:=S w0.heap.size) ⟨rfl,rfl,rfl,by simp[X],fun n m j=>bC _ _ _ _ (fun d=>j (by rw[d]))⟩ (by
  cases hv:b.ownBlock with
  |none=>exact .inl rfl
  |some l=>exact .inr (fun d=>by cases d;exact(Ka e (by decide) f _ hv).1 rfl))⟩
theorem Pr.putTab{w0 c:M}{i:R}{b:ByteArray}{k:Int}(d:Pr w0 i b k c)(h:Int):Pr w0 i b h (c.setCell ⟨w0.heap.size,2,Z⟩ (O Q h)):=by
 obtain⟨g,e,f⟩:=d.row;exact⟨d.bel.setCell (ag _) _,g,bK _ _ 2 _ _ _ e,f.kept (row:=S w0.heap.size) ⟨rfl,rfl,rfl,by simp[X],fun n m j=>bC _ _ _ _ (fun a=>j (by rw[a]))⟩ (by
  cases hv:g.ownBlock with
  |none=>exact .inl rfl
  |some l=>exact .inr (fun a=>by cases a;exact(Ka e (by decide) f _ hv).1 rfl))⟩
theorem Kq.putP(b:Nat)(a:M)(i:Nat)(v:R):Kq b a (a.setCell ⟨b,i,Z⟩ v):=
 ⟨rfl,rfl,rfl,by simp[X],fun e d c _=>bC _ _ _ _ c⟩
theorem Pr.cells{w0:M}{c:R}{d:ByteArray}{tab:Int}{a:M}(e:Pr w0 c d tab a):a.cell? ⟨w0.heap.size,0,Z⟩=S c/\a.cell? ⟨w0.heap.size,2,Z⟩=S (O Q tab)/\∀j,a.frozen? ⟨w0.heap.size,j,Z⟩=false:=by
 obtain⟨g,b,f⟩:=e.row;exact⟨by rw[ay _ _ _ _ _ _ b];rfl,by rw[ay _ _ _ _ _ _ b];rfl,fun j=>dp _ _ _ _ _ b⟩
theorem az(w0:M)(m:R)(d s:ByteArray)(tab:Int)(w:M)(n:Pr w0 m d tab w)(G:d.size+s.size<=140737488355328):
  Ax U 81 #[.pointer (S ⟨w0.heap.size,0,Z⟩),.string s] w fun e z=>e= .returned (.tuple #[])/\Pr w0 m (d++s) tab z/\Kq w0.heap.size w z:=by
 obtain⟨a1,f,g⟩:=n.row;have v:=n.bel;obtain⟨b,r⟩:=aD d.size;rw[r]at g G;obtain⟨j,k,rfl⟩:=ey g;obtain⟨J,K,L,af,ak⟩:=fd adJ;have H:=au f;have al:w.cell? ⟨w0.heap.size,1,Z⟩=S (.slice j b k):=by rw[ay _ _ _ _ _ _ f];rfl
 have x:=Ka f (by decide) g;have c:=wI g f r v;clear g f r n v;go_in;go_wp2_with (at_builtin;refine wpList_append_own_string _ rfl _ _ 22 9 rfl (w0.heap.size+1) 5 J Tryz.underlying22 Tryz.underlying9 K L af ak _ _ _ rfl c.out.1 s rfl (by unfold maxLen;omega) (by omega) (by omega) ?_;intro a2 i y a a0;obtain⟨t,u,rfl⟩:=ey y;have p:i.heap[w0.heap.size]?=S (.cells #[m,.slice j b k,.int .i64 tab] 105 (0,0)):=(a.block _ H (fun e=>(x _ e.symm).1 rfl)).trans c.out.2.1;have a3:i.cell? ⟨w0.heap.size,1,Z⟩=S (.slice j b k):=(by rw[ay _ _ _ _ _ _ p];rfl);have ap:i.frozen? ⟨w0.heap.size,1,Z⟩=false:=dp _ _ _ _ _ p);have B:Pr w0 m (d++s) tab (i.setCell ⟨w0.heap.size,1,Z⟩ (.slice t (b+s.size) u)):=Pr.put (c.out.2.2.2.grown a (by omega) (fun h q=>by have:=(x h q).2;omega)) p (by rw[ae,c.out.2.2.1,Ae];exact y);have A:Kq w0.heap.size w (i.setCell ⟨w0.heap.size,1,Z⟩ (.slice t (b+s.size) u)):=by
  refine⟨a.os,a.tape,a.output,by simp[X];exact a.size,fun h q I F=>?_⟩;rw[bC _ _ _ _ I];refine a.block h q (fun e=>?_);have l:(Value.slice j b k).ownBlock=S h:=e.symm;rcases c.out.1.2 with⟨o,_⟩|⟨C,am,an,o,_,E,_⟩
  ·rw[o]at l;simp[V]at l
  ·rw[o]at l;obtain rfl:C=h:=by simpa [V] using l
   exact F _ _ E
 go_end0
 exact⟨rfl,B,A⟩
end Go.Proofs.YtkdijoogonigpaaGreatDoor
namespace Go.Proofs.YtkdijoogonigpaaGreatDoor
open Go.RowKit
def wi:Nat->ByteArray
 |0=>ByteArray.empty
 |n+1=>wi n++⟨#[9]⟩
def ij(t:Nat):ByteArray:=⟨#[10]⟩++wi t
theorem sI:∀t,(wi t).size=t
 |0=>rfl
 |t+1=>by rw[wi,ae,sI t];rfl
theorem iK(t:Nat):(ij t).size=t+1:=by rw[ij,ae,sI];show 1+t=_;omega
def di:ByteArray:=⟨#[44,32]⟩
def abq(a:Bool×ByteArray)(x:ByteArray):Bool×ByteArray:=(true,(if a.1=true then a.2++di else a.2)++x)
def Kc(l:List ByteArray):Bool×ByteArray:=l.foldl abq (false,ByteArray.empty)
def bv(l:List ByteArray):ByteArray:=(Kc l).2
theorem yq(l:List ByteArray)(x:ByteArray):Kc (l++[x])=abq (Kc l) x:=by unfold Kc;rw[List.foldl_append];rfl
theorem Kd:∀l:List ByteArray,(Kc l).1=!l.isEmpty:=by
 intro l;rcases List.eq_nil_or_concat l with rfl|⟨a,b,rfl⟩
 ·rfl
 ·rw[List.concat_eq_append,yq];unfold abq;simp
theorem kJ(l:List ByteArray)(k:Nat)(x:ByteArray)(f:l[k]?=S x):bv (l.take (k+1))=(if k=0 then bv (l.take k) else bv (l.take k)++di)++x:=by
 obtain⟨b,e⟩:=List.getElem?_eq_some_iff.1 f;have d:l.take (k+1)=l.take k++[x]:=by rw[List.take_succ_eq_append_getElem b,e]
 unfold bv;rw[d,yq];unfold abq;simp only;rw[Kd];by_cases a:k=0
 ·subst a;simp
 ·rw[aa a,ab];cases l with
  |nil=>simp at b
  |cons g h=>obtain⟨c,rfl⟩:∃c,k=c+1:=⟨k-1,by omega⟩;simp
theorem Ke(l:List ByteArray)(k:Nat):(bv (l.take k)).size<=(bv (l.take (k+1))).size:=by
 by_cases a:k<l.length
 ·rw[kJ l k _ (aF a),ae];split
  ·omega
  ·rw[ae];omega
 ·rw[cC (by omega),cC (by omega)];exact ag _
theorem uu(l:List ByteArray)(k:Nat):(bv (l.take k)).size<=(bv l).size:=by
 have b:∀a,(bv (l.take k)).size<=(bv (l.take (k+a))).size:=by
  intro a
  induction a with
  |zero=>exact ag _
  |succ a c=>exact bA c (Ke l (k+a))
 have:=b l.length
 rwa [cC (show l.length<=k+l.length by omega)]at this
theorem Cf(w0:M)(d:R)(b:ByteArray)(t:Nat)(w:M)(g:Pr w0 d b t w)(v:t<=1000000)(s:b.size+(t+1)<=140737488355328):
  Ax U 137 #[.pointer (S ⟨w0.heap.size,0,Z⟩)] w fun e j=>e= Y (A2 #[])/\Pr w0 d (b++ij t) t j/\Kq w0.heap.size w j:=by
 have l:=ar g;clear g;go_in;go_wp2_with (go_at_call 81;refine(az w0 d b _ _ _ l.out (by show b.size+1<=_;omega)).mono ?_;rintro e w1 ⟨rfl,i,h⟩);have k:=cH i h;clear i h;go_loopw [2] (fun f wr=>∃a:Nat,a<=t/\f= O Q a/\Hid (Pr w0 d (b++(⟨#[10]⟩++wi a)) t wr/\Kq w0.heap.size w wr)) (fun f _=>t-(intOf f).toNat)
 case atStart=>exact⟨0,by omega,rfl,by rw[show(⟨#[10]⟩:ByteArray)++wi 0=⟨#[10]⟩ from rfl];exact k.out⟩
 case round=>
  obtain⟨a,q,rfl,c⟩:=hrel;obtain⟨n,o,p⟩:=c.out.1.cells;by_cases u:a<t
  ·have r:(a:Int)<(t:Int):=by omega
   go_wp2_with (go_at_call 81;refine(az w0 d _ _ _ _ c.out.1 (by rw[ae,ae,sI];show b.size+(1+a)+1<=_;omega)).mono ?_;rintro e x ⟨rfl,p2,m⟩);refine⟨⟨a+1,by omega,by go_num,?_⟩,by simp[intOf];omega⟩;refine⟨?_,c.out.2.trans m⟩;rw[show b++((⟨#[10]⟩:ByteArray)++wi (a+1))=b++(⟨#[10]⟩++wi a)++⟨#[9]⟩ by rw[wi,aB,aB]];exact p2
  ·obtain rfl:a=t:=by omega
   go_wp2_with fail;go_end0
   exact⟨rfl,c.out.1,c.out.2⟩
theorem yr(w0:M)(f vn:R)(l:List ByteArray)(c:ByteArray)(t:Int)(w:M)(z:Pr w0 f c t w)(p:cj w0 vn l)(K:l.length<=1048576)(av:c.size+(bv l).size<=140737488355328):
  Ax U 108 #[.pointer (S ⟨w0.heap.size,0,Z⟩),vn] w fun e G=>e= Y (A2 #[])/\Pr w0 f (c++bv l) t G/\Kq w0.heap.size w G:=by
 have n:=cH z p;obtain⟨L,af,rfl⟩:=p.form;clear z p;obtain⟨j,o⟩:=aD l.length;rw[o]at K n⊢;have x:=ar o;clear o;go_in;go_wp2_with fail;go_loopw [8] (fun r wr=>∃a:Nat,a<=j/\r= O Q a/\Hid (Pr w0 f (c++bv (l.take a)) t wr/\Kq w0.heap.size w wr)) (fun r _=>j-(intOf r).toNat)
 case atStart=>exact⟨0,by omega,rfl,by rw[show c++bv (l.take 0)=c from ByteArray.append_empty];exact n.out.1,Kq.refl _ _⟩
 case round=>
  obtain⟨a,al,rfl,b⟩:=hrel;by_cases J:a<j
  ·obtain⟨m,q⟩:=eA x.out J;obtain⟨H,rfl,I⟩:=(n.out.2.below b.out.1.bel).get q;have an:(a:Int)<(j:Int):=by omega
   have am:(0:Int)<=(a:Int):=by omega
   have B:=kJ l a m q;have C:=uu l (a+1);have g:=cH B C;clear B C q;by_cases A:a=0
   ·subst A;have d:bv (l.take (0+1))=bv (l.take 0)++m:=by rw[g.out.1,ab rfl]
    have i:=g.out.2;rw[d,ae]at i;have h:=ar d;clear d g;have ak:wr.cell? H=S (A0 m):=by simpa [Addr.add] using I
    go_wp2_with (go_at_call 81;refine(az w0 f _ _ _ _ b.out.1 (by rw[ae];omega)).mono ?_;rintro e s ⟨rfl,p2,k⟩);refine⟨⟨1,by omega,by go_num,?_,b.out.2.trans k⟩,by simp[intOf];omega⟩;rw[show(1:Nat)=0+1 from rfl,h.out,<-aB];exact p2
   ·have d:bv (l.take (a+1))=bv (l.take a)++di++m:=by rw[g.out.1,aa A]
    have i:=g.out.2;rw[d,ae,ae]at i;have y:di.size=2:=rfl;have h:=gy d i y;clear d i y g;have ap:(0:Int)<(a:Int):=by omega
    go_wp2_with fail;refine(az w0 f _ _ _ _ b.out.1 (by have:=h.out.2;rw[ae];show _+di.size<=_;omega)).mono ?_;rintro e s ⟨rfl,p2,k⟩;have u:Hid (Pr w0 f (c++bv (l.take a)++di) t s/\Kq w0.heap.size wr s):=⟨p2,k⟩;clear p2 k;go_wp2_with fail;refine(az w0 f _ _ _ _ u.out.1 (by have:=h.out.2;rw[ae,ae];omega)).mono ?_;rintro e a0 ⟨rfl,F,E⟩;have v:=cH F E;clear F E;go_wp2_with fail;refine⟨⟨a+1,by omega,by go_num,?_,(b.out.2.trans u.out.2).trans v.out.2⟩,by simp[intOf];omega⟩;rw[h.out.1,<-aB,<-aB];exact v.out.1
  ·obtain rfl:a=j:=by omega
   go_wp2_with fail;go_end0
   refine⟨rfl,?_,b.out.2⟩;have:=b.out.1
   rwa [cC (by rw[x.out];exact ag _)]at this
def FD(op:Int):Int×Int:=
 if 13<=op/\op<=18 then(3,4) else if op=12 then(4,4) else if op=8 then(5,6) else if op=9 then(6,7) else if op=7 then(7,8) else if op=10\/op=11 then(8,9) else if op=1\/op=2 then(9,10) else(10,11)
theorem tG(op:Int)(b:1<=op)(c:op<=18)(w:M):
  Ax U 160 #[O Q (60+op)] w fun e d=>e= Y (A2 #[O Q (FD op).1,O Q (FD op).2])/\d=w:=by
 have a:op=1\/op=2\/op=3\/op=4\/op=5\/op=6\/op=7\/op=8\/op=9\/op=10\/op=11\/op=12\/op=13\/op=14\/op=15\/op=16\/op=17\/op=18:=by omega
 clear b c;rcases a with rfl|rfl|rfl|rfl|rfl|rfl|rfl|rfl|rfl|rfl|rfl|rfl|rfl|rfl|rfl|rfl|rfl|rfl<;>
  (go_in
   go_wp2;exact bg (results_tmp2 rfl _ _ _) rfl ⟨rfl,rfl⟩)
def dy(k op:Int):Int:=if k=29 then 1 else if k=28 then 2 else if k=31 then(FD op).1 else if k=30 then 11 else 12
def rG(k op:Int):Int:=if k=29 then 2 else if k=28 then 3 else(FD op).2
def FE(k:Int):Bool:=k==26||k==32||k==33||k==34||k==37
theorem dA(N:Nd)(vn vk:R)(h:N.k=31->1<=N.op/\N.op<=18)(w:M):
  Ax U 138 #[cE N vn vk] w fun e v=>e= Y (O Q (dy N.k N.op))/\Below w.heap.size w v:=by
 have i:Below w.heap.size w (w.alloc (.cells #[O Q N.k,O Q N.f,O Q N.t,O Q N.l,O Q N.op,O Q N.n,A0 N.x,vn,vk] 96)):=(aq _ w).alloc (ag _) _;unfold cE;by_cases a:N.k=29
 ·have o:(N.k==29)=true:=by simpa using a
  have b:Hid (dy N.k N.op=1):=by show _=_;unfold dy;rw[ab a]
  clear a h;go_in;go_wp2;go_ret;exact⟨by rw[b.out];rfl,i⟩
 have o:(N.k==29)=false:=by simpa using a
 by_cases c:N.k=28
 ·have p:(N.k==28)=true:=by simpa using c
  have b:Hid (dy N.k N.op=2):=by show _=_;unfold dy;rw[aa a,ab c]
  clear a c h;go_in;go_wp2;go_ret;exact⟨by rw[b.out];rfl,i⟩
 have p:(N.k==28)=false:=by simpa using c
 by_cases d:N.k=31
 ·have q:(N.k==31)=true:=by simpa using d
  have b:Hid (dy N.k N.op=(FD N.op).1):=by show _=_;unfold dy;rw[aa a,aa c,ab d]
  obtain⟨s,u⟩:=h d;have j:=tG N.op s u;generalize FD N.op=m at j b;obtain⟨y,z⟩:=m;simp only at j b;clear a c d h;go_in;go_wp2_with (go_at_call 160;refine dz (j _) ?_);go_ret;exact⟨by rw[b.out];rfl,i⟩
 have q:(N.k==31)=false:=by simpa using d
 by_cases g:N.k=30
 ·have r:(N.k==30)=true:=by simpa using g
  have b:Hid (dy N.k N.op=11):=by show _=_;unfold dy;rw[aa a,aa c,aa d,ab g]
  clear a c d g h;go_in;go_wp2;go_ret;exact⟨by rw[b.out];rfl,i⟩
 have r:(N.k==30)=false:=by simpa using g
 have b:Hid (dy N.k N.op=12):=by show _=_;unfold dy;rw[aa a,aa c,aa d,aa g]
 clear a c d g h;go_in;go_wp2;go_ret;exact⟨by rw[b.out];rfl,i⟩
theorem Cg(N:Nd)(vn vk:R)(d:N.k≠29->N.k≠28->1<=N.op/\N.op<=18)(w:M):
  Ax U 161 #[cE N vn vk] w fun e q=>e= Y (O Q (rG N.k N.op))/\Below w.heap.size w q:=by
 have g:Below w.heap.size w (w.alloc (.cells #[O Q N.k,O Q N.f,O Q N.t,O Q N.l,O Q N.op,O Q N.n,A0 N.x,vn,vk] 96)):=(aq _ w).alloc (ag _) _;unfold cE;by_cases a:N.k=29
 ·have j:(N.k==29)=true:=by simpa using a
  have b:Hid (rG N.k N.op=2):=by show _=_;unfold rG;rw[ab a]
  clear a d;go_in;go_wp2;go_ret;exact⟨by rw[b.out];rfl,g⟩
 have j:(N.k==29)=false:=by simpa using a
 by_cases c:N.k=28
 ·have m:(N.k==28)=true:=by simpa using c
  have b:Hid (rG N.k N.op=3):=by show _=_;unfold rG;rw[aa a,ab c]
  clear a c d;go_in;go_wp2;go_ret;exact⟨by rw[b.out];rfl,g⟩
 have m:(N.k==28)=false:=by simpa using c
 have b:Hid (rG N.k N.op=(FD N.op).2):=by show _=_;unfold rG;rw[aa a,aa c]
 obtain⟨o,p⟩:=d a c;have h:=tG N.op o p;generalize FD N.op=i at h b;obtain⟨r,s⟩:=i;simp only at h b;clear a c d;go_in;go_wp2_with (go_at_call 160;refine dz (h _) ?_);go_ret;exact⟨by rw[b.out];rfl,g⟩
theorem DD(k:Int)(w:M):Ax U 162 #[O Q k] w fun e a=>e= Y (.bool (FE k))/\a=w:=by
 unfold FE;cases f1:(k==26)<;>cases f2:(k==32)<;>cases f3:(k==33)<;>cases f4:(k==34)<;>cases f5:(k==37)<;>
  (go_in
   go_wp2;go_ret;exact⟨rfl,rfl⟩)
