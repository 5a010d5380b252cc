import Derived.Test.YtoahhnnflblfaaaGreatDoorHVk04
import Derived.Deep.Strs
import Derived.OpenShut
import Derived.Test.YtoahhnnflblfaaaGreatDoorHVk13
import Derived.WalkSmall
import Derived.Test.YtoahhnnflblfaaaGreatDoorHVk03
import Derived.Lib.Join
import Derived.Sort.LoopGhostIn
set_option linter.all false
set_option maxRecDepth 100000
set_option maxHeartbeats 12800000
open Option renaming some->M,none->Q
open Go renaming World->O,Value->V,Calls->A5,Program->B5,TypeId->B6,KeepsFrom->C2,maxLen->C5
open Go.Proofs.Tryz renaming prog->U,sizeOf3->Ck,isAgg3->C0
open Go.Ending renaming returned->Y
open Go.IntKind renaming i64->Z
open Go.Value renaming int->Ax,pointer->A0,ownBlock->A4,slice->A8,string->A9,int->B1,tuple->B2,bool->Ce
open Bool renaming true->A1,false->A3
open Go.RowKit renaming Below->A2,Hid->Cr,intOf->C4
open Go.World renaming putObj_heap_other->A6,setCell->Br
open Go.Obj renaming cells->A7
open Go.Lib renaming repeatL->B0
open Go.Fence renaming wide->B3
open Go.Shelf renaming Ren->B4
namespace Go.Proofs.YtoahhnnflblfaaaGreatDoor
open Go.Lib (strCells strCells_length wpList_append_own_string)
open Go.RowKit
theorem aka:(Tryz.prog.info? 5).map (fun i=>(i.zero,i.size,i.bytes))=M (M (Ax .u8 0),1,1):=by kernel_rfl
theorem Ep(a b:ByteArray):strCells (a++b)=strCells a++strCells b:=by
 unfold strCells;rw[show(a++b).data=a.data++b.data from js];simp
structure Kq (b:Nat) (w w':O):Prop where
 os:w'.os=w.os
 tape:w'.tape=w.tape
 output:w'.output=w.output
 size:w.heap.size<=w'.heap.size
 block:∀k,k<w.heap.size->k≠b->(∀cs fr,w.heap[k]?≠M (.cells cs 5 fr))->w'.heap[k]?=w.heap[k]?
theorem Kq.refl(b:Nat)(w:O):Kq b w w:=⟨rfl,rfl,rfl,ag _,fun _ _ _ _=>rfl⟩
theorem Kq.trans{b:Nat}{x y e:O}(h:Kq b x y)(k:Kq b y e):Kq b x e:=
 ⟨k.os.trans h.os,k.tape.trans h.tape,k.output.trans h.output,dh h.size k.size,fun i c d a=>
  (k.block i (jq c h.size) d (fun f g=>by rw[h.block i c d a];exact a f g)).trans (h.block i c d a)⟩
theorem Kq.of_below{b:Nat}{w a:O}(h:A2 w.heap.size w a):Kq b w a:=⟨h.os,h.tape,h.output,h.size,fun d c _ _=>h.block d c⟩
structure Pr (w0:O) (vt:V) (T:ByteArray) (tab:Int) (W:O):Prop where
 bel:A2 w0.heap.size w0 W
 row:∃o,W.heap[w0.heap.size]?=M (.cells #[vt,o,.int .i64 tab] 92 (0,0))/\W.ownsRow (w0.heap.size+1) 5 1 o T.size (strCells T)
theorem Pr.lt{w0:O}{b:V}{T:ByteArray}{tab:Int}{W:O}(h:Pr w0 b T tab W):w0.heap.size<W.heap.size:=by
 obtain⟨d,a,c⟩:=h.row;exact au a
theorem Pr.below{w0:O}{c:V}{T:ByteArray}{tab:Int}{W W':O}(h:Pr w0 c T tab W)(a:A2 W.heap.size W W'):Pr w0 c T tab W':=by
 obtain⟨e,b,d⟩:=h.row;exact⟨h.bel.trans (a.mono h.bel.size),e,(a.block _ (au b)).trans b,aI d a⟩
theorem adu{W:O}{p:Nat}{o:V}{cs:Array V}{t:B6}{fr:Nat×Nat}{n:Nat}{j:List V}(c:W.heap[p]?=M (A7 cs t fr))(h:t≠5){base:Nat}(d:W.ownsRow base 5 1 o n j)(g:Nat)(a:o.ownBlock=M g):g≠p/\base<=g:=by
 refine⟨?_,(d.lt g a).1⟩;rintro rfl;rcases d.2 with⟨b,_⟩|⟨e,k,l,b,_,f,_⟩
 ·rw[b]at a;simp[A4]at a
 ·rw[b]at a;obtain rfl:e=g:=by simpa [A4] using a
  rw[f]at c;cases c;exact h rfl
theorem Pr.put{w0 W:O}{e h:V}{d:Int}(f:A2 w0.heap.size w0 W)(b:W.heap[w0.heap.size]?=M (A7 #[e,h,Ax Z d] 92 (0,0))){o:V}{T:ByteArray}(c:W.ownsRow (w0.heap.size+1) 5 1 o T.size (strCells T)):Pr w0 e T d (W.setCell ⟨w0.heap.size,1,Q⟩ o):=
 ⟨f.setCell (ag _) _,o,cE _ _ 1 _ _ _ b,c.kept (row:=M w0.heap.size) ⟨rfl,rfl,rfl,by simp[Br],fun l k g=>bh _ _ _ _ (fun a=>g (by rw[a]))⟩ (by
  cases hv:o.ownBlock with
  |none=>exact .inl rfl
  |some j=>exact .inr (fun a=>by cases a;exact(adu b (by decide) c _ hv).1 rfl))⟩
theorem Pr.putTab{w0 W:O}{f:V}{T:ByteArray}{j:Int}(h:Pr w0 f T j W)(e:Int):Pr w0 f T e (W.setCell ⟨w0.heap.size,2,Q⟩ (Ax Z e)):=by
 obtain⟨d,b,c⟩:=h.row;exact⟨h.bel.setCell (ag _) _,d,cE _ _ 2 _ _ _ b,c.kept (row:=M w0.heap.size) ⟨rfl,rfl,rfl,by simp[Br],fun m l g=>bh _ _ _ _ (fun a=>g (by rw[a]))⟩ (by
  cases hv:d.ownBlock with
  |none=>exact .inl rfl
  |some k=>exact .inr (fun a=>by cases a;exact(adu b (by decide) c _ hv).1 rfl))⟩
theorem Kq.putP(b:Nat)(W:O)(i:Nat)(v:V):Kq b W (W.setCell ⟨b,i,Q⟩ v):=
 ⟨rfl,rfl,rfl,by simp[Br],fun d c a _=>bh _ _ _ _ a⟩
theorem Pr.cells{w0:O}{b:V}{T:ByteArray}{tab:Int}{W:O}(h:Pr w0 b T tab W):W.cell? ⟨w0.heap.size,0,Q⟩=M b/\W.cell? ⟨w0.heap.size,2,Q⟩=M (Ax Z tab)/\∀j,W.frozen? ⟨w0.heap.size,j,Q⟩=A3:=by
 obtain⟨d,a,c⟩:=h.row;exact⟨by rw[ay _ _ _ _ _ _ a];rfl,by rw[ay _ _ _ _ _ _ a];rfl,fun j=>dI _ _ _ _ _ a⟩
theorem aC(w0:O)(n:V)(T s:ByteArray)(tab:Int)(w:O)(h:Pr w0 n T tab w)(I:T.size+s.size<=140737488355328):
  A5 U 33 #[.pointer (M ⟨w0.heap.size,0,Q⟩),.string s] w fun e z=>e= .returned (.tuple #[])/\Pr w0 n (T++s) tab z/\Kq w0.heap.size w z:=by
 obtain⟨a3,d,f⟩:=h.row;have v:=h.bel;obtain⟨b,r⟩:=aA T.size;rw[r]at f I;obtain⟨k,l,rfl⟩:=cH f;obtain⟨af,ak,al,am,an⟩:=fl aka;have J:=au d;have ao:w.cell? ⟨w0.heap.size,1,Q⟩=M (.slice k b l):=by rw[ay _ _ _ _ _ _ d];rfl
 have x:=adu d (by decide) f;have c:=tH f d r v;clear f d r h v;go_in;go_wp2_with (at_builtin;refine wpList_append_own_string _ rfl _ _ 22 9 rfl (w0.heap.size+1) 5 af Tryz.underlying22 Tryz.underlying9 ak al am an _ _ _ rfl c.out.1 s rfl (by unfold C5;omega) (by omega) (by omega) ?_;intro a4 j y a a2;obtain⟨t,u,rfl⟩:=cH y;have p:j.heap[w0.heap.size]?=M (.cells #[n,.slice k b l,.int .i64 tab] 92 (0,0)):=(a.block _ J (fun e=>(x _ e.symm).1 rfl)).trans c.out.2.1;have a5:j.cell? ⟨w0.heap.size,1,Q⟩=M (.slice k b l):=(by rw[ay _ _ _ _ _ _ p];rfl);have a1:j.frozen? ⟨w0.heap.size,1,Q⟩=A3:=dI _ _ _ _ _ p);have C:Pr w0 n (T++s) tab (j.setCell ⟨w0.heap.size,1,Q⟩ (.slice t (b+s.size) u)):=Pr.put (c.out.2.2.2.grown a (by omega) (fun g q=>by have:=(x g q).2;omega)) p (by rw[ae,c.out.2.2.1,Ep];exact y);have A:Kq w0.heap.size w (j.setCell ⟨w0.heap.size,1,Q⟩ (.slice t (b+s.size) u)):=by
  refine⟨a.os,a.tape,a.output,by simp[Br];exact a.size,fun g q K H=>?_⟩;rw[bh _ _ _ _ K];refine a.block g q (fun e=>?_);have m:(Value.slice k b l).ownBlock=M g:=e.symm;rcases c.out.1.2 with⟨o,_⟩|⟨F,ap,a0,o,_,G,_⟩
  ·rw[o]at m;simp[A4]at m
  ·rw[o]at m;obtain rfl:F=g:=by simpa [A4] using m
   exact H _ _ G
 go_end0
 exact⟨rfl,C,A⟩
end Go.Proofs.YtoahhnnflblfaaaGreatDoor
namespace Go.Proofs.YtoahhnnflblfaaaGreatDoor
open Go.RowKit
def Cj:Nat->ByteArray
 |0=>ByteArray.empty
 |n+1=>Cj n++⟨#[9]⟩
def ig(t:Nat):ByteArray:=⟨#[10]⟩++Cj t
theorem th:∀t,(Cj t).size=t
 |0=>rfl
 |t+1=>by rw[Cj,ae,th t];rfl
theorem mz(t:Nat):(ig t).size=t+1:=by rw[ig,ae,th];show 1+t=_;omega
def dG:ByteArray:=⟨#[44,32]⟩
def IE(a:Bool×ByteArray)(x:ByteArray):Bool×ByteArray:=(A1,(if a.1=A1 then a.2++dG else a.2)++x)
def abi(l:List ByteArray):Bool×ByteArray:=l.foldl IE (A3,ByteArray.empty)
def bG(l:List ByteArray):ByteArray:=(abi l).2
theorem Da(l:List ByteArray)(x:ByteArray):abi (l++[x])=IE (abi l) x:=by unfold abi;rw[List.foldl_append];rfl
theorem adv:∀l:List ByteArray,(abi l).1=!l.isEmpty:=by
 intro l;rcases List.eq_nil_or_concat l with rfl|⟨a,b,rfl⟩
 ·rfl
 ·rw[List.concat_eq_append,Da];unfold IE;simp
theorem qz(l:List ByteArray)(k:Nat)(x:ByteArray)(f:l[k]?=M x):bG (l.take (k+1))=(if k=0 then bG (l.take k) else bG (l.take k)++dG)++x:=by
 obtain⟨b,e⟩:=List.getElem?_eq_some_iff.1 f;have d:l.take (k+1)=l.take k++[x]:=by rw[List.take_succ_eq_append_getElem b,e]
 unfold bG;rw[d,Da];unfold IE;simp only;rw[adv];by_cases a:k=0
 ·subst a;simp
 ·rw[aa a,ab];cases l with
  |nil=>simp at b
  |cons g h=>obtain⟨c,rfl⟩:∃c,k=c+1:=⟨k-1,by omega⟩;simp
theorem adw(l:List ByteArray)(k:Nat):(bG (l.take k)).size<=(bG (l.take (k+1))).size:=by
 by_cases a:k<l.length
 ·rw[qz l k _ (aE a),ae];split
  ·omega
  ·rw[ae];omega
 ·rw[cI (by omega),cI (by omega)];exact ag _
theorem zl(l:List ByteArray)(k:Nat):(bG (l.take k)).size<=(bG l).size:=by
 have b:∀a,(bG (l.take k)).size<=(bG (l.take (k+a))).size:=by
  intro a
  induction a with
  |zero=>exact ag _
  |succ a c=>exact dh c (adw l (k+a))
 have:=b l.length
 rwa [cI (show l.length<=k+l.length by omega)]at this
theorem Gt(w0:O)(c:V)(T:ByteArray)(t:Nat)(w:O)(h:Pr w0 c T t w)(u:t<=1000000)(r:T.size+(t+1)<=140737488355328):
  A5 U 115 #[A0 (M ⟨w0.heap.size,0,Q⟩)] w fun e g=>e= Y (B2 #[])/\Pr w0 c (T++ig t) t g/\Kq w0.heap.size w g:=by
 have k:=aj h;clear h;go_in;go_wp2_with (go_at_call 33;refine(aC w0 c T _ _ _ k.out (by show T.size+1<=_;omega)).mono ?_;rintro e w1 ⟨rfl,f,d⟩);have j:=eH f d;clear f d;go_loopw [2] (fun i wr=>∃a:Nat,a<=t/\i= Ax Z a/\Cr (Pr w0 c (T++(⟨#[10]⟩++Cj a)) t wr/\Kq w0.heap.size w wr)) (fun i _=>t-(C4 i).toNat)
 case atStart=>exact⟨0,by omega,rfl,by rw[show(⟨#[10]⟩:ByteArray)++Cj 0=⟨#[10]⟩ from rfl];exact j.out⟩
 case round=>
  obtain⟨a,p,rfl,b⟩:=hrel;obtain⟨m,n,o⟩:=b.out.1.cells;by_cases s:a<t
  ·have q:(a:Int)<(t:Int):=by omega
   go_wp2_with (go_at_call 33;refine(aC w0 c _ _ _ _ b.out.1 (by rw[ae,ae,th];show T.size+(1+a)+1<=_;omega)).mono ?_;rintro e v ⟨rfl,p2,l⟩);refine⟨⟨a+1,by omega,by go_num,?_⟩,by simp[C4];omega⟩;refine⟨?_,b.out.2.trans l⟩;rw[show T++((⟨#[10]⟩:ByteArray)++Cj (a+1))=T++(⟨#[10]⟩++Cj a)++⟨#[9]⟩ by rw[Cj,aB,aB]];exact p2
  ·obtain rfl:a=t:=by omega
   go_wp2_with fail;go_end0
   exact⟨rfl,b.out.1,b.out.2⟩
theorem Db(w0:O)(d vn:V)(l:List ByteArray)(T:ByteArray)(t:Int)(w:O)(h:Pr w0 d T t w)(q:bF w0 vn l)(af:l.length<=1048576)(a0:T.size+(bG l).size<=140737488355328):
  A5 U 65 #[A0 (M ⟨w0.heap.size,0,Q⟩),vn] w fun e H=>e= Y (B2 #[])/\Pr w0 d (T++bG l) t H/\Kq w0.heap.size w H:=by
 have o:=eH h q;obtain⟨ak,al,rfl⟩:=q.form;clear h q;obtain⟨k,p⟩:=aA l.length;rw[p]at af o⊢;have x:=aj p;clear p;go_in;go_wp2_with fail;go_loopw [8] (fun i wr=>∃a:Nat,a<=k/\i= Ax Z a/\Cr (Pr w0 d (T++bG (l.take a)) t wr/\Kq w0.heap.size w wr)) (fun i _=>k-(C4 i).toNat)
 case atStart=>exact⟨0,by omega,rfl,by rw[show T++bG (l.take 0)=T from ByteArray.append_empty];exact o.out.1,Kq.refl _ _⟩
 case round=>
  obtain⟨a,an,rfl,b⟩:=hrel;by_cases K:a<k
  ·obtain⟨n,r⟩:=bH x.out K;obtain⟨I,rfl,J⟩:=(o.out.2.below b.out.1.bel).get r;have ap:(a:Int)<(k:Int):=by omega
   have ao:(0:Int)<=(a:Int):=by omega
   have A:=qz l a n r;have C:=zl l (a+1);have f:=eH A C;clear A C r;by_cases z:a=0
   ·subst z;have c:bG (l.take (0+1))=bG (l.take 0)++n:=by rw[f.out.1,ab rfl]
    have j:=f.out.2;rw[c,ae]at j;have g:=aj c;clear c f;have am:wr.cell? I=M (A9 n):=by simpa [Addr.add] using J
    go_wp2_with (go_at_call 33;refine(aC w0 d _ _ _ _ b.out.1 (by rw[ae];omega)).mono ?_;rintro e s ⟨rfl,p2,m⟩);refine⟨⟨1,by omega,by go_num,?_,b.out.2.trans m⟩,by simp[C4];omega⟩;rw[show(1:Nat)=0+1 from rfl,g.out,<-aB];exact p2
   ·have c:bG (l.take (a+1))=bG (l.take a)++dG++n:=by rw[f.out.1,aa z]
    have j:=f.out.2;rw[c,ae,ae]at j;have y:dG.size=2:=rfl;have g:=jn c j y;clear c j y f;have av:(0:Int)<(a:Int):=by omega
    go_wp2_with fail;refine(aC w0 d _ _ _ _ b.out.1 (by have:=g.out.2;rw[ae];show _+dG.size<=_;omega)).mono ?_;rintro e s ⟨rfl,p2,m⟩;have u:Cr (Pr w0 d (T++bG (l.take a)++dG) t s/\Kq w0.heap.size wr s):=⟨p2,m⟩;clear p2 m;go_wp2_with fail;refine(aC w0 d _ _ _ _ u.out.1 (by have:=g.out.2;rw[ae,ae];omega)).mono ?_;rintro e a1 ⟨rfl,G,F⟩;have v:=eH G F;clear G F;go_wp2_with fail;refine⟨⟨a+1,by omega,by go_num,?_,(b.out.2.trans u.out.2).trans v.out.2⟩,by simp[C4];omega⟩;rw[g.out.1,<-aB,<-aB];exact v.out.1
  ·obtain rfl:a=k:=by omega
   go_wp2_with fail;go_end0
   refine⟨rfl,?_,b.out.2⟩;have:=b.out.1
   rwa [cI (by rw[x.out];exact ag _)]at this
def xe(op:Int):Int×Int:=
 if 13<=op/\op<=18 then(3,4) else if op=12 then(4,4) else if op=8 then(5,6) else if op=9 then(6,7) else if op=7 then(7,8) else if op=10\/op=11 then(8,9) else if op=1\/op=2 then(9,10) else(10,11)
theorem xJ(op:Int)(b:1<=op)(c:op<=18)(w:O):
  A5 U 131 #[Ax Z (60+op)] w fun e d=>e= Y (B2 #[Ax Z (xe op).1,Ax Z (xe op).2])/\d=w:=by
 have a:op=1\/op=2\/op=3\/op=4\/op=5\/op=6\/op=7\/op=8\/op=9\/op=10\/op=11\/op=12\/op=13\/op=14\/op=15\/op=16\/op=17\/op=18:=by omega
 clear b c;rcases a with rfl|rfl|rfl|rfl|rfl|rfl|rfl|rfl|rfl|rfl|rfl|rfl|rfl|rfl|rfl|rfl|rfl|rfl<;>
  (go_in
   go_wp2;exact bB (results_tmp2 rfl _ _ _) rfl ⟨rfl,rfl⟩)
def ej(k op:Int):Int:=if k=29 then 1 else if k=28 then 2 else if k=31 then(xe op).1 else if k=30 then 11 else 12
def sj(k op:Int):Int:=if k=29 then 2 else if k=28 then 3 else(xe op).2
def pm(k:Int):Bool:=k==26||k==32||k==33||k==34||k==37
theorem fi(N:Nd)(vn vk:V)(h:N.k=31->1<=N.op/\N.op<=18)(w:O):
  A5 U 116 #[dy N vn vk] w fun e y=>e= Y (Ax Z (ej N.k N.op))/\A2 w.heap.size w y:=by
 have j:A2 w.heap.size w (w.alloc (A7 #[Ax Z N.k,Ax Z N.f,Ax Z N.t,Ax Z N.l,Ax Z N.op,Ax Z N.n,A9 N.x,vn,vk] 36)):=(ai _ w).alloc (ag _) _;unfold dy;by_cases a:N.k=29
 ·have p:(N.k==29)=A1:=by simpa using a
  have b:Cr (ej N.k N.op=1):=by show _=_;unfold ej;rw[ab a]
  clear a h;go_in;go_wp2;go_ret;exact⟨by rw[b.out];rfl,j⟩
 have p:(N.k==29)=A3:=by simpa using a
 by_cases c:N.k=28
 ·have q:(N.k==28)=A1:=by simpa using c
  have b:Cr (ej N.k N.op=2):=by show _=_;unfold ej;rw[aa a,ab c]
  clear a c h;go_in;go_wp2;go_ret;exact⟨by rw[b.out];rfl,j⟩
 have q:(N.k==28)=A3:=by simpa using c
 by_cases d:N.k=31
 ·have r:(N.k==31)=A1:=by simpa using d
  have b:Cr (ej N.k N.op=(xe N.op).1):=by show _=_;unfold ej;rw[aa a,aa c,ab d]
  obtain⟨u,v⟩:=h d;have m:=xJ N.op u v;generalize xe N.op=o at m b;obtain⟨z,A⟩:=o;simp only at m b;clear a c d h;go_in;go_wp2_with (go_at_call 131;refine fc (m _) ?_);go_ret;exact⟨by rw[b.out];rfl,j⟩
 have r:(N.k==31)=A3:=by simpa using d
 by_cases g:N.k=30
 ·have s:(N.k==30)=A1:=by simpa using g
  have b:Cr (ej N.k N.op=11):=by show _=_;unfold ej;rw[aa a,aa c,aa d,ab g]
  clear a c d g h;go_in;go_wp2;go_ret;exact⟨by rw[b.out];rfl,j⟩
 have s:(N.k==30)=A3:=by simpa using g
 have b:Cr (ej N.k N.op=12):=by show _=_;unfold ej;rw[aa a,aa c,aa d,aa g]
 clear a c d g h;go_in;go_wp2;go_ret;exact⟨by rw[b.out];rfl,j⟩
theorem Gu(N:Nd)(vn vk:V)(d:N.k≠29->N.k≠28->1<=N.op/\N.op<=18)(w:O):
  A5 U 146 #[dy N vn vk] w fun e r=>e= Y (Ax Z (sj N.k N.op))/\A2 w.heap.size w r:=by
 have g:A2 w.heap.size w (w.alloc (A7 #[Ax Z N.k,Ax Z N.f,Ax Z N.t,Ax Z N.l,Ax Z N.op,Ax Z N.n,A9 N.x,vn,vk] 36)):=(ai _ w).alloc (ag _) _;unfold dy;by_cases a:N.k=29
 ·have m:(N.k==29)=A1:=by simpa using a
  have b:Cr (sj N.k N.op=2):=by show _=_;unfold sj;rw[ab a]
  clear a d;go_in;go_wp2;go_ret;exact⟨by rw[b.out];rfl,g⟩
 have m:(N.k==29)=A3:=by simpa using a
 by_cases c:N.k=28
 ·have o:(N.k==28)=A1:=by simpa using c
  have b:Cr (sj N.k N.op=3):=by show _=_;unfold sj;rw[aa a,ab c]
  clear a c d;go_in;go_wp2;go_ret;exact⟨by rw[b.out];rfl,g⟩
 have o:(N.k==28)=A3:=by simpa using c
 have b:Cr (sj N.k N.op=(xe N.op).2):=by show _=_;unfold sj;rw[aa a,aa c]
 obtain⟨p,q⟩:=d a c;have h:=xJ N.op p q;generalize xe N.op=j at h b;obtain⟨s,u⟩:=j;simp only at h b;clear a c d;go_in;go_wp2_with (go_at_call 131;refine fc (h _) ?_);go_ret;exact⟨by rw[b.out];rfl,g⟩
theorem IF(k:Int)(w:O):A5 U 147 #[Ax Z k] w fun e a=>e= Y (Ce (pm k))/\a=w:=by
 unfold pm;cases f1:(k==26)<;>cases f2:(k==32)<;>cases f3:(k==33)<;>cases f4:(k==34)<;>cases f5:(k==37)<;>
  (go_in
   go_wp2;go_ret;exact⟨rfl,rfl⟩)
open Go.ChangeShapes Go.WideShapes Go.ChangeAt Go.WideMaps Go.WideElems Go.Deep
structure aiJ (N:Nd):Prop where
 k: -9223372036854775808<=N.k/\N.k<=9223372036854775807
 f: -9223372036854775808<=N.f/\N.f<=9223372036854775807
 t: -9223372036854775808<=N.t/\N.t<=9223372036854775807
 l: -9223372036854775808<=N.l/\N.l<=9223372036854775807
 op: -9223372036854775808<=N.op/\N.op<=9223372036854775807
 n: -9223372036854775808<=N.n/\N.n<=9223372036854775807
 ks:∀z∈N.ks, -9223372036854775808<=z/\z<=9223372036854775807
end Go.Proofs.YtoahhnnflblfaaaGreatDoor
namespace Go.Proofs.YtoahhnnflblfaaaGreatDoor
open Go.RowKit
def jJ(w:O)(r:List Int×Bool)(e:Ending)(c:O):Prop:=
 ∃a b,e= Y (B2 #[A8 a r.1.length b,Ce r.2])/\c.ownsRow w.heap.size 3 1 (A8 a r.1.length b) r.1.length (r.1.map (B1 Z))/\A2 w.heap.size w c
theorem qA(w:O)(l:List Int)(n:Nat)(a:l.length=n)(b:n<=100):(w.alloc (A7 (l.map (B1 Z)).toArray 3)).ownsRow w.heap.size 3 1 (A8 (M ⟨w.heap.size,0,Q⟩) n n) n (l.map (B1 Z)):=by
 have:=Dz (base:=w.heap.size) (e:=3) (size:=1) w (l.map (B1 Z)).toArray n (ag _) (by unfold C5;omega) (by simp[a]);simpa using this
theorem bI(w:O)(o:Obj):A2 w.heap.size w (w.alloc o):=(ai _ w).alloc (ag _) o
theorem qB(w:O)(l:List Int)(b:Bool)(a:l.length<=100):jJ w (l,b) (Y (B2 #[A8 (M ⟨w.heap.size,0,Q⟩) l.length l.length,Ce b])) (w.alloc (A7 (l.map (B1 Z)).toArray 3)):=
 ⟨_,_,rfl,qA w l _ rfl a,bI w _⟩
theorem zm(w:O)(b:Bool):jJ w ([],b) (Y (B2 #[A8 Q 0 0,Ce b])) w:=⟨_,_,rfl,bi _ _ _ _,ai _ w⟩
theorem ti(v:V)(w:O):A5 U 79 #[v] w fun e a=>e= Y v/\a=w:=by
 go_in;go_wp2;go_ret;exact⟨rfl,rfl⟩
theorem rg(w:O)(t:Int):A5 U 126 #[Ax Z t] w fun e g=>e= Y (Ce (jk t))/\g=w:=by
 by_cases a:t=25\/t=50\/t=62\/t=69
 ·have e:jk t=A1:=bg a;rw[e];rcases a with rfl|rfl|rfl|rfl;all_goals
   go_in;go_wp2;go_ret;exact⟨rfl,rfl⟩
 ·have e:jk t=A3:=az a;rw[e];have b:¬t=25:=by omega
  have c:¬t=50:=by omega
  have d:¬t=62:=by omega
  have f:¬t=69:=by omega
  have h:(t==25)=A3:=beq_eq_false_iff_ne.2 b;have j:(t==50)=A3:=beq_eq_false_iff_ne.2 c;have k:(t==62)=A3:=beq_eq_false_iff_ne.2 d;have l:(t==69)=A3:=beq_eq_false_iff_ne.2 f;clear a e;go_in;go_wp2;go_ret;exact⟨rfl,rfl⟩
theorem xK(w:O)(t:Int):A5 U 129 #[Ax Z t] w fun e d=>e= Y (Ce (ie t))/\d=w:=by
 by_cases a:t=10\/t=26
 ·have e:ie t=A1:=bg (by omega);rw[e];rcases a with rfl|rfl;all_goals
   go_in;go_wp2;go_ret;exact⟨rfl,rfl⟩
 ·have b:¬t=10:=by omega
  have c:¬t=26:=by omega
  have f:(t==10)=A3:=beq_eq_false_iff_ne.2 b;have g:(t==26)=A3:=beq_eq_false_iff_ne.2 c;by_cases h:60<t
  ·have e:ie t=A1:=bg (by omega);rw[e];clear a e;go_in;go_wp2;go_ret;exact⟨rfl,rfl⟩
  ·have e:ie t=A3:=az (by omega);rw[e];clear a e;go_in;go_wp2;go_ret;exact⟨rfl,rfl⟩
theorem rh(w:O)(t:Int):A5 U 81 #[Ax Z t] w fun e c=>e= Y (Ce (dJ t))/\c=w:=by
 by_cases a:t=1\/t=2\/t=3\/t=4\/t=24\/t=29\/t=17\/t=49\/t=18\/t=40\/t=42
 ·have e:dJ t=A1:=by unfold dJ;rw[bg a];rfl
  rw[e];rcases a with rfl|rfl|rfl|rfl|rfl|rfl|rfl|rfl|rfl|rfl|rfl;all_goals
   go_in;go_wp2;go_ret;exact⟨rfl,rfl⟩
 ·have e:dJ t=jk t:=by unfold dJ;rw[az a];rfl
  rw[e];have f:¬t=1:=by omega
  have j:¬t=2:=by omega
  have m:¬t=3:=by omega
  have n:¬t=4:=by omega
  have k:¬t=24:=by omega
  have l:¬t=29:=by omega
  have g:¬t=17:=by omega
  have q:¬t=49:=by omega
  have h:¬t=18:=by omega
  have o:¬t=40:=by omega
  have p:¬t=42:=by omega
  have b:=fun w=>rg w t;clear a e;generalize jk t=d at b⊢;go_in;go_wp2_with (go_at_call 126;refine fc (b _) ?_);go_ret;exact⟨rfl,rfl⟩
def adx(B:Nat)(W:O)(a X:O->Prop):Exit->Act->O->Prop
 | .normal,_,W'=>C2 B W W'/\a W'
 | .ret,_,W'=>C2 B W W'/\X W'
 |_,_,_=>False
theorem Dc{P:B5}{n:Nat}{g:Operand}{q:Array Tmp}{assign body:Go.Code}{F:Exit->Act->O->Prop}{a:Act}{w:O}{gf:Nat}{lb:Array V}
  (bl:a.eval g= .func (.func gf) #[] lb) (a5:∀args w,(callFunc gf args).run P w= .ok (.enter gf args) w) (enc:Nat->Array V) (bp:∀x,(enc x).size=q.size) (A:Nat)
  (h:Nat->O->Prop) (C:Nat->Act->O->Prop) (X:O->Prop)
  (a4:∀m W r o,h m W->W.heap[w.heap.size+1]?=M (.loop r)->h m (W.putObj (w.heap.size+1) o))
  (bt:∀m d W r o,C m d W->W.heap[w.heap.size+1]?=M (.loop r)->C m d (W.putObj (w.heap.size+1) o)) (a2:∀W r o,X W->W.heap[w.heap.size+1]?=M (.loop r)->X (W.putObj (w.heap.size+1) o))
  (a6:∀b,A2 w.heap.size w b->b.heap.size=w.heap.size+2->h A b)
  (a9:∀(l m:Nat) W (an:Act->O->Prop),m<A->h (m+1) W->(∀d W',C m d W'->C2 w.heap.size W W'->an d W')->
   assign.wpIn (Fence.wide.inRound l) (n-1-1) P (Exit.then an (fun _ _ _=>False)) {tmps:=(q.zip (enc m)).foldl (fun t (p,v)=>t.setIfInBounds p v) a.tmps,defers:=[]} W)
  (bb:∀(l m:Nat) d W,m<A->C m d W->body.wpIn (Fence.wide.inRound l) (n-1-1) P (adx w.heap.size W (h m) X) d W)
  (bs:∀(l:Nat)(s:Nat->O->Prop)(am:O->Prop),(∀m W,s m W->h m W)->
   (∀m W,m<A->s (m+1) W->YieldAt B3 (n-1-1) P l (enc m) W fun e W'=>(e= Y (Ce A1)/\s m W')\/(e= Y (Ce A3)/\am W'))->
   ∀W,s A W->CallsIn B3 (n-1) P gf (#[.func (.yield l) #[] #[]]++lb) W fun e W'=>(∃v,e= Y v)/\(s 0 W'\/am W'))
  (bj:∀W,h 0 W->W.heap[w.heap.size]?=M (.deferred (M []))->F .normal {a with defers:={target:= .collected w.heap.size,args:=#[]}::a.defers} W)
  (bq:∀W,X W->W.heap[w.heap.size]?=M (.deferred (M []))->F .ret {a with defers:={target:= .collected w.heap.size,args:=#[]}::a.defers} W):
  (Go.Code.rangeFunc g q assign body).wpIn B3 n P F a w:=by
 refine wpIn_rangeFunc ?_;intro fn bk;show ∃l b4 b5 b0 b6 b1 args b7,(Instr.enterLoop fn a.tmps q assign body Q).run P w=_/\_;obtain⟨c,f⟩:∃c:LoopState->Option Go.Code->Loop,c=fun bx bw=>{state:=bx,pending:=bw,fn,tmps:=a.tmps,params:=q,assign,body,defers:=w.heap.size}:=⟨_,rfl⟩;have J:=run_enterLoop_outer (P:=P) (w:=w) fn a.tmps q assign body;rw[show({state:= .ready,pending:=Q,fn,tmps:=a.tmps,params:=q,assign,body,defers:=w.heap.size}:Loop)=c .ready Q by rw[f]]at J;obtain⟨b,u⟩:=aA ((w.alloc (.deferred (M []))).alloc (.loop (c .ready Q)));rw[u]at J;have bn:b.heap[w.heap.size+1]?=M (.loop (c .ready Q)):=by
  rw[<-u];have:=World.alloc_heap_new (w.alloc (.deferred (M []))) (.loop (c .ready Q));rwa [bu]at this
 have bd:b.heap[w.heap.size]?=M (.deferred (M [])):=by
  rw[<-u];exact(dt _ _ _ (by simp)).trans (World.alloc_heap_new w _)
 have ba:A2 w.heap.size w b:=by rw[<-u];exact((ai _ w).alloc (ag _) _).alloc (by simp) _
 have br:b.heap.size=w.heap.size+2:=by rw[<-u];simp
 refine⟨w.heap.size+1,[{target:= .collected w.heap.size,args:=#[]}],b,{target:= .fn (.func gf) lb,args:=#[.func (.yield (w.heap.size+1)) #[] #[]]},b,gf,
  #[.func (.yield (w.heap.size+1)) #[] #[]]++lb,b,J,?_,?_,?_,fun G=>by simp[B3]at G,?_⟩
 ·simp only[resolve,bl];simp[go_sem]
 ·intro b2 b3;trivial
 ·simp[invoke,go_sem,a5]
 ·refine(bs (w.heap.size+1) (fun m W=>h m W/\W.heap[w.heap.size+1]?=M (.loop (c .ready Q))/\W.heap[w.heap.size]?=M (.deferred (M [])))
   (fun W=>X W/\W.heap[w.heap.size+1]?=M (.loop (c .done (M .ret)))/\W.heap[w.heap.size]?=M (.deferred (M []))) (fun _ _ G=>G.1) ?_ b ⟨a6 b ba br,bn,bd⟩).mono ?_
  ·rintro m W a0 ⟨H,j,y⟩;have a1:=run_yield (P:=P) (args:=enc m) j (by rw[f];exact bp m);rw[f]at a1;refine⟨fn,_,assign,body,a1,roundIn_of_wpIn bk (a9 _ m W _ a0 H fun d W' a7 ap=>?_)⟩;have K:=ap.same _ _ (by omega) j rfl;have bf:=ap.same _ _ (ag _) y rfl;have bo:w.heap.size+1<W'.heap.size:=(Array.getElem?_eq_some_iff.1 K).1;refine⟨_,run_beginRound K (by rw[f]),?_⟩;have av:(W'.putObj (w.heap.size+1) (.loop {c .ready Q with state:= .busy})).heap[w.heap.size+1]?=M (.loop {c .ready Q with state:= .busy}):=World.putObj_heap_same bo;have ao:(W'.putObj (w.heap.size+1) (.loop {c .ready Q with state:= .busy})).heap[w.heap.size]?=M (.deferred (M [])):=(A6 (by omega)).trans bf;refine wpIn_mono (bb _ m d _ a0 (bt _ _ _ _ _ a7 K)) ?_;rintro e bE bD ak;cases e with
   |normal=>
    obtain⟨z,al⟩:=ak;have k:=z.same _ _ (by omega) av rfl;have I:=z.same _ _ (ag _) ao rfl;have af:=(Array.getElem?_eq_some_iff.1 k).1;refine⟨_,_,run_endRound (P:=P) Q k,.inl ⟨rfl,a4 _ _ _ _ al k,?_,(A6 (by omega)).trans I⟩⟩;rw[World.putObj_heap_same af];simp[f]
   |ret=>
    obtain⟨z,al⟩:=ak;have k:=z.same _ _ (by omega) av rfl;have I:=z.same _ _ (ag _) ao rfl;have af:=(Array.getElem?_eq_some_iff.1 k).1;refine⟨_,_,run_endRound (P:=P) (M .ret) k,.inr ⟨rfl,a2 _ _ _ al k,?_,(A6 (by omega)).trans I⟩⟩;rw[World.putObj_heap_same af];simp[f]
   |_=>exact ak.elim
  ·rintro e bA ⟨⟨v,rfl⟩,⟨H,j,y⟩|⟨a8,j,y⟩⟩
   ·refine⟨Q,_,by have:=run_endLoop (P:=P) j (by rw[f];simp);rw[f]at this;exact this,?_⟩;exact bj _ (a4 _ _ _ _ H j) ((A6 (by omega)).trans y)
   ·refine⟨M .ret,_,by have:=run_endLoop (P:=P) j (by rw[f];simp);rw[f]at this;exact this,?_⟩;exact wpIn_ret (bq _ (a2 _ _ _ a8 j) ((A6 (by omega)).trans y))
theorem IG{P:B5}{l n:Nat}{o:Oper}{a:Act}{d:Act->O->Prop}{e:Exit->Act->O->Prop}(r:Result Next)(h:o.upon P a d e r):o.uponIn (Fence.wide.inRound l) n P a d e r:=by
 have f:(Fence.wide.inRound l).depth.isSome=A1->1<=n:=fun h=>by simp[B3,Fence.inRound]at h
 cases r with
 |ok c m=>
  cases c with
  |value b=>exact h
  |skip=>exact h
  |defer q=>exact h
  |enter s args=>exact⟨f,CallsIn.inRound l (callsIn_wide.2 h)⟩
  |row row args=>exact⟨f,fun g j _=>let ⟨b,p,r,k⟩:=h g j;⟨b,p,r,stepsIn_wide.2 k⟩⟩
  |_=>exact h.elim
 |halt c m=>
  cases c with
  |panic b=>exact h
  |_=>exact h.elim
def Gv(o:Oper):Bool:=match o.op with| .defer _=>A3|_=>A1
theorem ady{o:Oper}(h:Gv o=A1):∀c,o.op≠ .defer c:=by
 intro c a;unfold Gv at h;rw[a]at h;cases h
theorem IH{P:B5}{b:Array Oper}{c:Exit->Act->O->Prop}{l n i:Nat}{e:Act->O->Prop}{a:Act}{w:O}(g:∀(j:Nat) (o:Oper),b[j]?=M o->Gv o=A1)(k:¬LetsOut c)(h:wpOp P b c i e a w):wpOpIn (Fence.wide.inRound l) n P b c i e a w:=by
 unfold wpOp at h;unfold wpOpIn;cases ho:b[i]? with
 |none=>simpa [ho] using h
 |some o=>
  simp only[ho]at h⊢;split
  ·rename_i d;simp only[d,pI]at h;rcases h with h|h
   ·refine⟨fun f _=>trivial,?_⟩;show o.uponIn _ _ _ _ _ _ ((o.semAt (M l) a.eval).run P w);rw[DB l a.eval o (ady (g i o ho))];exact IG _ h
   ·exact absurd h.2 k
  ·rename_i d;simp only[d]at h;exact⟨fun f _=>trivial,by simpa using h⟩
theorem ue{P:B5}{g:Region.Mode}{c:Array Oper}{b:Exit->Act->O->Prop}{l n:Nat}(d:∀(j:Nat) (o:Oper),c[j]?=M o->Gv o=A1)(e:¬LetsOut b):
  ∀(fuel:Nat)(f:Array Bool)(a:Act)(w:O),wpAny P g c b fuel f a w->wpAnyIn (Fence.wide.inRound l) n P g c b fuel f a w
 |0,_,_,_,h=>h
 |fuel+1,_,_,_,h=>⟨h.1,fun i p=>IH d e (wpOp_mono (fun k q m=>ue d e fuel _ k q m) (h.2 i p))⟩
theorem ri{P:B5}{b:Array Oper}{c:Exit->Act->O->Prop}{l n id:Nat}{S:O->Prop}{a:Act}{w:O}(g:P.follows .mixedOrders=A1)(e:b.all Gv=A1)(k:¬LetsOut c)(hS:S w.drew)
  (h:S w.drew->wpAnyH P .any b c S b.size (Array.replicate b.size A3) a w.drew):(Go.Code.region id b A1).wpIn (Fence.wide.inRound l) n P c a w:=
 wpIn_region_any g (ue (fun m o j=>by
  obtain⟨f,d⟩:=Array.getElem?_eq_some_iff.1 j;rw[<-d];exact Array.all_eq_true.1 e m f) k _ _ _ _ (wpAny_of_held _ _ _ _ (h hS)))
theorem Er{P:B5}{g:Region.Mode}{b:Array Oper}{e:Exit->Act->O->Prop}{S:O->Prop}(i:Nat)(d:Tmp)(v:V){j:Oper}{fuel:Nat}{f:Array Bool}{a:Act}{w:O}(n:b[i]?=M j)(k:j.dst=M d)
  (p:Region.noSelect b=A1) (m:Region.free g b f i=A1) (o:(Region.ready g b f).contains i=A1)
  (l:∀c a w,e (.panic c) (a.put (M d) v) w->e (.panic c) a w) (q:Region.wanted j (yielded b a.tmps)=A1) (hS:S w) (r:∀w,S w->(execOp a.eval j).run P w= .ok (.value v) w)
  (h:wpAnyH P g b e S fuel (f.setIfInBounds i A1) (a.put (M d) v) w):wpAnyH P g b e S (fuel+1) f a w:=
 wpAnyH_take n p m o (by rw[k];exact l) (Or.inl ⟨q,r⟩) hS (by rw[k];exact h)
def amr(b:Region.Mode)(a:Array Oper)(m:List Bool)(i:Nat)(l:List V):Bool:=Region.noSelect a&&Region.free b a m.toArray i&&(Region.ready b a m.toArray).contains i&&(match a[i]? with|some c=>Region.wanted c (yielded a l.toArray)|none=>A3)
theorem di{P:B5}{j:Region.Mode}{f:Array Oper}{e:Exit->Act->O->Prop}{S:O->Prop}(i:Nat)(v:V){d:Tmp}{k:Oper}{fuel:Nat}{m:List Bool}{l:List V}{g:List Deferred}{w:O}(n:f[i]?=M k)(p:k.dst=M d)(b:amr j f m i l=A1)
  (o:∀c a w,e (.panic c) (a.put (M d) v) w->e (.panic c) a w) (hS:S w) (q:∀w,S w->(execOp (Act.mk l.toArray g).eval k).run P w= .ok (.value v) w)
  (h:wpAnyH P j f e S fuel (m.set i A1).toArray ⟨(l.set d v).toArray,g⟩ w):wpAnyH P j f e S (fuel+1) m.toArray ⟨l.toArray,g⟩ w:=by
 unfold amr at b;rw[n]at b;simp only[cL]at b;refine Er i d v n p b.1.1.1 b.1.1.2 b.1.2 o b.2 hS q ?_;simp only[Act.put,dv];exact h
open Go.Maps Go.WideMaps
theorem gi{W:O}{base e size n g:Nat}{v:V}{j:List V}(o:W.ownsRow base e size v n j){cs:Array V}{t:B6}{fr:Nat×Nat}(c:W.heap[g]?=M (A7 cs t fr))(h:t≠e):v.ownBlock≠M g:=fun a=>by
 rcases o.2 with⟨b,_⟩|⟨d,k,l,b,_,f,_⟩
 ·rw[b]at a;simp[A4]at a
 ·rw[b]at a;obtain rfl:d=g:=by simpa [A4] using a
  rw[f]at c;cases c;exact h rfl
theorem lI{W:O}{base e size n:Nat}{v:V}{a:List V}(o:W.ownsRow base e size v n a){g:Nat}(b:v.ownBlock≠M g)(q:Nat)(u:V):(W.setCell ⟨g,q,Q⟩ u).ownsRow base e size v n a:=
 o.kept (row:=M g) ⟨rfl,rfl,rfl,by simp[Br],fun h f c=>bh _ _ _ _ (fun e=>c (by rw[e]))⟩ (by
  cases hv:v.ownBlock with
  |none=>exact .inl rfl
  |some d=>exact .inr (fun e=>b (by rw[hv,e])))
theorem zn:(Tryz.prog.info? 36).map (fun i=>(i.zero,i.size,i.bytes))=M (M (.agg #[Ax Z 0,Ax Z 0,Ax Z 0,Ax Z 0,Ax Z 0,Ax Z 0,A9 ⟨#[]⟩,A8 Q 0 0,A8 Q 0 0]),9,112):=by kernel_rfl
abbrev dE(N:Nd)(vn vk:V):Array V:=#[Ax Z N.k,Ax Z N.f,Ax Z N.t,Ax Z N.l,Ax Z N.op,Ax Z N.n,A9 N.x,vn,vk]
theorem Am(l:List Int):∀r:ByteArray,(l.foldl (fun r n=>r.push (UInt8.ofNat n.toNat)) r).data.toList=r.data.toList++l.map (fun n=>UInt8.ofNat n.toNat):=by
 induction l with
 |nil=>intro r;simp
 |cons b l a=>intro r;simp only[ju,dq];rw[a];simp[ByteArray.push]
theorem Dd(l:List Int):(fa l).data.toList=l.map (fun n=>UInt8.ofNat n.toNat):=by
 unfold fa;rw[Am,show ByteArray.empty.data.toList=[] from rfl,fx]
theorem abj(s:ByteArray)(i:Nat):aw s i=((s.data.toList[i]?).map (fun b=>(b.toNat:Int))).getD (-1):=by
 unfold aw;by_cases a:i<s.size
 ·rw[oA a,aE (by simpa using a)];rfl
 ·rw[dif_neg a,fm (by simpa using a)];rfl
theorem vJ(l:List Int)(h:∀x∈l,0<=x/\x<256)(i:Nat):aw (fa l) i=(l[i]?).getD (-1):=by
 rw[abj,Dd,cA,Option.map_map];by_cases a:i<l.length
 ·rw[aE a];have:=h _ (lG a);simp only[uK,ii,Function.comp];rw[UInt8.toNat_ofNat'];omega
 ·rw[fm (by omega)];rfl
def ob(s:ByteArray):List Int:=s.data.toList.map fun a=>(a.toNat:Int)
theorem II(s:ByteArray):fa (ob s)=s:=by
 apply jh;apply Array.toList_inj.1;rw[Dd];unfold ob;rw[List.map_map]
 conv=>rhs;rw[<-List.map_id s.data.toList]
 apply List.map_congr_left;intro a _;simp
theorem An(s:ByteArray):(ob s).length=s.size:=by simp[ob]
theorem Gw(s:ByteArray)(k:Nat)(h:k<s.size):(ob s).take (k+1)=(ob s).take k++[(s[k].toNat:Int)]:=by
 have a:k<(ob s).length:=by rw[An];exact h
 rw[List.take_succ_eq_append_getElem a]
 congr 2
 simp[ob];rfl
theorem Et(d:Int)(a:0<=d)(b:d<16):32<=qj d/\qj d<=126:=by unfold qj;split<;>omega
theorem akb(c:Int)(e:0<=c)(f:c<256):∀x∈esc c,32<=x/\x<=126:=by
 unfold esc;split
 ·simp
 split
 ·simp
 split
 ·rename_i d;simp;omega
 split
 ·have a:=Et (c / 16) (by omega) (by omega);have b:=Et (c%16) (by omega) (by omega);simp;omega
 ·simp;omega
theorem Eu(s:ByteArray)(k:Nat)(h:k<s.size):0<=(s[k].toNat:Int)/\(s[k].toNat:Int)<256:=by have:=s[k].toNat_lt;omega
theorem aiK(s:ByteArray):∀k,k<=s.size->∀x∈qt s k,32<=x/\x<=126
 |0,_=>by simp[qt]
 |k+1,h=>by
  intro x hx;rw[sJ s k (by omega),zd]at hx;rcases hx with hx|hx
  ·exact aiK s k (by omega) x hx
  ·exact akb _ (Eu s k (by omega)).1 (Eu s k (by omega)).2 x hx
theorem Ao(s:ByteArray):∀x∈dF s,32<=x/\x<=126:=by
 intro x hx;unfold dF at hx;rw[zd]at hx;rcases hx with hx|hx
 ·exact aiK s s.size (ag _) x hx
 ·simp at hx;omega
theorem Ap(s:ByteArray)(k:Nat):∀n,k+n<=s.size->∃a,qt s (k+n)=qt s k++a
 |0,_=>⟨[],by simp⟩
 |n+1,h=>by
  obtain⟨a,b⟩:=Ap s k n (by omega);exact⟨a++esc (s[k+n].toNat:Int),by rw[show k+(n+1)=(k+n)+1 by omega,sJ s (k+n) (by omega),b,dC]⟩
theorem adz(s:ByteArray)(k:Nat)(h:k<s.size):∃a,dF s=qt s k++(esc (s[k].toNat:Int)++a):=by
 obtain⟨a,b⟩:=Ap s (k+1) (s.size-(k+1)) (by omega);rw[show k+1+(s.size-(k+1))=s.size by omega,sJ s k h]at b;exact⟨a++[34],by unfold dF;rw[b];simp⟩
theorem abk(s:ByteArray)(k j:Nat)(h:k<s.size)(a:j<(esc (s[k].toNat:Int)).length):aw (fa (dF s)) ((qt s k).length+j)=(esc (s[k].toNat:Int))[j]:=by
 rw[vJ _ (fun d c=>by have:=Ao s d c;omega)];obtain⟨e,b⟩:=adz s k h;rw[b,gF (by omega),show(qt s k).length+j-(qt s k).length=j by omega,iD a,aE a];rfl
theorem abl(s:ByteArray):aw (fa (dF s)) (qt s s.size).length=34:=by
 rw[vJ _ (fun b a=>by have:=Ao s b a;omega)];unfold dF;rw[gF (by omega)];simp
theorem Gx(s:ByteArray):aw (fa (dF s)) 0=34:=by
 rw[vJ _ (fun b a=>by have:=Ao s b a;omega)];unfold dF qt;simp
theorem abm(s:ByteArray):(dF s).length=(qt s s.size).length+1:=by unfold dF;simp
theorem abn:∀d:Fin 16,iC (qj (d.val:Int))=(d.val:Int):=by decide
theorem uv(d:Int)(b:0<=d)(c:d<16):iC (qj d)=d:=by
 have:=abn ⟨d.toNat,by omega⟩;have a:((d.toNat:Nat):Int)=d:=by omega
 simp only[a]at this;exact this
theorem adA(s:ByteArray):∀(n k f:Nat),k+n=s.size->(fa (dF s)).size<(qt s k).length+f->
  fF (fa (dF s)) f (qt s k).length ((ob s).take k)=(A1,(fa (dF s)).size,ob s):=by
 have H:(fa (dF s)).size=(qt s s.size).length+1:=by rw[qu,abm]
 intro n
 induction n with
 |zero=>
  intro k f A x;obtain rfl:k=s.size:=by omega
  obtain⟨f,rfl⟩:∃q,f=q+1:=⟨f-1,by omega⟩;unfold fF;rw[aa (by omega),abl,ab rfl,H,cI (by rw[An];omega)]
 |succ n K=>
  intro k f A x;have p:k<s.size:=by omega
  have ap:=Eu s k p;have G:=sJ s k p;have I:=Gw s k p;have c:=fun af z=>abk s k af p z;have C:(qt s (k+1)).length<=(qt s s.size).length:=by
   obtain⟨a0,t⟩:=Ap s (k+1) n (by omega);rw[show k+1+n=s.size by omega]at t;rw[t];simp
  have d:=fun w y=>K (k+1) w (by omega) y;rw[I]at d;generalize (s[k].toNat:Int)=a at *;have F:(qt s (k+1)).length=(qt s k).length+(esc a).length:=by rw[G];simp
  generalize av:fa (dF s)=b at *;generalize ao:(qt s k).length=P at *;generalize an:(ob s).take k=am at *;obtain⟨f,rfl⟩:∃q,f=q+1:=⟨f-1,by omega⟩;rw[F]at d C;unfold fF;rw[aa (by omega)];by_cases l:a=10
  ·subst l;have e:aw b P=92:=c 0 (by decide);have g:aw b (P+1)=110:=c 1 (by decide);have h:iH b (P+1)=(10,P+1+1,A1):=by unfold iH;rw[g];rfl
   rw[e,aa (by decide),aa (by decide),ab rfl,h,ab rfl];exact d f (by have:(esc 10).length=2:=rfl;omega)
  by_cases m:a=9
  ·subst m;have e:aw b P=92:=c 0 (by decide);have g:aw b (P+1)=116:=c 1 (by decide);have h:iH b (P+1)=(9,P+1+1,A1):=by unfold iH;rw[g];rfl
   rw[e,aa (by decide),aa (by decide),ab rfl,h,ab rfl];exact d f (by have:(esc 9).length=2:=rfl;omega)
  by_cases o:a=34\/a=92
  ·have j:esc a=[92,a]:=by unfold esc;rw[aa l,aa m,ab o]
   rw[j]at c d;have e:aw b P=92:=c 0 (by simp);have g:aw b (P+1)=a:=c 1 (by simp);have h:iH b (P+1)=(a,P+1+1,A1):=by unfold iH;rw[g,aa (by omega),aa (by omega),ab o]
   rw[e,aa (by decide),aa (by decide),ab rfl,h,ab rfl];exact d f (by simp;omega)
  by_cases r:a<32\/126<a
  ·have j:esc a=[92,120,qj (a / 16),qj (a%16)]:=by unfold esc;rw[aa l,aa m,aa o,ab r]
   rw[j]at c d;have e:aw b P=92:=c 0 (by simp);have g:aw b (P+1)=120:=c 1 (by simp);have u:aw b (P+1+1)=qj (a / 16):=c 2 (by simp);have v:aw b (P+1+1+1)=qj (a%16):=c 3 (by simp);have ak:=uv (a / 16) (by omega) (by omega);have al:=uv (a%16) (by omega) (by omega);have J:hexI b (P+1+1)=(a,P+1+1+1+1,A1):=by
    unfold hexI;rw[u,v,ak,al,aa (by omega),aa (by omega)]
    congr 1;omega
   have h:iH b (P+1)=(a,P+1+1+1+1,A1):=by unfold iH;rw[g,aa (by decide),aa (by decide),aa (by decide),ab rfl,J]
   rw[e,aa (by decide),aa (by decide),ab rfl,h,ab rfl];exact d f (by simp;omega)
  ·have j:esc a=[a]:=by unfold esc;rw[aa l,aa m,aa o,aa r]
   rw[j]at c d;have e:aw b P=a:=c 0 (by simp);rw[e,aa (by omega),aa (by omega),aa (by omega)];exact d f (by simp;omega)
theorem ieq(t c:Int):(t=c)=((t==c)=A1):=by simp
theorem IJ(w:O)(t:Int):A5 U 80 #[Ax Z t] w (jJ w (Ab t)):=by
 go_in;go_wp2_with (go_at_call 79;refine fc (ti _ _) ?_);all_goals
  go_ret2;go_tidy
  simp only[Ab,ieq, *];simp[*];first|exact qB w _ _ (by simp)|exact zm w _
theorem IK(w:O)(t:Int):A5 U 128 #[Ax Z t] w (jJ w (Ad t)):=by
 have b:=fun w=>rg w t;have a:=fun w=>rh w t;go_in;go_wp2_with (first|(go_at_call 79;refine fc (ti _ _) ?_)|(go_at_call 126;refine fc (b _) ?_)|(go_at_call 81;refine fc (a _) ?_));all_goals
  go_ret2;go_tidy
  simp only[Ad,ieq, *];simp[*];first|exact qB w _ _ (by simp)|exact zm w _
def jA:Nat->List Int->Int->Nat->Option (List Int×Option Bool×Nat)
 |0,_,_,_=>Q
 |_+1,[],_,n=>M ([],Q,n)
 |f+1,s::r,t,n=>if s<100 then M (r,M (decide (s=t)),n) else if(xE s t).2=A1 then jA f ((xE s t).1++r) t (n+(xE s t).1.length) else M (r,M A3,n)
def dB:List Int->Int->List Int×Bool
 |[],_=>([],A3)
 |s::r,t=>if s<100 then(r,decide (s=t)) else if(xE s t).1=[]/\(xE s t).2=A1 then dB r t else match jA 8 [s] t 0 with|some (a,some b,_)=>(a++r,b)|_=>([],A3)
def ag7(s t:Int):Bool:=
 (xE s t).1.all (fun b=>decide (b<=133))&&(decide ((xE s t).1.length<=7)&&
 (if(xE s t).1=[]/\(xE s t).2=A1 then A1 else match jA 8 [s] t 0 with|some (_,some _,a)=>decide (a<=20)|_=>A3))
theorem ag8:((List.range 34).all fun s=>(List.range 78).all fun t=>ag7 ((s:Int)+100) ((t:Int)+1))=A1:=by decide+kernel
theorem adB{s t:Int}(e:100<=s)(f:s<=133)(g:1<=t)(h:t<=78):ag7 s t=A1:=by
 have d:=List.all_eq_true.1 ag8 (s-100).toNat (by rw[yD];omega);have a:=List.all_eq_true.1 d (t-1).toNat (by rw[yD];omega);have b:(((s-100).toNat:Nat):Int)+100=s:=by omega
 have c:(((t-1).toNat:Nat):Int)+1=t:=by omega
 rw[b,c]at a;exact a
theorem K9{s t:Int}(b:100<=s)(c:s<=133)(e:1<=t)(f:t<=78):(∀x∈(xE s t).1,x<=133)/\(xE s t).1.length<=7:=by
 have a:=adB b c e f;unfold ag7 at a;rw[cL,cL]at a;exact⟨fun x d=>aH (List.all_eq_true.1 a.1 x d),aH a.2.1⟩
theorem Aq{s t:Int}(f:100<=s)(g:s<=133)(j:1<=t)(k:t<=78)(h:¬((xE s t).1=[]/\(xE s t).2=A1)):∃d b n,jA 8 [s] t 0=M (d,M b,n)/\n<=20:=by
 have a:=adB f g j k;unfold ag7 at a;rw[cL,cL,aa h]at a;have c:=a.2.2;split at c
 ·rename_i d b n e;exact⟨d,b,n,e,aH c⟩
 ·cases c
theorem qC{s t:Int}{r:List Int}(b:100<=s)(a:(xE s t).1=[]/\(xE s t).2=A1):dB (s::r) t=dB r t:=by
 rw[dB,aa (by omega),ab a]
theorem qD{s t:Int}{r a:List Int}{b:Bool}{n:Nat}(e:100<=s)(c:¬((xE s t).1=[]/\(xE s t).2=A1))(d:jA 8 [s] t 0=M (a,M b,n)):dB (s::r) t=(a++r,b):=by
 rw[dB,aa (by omega),aa c,d]
theorem oJ{s t:Int}{r:List Int}(a:s<100):dB (s::r) t=(r,decide (s=t)):=by
 rw[dB,ab a]
theorem lq{s t:Int}{r c:List Int}{b:Option Bool}{f n m:Nat}(h:jA (f+1) (s::r) t n=M (c,b,m))(d:100<=s):((xE s t).2=A1/\jA f ((xE s t).1++r) t (n+(xE s t).1.length)=M (c,b,m))\/((xE s t).2=A3/\c=r/\b=M A3/\m=n):=by
 rw[jA,aa (by omega)]at h;split at h
 ·rename_i a;exact .inl ⟨a,h⟩
 ·rename_i a;simp only[iq,pG]at h;exact .inr ⟨by simpa using a,h.1.symm,h.2.1.symm,h.2.2.symm⟩
theorem sn{s t:Int}{r a:List Int}{b:Option Bool}{f n m:Nat}(h:jA (f+1) (s::r) t n=M (a,b,m))(c:s<100):a=r/\b=M (decide (s=t))/\m=n:=by
 rw[jA,ab c]at h;simp only[iq,pG]at h;exact⟨h.1.symm,h.2.1.symm,h.2.2.symm⟩
def De(st:List Int):Prop:=∀a∈st,a<=133
theorem Lc:∀{f:Nat}{st:List Int}{t:Int}{n:Nat}{c:List Int}{b:Option Bool}{m:Nat},De st->1<=t->t<=78->jA f st t n=M (c,b,m)->De c
 |0,_,_,_,_,_,_,_,_,_,h=>by simp[jA]at h
 |f+1,[],t,n,c,b,m,a,_,_,h=>by
  simp only[jA,iq,pG]at h;rw[<-h.1];exact a
 |f+1,s::r,t,n,c,b,m,a,j,k,h=>by
  have g:De r:=fun d hx=>a d (dm _ hx);by_cases l:s<100
  ·rw[(sn h l).1];exact g
  ·rcases lq h (by omega) with⟨_,e⟩|⟨_,e,_⟩
   ·refine Lc (fun d hx=>?_) j k e;rcases List.mem_append.1 hx with hx|hx
    ·exact(K9 (by omega) (a s (bz ..)) j k).1 d hx
    ·exact g d hx
   ·rw[e];exact g
theorem qE:∀{st:List Int}{t:Int},De st->1<=t->t<=78->De (dB st t).1
 |[],t,a,_,_=>by rw[dB];exact a
 |s::r,t,a,e,f=>by
  have d:De r:=fun b hx=>a b (dm _ hx);by_cases j:s<100
  ·rw[oJ j];exact d
  ·have h:=a s (bz ..);by_cases c:(xE s t).1=[]/\(xE s t).2=A1
   ·rw[qC (by omega) c];exact qE d e f
   ·obtain⟨m,l,n,g,_⟩:=Aq (by omega) h e f c;rw[qD (by omega) c g];intro b hx;rcases List.mem_append.1 hx with hx|hx
    ·refine Lc (st:=[s]) ?_ e f g b hx;intro o k;obtain rfl:=List.mem_singleton.1 k;exact h
    ·exact d b hx
structure TkC (cs:Array V) (T:Tk) (q:Nat) (l:Int):Prop where
 c0:cs[q*6]?=M (.int .i64 T.k)
 c1:cs[q*6+1]?=M (.int .i64 T.f)
 c2:cs[q*6+2]?=M (.int .i64 T.t)
 c3:cs[q*6+3]?=M (.int .i64 l)
 c4:cs[q*6+4]?=M (.int .i64 T.n)
 c5:cs[q*6+5]?=M (.string T.x)
 hl:T.k≠6->l=T.l
def TkR(cs:Array V)(tk:Nat->Tk)(n:Nat):Prop:=∀a,a<n->∃b,TkC cs (tk a) a b
structure Kt (w w':O):Prop where
 size:w.heap.size<=w'.heap.size
 block:∀k,k<w.heap.size->(∀cs fr,w.heap[k]?≠M (.cells cs 36 fr))->(∀cs fr,w.heap[k]?≠M (.cells cs 73 fr))->w'.heap[k]?=w.heap[k]?
theorem Kt.refl(w:O):Kt w w:=⟨ag _,fun _ _ _ _=>rfl⟩
theorem Kt.trans{x y g:O}(h:Kt x y)(k:Kt y g):Kt x g:=
 ⟨dh h.size k.size,fun i f d e=>by
  have b:=h.block i f d e;exact(k.block i (jq f h.size) (fun a c=>by rw[b];exact d a c) (fun a c=>by rw[b];exact e a c)).trans b⟩
theorem Kt.of_below{w a:O}(h:A2 w.heap.size w a):Kt w a:=⟨h.size,fun c b _ _=>h.block c b⟩
theorem Kt.blk{w c:O}(h:Kt w c){k:Nat}{cs:Array V}{t:B6}{fr:Nat×Nat}(b:w.heap[k]?=M (A7 cs t fr))(f:t≠36)(g:t≠73):c.heap[k]?=M (A7 cs t fr):=
 (h.block k (au b) (fun d e a=>by rw[b]at a;cases a;exact f rfl) (fun d e a=>by rw[b]at a;cases a;exact g rfl)).trans b
theorem Kt.row{w b:O}(h:Kt w b){base e size n:Nat}{v:V}{c:List V}(o:w.ownsRow base e size v n c)(k:e≠36)(l:e≠73):b.ownsRow base e size v n c:=by
 obtain⟨j,a⟩:=o;refine⟨j,?_⟩;rcases a with a|⟨g,d,f,q,p,m,r⟩
 ·exact .inl a
 ·exact .inr ⟨g,d,f,q,p,h.blk m k l,r⟩
theorem Kt.past{x y e:O}(h:Kt x y){b:Nat}(a:y.grownBy e (M b))(k:x.heap.size<=b):Kt x e:=
 ⟨dh h.size a.size,fun d c g j=>(a.block d (jq c h.size) (fun f=>by cases f;omega)).trans (h.block d c g j)⟩
theorem Kt.set{w:O}{k:Nat}{cs:Array V}{t:B6}{fr:Nat×Nat}(a:w.heap[k]?=M (A7 cs t fr))(e:t=36\/t=73)(q:Nat)(u:V):Kt w (w.setCell ⟨k,q,Q⟩ u):=
 ⟨by simp[Br],fun i f c d=>bh _ _ _ _ (fun b=>by subst b;rcases e with rfl|rfl;exact c _ _ a;exact d _ _ a)⟩
structure Pe where
 base:Nat
 pb:Nat
 tb:Nat
 cap:Nat
 n:Nat
 tk:Nat->Tk
structure Sp (E:Pe) (W:O) (i:Nat) (L:List Mb) (B:List (Nat×Array V)):Prop where
 lo:E.base<=E.pb
 hn:E.n<=1048576
 tks:∃cs fr,W.heap[E.tb]?=M (.cells cs 88 fr)/\TkR cs E.tk E.n
 row:∃v,W.heap[E.pb]?=M (.cells #[.slice (M ⟨E.tb,0,Q⟩) E.n E.cap,.int .i64 i,v] 73 (0,0))/\W.ownsRow E.base 36 9 v L.length (mi L)/\∀b∈B,W.heap[b.1]?=M (.cells b.2 36 (0,0))/\v.ownBlock≠M b.1
 each:∀x∈L,W.ownsRow E.base 9 1 x.vn x.N.nm.length (x.N.nm.map Value.string)/\W.ownsRow E.base 3 1 x.vk x.N.ks.length (x.N.ks.map (B1 .i64))
 nb:(B.map Prod.fst).Nodup
section
variable {E : Pe} {W W' : World} {i : Nat} {L : List Mb} {B : List (Nat × Array Value)}
theorem Sp.lt(h:Sp E W i L B):E.pb<W.heap.size/\E.base<=W.heap.size:=by
 obtain⟨b,a,_⟩:=h.row;have:=au a;have:=h.lo;omega
theorem Sp.below(h:Sp E W i L B)(a:A2 W.heap.size W W'):Sp E W' i L B:=by
 obtain⟨k,l,f,n⟩:=h.tks;obtain⟨o,e,m,c⟩:=h.row;exact⟨h.lo,h.hn,⟨k,l,(a.block _ (au f)).trans f,n⟩,⟨o,(a.block _ (au e)).trans e,aI m a,fun b d=>⟨(a.block _ (au (c b d).1)).trans (c b d).1,(c b d).2⟩⟩,fun j g=>⟨aI (h.each j g).1 a,aI (h.each j g).2 a⟩,h.nb⟩
theorem Sp.alloc(h:Sp E W i L B)(cs:Array V):Sp E (W.alloc (A7 cs 36)) i L ((W.heap.size,cs)::B):=by
 have f:A2 W.heap.size W (W.alloc (A7 cs 36)):=(ai _ W).alloc (ag _) _;have a:=h.below f;obtain⟨g,e,l,m⟩:=a.row;obtain⟨q,d,j,k⟩:=h.row;have p:q=g:=by
  have b:=(f.block _ (au d)).trans d;rw[e]at b;cases b;rfl
 refine⟨a.lo,a.hn,a.tks,⟨g,e,l,fun c hm=>?_⟩,a.each,?_⟩
 ·rcases List.mem_cons.1 hm with rfl|hm
  ·refine⟨ar W _,fun b=>?_⟩;have:=(j.lt W.heap.size (by rw[p];exact b)).2;omega
  ·exact m c hm
 ·rw[dq,List.nodup_cons];refine⟨fun hm=>?_,h.nb⟩;obtain⟨c,n,o⟩:=List.mem_map.1 hm;have:=au (k c n).1;rw[o]at this;exact Nat.lt_irrefl _ this
theorem Sp.drop(h:Sp E W i L B){a:List (Nat×Array V)}(f:∀b∈a,b∈B)(j:(a.map Prod.fst).Nodup):Sp E W i L a:=by
 obtain⟨k,c,d,e⟩:=h.row;exact⟨h.lo,h.hn,h.tks,⟨k,c,d,fun b g=>e b (f b g)⟩,h.each,j⟩
theorem Sp.tail{b:Nat×Array V}(h:Sp E W i L (b::B)):Sp E W i L B:=h.drop (fun c a=>dm _ a) (List.nodup_cons.1 h.nb).2
theorem Sp.box(h:Sp E W i L B){b:Nat}{cs:Array V}(c:(b,cs)∈B):W.heap[b]?=M (A7 cs 36 (0,0)):=by
 obtain⟨f,d,e,a⟩:=h.row;exact(a _ c).1
theorem Sp.set{b:Nat}{cs:Array V}(h:Sp E W i L ((b,cs)::B))(q:Nat)(u:V):Sp E (W.setCell ⟨b,q,Q⟩ u) i L ((b,cs.setIfInBounds q u)::B):=by
 obtain⟨o,p,l,s⟩:=h.tks;obtain⟨z,j,r,k⟩:=h.row;obtain⟨d,n⟩:=k _ (bz ..);have w:∀a∈B,a.1≠b:=fun a t c=>(List.nodup_cons.1 h.nb).1 (List.mem_map.2 ⟨a,t,c⟩);have m:∀f,f≠b->(W.setCell ⟨b,q,Q⟩ u).heap[f]?=W.heap[f]?:=fun f v=>bh _ _ _ _ v;have y:E.tb≠b:=fun c=>by rw[c,d]at l;cases l
 have x:E.pb≠b:=fun c=>by rw[c,d]at j;cases j
 refine⟨h.lo,h.hn,⟨o,p,(m _ y).trans l,s⟩,⟨z,(m _ x).trans j,lI r n q u,fun a hm=>?_⟩,fun g e=>⟨lI (h.each g e).1 (gi (h.each g e).1 d (by decide)) q u,lI (h.each g e).2 (gi (h.each g e).2 d (by decide)) q u⟩,h.nb⟩;rcases List.mem_cons.1 hm with rfl|hm
 ·exact⟨cE _ b q _ _ _ d,n⟩
 ·exact⟨(m _ (w a hm)).trans (k a (dm _ hm)).1,(k a (dm _ hm)).2⟩
theorem Sp.other(h:Sp E W i L B){b:Nat}{cs:Array V}{fr:Nat×Nat}(l:W.heap[b]?=M (A7 cs 88 fr))(J:E.tb≠b)(r:W.grownBy W' (M b)):Sp E W' i L B:=by
 obtain⟨z,A,F,G⟩:=h.tks;obtain⟨d,j,C,k⟩:=h.row;have o:∀c f p g,W.heap[c]?=M (A7 f p g)->c≠b->W'.heap[c]?=M (A7 f p g):=fun c f p g s I=>(r.block c (au s) (fun a=>I (by cases a;rfl))).trans s;have n:∀{q a w u:Nat}{d:V}{y:List V},W.ownsRow q a w d u y->88≠a->W'.ownsRow q a w d u y:=fun v H=>v.kept r (by
  cases hv:A4 _ with
  |none=>exact .inl rfl
  |some K=>exact .inr (fun a=>gi v l H (by rw[hv,a])))
 refine⟨h.lo,h.hn,⟨z,A,o _ _ _ _ F J,G⟩,⟨d,o _ _ _ _ j (fun a=>by rw[a,l]at j;cases j),n C (by decide),fun e m=>⟨o _ _ _ _ (k e m).1 (fun a=>?_),(k e m).2⟩⟩,fun x t=>⟨n (h.each x t).1 (by decide),n (h.each x t).2 (by decide)⟩,h.nb⟩;have:=(k e m).1;rw[a,l]at this;simp only[iq,lC]at this;exact absurd this.2.1 (by decide)
theorem Sp.move(h:Sp E W i L B)(j:Nat):Sp E (W.setCell ⟨E.pb,1,Q⟩ (Ax Z j)) j L B:=by
 obtain⟨o,p,k,q⟩:=h.tks;obtain⟨t,a,m,g⟩:=h.row;have n:∀c,c≠E.pb->(W.setCell ⟨E.pb,1,Q⟩ (Ax Z j)).heap[c]?=W.heap[c]?:=fun c r=>bh _ _ _ _ r;have s:E.tb≠E.pb:=fun f=>by rw[f,a]at k;cases k
 refine⟨h.lo,h.hn,⟨o,p,(n _ s).trans k,q⟩,⟨t,cE _ E.pb 1 _ _ _ a,lI m (gi m a (by decide)) 1 _,fun e l=>⟨(n _ (fun f=>?_)).trans (g e l).1,(g e l).2⟩⟩,fun d b=>⟨lI (h.each d b).1 (gi (h.each d b).1 a (by decide)) 1 _,lI (h.each d b).2 (gi (h.each d b).2 a (by decide)) 1 _⟩,h.nb⟩;have:=(g e l).1;rw[f,a]at this;simp only[iq,lC]at this;exact absurd this.2.1 (by decide)
theorem Sp.kmove(h:Sp E W i L B)(u:V):Kt W (W.setCell ⟨E.pb,1,Q⟩ u)/\A2 E.base W (W.setCell ⟨E.pb,1,Q⟩ u):=by
 obtain⟨d,a,b,c⟩:=h.row;exact⟨Kt.set a (.inr rfl) 1 u,(ai _ W).setCell h.lo _⟩
theorem Sp.cells(h:Sp E W i L B):W.cell? ⟨E.pb,0,Q⟩=M (A8 (M ⟨E.tb,0,Q⟩) E.n E.cap)/\W.cell? ⟨E.pb,1,Q⟩=M (Ax Z i)/\∀j,W.frozen? ⟨E.pb,j,Q⟩=A3:=by
 obtain⟨d,a,b,c⟩:=h.row;exact⟨by rw[ay _ _ _ _ _ _ a];rfl,by rw[ay _ _ _ _ _ _ a];rfl,fun j=>dI _ _ _ _ _ a⟩
theorem Sp.tok(h:Sp E W i L B){q:Nat}(d:q<E.n):∃l,((E.tk q).k≠6->l=(E.tk q).l)/\W.cell? ⟨E.tb,q*6,Q⟩=M (Ax Z (E.tk q).k)/\W.cell? ⟨E.tb,q*6+1,Q⟩=M (Ax Z (E.tk q).f)/\W.cell? ⟨E.tb,q*6+2,Q⟩=M (Ax Z (E.tk q).t)/\W.cell? ⟨E.tb,q*6+3,Q⟩=M (Ax Z l)/\W.cell? ⟨E.tb,q*6+4,Q⟩=M (Ax Z (E.tk q).n)/\W.cell? ⟨E.tb,q*6+5,Q⟩=M (A9 (E.tk q).x):=by
 obtain⟨e,g,b,c⟩:=h.tks;obtain⟨l,a⟩:=c q d;exact⟨l,a.hl,by rw[ay _ _ _ _ _ _ b];exact a.c0,by rw[ay _ _ _ _ _ _ b];exact a.c1,by rw[ay _ _ _ _ _ _ b];exact a.c2,by rw[ay _ _ _ _ _ _ b];exact a.c3,by rw[ay _ _ _ _ _ _ b];exact a.c4,by rw[ay _ _ _ _ _ _ b];exact a.c5⟩
theorem Sp.kset{b:Nat}{cs:Array V}(h:Sp E W i L ((b,cs)::B))(q:Nat)(u:V):Kt W (W.setCell ⟨b,q,Q⟩ u):=Kt.set (h.box (bz ..)) (.inl rfl) q u
end
def Fr(s:Nat)(v:V):Prop:=∀a,v.ownBlock=M a->s<=a
def Ac(s:Nat)(L c:List Mb)(R:Fo):Prop:=∃a,c=L++a/\a.map Mb.N=R.flat L.length/\∀b∈a,Fr s b.vn/\Fr s b.vk
theorem Ac.nil(s:Nat)(L:List Mb):Ac s L L .nil:=⟨[],(fj L).symm,rfl,fun b a=>by cases a⟩
theorem Ac.len{s:Nat}{L b:List Mb}{R:Fo}(h:Ac s L b R):b.length=L.length+R.sz:=by
 obtain⟨c,rfl,a,_⟩:=h;have a:=congrArg List.length a;rw[dL,Fo.flat_len]at a;rw[aF,a]
theorem Ac.le{s t:Nat}{L c:List Mb}{R:Fo}(h:Ac s L c R)(e:t<=s):Ac t L c R:=by
 obtain⟨j,k,l,d⟩:=h;exact⟨j,k,l,fun g f=>⟨fun a b=>dh e ((d g f).1 a b),fun a b=>dh e ((d g f).2 a b)⟩⟩
theorem Ac.app{s:Nat}{L a b:List Mb}{x y:Fo}(h:Ac s L a x)(k:Ac s a b y):Ac s L b (x.app y):=by
 have m:=h.len;obtain⟨d,rfl,f,j⟩:=h;obtain⟨e,rfl,g,l⟩:=k;refine⟨d++e,by rw[dC],by rw[fK,f,g,Fo.flat_app,m],fun c hz=>?_⟩;rcases List.mem_append.1 hz with hz|hz
 ·exact j c hz
 ·exact l c hz
theorem Ac.add{s:Nat}{L a:List Mb}{R:Fo}(h:Ac s L a R)(N:Nd){vn vk:V}(f:Fr s vn)(e:Fr s vk):Ac s L (a++[⟨{N with ks:=R.tops L.length},vn,vk⟩]) (one N R):=by
 obtain⟨b,rfl,c,d⟩:=h;refine⟨b++[⟨{N with ks:=R.tops L.length},vn,vk⟩],by rw[dC],by rw[fK,c];rfl,fun g hz=>?_⟩;rcases List.mem_append.1 hz with hz|hz
 ·exact d g hz
 ·obtain rfl:=List.mem_singleton.1 hz;exact⟨f,e⟩
theorem Fr.nil(s n c:Nat):Fr s (A8 Q n c):=fun b a=>by simp[A4]at a
theorem Fr.new{s b n c:Nat}(h:s<=b):Fr s (A8 (M ⟨b,0,Q⟩) n c):=fun a d=>by
 obtain rfl:b=a:=by simpa [A4] using d
 exact h
theorem Fr.le{s t:Nat}{v:V}(h:Fr s v)(c:t<=s):Fr t v:=fun a b=>dh c (h a b)
def Sv(v:V)(L:List Mb):Prop:=∀b∈L,∀a,v.ownBlock=M a->b.vk.ownBlock≠M a
theorem Sv.next{v:V}{s:Nat}{L b:List Mb}{R:Fo}(h:Sv v L)(a:Ac s L b R)(j:∀g,v.ownBlock=M g->g<s):Sv v b:=by
 obtain⟨k,rfl,_,f⟩:=a;intro d hx g c;rcases List.mem_append.1 hx with hx|hx
 ·exact h d hx g c
 ·intro e;have:=(f d hx).2 g e;have:=j g c;omega
structure Ld (E:Pe) (W w':O) (L L':List Mb) (B:List (Nat×Array V)) (R:Fo) (j:Nat):Prop where
 ac:Ac W.heap.size L L' R
 sp:Sp E w' j L' B
 kt:Kt W w'
 bl:A2 E.base W w'
abbrev pV(E:Pe):V:= A0 (M ⟨E.pb,0,Q⟩)
def CI(E:Pe)(f:FuncId)(args:Array V)(i:Nat)(R:Fo)(j:Nat):Prop:=
 ∀(W:O)(L:List Mb)(B:List (Nat×Array V)),Sp E W i L B->L.length+R.sz<=50000000->A5 U f args W fun c d=>∃a b,c= Y (Ax Z a)/\R.tops L.length=[a]/\Ld E W d L b B R j
def CL(E:Pe)(f:FuncId)(args:Array V)(i:Nat)(R:Fo)(j:Nat):Prop:=
 ∀(W:O)(L:List Mb)(B:List (Nat×Array V)),Sp E W i L B->L.length+R.sz<=50000000->A5 U f args W fun d c=>∃a b,d= Y a/\(Fr W.heap.size a/\Sv a b)/\c.ownsRow E.base 3 1 a R.len ((R.tops L.length).map (B1 Z))/\Ld E W c L b B R j
abbrev BuF(B b:Nat)(a:List V)(w:O):Prop:=Lib.IsBuilderF 182 5 B b a w
abbrev BuA(B b:Nat)(a:List V)(w:O):Prop:=Lib.BuilderAtF 182 5 B b (A0 (M ⟨b,0,Q⟩)) a w
theorem ry(b:Nat)(w:O)(h:w.cell? ⟨b,0,Q⟩=M (.pointer Q))(d:w.shape? b=M (182,2))(j:w.frozen? ⟨b,0,Q⟩=A3):
  A5 U 159 #[.pointer (M ⟨b,0,Q⟩)] w fun e g=>e= .returned (.tuple #[])/\g=w.setCell ⟨b,0,Q⟩ (.pointer (M ⟨b,0,Q⟩)):=by
 obtain⟨k,c,f⟩:=Option.map_eq_some_iff.1 (show(Tryz.prog.info? 182).map (·.size)=M 2 by kernel_rfl);have l:=Lib.run_to_unsafe (P:=U) (w:=w) ⟨b,0,Q⟩ Tryz.underlying180 Tryz.underlying209 c (by rw[f];decide) d (Nat.zero_lt_succ 1);have m:=Lib.run_from_unsafe (P:=U) (w:=w) ⟨b,0,Q⟩ Tryz.underlying209 Tryz.underlying180 c d (by kernel_rfl);have n:∀a,(callFunc 174 #[a]).run U w= .ok (.value a) w:=fun a=>by
  rw[run_callFunc_extern Tryz.func174 (by kernel_rfl) (by kernel_rfl) (by kernel_rfl) (e:=Extern.AbiNoEscape.same) (by kernel_rfl),Lib.run_noEscape];rfl
 go_in;go_wp2;go_end0
 exact⟨rfl,rfl⟩
theorem Ar(b:Nat)(w:O)(d:w.cell? ⟨b,0,Q⟩=M (.pointer (M ⟨b,0,Q⟩)))(g:w.shape? b=M (182,2)):
  A5 U 159 #[.pointer (M ⟨b,0,Q⟩)] w fun e c=>e= .returned (.tuple #[])/\c=w:=by
 obtain⟨h,a,f⟩:=Option.map_eq_some_iff.1 (show(Tryz.prog.info? 182).map (·.size)=M 2 by kernel_rfl);have j:=Lib.run_neq_ptr_same (P:=U) w ⟨b,0,Q⟩ Tryz.underlying180 a;go_in;go_wp2;go_end0
 exact⟨rfl,rfl⟩
theorem Cl(B b:Nat)(c:List V)(w:O)(h:BuF B b c w):
  A5 U 159 #[A0 (M ⟨b,0,Q⟩)] w fun e a=>e= Y (B2 #[])/\BuA B b c a/\A2 B w a:=by
 rcases h with h|h
 ·refine(ry b w h.cell0 h.shape h.frozen0).mono ?_;rintro e a ⟨rfl,rfl⟩;exact⟨rfl,h.used _,(ai B w).setCell (p:=⟨b,0,Q⟩) h.1 _⟩
 ·refine(Ar b w h.cell0 h.shape).mono ?_;rintro e a ⟨rfl,rfl⟩;exact⟨rfl,h,ai B _⟩
theorem yr(B b:Nat)(a:List V)(s:ByteArray)(w:O)(h:BuF B b a w)(a1:a.length+s.size<=140737488355328)(a0:B<=w.heap.size):
  A5 U 138 #[.pointer (M ⟨b,0,Q⟩),.string s] w fun e u=>e= .returned (.tuple #[.int .i64 s.size,.nilIface])/\BuA B b (a++Lib.strCells s) u/\A2 B w u:=by
 obtain⟨H,x,C,F,G⟩:=fl (show(Tryz.prog.info? 5).map (fun i=>(i.zero,i.size,i.bytes))=M (M (.int .u8 0),1,1) by kernel_rfl);go_in;go_wp2_with (go_at_call 159;refine(Cl B b a _ h).mono ?_);rintro e w1 ⟨rfl,v,n⟩;obtain⟨m,k,d,q,A⟩:=v;have K:w1.cell? ⟨b,0,Q⟩=M (.pointer (M ⟨b,0,Q⟩)):=by rw[Lib.cell_of_heap d];rfl
 have af:w1.cell? ⟨b,1,Q⟩=M k:=by rw[Lib.cell_of_heap d];rfl
 have a2:=n.size;go_wp2_with (at_builtin;refine Lib.wpList_append_own_stringF _ rfl _ _ 22 9 rfl B 5 H Tryz.underlying22 Tryz.underlying9 x C F G _ _ _ rfl q s rfl (by unfold C5;omega) (by omega) (by omega) ?_);intro J f r o _;have z:b<w1.heap.size:=au d;have c:f.heap[b]?=M (.cells #[.pointer (M ⟨b,0,Q⟩),k] 182 (0,0)):=by
  rw[o.block b z (fun e=>A e.symm)];exact d
 have al:f.cell? ⟨b,0,Q⟩=M (.pointer (M ⟨b,0,Q⟩)):=by rw[Lib.cell_of_heap c];rfl
 have am:f.cell? ⟨b,1,Q⟩=M k:=by rw[Lib.cell_of_heap c];rfl
 have an:f.frozen? ⟨b,1,Q⟩=A3:=Lib.frozen_of_heap c 1;obtain⟨l,t,g,rfl⟩:∃l t g,J= .slice l t g:=by
  rcases r.2 with⟨j,_⟩|⟨av,g,ak,ap,j,_⟩
  ·exact⟨_,_,_,j⟩
  ·exact⟨_,_,_,j⟩
 go_wp2;go_ret2;refine⟨rfl,?_,?_⟩
 ·exact Lib.BuilderAtF.put (T:=182) (e:=5) m c (bs':=a++Lib.strCells s) (by simpa [Lib.strCells_length] using r) (by decide)
 ·exact(n.grown o (by omega) (fun I y=>(q.lt I y).1)).setCell (p:=⟨b,1,Q⟩) m _
end Go.Proofs.YtoahhnnflblfaaaGreatDoor
namespace Go.Proofs
open Go.Shelf
def Tryz.lays170_ren:B4:=⟨fun|170=>139|n=>n,fun|70=>180|3=>3|0=>0|72=>182|37=>22|5=>5|n=>n,fun|n=>n⟩
theorem Tryz.lays170:Go.Proofs.Lays.n170 U Tryz.lays170_ren:={
 mixed:=by kernel_rfl
 f170:=Tryz.func139.trans (congrArg M (by kernel_rfl))
 t0:=Tryz.underlying0
 a0:=Tryz.isAgg0
 z0:=Tryz.sizeOf0
 v0:=Tryz.zeroValue0
 t3:=Tryz.underlying3
 a3:=C0
 z3:=Ck
 v3:=Tryz.zeroValue3
 t37:=Tryz.underlying22
 a37:=Tryz.isAgg22
 z37:=Tryz.sizeOf22
 v37:=Tryz.zeroValue22
 t70:=Tryz.underlying180
 a70:=Tryz.isAgg180
 z70:=Tryz.sizeOf180
 v70:=Tryz.zeroValue180
 t72:=Tryz.underlying182
 a72:=Tryz.isAgg182
 z72:=Tryz.sizeOf182
 v72:=Tryz.zeroValue182}
def Tryz.lays169_ren:B4:=⟨fun|169=>140|n=>n,fun|70=>180|9=>9|0=>0|72=>182|37=>22|127=>201|3=>3|5=>5|n=>n,fun|n=>n⟩
theorem Tryz.lays169:Go.Proofs.Lays.n169 U Tryz.lays169_ren:={
 mixed:=by kernel_rfl
 f169:=Tryz.func140.trans (congrArg M (by kernel_rfl))
 t0:=Tryz.underlying0
 a0:=Tryz.isAgg0
 z0:=Tryz.sizeOf0
 v0:=Tryz.zeroValue0
 t3:=Tryz.underlying3
 a3:=C0
 z3:=Ck
 v3:=Tryz.zeroValue3
 t9:=Tryz.underlying9
 a9:=Tryz.isAgg9
 z9:=Tryz.sizeOf9
 v9:=Tryz.zeroValue9
 t37:=Tryz.underlying22
 a37:=Tryz.isAgg22
 z37:=Tryz.sizeOf22
 v37:=Tryz.zeroValue22
 t70:=Tryz.underlying180
 a70:=Tryz.isAgg180
 z70:=Tryz.sizeOf180
 v70:=Tryz.zeroValue180
 t72:=Tryz.underlying182
 a72:=Tryz.isAgg182
 z72:=Tryz.sizeOf182
 v72:=Tryz.zeroValue182
 t127:=Tryz.underlying201
 a127:=Tryz.isAgg201
 z127:=Tryz.sizeOf201
 v127:=Tryz.zeroValue201}
theorem Tryz.Builder_Extra_169:Builder.Extra U Tryz.lays169_ren:={
 sizeBuilder:=by kernel_rfl
 liesBuilder:=by kernel_rfl
 t5:=Tryz.underlying5
 a5:=Tryz.isAgg5
 z5:=Tryz.sizeOf5
 v5:=Tryz.zeroValue5
 infoByte:=by kernel_rfl
 cellsByte:=by kernel_rfl
 sizeByte:=by kernel_rfl
 neB5:=by decide}
def Tryz.lays241_ren:B4:=⟨fun|241=>160|277=>175|n=>n,fun|70=>180|3=>3|0=>0|72=>182|37=>22|5=>5|n=>n,fun|n=>n⟩
theorem Tryz.lays241:Go.Proofs.Lays.n241 U Tryz.lays241_ren:={
 mixed:=by kernel_rfl
 f241:=Tryz.func160.trans (congrArg M (by kernel_rfl))
 f277:=Tryz.func175.trans (congrArg M (by kernel_rfl))
 t0:=Tryz.underlying0
 a0:=Tryz.isAgg0
 z0:=Tryz.sizeOf0
 v0:=Tryz.zeroValue0
 t3:=Tryz.underlying3
 a3:=C0
 z3:=Ck
 v3:=Tryz.zeroValue3
 t37:=Tryz.underlying22
 a37:=Tryz.isAgg22
 z37:=Tryz.sizeOf22
 v37:=Tryz.zeroValue22
 t70:=Tryz.underlying180
 a70:=Tryz.isAgg180
 z70:=Tryz.sizeOf180
 v70:=Tryz.zeroValue180
 t72:=Tryz.underlying182
 a72:=Tryz.isAgg182
 z72:=Tryz.sizeOf182
 v72:=Tryz.zeroValue182}
theorem Tryz.Builder_Extra_241:Builder.Extra U Tryz.lays241_ren:={
 sizeBuilder:=by kernel_rfl
 liesBuilder:=by kernel_rfl
 t5:=Tryz.underlying5
 a5:=Tryz.isAgg5
 z5:=Tryz.sizeOf5
 v5:=Tryz.zeroValue5
 infoByte:=by kernel_rfl
 cellsByte:=by kernel_rfl
 sizeByte:=by kernel_rfl
 neB5:=by decide}
open Go.RowKit in
theorem Tryz.Builder_grow_fresh(B b n:Nat)(w:O)(c:B<=b)(f:w.heap[b]?=M (A7 #[A0 (M ⟨b,0,Q⟩),A8 Q 0 0] 182 (0,0)))(d:B<=w.heap.size)(g:n<=281474976710656):
  A5 U 160 #[A0 (M ⟨b,0,Q⟩),Ax Z n] w fun e a=>e= Y (B2 #[])/\(Lib.BuilderAt 182 5 B b (A0 (M ⟨b,0,Q⟩)) [] a/\A2 B w a):=Any.Builder_grow_fresh Tryz.lays241 Tryz.Builder_Extra_241 B b n w c f d g
open Go.RowKit in
theorem Tryz.Builder_Len_f(B b:Nat)(a:List V)(w:O)(h:Lib.IsBuilderF 182 5 B b a w):
  A5 U 139 #[A0 (M ⟨b,0,Q⟩)] w fun e c=>e= Y (Ax Z a.length)/\c=w:=Any.Builder_Len_f Tryz.lays170 B b a w h
open Go.RowKit in
theorem Tryz.Builder_String_any_k(B b:Nat)(l:List UInt8)(w:O)(h:Lib.IsBuilderF 182 5 B b (Lib.byteCells l) w)(c:B<=w.heap.size):
  A5 U 140 #[A0 (M ⟨b,0,Q⟩)] w fun e a=>e= Y (A9 ⟨l.toArray⟩)/\(Lib.IsBuilderF 182 5 B b (Lib.byteCells l) a/\A2 B w a/\Lib.OthersKept 5 (M b) w a):=Any.Builder_String_any_k Tryz.lays169 Tryz.Builder_Extra_169 B b l w h c
end Go.Proofs
namespace Go.Proofs.YtoahhnnflblfaaaGreatDoor
open Go.RowKit Go.Maps Go.WideMaps
theorem adC(B b n:Nat)(w:O)(h:B<=b)(d:w.heap[b]?=M (A7 #[A0 Q,A8 Q 0 0] 182 (0,0)))(t:B<=w.heap.size)(o:n<=281474976710656)(s:0<n):
  A5 U 137 #[A0 (M ⟨b,0,Q⟩),Ax Z n] w fun e f=>e= Y (B2 #[])/\BuA B b [] f/\A2 B w f:=by
 have g:(w.setCell ⟨b,0,Q⟩ (A0 (M ⟨b,0,Q⟩))).heap[b]?=M (A7 #[A0 (M ⟨b,0,Q⟩),A8 Q 0 0] 182 (0,0)):=cE _ b 0 _ _ _ d;have a:A2 B w (w.setCell ⟨b,0,Q⟩ (A0 (M ⟨b,0,Q⟩))):=(ai B w).setCell (p:=⟨b,0,Q⟩) h _;have j:=ry b w (by rw[Lib.cell_of_heap d];rfl) (by simp[World.shape?,d]) (Lib.frozen_of_heap d 0);have u:¬(n:Int)<0:=by omega
 have v:(0:Int)<(n:Int):=by omega
 go_in;go_wp2_with (go_at_call 159;refine j.mono ?_;rintro e w1 ⟨rfl,rfl⟩);generalize w.setCell ⟨b,0,Q⟩ (A0 (M ⟨b,0,Q⟩))=c at g a⊢;have k:c.cell? ⟨b,1,Q⟩=M (A8 Q 0 0):=by rw[Lib.cell_of_heap g];rfl
 have x:=a.size;clear j;go_region_held3 (fun f=>f.cell? ⟨b,1,Q⟩=M (A8 Q 0 0)) (first|go_keep|exact k) (fail)
 have r:=Tryz.Builder_grow_fresh B b n c.drew h g (by simpa using(show B<=c.heap.size by omega)) o;go_wp2_with (go_at_call 160;refine r.mono ?_;rintro e y ⟨rfl,l,m⟩);all_goals first
  |(rename_i q;rw[cw]at q;omega)
  |skip
 go_end0
 exact⟨rfl,Lib.BuilderAtF.of l,(⟨a.os,a.tape,a.output,a.size,a.block⟩:A2 B w c.drew).trans m⟩
def Bu(B b:Nat)(T:ByteArray)(w:O):Prop:=BuF B b (Lib.strCells T) w
theorem Cm(a b:ByteArray):Lib.strCells (a++b)=Lib.strCells a++Lib.strCells b:=by
 unfold Lib.strCells;rw[js,D3,fK]
theorem Df(B b:Nat)(T s:ByteArray)(w:O)(h:Bu B b T w)(g:T.size+s.size<=140737488355328)(f:B<=w.heap.size):
  A5 U 138 #[A0 (M ⟨b,0,Q⟩),A9 s] w fun e a=>e= Y (B2 #[Ax Z s.size,.nilIface])/\Bu B b (T++s) a/\A2 B w a:=by
 refine(yr B b _ s w h (by rw[Lib.strCells_length];exact g) f).mono ?_;rintro e a ⟨rfl,c,d⟩;exact⟨rfl,.inr (by rw[Cm];exact c),d⟩
theorem IL(B b:Nat)(T:ByteArray)(w:O)(h:Bu B b T w)(f:B<=w.heap.size):
  A5 U 140 #[A0 (M ⟨b,0,Q⟩)] w fun e a=>e= Y (A9 T)/\Bu B b T a/\A2 B w a:=by
 refine(Tryz.Builder_String_any_k B b T.data.toList w h f).mono ?_;rintro e a ⟨rfl,c,d,_⟩;exact⟨rfl,c,d⟩
end Go.Proofs.YtoahhnnflblfaaaGreatDoor
namespace Go.Proofs
open Go.Shelf
def Tryz.lays212_ren:B4:=⟨fun|212=>135|263=>156|264=>157|n=>n,fun|46=>171|51=>196|146=>197|53=>39|148=>199|n=>n,fun|n=>n⟩
theorem Tryz.lays212:Go.Proofs.Lays.n212 U Tryz.lays212_ren:={
 mixed:=by kernel_rfl
 f212:=Tryz.func135.trans (congrArg M (by kernel_rfl))
 f263:=Tryz.func156.trans (congrArg M (by kernel_rfl))
 f264:=Tryz.func157.trans (congrArg M (by kernel_rfl))
 t46:=Tryz.underlying171
 a46:=Tryz.isAgg171
 z46:=Tryz.sizeOf171
 v46:=Tryz.zeroValue171
 t51:=Tryz.underlying196
 a51:=Tryz.isAgg196
 z51:=Tryz.sizeOf196
 v51:=Tryz.zeroValue196
 t53:=Tryz.underlying39
 a53:=Tryz.isAgg39
 z53:=Tryz.sizeOf39
 v53:=Tryz.zeroValue39
 t146:=Tryz.underlying197
 a146:=Tryz.isAgg197
 z146:=Tryz.sizeOf197
 v146:=Tryz.zeroValue197
 t148:=Tryz.underlying199
 a148:=Tryz.isAgg199
 z148:=Tryz.sizeOf199
 v148:=Tryz.zeroValue199}
open Go.RowKit Go.Lib in
theorem Tryz.bits_Mul(x y:Nat)(a:x<18446744073709551616)(b:y<18446744073709551616)(w:O):
  A5 U 135 #[Ax .u64 x,Ax .u64 y] w fun e c=>e= Y (B2 #[Ax .u64 ((x*y / 18446744073709551616:Nat):Int),Ax .u64 ((x*y%18446744073709551616:Nat):Int)])/\c=w:=Any.bits_Mul Tryz.lays212 x y a b w
end Go.Proofs
namespace Go.Proofs.YtoahhnnflblfaaaGreatDoor
open Go.RowKit Go.Maps Go.WideMaps
def ams:ByteArray:=⟨#[116,97,114,103,101,116,32]⟩
def so(q:Nat):ByteArray:=⟨(B0 [116,97,114,103,101,116,32] q).toArray⟩
theorem tj(q:Nat):(so q).size=7*q:=by
 have a:(so q).size=(B0 [116,97,114,103,101,116,32] q).length:=by simp[so,ByteArray.size]
 rw[a,Lib.repeatL_length];simp;omega
theorem Gy(a b:Nat):so (a+b)=so a++so b:=by
 apply jh;rw[js];show(B0 _ (a+b)).toArray=(B0 _ a).toArray++(B0 _ b).toArray;rw[Lib.repeatL_add];simp
theorem abo(q d:Nat)(h:d<=q):(so q).extract 0 (7*d)=so d:=by
 obtain⟨b,rfl⟩:=Nat.exists_eq_add_of_le h;rw[Gy];apply jh;rw[ByteArray.data_extract,js];have a:(so d).data.size=7*d:=tj d;rw[<-a];apply Array.ext';simp;apply cI;rw[eB];exact ag _
theorem anz(b:Array B6)(t:B6)(x y a c:Int)(W:O)(h:(if a<(if y<x then y else x) then a else(if y<x then y else x))=c):
  (Builtin.min_ b t #[Ax Z x,Ax Z y,Ax Z a]).run U W= .ok (Ax Z c) W:=by
 rw[<-h];simp[Builtin.min_,Builtin.min2]
theorem Gz(m:Nat)(w:O)(bo:m+2<=200):
  A5 U 107 #[A9 ⟨#[116,97,114,103,101,116,32]⟩,Ax Z ((m+2:Nat):Int)] w fun e G=>e= Y (A9 (so (m+2)))/\A2 w.heap.size w G:=by
 have o:=Tryz.bits_Mul 7 (m+2) (by omega) (by omega) w;rw[Nat.div_eq_of_lt (by omega:7*(m+2)<18446744073709551616),Nat.mod_eq_of_lt (by omega:7*(m+2)<18446744073709551616)]at o;obtain⟨d,y⟩:=aA (7*(m+2));rw[y]at o;have k:=aj y;have bx:¬(9223372036854775807:Int)<(d:Int):=by omega
 have bA:¬(8192:Int)<(d:Int):=by omega
 have bD:((d:Int)==0)=A3:=by rw[aL];omega
 have bE:(d:Int)<=1400:=by omega
 have b0:14<=d:=by omega
 have bs:((m:Int)+2==0)=A3:=by rw[aL];omega
 have bt:((m:Int)+2==1)=A3:=by rw[aL];omega
 have bw:¬(m:Int)+2<0:=by omega
 clear y;go_in;go_wp2_with (go_at_call 135;refine o.mono ?_;rintro e G ⟨rfl,rfl⟩);obtain⟨a,rfl⟩:∃a,a=G:=⟨_,rfl⟩;have av:=adC a.heap.size a.heap.size d (a.alloc (A7 #[A0 Q,A8 Q 0 0] 182)) (ag _) (ar a _) (by simp) (by omega) (by omega);refine av.mono ?_;rintro e H ⟨rfl,al,am⟩;have ap:A2 a.heap.size a (a.alloc (A7 #[A0 Q,A8 Q 0 0] 182)):=(ai _ a).alloc (ag _) _;have t:A2 a.heap.size a H:=ap.trans am;have J:Bu a.heap.size a.heap.size ⟨#[]⟩ H:= .inr al;have A:=Df a.heap.size a.heap.size ⟨#[]⟩ ams H J (by decide) t.size;rw[show(⟨#[]⟩:ByteArray)++ams=so 1 from rfl]at A;have a6:=aj t;clear av al am ap J t o;go_wp2_with fail;refine A.mono ?_;rintro e a0 ⟨rfl,K,an⟩;have a4:Cr (Bu a.heap.size a.heap.size (so 1) a0/\A2 a.heap.size a a0):=⟨K,a6.out.trans an⟩;clear A K an;go_wp2_with fail;go_loopg [] (m+1) (fun ak a3=>∃b:Nat,1<=b/\b+ak=m+2/\Cr (Bu a.heap.size a.heap.size (so b) a3/\A2 a.heap.size a a3))
 case atStart=>exact⟨1,ag _,by omega,a4⟩
 case round=>
  obtain⟨b,bp,bq,h⟩:=hrel;have n:=Tryz.Builder_Len_f a.heap.size a.heap.size _ wr h.out.1;rw[Lib.strCells_length,tj]at n;have v:=IL a.heap.size a.heap.size _ wr h.out.1 h.out.2.size;obtain⟨g,p⟩:=aA (7*b);have j:=aj p;rw[p]at n;obtain⟨l,hS⟩:=aA (so b);have r:=aj hS;have a8:l.size=g:=by rw[<-hS,tj,p]
  rw[hS]at v;clear p hS;cases gk with
  |zero=>
   obtain rfl:b=m+2:=by omega
   have a7:¬((g:Int)<(d:Int)):=by have:=k.out;have:=j.out;omega
   go_wp2_with (first|(go_at_call 139;refine n.mono ?_;rintro e bb ⟨rfl,z⟩;rw[z])|(go_at_call 140;refine v.mono ?_;rintro e a1 ⟨rfl,s,q⟩));go_ret;exact⟨by rw[r.out];rfl,h.out.2.trans q⟩
  |succ ak=>
   obtain⟨c,a9⟩:=aA (min (m+2-b) b);have bk:1<=c:=by omega
   have ba:c<=b:=by omega
   have bl:b+c<=m+2:=by omega
   obtain⟨f,x⟩:=aA (7*c);have a7:(g:Int)<(d:Int):=by have:=k.out;have:=j.out;omega
   have bf:f<=g:=by have:=j.out;omega
   have br:g+f<=d:=by have:=k.out;have:=j.out;omega
   have bn:∀(F:Array B6)(C:B6)(W:O),(Builtin.min_ F C #[Ax Z ((d:Int)-(g:Int)),Ax Z (g:Int),Ax Z (d:Int)]).run U W= .ok (Ax Z (f:Int)) W:=fun F C W=>anz F C _ _ _ _ W (by
    have:=k.out;have:=j.out;split<;>split<;>omega)
   have I:Cr (7*c=f/\l.extract 0 f=so c):=⟨x,by rw[<-x,<-r.out];exact abo b c ba⟩;have bd:(0:Int)<=(f:Int):=by omega
   have bj:(f:Int)<=(l.size:Int):=by omega
   clear a9 x;go_wp2_with (first|(go_at_call 139;refine n.mono ?_;rintro e bb ⟨rfl,z⟩;rw[z])|(go_at_call 140;refine v.mono ?_;rintro e a1 ⟨rfl,s,q⟩));rw[I.out.2];have u:=h.out.2.trans q;refine(Df a.heap.size a.heap.size l (so c) a1 s (by rw[a8,tj,I.out.1];omega) u.size).mono ?_;rintro e a2 ⟨rfl,af,ao⟩;have a5:Cr (Bu a.heap.size a.heap.size (so (b+c)) a2/\A2 a.heap.size a a2):=⟨by rw[Gy,r.out];exact af,u.trans ao⟩;clear s q af ao u;go_wp2_with fail;go_roundg (m+2-(b+c))
   case measure=>omega
   case rel=>exact⟨b+c,by omega,by omega,a5⟩
theorem I2(n:Nat)(w:O)(a:n<=200):
  A5 U 107 #[A9 ⟨#[116,97,114,103,101,116,32]⟩,Ax Z (n:Int)] w fun e b=>e= Y (A9 ⟨(B0 [116,97,114,103,101,116,32] n).toArray⟩)/\A2 w.heap.size w b:=by
 match n,a with
 |0,_=>
  go_in;go_wp2_with fail;go_ret;exact⟨rfl,ai _ _⟩
 |1,_=>
  go_in;go_wp2_with fail;go_ret;exact⟨rfl,ai _ _⟩
 |m+2,a=>exact Gz m w a
