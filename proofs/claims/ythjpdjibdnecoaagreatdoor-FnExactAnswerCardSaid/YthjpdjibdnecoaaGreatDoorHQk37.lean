import Derived.Test.YthjpdjibdnecoaaGreatDoorHQk16
import Derived.Test.YthjpdjibdnecoaaGreatDoorHQk17
import Derived.Test.YthjpdjibdnecoaaGreatDoorHQk33
import Derived.Test.YthjpdjibdnecoaaGreatDoorHQk18
import Derived.Test.YthjpdjibdnecoaaGreatDoorHQk34
import Derived.Test.YthjpdjibdnecoaaGreatDoorHQk19
import Derived.Test.YthjpdjibdnecoaaGreatDoorHQk20
import Derived.Test.YthjpdjibdnecoaaGreatDoorHQk21
import Derived.Test.YthjpdjibdnecoaaGreatDoorHQk36
import Derived.Test.YthjpdjibdnecoaaGreatDoorHQk22
import Derived.Test.YthjpdjibdnecoaaGreatDoorHQk23
import Derived.Test.YthjpdjibdnecoaaGreatDoorHQk14
set_option linter.all false
set_option maxRecDepth 100000
set_option maxHeartbeats 12800000
open Bool renaming false->M,true->Z
open Go.Value renaming int->O,slice->S,string->T,string->A7
open Go.IntKind renaming i64->Q
open Go.RowKit renaming Below->U,intOf->A1,Hid->A5
open Go.Lib renaming decDigits->V
open Go.Obj renaming cells->X
open Go.Proofs.Tryz renaming prog->Y
open Option renaming some->Ax,none->A6
open Go.Ending renaming returned->A0
open Go renaming World->A2,Calls->A3,Value->A4
namespace Go.Proofs.YthjpdjibdnecoaaGreatDoor
open Go.RowKit Go.Maps Go.WideMaps
def stB(ns:List Nd)(N:Nd):Bool:=
 if N.k=1 then(sbB ns N N.ks.length 0&&aI N M M M M)
 else if N.k=2 then(aI N M M M Z&&fh N 1 200&&jk ns N N.ks.length 0)
 else if N.k=3 then(aI N M M M Z&&fh N 1 1&&((N.ks.length:Int)==1)&&jk ns N 1 0)
 else if N.k=4 then(aI N M M M Z&&fh N 1 1&&((N.ks.length:Int)==1)&&(dH ns N 0==36))
 else if N.k=5 then(aI N M Z M M&&(decide (1<=N.n/\N.n<(N.ks.length:Int))&&(tgB ns N N.n.toNat 0&&jk ns N (N.ks.length-N.n.toNat) N.n.toNat)))
 else if N.k=6 then(aI N M M M M&&((N.ks.length:Int)==1)&&(dH ns N 0==34))
 else if N.k=7 then(aI N M M M M&&(decide (2<=N.ks.length/\N.ks.length<=3)&&(jk ns N 1 0&&(!(dH ns N 1 !=1)&&((N.ks.length:Int)==2||(dH ns N 2==1||dH ns N 2==7))))))
 else if N.k=8 then(aI N M M M M&&((N.ks.length:Int)==2)&&jk ns N 1 0&&(dH ns N 1==1))
 else if N.k=9 then(aI N M M M Z&&(fh N 1 1&&(((N.ks.length:Int)==3||(N.ks.length:Int)==4)&&(jk ns N (N.ks.length-1) 0&&(dH ns N (N.ks.length-1)==1)))))
 else if N.k=10 then(aI N M M M Z&&fh N 1 200&&((N.ks.length:Int)==2)&&jk ns N 1 0&&(dH ns N 1==1))
 else if N.k=11 then(aI N M M M M&&((N.ks.length:Int)==0))
 else if N.k=12 then(aI N M M M M&&((N.ks.length:Int)==0))
 else if N.k=13 then(aI N M M M M&&jk ns N N.ks.length 0)
 else if N.k=14 then(aI N M M M Z&&fh N 1 2&&((N.ks.length:Int)==2)&&(dH ns N 0==1)&&(dH ns N 1==1))
 else if N.k=15 then(aI N M M M M&&((N.ks.length:Int)==1)&&jk ns N 1 0)
 else if N.k=16 then(aI N M M M M&&((N.ks.length:Int)==1)&&(dH ns N 0==34))
 else M
def xK(ns:List Nd)(N:Nd):Bool:=
 if N.k=20 then(((N.ks.length:Int)==0)&&aI N M M M M)
 else if N.k=21 then(((N.ks.length:Int)==0)&&aI N M M M M)
 else if N.k=22 then(((N.ks.length:Int)==0)&&aI N M M M M)
 else if N.k=27 then(((N.ks.length:Int)==0)&&aI N M M M M)
 else if N.k=23 then(((N.ks.length:Int)==0)&&aI N M Z M M)
 else if N.k=24 then(((N.ks.length:Int)==0)&&aI N M M Z M&&fok N.x)
 else if N.k=25 then(((N.ks.length:Int)==0)&&aI N M M Z M&&decide ((N.x.size:Int)<=4000))
 else if N.k=26 then(((N.ks.length:Int)==0)&&aI N M M Z M&&oz N.x)
 else if N.k=28 then(((N.ks.length:Int)==2)&&jk ns N 2 0&&aI N M M M M)
 else if N.k=29 then(((N.ks.length:Int)==2)&&jk ns N 2 0&&aI N M M M M)
 else if N.k=32 then(((N.ks.length:Int)==2)&&jk ns N 2 0&&(dH ns N 0 !=27)&&aI N M M M M)
 else if N.k=30 then(((N.ks.length:Int)==1)&&jk ns N 1 0&&aI N Z M M M&&decide ((19:Int)<=N.op)&&decide (N.op<=22))
 else if N.k=31 then(((N.ks.length:Int)==2)&&jk ns N 2 0&&aI N Z M M M&&decide ((1:Int)<=N.op)&&decide (N.op<=18))
 else if N.k=33 then(((N.ks.length:Int)==1)&&jk ns N 1 0&&(dH ns N 0 !=27)&&aI N M M Z M&&oz N.x)
 else if N.k=34 then(decide ((1:Int)<=(N.ks.length:Int))&&jk ns N N.ks.length 0&&(dH ns N 0 !=27)&&aI N M M M M)
 else if N.k=35 then(enB ns N N.ks.length 0&&aI N M M M M)
 else if N.k=36 then(((N.ks.length:Int)==1)&&(dH ns N 0==1)&&aI N Z M M Z&&fh N 0 200&&(N.op==0||N.op==1))
 else if N.k=37 then(((N.ks.length:Int)==1)&&(dH ns N 0==34||dH ns N 0==27)&&aI N M M M M)
 else if N.k=40 then(((N.ks.length:Int)==1)&&jk ns N 1 0&&aI N M M M M)
 else if N.k=41 then(((N.ks.length:Int)==2)&&jk ns N 2 0&&aI N M M M M)
 else if N.k=42 then(((N.ks.length:Int)==1)&&jk ns N 1 0&&aI N M M Z M&&oz N.x)
 else M
theorem Aj{w:A2}{u:A4}{ns:List Nd}{N:Nd}{vn vk:A4}(a:fI w u ns N vn vk)(h:pE N.k=Z):
  A3 Y 66 #[.agg #[u],eC N vn vk] w fun e v=>e= A0 (.bool (stB ns N))/\U w.heap.size w v:=by
 unfold stB;by_cases b:N.k=1
 ·rw[ab b];exact agx a b
 rw[aa b];by_cases m:N.k=2
 ·rw[ab m];exact agB a m
 rw[aa m];by_cases n:N.k=3
 ·rw[ab n];exact agy a n
 rw[aa n];by_cases o:N.k=4
 ·rw[ab o];exact agC a o
 rw[aa o];by_cases p:N.k=5
 ·rw[ab p];exact agA a p
 rw[aa p];by_cases q:N.k=6
 ·rw[ab q];exact agD a q
 rw[aa q];by_cases r:N.k=7
 ·rw[ab r];exact agE a r
 rw[aa r];by_cases s:N.k=8
 ·rw[ab s];exact agz a s
 rw[aa s];by_cases t:N.k=9
 ·rw[ab t];exact agG a t
 rw[aa t];by_cases c:N.k=10
 ·rw[ab c];exact adt a c
 rw[aa c];by_cases d:N.k=11
 ·rw[ab d];exact adq a d
 rw[aa d];by_cases f:N.k=12
 ·rw[ab f];exact adr a f
 rw[aa f];by_cases g:N.k=13
 ·rw[ab g];exact adu a g
 rw[aa g];by_cases i:N.k=14
 ·rw[ab i];exact aew a i
 rw[aa i];by_cases j:N.k=15
 ·rw[ab j];exact aex a j
 rw[aa j];by_cases l:N.k=16
 ·rw[ab l];exact ads a l
 rw[aa l];exact absurd (aC h) (by omega)
theorem yJ{w:A2}{z:A4}{ns:List Nd}{N:Nd}{vn vk:A4}(a:fI w z ns N vn vk):
  A3 Y 67 #[.agg #[z],eC N vn vk] w fun e B=>e= A0 (.bool (xK ns N))/\U w.heap.size w B:=by
 unfold xK;by_cases b:N.k=20
 ·rw[ab b];exact ac7 a b
 rw[aa b];by_cases c:N.k=21
 ·rw[ab c];exact ac8 a c
 rw[aa c];by_cases d:N.k=22
 ·rw[ab d];exact ac9 a d
 rw[aa d];by_cases j:N.k=27
 ·rw[ab j];exact ada a j
 rw[aa j];by_cases f:N.k=23
 ·rw[ab f];exact adb a f
 rw[aa f];by_cases g:N.k=24
 ·rw[ab g];exact adc a g
 rw[aa g];by_cases h:N.k=25
 ·rw[ab h];exact ade a h
 rw[aa h];by_cases i:N.k=26
 ·rw[ab i];exact adf a i
 rw[aa i];by_cases l:N.k=28
 ·rw[ab l];exact adh a l
 rw[aa l];by_cases m:N.k=29
 ·rw[ab m];exact adi a m
 rw[aa m];by_cases p:N.k=32
 ·rw[ab p];exact adj a p
 rw[aa p];by_cases n:N.k=30
 ·rw[ab n];exact adk a n
 rw[aa n];by_cases o:N.k=31
 ·rw[ab o];exact adl a o
 rw[aa o];by_cases q:N.k=33
 ·rw[ab q];exact aer a q
 rw[aa q];by_cases r:N.k=34
 ·rw[ab r];exact aes a r
 rw[aa r];by_cases s:N.k=35
 ·rw[ab s];exact adg a s
 rw[aa s];by_cases t:N.k=36
 ·rw[ab t];exact aet a t
 rw[aa t];by_cases u:N.k=37
 ·rw[ab u];exact aeu a u
 rw[aa u];by_cases v:N.k=40
 ·rw[ab v];exact adm a v
 rw[aa v];by_cases x:N.k=41
 ·rw[ab x];exact adn a x
 rw[aa x];by_cases y:N.k=42
 ·rw[ab y];exact ado a y
 rw[aa y];refine agw a fun C A=>?_;simp only[LK,kG,nh,ny]at A;omega
def Ir(l:List Int)(i:Int):Nat->Nat->Bool
 |0,_=>Z
 |f+1,j=>decide (0<=l.getD j 0/\l.getD j 0<i)&&Ir l i f (j+1)
structure ajt (l:List Int) (i:Int) (f j:Nat) (R:Bool):Prop where
 out:Ir l i f j=R
theorem FE(l:List Int)(i:Int):∀(f j:Nat),Ir l i f j=Z->∀k,j<=k->k<j+f->0<=l.getD k 0/\l.getD k 0<i
 |0,j,_,k,a,b=>by omega
 |f+1,j,h,k,a,b=>by
  rw[Ir,be]at h;rcases mi a with rfl|h3
  ·exact aC h.1
  ·exact FE l i f (j+1) h.2 k h3 (by omega)
theorem aju{ns:List Nd}{N:Nd}{i:Nat}(h:Ir N.ks i N.ks.length 0=Z)(d:i<=ns.length):yq ns N:=by
 refine⟨fun e b=>?_⟩;obtain⟨c,a,rfl⟩:=mL b;have:=FE N.ks i N.ks.length 0 h c (by omega) (by omega);rw[cp,bJ a]at this;simp only[ig]at this;omega
def FG(N:Nd):Bool:=decide (0<=N.f/\N.f<=N.t/\0<=N.l/\N.ks.length<=200)
def Gr(ns:List Nd)(N:Nd):Bool:=if pE N.k=Z then stB ns N else xK ns N
def lu(ns:List Nd)(i:Nat)(N:Nd):Bool:=FG N&&(Ir N.ks i N.ks.length 0&&Gr ns N)
structure iA (N:Nd):Prop where
 l1:N.nm.length<=1048576
 l2:N.ks.length<=1048576
 lx:N.x.size<=1048576
 ls:∀s∈N.nm,s.size<=1048576
theorem FH(w:A2)(al:A4)(ns:List Nd)(i:Nat)(N:Nd)(z:fx w al ns)(bk:ns.length<=1048576)(y:ns[i]?=Ax N)(hS:iA N):
  A3 Y 32 #[.agg #[al],O Q i] w fun e bn=>e= A0 (.bool (lu ns i N))/\U w.heap.size w bn:=by
 obtain⟨br,m,rfl⟩:=z.form;obtain⟨r,rfl,b5,b4,a8⟩:=z.get y;have bd:i<ns.length:=by rcases co i ns.length with h|h;exact h;rw[jL h]at y;cases y
 have bD:(i:Int)<(ns.length:Int):=by omega
 have bA:(0:Int)<=(i:Int):=by omega
 obtain⟨af,ap,ar,av,a0,a4,a5,a6,a7,G,F⟩:=a8;obtain⟨g,o,rfl⟩:=G.form;obtain⟨j,p,rfl⟩:=F.form;have b:U w.heap.size w ((w.alloc (X #[S (Ax r) ns.length m] 26)).alloc (X #[O Q N.k,O Q N.f,O Q N.t,O Q N.l,O Q N.op,O Q N.n,T N.x,S g N.nm.length o,S j N.ks.length p] 53)):=((ag _ w).alloc (ae _) _).alloc (by simp) _;have b2:=Ba af;have u:=aw hS;have v:=iD z G F;have b1:=hS.l2;have bb:((w.alloc (X #[S (Ax r) ns.length m] 26)).alloc (X #[O Q N.k,O Q N.f,O Q N.t,O Q N.l,O Q N.op,O Q N.n,T N.x,S g N.nm.length o,S j N.ks.length p] 53)).cell? ⟨w.heap.size,0,A6⟩=Ax (S (Ax r) ns.length m):=by
  rw[aq _ _ _ _ _ _ ((bm _ _ _ (by simp)).trans (aj w _))];rfl
 have ak:sw (w.heap.size+1) ((w.alloc (X #[S (Ax r) ns.length m] 26)).alloc (X #[O Q N.k,O Q N.f,O Q N.t,O Q N.l,O Q N.op,O Q N.n,T N.x,S g N.nm.length o,S j N.ks.length p] 53)) 53 N (S g N.nm.length o) (S j N.ks.length p):=by
  have:=aj (w.alloc (X #[S (Ax r) ns.length m] 26)) (X #[O Q N.k,O Q N.f,O Q N.t,O Q N.l,O Q N.op,O Q N.n,T N.x,S g N.nm.length o,S j N.ks.length p] 53);rw[aF]at this;exact this
 clear z G F hS y;unfold lu;by_cases bs:N.f<0
 ·rw[show FG N=M from aB (by omega)];go_in;go_wp2;all_goals (go_ret;exact⟨rfl,b⟩)
 by_cases bt:N.t<N.f
 ·rw[show FG N=M from aB (by omega)];go_in;go_wp2;all_goals (go_ret;exact⟨rfl,b⟩)
 by_cases bw:N.l<0
 ·rw[show FG N=M from aB (by omega)];go_in;go_wp2;all_goals (go_ret;exact⟨rfl,b⟩)
 by_cases bx:(200:Int)<(N.ks.length:Int)
 ·rw[show FG N=M from aB (by omega)];go_in;go_wp2;all_goals (go_ret;exact⟨rfl,b⟩)
 rw[show FG N=Z from bC (by omega)];obtain⟨ad,hS⟩:=ay (Gr ns N);rw[hS];have L:=aw hS;clear hS;obtain⟨B,C⟩:=ay (Ir N.ks i N.ks.length 0);rw[C];have K:ajt N.ks i N.ks.length 0 B:=⟨C⟩;clear C;go_in;go_wp2_with fail;generalize (w.alloc (X #[S (Ax r) ns.length m] 26)).alloc (X #[O Q N.k,O Q N.f,O Q N.t,O Q N.l,O Q N.op,O Q N.n,T N.x,S g N.nm.length o,S j N.ks.length p] 53)=ao at b bb ak⊢;clear af ap ar av a0 a4 a5 a6 a7;go_loop [7,37] (fun _ J=>∃a:Nat,J= O Q a/\a<=N.ks.length/\ajt N.ks i (N.ks.length-a) a B) (fun _ J=>N.ks.length-(A1 J).toNat)
 case atStart=>exact⟨0,rfl,by omega,K⟩
 case round=>
  obtain⟨a,rfl,bE,an⟩:=hrel;have c:=an.out;by_cases bl:a<N.ks.length
  ·have I:N.ks[a]?=Ax N.ks[a]:=bJ bl;obtain⟨b3,rfl,a9⟩:=(v.out.2.2.below b).get I;rw[show N.ks.length-a=(N.ks.length-(a+1))+1 by omega,Ir,cp,I,ig]at c;have bh:(a:Int)<(N.ks.length:Int):=by omega
   have b0:(0:Int)<=(a:Int):=by omega
   generalize N.ks[a]=am at c a9;clear I;by_cases z0:am<0
   ·rw[aB (by omega),dJ]at c;have d:=aw c;clear c;go_wp2_with fail;go_ret;exact⟨by rw[<-d.out];rfl,b⟩
   by_cases ch:(i:Int)<=am
   ·rw[aB (by omega),dJ]at c;have d:=aw c;clear c;go_wp2_with fail;go_ret;exact⟨by rw[<-d.out];rfl,b⟩
   rw[bC (by omega),eG]at c;have d:ajt N.ks i (N.ks.length-(a+1)) (a+1) B:=⟨c⟩;clear c;go_wp2_with fail;go_round
   case rel=>exact⟨a+1,by go_num,by omega,d⟩
   case measure=>simp[A1];omega
  ·rw[show N.ks.length-a=0 by omega,Ir]at c;have d:=aw c;have bh:¬(a:Int)<(N.ks.length:Int):=by omega
   have H:yq ns N:=aju (by rw[K.out,<-d.out]) (rg bd);have s:fI ao (S (Ax r) ns.length m) ns N (S g N.nm.length o) (S j N.ks.length p):=⟨v.out.1.below b,v.out.2.1.below b,v.out.2.2.below b,H,bk,u.out.l1,u.out.l2,u.out.lx,u.out.ls⟩;obtain⟨b6,b7,b8,b9,ca,cb,cc,ce,cf,cg⟩:=ax ak;have A:=fun w=>Bz N.k w;clear c;cases hx:pE N.k with
   |true=>
    have q:=Aj s hx;rw[hx]at A;rw[show stB ns N=ad by rw[<-L.out];unfold Gr;rw[ab hx]]at q;unfold eC at q;clear hx s H;go_wp2_with (first|(go_at_call 65;refine dK (A _) ?_)|(go_at_call 66;refine q.mono ?_;rintro e bo ⟨rfl,E⟩));go_ret;exact⟨by rw[<-d.out];rfl,b.trans (E.mono b.size)⟩
   |false=>
    have q:=yJ s;rw[hx]at A;rw[show xK ns N=ad by rw[<-L.out];unfold Gr;rw[aa (by rw[hx];simp)]]at q;unfold eC at q;clear hx s H;go_wp2_with (first|(go_at_call 65;refine dK (A _) ?_)|(go_at_call 67;refine q.mono ?_;rintro e bo ⟨rfl,E⟩));go_ret;exact⟨by rw[<-d.out];rfl,b.trans (E.mono b.size)⟩
theorem Ck(w:A2):A3 Y 8 #[O Q 0] w fun e b=>e= A0 (T (bB 0))/\U w.heap.size w b:=by
 have a:bB 0=⟨#[48]⟩:=by unfold bB Lib.itoa;rw[aa (by decide),show(0:Int).toNat=0 from rfl,V,kJ (by decide)];rfl
 rw[a];go_in;go_wp2_with fail;go_ret;exact⟨rfl,ag _ _⟩
theorem Dd(N:Nat)(a5:N≠0)(bE:N<=9223372036854775808)(w:A2):A3 Y 8 #[O Q (-(N:Int))] w fun e bt=>e= A0 (T (⟨#[45]⟩++⟨(V N).toArray⟩))/\U w.heap.size w bt:=by
 obtain⟨i,C⟩:∃i:Int,(N:Int)=i:=⟨_,rfl⟩;rw[C];have b9: -i<0:=by omega
 have bo:i<=9223372036854775808:=by omega
 have ca:(-i==0)=M:=by rw[aK];omega
 have a0:=aw C;clear C;go_in;go_wp2_with fail;go_loopw [0,4,5] (fun H bs cc wr=>∃(b:Int) (a:List Int),H= O Q (-b)/\0<=b/\b<=9223372036854775808/\A5 (b.toNat<10 ^ (19-a.length)/\a.length<=19/\sd (V N)=pre b.toNat++a.reverse)/\wr.ownsRow w.heap.size 5 1 bs a.length (B8 a)/\U w.heap.size w wr) (fun H _ _ _=>(-(A1 H)).toNat)
 case atStart=>
  refine⟨i,[],rfl,by omega,bo,⟨?_,by simp,?_⟩,bc _ _ _ _,ag _ _⟩
  ·have:(10:Nat) ^ (19-([]:List Int).length)=10000000000000000000:=by decide
   rw[this];omega
  ·rw[show i.toNat=N by have:=a0.out;omega];unfold pre;rw[aa a5];simp
 case round=>
  obtain⟨b,a,rfl,ad,bA,m,n,k⟩:=hrel;by_cases a7:b=0
  ·subst a7;obtain⟨_,am,al⟩:=m.out;have y:sd (V N)=a.reverse:=al;have A:0<a.length:=by
    have e:=congrArg List.length y;rw[ub]at e;have:0<(sd (V N)).length:=by
     rw[V];split<;>simp[sd]
    omega
   have I:A5 (ic a.reverse=⟨(V N).toArray⟩):=by show _=_;rw[<-y,yr]
   rcases n.2 with⟨h,bl⟩|⟨p,af,bD,ar,b5,z,_,bh,o,ap⟩
   ·have:a=[]:=by
     have b0:(B8 a).length=a.length:=Jn a;have:=n.1;simp at bl;omega
    rw[this]at A;simp at A
   ·have x:∀l,l<a.length->wr.cell? ⟨p,l,A6⟩=Ax (O .u8 (a.getD l 0)):=fun l bd=>by
     rw[aq _ _ _ _ _ _ z];have f:(B8 a)[l]?=Ax (O .u8 (a.getD l 0)):=by simp[B8,bd,List.getD]
     rw[<-ap,kE]at f;split at f
     ·simpa using f
     ·cases f
    have a9:p<wr.heap.size:=ah z;obtain⟨d,q⟩:=ay a.length;rw[q]at A am x ar;subst ar;clear m al y n z ap o bh;have an:∀c,c<d->a.reverse.take (c+1)=a.reverse.take c++[a.getD (d-1-c) 0]:=fun c F=>by
     have e:a.reverse[c]?=Ax (a.getD (d-1-c) 0):=by
      rw[List.getElem?_reverse (by omega),List.getD,q,bJ (by omega)];rfl
     rw[fK,e];rfl
    have o:∀c,c<=d->(ic (a.reverse.take c)).size=c:=fun c F=>by
     have:∀j:List Int,(ic j).size=j.length:=by
      intro j
      induction j with
      |nil=>rfl
      |cons K L bn=>rw[show K::L=[K]++L from rfl,xA,cL,bn,aH];rfl
     rw[this,jy,ub];omega
    have J:=aw an;have av:=aw q;clear an q;go_wp2_with fail;go_loopw [6,7] (fun br G bx=>∃c:Nat,c<=d/\G= O Q ((d:Int)-1-(c:Int))/\br= T (⟨#[45]⟩++ic (a.reverse.take c))/\U wr.heap.size wr bx) (fun _ G _=>(A1 G+1).toNat)
    case atStart=>exact⟨0,by omega,by first|rfl|(congr 1;omega),rfl,ag _ _⟩
    case round=>
     obtain⟨c,F,rfl,rfl,s⟩:=hrel;have ao:((⟨#[45]⟩:ByteArray)++ic (a.reverse.take c)).size=c+1:=by rw[cL,o c F];show 1+c=_;omega
     by_cases bk:c<d
     ·obtain⟨g,a6⟩:∃g:Nat,d-1-c=g:=⟨_,rfl⟩;have a8:=(jC s a9).trans (x g (by omega));have v:=J.out c bk;rw[a6]at v;have u:A5 ((⟨#[45]⟩++ic (a.reverse.take c))++ic [a.getD g 0]=⟨#[45]⟩++ic (a.reverse.take (c+1))):=by show _=_;rw[v,xA,jv]
      generalize a.getD g 0=j at a8 u;have b3:=fun w=>ou (ue w j);have b8:(ic [j]).size=1:=rfl;have bb:(d:Int)-1-(c:Int)=(g:Int):=by omega
      have b1:g<d:=by omega
      generalize (⟨#[45]⟩:ByteArray)++ic (a.reverse.take c)=cb at ao u⊢;rw[bb];clear o v x;go_wp2;go_roundw
      case rel=>exact⟨c+1,by omega,by first|rfl|(congr 1;omega),by rw[u.out],s.alloc s.size _⟩
      case measure=>simp[A1]
     ·obtain rfl:c=d:=by omega
      have b7:¬(0:Int)<=(c:Int)-1-(c:Int):=by omega
      rw[fs (by rw[ub,av.out];exact ae _)];rw[I.out];clear ao o I J;go_wp2;go_ret;exact⟨rfl,k.trans (s.mono k.size)⟩
  ·have b4:(-b==0)=M:=by rw[aK];omega
   have b2:(-b !=0)=Z:=by rw[ud];omega
   have am:a.length<=18:=by
    obtain⟨f,a1,_⟩:=m.out;rcases co a.length 19 with h|h
    ·omega
    ·rw[show 19-a.length=0 by omega]at f;simp at f;omega
   have t:A5 ((b / 10).toNat<10 ^ (19-(a++[48+b%10]).length)/\(a++[48+b%10]).length<=19/\sd (V N)=pre (b / 10).toNat++(a++[48+b%10]).reverse):=by
    obtain⟨f,a1,a2⟩:=m.out;have a4:(a++[48+b%10]).length=a.length+1:=by simp
    refine⟨?_,by omega,?_⟩
    ·rw[a4];have a3:10 ^ (19-a.length)=10 ^ (19-(a.length+1))*10:=by rw[<-Nat.pow_succ];congr 1;omega
     rw[a3]at f;have:(b / 10).toNat=b.toNat / 10:=by omega
     rw[this];omega
    ·rw[a2,Hf b.toNat (by omega),show(b / 10).toNat=b.toNat / 10 by omega,show((b.toNat%10:Nat):Int)=b%10 by omega];simp
   have ak:(-b).tmod 10= -(b%10):=by rw[Int.neg_tmod,Int.tmod_eq_emod_of_nonneg ad]
   have r:(-b).tdiv 10= -(b / 10):=by rw[Int.neg_tdiv,Int.tdiv_eq_ediv_of_nonneg ad]
   clear m;by_cases B:b%10=0
   ·rw[B]at t ak;rw[show(-(0:Int))=0 from rfl]at ak;clear B;go_wp2_with (at_builtin;refine gL rfl (.tmp 20) (.tmp 24) rfl w.heap.size u4 a.length a rfl n k.size (by omega) [48+0] 1 rfl (by decide) (by decide) _ rfl rfl ?_;intro p af bw E r);go_roundw
    case rel=>exact⟨b / 10,a++[48+0],by first|rfl|(congr 1;omega),by omega,by omega,t,by rw[aH];exact E,k.trans (r.mono (by omega))⟩
    case measure=>simp[A1];omega
   ·have b6: -(b%10)<0:=by omega
    clear B;go_wp2_with (at_builtin;refine gL rfl (.tmp 20) (.tmp 24) rfl w.heap.size u4 a.length a rfl n k.size (by omega) [48+b%10] 1 rfl (by decide) (by decide) _ rfl rfl ?_;intro p af bw E r);go_roundw
    case rel=>exact⟨b / 10,a++[48+b%10],by first|rfl|(congr 1;omega),by omega,by omega,t,by rw[aH];exact E,k.trans (r.mono (by omega))⟩
    case measure=>simp[A1];omega
theorem jr(n:Int)(c: -9223372036854775808<=n)(d:n<=9223372036854775807)(w:A2):A3 Y 8 #[O Q n] w fun e b=>e= A0 (T (bB n))/\U w.heap.size w b:=by
 rcases Int.lt_trichotomy n 0 with h|h|h
 ·refine aJ (show A3 Y 8 #[O Q n] w _ from by rw[show n= -((n.natAbs:Nat):Int) by omega];exact Dd n.natAbs (by omega) (by omega) w) fun b a=>?_;refine⟨?_,a⟩
  congr 2
  unfold bB Lib.itoa;rw[ab h];apply re;rw[me];simp
 ·subst h;exact Ck w
 ·refine aJ (show A3 Y 8 #[O Q n] w _ from by rw[show n=((n.toNat:Nat):Int) by omega];exact C6 n.toNat (by omega) (by omega) w) fun b a=>?_;refine⟨?_,a⟩;unfold bB Lib.itoa;rw[aa (by omega)]
def lA:List Int->ByteArray
 |[]=>⟨#[]⟩
 |z::l=>(bB z++jm)++lA l
theorem abI(a b:List Int):lA (a++b)=lA a++lA b:=by
 induction a with
 |nil=>exact(uq _).symm
 |cons d c e=>show(bB d++jm)++lA (c++b)=((bB d++jm)++lA c)++lA b;rw[e,jv (b:=lA c)]
theorem Kw(l:List Int)(k:Nat)(z:Int)(h:l[k]?=Ax z):lA (l.take (k+1))=lA (l.take k)++(bB z++jm):=by
 rw[fK,h,abI];show lA (l.take k)++((bB z++jm)++⟨#[]⟩)=_;rw[pG]
def rE(N:Nd):List Int:=[N.k,N.f,N.t,N.l,N.op,N.n]
theorem aeA(N:Nd):lA (rE N)=zq N:=by
 unfold rE zq;simp only[lA,uq,pG,jv]
theorem Cl(l:List Int)(h:∀z∈l, -9223372036854775808<=z/\z<=9223372036854775807):(lA l).size<=22*l.length:=by
 induction l with
 |nil=>exact ae _
 |cons a l c=>
  have d:=c fun z b=>h z (dC _ b);have e:=fe a (h a (bK)).1 (h a (bK)).2;have f:jm.size=1:=rfl;show((bB a++jm)++lA l).size<=22*(l.length+1);rw[cL,cL];omega
theorem Bf{N:Nd}(h:xG N):∀z∈rE N, -9223372036854775808<=z/\z<=9223372036854775807:=fun z a=>by
 unfold rE at a;simp only[kG,nh,ny]at a;rcases a with rfl|rfl|rfl|rfl|rfl|rfl
 ·exact h.k
 ·exact h.f
 ·exact h.t
 ·exact h.l
 ·exact h.op
 ·exact h.n
structure Cm (w:A2) (N:Nd) (vn vk:A4) (W:A2):Prop where
 bx:sw w.heap.size W 53 N vn vk
 bl:U w.heap.size w W
theorem Cm.below{w:A2}{N:Nd}{vn vk:A4}{W a:A2}(h:Cm w N vn vk W)(b:U W.heap.size W a):Cm w N vn vk a:=
 ⟨h.bx.below b,h.bl.trans (b.mono h.bl.size)⟩
theorem Kx(w:A2)(N:Nd)(vn vk:A4)(a8:cH w vn N.nm)(ad:eo w vk N.ks)(cr:xG N)(ed:N.x.size<=4000)(d6:N.nm.length<=1048576)(d7:N.ks.length<=1048576)(bb:(lL N).size<=70368744177664):
  A3 Y 16 #[eC N vn vk] w fun e ca=>e= A0 (T (lL N++Ag))/\U w.heap.size w ca:=by
 obtain⟨p,q,rfl⟩:=a8.form;obtain⟨v,y,rfl⟩:=ad.form;obtain⟨j,bA⟩:=ay N.nm.length;obtain⟨g,bE⟩:=ay N.ks.length;rw[bA]at a8 d6⊢;rw[bE]at ad d7⊢;have o:=acl a8 ad cr bb bA bE;unfold eC;clear a8 ad cr bb bA bE;go_in;go_wp2_with fail;have bn:=aj w (X #[O Q N.k,O Q N.f,O Q N.t,O Q N.l,O Q N.op,O Q N.n,T N.x,S p j q,S v g y] 53);have b2:U w.heap.size w (w.alloc (X #[O Q N.k,O Q N.f,O Q N.t,O Q N.l,O Q N.op,O Q N.n,T N.x,S p j q,S v g y] 53)):=(ag _ w).alloc (ae _) _;have b7:(w.alloc (X #[O Q N.k,O Q N.f,O Q N.t,O Q N.l,O Q N.op,O Q N.n,T N.x,S p j q,S v g y] 53)).heap.size=w.heap.size+1:=aF _ _;generalize w.alloc (X #[O Q N.k,O Q N.f,O Q N.t,O Q N.l,O Q N.op,O Q N.n,T N.x,S p j q,S v g y] 53)=L at bn b2 b7⊢;have ak:=aj L (X #[O Q N.k,O Q N.f,O Q N.t,O Q N.l,O Q N.op,O Q N.n] 2);have b3:U L.heap.size L (L.alloc (X #[O Q N.k,O Q N.f,O Q N.t,O Q N.l,O Q N.op,O Q N.n] 2)):=(ag _ L).alloc (ae _) _;generalize L.alloc (X #[O Q N.k,O Q N.f,O Q N.t,O Q N.l,O Q N.op,O Q N.n] 2)=I at ak b3⊢;rw[b7]at ak;have cw:Cm w N (S p j q) (S v g y) I:=Cm.below ⟨bn,b2⟩ b3;have cl:∀(d:Nat) h,(rE N)[d]?=Ax h->I.cell? ⟨w.heap.size+1,d,A6⟩=Ax (O Q h):=fun d h a=>by
  rw[aq _ _ _ _ _ _ ak];unfold rE at a
  match d,a with
  |0,a=>simp at a;subst a;rfl
  |1,a=>simp at a;subst a;rfl
  |2,a=>simp at a;subst a;rfl
  |3,a=>simp at a;subst a;rfl
  |4,a=>simp at a;subst a;rfl
  |5,a=>simp at a;subst a;rfl
  |(d+6),a=>simp at a
 have cg:A5 (Cm w N (S p j q) (S v g y) I/\(∀(d:Nat) h,(rE N)[d]?=Ax h->I.cell? ⟨w.heap.size+1,d,A6⟩=Ax (O Q h))/\w.heap.size+1<I.heap.size):=⟨cw,cl,ah ak⟩;clear bn ak b2 b3 b7 cw cl;go_loopw [3,24] (fun av s wr=>∃b:Nat,b<=6/\s= O Q b/\av= T (lA ((rE N).take b))/\A5 (U I.heap.size I wr)) (fun _ s _=>6-(A1 s).toNat)
 case atStart=>exact⟨0,by omega,rfl,rfl,ag _ _⟩
 case round=>
  obtain⟨b,ad,rfl,rfl,k⟩:=hrel;by_cases ao:b<6
  ·obtain⟨h,a⟩:=bL (show(rE N).length=6 from rfl) ao;have d2:=ai k.out (cg.out.2.1 b h a);have r:=Bf o.out.2.2.1 h (cJ a);have u:=Kw (rE N) b h a;have ec:(lA ((rE N).take b)).size<=132:=by
    have:=Cl ((rE N).take b) (fun a0 ap=>Bf o.out.2.2.1 a0 (Ej ap));have ex:((rE N).take b).length<=6:=by rw[jy];omega
    omega
   have b5:=fe h r.1 r.2;have A:=aw u;have ar:=fun i=>jr h r.1 r.2 i;have eb:(b:Int)<6:=by omega
   have ea:(0:Int)<=(b:Int):=by omega
   generalize lA ((rE N).take b)=af at A ec⊢;generalize bB h=cm at ar b5 A;clear u a r;go_wp2_with (go_at_call 8;refine(ar _).mono ?_;rintro e m ⟨rfl,d8⟩);exact⟨⟨b+1,by omega,by go_num,by rw[A.out];rfl,k.out.trans (d8.mono k.out.size)⟩,by simp[A1];omega⟩
  ·obtain rfl:b=6:=by omega
   obtain⟨m,rfl⟩:∃m,m=wr:=⟨wr,rfl⟩;rw[show(rE N).take 6=rE N from rfl,aeA];have b9:=cg.out.1.below k.out;have a9:=fun i=>abd N.x ed i;have b6:=fun i=>jr (j:Int) (by omega) (by omega) i;have ct:=DK N.x;have bd:=fe (j:Int) (by omega) (by omega);have cs:(zq N).size<=132:=by rw[<-aeA];have:=Cl (rE N) (Bf o.out.2.2.1);have ev:(rE N).length=6:=rfl;omega
   have al:A5 (lL N=(((zq N++((wg N.x++jm)++bB j))++dI N.nm)++(jm++bB g))++dI (N.ks.map bB)):=by
    show lL N=_;unfold lL;rw[o.out.2.2.2.2.1,o.out.2.2.2.2.2]
   change ∀i,A3 Y 34 #[T N.x] i fun e ca=>e= A0 (T (wg N.x))/\U i.heap.size i ca at a9
   obtain⟨ei,ek,el,em,en,ep,cF,cI,eq,er⟩:=ax b9.bx;have ch:=aw b9;have sX:∀i,U m.heap.size m i->i.cell? ⟨w.heap.size,6,A6⟩=Ax (T N.x)/\i.cell? ⟨w.heap.size,7,A6⟩=Ax (S p j q)/\U m.heap.size m i:=fun i b1=>⟨ai b1 cF,ai b1 cI,b1⟩;have c:U m.heap.size m m.drew:=cj (ag _ _);generalize zq N=bk at al cs⊢;generalize wg N.x=an at a9 ct al;generalize bB (j:Int)=a4 at b6 bd al;have d3:¬9223372036854775807<an.size+1:=by omega
   have d4:¬9223372036854775807<an.size+1+a4.size:=by omega
   have d5:¬9223372036854775807<bk.size+(an.size+1+a4.size):=by omega
   clear ei ek el em en ep eq er b9 k;go_wp2_with fail;go_region_held3 (fun bs=>bs.cell? ⟨w.heap.size,6,A6⟩=Ax (T N.x)/\bs.cell? ⟨w.heap.size,7,A6⟩=Ax (S p j q)/\U m.heap.size m bs) (first|exact sX _ c|exact sX _ (c.trans (C.mono c.size))|exact sX _ (c.trans (B.mono c.size))|exact sX _ ((c.trans (C.mono c.size)).trans (B.mono (c.trans (C.mono c.size)).size))|exact sX _ ((c.trans (B.mono c.size)).trans (C.mono (c.trans (B.mono c.size)).size))|go_keep) (first|(go_at_call 34;refine(a9 _).mono ?_;rintro e cB ⟨rfl,C⟩)|(go_at_call 8;refine(b6 _).mono ?_;rintro e cx ⟨rfl,B⟩))
   all_goals first
    |(have bt:U m.heap.size m cx:=(c.trans (C.mono c.size)).trans (B.mono (c.trans (C.mono c.size)).size);obtain⟨F,rfl⟩:∃F,F=cx:=⟨_,rfl⟩)
    |(have bt:U m.heap.size m cB:=(c.trans (B.mono c.size)).trans (C.mono (c.trans (B.mono c.size)).size);obtain⟨F,rfl⟩:∃F,F=cB:=⟨_,rfl⟩)
   all_goals (
    have am:A5 (Cm w N (S p j q) (S v g y) F):=ch.out.below bt;have H:=aw al.out
    change A5 (lL N=(((bk++((an++⟨#[32]⟩)++a4))++dI N.nm)++(jm++bB g))++dI (N.ks.map bB)) at H
    obtain⟨K,cn⟩:=ay (bk++((an++⟨#[32]⟩)++a4));rw[cn]at H⊢;have bh:(lL N).size<=70368744177664:=o.out.2.2.2.1;rw[H.out]at bh;simp only[cL]at bh;have br:=aw bh;obtain⟨c0,c3,c4,c5,c7,c8,c9,df,ce,dk⟩:=ax am.out.bx;clear bh cn bt C B cF cI sX c d3 d4 d5 ct bd cs a9 b6 ch al;go_wp2_with fail;go_loopw [3,48] (fun av s wr=>∃b:Nat,b<=j/\s= O Q b/\av= T (K++dI (N.nm.take b))/\A5 (U F.heap.size F wr)) (fun _ s _=>j-(A1 s).toNat)
    case atStart=>exact⟨0,by omega,rfl,by rw[rf,show K++dI []=K from pG K],ag _ _⟩
    case round=>
     obtain⟨b,ad,rfl,rfl,k⟩:=hrel;by_cases ao:b<j
     ·obtain⟨a0,ap⟩:=bL o.out.2.2.2.2.1 ao;have J:U w.heap.size w wr:=am.out.bl.trans (k.out.mono am.out.bl.size);obtain⟨d1,rfl,et⟩:=(o.out.1.below J).get ap;have u:=we N.nm b a0 ap;have E:=mK N.nm (b+1);have a:=br.out;have A:=aw u;rw[u]at E;simp only[cL]at E;have e3:a0.size<=70368744177664:=by omega
      obtain⟨af,z⟩:=ay (K++dI (N.nm.take b));have eg:af.size<=70368744177664:=by rw[<-z,cL];omega
      have bo:=aw z;rw[z];have eb:(b:Int)<(j:Int):=by omega
      have ea:(0:Int)<=(b:Int):=by omega
      clear u E a z ap J c0 c3 c4 c5 c7 c8 c9 df ce dk;go_wp2_with fail;exact⟨⟨b+1,by omega,by go_num,by rw[A.out];show A7 (af++(jm++a0))=_;rw[<-bo.out,jv],k⟩,by simp[A1];omega⟩
     ·obtain rfl:b=j:=by omega
      obtain⟨cb,rfl⟩:∃cb,cb=wr:=⟨wr,rfl⟩;rw[fs (by rw[o.out.2.2.2.2.1];exact ae _)];have dn:=ai k.out ce;have b8:=fun i=>jr (g:Int) (by omega) (by omega) i;have bd:=fe (g:Int) (by omega) (by omega);obtain⟨a3,a6⟩:=ay (K++dI N.nm);have a:=br.out;have E:a3.size<=70368744177664:=by rw[<-a6,cL];omega
      have ck:A5 (a3.size+(1+(bB g).size)+(dI (N.ks.map bB)).size<=70368744177664):=by show _<=_;rw[<-a6,cL];exact a
      rw[a6]at H⊢;have dz:A5 (Cm w N (S p b q) (S v g y) cb):=am.out.below k.out;generalize bB (g:Int)=cf at b8 bd H ck;clear c0 c3 c4 c5 c7 c8 c9 df ce dk a a6 br am k;go_wp2_with fail;refine aJ (b8 _) fun cc b4=>?_;have a5:A5 (Cm w N (S p b q) (S v g y) cc):=dz.out.below b4;have dq:=ai b4 dn;obtain⟨G,a7⟩:=ay (a3++(jm++cf));have cq:a3++(⟨#[32]⟩++cf)=G:=a7;have d0:A5 (G.size+(dI (N.ks.map bB)).size<=70368744177664):=by
       show _<=_;have:=ck.out;have eh:jm.size=1:=rfl;rw[<-a7,cL,cL,eh];omega
      rw[a7]at H;clear b8 b4 dn a7;go_wp2_with fail;try rw[cq]
      clear cq;go_loopw [3,67] (fun av s wr=>∃d:Nat,d<=g/\s= O Q d/\av= T (G++dI ((N.ks.map bB).take d))/\A5 (U cc.heap.size cc wr)) (fun _ s _=>g-(A1 s).toNat)
      case atStart=>exact⟨0,by omega,rfl,by rw[rf,show G++dI []=G from pG G],ag _ _⟩
      case round=>
       obtain⟨d,e0,rfl,rfl,k⟩:=hrel;by_cases ao:d<g
       ·obtain⟨h,a⟩:=bL o.out.2.2.2.2.2 ao;have J:U w.heap.size w wr:=a5.out.bl.trans (k.out.mono a5.out.bl.size);obtain⟨d1,rfl,d2⟩:=(o.out.2.1.below J).get a;have r:=o.out.2.2.1.ks h (cJ a);have cv:(N.ks.map bB)[d]?=Ax (bB h):=by rw[cA,a];rfl
        have u:=we (N.ks.map bB) d (bB h) cv;have E:=mK (N.ks.map bB) (d+1);have ef:=d0.out;have A:=aw u;rw[u]at E;simp only[cL]at E;have ar:=fun i=>jr h r.1 r.2 i;have b5:=fe h r.1 r.2;obtain⟨af,z⟩:=ay (G++dI ((N.ks.map bB).take d));have eg:af.size<=70368744177664:=by rw[<-z,cL];omega
        have bo:=aw z;rw[z];generalize bB h=cm at ar b5 A;have e2:(d:Int)<(g:Int):=by omega
        have e1:(0:Int)<=(d:Int):=by omega
        clear u E ef z a cv J r dq;go_wp2_with (go_at_call 8;refine(ar _).mono ?_;rintro e e4 ⟨rfl,d9⟩);exact⟨⟨d+1,by omega,by go_num,by rw[A.out];show A7 (af++(jm++cm))=_;rw[<-bo.out,jv],k.out.trans (d9.mono k.out.size)⟩,by simp[A1];omega⟩
       ·obtain rfl:d=g:=by omega
        rw[fs (by rw[dc,o.out.2.2.2.2.2];exact ae _),<-H.out];have bb:=o.out.2.2.2.1;have J:U w.heap.size w wr:=a5.out.bl.trans (k.out.mono a5.out.bl.size);obtain⟨es,b0⟩:=ay (lL N);have ds:=aw b0;rw[b0]at bb⊢;clear dq b0;go_wp2_with fail;go_ret;exact⟨by rw[ds.out];rfl,J⟩)
