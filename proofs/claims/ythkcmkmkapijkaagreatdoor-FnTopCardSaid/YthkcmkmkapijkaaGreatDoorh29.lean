import Derived.Test.YthkcmkmkapijkaaGreatDoorh17
import Derived.Test.YthkcmkmkapijkaaGreatDoorh20
import Derived.Test.YthkcmkmkapijkaaGreatDoorh13
import Derived.Test.YthkcmkmkapijkaaGreatDoorh15
import Derived.Test.YthkcmkmkapijkaaGreatDoorh11
import Derived.Test.YthkcmkmkapijkaaGreatDoorh28
set_option linter.all false
set_option maxRecDepth 100000
set_option maxHeartbeats 12800000
open Go.Proofs.Tryz
open List renaming length->M,replicate->B4
open Option renaming some->V,none->B1
open Go.Value renaming slice->X,ownBlock->B5,agg->B6,string->B9,nilIface->C2
open Bool renaming true->Y,false->B3
open Go.Proofs.Tryz renaming prog->Ax
open Go renaming World->A0,Value->A2,TypeId->Br,Calls->B0
open Go.Ending renaming returned->A1
open Go.RowKit renaming Below->A3,intOf->A9,Hid->B7
open Go.Obj renaming cells->A5
open ByteArray renaming empty->B2
namespace Go.Proofs.YthkcmkmkapijkaaGreatDoor
open Go.RowKit Go.Maps Go.WideMaps
variable{E:Int->Bz}{N:Nd}{S:Int->Nat->Bz}{T:Bz}{W W' w0:World}{a:Act}{b c i j n tab:Nat}{kv v vn vs:Value}{ns:zLD}{o:Oper}{ops:Array Oper}{r:TypeId×Value}
section
variable {w : World} {vt : Value} {ns : zLD} {N : Nd} {vn vk : Value} (A : NArg w vt ns N vn vk)
include A
def Fw(h:jE N.k=Y):B0 Ax 136 #[B6 #[vt],jq N vn vk] w λe w'=>e=A1 (.bool<|stB ns N)/\A3 w.heap.size w w':=by
 have a:=aL h;obtain hK|hK|hK|hK|hK:(N.k=3\/N.k=8\/N.k=11\/N.k=12\/N.k=2\/N.k=4\/N.k=6\/N.k=16\/N.k=10\/N.k=13\/N.k=14\/N.k=15)\/N.k=1\/N.k=5\/N.k=7\/N.k=9:=O
 .exact aur A hK
 all_goals
  unfold stB;simp only[hK,reduceIte,Int.reduceEq];first|exact aqa A hK|exact aqe A hK|exact aqb A hK|exact aqd A hK
theorem Ec:B0 Ax 137 #[B6 #[vt],jq N vn vk] w λe w'=>e=A1 (.bool<|jA ns N)/\A3 w.heap.size w w':=by
 by_cases b:N.k=20\/N.k=21\/N.k=22\/N.k=27\/N.k=23\/N.k=24\/N.k=25\/N.k=26\/N.k=28\/N.k=29\/N.k=41\/N.k=32\/N.k=30\/N.k=31\/N.k=33\/N.k=34\/N.k=40\/N.k=42\/N.k=36\/N.k=37
 .exact auq A b
 by_cases a:N.k=35
 .unfold jA;simp[a,Int.reduceEq];exact alz A a
 rw[show jA ns N=B3 by unfold jA;grind];refine ap9 A λ_ c=>?_;simp[Gg,rl]at c;omega
end
def klB(l:zLI)(i:Int):Nat->Nat->Bool|0,_=>Y|f+1,j=>decide (0<=l.getD j 0/\l.getD j 0<i)&&klB l i f (j+1)
structure auL (l:zLI) (i:Int) (f j:Nat) (R1:Bool):Prop where
 out:klB l i f j=R1
theorem C9(l i):∀f j,klB l i f j=Y->∀k,j<=k->k<j+f->0<=l.getD k 0/\l.getD k 0<i
 |0,j,_,k,a,b=>O|f+1,j,h,k,a,b=>by
  rw[klB,dF]at h;obtain rfl|h3:=jx a
  .grind
  .exact C9 l i f _ h.2 k h3 O
theorem au0(h:klB N.ks i (M N.ks) 0=Y)(c:i<=M ns):Dx ns N:=by
 refine⟨λ_ a=>?_⟩;obtain⟨b,_,rfl⟩:=iD a;have:=C9 _ i _ 0 h b O O;grind
def adt(N:Nd):Bool:=decide (0<=N.f/\N.f<=N.t/\0<=N.l/\M N.ks<=200)
def pG(a:zLD)(N:Nd):Bool:=ite (jE N.k=Y) (stB a N)<|jA a N
def kK(a:zLD)(i:Nat)(N:Nd):Bool:=adt N&&(klB N.ks i (M N.ks) 0&&pG a N)
structure iE (N:Nd):Prop where
 l1:M N.nm<=1048576
 l2:M N.ks<=1048576
 lx:N.x.size<=1048576
 ls:∀s∈N.nm,s.size<=1048576
theorem aaE(w an c)(i:Nat)(N)(o:dE w an c)(ba:M c<=1048576)(al:c[i]?=V N)(hS:iE N):
  B0 Ax 44 #[B6 #[an],zI i] w λe w'=>e=A1 (.bool<|kK c i N)/\A3 w.heap.size w w':=by
 obtain⟨_,H,rfl⟩:=o.form;obtain⟨am,rfl,_,_,a8⟩:=o.get al;have bf:i<M c:=U;have bd:(i:Int)<(M c:Int):=O;have bc:(0:Int)<=(i:Int):=O;obtain⟨ad,ar,av,ax,a0,a4,a5,a6,a7,z,y⟩:=a8;obtain⟨F,K,rfl⟩:=z.form;obtain⟨G,L,rfl⟩:=y.form;have bk:=Cn ad;have m:=ah hS;have n:=jG o z y;have bh:=hS.l2;clear o z y hS al;unfold kK;by_cases s:N.f<0\/N.t<N.f\/N.l<0\/(200:Int)<(M N.ks:Int)
 .rw[show adt N=B3 from bq O];go_in;go_wp2;all_goals (go_ret;exact⟨R,(Eu R).2.2.1⟩)
 rw[show adt N=Y from eI O];simp only[not_or]at s;obtain⟨s,_,_,_⟩:=s;have⟨E,hS⟩:=aw<|pG c N;rw[hS];have C:=ah hS;clear hS;have⟨q,u⟩:=aw<|klB N.ks i (M N.ks) 0;rw[u];have ap:auL N.ks i (M N.ks) 0 q:=⟨u⟩;clear u;go_in;go_wp2_with fail;generalize af:(w.alloc _).alloc _=r;obtain⟨ak,x,d, -⟩:=Eu af;replace ak:r.cell? (aj w.heap.size 0)=V (X (V am) (M c) H):=crV ak;replace x:nA (w.heap.size+1) r 37 N (X F (M N.nm) K) (X G (M N.ks) L):=x;clear af;clear ad ar av ax a0 a4 a5 a6 a7;go_loop [7,37] (λ_ B=>∃a:Nat,B=zI a/\a<=M N.ks/\auL N.ks i (M N.ks-a) a q) (λ_ B=>M N.ks-(A9 B).toNat)
 .grind
 .
  obtain⟨a,rfl,_,ao⟩:=hrel;have b:=ao.out;by_cases bj:a<M N.ks
  .have h:N.ks[a]?=V N.ks[a]:=U;obtain⟨_,rfl,p⟩:=(n.2.2.below d).get h;rw[(O:M N.ks-a=(M N.ks-(a+1))+1),klB,ed,h,li]at b;have a9:(a:Int)<(M N.ks:Int):=O;have v:(0:Int)<=(a:Int):=O;generalize N.ks[a]=j at b p;clear h;by_cases z0:j<0
   .rw[bq O,gJ]at b;have g:=ah b;clear b;go_wp2;go_ret;exact⟨by rw[<-g.out];rfl,d⟩
   by_cases A:(i:Int)<=j
   .rw[bq O,gJ]at b;have g:=ah b;clear b;go_wp2;go_ret;exact⟨by rw[<-g.out];rfl,d⟩
   rw[eI O,gK]at b;have g:auL N.ks i (M N.ks-(a+1)) (a+1) q:=⟨b⟩;clear b;go_wp2;go_round
   .grind
   simp[A9];omega
  .rw[(O:M N.ks-a=0),klB]at b;have g:=ah b;have a9:¬(a:Int)<(M N.ks:Int):=O;have A:Dx c N:=au0 (by rw[ap.out,<-g.out]) O;have j:NArg r (X (V am) (M c) H) c N (X F (M N.nm) K) (X G (M N.ks) L):=⟨n.1.below d,n.2.1.below d,n.2.2.below d,A,ba,m.l1,m.l2,m.lx,m.ls⟩;have⟨_,_,_,_,_,_,_,_,_,_⟩:=aE x;have p:=λw=>G1 N.k w;clear b;cases hx:jE N.k with
   |true=>
    have h:=Fw j hx;rw[hx]at p;rw[show stB c N=E by rw[<-C.out];unfold pG;grind]at h;unfold jq at h;clear hx j A;go_wp2_with (first|(go_at_call 135;apply ez<|p _)|(go_at_call 136;apply h.mono;rintro e bb ⟨rfl,v⟩));go_ret;exact⟨by rw[<-g.out];rfl,d.trans<|v.mono d.size⟩
   |false=>
    have h:=Ec j;rw[hx]at p;rw[show jA c N=E by rw[<-C.out];unfold pG;grind]at h;unfold jq at h;clear hx j A;go_wp2_with (first|(go_at_call 135;apply ez<|p _)|(go_at_call 137;apply h.mono;rintro e bb ⟨rfl,v⟩));go_ret;exact⟨by rw[<-g.out];rfl,d.trans<|v.mono d.size⟩
def jc(p:Nat->Bool):Nat->Nat->zON|0,_=>B1|f+1,j=>ite (p j=Y) (V j)<|jc p f<|j+1
structure Bg (p:Nat->Bool) (f j:Nat) (R1:zON):Prop where
 out:jc p f j=R1
def dpK(i:Nat):zLI->zLI->zLI|[],D=>D|k::r,D=>dpK i r<|D.set k.toNat<|D.getD i 0+1
def dpN(a:zLD):Nat->zLI->zLI|0,D=>D|m+1,D=>dpN a m<|dpK m (a.getD m zNd).ks D
def Ji(a:zLD):zLI:=dpN a (M a)<|B4 (M a) 0
def iL(a:zLD):Bool:=decide (M a=0\/3000<M a\/(a.getD (M a-1) zNd).k≠1)
def fI(a:zLD)(i:Nat):Bool:=!(kK a i<|a.getD i zNd)
def gw(S:zLI)(i:Nat):Bool:=S.getD i 0==0
def jK(D:zLI)(i:Nat):Bool:=decide (100<D.getD i 0)
def tf4:zON->Int×Int|some i=>(4,(i:Int))|none=>(0,0)
def tf3(S D:zLI)(n:Nat):zON->Int×Int|some i=>(3,(i:Int))|none=>ite (S.getD (n-1) 0≠(n:Int)) (3,(n:Int)-1)<|tf4<|jc (jK D) n 0
def tf2(S D:zLI)(n:Nat):zON->Int×Int|some i=>(2,(i:Int))|none=>tf3 S D n<|jc (gw S) n 0
def bH(a:zLD):Int×Int:=ite (iL a=Y) (1,0)<|tf2 (jh a) (Ji a) (M a)<|jc (fI a) (M a) 0
def ajH(n:Nat)(D:zLI):Prop:=M D=n/\∀(j:Nat) z,D[j]?=V z->0<=z/\z<=(n:Int)-1-j
theorem ajH.set{D}(h:ajH n D)(i q)(a:i<n)(b:q<i):ajH n (D.set q<|D.getD i 0+1):=by
 obtain⟨_,_⟩:=h;refine⟨U,λ_ _ _=>?_⟩;grind
theorem po{p}:∀{f j},jc p f j=B1->∀k,j<=k->k<j+f->p k=B3
 |0,j,_,k,a,b=>O|f+1,j,h,k,a,b=>by
  rw[jc]at h;split at h
  .cases h
  .rename_i c;obtain rfl|g:=jx a
   .grind
   .exact po h k g O
def mL(b:Nat)(W:A0)(c n:Int):Prop:=W.heap[b]?=V (A5 #[zI c,zI n] 49 (0,0))
def lB{c n}(h:mL b W c n):W.cell? (aj b 0)=V (zI c)/\W.cell? (aj b 1)=V (zI n)/\∀j,W.frozen? (aj b j)=B3:=by
 unfold mL at h;exact⟨crV h,crV h,λj=>frR h⟩
def sy{c n}(h:mL b W c n)(a n2):mL b ((W.setCell (aj b 0)<|zI a).setCell ⟨b,1,B1⟩<|zI n2) a n2:=aD _ b 1 _ _ _<|aD _ b 0 _ _ _ h
def mL.below{c n}(h:mL b W c n)(a:A3 W.heap.size W W'):mL b W' c n:=(a.block _<|ai h).trans h
theorem adu(w v a)(h:dE w v a)(p:M a<=1000000000000)(u:iL a=Y):
  B0 Ax 16 #[B6 #[v]] w λe w'=>e=A1 (B6 #[zI 1,zI 0])/\A3 w.heap.size w w':=by
 obtain⟨_,_,rfl⟩:=h.form;have x:∀c d,A3 w.heap.size w ((w.alloc c).alloc d):=λc d=>((ay _ w).alloc O _).alloc I _;have l:∀c (f:zAV) (g:Br),((w.alloc c).alloc<|A5 f g).heap[w.heap.size+1]?=V (A5 f g (0,0)):=λc f g=>by
  have:=au (w.alloc c)<|A5 f g
  simp_all
 have F:=aL u;by_cases n:M a=0
 .rw[n];go_in;go_wp2;exact aA (fD R _ _ _ _ _ _ _ R (l _ _ _) underlying49 R byR) R U
 by_cases s:3000<M a
 .have i:(3000:Int)<(M a:Int):=O;have b:¬(M a:Int)=0:=O;generalize M a=m at b i p⊢;go_in;go_wp2;exact aA (fD R _ _ _ _ _ _ _ R (l _ _ _) underlying49 R byR) R U
 .have t:(a.getD (M a-1) zNd).k≠1:=O;have q:M a-1<M a:=O;obtain⟨i,o⟩:∃i,a[M a-1]?=V i:=⟨_,bm q⟩;rw[ed,o,li]at t;obtain⟨r,rfl,_,_,y⟩:=h.get o;have j:=y.c0;have⟨m,A⟩:=aw<|M a;rw[A]at j n s p q⊢;obtain⟨b,z⟩:∃b:Nat,m=b+1:=⟨m-1,O⟩;subst z;rw[qm]at j;have E:((b+1:Nat):Int)-1=(b:Int):=O;have K:¬((b+1:Nat):Int)=0:=O;have L:¬(3000:Int)<((b+1:Nat):Int):=O;have ad:(b:Int)<((b+1:Nat):Int):=O;have H:(0:Int)<=(b:Int):=O;have B:(((b:Int)+1)==0)=B3:=U;have C:decide ((3000:Int)<(b:Int)+1)=B3:=U;have af:(b:Int)<(b:Int)+1:=O;have G:∀c d,((w.alloc c).alloc d).cell? (r.add<|b*9)=V (zI i.k):=λc d=>ag (x _ _) j;go_in;go_wp2;exact aA (fD R _ _ _ _ _ _ _ R (l _ _ _) underlying49 R byR) R U
structure adv (w:A0) (v:A2) (W:A0):Prop where
 tb:W.heap[w.heap.size]?=V (.cells #[v] 26 (0,0))
 fb:mL (w.heap.size+1) W 0 0
 bl:A3 w.heap.size w W
def adv.below{w}(h:adv w v W)(a:A3 W.heap.size W W'):adv w v W':=
 ⟨(a.block _<|ai h.tb).trans h.tb,h.fb.below a,h.bl.trans<|a.mono h.bl.size⟩
structure au1 (w:A0) (v:A2) (gd n:Nat) (ns:zLD) (t:Nat) (D:zLI) (W:A0):Prop where
 tk:adv w v W
 row:W.ownsRow w.heap.size 3 1 (bI gd n n) n (D.map zI)
 ok:ajH n D
 rest:dpN ns t D=Ji ns
structure au2 (w:A0) (v:A2) (gd n t:Nat) (ks D:zLI) (j:Nat) (E:zLI) (W:A0):Prop where
 tk:adv w v W
 row:W.ownsRow w.heap.size 3 1 (bI gd n n) n (E.map zI)
 ok:ajH n E
 rest:dpK t (ks.drop j) E=dpK t ks D
def dB{t}(h:W.heap[b]?=V (A5 #[v] t (0,0))):W.cell? (aj b 0)=V v:=by
 rw[oe h];rfl
theorem adw(w v d)(h:dE w v d)(dx:M d<=1048576)(cn:∀N∈d,iE N)(br:iL d=B3):
  B0 Ax 16 #[B6 #[v]] w λe w'=>e=A1 (B6 #[zI (bH d).1,zI (bH d).2])/\A3 w.heap.size w w':=by
 obtain⟨_,E,rfl⟩:=h.form;have dc:=jJ br;have C:=jG h cn br;have b8:¬(M d)=0:=O;have c7:¬3000<M d:=O;have bk:(d.getD (M d-1) zNd).k=1:=by
  omega
 obtain⟨N,F⟩:∃N,d[M d-1]?=V N:=⟨_,bm O⟩;rw[ed,F,li]at bk;obtain⟨z,rfl,_,_,cc⟩:=h.get F;have a5:=cc.c0;rw[bk]at a5;have df:∀a7 G,A3 w.heap.size w ((w.alloc a7).alloc G):=λa7 G=>((ay _ w).alloc O _).alloc I _;have⟨ao,bA⟩:=aw<|M d;have⟨y,hF⟩:=aw<|bH d;have p:=fs bA hF;rw[hF];rw[bA]at C a5 b8 c7⊢;obtain⟨a,d4⟩:∃a:Nat,ao=a+1:=⟨ao-1,O⟩;have ch:ao-1=a:=O;rw[ch]at a5;have ef:(0:Int)<=(a:Int):=O;have eg:¬(ao:Int)=0:=O;have eh:¬(3000:Int)<(ao:Int):=O;have ei:(a:Int)<(ao:Int):=O;have ek:(ao:Int)-1=(a:Int):=O;have es:(((a:Int)+1)==0)=B3:=U;have ev:decide ((3000:Int)<(a:Int)+1)=B3:=U;have e4:(a:Int)<(a:Int)+1:=O;have dk:∀a7 G,((w.alloc a7).alloc G).cell? (z.add<|a*9)=V (zI 1):=λa7 G=>ag (df _ _) a5;clear h br dc b8 bk F cc bA dx cn hF ch a5 eg eh ei ek;subst d4;go_in;go_wp2_with fail;generalize ca:(w.alloc _).alloc _=cB;obtain⟨b6,b3,b2, -⟩:=Eu ca;have el:adv w (X (V z) (a+1) E) cB:=⟨b6,b3,b2⟩;clear ca;have⟨bh,bo⟩:=aw<|jc (fI d) (a+1) 0;have bd:=ah bo;have cs:Bg (fI d) (a+1-0) 0 bh:=⟨bo⟩;clear bo b6 b3 b2 dk;go_loopw [39] (λk wr=>∃b:Nat,b<=a+1/\k=zI b/\Bg (fI d) (a+1-b) b bh/\adv w (X (V z) (a+1) E) wr) (λk _=>a+1-(A9 k).toNat)
 .grind
 .
  obtain⟨b,cf,rfl,n,u⟩:=hrel;clear el cs;have c:=n.out;by_cases d0:b<a+1
  .have⟨j,i⟩:=bg p.1 d0;have a6:(b:Int)<(a:Int)+1:=O;have a4:(0:Int)<=(b:Int):=O;have f:=aaE _ _ _ b _ (C.1.below u.bl) (by rw[p.out.1];omega) i<|C.2.1 _ U;have av:=dB u.tb;have⟨af,al,am⟩:=lB u.fb;rw[(O:a+1-b=(a+1-(b+1))+1),jc]at c;have l:fI d b=!(kK d b j):=by unfold fI;grind
   rw[l]at c;have a9:=ah u;cases hx:kK d b j with
   |true=>
    rw[hx]at f c;rw[aa Z]at c;have bc:Bg (fI d) (a+1-(b+1)) (b+1) bh:=⟨c⟩;clear c hx l i u n af al am;go_wp2_with (go_at_call 44;apply f.mono;rintro e H ⟨rfl,an⟩);exact⟨⟨_,O,by go_num,bc,a9.below an⟩,by simp[A9];omega⟩
   |false=>
    rw[hx]at f c;rw[ae Z]at c;have B:B7 (y=(2,(b:Int))):=by
     show y=(2,(b:Int));rw[<-p.out.2];unfold bH;rw[C.out.2.2,aa Z,p.out.1,bd.out,<-c];rfl
    clear c hx l i u n af al am;go_wp2_with fail;apply f.mono;rintro e H ⟨rfl,an⟩;have g:=a9.below an;have⟨af,al,am⟩:=lB g.fb;have q:=ah g;clear g an;go_wp2_with fail;have g:=q.out;exact aA (fD R _ _ _ _ _ _ _ R (sy g.fb 2 b) underlying49 R byR) R ⟨by rw[B.out],(g.bl.setCell I _).setCell I _⟩
  .obtain rfl:b=a+1:=O;rw[iI,jc]at c;have cv:=ah c.symm;have cb:=po (by rw[bd.out];grind);have a3:∀(A:Nat) N,d[A]?=V N->∀j∈N.ks,0<=j/\j<(A:Int):=λA N F j i=>by
    have bz:A<a+1:=by rw[<-p.out.1];grind
    have L:=cb A O O;unfold fI at L;rw[ed,F,li]at L;have f:kK d A N=Y:=U;unfold kK at f;have m:klB N.ks A (M N.ks) 0=Y:=by
     grind
    obtain⟨o,cm,rfl⟩:=iD i;have:=C9 _ A _ 0 m o O O;grind
   have bF:=adk _ _ _ (C.1.below u.bl) (by rw[p.out.1];omega) (λN F=>(C.2.1 N F).l2) a3;rw[p.out.1]at bF;have b4:=ah a3;have av:=dB u.tb;have a9:=ah u;have d9:=u.bl.size;have e3:w.heap.size+1<wr.heap.size:=ai u.fb;clear c cb a3 u n;go_wp2_with fail;apply bF.mono;rintro e H ⟨b7,rfl,bD,an⟩;have g:=a9.below an;have⟨r,hS⟩:=aw<|jh d;have b9:M r=a+1:=by rw[<-hS,mJ,p.out.1]
   rw[hS]at bD;have b5:B7 (jh d=r/\M r=a+1/\JA r):=⟨hS,b9,by rw[<-hS];exact Be _ (λN F j i=>by
    have⟨A,bz,e⟩:=iD F;exact(b4 A N U j i).1)⟩
   have q:=fs g bD;have⟨ba,bb⟩:=aw<|jc (gw r) (a+1) 0;have ep:=ah bb;have bc:Bg (gw r) (a+1-0) 0 ba:=⟨bb⟩;have bf:B7 (bH d=tf3 r (Ji d) (a+1) ba):=by
    show bH d=_;unfold bH;rw[C.out.2.2,aa Z,p.out.1,bd.out,cv.out,hS];show tf3 r (Ji d) (a+1) (jc (gw r) (a+1) 0)=_;rw[bb]
   clear hS b9 bb g bD an bF av;go_wp2;go_loop [53] (λk=>∃b:Nat,b<=a+1/\k=zI b/\Bg (gw r) (a+1-b) b ba) (λk=>a+1-(A9 k).toNat)
   .grind
   .
    obtain⟨b,_,rfl,n⟩:=hrel;clear bc;have c:=n.out;by_cases d3:b<a+1
    .have a6:(b:Int)<(a:Int)+1:=O;have a4:(0:Int)<=(b:Int):=O;have⟨j,i⟩:=bg b5.2.1 d3;have bj:H.cell? (aj b7 b)=V (zI j):=by rw[q.out.2.cellAt b O,cJ,i];rfl
     rw[(O:a+1-b=(a+1-(b+1))+1),jc]at c;have l:gw r b=(j==0):=by unfold gw;grind
     rw[l]at c;by_cases bE:j=0
     .subst bE;rw[ae Z]at c;have B:B7 (y=(3,(b:Int))):=by
       show y=(3,(b:Int));rw[<-p.out.2,bf.out,<-c];rfl
      have⟨af,al,am⟩:=lB q.1.fb;clear c l i n;go_wp2_with fail;have g:=q.1;exact aA (fD R _ _ _ _ _ _ _ R (sy g.fb 3 b) underlying49 R byR) R ⟨by rw[B.out],(g.bl.setCell I _).setCell I _⟩
     .rw[aa U]at c;have a8:Bg (gw r) (a+1-(b+1)) (b+1) ba:=⟨c⟩;clear c l i n;go_wp2;go_round
      .grind
      simp[A9];omega
    .obtain rfl:b=a+1:=O;rw[iI,jc]at c;have cw:=ah c.symm;obtain⟨j,i⟩:=bg b5.2.1 (O:a<a+1);have bj:H.cell? (aj b7 a)=V (zI j):=by rw[q.out.2.cellAt a O,cJ,i];rfl
     have a0:r.getD a 0=j:=U;have t:=bf.out;rw[cw.out,tf3,qm,a0]at t;by_cases ee:j=(a:Int)+1
     .rw[aa O]at t;have cy:=ah t;subst ee;have av:=dB q.1.tb;clear c t i a0 n;have⟨ef,bz,bE,ec,_⟩:=dw tD;have d7:=q.1.bl.size;go_wp2_with (at_make;apply FK _ R _ _ _ R _ 3 _ _ 1 underlying35 bz bE ec _ _ _ _ (a+1) R R R R U byM d7;intro cp cl a1;have bs:A3 H.heap.size H cp:=⟨a1.os,a1.tape,a1.output,a1.size,λb cf=>a1.block b cf I⟩;have cI:=ag bs av);rw[show(madeCells (zI 0).cells<|(a+1)*1).toList=B4 (a+1) (zI 0) by rw[zm];exact FG _ _]at cl;have b1:au1 w (X (V z) (a+1) E) H.heap.size (a+1) d (a+1) (B4 (a+1) 0) cp:=by
       refine⟨q.1.below bs,?_,⟨I,λx j i=>?_⟩,?_⟩
       .simp_all
       .grind
       .unfold Ji;rw[p.out.1]
      have d8:w.heap.size+1<H.heap.size:=ai q.1.fb;clear cl a1 bs cI av bj;have⟨s,a0⟩:=aw H.heap.size;rw[a0]at b1 d8⊢;have cx:=ah b1;clear b1 a0 q bf;go_loopw [8] (λk wr=>∃f D,f<=a+1/\k=zI (f-1)/\B7 (au1 w (X (V z) (a+1) E) s (a+1) d f D wr)) (λk _=>(A9 k+1).toNat)
      .grind
      .
       obtain⟨f,D,_,rfl,m⟩:=hrel;clear cx;cases f with
       |zero=>
        have bw:¬(0:Int)<=((0:Nat):Int)-1:=O;have ax:D=Ji d:=m.rest;have K:=jG m.tk m.row m.ok.1;have t:=cy.out;rw[<-ax]at t;have⟨ad,ap⟩:=aw<|jc (jK D) (a+1) 0;rw[ap,p.out.2]at t;have ar:=ah t;have bn:Bg (jK D) (a+1-0) 0 ad:=⟨ap⟩;clear t ap ax m;go_wp2;go_loop [110] (λk=>∃b:Nat,b<=a+1/\k=zI b/\Bg (jK D) (a+1-b) b ad) (λk=>a+1-(A9 k).toNat)
        .grind
        .
         obtain⟨b,_,rfl,n⟩:=hrel;clear bn;have c:=n.out;by_cases bt:b<a+1
         .have a6:(b:Int)<(a:Int)+1:=O;have a4:(0:Int)<=(b:Int):=O;have⟨j,i⟩:=bg K.2.2 bt;have bj:wr.cell? (aj s b)=V (zI j):=by rw[K.out.2.1.cellAt b O,cJ,i];rfl
          rw[(O:a+1-b=(a+1-(b+1))+1),jc]at c;have l:jK D b=decide (100<j):=by unfold jK;grind
          rw[l]at c;by_cases bx:100<j
          .rw[ae U]at c;have B:B7 (y=(4,(b:Int))):=by
            show y=(4,(b:Int));rw[ar.out,<-c];rfl
           have⟨af,al,am⟩:=lB K.1.fb;clear c l i n;go_wp2_with fail;have g:=K.1;exact aA (fD R _ _ _ _ _ _ _ R (sy g.fb 4 b) underlying49 R byR) R ⟨by rw[B.out],(g.bl.setCell I _).setCell I _⟩
          .rw[aa U]at c;have a8:Bg (jK D) (a+1-(b+1)) (b+1) ad:=⟨c⟩;clear c l i n;go_wp2;go_round
           .grind
           simp[A9];omega
         .obtain rfl:b=a+1:=O;rw[iI,jc]at c;have B:B7 (y=(0,0)):=by
           show y=(0,0);rw[ar.out,<-c];rfl
          have⟨af,al,am⟩:=lB K.1.fb;clear c n;go_wp2_with fail;have g:=K.1;exact aA (fD R _ _ _ _ _ _ _ R (sy g.fb 0 0) underlying49 R byR) R ⟨by rw[B.out],(g.bl.setCell I _).setCell I _⟩
       |succ f=>
        have c5:(((f+1:Nat)):Int)-1=(f:Int):=O;rw[c5];have e2:(f:Int)<(a:Int)+1:=O;have e1:(0:Int)<=(f:Int):=O;obtain⟨K,ax⟩:=bg p.1 (O:f<a+1);obtain⟨_,c9,_,_,bt⟩:=C.1.get ax;obtain rfl:=de c9;have c2:=ag m.tk.bl bt.c8;have a3:=b4.out f _ ax;have cg:=bt.hk;obtain⟨cF,c3,rfl⟩:=cg.form;have⟨ar,bn⟩:=aw<|M K.ks;have dz:=(C.2.1 _<|db ax).l2;rw[bn]at c2 dz;have ds:m.rest=m.rest:=rfl;have a6:dpN d f (dpK f K.ks D)=Ji d:=by
         have:=m.rest;rw[dpN,ed,ax,li]at this;omega
        have a8:=Cg bn a3 a6 ax;have av:=dB m.tk.tb;have cu:B7 (dt w (X cF ar c3) K.ks):=U;have cr:B7 (au2 w (X (V z) (a+1) E) s (a+1) f K.ks D 0 D wr):=⟨m.tk,m.row,m.ok,R⟩;have d9:=m.tk.bl.size;clear a3 cg a6 bt ax bn m ds;go_wp2;go_loopw [95] (λk en=>∃x ap,x<=ar/\k=zI x/\B7 (au2 w (X (V z) (a+1) E) s (a+1) f K.ks D x ap en)) (λk _=>ar-(A9 k).toNat)
        .grind
        .
         obtain⟨x,ap,_,rfl,l⟩:=hrel;clear cr;by_cases dq:x<ar
         .have eF:(x:Int)<(ar:Int):=O;have ey:(0:Int)<=(x:Int):=O;have⟨j,i⟩:=bg a8.1 dq;obtain⟨_,da,_⟩:=(cu.below l.tk.bl).get i;subst da;obtain⟨ea,_⟩:=a8.2.1 j U;obtain⟨o,rfl⟩:=iJ ea;have cm:o<f:=O;obtain⟨ad,bw⟩:=bg l.ok.1 (O:f<a+1);obtain⟨c6,cd⟩:=bg l.ok.1 (O:o<a+1);have ex:=l.ok.2 f _ bw;have a4:=l.row;have er:wr.cell? (aj s f)=V (zI ad):=by rw[a4.cellAt f O,cJ,bw];rfl
          have eq:wr.cell? (aj s o)=V (zI c6):=by rw[a4.cellAt o O,cJ,cd];rfl
          have ew:=a4.frozenAt o;have dn:=(a4.lt s R).1;have bx:ap.getD f 0=ad:=U;have G:=(a4.stored o<|zI<|ad+1).1;rw[<-List.map_set]at G;have b0:=l.ok.set f o O cm;rw[bx]at b0;have a6:dpK f (K.ks.drop<|x+1) (ap.set o<|ad+1)=dpK f K.ks D:=by
           have L:=l.rest;have ce:=(dr.1 i);rw[my ce.1,ce.2,dpK,bx]at L;exact L
          have d6:s≠w.heap.size:=O;have d5:s≠w.heap.size+1:=O;have ce:adv w (X (V z) (a+1) E) (wr.setCell (aj s o)<|zI<|ad+1):=
           ⟨(jg<|dG d6).trans l.tk.tb,(jg<|dG d5).trans l.tk.fb,l.tk.bl.setCell dn _⟩
          have eo:B7 (au2 w (X (V z) (a+1) E) s (a+1) f K.ks D (x+1) (ap.set o<|ad+1)<|wr.setCell (aj s o)<|zI<|ad+1):=⟨ce,G,b0,a6⟩;have e0:(o:Int)<(a:Int)+1:=O;have eL:(0:Int)<=(o:Int):=O;clear i l G b0 a6 ce a4 bw cd bx;go_wp2;exact⟨U,by simp[A9];omega⟩
         .obtain rfl:x=ar:=O;have o:B7 (au1 w (X (V z) (a+1) E) s (a+1) d f ap wr):=by
           refine⟨l.tk,l.row,l.ok,?_⟩;have L:=l.rest;rw[lG (by rw[a8.out.1];omega),dpK]at L;rw[L];exact a8.2.2.1
          clear l;go_wp2;exact⟨U,by simp[A9]⟩
     .rw[ae O]at t;have B:B7 (y=(3,(a:Int))):=by
       show y=(3,(a:Int));rw[<-p.out.2,t];grind
      have⟨af,al,am⟩:=lB q.1.fb;clear c t i a0 n;go_wp2_with fail;have g:=q.1;exact aA (fD R _ _ _ _ _ _ _ R (sy g.fb 3 a) underlying49 R byR) R ⟨by rw[B.out],(g.bl.setCell I _).setCell I _⟩
theorem Bh(w v a)(h:dE w v a)(b:M a<=1000000000000)(c:∀N∈a,iE N):
  B0 Ax 16 #[B6 #[v]] w λe w'=>e=A1 (B6 #[zI (bH a).1,zI (bH a).2])/\A3 w.heap.size w w':=by
 cases hb:iL a with
 |true=>
  have e:bH a=(1,0):=by unfold bH;grind
  rw[e];exact adu w v _ h b hb|false=>exact adw w v _ h (by have:=jJ hb;omega) c hb
structure au3 (ns:zLD):Prop where
 len:1<=M ns/\M ns<=3000
 kid:∀(i:Nat) N,ns[i]?=V N->∀z∈N.ks,0<=z/\z<(i:Int)
 kn:∀N∈ns,M N.ks<=200
def Is{o}(h:(tf4 o).1=0):o=B1:=by
 cases o with
 |none=>rfl|some a=>simp[tf4]at h
theorem yB(h:(bH ns).1=0):au3 ns:=by
 unfold bH at h;by_cases k:iL ns=Y
 .grind
 rw[aa k]at h;have l:iL ns=B3:=U;have p:=jJ l;obtain⟨d,f⟩:∃d,jc (fI ns) (M ns) 0=d:=⟨_,R⟩;rw[f]at h;cases d with
 |some a=>grind [tf2]|none=>
  have j:=po f;have g:∀(a:Nat) b,ns[a]?=V b->kK ns a b=Y:=λa b c=>by
   have m:a<M ns:=(dr.1 c).1;have e:=j a O O;grind [fI]
  refine⟨⟨?_,?_⟩,λa b c _ n=>?_,λb c=>?_⟩
  .omega
  .omega
  .have e:=g a b c;unfold kK at e;have i:klB b.ks a (M b.ks) 0=Y:=by
    grind
   obtain⟨o,_,rfl⟩:=iD n;have:=C9 _ a _ 0 i o O O;grind
  .have⟨a,m,_⟩:=iD c;have e:=g a b U;grind [kK,adt]
theorem It(h:(bH ns).1=0):∀(i) N,ns[i]?=V N->kK ns i N=Y:=by
 unfold bH at h;by_cases c:iL ns=Y
 .grind
 rw[aa c]at h;have⟨b,a⟩:=aw<|jc (fI ns) (M ns) 0;rw[a]at h;cases b with
 |some i=>grind [tf2]|none=>
  have d:=po a
  simp_all [dr,lg,fI]
theorem au4{a b d}(h:bC N a b B3 d=Y):N.x.size<=4000:=by
 unfold bC at h;simp only[dF,F9]at h;have:=aL h.1.2;have c:M N.x.toList=0:=U;rw[iH]at c
 simp_all
theorem ane{s}(h:lL s=Y):s.size<=4000:=by
 have:=(aL h).1;omega
theorem ax6{s}(h:fok s=Y):s.size<=4000:=by
 grind [fok]
def jf(h:kK ns i N=Y):pG ns N=Y/\M N.ks<=200:=by
 unfold kK at h;rw[dF,dF]at h;exact⟨h.2.2,(aL h.1).2.2.2⟩
theorem tH(h:pG ns N=Y)(a:17<=N.k:=by omega):jA ns N=Y:=by
 unfold pG at h
 rwa [aa (by grind [jE])]at h
theorem qE(h:pG ns N=Y)(a:1<=N.k/\N.k<=16:=by omega):stB ns N=Y:=by
 simp_all [pG,jE]
theorem anf(h:pG ns N=Y):(1<=N.k/\N.k<=16)\/(20<=N.k/\N.k<=37)\/(40<=N.k/\N.k<=42):=by
 by_cases a:1<=N.k/\N.k<=16
 .omega
 .unfold pG at h;rw[aa (by grind [jE])]at h;by_cases b:(20<=N.k/\N.k<=37)\/(40<=N.k/\N.k<=42)
  .omega
  .unfold jA at h
   repeat rw[aa O]at h
   cases h
theorem aaF(h:pG ns N=Y):bC N (decide (N.k=30\/N.k=31\/N.k=36)) (decide (N.k=5\/N.k=23)) (decide (N.k=24\/N.k=25\/N.k=26\/N.k=33\/N.k=42)) (decide (N.k=2\/N.k=3\/N.k=4\/N.k=9\/N.k=10\/N.k=14\/N.k=36))=Y:=by
 obtain g|g|g:=anf h
 .have h:=qE h g;unfold stB at h;obtain e|e|e|e|e|e|e|e|e|e|e|e|e|e|e|e:=(O:N.k=1\/N.k=2\/N.k=3\/N.k=4\/N.k=5\/N.k=6\/N.k=7\/N.k=8\/N.k=9\/N.k=10\/N.k=11\/N.k=12\/N.k=13\/N.k=14\/N.k=15\/N.k=16);all_goals (simp[e]at h;simp[e,h])
 .have h:=tH h;unfold jA at h;obtain e|e|e|e|e|e|e|e|e|e|e|e|e|e|e|e|e|e:=(O:N.k=20\/N.k=21\/N.k=22\/N.k=23\/N.k=24\/N.k=25\/N.k=26\/N.k=27\/N.k=28\/N.k=29\/N.k=30\/N.k=31\/N.k=32\/N.k=33\/N.k=34\/N.k=35\/N.k=36\/N.k=37);all_goals (simp[e]at h;simp[e,h])
 .have h:=tH h;unfold jA at h;obtain e|e|e:=(O:N.k=40\/N.k=41\/N.k=42);all_goals simp_all
theorem yC(h:kK ns i N=Y):N.x.size<=4000:=by
 have a:=(jf h).1;have c:=aaF a;by_cases b:N.k=24\/N.k=25\/N.k=26\/N.k=33\/N.k=42
 .have h:=tH a;unfold jA at h;obtain e|e|e|e|e:=b<;>simp[e]at h;all_goals (grind [ax6,ane])
 grind [decide_eq_false,au4]
theorem ahy(a):∀i,jh (a.take i)=(jh a).take i:=by
 refine C1 (p:=λa=>∀i,jh (a.take i)=(jh a).take i) ?_ ?_ a;all_goals (grind [jh,Nat.lt_or_ge,wK,mJ,List.take_of_length_le])
theorem ang(h:ns[i]?=V N):(jh ns).getD i 0=sx ((jh ns).take i) i N.ks:=by
 have c:i<M ns:=(dr.1 h).1;have a:ns.take (i+1)=ns.take i++[N]:=by grind [List.take_add_one]
 have b:=ahy ns<|i+1;rw[a,wK,ahy,mA,mJ,Lr O,gD]at b;grind [jh,List.getElem?_eq_getElem,mJ,List.append_cancel_left]
def xA(S:zLI):zLI->Int|[]=>0|k::l=>S.getD k.toNat 0+xA S l
theorem anh(S a b):xA S (a++b)=xA S a+xA S b:=by
 induction a with
 |nil=>simp[xA]|cons d e c=>grind [xA]
theorem ani(S l):xA S l.reverse=xA S l:=by
 induction l with
 |nil=>rfl|cons b l a=>simp_all [List.reverse_cons,anh,xA];omega
theorem ahz{S}:∀(l)(a b),Af S l a=V b->b=a-xA S l
 |[],a,b,h=>by grind [Af,xA]|k::r,a,b,h=>by
  rw[Af]at h;split at h
  .have:=ahz r _ _ h;grind [xA]
  grind
theorem anj(S)(i:Nat)(l)(h:∀k∈l,0<=k/\k<(i:Int)):xA (S.take i) l=xA S l:=by
 induction l with
 |nil=>rfl|cons k l a=>
  simp_all [xA]
structure ax7 (ns:zLD):Prop where
 at_:∀(i:Nat) N,ns[i]?=V N->(jh ns).getD i 0=1+xA (jh ns) N.ks
 le:∀i,(jh ns).getD i 0<=3000
theorem aq5(h:(bH ns).1=0):ax7 ns:=by
 have g:=yB h;unfold bH at h;by_cases o:iL ns=Y
 .grind
 rw[aa o]at h;have⟨k,m⟩:=aw<|jc (fI ns) (M ns) 0;rw[m]at h;cases k with
 |some a=>grind [tf2]|none=>
  rw[tf2]at h;have⟨l,j⟩:=aw<|jc (gw<|jh ns) (M ns) 0;rw[j]at h;cases l with
  |some a=>grind [tf3]|none=>
   have n:=po j;have p:JA (jh ns):=Be ns (λc b f e=>by
    have⟨a,hi,i⟩:=iD b;exact(g.kid a c U f e).1)
   refine⟨λa c b=>?_,λa=>?_⟩
   .have hi:a<M ns:=(dr.1 b).1;have d:=n a O O;unfold gw at d;rw[ang b]at d⊢;unfold sx at d⊢;cases hw:Af ((jh ns).take a) c.ks.reverse a with
    |none=>grind|some q=>
     have i:=ahz _ _ _ hw;rw[ani,anj _ _ _ (λf e=>g.kid a c b f e)]at i;grind
   .rcases cG a (M ns) with hi|hi
    .have d:(jh ns)[a]?=V ((jh ns).getD a 0):=by
      grind [List.getElem?_eq_getElem,mJ]
     have:=p a _ d;have:=g.len;omega
    grind [List.getElem?_eq_none,mJ]
theorem oa(a N j):gC a N j=(ab a<|dA N j).k:=rfl
theorem gI:∀f j,mK ns N f j=Y->∀q,j<=q->q<j+f->gh (ab ns<|dA N q).k=Y
 |0,j,_,q,a,b=>O|f+1,j,h,q,a,b=>by
  rw[mK,dF]at h;obtain rfl|h3:=jx a
  .exact h.1
  .exact gI f _ h.2 q h3 O
def Iu:∀f j,sbB ns N f j=Y->∀q,j<=q->q<j+f->jE (ab ns<|dA N q).k=Y
 |0,j,_,q,a,b=>O|f+1,j,h,q,a,b=>by
  rw[sbB,dF]at h;obtain rfl|h3:=jx a
  .exact h.1
  .exact Iu f _ h.2 q h3 O
def Kw{k}(h:xj k=Y):gh k=Y:=by
 have:=aL h;exact eI O
def ank:∀f j,tgB ns N f j=Y->∀q,j<=q->q<j+f->gh (ab ns<|dA N q).k=Y
 |0,j,_,q,a,b=>O|f+1,j,h,q,a,b=>by
  rw[tgB,dF]at h;obtain rfl|h3:=jx a
  .exact Kw h.1
  .exact ank f _ h.2 q h3 O
def adx:∀f j,enB ns N f j=Y->∀q,j<=q->q<j+f->40<=(ab ns<|dA N q).k/\(ab ns<|dA N q).k<=42
 |0,j,_,q,a,b=>O|f+1,j,h,q,a,b=>by
  rw[enB,dF]at h;obtain rfl|h3:=jx a
  .exact aL h.1
  .exact adx f _ h.2 q h3 O
structure Kid (ns:zLD) (i:Nat) (N:Nd) (j q:Nat):Prop where
 at_:N.ks[j]?=V (q:Int)
 lt:q<i
 len:q<M ns
 id:dA N j=(q:Int)
theorem ij(h:kK ns i N=Y)(c:i<M ns)(j)(d:j<M N.ks):∃q,Kid ns i N j q:=by
 unfold kK at h;rw[dF,dF]at h;have b:=C9 _ i _ 0 h.2.1 j O O;have a:N.ks[j]?=V (N.ks.getD j 0):=U;refine⟨(N.ks.getD j 0).toNat,?_,O,O,?_⟩
 .grind
 .show N.ks.getD j 0=_;omega
theorem pq{z}(h:z∈N.ks):∃j,j<M N.ks/\dA N j=z:=by
 have⟨j,a,_⟩:=iD h;exact⟨j,a,by grind [dA]⟩
def ng(h:pG ns N=Y)(a:N.k=28\/N.k=29\/N.k=31\/N.k=32\/N.k=41:=by omega):M N.ks=2/\mK ns N 2 0=Y/\(N.k=31->1<=N.op/\N.op<=18):=by
 have h:=tH h;unfold jA at h;obtain e|e|e|e|e:=a<;>simp[e]at h<;>exact⟨O,by simp[h],O⟩
theorem ou(h:pG ns N=Y)(a:N.k=30\/N.k=33\/N.k=37\/N.k=40\/N.k=42:=by omega):M N.ks=1/\gh (ab ns<|dA N 0).k=Y/\(N.k=30->19<=N.op/\N.op<=22):=by
 have h:=tH h;unfold jA at h;obtain e|e|e|e|e:=a<;>simp[e,oa]at h
 .grind [gI]
 .grind [gI]
 .exact⟨O,eI O,O⟩
 all_goals (grind [gI])
theorem Gm(h:pG ns N=Y)(a:N.k=34):1<=M N.ks/\mK ns N (M N.ks) 0=Y:=by
 have h:=tH h
 simp_all [jA,oa];omega
theorem Da(h:pG ns N=Y)(a:N.k=35):enB ns N (M N.ks) 0=Y:=by
 have h:=tH h
 simp_all [jA]
theorem Db{a b}(h:gi N a b=Y)(c:b<=200):a<=(M N.nm:Int)/\M N.nm<=200:=by
 grind [gi]
def ahA(h:pG ns N=Y)(a:N.k=36):M N.ks=1/\(ab ns<|dA N 0).k=1/\M N.nm<=200/\(N.op=0\/N.op=1):=by
 have h:=tH h;unfold jA at h;simp[a,oa]at h;exact⟨O,h.1.1.1.2,(Db h.1.2 O).2,h.2⟩
theorem vw(h:pG ns N=Y)(a:N.k=1):sbB ns N (M N.ks) 0=Y:=by
 have h:=qE h;grind [stB]
theorem anl(h:pG ns N=Y)(a:20<=N.k/\N.k<=27):M N.ks=0:=by
 have h:=tH h;grind [jA]
def sN(a:zLD)(i:Int):Nat:=((jh a).getD i.toNat 0).toNat
def sK(a:zLD):zLI->Nat|[]=>0|k::l=>sN a k+sK a l
theorem au5(c a b):sK c (a++b)=sK c a+sK c b:=by
 induction a with
 |nil=>simp[sK]|cons e f d=>grind [sK]
def Iv(a l n):sK a l=sK a (l.take n)+sK a (l.drop n):=by rw[<-au5,BE]
structure Szd (ns:zLD):Prop where
 nb:∀i:Nat,i<M ns->kK ns i (ab ns i)=Y
 at_:∀i:Nat,i<M ns->sN ns i=1+sK ns (ab ns i).ks
 le:∀i:Int,sN ns i<=3000
theorem aaG(h:(bH ns).1=0):Szd ns:=by
 have g:=aq5 h;have n:=yB h;have m:=It h;have l:JA (jh ns):=Be ns (λi j f k=>by
  have⟨a,b,c⟩:=iD j;exact(n.kid a i U f k).1)
 have p:∀a:Nat,0<=(jh ns).getD a 0:=by
  intro a;rw[ed];cases c:(jh ns)[a]? with
  |none=>decide|some d=>exact(l a d c).1
 have o:∀d:zLI,xA (jh ns) d=(sK ns d:Int):=by
  intro d
  induction d with
  |nil=>rfl|cons f q e=>
   grind [xA,sK,sN]
 have e:∀a:Nat,a<M ns->ns[a]?=V (ab ns a):=λa b=>by
  grind [ab]
 refine⟨λa b=>m a _<|e a b,λa b=>?_,λa=>?_⟩
 .have c:=g.at_ a _<|e a b;rw[o]at c;show((jh ns).getD (a:Int).toNat 0).toNat=_;grind
 .have:=g.le a.toNat;grind [sN]
theorem Kx(l):(cD l).size<=(l.map λx=>x.size+2).sum:=by
 have b:∀a,(cD<|l.take a).size<=((l.take a).map λx=>x.size+2).sum:=by
  intro a
  induction a with
  |zero=>show(B2).size<=_;simp_all|succ a d=>
   obtain h|h:=cG a<|M l
   .rw[rG l a _<|bm h,az,List.take_succ_eq_append_getElem h,ej,List.sum_append];have c:fj.size=2:=rfl;grind
   grind [List.take_of_length_le]
 have:=b<|M l;grind
theorem afr(c)(b:Int->Nat)(d a)(h:∀z∈a,b z+10000<=2000000*sN c z)(e:d<=10000):(a.map λz=>b z+d).sum<=2000000*sK c a:=by
 induction a with
 |nil=>grind|cons z g f=>
  grind [List.mem_cons_self,List.mem_cons_of_mem,sK,Nat.mul_add]
def xa(b E a)(h:∀z∈a,(E z).size+10000<=2000000*sN b z):(cD<|a.map E).size<=2000000*sK b a:=by
 apply bK<|Kx _;rw[List.map_map];exact afr b _ 2 a h O
theorem Dc(l)(h:∀s∈l,s.size<=4000):(cD l).size<=4002*M l:=by
 apply bK<|Kx _
 induction l with
 |nil=>grind|cons c b a=>
  grind
theorem Ky(l):(iw l).size=(l.map ByteArray.size).sum:=by
 have b:∀(a:Bz),(l.foldl (· ++·) a).size=a.size+(l.map ByteArray.size).sum:=by
  induction l with
  |nil=>grind|cons e d c=>grind
 have:=b B2
 simp_all [iw]
theorem au6(b S a tab)(f:tab<=9000)(h:∀z∈a,(S z<|tab+1).size+10000<=2000000*sN b z):(Ab S a tab).size+10000<=2000000*(1+sK b a)-900000:=by
 unfold Ab;by_cases c:a=[]
 .rw[ae c];show 2+10000<=_;omega
 .rw[aa c,az,az,az,Ky,so,List.map_map];have d:(a.map<|ByteArray.size ∘ λe=>gA (tab+1)++S e (tab+1))=a.map λz=>(S z<|tab+1).size+(tab+2):=by
   simp_all [List.map_congr_left,Function.comp,az,so];omega
  rw[d];have:=afr b _ (tab+2) a h O;show 1+_+(tab+1)+1+10000<=_;omega
theorem Dd(h:mK ns N 1 0=Y):gh (ab ns<|dA N 0).k=Y:=gI 1 0 h 0 O O
def aaH(h:pG ns N=Y)(a:N.k=2):mK ns N (M N.ks) 0=Y/\M N.nm<=200:=by
 have h:=qE h;unfold stB at h;simp only[a]at h;simp at h;exact⟨h.2,(Db h.1.2 O).2⟩
theorem De(h:pG ns N=Y)(a:N.k=3):M N.ks=1/\gh (ab ns<|dA N 0).k=Y/\M N.nm=1:=by
 have h:=qE h
 simp_all [stB,gi,dF,aL,Dd];omega
theorem aaI(h:pG ns N=Y)(a:N.k=4):M N.ks=1/\(ab ns<|dA N 0).k=36/\M N.nm=1:=by
 have h:=qE h;grind [stB,oa,gi]
theorem afs(h:pG ns N=Y)(a:N.k=5):1<=N.n/\N.n<(M N.ks:Int)/\tgB ns N N.n.toNat 0=Y/\mK ns N (M N.ks-N.n.toNat) N.n.toNat=Y:=by
 have h:=qE h;grind [stB]
def E4(h:pG ns N=Y)(a:N.k=6\/N.k=16):M N.ks=1/\(ab ns<|dA N 0).k=34:=by
 have h:=qE h;unfold stB at h;obtain e|e:=a<;>simp[e,oa]at h<;>exact⟨O,h.2⟩
theorem ahB(h:pG ns N=Y)(a:N.k=7):2<=M N.ks/\M N.ks<=3/\gh (ab ns<|dA N 0).k=Y/\(ab ns<|dA N 1).k=1/\(M N.ks=2\/(ab ns<|dA N 2).k=1\/(ab ns<|dA N 2).k=7):=by
 have h:=qE h
 simp_all [stB,oa,Dd];omega
theorem Df(h:pG ns N=Y)(a:N.k=8):M N.ks=2/\gh (ab ns<|dA N 0).k=Y/\(ab ns<|dA N 1).k=1:=by
 have h:=qE h;grind [stB,oa,Dd]
theorem aaJ(h:pG ns N=Y)(a:N.k=9):(M N.ks=3\/M N.ks=4)/\mK ns N (M N.ks-1) 0=Y/\(ab ns<|dA N<|M N.ks-1).k=1/\M N.nm=1:=by
 have h:=qE h
 simp_all [stB,oa,gi];omega
def Gn(h:pG ns N=Y)(a:N.k=10):M N.ks=2/\gh (ab ns<|dA N 0).k=Y/\(ab ns<|dA N 1).k=1/\M N.nm<=200:=by
 have h:=qE h;unfold stB at h;simp[a,oa]at h;exact⟨O,Dd h.1.2,h.2,(Db h.1.1.1.2 O).2⟩
theorem afu(h:pG ns N=Y)(a:N.k=13):mK ns N (M N.ks) 0=Y:=by
 have h:=qE h
 simp_all [stB]
def aaK(h:pG ns N=Y)(a:N.k=14):M N.ks=2/\(ab ns<|dA N 0).k=1/\(ab ns<|dA N 1).k=1/\M N.nm<=200:=by
 have h:=qE h;unfold stB at h;simp[a,oa]at h;exact⟨O,h.1.2,h.2,(Db h.1.1.1.2 O).2⟩
theorem Dg(h:pG ns N=Y)(a:N.k=15):M N.ks=1/\gh (ab ns<|dA N 0).k=Y:=by
 have h:=qE h
 simp_all [stB,Dd];omega
theorem ahC{l}:∀f j,yc l f j=Y->∀q,j<=q->q<j+f->lL (l.getD q B2)=Y
 |0,j,_,q,a,b=>O|f+1,j,h,q,a,b=>by
  rw[yc,dF]at h;obtain rfl|h3:=jx a
  .grind
  .exact ahC f _ h.2 q h3 O
theorem oD{a b}(h:gi N a b=Y):(∀s∈N.nm,lL s=Y)/\a<=(M N.nm:Int)/\(M N.nm:Int)<=b:=by
 unfold gi at h;rw[dF]at h;refine⟨λs c=>?_,aL h.1⟩;have⟨d,_,_⟩:=iD c;have:=ahC _ 0 h.2 d O O;grind
theorem as0(h:pG ns N=Y):∀s∈N.nm,lL s=Y:=by
 have c:=aaF h;by_cases a:N.k=2\/N.k=3\/N.k=4\/N.k=9\/N.k=10\/N.k=14\/N.k=36
 .by_cases b:N.k=36
  .have h:=tH h;unfold jA at h;simp[b]at h;exact(oD h.1.2).1
  .have h:=qE h;unfold stB at h;obtain e|e|e|e|e|e|e:=a<;>simp[e]at h
   .exact(oD h.1.2).1
   .exact(oD h.1.1.2).1
   .exact(oD h.1.1.2).1
   .exact(oD h.2.1).1
   .exact(oD h.1.1.1.2).1
   .exact(oD h.1.1.1.2).1
 grind [decide_eq_false,bC]
theorem vy(h:pG ns N=Y):∀s∈N.nm,s.size<=4000:=λs a=>ane<|as0 h s a
theorem yD(h):N.ks[j]=dA N j:=by grind [dA]
def uq(a)(h:M N.ks=1):sK a N.ks=sN a (dA N 0):=by
 unfold dA
 match e:N.ks,h with
 |[b],_=>rfl
def Ed(a)(h:M N.ks=2):sK a N.ks=sN a (dA N 0)+sN a (dA N 1):=by
 unfold dA
 match e:N.ks,h with
 |[b,c],_=>rfl
theorem anm(a)(h:M N.ks=3):sK a N.ks=sN a (dA N 0)+sN a (dA N 1)+sN a (dA N 2):=by
 unfold dA
 match e:N.ks,h with
 |[b,c,d],_=>grind [sK]
def aq6(a)(h:0<M N.ks):sK a N.ks=sK a (N.ks.take<|M N.ks-1)+sN a (dA N<|M N.ks-1):=by
 rw[Iv a _<|M N.ks-1]
 congr 1
 rw[my O,yD,lG O];rfl
def aq7(b)(h:0<M N.ks):sK b N.ks=sN b (dA N 0)+sK b (N.ks.drop 1):=by
 rw[Iv b _ 1]
 congr 1
 unfold dA
 match e:N.ks,h with
 |a::c,_=>rfl
theorem Ee(n)(a:n<=9223372036854775807):(Aa n).size<=30:=by
 unfold Aa;split
 .simp[yk]
 .rename_i b;have:=Lib.itoa_length_le n O a;show(Lib.decDigits n.toNat).toArray.size<=30;grind [List.size_toArray,Lib.itoa]
theorem ann(N)(b:N.x.size<=4000)(a:N.n<=9223372036854775807):(Fk N).size<=20000:=by
 unfold Fk
 (repeat' split)
 .show 3<=_;omega
 .show 4<=_;omega
 .show 5<=_;omega
 .grind [Ee]
 .omega
 .have:=zA N.x;grind [ye]
 .show 3<=_;omega
 simp_all
theorem Kz(a E k least):(je a E k least).size<=(E k).size+2:=by
 grind [je,zE]
theorem aaL(a E k):(Hn a E k).size<=(E k).size+2:=by
 grind [Hn,zE]
theorem aq8(a N):(unS a N).size<=4:=by
 unfold unS
 (repeat' split)
 .show 4<=4;omega
 .show 1<=4;omega
 .show 1<=4;omega
 .show 2<=4;omega
 .show 1<=4;omega
theorem Iy{a}(h:1<=a/\a<=18):(rK<|60+a).size<=4:=by
 obtain⟨_,_⟩:=h;obtain rfl|rfl|rfl|rfl|rfl|rfl|rfl|rfl|rfl|rfl|rfl|rfl|rfl|rfl|rfl|rfl|rfl|rfl:=(O:a=1\/a=2\/a=3\/a=4\/a=5\/a=6\/a=7\/a=8\/a=9\/a=10\/a=11\/a=12\/a=13\/a=14\/a=15\/a=16\/a=17\/a=18);all_goals decide+kernel
structure SzE (ns:zLD) (E:Int->Bz) (S:Int->Nat->Bz) (i:Nat) (tab:Nat):Prop where
 e:∀z:Nat,z<i->(E z).size+10000<=2000000*sN ns z
 s:∀z:Nat,z<i->(S z<|tab+1).size+10000<=2000000*sN ns z
def SzE.kid(h:SzE ns E S i tab)(d:Szd ns){q}(k:q<=i)(a:q<M ns):∀z∈(ab ns q).ks,(E z).size+10000<=2000000*sN ns z/\(S z<|tab+1).size+10000<=2000000*sN ns z:=by
 intro z g;obtain⟨j,f,rfl⟩:=pq g;have⟨c,b⟩:=ij (d.nb q a) a j f;rw[b.id];have:=b.lt;exact⟨h.e c O,h.s c O⟩
def SzE.blk(h:SzE ns E S i tab)(d:Szd ns)(c:tab<=9000){q}(b:q<=i)(a:q<M ns):(Ab S (ab ns q).ks tab).size+910000<=2000000*sN ns q:=by
 have:=au6 ns S _ tab c (λf e=>(h.kid d b a f e).2);rw[d.at_ q a];omega
theorem ano(h:pG ns N=Y)(b:M N.nm<=200):(Fl N).size<=810000:=by
 unfold Fl;have:=Dc _<|vy h;simp only[az];have a:(ite (N.op=1) (ite (N.nm=[]) (⟨#[46,46,46]⟩:Bz)<|fj++⟨#[46,46,46]⟩) B2).size<=5:=by
  (repeat' split)
  .show 3<=5;omega
  .show 5<=5;omega
  simp_all
 show 1+_+_+2<=_;omega
def SzE.bod(h:SzE ns E S i tab)(d:Szd ns)(j:tab<=9000){q}(g:q<=i)(a:q<M ns)(f:(ab ns q).k=36):(CH ns S (ab ns q) tab).size+20000<=2000000*sN ns q:=by
 have⟨c,_,e,_⟩:=ahA (jf<|d.nb q a).1 f;have⟨_,b⟩:=ij (d.nb q a) a 0 O;have l:=h.blk d j (bK (gL b.lt) g) b.len;unfold CH;rw[az,b.id,d.at_ q a,uq ns c,b.id];have:=ano (jf<|d.nb q a).1 e;omega
def anp(h:SzE ns E S i tab)(d:Szd ns){q}(s:q<=i)(b:q<M ns)(r:40<=(ab ns q).k/\(ab ns q).k<=42):(uK ns E<|ab ns q).size+10000<=2000000*sN ns q:=by
 have m:=(jf<|d.nb q b).1;have t:=yC<|d.nb q b;have g:=λp o=>ij (d.nb q b) b p o;rw[d.at_ q b];unfold uK;by_cases j:(ab ns q).k=41
 .rw[ae j];have⟨f,_,_⟩:=ng m;have⟨c,a⟩:=g 0 O;have⟨n,l⟩:=g 1 O;rw[Ed ns f,a.id,l.id];have:=h.e c (by have:=a.lt;omega);have:=h.e n (by have:=l.lt;omega);simp only[az];show 1+_+4+_+_<=_;omega
 .rw[aa j];obtain⟨f,_,_⟩:=ou m O;have⟨c,a⟩:=g 0 O;rw[uq ns f,a.id];have:=h.e c (by have:=a.lt;omega);split
  .simp only[az];show 1+_+3+_+_<=_;omega
  .omega
theorem anq(h:SzE ns E S i tab)(d:Szd ns)(F:tab<=9000)(c:i<M ns)(C:(ab ns i).n<=9223372036854775807):(prE ns E S (ab ns i) tab).size+10000<=2000000*sN ns i:=by
 have j:=(jf<|d.nb i c).1;have G:=yC<|d.nb i c;have g:=λl q=>ij (d.nb i c) c l q;have s:∀(t:Bz)(A:Int),t.size<=100->((ab ns i).k=28\/(ab ns i).k=29\/(ab ns i).k=31\/(ab ns i).k=32\/(ab ns i).k=41)->(D3 ns E (ab ns i) t A).size+10000<=2000000*sN ns i:=by
  intro t A _ o;have⟨f,_,_⟩:=ng j o;have⟨b,a⟩:=g 0 O;have⟨m,k⟩:=g 1 O;rw[d.at_ i c,Ed ns f,a.id,k.id];unfold D3;rw[a.id,k.id];have:=h.e b a.lt;have:=h.e m k.lt;grind [Kz,ym,ab,uj]
 unfold prE;by_cases u:(ab ns i).k=28
 .rw[ae u];exact s _ _ (by show 5<=100;omega) O
 rw[aa u];by_cases v:(ab ns i).k=29
 .rw[ae v];exact s _ _ (by show 4<=100;omega) O
 rw[aa v];by_cases o:(ab ns i).k=31
 .rw[ae o];have:=Iy<|(ng j).2.2 o;exact s _ _ (by simp[az];show 1+_+1<=_;omega) O
 rw[aa o];by_cases w:(ab ns i).k=30
 .rw[ae w];have⟨f,_,_⟩:=ou j;have⟨b,a⟩:=g 0 O;rw[d.at_ i c,uq ns f,a.id];unfold unB;rw[a.id];have:=h.e b a.lt;grind [Kz,aq8,ab]
 rw[aa w];by_cases x:(ab ns i).k=32
 .rw[ae x];have⟨f,_,_⟩:=ng j;have⟨b,a⟩:=g 0 O;have⟨m,k⟩:=g 1 O;rw[d.at_ i c,Ed ns f,a.id,k.id];have:=h.e b a.lt;have:=h.e m k.lt;have:=aaL ns E b;simp only[az];show _+1+_+1+_<=_;omega
 rw[aa x];by_cases y:(ab ns i).k=33
 .rw[ae y];have⟨f,_,_⟩:=ou j;have⟨b,a⟩:=g 0 O;rw[d.at_ i c,uq ns f,a.id];have:=h.e b a.lt;have:=aaL ns E b;simp only[az];show _+(1+_)+_<=_;omega
 rw[aa y];by_cases k:(ab ns i).k=34
 .rw[ae k];have⟨f,_⟩:=Gm j k;have⟨b,a⟩:=g 0 O;rw[d.at_ i c,aq7 ns O,a.id];have:=h.e b a.lt;have:=aaL ns E b;have:=xa ns E ((ab ns i).ks.drop 1) (λB r=>(h.kid d O c B<|List.mem_of_mem_drop r).1);simp only[az];show _+1+_+1+_<=_;omega
 rw[aa k];by_cases m:(ab ns i).k=35
 .rw[ae m];unfold ae1;have f:=Da j m;have:=xa ns (λH=>uK ns E _) _ (λB r=>by
   obtain⟨l,q,rfl⟩:=pq r;have⟨_,p⟩:=g l q;have z:=adx _ 0 f l O O;rw[p.id]at z⊢;exact anp h d (gL p.lt) p.len z)
  rw[d.at_ i c];simp only[az];show 1+_+1+_<=_;omega
 rw[aa m];by_cases p:(ab ns i).k=36
 .rw[ae p];have:=h.bod d F O c p;simp only[az];show 2+_+_<=_;omega
 rw[aa p];by_cases r:(ab ns i).k=37
 .rw[ae r];have⟨f,_,_⟩:=ou j;have⟨b,a⟩:=g 0 O;rw[d.at_ i c,uq ns f,a.id,zE];have:=h.e b a.lt;omega
 rw[aa r];have:=ann _ G C;rw[d.at_ i c];omega
structure Im where
 N:Nd
 b:Nat
 vn:A2
 kv:A2
abbrev zLJ:=List Im
def nV(x:Im):A2:=iF x.N.k x.b
def sD(L:zLJ)(ks:zLI):zLV:=ks.map λb=>match L[b.toNat]? with|some a=>nV a|none=> C2
structure oy (W:A0) (base:Nat) (vs:A2) (L:zLJ):Prop where
 row:W.ownsRow base 64 1 vs (M L) (L.map nV)
 box:∀(i:Nat) x,L[i]?=V x->im W x.b x.N x.vn i x.kv
 kid:∀(i:Nat) x,L[i]?=V x->W.ownsRow base 64 1 x.kv (M x.N.ks) (sD (L.take i) x.N.ks)
 far:∀x∈L,x.kv.ownBlock=B1\/x.kv.ownBlock≠vs.ownBlock
 rng:∀(i:Nat) x z,L[i]?=V x->z∈x.N.ks->0<=z/\z<(i:Int)
def im.below{a}(h:im W b N vn a kv)(c:A3 W.heap.size W W'):im W' b N vn a kv:=(c.block _<|ai h).trans h
def oy.below{e L}(h:oy W e vs L)(a:A3 W.heap.size W W'):oy W' e vs L:=
 ⟨cj h.row a,λc d b=>(h.box c d b).below a,λc d b=>cj (h.kid c d b) a,h.far,h.rng⟩
def ut{a}{f g:zAV}{d e h i}(j:W.heap[a]?=V (A5 f d h))(k:W.heap[b]?=V (A5 g e i))(l:d≠e):a≠b:=by
 rintro rfl;have c:=j.symm.trans k;simp[vI]at c;exact l c.2.1
def sE(c):BB c≠64/\BB c≠157/\BB c≠37:=by
 unfold BB;split<;>decide
def ID{mb}{cs:zAV}{t f}(h:W.ownsMap Ax 9 (plainElem (H:=Unit) Ax 3) mb 22 (Dt 22))(c:W.heap[b]?=V (A5 cs t f)):mb≠b:=by
 rintro rfl;obtain⟨_,_,a,_⟩:=h;rw[c]at a;cases a
def ahI(W:A0)(g:Nat):Prop:=∃a,W.heap[g]?=V (A5 a 64 (0,0))
def rH{b g}{xs:zLV}(h:W.ownsRow b 64 1 v n xs)(c:v.ownBlock=V g):ahI W g/\b<=g:=by
 obtain⟨_,rfl⟩|⟨e,_,rfl⟩:=aC h
 .simp[B5]at c
 .obtain rfl:e=g:=by simpa [B5] using c
  obtain⟨a,_⟩|⟨_,_,d,a,f,i,_⟩:=h.2
  .cases a
  .cases a;exact⟨⟨d,i⟩,f⟩
structure Fy (w0:A0) (lb mb p bn:Nat) (vs:A2) (L:zLJ) (N:Nd) (vn vk kv:A2) (j:Nat) (W:A0):Prop where
 lk:Lk W lb mb vs
 ns:oy W w0.heap.size vs L
 rb:nA p W 37 N vn vk
 bx:im W bn N vn (M L) kv
 kr:W.ownsRow w0.heap.size 64 1 kv j (sD L<|N.ks.take j)
 fr:kv.ownBlock=B1\/kv.ownBlock≠vs.ownBlock
 fo:∀x∈L,x.kv.ownBlock=B1\/x.kv.ownBlock≠kv.ownBlock
 bl:A3 w0.heap.size w0 W
 lo:w0.heap.size<=lb/\w0.heap.size<=bn/\w0.heap.size<=p
def Fy.below{lb mb p b L c}(h:Fy w0 lb mb p b vs L N vn c kv j W)(a:A3 W.heap.size W W'):Fy w0 lb mb p b vs L N vn c kv j W':=
 ⟨h.lk.below a,h.ns.below a,h.rb.below a,h.bx.below a,cj h.kr a,h.fr,h.fo,h.bl.trans<|a.mono h.bl.size,h.lo⟩
def Fy.kid{lb mb p b L G}(am:qy w0)(h:Fy w0 lb mb p b vs L N vn G kv j W)(s:W.grownBy W' kv.ownBlock){g i H}(v:W'.ownsRow w0.heap.size 64 1 (bI g (j+1) i) (j+1) (sD L<|N.ks.take<|j+1))(al:kv.ownBlock=V g\/g=H)(ao:W.heap.size=H):
  im W' b N vn (M L) kv/\Fy w0 lb mb p b vs L N vn G (bI g (j+1) i) (j+1) (W'.setCell (aj b 5)<|bI g (j+1) i):=by
 have y:∀a,kv.ownBlock=V a->ahI W a/\w0.heap.size<=a:=λa t=>rH h.kr t;have w:∀{q:Nat}{r:zAV}{k:Br},W.heap[q]?=V (A5 r k (0,0))->k≠64->W'.heap[q]?=V (A5 r k (0,0)):=λf z=>
  (s.block _ (ai f) (λe=>by obtain⟨⟨u,c⟩,_⟩:=y _ e.symm;exact ut f c z R)).trans f
 have l:im W' b N vn (M L) kv:=w h.bx (sE _).1;have af:=h.bl.grown s h.bl.size (λa t=>(y a t).2);have C:A3 w0.heap.size w0 (W'.setCell (aj b 5)<|bI g (j+1) i):=af.setCell h.lo.2.1 _;have set:∀{q:Nat}{r:zAV}{k:Br},W'.heap[q]?=V (A5 r k (0,0))->k≠BB (eG N.k)->(W'.setCell (aj b 5)<|bI g (j+1) i).heap[q]?=V (A5 r k (0,0)):=λf z=>
  (jg (λe=>by exact ut f l z e)).trans f
 have A:∀{F:A2}{E:Nat}{ad:zLV},W'.ownsRow w0.heap.size 64 1 F E ad->(W'.setCell (aj b 5)<|bI g (j+1) i).ownsRow w0.heap.size 64 1 F E ad:=λv=>
  v.kept ⟨R,R,R,by simp[World.setCell],λa t n=>jg (λe=>n (by rw[e]))⟩ (by
   cases hv:B5 _ with
   |none=>exact .inl R|some a=>exact .inr (λe=>by have⟨⟨u,c⟩,_⟩:=rH v hv;obtain rfl:=de e;exact ut l c (sE _).1 R))
 have K:vs.ownBlock=B1\/vs.ownBlock≠kv.ownBlock:=by
  obtain e|e:=h.fr
  .cases hv:vs.ownBlock with
   |none=>exact .inl R|some a=>rw[e];exact .inr I
  .exact .inr (dG e)
 have B:∀a,a<W.heap.size->kv.ownBlock≠V a->V g≠V a:=λa t n e=>by
  obtain rfl:=de e;obtain e2|e2:=al
  .exact n e2
  .omega
 refine⟨l,⟨⟨set (w h.lk.b Z)<|dG (sE _).2.1,?_,am.keep C⟩,⟨A<|h.ns.row.kept s K,?_,?_,h.ns.far,h.ns.rng⟩,set (w h.rb Z)<|dG (sE _).2.2,?_,A v,?_,?_,C,h.lo⟩⟩
 .have d:=wL h.lk.m<|s.block _ h.lk.m.lt (λe=>by obtain⟨⟨u,c⟩,_⟩:=y _ e.symm;exact ID h.lk.m c R);exact wL d<|jg (λe=>by exact ID d l e)
 .intro o c d;have f:=w (h.ns.box o c d) (sE _).1;by_cases n:c.b=b
  .exfalso;have x:=h.ns.box o c d;have e2:=h.bx;unfold im at x e2;rw[n,e2]at x;have ak:=congrArg (λan=>match an with|some (Obj.cells u _ _)=>u[4]?|_=>B1) x;simp at ak;have ap:=(dr.1 d).1;omega
  .exact(jg n).trans f
 .intro o c d;exact A<|(h.ns.kid o c d).kept s<|h.fo c<|db d
 .unfold im at l⊢;have:=aD W' b 5 _ _ (bI g (j+1) i) l;rw[this];simp
 .refine .inr λe=>?_;have u:=e.symm;have x:=(h.ns.row.lt g u).2;exact B g x (by obtain e2|e2:=K;rw[e2]at u;cases u;rw[u]at e2;exact dG e2) R
 .intro c d;cases hxk:c.kv.ownBlock with
  |none=>exact .inl R|some a=>
   refine .inr λe=>?_;have⟨o,ak,u⟩:=iD d;have x:=((h.ns.kid o c (by rw[bm ak,u])).lt a hxk).2;refine B a x ?_ e.symm;obtain e2|e2:=h.fo c d
   .rw[hxk]at e2;cases e2
   .rw[hxk]at e2;exact dG e2
structure Ps (w0:A0) (vb:Nat) (T:Bz) (W:A0):Prop where
 pg:Pg w0 T W
 ne:vb≠w0.heap.size
 vi:W.heap[vb]?=V (.cells (ae2 vb) 162 (0,0))
def Ps.below{b}(h:Ps w0 b T W)(a:A3 W.heap.size W W'):Ps w0 b T W':=
 ⟨h.pg.below a,h.ne,(a.block _<|ai h.vi).trans h.vi⟩
def Ps.next{a b}(h:Ps w0 a T W)(p:Pg w0 b W')(k:Kq w0.heap.size W W'):Ps w0 a b W':=
 ⟨p,h.ne,(k.block a (ai h.vi) h.ne (λ_ _ c=>by rw[h.vi]at c;cases c)).trans h.vi⟩
def Pw(a:A0)(c:Nat)(f:FuncId)(args:zAV)(d:Bz):Prop:=
 ∀(b:Bz)(W':A0),Ps a c b W'->B0 Ax f args W' λe w'=>e=A1 (.tuple #[])/\Ps a c (b++d) w'/\Kq a.heap.size W' w'
abbrev vP(a:Nat):A2:=be a 0
def mm(a i t)(s:Bz)(h:s.size<=100000000):Pw a i 403 #[th a t,B9 s] s:=λd e b=>
 (ap3 a t d s e b.pg h).mono λ_ _ ⟨f,g,c⟩=>⟨f,b.next g c,c⟩
def aa5(a i t)(h:t<=1000000):Pw a i 402 #[th a t] (gA t):=λd e b=>
 (acz a t h d e b.pg).mono λ_ _ ⟨f,g,c⟩=>⟨f,b.next g c,c⟩
def imD:Im:=⟨ndD,0,C2,C2⟩
def qj(L:zLJ)(z:Int):Im:=L.getD z.toNat imD
def uu(W:A0)(L:zLJ)(v:A2)(b:zLI):Prop:=
 (b=[]/\∃a c,v=X a 0 c)\/∃a c,v=X (V a) (M b) c/\M b<=c/\∀j d,b[j]?=V d->W.cell? (a.add j)=V (nV<|qj L d)
def uu.below{L a}(h:uu W L v a)(g:A3 W.heap.size W W'):uu W' L v a:=by
 obtain h|⟨b,c,d,e,f⟩:=h
 .exact .inl h
 .exact .inr ⟨b,c,d,e,λj k i=>ag g<|f j k i⟩
theorem uu.form{L b}(h:uu W L v b):∃a c,v=X a (M b) c:=by
 obtain⟨rfl,a,c,rfl⟩|⟨a,c,rfl,_⟩:=h;all_goals simp_all
theorem uu.get{L}{a:zOA}{d}(h:uu W L (X a n c) d){z}(e:d[j]?=V z):∃b,a=V b/\M d<=c/\W.cell? (b.add j)=V (nV<|qj L z):=by
 obtain⟨rfl,_⟩|⟨b,_,_,_,_⟩:=h;all_goals grind
def vB(b:A2):Prop:=∀a n c,b=X (V a) n c->n<=c/\a=⟨a.block,a.off,B1⟩
structure Tp (w0:A0) (ns:zLD) (L:zLJ) (base:Nat) (vs:A2):Prop where
 at_:oy w0 base vs L
 map:L.map Im.N=ns
 nms:∀x∈L,bv w0 x.vn x.N.nm
 jn:∀x∈L,vB x.vn
def ax9{L:zLJ}(h:L.map Im.N=ns)(z):(qj L z).N=ab ns z:=by
 unfold qj ab;rw[<-h,ed,ed,cJ];cases L[z.toNat]?<;>rfl
structure NdQ (w0:A0) (L:zLJ) (N:Nd) (b:Nat) (vn:A2) (a:zOA) (n c:Nat):Prop where
 hn:M N.ks=n
 rd:∀W,A3 w0.heap.size w0 W->∃num,im W b N vn num<|.slice a n c
 ks:uu w0 L (.slice a n c) N.ks
 nm:bv w0 vn N.nm
 jn:vB vn
theorem Ai{L s}(d:Tp w0 ns L s vs)(r:i<M ns):∃b vn a n c,nV (qj L i)= .iface (nC<|eG (ab ns i).k) (be b 0)/\NdQ w0 L (ab ns i) b vn a n c:=by
 have C:i<M L:=by rw[<-d.map,dm]at r;exact r
 have f:L[i]?=V (qj L i):=by
  unfold qj;grind
 have h:=ax9 d.map i;have w:=d.at_.box i _ f;have j:=d.at_.kid i _ f;have⟨a,c,x⟩:=aF j;have B:uu w0 L (qj L i).kv (qj L i).N.ks:=by
  obtain⟨g,q⟩|⟨o,t,_,g,q,_,u,_,_,_⟩:=j.2
  .exact .inl ⟨ze q,B1,0,g⟩
  .refine .inr ⟨_,t,g,u,λm e l=>?_⟩;have A:=(dr.1 l).1;have p:=j;rw[g]at p;have v:(⟨o,0,B1⟩:Addr).add m=⟨o,m,B1⟩:=by unfold Addr.add;grind
   rw[v,p.cellAt m O];unfold sD;rw[cJ,l];obtain⟨z0,_⟩:=d.at_.rng i _ e f<|db l;have E:e.toNat<M L:=O;have y:(L.take i)[e.toNat]?=V (L[e.toNat]):=U;have z:qj L e=L[e.toNat]:=by unfold qj;grind
   grind
 refine⟨(qj L i).b,_,a,_,c,?_,R,λ_ e=>⟨i,?_⟩,?_,?_,d.jn _<|db f⟩
 .rw[<-h];rfl
 .rw[<-h,<-x];exact w.below e
 .grind
 .rw[<-h];exact d.nms _<|db f
theorem NdQ.cells{L a}(h:NdQ w0 L N b vn a n c)(e:A3 w0.heap.size w0 W):W.cell? (aj b 0)=V (zI N.k)/\W.cell? (aj b 5)=V (X a n c)/\∀v,(exT N vn<|eG N.k)[0]?=V v->W.cell? (aj b 6)=V v:=by
 have⟨_,d⟩:=h.rd W e;unfold im at d;refine⟨crV d,crV d,λv _=>?_⟩;rw[oe d];grind
abbrev Jk(b:A0)(a:Nat)(L:zLJ)(t:Nat)(z:Int)(c:Bz):Prop:=Pw b a 106 #[vP a,kH b t,nV<|qj L z] c
def sF(k b w):(method 520 (nC k) (be b 0) "loop.example/warp/impl.head").run Ax w= .ok (404,be b 0) w:=by
 match k with
 |0=>exact vf 0 b w|1=>exact vf 1 b w|2=>exact vf 2 b w|3=>exact vf 3 b w|4=>exact vf 4 b w|5=>exact vf 5 b w|k+6=>exact vf 6 b w
def Ps.mth{a}(h:Ps w0 a T W){k}(b:(ae2 a)[k]?=V v):W.cell? (aj a k)=V v:=by
 rw[oe h.vi];exact b
theorem anB(c a o L A K)(z:Tp c o L A K)(t i)(E:i<M o)(b:Nat)(m:(ab o i).k=(b:Int))(an:b<43)(f)(l:(ae2 a)[b]?=V (mv a f))(ak:∀(args:zAV) (w),(callFunc f args).run Ax w= .ok (.enter f args) w)(r)
  (v:Pw c a f #[vP a,kH c t,nV<|qj L i] r):Jk c a L t i r:=by
 intro p w e;obtain⟨h,_,_,_,_,n,j⟩:=Ai z E;rw[m]at n;have B:=(j.cells e.pg.bel).1;rw[m]at B;have af:=e.mth l;have H:=λw=>eD h w;have F:=λw=>sF (eG b) h w;have g:=ah v;have u:=e.below blW;have y:B7 (Ps c a p w/\Ps c a p w.drew):=⟨e,u⟩;have sX:B7 (∀q d,Ps c a q d->d.cell? (aj h 0)=V (zI (b:Int))/\d.cell? (aj a b)=V (mv a f)):=λq d s=>⟨by have:=(j.cells s.pg.bel).1;grind,s.mth l⟩;rw[n]at g⊢;generalize kH c t=ao at g⊢;generalize nC (eG (b:Int))=ap at g F⊢;have al:(0:Int)<=(b:Int):=O;have am:(b:Int)<43:=O;clear v n j e l m u;go_enter func106,ntmps106;go_wp2_with fail;go_region_held3 (λd=>d.cell? (aj h 0)=V (zI (b:Int))/\d.cell? (aj a b)=V (mv a f)) (first|exact sX.out _ _ _|exact sX.out _ _ x|go_keep) (first|(go_at_call 404;apply(H _).mono;rintro C ad ⟨rfl,_⟩;subst ad)|(refine(g.out _ _ y.out.2).mono ?_;rintro C _ ⟨rfl,x,G⟩))
 go_wp2_with fail;go_end0
 exact⟨R,x,(Kq.of_below blW).trans G⟩
abbrev I6(z:Int):Prop:= -9223372036854775808<=z/\z<=9223372036854775807
abbrev trR(q:Nat):Rwx:=⟨26,bI q 1 1,[fe]⟩
inductive Okr:Rwx->Prop|i {v:Value}{ks:zLI}:List.length ks<=1000->(∀z∈ks,I6 z)->Okr (rI v ks)|s {v:Value}{nm:zLB}:List.length nm<=1000->(∀s∈nm,s.size<=60)->Okr (rS v nm)|t (q:Nat):Okr (trR q)
def Ndk(a:Mb):Prop:=iE a.N/\oC a.N
abbrev tv(r:Rwx):Br×A2:=(r.t,r.v)
structure In (C:Cd) (T:Int) (E:Bs) (w:A0) (m n:Nat) (S:List (Br×A2)):Prop where
 ex:∃L R1,M L=n/\Bd C T E w m L R1/\R1.map tv=S/\(∀r∈R1,Okr r)/\∀y∈L,Ndk y
 bd:(0<=T/\T<=140)/\n+m<=1000000000000
structure At (C:Cd) (T:Int) (E:Bs) (W w:A0) (m n:Nat) (S:List (Br×A2)):Prop where
 bd:In C T E w m n S
 bel:A3 E.base W w
def Fnq(f:FuncId)(a:zLV)(k:Nat):Prop:=∀ ⦃C:Cd⦄ ⦃T:Int⦄ ⦃E:Bs⦄ ⦃W:A0⦄ ⦃m n:Nat⦄ ⦃S:List (Br×A2)⦄,In C T E W m n S->k<=m->B0 Ax f (bV E::a).toArray W λb w'=>∃q:Nat,b=A1 (zI q)/\n<=q/\At C T E W w' (m-k) (q+1) S
def Frp(C:Cd)(d:Int)(E:Bs)(W:A0)(m n:Nat)(S:List (Br×A2))(t:Br)(e:Ending)(f:A0):Prop:=∃a c q b,e=A1 (X a q c)/\(q<=20/\n<=b)/\At C d E W f m b ((t,X a q c)::S)
def Frw(f:FuncId)(a:zLV)(t:Br)(k:Nat):Prop:=∀ ⦃C:Cd⦄ ⦃T:Int⦄ ⦃E:Bs⦄ ⦃W:A0⦄ ⦃m n:Nat⦄ ⦃S:List (Br×A2)⦄,In C T E W m n S->k<=m->B0 Ax f (bV E::a).toArray W (Frp C T E W (m-k) n S t)
def Ft(f:FuncId)(k:Nat):Prop:=∀ ⦃C:Cd⦄ ⦃T:Int⦄ ⦃E:Bs⦄ ⦃W:A0⦄ ⦃m n:Nat⦄ ⦃S:List (Br×A2)⦄,In C T E W m n S->k<=m->B0 Ax f #[bV E] W λa w'=>∃t:Bz,a=A1 (B9 t)/\t.size<=60/\At C T E W w' (m-k) n S
def ava:(Ax.info? 3).map (λi=>(i.zero,i.size,i.bytes))=V (V<|zI 0,1,8):=J
section
variable {C : Cd} {T : Int} {E : Bs} {W w w' : World} {m n k q : Nat} {S : List (TypeId × Value)} {f : FuncId} {ar : zLV} {v : Value} {Q : Ending → World → Prop} {t : TypeId} {P : Value → Prop} {R1 : List Rwx}
def ahK(h:R1.map tv=(3,v)::S)(k:∀r∈R1,Okr r):∃ks a,R1=rI v ks::a/\a.map tv=S/\M ks<=1000/\(∀z∈ks,I6 z)/\∀r∈a,Okr r:=by
 cases R1 with
 |nil=>cases h
 |cons r R1=>
  simp[oI]at h;have e:=λr h=>k r<|dJ _ h;obtain⟨⟨d,rfl⟩,h⟩:=h;cases k r bG with
  |i b c=>exact⟨_,R1,R,h,b,c,e⟩|_=>simp at d
def as1(h:R1.map tv=(9,v)::S)(k:∀r∈R1,Okr r):∃ks a,R1=rS v ks::a/\a.map tv=S/\M ks<=1000/\(∀s∈ks,s.size<=60)/\∀r∈a,Okr r:=by
 cases R1 with
 |nil=>cases h
 |cons r R1=>
  simp[oI]at h;have e:=λr h=>k r<|dJ _ h;obtain⟨⟨d,rfl⟩,h⟩:=h;cases k r bG with
  |s b c=>exact⟨_,R1,R,h,b,c,e⟩|_=>simp at d
def In.at(h:In C T E w m n S):At C T E w w m n S:=⟨h,blR⟩
def At.le(a:At C T E W w m n S)(g:k<=m:=by omega):At C T E W w k n S:=by
 obtain⟨⟨⟨c,d,h,b,e⟩,f⟩,i⟩:=a;exact⟨⟨⟨c,d,h,⟨b.cu.le g,b.bb,b.row,b.each,b.rows,b.sep⟩,e⟩,f.1,O⟩,i⟩
def At.run(a:At C T E W w m n S)(h:Fnq f ar k)(H:∀(q) w',n<=q/\q<=1000000000000->At C T E W w' (m-k) (q+1) S->Q (A1<|zI q) w')(d:k<=m:=by omega):B0 Ax f (bV E::ar).toArray w Q:=
 (h a.bd d).mono λc w' ⟨q,c,e,b⟩=>c ▸ H q w' ⟨e,by have:=b.bd.bd;omega⟩ ⟨b.bd,a.bel.trans b.bel⟩
def At.runR(a:At C T E W w m n S)(h:Frw f ar t k)(H:∀a c q p w',q<=20/\n<=p->At C T E W w' (m-k) p ((t,X a q c)::S)->Q (A1<|X a q c) w')(g:k<=m:=by omega):B0 Ax f (bV E::ar).toArray w Q:=
 (h a.bd g).mono λd w' ⟨e,c,q,p,d,h,b⟩=>d ▸ H e c q p w' h ⟨b.bd,a.bel.trans b.bel⟩
def At.runT(a:At C T E W w m n S)(h:Ft f k)(H:∀(t:Bz) w',t.size<=60->At C T E W w' (m-k) n S->Q (A1<|B9 t) w')(d:k<=m:=by omega):B0 Ax f #[bV E] w Q:=
 (h a.bd d).mono λc w' ⟨t,c,h,b⟩=>c ▸ H t w' h ⟨b.bd,a.bel.trans b.bel⟩
def At.cu(a:At C T E W w m n S):Cq C E w m:=by
 obtain⟨⟨⟨_,_,_,b,_⟩,_⟩,_⟩:=a;exact b.cu
def At.runC(a:At C T E W w m n S)(h:Rq f ar k P)(H:∀v w',P v->At C T E W w' (m-k) n S->w.grownBy w' (V E.cb)->Q (A1 v) w')(o:k<=m:=by omega):B0 Ax f (cV E::ar).toArray w Q:=by
 obtain⟨⟨⟨e,g,p,b,j⟩,l⟩,q⟩:=a;exact(h b.cu o).mono λd w' ⟨v,d,r,i,c⟩=>d ▸ H v w' r ⟨⟨⟨e,g,p,b.went c i,j⟩,l.1,O⟩,q.trans<|xC c b.cu.lo.1 b.cu.lo.2⟩ c
def At.cs(a:At C T E W w m n S):(w.cell? (aj E.bb 0)=V (cV E)/\w.cell? (aj E.bb 2)=V (zI<|T-n))/\E.bb<w.heap.size:=by
 obtain⟨⟨⟨_,_,rfl,b,_⟩,_⟩,_⟩:=a;exact⟨b.c0,b.lt.2.1⟩
def At.below(a:At C T E W w m n S)(g:A3 w.heap.size w w'):At C T E W w' m n S:=by
 obtain⟨⟨⟨c,d,h,b,e⟩,f⟩,i⟩:=a;exact⟨⟨⟨c,d,h,b.below g,e⟩,f⟩,i.trans<|g.mono b.lt.2.2.1⟩
def At.al{o}(a:At C T E W w m n S):At C T E W (w.alloc o) m n S:=a.below<|dj w o
def At.lit(a:At C T E W w m n S)(ks:zLI)(g:M ks<=100)(l:∀z∈ks,I6 z):At C T E W (w.alloc<|A5 (ks.map zI).toArray 3) m n ((3,bI w.heap.size (M ks)<|M ks)::S):=by
 obtain⟨⟨⟨c,_,h,b,e,o,p⟩,f⟩,k⟩:=a;exact⟨⟨⟨c,_,h,b.newI ks g,by simp[e],λq j=>(dI.1 j).elim (λd=>d ▸ .i O l)<|o q,p⟩,f⟩,k.trans<|(dj w _).mono b.lt.2.2.1⟩
def At.lit1{z}(a:At C T E W w m n S)(b:I6 z:=by omega):At C T E W (w.alloc<|A5 #[zI z] 3) m n ((3,bI w.heap.size 1 1)::S):=a.lit [z] I (by simpa using b)
def At.lit2{z b}(a:At C T E W w m n S)(c:I6 z/\I6 b:=by omega):At C T E W (w.alloc<|A5 #[zI z,zI b] 3) m n ((3,bI w.heap.size 2 2)::S):=a.lit [z,b] I (by simpa using c)
def At.nilI(a:At C T E W w m n S):At C T E W w m n ((3,fe)::S):=by
 obtain⟨⟨⟨b,_,g,c,e,l,o⟩,f⟩,j⟩:=a;exact⟨⟨⟨b,_,g,c.nil toI,by simp[e],λp h=>(dI.1 h).elim (λd=>d ▸ .i (ks:=[]) leZ (λ_ k=>by cases k))<|l p,o⟩,f⟩,j⟩
def At.nilS(a:At C T E W w m n S):At C T E W w m n ((9,fe)::S):=by
 obtain⟨⟨⟨b,_,g,c,e,k,l⟩,f⟩,i⟩:=a;exact⟨⟨⟨b,_,g,c.nil toS,by simp[e],λo h=>(dI.1 h).elim (λd=>d ▸ .s (nm:=[]) leZ (λ_ j=>by cases j))<|k o,l⟩,f⟩,i⟩
theorem At.swap{d}(a:At C T E W w m n (r::d::S)):At C T E W w m n (d::r::S):=by
 obtain⟨⟨⟨e,b,h,f,c,_,j⟩,g⟩,i⟩:=a
 match b,c with
 |x::k::b,c=>exact⟨⟨⟨e,_,h,f.swap,U,U,j⟩,g⟩,i⟩
theorem At.drop(a:At C T E W w m n (r::S)):At C T E W w m n S:=by
 obtain⟨⟨⟨d,b,g,e,c,_,i⟩,f⟩,h⟩:=a
 match b,c with
 |x::b,c=>exact⟨⟨⟨d,_,g,e.drop,U,U,i⟩,f⟩,h⟩
theorem At.apG{e u j xs L d l Q}(p:Ax.underlying e=V (.slice t))(n:(Ax.info? t).map (λi=>(i.zero,i.size,i.bytes))=V (V j,1,d))(ad:j.cells.size=1)(q:d<=100)(H:TO t)(h:Bd C T E w m L (⟨t,v,xs⟩::R1))(ar:M xs<=999)(ax:u.oneCell'=Y)(x:o.guard=B1)(s z)
  (A:o.op= .call {callee:= .builtin .append,args:=#[s,z],argTypes:=#[e,e]}) (G:a.eval s=v) (K:a.eval z=bI w.heap.size 1 1)
  (k:∀b c w1,Bd C T E w1 m L (⟨t,.slice b (M xs+1) c,xs++[u]⟩::R1)->A3 E.base w w1->wpList Ax ops Q l (a.put o.dst<|.slice b (M xs+1) c) w1):
  wpList Ax ops Q (o::l) a (w.alloc<|.cells #[u] t):=by
 have g:=dj w<|.cells #[u] t;have f:=h.below g;have⟨am,y,af,ak,al⟩:=dw n;have F:(w.alloc<|.cells #[u] t).ownsRow E.base t 1 v (M xs) xs:=(f.rows _ bG).2;have ap:(M xs+1)*d<=1001*100:=Nat.mul_le_mul O q;apply wpList_append_own_at _ x s z e A _ t am j 1 d p y af ak al ad Z v _ _ G F _ 1 1 [u] K I (World.news_of_block<|au w _) U byM O f.lt.2.2.1;intro _ w1 B r _ _;obtain⟨b,c,rfl⟩:=aF B;obtain⟨an,ao⟩:=f.hot (r':=⟨t,.slice b (M xs+1) c,xs++[u]⟩) r H U λg _=>U;exact k b c w1 an<|(g.mono h.lt.2.2.1).trans ao
theorem At.app{p Q z}{x:zOA}(h:At C T E W w m n ((3,X x q c)::S))(af:q<=900)(ak:I6 z)(v:o.guard=B1)(s j)(F:o.op= .call {callee:= .builtin .append,args:=#[s,j],argTypes:=#[35,35]})(G:a.eval s=X x q c)(K:a.eval j=bI w.heap.size 1 1)
  (k:∀b d w1,At C T E W w1 m n ((3,X b (q+1) d)::S)->wpList Ax ops Q p (a.put o.dst<|X b (q+1) d) w1):wpList Ax ops Q (o::p) a (w.alloc<|A5 #[zI z] 3):=by
 obtain⟨⟨⟨r,l,B,e,hS,g,A⟩,u⟩,H⟩:=h;obtain⟨L,l,rfl,hS,_,_,g⟩:=ahK hS g;obtain⟨_,_,f⟩:=e.form;simp[Value.slice.injEq]at f;have y:=f.2.1;refine At.apG underlying35 ava R Z toI e lr R v s j F G K λb d w1 e t=>?_;rw[dm,<-y]at e⊢;exact k b d w1 ⟨⟨⟨r,rI (X b (q+1) d) (L++[z])::l,B,U,by simp[hS],λad h=>(dI.1 h).elim (λf=>f ▸ .i lr U)<|g ad,A⟩,u⟩,H.trans t⟩
theorem At.appS{l Q}{z:Bz}{x:zOA}(h:At C T E W w m n ((9,X x q c)::S))(ad:q<=900)(af:z.size<=60)(u:o.guard=B1)(s i)(B:o.op= .call {callee:= .builtin .append,args:=#[s,i],argTypes:=#[34,34]})(F:a.eval s=X x q c)(H:a.eval i=bI w.heap.size 1 1)
  (k:∀b d w1,At C T E W w1 m n ((9,X b (q+1) d)::S)->wpList Ax ops Q l (a.put o.dst<|X b (q+1) d) w1):wpList Ax ops Q (o::l) a (w.alloc<|A5 #[B9 z] 9):=by
 obtain⟨⟨⟨p,j,A,e,hS,g,y⟩,t⟩,G⟩:=h;obtain⟨K,j,rfl,hS,_,_,g⟩:=as1 hS g;obtain⟨_,_,f⟩:=e.form;simp[Value.slice.injEq]at f;have v:=f.2.1;refine At.apG underlying34 yi R Z toS e lr R u s i B F H λb d w1 e r=>?_;rw[dm,<-v]at e⊢;exact k b d w1 ⟨⟨⟨p,rS (X b (q+1) d) (K++[z])::j,A,U,by simp[hS],λL h=>(dI.1 h).elim (λf=>f ▸ .s lr U)<|g L,y⟩,t⟩,G.trans r⟩
def At.add{k f i}{x:Bz}{l j:zOA}{t p s o}(a:At C T E W w m n ((9,X l t p)::(3,X j s o)::S))(h:∀w',At C T E W w' (m-1) (n+1) S->Q (A1<|zI n) w')(af:1<=m:=by omega)(e:I6 k/\I6 f/\I6 i:=by refine⟨?_,?_,?_⟩<;>first|omega|exact wr6 _)(al:x.size<=5000:=by first|omega|decide):
  B0 Ax 280 #[bV E,B6 #[zI k,zI 0,zI 0,zI 0,zI f,zI i,B9 x,X l t p,X j s o]] w Q:=by
 obtain⟨⟨⟨_,d,rfl,v,hS,c,F⟩,B⟩,H⟩:=a;obtain⟨u,d,rfl,hS,_,z,c⟩:=as1 hS c;obtain⟨r,d,rfl,hS,_,A,c⟩:=ahK hS c;apply(axu (N:=⟨k,0,0,0,f,i,x,u,r⟩) v O O).mono;rintro q w' ⟨rfl,b,y⟩;have g:I6 0:=Z;exact h w' ⟨⟨⟨_,d,I,⟨b.cu.le O,b.bb,b.row,b.each,b.rows,b.sep⟩,hS,c,λad K=>(dg.1 K).elim (F ad) λq=>by rw[ic.1 q];exact⟨⟨by show M u<=_;omega,by show M r<=_;omega,by show x.size<=_;omega,λL G=>by have:=z L G;omega⟩,⟨e.1,g,g,g,e.2.1,e.2.2,A⟩⟩⟩,B.1,O⟩,H.trans y⟩
def At.kids{k}{b:zOA}{d c}(a:At C T E W w m n ((3,X b d c)::S))(h:∀w',At C T E W w' (m-1) (n+1) S->Q (A1<|zI n) w')(l:1<=m:=by omega)(j:I6 k:=by first|omega|exact wr6 _):
  B0 Ax 277 #[bV E,zI k,X b d c] w Q:=by
 have g:B0 Ax 277 #[bV E,zI k,X b d c] w λe w'=>e=A1 (zI n)/\At C T E W w' (m-1) (n+1) S:=by
  have f:=ah a.nilS;go_in;go_wp2_with fail;refine f.out.add λw1 i=>?_;exact gwX i
 exact g.mono λe w' f=>f.1 ▸ h w' f.2
def At.intAt{x:zOA}(h:At C T E W w m n (r::(3,X x q c)::S))(k:i<q):∃g z,x=V (aj g 0)/\I6 z/\w.cell? (aj g i)=V (zI z):=by
 obtain⟨⟨⟨_,e,_,f,hS,d,_⟩,_⟩,_⟩:=h.drop;obtain⟨l,e,rfl,hS,_,j,d⟩:=ahK hS d;have b:=(f.rows _ bG).2;simp[dm]at b;obtain⟨_,a⟩|⟨g,_,a⟩:=aC b
 .simp at a;omega
 .simp at a;obtain⟨rfl,rfl,rfl⟩:=a;refine⟨g,l[i],R,j _<|pd _,?_⟩;rw[b.cellAt i O,cJ,bm k];rfl
def At.last(a:At C T E W w m (n+1) S):∃g b k,w.cell? (aj E.bb 1)=V (bI g (n+1) b)/\w.cell? (aj g<|n*9)=V (zI k):=by
 obtain⟨⟨⟨_,_,f,d,hS,_,_⟩,_⟩,_⟩:=a;have⟨_,e,c⟩:=d.row;obtain⟨_,rfl⟩|⟨g,b,rfl⟩:=aC c
 .omega
 .refine⟨g,b,_,by rw[oe e,f];rfl,(qa c<|bm O).1⟩
end
def w1{d}(a: -1000<=d/\d<=1000:=by omega):IntKind.i64.wrap (d-1)=d-1:=by rw[du];omega
def dgo{p:Prop}(h:p:=by
 repeat' (go_wp2_with (at_builtin;with_reducible refine At.app b O O R _ _ R R R ?_;clear b cs;intro av cv w b;have cs:=b.cs);first
  |(go_at_call 38;(first
   |(with_reducible refine At.runC b gc ?_;clear b cs;rintro _ w ⟨z,rfl,z0,z1⟩ b -;have cs:=b.cs)
   |((first|with_reducible refine At.runC b.lit2 gc ?_|with_reducible refine At.runC b.lit1 gc ?_);clear b cs;rintro _ w ⟨z,rfl,z0,z1⟩ b -;have cs:=b.cs)
   |(have h0:=b.cu;refine At.runC b.al gc ?_;clear b cs;rintro _ w ⟨z,rfl,z0,z1⟩ b g;obtain⟨j,t,rfl,ht,r⟩:=Km h0 g z0 z1;clear h0 g;have cs:=b.cs)))
  |(go_at_call 119;with_reducible refine At.runC b ahd ?_;clear b cs;rintro _ w ⟨z,rfl,z0,z1⟩ b -;have cs:=b.cs)
  |(go_at_call 122;with_reducible refine At.runC b asC ?_;clear b cs;rintro _ w ⟨t,rfl,ht⟩ b -;have cs:=b.cs)
  |(go_at_call 330;with_reducible refine At.runT b byA ?_;clear b cs;intro t w ht b;have cs:=b.cs)|((first|go_at_call 278|go_at_call 279);with_reducible refine At.runR b (by first|exact hN O O|exact hX O O) ?_;clear b cs;intro av cp q p w hq b;have cs:=b.cs)
  |(go_at_call 277;(first|with_reducible refine At.kids b.lit1 ?_|with_reducible refine At.kids b.lit2 ?_|with_reducible refine At.kids b.nilI ?_);clear b cs;intro w b;have cs:=b.cs)
  |(go_at_call 280;(first|with_reducible refine At.add b.lit1.nilS ?_|with_reducible refine At.add b.lit2.nilS ?_|with_reducible refine At.add b.lit1.swap ?_|with_reducible refine At.add b.lit2.swap ?_|with_reducible refine At.add b.swap ?_|with_reducible refine At.add b ?_|with_reducible refine At.add b.nilS ?_|with_reducible refine At.add b.nilI.nilS ?_);clear b cs;intro w b;have cs:=b.cs)
  |(go_ret;first|exact⟨_,R,O,b.le⟩|exact⟨_,_,_,_,R,O,b.le⟩)
  |(with_reducible refine At.run b byA ?_;clear b cs;intro q w hq b;have cs:=b.cs))):p:=h
def Dj:Ft 330 2:=by
 intro _ _ _ _ _ _ _ a _;have b:=a.at
 have cs:=b.cs;go_in;exact dgo
def anE:Fnq 331 [] 30:=by
 intro _ _ _ _ _ _ _ a _;have b:=a.at
 have cs:=b.cs;have hS:=Dj;go_in;exact dgo
def ahL{z}(u:0<=z)(y:z<6):Frw 278 [zI z] 9 20:=by
 intro l o m p w k n j _;have a:=ah j.at.nilS;clear j;obtain⟨i,rfl⟩:=iJ u;go_in;go_wp2;go_loopw [1,5] (λg x wr=>∃(b c d:Nat) (h:_),g=zI b/\x=X h c d/\c+b=i/\At l o m p wr (w-2*c) k ((9,X h c d)::n)) (λg _ _=>(A9 g).toNat)
 .exact⟨i,0,0,B1,R,R,O,a⟩
 .
  clear a;obtain⟨b,c,d,h,rfl,rfl,e,a⟩:=hrel;have s:=a.cs;have A:c<=5:=O;by_cases f:0<b
  .have B:IntKind.i64.wrap ((b:Int)-1)=((b-1:Nat):Int):=by rw[du];omega
   have e:=fs e f;have f:(0:Int)<(b:Int):=O;go_wp2_with fail;apply At.runT a Dj;clear a s;intro _ _ v a;have a:=ah a;go_wp2_with (at_builtin;apply a.out.appS O v R _ _ R R R;intro q t _ r);go_roundw
   .exact⟨_,_,t,q,by go_num,R,O,r.le⟩
   have:=e.out;simp[A9];omega
  .have f:¬(0:Int)<(b:Int):=O;have a:=ah a;go_wp2;go_ret;exact⟨_,_,_,k,R,O,a.out.le⟩
section
variable {d : Int} {K B : Nat}
def afy(c:Fnq 281 [zI d] K):Fnq 329 [zI d] (K+1):=by
 intro _ _ _ _ _ _ _ a _;have b:=a.at
 have cs:=b.cs;go_in;go_wp2_with fail;apply At.run b c;clear b cs;intro q w hq b;have cs:=b.cs;obtain⟨g,_,_,_,_⟩:=b.last;exact dgo
def aya(e: -900<=d/\d<=900)(c:Fnq 285 [zI<|d-1] K):Fnq 282 [zI d] (K+30):=by
 intro _ _ _ _ _ _ _ a _;have b:=a.at
 have cs:=b.cs;have f:=w1 (d:=d);have hN:=@ahL;go_in;exact dgo
def ah0(y:Fnq 281 [zI d] K){z}(x:0<=z)(F:z<4):Frw 279 [zI z,zI d] 3 (3*K):=by
 intro o r p s C n q m _;have a:=ah m.at.nilI;clear m;obtain⟨l,rfl⟩:=iJ x;go_in;go_wp2;go_loopw [1,7] (λj E wr=>∃(c b h g:Nat) (k:_),j=zI c/\E=X k b h/\(b+c=l/\n<=g)/\At o r p s wr (C-K*b) g ((3,X k b h)::q)) (λj _ _=>(A9 j).toNat)
 .exact⟨l,0,0,n,B1,R,R,O,a⟩
 .
  clear a;obtain⟨c,b,h,g,k,rfl,rfl,e,a⟩:=hrel;have v:=a.cs;have A:b<=3:=O;by_cases i:0<c
  .have G:IntKind.i64.wrap ((c:Int)-1)=((c-1:Nat):Int):=by rw[du];omega
   have f:=Nat.mul_le_mul_left K (O:b+1<=3);rw[Nat.mul_succ]at f;have e:=Cg e i (show K*(b+1)=K*b+K from Nat.mul_succ K b) f;clear f;have i:(0:Int)<(c:Int):=O;go_wp2_with fail;refine At.run a y ?_ (by have:=e.out;omega);clear a v;intro _ _ B a;have a:=fs a B.1;go_wp2_with (at_builtin;apply a.1.app O O R _ _ R R R;intro t w _ u);go_roundw
   .exact⟨_,_,w,_,t,by go_num,R,O,u.le (by have:=e.out;omega)⟩
   have:=e.out;simp[A9];omega
  .have i:¬(0:Int)<(c:Int):=O;have f:=Nat.mul_le_mul_left K A;have a:=fs a e;go_wp2;go_ret;exact⟨_,_,_,g,R,O,a.1.le⟩
def Gu(hS:Fnq 197 [zI d] K):Fnq 285 [zI d] (3*K+5):=by
 intro q h r u z o t n _;have a:=n.at.nilI;have j:=a.cs;clear n;go_in;go_wp2_with fail;apply At.runC a gc;clear a j;rintro _ p ⟨_,rfl,z0,_⟩ a -;obtain⟨s,rfl⟩:=iJ z0;have a:=ah a;go_wp2;go_loopw [5,6] (λA k wr=>∃(c b i g:Nat) (l:_),k=zI c/\A=X l b i/\(b+c<=3/\o<=g)/\At q h r u wr (z-2-K*b) g ((3,X l b i)::t)) (λ_ k _=>(A9 k).toNat)
 .exact⟨s,0,0,o,B1,R,R,O,a⟩
 .
  clear a;obtain⟨c,b,i,g,l,rfl,rfl,e,a⟩:=hrel;have j:=a.cs;have x:b<=3:=O;have f:=Nat.mul_le_mul_left K x;obtain⟨hj,_⟩|hj:((0:Int)<(c:Int)/\(5:Int)<h-g)\/(¬(0:Int)<(c:Int)\/(0:Int)<(c:Int)/\¬(5:Int)<h-g):=O
  .have B:IntKind.i64.wrap ((c:Int)-1)=((c-1:Nat):Int):=by rw[du];omega
   have f:=Nat.mul_le_mul_left K (O:b+1<=3);have e:=Cg e hj (show K*(b+1)=K*b+K from Nat.mul_succ K b) f;clear f;go_wp2_with fail;refine At.run a hS ?_ (by have:=e.out;omega);clear a j;intro _ p y a;have a:=fs a y.1;go_wp2_with (at_builtin;apply a.1.app O O R _ _ R R R;intro m w _ v);go_roundw
   .exact⟨_,_,w,_,m,by go_num,R,O,v.le (by have:=e.out;omega)⟩
   have:=e.out;simp[A9];omega
  .have a:=jG a.nilS e f;clear f;obtain hj|⟨hj,_⟩:=hj;all_goals
    go_wp2_with fail;refine a.1.add ?_ (by have:=a.2;omega);intro p m;have a:=fs m a.2;clear m;go_wp2;go_ret;exact⟨_,R,O,a.1.le (by have:=a.2;omega)⟩
def afz(A: -900<=d/\d<=900)(i:Fnq 281 [zI<|d-1] K):Fnq 276 [zI d] (4*K+9):=by
 intro k n l o v x m h _;have b:=h.at
 have cs:=b.cs;have E:=w1 (d:=d);have s:=afy i;have hX:=@ah0 _ _ i;clear h;go_in;go_wp2_with fail;apply At.run b s;clear b cs;intro _ w _ b;have cs:=b.cs;go_wp2_with fail;refine At.runC b.lit1 gc ?_;clear b cs;rintro _ w ⟨z,rfl,z0,z1⟩ b -;go_wp2_with fail;apply At.runR b<|hX z0 O;clear b;intro av cp q p w hq b;have b:=ah b.swap;go_wp2;go_loopw [6,25] (λy iv wr=>∃(a c:Nat) (e:_),iv=zI a/\y=X e (a+1) c/\a<=q/\At k n l o wr (v-(K+1)-2-3*K) p ((3,X e (a+1) c)::(3,X av q cp)::m)) (λ_ iv _=>q-(A9 iv).toNat)
 .exact⟨0,_,_,R,R,O,b⟩
 .
  clear b;obtain⟨a,c,e,rfl,rfl,f,b⟩:=hrel;have B:(0:Int)<=(a:Int):=O;by_cases j:a<q
  .obtain⟨g,_,rfl,u,_⟩:=b.intAt j;have t:(a:Int)<(q:Int):=O;have b:=fs b f;go_wp2_with (at_builtin;apply b.1.app O u R _ _ R R R;intro av cv _ r);go_roundw
   .exact⟨_,cv,av,by go_num,R,O,r⟩
   simp[A9];omega
  .have t:¬(a:Int)<(q:Int):=O;have b:=b.swap.drop.nilS;have C:x<=p:=O;clear f j;have cs:=b.cs;exact dgo
def arj(C: -900<=d/\d<=900)(B:Fnq 281 [zI<|d-1] K):Fnq 332 [zI d] (6*K+20):=by
 intro m s n u a l r k _;have b:=k.at.nilI;have cs:=b.cs;have E:=w1 (d:=d);clear k;go_in;go_wp2_with fail;refine At.runC b gc ?_;clear b cs;rintro _ w ⟨z,rfl,z0,z1⟩ b -;obtain⟨o,rfl⟩:=iJ z0;have b:=ah b;go_wp2;go_loopw [5,6] (λA g wr=>∃(j q e p:Nat) (h:zOA),g=zI j/\A=X h q e/\(q+j<=3/\l<=p)/\At m s n u wr (a-2-5*q-2*(K*q)) p ((3,X h q e)::r)) (λ_ g _=>(A9 g).toNat)
 case atStart=>exact⟨o,0,0,l,B1,R,R,O,b⟩
 case round=>
  clear b;obtain⟨j,q,e,p,h,rfl,rfl,i,b⟩:=hrel;have cs:=b.cs;have hq:q<=3:=O;have f:=Nat.mul_le_mul_left K hq;by_cases x:(0:Int)<(j:Int)
  .have F:IntKind.i64.wrap ((j:Int)-1)=((j-1:Nat):Int):=by rw[du];omega
   have f:=Nat.mul_le_mul_left K (O:q+1<=3);have c:=Cg i x (show K*(q+1)=K*q+K from Nat.mul_succ K q) f;have v:2*K+6<=a-2-5*q-2*(K*q):=by have:=c.out;omega
   have y:a-2-5*(q+1)-2*(K*(q+1))<=a-2-5*q-2*(K*q)-(2*K+5):=by have:=c.out;omega
   have hS:=Dj;generalize a-2-5*q-2*(K*q)=G at b v y;clear f i
   repeat' (go_wp2_with fail;first
    |(go_at_call 38;with_reducible refine At.runC b gc ?_;clear b cs;rintro _ w ⟨z,rfl,z0,z1⟩ b -;have cs:=b.cs)
    |(go_at_call 330;with_reducible refine At.runT b hS ?_;clear b cs;intro t w ht b;have cs:=b.cs)|(go_at_call 277;(first|with_reducible refine At.kids b.lit1 ?_|with_reducible refine At.kids b.lit2 ?_|with_reducible refine At.kids b.nilI ?_);clear b cs;intro w b;have cs:=b.cs)
    |(go_at_call 280;with_reducible refine At.add b.lit1.nilS ?_;clear b cs;intro w b;have cs:=b.cs)|(with_reducible refine At.run b byA ?_;clear b cs;intro _ w _ b;have cs:=b.cs))
   all_goals
    go_wp2_with (at_builtin;with_reducible refine At.app b O O R _ _ R R R ?_;clear b cs;intro av cv w b);go_roundw
    case rel=>exact⟨j-1,q+1,_,_,_,by go_num,R,by have:=c.out;omega,b.le⟩
    case measure=>have:=c.out;simp[A9];omega
  .have b:=b.nilS;have cs:=b.cs;exact dgo
end
