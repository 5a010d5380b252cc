import Derived.Test.YthkcmkmkapijkaaGreatDoorh10
import Derived.Test.YthkcmkmkapijkaaGreatDoorh27
import Derived.Test.YthkcmkmkapijkaaGreatDoorh26
import Derived.Test.YthkcmkmkapijkaaGreatDoorh06
set_option linter.all false
set_option maxRecDepth 100000
set_option maxHeartbeats 6400000
open List renaming length->G
open Go.Proofs.Tryz renaming prog->K
open Option renaming some->M,none->B3
open Go.Ending renaming returned->Q
open Go.Lib renaming repeatL->S,asciiSpaceTab->A2,TabIs->B2
open Go renaming World->T,Calls->V,Value->Y
open Go.Value renaming bool->X,string->A0,iface->A1,tuple->A5,slice->B0
open Go.RowKit renaming Below->Ax,intOf->B1
open Bool renaming true->A3,false->Br
open Go.Obj renaming cells->A9
namespace Go.Proofs.YthkcmkmkapijkaaGreatDoor
open Go.RowKit Go.Maps Go.WideMaps
variable{W W':World}
structure Lk (W:T) (lb mb:Nat) (vs:Y):Prop where
 b:W.heap[lb]?=M (.cells #[.map<|M mb,vs] 157 (0,0))
 m:W.ownsMap K 9 (plainElem (H:=Unit) K 3) mb 22 (Dt 22)
 e:qy W
def wL{mb n D}(h:W.ownsMap K 9 (plainElem (H:=Unit) K 3) mb n D)(c:W'.heap[mb]?=W.heap[mb]?):W'.ownsMap K 9 (plainElem (H:=Unit) K 3) mb n D:=by
 obtain⟨b,a,d,e⟩:=h;exact⟨b,a,c.trans d,e⟩
def qy.keep(h:qy W)(a:Ax W.heap.size W W'):qy W':=by
 obtain⟨⟨b,c,f⟩,⟨d,e,g⟩⟩:=h;exact⟨⟨b,c,ag a f⟩,⟨d,e,ag a g⟩⟩
def Lk.below{lb mb c}(h:Lk W lb mb c)(a:Ax W.heap.size W W'):Lk W' lb mb c:=
 ⟨(a.block _<|ai h.b).trans h.b,wL h.m<|a.block _ h.m.lt,h.e.keep a⟩
theorem yy(w lb mb g)(s:Bz)(f:s.size<=1100000)(h:Lk w lb mb g):
  V K 320 #[be lb 0,A0 s] w λe c=>e=Q (X<|lL s)/\c=w:=by
 have j:w.cell? (aj lb 0)=M (.map<|M mb):=crV h.b;have a:=aen s f mb w h.m;by_cases k:s.size<=40
 .have e:decide (bi (aq s 0)=A3/\pJ s (s.size+1) 0=s.size/\xq s=Br)=lL s:=by
   unfold lL;grind
  rw[e]at a;generalize lL s=i at a⊢;clear e h;have d:(s.size:Int)<=40:=O;go_in;go_wp2_with (go_at_call 352;apply a.mono;rintro e c ⟨rfl,rfl⟩);go_ret
  simp_all
 .have e:lL s=Br:=by unfold lL;grind
  rw[e];have d:¬(s.size:Int)<=40:=O;clear a;exact giS
theorem C3(w lb mb r q l)(h:Lk w lb mb r)(n:bv w q l)(x:G l<=1048576)(p:∀s∈l,s.size<=1048576):
  V K 264 #[be lb 0,q] w λe a=>e=Q (X<|yc l (G l) 0)/\a=w:=by
 have f:=jG n p h;obtain⟨_,_,rfl⟩:=n.form;have⟨k,g⟩:=aw<|yc l (G l) 0;rw[g];have⟨b,m⟩:=aw<|G l;have u:=ah m;rw[m]at f x g⊢;have A:Ke l b 0 k:=⟨g⟩;clear m n p h g;go_in;go_wp2;go_loop [9] (λo=>∃(a:Nat),o=zI a/\a<=b/\Ke l (b-a) a k) (λo=>b-(B1 o).toNat)
 .grind
 .
  obtain⟨a,rfl,_,t⟩:=hrel;have c:=t.out;by_cases y:a<b
  .have⟨s,i⟩:=bg u.out y;have C:=f.2.1 s<|db i;obtain⟨_,rfl,_⟩:=f.1.get i;rw[(O:b-a=(b-(a+1))+1),yc,ed,i,li]at c;have v:(a:Int)<(b:Int):=O;have B:(0:Int)<=(a:Int):=O;have j:=yy w lb mb r s O f.2.2;clear i;cases hx:lL s with
   |true=>
    rw[hx,gK]at c;rw[hx]at j;have d:Ke l (b-(a+1)) (a+1) k:=⟨c⟩;clear c hx;go_wp2_with (go_at_call 320;apply j.mono;rintro e z ⟨rfl,rfl⟩);go_round
    .grind
    simp[B1];omega
   |false=>
    rw[hx,gJ]at c;rw[hx]at j;have d:=ah c;clear c hx;go_wp2_with (go_at_call 320;apply j.mono;rintro e z ⟨rfl,rfl⟩);go_ret;exact⟨by rw[<-d.out];rfl,R⟩
  .rw[(O:b-a=0),yc]at c;have d:=ah c;have v:¬(a:Int)<(b:Int):=O;clear c;go_wp2;go_ret;exact⟨by rw[<-d.out];rfl,R⟩
def txB(k:Int)(x:Bz):Bool:=ite (k=24) (fok x)<|ite (k=25) (decide ((x.size:Int)<=4000))<|lL x
theorem aax(w lb mb i k)(s:Bz)(g:s.size<=1100000)(h:Lk w lb mb i):
  V K 265 #[be lb 0,zI k,A0 s] w λe d=>e=Q (X<|txB k s)/\Ax w.heap.size w d:=by
 have b:=yy w lb mb i s g h;have a:=acm s g w h.e;unfold txB;by_cases c:k=24
 .subst c;rw[ae rfl];unfold fok;by_cases f:s.size<=40
  .have l:(s.size:Int)<=40:=O;rw[eI f,gK];generalize sj s=j at a⊢;clear b h;go_in;go_wp2_with (go_at_call 321;apply a.mono;rintro e d ⟨rfl,_⟩);go_ret
   simp_all
  .have l:¬(s.size:Int)<=40:=O;rw[bq f,gJ];clear b a h;go_in;go_wp2;go_ret;exact⟨R,blR⟩
 by_cases f:k=25
 .subst f;rw[aa Z,ae rfl];clear b a h c;exact giX blR
 rw[aa c,aa f];generalize lL s=j at b⊢;clear a h;go_in;go_wp2_with (go_at_call 320;apply b.mono;rintro e d ⟨rfl,rfl⟩);go_ret;exact⟨R,blR⟩
def Ig(k:Int):Int:=ite (k=2\/k=10) 200<|ite (k=14) 2 1
theorem Fu(k w):V K 263 #[zI k] w λe b=>e=Q (A5 #[zI 1,zI<|Ig k])/\b=w:=by
 unfold Ig;obtain rfl|rfl|rfl|⟨_,_,a⟩:k=2\/k=10\/k=14\/(¬k=2/\¬k=10/\¬k=14):=O
 .rw[ae Z];go_in;go_wp2;go_ret2
  simp_all
 .rw[ae Z];go_in;go_wp2;go_ret2
  simp_all
 .rw[aa Z,ae rfl];go_in;go_wp2;go_ret2
  simp_all
 .rw[aa O,aa a];go_in;go_wp2;go_ret2
  simp_all
def ff0(w lb mb k)(h:Lk w lb mb k)(b nk t v u x y d l)(i:bv w d l)(g:G l<=1048576)(r:∀s∈l,s.size<=1048576)
  (f:w.heap[b]?=M (A9 #[zI nk,zI t,zI v,zI u,zI x,y,d] 205 (0,0))):
  V K 172 #[be lb 0,A1 203<|be b 0] w λe m=>e=Q (X<|decide (1<=(G l:Int)/\(G l:Int)<=Ig nk)&&yc l (G l) 0)/\m=w:=by
 have E:=λw=>asT b w;have F:=λw=>asF b w;have a:=λw=>Fu nk w;have c:=C3 w lb mb k d l h i g r;obtain⟨o,q,rfl⟩:=i.form;have A:w.cell? (aj b 0)=M (zI nk):=crV f;have p:w.cell? (aj b 6)=M (B0 o (G l) q):=crV f;generalize yc l (G l) 0=z at c⊢;generalize G l=j at g c p⊢;generalize Ig nk=n at a⊢;by_cases B:1<=(j:Int)
 .by_cases C:(j:Int)<=n
  .rw[eI O,gK];go_in;go_wp2_with (first|(go_at_call 263;apply ez<|a _)|(go_at_call 264;apply c.mono;rintro e m ⟨rfl,rfl⟩));go_ret;exact rr
  .rw[bq O,gJ];go_in;go_wp2_with (go_at_call 263;apply ez<|a _);go_ret;exact rr
 .rw[bq O,gJ];go_in;go_wp2_with (go_at_call 263;apply ez<|a _);go_ret;exact rr
def ff1(w lb b nk i k j l a)(c:zOA)(L d)(p:L<=1048576)
  (f:w.heap[b]?=M (A9 #[zI nk,zI i,zI k,zI j,zI l,B0 c L d,zI a] 208 (0,0))):
  V K 172 #[be lb 0,A1 206<|be b 0] w λe g=>e=Q (X<|decide (1<=a/\a<(L:Int)))/\Ax w.heap.size w g:=by
 have q:=λw=>asT b w;have r:=λw=>asF b w;have n:w.cell? (aj b 5)=M (B0 c L d):=crV f;have o:w.cell? (aj b 6)=M (zI a):=crV f;by_cases g:1<=a
 .by_cases h:a<(L:Int)
  .rw[eI O];go_in;go_wp2_with fail;go_quiet (fail)
   go_wp2;go_ret;exact⟨R,nB blR _⟩
  .rw[bq O];have m:=ah h;go_in;go_wp2_with fail;go_quiet (fail)
   go_wp2;go_ret;exact⟨by show Ending.returned (X<|decide (a<(L:Int)))=_;rw[bq O],nB blR _⟩
 .rw[bq O];have h:=bq g;go_in;go_wp2_with fail;go_quiet (fail)
  go_wp2;go_ret;exact⟨R,nB blR _⟩
def ff2(w lb b):
  V K 172 #[be lb 0,A1 209<|be b 0] w λe a=>e=Q (X A3)/\a=w:=by
 have a:=λw=>asT b w;have c:=λw=>asF b w;exact giR
def ff6(w lb b):
  V K 172 #[be lb 0,A1 131<|be b 0] w λe a=>e=Q (X A3)/\a=w:=by
 have a:=λw=>asT b w;have c:=λw=>asF b w;exact giR
def ff3(w lb mb g)(h:Lk w lb mb g)(b nk l n m o p)(x:Bz)(k:x.size<=1100000)
  (d:w.heap[b]?=M (A9 #[zI nk,zI l,zI n,zI m,zI o,p,A0 x] 214 (0,0))):
  V K 172 #[be lb 0,A1 212<|be b 0] w λe a=>e=Q (X<|txB nk x)/\Ax w.heap.size w a:=by
 have r:=λw=>asT b w;have s:=λw=>asF b w;have f:=aax _ lb mb g nk x k<|h.below<|eC<|ay _ w;have i:w.cell? (aj b 0)=M (zI nk):=crV d;have j:w.cell? (aj b 6)=M (A0 x):=crV d;generalize txB nk x=q at f⊢;go_in;go_wp2_with fail;go_region_held3 (λa=>a.cell? (aj b 0)=M (zI nk)/\a.cell? (aj b 6)=M (A0 x)) (first|go_keep|exact⟨ag c i,ag c j⟩) ((go_at_call 265;apply f.mono;rintro e _ ⟨rfl,c⟩))
 go_wp2;go_ret;exact⟨R,(eC<|ay _ w).trans c⟩
def ff4(w lb b nk g i h j a k)
  (d:w.heap[b]?=M (A9 #[zI nk,zI g,zI i,zI h,zI j,k,zI a] 217 (0,0))):
  V K 172 #[be lb 0,A1 215<|be b 0] w λe c=>e=Q (X<|ite (nk=30) (decide ((19:Int)<=a)&&decide (a<=22))<|decide ((1:Int)<=a)&&decide (a<=18))/\c=w:=by
 have n:=λw=>asT b w;have o:=λw=>asF b w;have l:w.cell? (aj b 0)=M (zI nk):=crV d;have m:w.cell? (aj b 6)=M (zI a):=crV d;by_cases f:nk=30
 .rw[ae f];by_cases c:(19:Int)<=a
  .rw[eI c,gK];exact giR
  .rw[bq c,gJ];exact giR
 .rw[aa f];by_cases c:(1:Int)<=a
  .rw[eI c,gK];exact giR
  .rw[bq c,gJ];exact giR
def ff5(w lb mb g)(h:Lk w lb mb g)(b nk q t r u v c k l)(f:bv w c l)(d:G l<=1048576)(p:∀s∈l,s.size<=1048576)
  (o:w.heap[b]?=M (A9 #[zI nk,zI q,zI t,zI r,zI u,v,c,X k] 220 (0,0))):
  V K 172 #[be lb 0,A1 218<|be b 0] w λe i=>e=Q (X<|yc l (G l) 0)/\i=w:=by
 have y:=λw=>asT b w;have z:=λw=>asF b w;have a:=C3 w lb mb g c l h f d p;obtain⟨j,n,rfl⟩:=f.form;have m:w.cell? (aj b 6)=M (B0 j (G l) n):=crV o;generalize yc l (G l) 0=x at a⊢;generalize G l=A at d a m⊢;go_in;go_wp2_with (go_at_call 264;apply a.mono;rintro e i ⟨rfl,rfl⟩);go_ret;exact rr
def Ah:Int->Bz|1=>⟨#[115,116,97,116,42]⟩|2=>⟨#[101,120,112,114,42]⟩|3=>⟨#[101,120,112,114]⟩|4=>⟨#[102,110]⟩|6=>⟨#[99,97,108,108]⟩|7=>⟨#[101,120,112,114,32,98,108,111,99,107,32,101,108,115,101,63]⟩|8=>⟨#[101,120,112,114,32,98,108,111,99,107]⟩|9=>⟨#[101,120,112,114,32,101,120,112,114,32,101,120,112,114,63,32,98,108,111,99,107]⟩|10=>⟨#[101,120,112,114,32,98,108,111,99,107]⟩|11=>zE0|12=>zE0|13=>⟨#[101,120,112,114,42]⟩|14=>⟨#[98,108,111,99,107,32,98,108,111,99,107]⟩|15=>⟨#[101,120,112,114]⟩|16=>⟨#[99,97,108,108]⟩|20=>zE0|21=>zE0|22=>zE0|23=>zE0|24=>zE0|25=>zE0|26=>zE0|27=>zE0|28=>⟨#[101,120,112,114,32,101,120,112,114]⟩|29=>⟨#[101,120,112,114,32,101,120,112,114]⟩|30=>⟨#[101,120,112,114]⟩|31=>⟨#[101,120,112,114,32,101,120,112,114]⟩|32=>⟨#[98,97,115,101,32,101,120,112,114]⟩|33=>⟨#[98,97,115,101]⟩|34=>⟨#[98,97,115,101,32,101,120,112,114,42]⟩|35=>⟨#[101,110,116,114,121,42]⟩|36=>⟨#[98,108,111,99,107]⟩|37=>⟨#[109,97,110,121]⟩|40=>⟨#[101,120,112,114]⟩|41=>⟨#[101,120,112,114,32,101,120,112,114]⟩|42=>⟨#[101,120,112,114]⟩|_=>zE0
def afl:Int->Option (List<|Nat×Nat)|1=>M [(0,1)]|2=>M [(3,1)]|3=>M [(3,0)]|4=>M [(8,0)]|6=>M [(6,0)]|7=>M [(3,0),(1,0),(2,2)]|8=>M [(3,0),(1,0)]|9=>M [(3,0),(3,0),(3,2),(1,0)]|10=>M [(3,0),(1,0)]|11=>M []|12=>M []|13=>M [(3,1)]|14=>M [(1,0),(1,0)]|15=>M [(3,0)]|16=>M [(6,0)]|20=>M []|21=>M []|22=>M []|23=>M []|24=>M []|25=>M []|26=>M []|27=>M []|28=>M [(3,0),(3,0)]|29=>M [(3,0),(3,0)]|30=>M [(3,0)]|31=>M [(3,0),(3,0)]|32=>M [(4,0),(3,0)]|33=>M [(4,0)]|34=>M [(4,0),(3,1)]|35=>M [(9,1)]|36=>M [(1,0)]|37=>M [(7,0)]|40=>M [(3,0)]|41=>M [(3,0),(3,0)]|42=>M [(3,0)]|_=>B3
def qi:zLI:=[1,2,3,4,6,7,8,9,10,11,12,13,14,15,16,20,21,22,23,24,25,26,27,28,29,30,31,32,33,34,35,36,37,40,41,42]
def aay(k)(h:k ∉ qi):afl k=B3/\Ah k=zE0:=by
 simp[qi,not_or]at h;obtain⟨_,_,_,_,_,_,_,_,_,_,_,_,_,_,_,_,_,_,_,_,_,_,_,_,_,_,_,_,_,_,_,_,_,_,_,_⟩:=h;constructor
 .unfold afl;split<;>first|rfl|contradiction
 .unfold Ah;split<;>first|rfl|contradiction
def adl(k)(h:k∈qi):∃a,afl k=M a/\Lib.fields (Ah k).data.toList=a.map (λx=>EH x.1 x.2)/\(∀x∈a,x.1<10/\x.2<3)/\(Ah k).size<100/\(∀(j:Nat) b,(Ah k).data.toList[j]?=M b->b.toNat<128)/\G a<10:=by
 have d:∀(c:List UInt8),(c.all λb=>decide (b.toNat<128))=A3->∀(j:Nat) b,c[j]?=M b->b.toNat<128:=λc f j b e=>by simpa using fH.1 f b (db e)
 simp[qi,rl]at h;obtain rfl|rfl|rfl|rfl|rfl|rfl|rfl|rfl|rfl|rfl|rfl|rfl|rfl|rfl|rfl|rfl|rfl|rfl|rfl|rfl|rfl|rfl|rfl|rfl|rfl|rfl|rfl|rfl|rfl|rfl|rfl|rfl|rfl|rfl|rfl|rfl:=h;all_goals exact⟨_,R,R,Z,Z,d _ Z,Z⟩
def amE(k w)(h:k=1\/k=2\/k=3\/k=4\/k=6\/k=7\/k=8\/k=9\/k=10):V K 268 #[zI k] w λe a=>e=Q (A5 #[A0<|Ah k,X A3])/\a=w:=by
 obtain rfl|rfl|rfl|rfl|rfl|rfl|rfl|rfl|rfl:=h;all_goals
  simp only[Ah];go_in;go_wp2;go_ret2;exact rr
def amF(k w)(h:k=11\/k=12\/k=13\/k=14\/k=15\/k=16\/k=20\/k=21\/k=22):V K 268 #[zI k] w λe a=>e=Q (A5 #[A0<|Ah k,X A3])/\a=w:=by
 obtain rfl|rfl|rfl|rfl|rfl|rfl|rfl|rfl|rfl:=h;all_goals
  simp only[Ah];go_in;go_wp2;go_ret2;exact rr
def amG(k w)(h:k=23\/k=24\/k=25\/k=26\/k=27\/k=28\/k=29\/k=30\/k=31):V K 268 #[zI k] w λe a=>e=Q (A5 #[A0<|Ah k,X A3])/\a=w:=by
 obtain rfl|rfl|rfl|rfl|rfl|rfl|rfl|rfl|rfl:=h;all_goals
  simp only[Ah];go_in;go_wp2;go_ret2;exact rr
def amH(k w)(h:k=32\/k=33\/k=34\/k=35\/k=36\/k=37\/k=40\/k=41\/k=42):V K 268 #[zI k] w λe a=>e=Q (A5 #[A0<|Ah k,X A3])/\a=w:=by
 obtain rfl|rfl|rfl|rfl|rfl|rfl|rfl|rfl|rfl:=h;all_goals
  simp only[Ah];go_in;go_wp2;go_ret2;exact rr
def ajy(k w)(h:k ∉ qi):V K 268 #[zI k] w λe a=>e=Q (A5 #[nh,X Br])/\a=w:=by
 simp[qi,not_or]at h;obtain⟨_,_,_,_,_,_,_,_,_,_,_,_,_,_,_,_,_,_,_,_,_,_,_,_,_,_,_,_,_,_,_,_,_,_,_,_⟩:=h;go_in;go_wp2;go_ret2;exact rr
def adm(k w):V K 268 #[zI k] w λe c=>e=Q (A5 #[A0<|Ah k,X (afl k).isSome])/\c=w:=by
 by_cases h:k∈qi
 .obtain⟨_,a,_⟩:=adl k h;rw[a,Option.isSome_some];simp[qi,rl]at h;obtain h|h|h|h:(k=1\/k=2\/k=3\/k=4\/k=6\/k=7\/k=8\/k=9\/k=10)\/(k=11\/k=12\/k=13\/k=14\/k=15\/k=16\/k=20\/k=21\/k=22)\/(k=23\/k=24\/k=25\/k=26\/k=27\/k=28\/k=29\/k=30\/k=31)\/(k=32\/k=33\/k=34\/k=35\/k=36\/k=37\/k=40\/k=41\/k=42):=O
  .exact amE k w h
  .exact amF k w h
  .exact amG k w h
  .exact amH k w h
 .have⟨a,b⟩:=aay k h;rw[a,b];exact ajy k w h
def JB(n:Nat):List (Nat×Nat):=List.replicate n (5,0)++[(3,0),(3,1)]
def setB(n:Nat):Bz:=⟨(S [116,97,114,103,101,116,32] n).toArray⟩++⟨#[101,120,112,114,32,101,120,112,114,42]⟩
def D9(n):(setB n).data.toList=S [116,97,114,103,101,116,32] n++[101,120,112,114,32,101,120,112,114,42]:=by
 unfold setB;rw[vJ];simp
def EK:∀n,Lib.fields (S [116,97,114,103,101,116,32] n++[101,120,112,114,32,101,120,112,114,42])=(JB n).map λx=>EH x.1 x.2
 |0=>Z|n+1=>by
  have b:=EK n;have a:Lib.fields (S [116,97,114,103,101,116,32] (n+1)++[101,120,112,114,32,101,120,112,114,42])=[116,97,114,103,101,116]::Lib.fields (S [116,97,114,103,101,116,32] n++[101,120,112,114,32,101,120,112,114,42]):=by
   rw[S];rfl
  rw[a,b];rfl
def afm(n):∀(j:Nat) b,(setB n).data.toList[j]?=M b->b.toNat<128:=by
 rw[D9];have c:∀(a:List UInt8),(a.all λb=>decide (b.toNat<128))=A3->∀b∈a,b.toNat<128:=λa d b hb=>by simpa using fH.1 d b hb
 have e:∀n,∀b∈S [116,97,114,103,101,116,32] n,b.toNat<128:=by
  intro n
  induction n with
  |zero=>intro b hb;simp[S]at hb|succ n f=>
   intro b hb;rw[S]at hb;obtain hb|hb:=dg.1 hb
   .exact c _ Z b hb
   .exact f b hb
 intro j b hb;obtain h|h:=dg.1<|db hb
 .exact e n b h
 .exact c _ Z b h
def ajz(n):(setB n).size=7*n+10:=by
 have a:=congrArg G<|D9 n;rw[aG,Lib.repeatL_length]at a;simp at a;omega
def aqI(n):∀x∈JB n,x.1<10/\x.2<3:=by
 intro x hx;unfold JB at hx;obtain hx|hx:=dg.1 hx
 .rw[(List.mem_replicate.1 hx).2];decide
 .simp at hx;obtain rfl|rfl:=hx<;>decide
def adn(w b nk u x v y)(n:Nat)(q:n<=200)(f ks)(i:mh w f ks)(p:G ks<=1048576)(s:∀W,Ax w.heap.size w W->B2 K W "strings.asciiSpace" .u8 A2)
  (h:w.heap[b]?=M (A9 #[zI nk,zI u,zI x,zI v,zI y,f,zI (n:Int)] 208 (0,0))):
  V K 173 #[A1 206<|be b 0] w λe a=>e=Q (X<|io (JB n) ks)/\Ax w.heap.size w a:=by
 have F:=λw=>asT b w 206 Z;have j:=aeI n w q;have a:=λW g=>As W _ _ f ks (by rw[D9];exact EK n) (aqI n) (by rw[ajz];omega) (afm n) (s W g) (i.below g) p (by unfold JB;rw[aG,List.length_replicate];simp;omega);obtain⟨l,m,rfl⟩:=i.form;have d:w.cell? (aj b 5)=M (B0 l (G ks) m):=crV h;have E:w.cell? (aj b 6)=M (zI (n:Int)):=crV h;have r:((⟨(S [116,97,114,103,101,116,32] n).toArray⟩:Bz)).size=7*n:=by
  have e:((⟨(S [116,97,114,103,101,116,32] n).toArray⟩:Bz)).size=G (S [116,97,114,103,101,116,32] n):=by simp[ByteArray.size]
  rw[e,Lib.repeatL_length];simp;omega
 unfold setB at a;generalize io (JB n) ks=B at a⊢;generalize G ks=A at a d;generalize (⟨(S [116,97,114,103,101,116,32] n).toArray⟩:Bz)=C at a j r;have k:=ah d;go_in;go_wp21
 apply j.mono;rintro e z ⟨rfl,c⟩;have d:=ag c k.out;have t:=a z c;go_wp21
 apply t.mono;rintro e _ ⟨rfl,o⟩;go_wp21
 go_ret;exact⟨R,c.trans<|o.mono c.size⟩
def asS(k)(h:eG k≠1)(b w):(Instr.typeAssert (A1 (nC<|eG k)<|be b 0) 64 206 A3).run K w= .ok (A5 #[.pointer B3,X Br]) w:=by
 have a:=h;obtain g|g|g|g|g|g|g:=Hz k<;>rw[g]at a⊢;all_goals first|exact absurd R a|exact asF b w _ _ Z Z Z
def rkB(k:Int)(ks:zLI):Bool:=match afl k with|some a=>io a ks|none=>Br
def ado(w b k)(s:eG k≠1)(g ks)(i:mh w g ks)(t:G ks<=1048576)(u:B2 K w "strings.asciiSpace" .u8 A2)
  (c:w.cell? (aj b 0)=M (zI k)) (o:w.cell? (aj b 5)=M g):
  V K 173 #[iF k b] w λe a=>e=Q (X<|rkB k ks)/\Ax w.heap.size w a:=by
 have h:=λw=>asS k s b w;have l:=λw=>H8 k b w;have m:=λw=>eD b w;have a:=λw=>adm k w;unfold iF rkB;by_cases j:k∈qi
 .obtain⟨n,c,f,p,_,q,_⟩:=adl k j;have d:=As w _ n g ks f p O q u i t O;rw[c]at a⊢;simp[Option.isSome_some]at a⊢;obtain⟨_,_,rfl⟩:=i.form;generalize G ks=x at d o;generalize io n ks=y at d⊢;generalize Ah k=z at d a;generalize nC (eG k)=v at h l⊢;go_in;go_wp2_with (first|(go_at_call 404;apply ez<|m _)|(go_at_call 268;apply ez<|a _)|(go_at_call 267;apply d.mono;rintro e _ ⟨rfl,r⟩));go_ret;exact⟨R,r⟩
 .have⟨c,f⟩:=aay k j;rw[c,f]at a;rw[c];simp[Option.isSome_none]at a⊢;generalize nC (eG k)=v at h l⊢;go_in;go_wp2_with (first|(go_at_call 404;apply ez<|m _)|(go_at_call 268;apply ez<|a _));go_ret;exact⟨R,blR⟩
def ffB(N:Nd)(L:Nat):Nat->Bool|0=>decide (1<=(G N.nm:Int)/\(G N.nm:Int)<=Ig N.k)&&yc N.nm (G N.nm) 0|1=>decide (1<=N.n/\N.n<(L:Int))|2=>A3|3=>txB N.k N.x|4=>ite (N.k=30) (decide ((19:Int)<=N.op)&&decide (N.op<=22))<|decide ((1:Int)<=N.op)&&decide (N.op<=18)|5=>yc N.nm (G N.nm) 0|_=>A3
def JC(w lb mb i)(h:Lk w lb mb i)(b N g c)(l:zOA)(L m)(t:L<=1048576)(o:bv w g N.nm)(n:G N.nm<=1048576)(p:∀s∈N.nm,s.size<=1048576)(v:N.x.size<=1048576)(a:im w b N g c (B0 l L m)):
  V K 172 #[be lb 0,iF N.k b] w λe d=>e=Q (X<|ffB N L<|eG N.k)/\Ax w.heap.size w d:=by
 unfold im at a;unfold iF;have f:∀{j:Bool},(V K 172 #[be lb 0,A1 (nC<|eG N.k)<|be b 0] w λe d=>e=Q (X j)/\d=w)->(V K 172 #[be lb 0,A1 (nC<|eG N.k)<|be b 0] w λe d=>e=Q (X j)/\Ax w.heap.size w d):=λu=>u.mono λe d ⟨q,r⟩=>⟨q,r ▸ blR⟩;obtain hc|hc|hc|hc|hc|hc|hc:=Hz N.k
 .apply f;rw[hc]at a⊢;exact ff0 w lb mb i h b _ _ _ _ c _ g _ o n p a
 .rw[hc]at a⊢;exact ff1 w lb b _ _ _ _ c _ l L m t a
 .apply f;rw[hc]at a⊢;exact ff2 w lb b
 .rw[hc]at a⊢;exact ff3 w lb mb i h b _ _ _ _ c _ _ O a
 .apply f;rw[hc]at a⊢;exact ff4 w lb b _ _ _ _ c _ _ a
 .apply f;rw[hc]at a⊢;exact ff5 w lb mb i h b _ _ _ _ c _ g _ _ o n p a
 .apply f;rw[hc]at a⊢;exact ff6 w lb b
def im.cells{b N d a c}(h:im W b N d c a):W.cell? (aj b 0)=M (zI N.k)/\W.cell? (aj b 1)=M (zI N.f)/\W.cell? (aj b 2)=M (zI N.t)/\W.cell? (aj b 4)=M (zI c)/\W.cell? (aj b 5)=M a/\∀j,W.frozen? (aj b j)=Br:=by
 unfold im at h;refine⟨?_,?_,?_,?_,?_,λj=>frR h⟩
 .rw[oe h];simp
 .rw[oe h];simp
 .rw[oe h];simp
 .rw[oe h];simp
 .rw[oe h];simp
def kfB(N:Nd)(ks:zLI):Bool:=ite (eG N.k=1) (io (JB N.n.toNat) ks)<|rkB N.k ks
def adp(w b N q d j ks)(g:mh w d ks)(h:G ks<=1048576)(i:∀W,Ax w.heap.size w W->B2 K W "strings.asciiSpace" .u8 A2)(c:im w b N q j d)(p:eG N.k=1->0<=N.n/\N.n<=200):
  V K 173 #[iF N.k b] w λe a=>e=Q (X<|kfB N ks)/\Ax w.heap.size w a:=by
 unfold kfB;by_cases a:eG N.k=1
 .rw[ae a];have⟨_,_⟩:=p a;unfold im at c;unfold iF;rw[a]at c⊢;have e:N.n=((N.n.toNat:Nat):Int):=O;apply adn w b N.k N.f N.t N.l j _ O d ks g h i;rw[<-e];exact c
 .rw[aa a];have⟨m,_,_,_,o,_⟩:=c.cells;exact ado w b _ a d ks g h (i w blR) m o
def cmL(a b:Bz):Nat->Nat->Nat|0,n=>n|f+1,n=>ite (n<a.size/\n<b.size/\aq a n=aq b n) (cmL a b f<|n+1) n
def cmF(a b:Bz):Nat:=cmL a b (a.size+1) 0
structure auD (a b:Bz) (f n R1:Nat):Prop where
 out:cmL a b f n=R1
def Ih(w)(a b:Bz)(y:a.size<=1100000)(z:b.size<=1100000):
  V K 147 #[A0 a,A0 b] w λe c=>e=Q (zI<|cmF a b)/\Ax w.heap.size w c:=by
 unfold cmF;have⟨i,m⟩:=aw<|cmL a b (a.size+1) 0;rw[m];have l:auD a b (a.size+1) 0 i:=⟨m⟩;go_in;go_wp21
 go_loopw [5] (λj wr=>∃c f,c<=a.size/\a.size<c+f/\j=zI c/\auD a b f c i/\Ax w.heap.size w wr) (λj _=>a.size+1-(B1 j).toNat)
 .exact⟨0,_,O,O,R,l,blR⟩
 .
  obtain⟨c,f,_,_,rfl,k,n⟩:=hrel;clear l;obtain⟨f,rfl⟩:∃p,f=p+1:=⟨f-1,O⟩;have d:=k.out;rw[cmL]at d;have bN:=λu=>n.trans<|aiy _ wr u;clear k n;by_cases q:c<a.size
  .have s:(c:Int)<(a.size:Int):=O;by_cases r:c<b.size
   .have t:(c:Int)<(b.size:Int):=O;have o:=λw=>dy q w;have v:=λw=>dy r w;by_cases h:aq a c=aq b c
    .rw[ae O]at d;rw[h]at o;have g:auD a b f (c+1) i:=⟨d⟩;clear d h;generalize aq b c=x at o v;go_wp21
     go_quiet (fail)
     go_wp21
     exact⟨⟨_,f,O,O,by go_num,g,bN _⟩,by simp[B1];omega⟩
    .rw[aa O]at d;have g:=ah d;have x:=fC.2 h;clear d h;go_wp21
     go_quiet (fail)
     go_wp21
     go_ret;exact⟨by rw[<-g.out];rfl,bN _⟩
   .rw[aa O]at d;have g:=ah d;have t:¬(c:Int)<(b.size:Int):=O;clear d;go_wp21
    go_quiet (fail)
    go_wp21
    go_ret;exact⟨by rw[<-g.out];rfl,bN _⟩
  .rw[aa O]at d;have g:=ah d;have s:¬(c:Int)<(a.size:Int):=O;clear d;go_wp21
   go_quiet (fail)
   go_wp21
   go_ret;exact⟨by rw[<-g.out];rfl,bN _⟩
def bnC(k c:Int):Bool:=ite (k=1) (bi c)<|ite (k=2) (co c)<|ite (k=3) (co c)<|decide (c=34)
def bnF(k:Int)(x:Bz):Nat:=ite (x.size=0) 0<|ite (k=1\/k=2\/k=3\/k=4) (ite (bnC k (aq x 0)=A3) x.size 0)<|cmF x<|di k
theorem amI(k):(di k).size<=6:=by
 by_cases c:0<=k/\k<=78
 .have a:∀b:Fin 79,(di (b.val:Int)).size<=6:=by decide+kernel
  have:=a ⟨k.toNat,O⟩;grind
 .rw[di,Bw,Bw,Bw,Bw,Bw];decide
theorem JD(w k)(x:Bz)(l:uz w)(n:x.size<=1100000)(p:1<=k)(q:k<=78):
  V K 149 #[zI k,A0 x] w λe c=>e=Q (zI<|bnF k x)/\Ax w.heap.size w c:=by
 unfold bnF;by_cases f:x.size=0
 .rw[ae f];have e:x=zE0:=by
   obtain⟨a⟩:=x;have:a.size=0:=f;grind
  subst e;go_in;go_wp21
  go_ret;exact⟨R,blR⟩
 .rw[aa f];have o:(x.toList==[])=Br:=by
   have:G x.toList=x.size:=by rw[iH];simp
   grind
  have g:=λw=>dy (s:=x) (i:=0) O w;rw[show(((0:Nat):Int))=0 from rfl]at g;have m:(k=1\/k=2\/k=3\/k=4)\/¬(k=1\/k=2\/k=3\/k=4):=O;obtain h|h:=m
  .rw[ae h];generalize aq x 0=a at g⊢;have j:=λw=>pi a w;have d:=λw=>kL a w;obtain rfl|rfl|rfl|rfl:=h
   .rw[show bnC 1 a=bi a from rfl];cases b:bi a;all_goals
     rw[b]at j;go_in;go_wp2_with (go_at_call 234;apply(j _).mono;rintro e c ⟨rfl,rfl⟩);go_ret;exact⟨R,blR⟩
   .rw[show bnC 2 a=co a from rfl];cases b:co a;all_goals
     rw[b]at d;go_in;go_wp2_with (go_at_call 236;apply(d _).mono;rintro e c ⟨rfl,rfl⟩);go_ret;exact⟨R,blR⟩
   .rw[show bnC 3 a=co a from rfl];cases b:co a;all_goals
     rw[b]at d;go_in;go_wp2_with (go_at_call 236;apply(d _).mono;rintro e c ⟨rfl,rfl⟩);go_ret;exact⟨R,blR⟩
   .rw[show bnC 4 a=decide (a=34) from rfl];by_cases b:a=34
    .subst b;go_in;go_wp21
     go_ret;exact⟨R,blR⟩
    .rw[bq b];go_in;go_wp21
     go_ret;exact⟨R,blR⟩
  .rw[aa h];have r:¬k=1:=O;have t:¬k=2:=O;have u:¬k=3:=O;have v:¬k=4:=O;have b:=ug k O O w l;have d:=amI k;have a:=λw=>Ih w x (di k) n O;generalize di k=j at b a d⊢;go_in;go_wp2_with (first|(go_at_call 184;apply b.mono;rintro e c ⟨rfl,_⟩;subst c)|(go_at_call 147;apply(a _).mono;rintro e _ ⟨rfl,_⟩));go_ret
   simp_all
def afn(w m fr)(g:w.heap[3]?=M (A9 Fg m fr))(kind)(k:∀i,i<20->td.getD i 0≠kind):
  V K 272 #[zI kind] w λe a=>e=Q (A5 #[.agg #[zI 0,zI 0,zI 0],X Br])/\Ax w.heap.size w a:=by
 have h:=λb=>(ay _ w).alloc eE b;have n:Hid (iB w.heap.size (w.alloc<|A9 #[zI 0,zI 0,zI 0] 255) 0 0 0/\Ax w.heap.size w (w.alloc<|A9 #[zI 0,zI 0,zI 0] 255)):=⟨au w _,h _⟩;have o:=ah k;clear k;go_in;go_wp2_with (refine zk R 280 _ R 3 R m _ fr _ (((h _).block _<|ai g).trans g) Tryz.underlying280 R J ?_);go_loopw [7] (λf wr=>∃a:Nat,a<=20/\f=zI a/\Hid (iB w.heap.size wr 0 0 0/\Ax w.heap.size w wr)) (λf _=>20-(B1 f).toNat)
 .exact⟨0,O,R,n⟩
 .
  obtain⟨a,_,rfl,c⟩:=hrel;by_cases l:a<20
  .have d:=λw=>atA a l w;have j:=λb=>(ay _ wr).alloc eE b;have q:=o.out a l;generalize uE (3*a+1)=s at d;generalize uE (3*a+2)=t at d;generalize td.getD a 0=r at d q;have p:Hid (∀b,iB w.heap.size (wr.alloc b) 0 0 0/\Ax w.heap.size w (wr.alloc b)):=λb=>⟨((j b).block _<|ai c.1).trans c.1,c.2.trans<|(j b).mono c.2.size⟩;go_wp21
   exact⟨⟨a+1,O,by go_num,p _⟩,by simp[B1];omega⟩
  .obtain rfl:a=20:=O;obtain⟨_,_,_,_⟩:=c.1.cells;have d:Hid (iB w.heap.size (((wr.setCell (aj w.heap.size 0)<|zI 0).setCell ⟨w.heap.size,1,B3⟩<|zI 0).setCell ⟨w.heap.size,2,B3⟩<|zI 0) 0 0 0/\Ax w.heap.size w (((wr.setCell (aj w.heap.size 0)<|zI 0).setCell ⟨w.heap.size,1,B3⟩<|zI 0).setCell ⟨w.heap.size,2,B3⟩<|zI 0)):=⟨iB.put c.1 0 0 0,((c.2.setCell eE _).setCell eE _).setCell eE _⟩;go_wp21
   exact aA (lp R _ _ _ _ _ _ R R<|zF _ _ _ _ _ d.1) R ⟨R,d.2⟩
def ahr:∀j,j<20->uE (3*j+1)=BA (td.getD j 0)/\uE (3*j+2)=rpw (td.getD j 0)/\gg (td.getD j 0)=A3/\∀i,i<j->td.getD i 0≠td.getD j 0:=by decide+kernel
def auE{k}(b:gg k=A3)(d:k<=78):∃j,j<20/\td.getD j 0=k:=by
 have c:=aL b;have a:k=10\/k=26\/k=61\/k=62\/k=63\/k=64\/k=65\/k=66\/k=67\/k=68\/k=69\/k=70\/k=71\/k=72\/k=73\/k=74\/k=75\/k=76\/k=77\/k=78:=O;obtain rfl|rfl|rfl|rfl|rfl|rfl|rfl|rfl|rfl|rfl|rfl|rfl|rfl|rfl|rfl|rfl|rfl|rfl|rfl|rfl:=a
 .exact⟨1,Z,R⟩
 .exact⟨0,Z,R⟩
 .exact⟨14,Z,R⟩
 .exact⟨15,Z,R⟩
 .exact⟨16,Z,R⟩
 .exact⟨17,Z,R⟩
 .exact⟨18,Z,R⟩
 .exact⟨19,Z,R⟩
 .exact⟨11,Z,R⟩
 .exact⟨9,Z,R⟩
 .exact⟨10,Z,R⟩
 .exact⟨12,Z,R⟩
 .exact⟨13,Z,R⟩
 .exact⟨8,Z,R⟩
 .exact⟨2,Z,R⟩
 .exact⟨3,Z,R⟩
 .exact⟨4,Z,R⟩
 .exact⟨5,Z,R⟩
 .exact⟨6,Z,R⟩
 .exact⟨7,Z,R⟩
