import Derived.Test.YtnlhhmlcjbohbaaGreatDoorHNk02
set_option linter.all false
set_option maxRecDepth 100000
set_option maxHeartbeats 25600000
open Go.Value renaming string->M,int->N,tuple->Ax,bool->A9,agg->B3,slice->B7,nilIface->Ce
open Go.Proofs.Tryz renaming prog->O
open Go.IntKind renaming i64->Q,u8->B6
open Go.Ending renaming returned->R
open Bool renaming false->S,true->T
open Go.Lib renaming parseUintM->U,hasPrefix->Br
open Go renaming Calls->W,World->Y,Value->B1
open Option renaming some->X,none->Z
open Go.RowKit renaming Below->A0,intOf->A2,Hid->B4
open Go.Obj renaming cells->A5
open Go.Instr renaming index->B0
namespace Go.Proofs.YtnlhhmlcjbohbaaGreatDoor
open Go.RowKit
variable{B i p:Nat}{c:Int}{s:ByteArray}{w w':World}
def CH:Array B1:=#[M ⟨#[]⟩,M ⟨#[43]⟩,M ⟨#[45]⟩,M ⟨#[42]⟩,M ⟨#[47]⟩,M ⟨#[47,47]⟩,M ⟨#[37]⟩,M ⟨#[38]⟩,M ⟨#[124]⟩,M ⟨#[126]⟩,M ⟨#[60,60]⟩,M ⟨#[62,62]⟩,M ⟨#[46,46]⟩,M ⟨#[61,61]⟩,M ⟨#[126,61]⟩,M ⟨#[60]⟩,M ⟨#[60,61]⟩,M ⟨#[62]⟩,M ⟨#[62,61]⟩]
def iG:Array B1:=#[M ⟨#[40]⟩,M ⟨#[41]⟩,M ⟨#[123]⟩,M ⟨#[125]⟩,M ⟨#[91]⟩,M ⟨#[93]⟩,M ⟨#[44]⟩,M ⟨#[61]⟩,M ⟨#[46]⟩,M ⟨#[46,46,46]⟩,M ⟨#[35]⟩]
def iE:Array B1:=#[M ⟨#[46,46,46]⟩,M ⟨#[46,46]⟩,M ⟨#[46]⟩,M ⟨#[60,60]⟩,M ⟨#[60,61]⟩,M ⟨#[60]⟩,M ⟨#[62,62]⟩,M ⟨#[62,61]⟩,M ⟨#[62]⟩,M ⟨#[61,61]⟩,M ⟨#[61]⟩,M ⟨#[126,61]⟩,M ⟨#[126]⟩,M ⟨#[47,47]⟩,M ⟨#[47]⟩,M ⟨#[40]⟩,M ⟨#[41]⟩,M ⟨#[123]⟩,M ⟨#[125]⟩,M ⟨#[91]⟩,M ⟨#[93]⟩,M ⟨#[44]⟩,M ⟨#[59]⟩,M ⟨#[35]⟩,M ⟨#[43]⟩,M ⟨#[45]⟩,M ⟨#[42]⟩,M ⟨#[37]⟩,M ⟨#[38]⟩,M ⟨#[124]⟩]
theorem ajp:(#[M ⟨#[]⟩,M ⟨#[43]⟩,M ⟨#[45]⟩,M ⟨#[42]⟩,M ⟨#[47]⟩,M ⟨#[47,47]⟩,M ⟨#[37]⟩,M ⟨#[38]⟩,M ⟨#[124]⟩,M ⟨#[126]⟩,M ⟨#[60,60]⟩,M ⟨#[62,62]⟩,M ⟨#[46,46]⟩,M ⟨#[61,61]⟩,M ⟨#[126,61]⟩,M ⟨#[60]⟩,M ⟨#[60,61]⟩,M ⟨#[62]⟩,M ⟨#[62,61]⟩]:Array B1)=CH:=rfl
theorem ajq:(#[M ⟨#[40]⟩,M ⟨#[41]⟩,M ⟨#[123]⟩,M ⟨#[125]⟩,M ⟨#[91]⟩,M ⟨#[93]⟩,M ⟨#[44]⟩,M ⟨#[61]⟩,M ⟨#[46]⟩,M ⟨#[46,46,46]⟩,M ⟨#[35]⟩]:Array B1)=iG:=rfl
def bp(V:Array B1)(k:Nat):ByteArray:=match V[k]? with|some (.string s)=>s|_=>ByteArray.empty
theorem amK:∀k:Fin 19,CH[k.val]?=X (M (bp CH k.val)):=by
 intro ⟨k,a⟩;rcases(show k=0\/k=1\/k=2\/k=3\/k=4\/k=5\/k=6\/k=7\/k=8\/k=9\/k=10\/k=11\/k=12\/k=13\/k=14\/k=15\/k=16\/k=17\/k=18 by omega) with rfl|rfl|rfl|rfl|rfl|rfl|rfl|rfl|rfl|rfl|rfl|rfl|rfl|rfl|rfl|rfl|rfl|rfl|rfl;all_goals rfl
theorem afk:∀k:Fin 11,iG[k.val]?=X (M (bp iG k.val)):=by
 intro ⟨k,a⟩;rcases(show k=0\/k=1\/k=2\/k=3\/k=4\/k=5\/k=6\/k=7\/k=8\/k=9\/k=10 by omega) with rfl|rfl|rfl|rfl|rfl|rfl|rfl|rfl|rfl|rfl|rfl;all_goals rfl
theorem aaj:∀k:Fin 30,iE[k.val]?=X (M (bp iE k.val)):=by
 intro ⟨k,a⟩;rcases(show k=0\/k=1\/k=2\/k=3\/k=4\/k=5\/k=6\/k=7\/k=8\/k=9\/k=10\/k=11\/k=12\/k=13\/k=14\/k=15\/k=16\/k=17\/k=18\/k=19\/k=20\/k=21\/k=22\/k=23\/k=24\/k=25\/k=26\/k=27\/k=28\/k=29 by omega) with rfl|rfl|rfl|rfl|rfl|rfl|rfl|rfl|rfl|rfl|rfl|rfl|rfl|rfl|rfl|rfl|rfl|rfl|rfl|rfl|rfl|rfl|rfl|rfl|rfl|rfl|rfl|rfl|rfl|rfl;all_goals rfl
theorem Cm:∀k:Fin 22,eu[k.val]?=X (M (bp eu k.val)):=by
 intro ⟨k,a⟩;rcases(show k=0\/k=1\/k=2\/k=3\/k=4\/k=5\/k=6\/k=7\/k=8\/k=9\/k=10\/k=11\/k=12\/k=13\/k=14\/k=15\/k=16\/k=17\/k=18\/k=19\/k=20\/k=21 by omega) with rfl|rfl|rfl|rfl|rfl|rfl|rfl|rfl|rfl|rfl|rfl|rfl|rfl|rfl|rfl|rfl|rfl|rfl|rfl|rfl|rfl|rfl;all_goals rfl
def wg(V:Array B1)(s:ByteArray):Nat->Nat->Option Nat
 |0,_=>Z
 |f+1,k=>if((bp V k).toList==s.toList)=T then X k else wg V s f (k+1)
def yB(s:ByteArray):Int:=match wg CH s 18 1 with|some a=>60+(a:Int)|none=>(match wg iG s 11 0 with|some a=>40+(a:Int)|none=>5)
theorem qK(w:Y):W O 40 #[] w fun e w'=>e= R (B7 (X ⟨w.heap.size,0,Z⟩) 22 22)/\w'=w.alloc (A5 eu 9):=by
 go_in;go_wp2;go_ret;exact⟨rfl,rfl⟩
theorem uy(w:Y):W O 41 #[] w fun e w'=>e= R (B7 (X ⟨w.heap.size,0,Z⟩) 30 30)/\w'=w.alloc (A5 iE 9):=by
 go_in;go_wp2;go_ret;exact⟨rfl,rfl⟩
theorem xn(s:ByteArray)(w:Y):W O 57 #[M s] w fun e w'=>e= R (N Q (yB s))/\A0 w.heap.size w w':=by
 go_in;go_wp21
 rw[ajp];have t:=ay w (A5 CH 9);have l:A0 w.heap.size w (w.alloc (A5 CH 9)):=(ah _ w).alloc (ae _) _;generalize w.alloc (A5 CH 9)=i at t l⊢;obtain⟨v,q⟩:=aA (wg CH s 18 1);have k:=aw q;clear q;go_loop [4] (fun d=>∃a:Nat,1<=a/\a<=19/\d= N Q a/\B4 (wg CH s (19-a) a=v)) (fun d=>19-(A2 d).toNat)
 case atStart=>exact⟨1,by omega,by omega,rfl,k⟩
 case round=>
  obtain⟨a,C,z,rfl,g⟩:=hrel;by_cases p:a<19
  ·have o:i.cell? ⟨w.heap.size,a,Z⟩=X (M (bp CH a)):=by rw[au _ _ _ _ _ _ t];exact amK ⟨a,p⟩
   have b:=g.out;rw[show 19-a=(19-(a+1))+1 by omega]at b;unfold wg at b;generalize bp CH a=j at o b;by_cases c:(j.toList==s.toList)=T
   ·rw[ab c]at b;have f:=aw b;clear b;go_wp2;go_ret;refine⟨?_,l⟩;unfold yB;rw[k.out,<-f.out];rfl
   ·rw[aa c]at b;have f:=aw b;have B:(j.toList==s.toList)=S:=by simpa using c
    clear b c;go_wp2;go_round
    case rel=>exact⟨a+1,by omega,by omega,by go_num,f⟩
    case measure=>simp[A2];omega
  ·obtain rfl:a=19:=by omega
   have f:=aw g.out;go_wp21
   rw[ajq];have u:=ay i (A5 iG 9);have A:=l.size;have n:A0 w.heap.size w (i.alloc (A5 iG 9)):=l.alloc A _;generalize i.alloc (A5 iG 9)=y at u n⊢;obtain⟨x,r⟩:=aA (wg iG s 11 0);have m:=aw r;clear r;go_loop [26] (fun d=>∃a:Nat,a<=11/\d= N Q a/\B4 (wg iG s (11-a) a=x)) (fun d=>11-(A2 d).toNat)
   case atStart=>exact⟨0,by omega,rfl,m⟩
   case round=>
    obtain⟨a,z,rfl,g⟩:=hrel;by_cases p:a<11
    ·have o:y.cell? ⟨i.heap.size,a,Z⟩=X (M (bp iG a)):=by rw[au _ _ _ _ _ _ u];exact afk ⟨a,p⟩
     have b:=g.out;rw[show 11-a=(11-(a+1))+1 by omega]at b;unfold wg at b;generalize bp iG a=j at o b;by_cases c:(j.toList==s.toList)=T
     ·rw[ab c]at b;have h:=aw b;clear b;go_wp2;go_ret;refine⟨?_,n⟩;unfold yB;rw[k.out,<-f.out,m.out,<-h.out];rfl
     ·rw[aa c]at b;have h:=aw b;have B:(j.toList==s.toList)=S:=by simpa using c
      clear b c;go_wp2;go_round
      case rel=>exact⟨a+1,by omega,by go_num,h⟩
      case measure=>simp[A2];omega
    ·obtain rfl:a=11:=by omega
     have h:=aw g.out;go_wp2;go_ret;refine⟨?_,n⟩;unfold yB;rw[k.out,<-f.out,m.out,<-h.out];rfl
def al8:ByteArray:=⟨#[59]⟩
def apG:ByteArray:=⟨#[10]⟩
def tu:ByteArray:=⟨#[]⟩
def aak(kind:Int):Nat->Nat->ByteArray
 |0,_=>tu
 |f+1,k=>if yB (bp iE k)=kind then bp iE k else aak kind f (k+1)
def pJ(kind:Int):ByteArray:=if kind=5 then al8 else if 10<=kind/\kind<32 then bp eu (kind-10).toNat else aak kind 30 0
def lp:Array B1:=#[M ⟨#[43]⟩,M ⟨#[45]⟩,M ⟨#[42]⟩,M ⟨#[47]⟩,M ⟨#[47,47]⟩,M ⟨#[37]⟩,M ⟨#[38]⟩,M ⟨#[124]⟩,M ⟨#[126]⟩,M ⟨#[60,60]⟩,M ⟨#[62,62]⟩,M ⟨#[46,46]⟩,M ⟨#[61,61]⟩,M ⟨#[126,61]⟩,M ⟨#[60]⟩,M ⟨#[60,61]⟩,M ⟨#[62]⟩,M ⟨#[62,61]⟩]
theorem amL:∀k:Fin 18,lp[k.val]?=X (M (bp lp k.val)):=by
 intro ⟨k,a⟩;rcases(show k=0\/k=1\/k=2\/k=3\/k=4\/k=5\/k=6\/k=7\/k=8\/k=9\/k=10\/k=11\/k=12\/k=13\/k=14\/k=15\/k=16\/k=17 by omega) with rfl|rfl|rfl|rfl|rfl|rfl|rfl|rfl|rfl|rfl|rfl|rfl|rfl|rfl|rfl|rfl|rfl|rfl;all_goals rfl
structure si (w:Y):Prop where
 word:∃tt fr,w.heap[0]?=X (.cells eu tt fr)
 mark:∃tt fr,w.heap[2]?=X (.cells iG tt fr)
 bin:∃tt fr,w.heap[3]?=X (.cells lp tt fr)
theorem si.below(h:si w)(b:A0 B w w')(a:w.heap.size<=B):si w':=by
 obtain⟨⟨j,f,c⟩,⟨k,g,d⟩,⟨l,i,e⟩⟩:=h;exact⟨⟨j,f,(b.block _ (gh (ai c) a)).trans c⟩,⟨k,g,(b.block _ (gh (ai d) a)).trans d⟩,⟨l,i,(b.block _ (gh (ai e) a)).trans e⟩⟩
def dB(kind:Int):ByteArray:=if kind=5 then al8 else if kind=7 then apG else if 10<=kind/\kind<=31 then bp eu (kind-10).toNat else if 40<=kind/\kind<=50 then bp iG (kind-40).toNat else if 61<=kind/\kind<=78 then bp lp (kind-61).toNat else tu
theorem wI(kind:Int)(y: -9223372036854775808<=kind)(z:kind<=9223372036854775807)(w:Y)(l:si w):W O 131 #[N Q kind] w fun e w'=>e= R (M (dB kind))/\w'=w:=by
 obtain⟨⟨A,s,r⟩,⟨B,t,q⟩,⟨C,u,m⟩⟩:=l;unfold dB;by_cases c:kind=5
 ·subst c;go_in;go_wp2;go_ret;exact⟨rfl,rfl⟩
 by_cases d:kind=7
 ·subst d;go_in;go_wp2;go_ret;exact⟨rfl,rfl⟩
 rw[aa c,aa d];have v:(kind==5)=S:=by simp[c]
 have x:(kind==7)=S:=by simp[d]
 by_cases b:10<=kind/\kind<=31
 ·rw[ab b];obtain⟨a,g⟩:∃a:Nat,kind=10+(a:Int):=⟨(kind-10).toNat,by omega⟩;subst g;rw[show((10+(a:Int))-10).toNat=a by omega];have p:a<22:=by omega
  have j:w.cell? ⟨0,a,Z⟩=X (M (bp eu a)):=by rw[au _ _ _ _ _ _ r];exact Cm ⟨a,p⟩
  clear b c d;go_in;go_wp2;go_ret;exact⟨rfl,rfl⟩
 by_cases f:40<=kind/\kind<=50
 ·rw[aa b,ab f];obtain⟨a,g⟩:∃a:Nat,kind=40+(a:Int):=⟨(kind-40).toNat,by omega⟩;subst g;rw[show((40+(a:Int))-40).toNat=a by omega];have n:a<11:=by omega
  have j:w.cell? ⟨2,a,Z⟩=X (M (bp iG a)):=by rw[au _ _ _ _ _ _ q];exact afk ⟨a,n⟩
  clear b f c d;go_in;go_wp2;go_ret;exact⟨rfl,rfl⟩
 by_cases i:61<=kind/\kind<=78
 ·rw[aa b,aa f,ab i];obtain⟨a,g⟩:∃a:Nat,kind=61+(a:Int):=⟨(kind-61).toNat,by omega⟩;subst g;rw[show((61+(a:Int))-61).toNat=a by omega];have o:a<18:=by omega
  have j:w.cell? ⟨3,61+a-60-1,Z⟩=X (M (bp lp a)):=by rw[show 61+a-60-1=a by omega,au _ _ _ _ _ _ m];exact amL ⟨a,o⟩
  clear b f i c d;go_in;go_wp2;go_ret;exact⟨rfl,rfl⟩
 rw[aa b,aa f,aa i];rcases(show kind<10\/(31<kind/\kind<40)\/(50<kind/\kind<=60)\/78<kind by omega) with h|⟨h,k⟩|⟨h,k⟩|h;all_goals
  clear b f i c d;go_in;go_wp2;go_ret;exact⟨rfl,rfl⟩
theorem xo(kind:Int)(w:Y):W O 66 #[N Q kind] w fun e w'=>e= R (M (pJ kind))/\A0 w.heap.size w w':=by
 unfold pJ;by_cases u:kind=5
 ·subst u;go_in;go_wp2;go_ret;exact⟨rfl,ah _ _⟩
 rw[aa u];by_cases y:10<=kind/\kind<32
 ·rw[ab y];obtain⟨a,v⟩:∃a:Nat,kind=10+(a:Int):=⟨(kind-10).toNat,by omega⟩;subst v;have G:a<22:=by omega
  have F:((10+(a:Int))-10).toNat=a:=by omega
  rw[F];have j:A0 w.heap.size w (w.alloc (A5 eu 9)):=(ah _ w).alloc (ae _) _;have q:(w.alloc (A5 eu 9)).cell? ⟨w.heap.size,a,Z⟩=X (M (bp eu a)):=by rw[au _ _ _ _ _ _ (ay w _)];exact Cm ⟨a,G⟩
  obtain⟨b,f⟩:∃b,b=w.alloc (A5 eu 9):=⟨_,rfl⟩;rw[<-f]at q j;have s:W O 40 #[] w fun e w'=>e= R (B7 (X ⟨w.heap.size,0,Z⟩) 22 22)/\b=w':=by rw[f];exact(qK w).mono fun e w' d=>⟨d.1,d.2.symm⟩
  clear f;go_in;go_wp2_with (go_at_call 40;refine s.mono ?_;rintro e w1 ⟨rfl,rfl⟩);go_ret;exact⟨rfl,j⟩
 ·rw[aa y];obtain⟨b,f⟩:∃b,b=w.alloc (A5 eu 9):=⟨_,rfl⟩;have s:W O 40 #[] w fun e w'=>e= R (B7 (X ⟨w.heap.size,0,Z⟩) 22 22)/\b=w':=by rw[f];exact(qK w).mono fun e w' d=>⟨d.1,d.2.symm⟩
  have j:A0 w.heap.size w b:=by rw[f];exact(ah _ w).alloc (ae _) _
  clear f;obtain⟨i,l⟩:∃i,i=b.alloc (A5 iE 9):=⟨_,rfl⟩;have L:W O 41 #[] b fun e w'=>e= R (B7 (X ⟨b.heap.size,0,Z⟩) 30 30)/\i=w':=by rw[l];exact(uy b).mono fun e w' d=>⟨d.1,d.2.symm⟩
  have E:i.heap[b.heap.size]?=X (A5 iE 9 (0,0)):=by rw[l];exact ay b _
  have C:A0 b.heap.size b i:=by rw[l];exact(ah _ b).alloc (ae _) _
  clear l;obtain⟨A,o⟩:=aA (aak kind 30 0);rw[o];have z:=aw o;clear o;have J:=j.size;rcases(show ¬10<=kind\/(10<=kind/\¬kind<10+22) by omega) with B|⟨af,B⟩;all_goals
   go_in;go_wp2_with (first|(go_at_call 40;refine s.mono ?_;rintro e w1 ⟨rfl,rfl⟩)|(go_at_call 41;refine L.mono ?_;rintro e ag ⟨rfl,rfl⟩));go_loopw [25] (fun r wr=>∃a:Nat,a<=30/\r= N Q a/\B4 (aak kind (30-a) a=A)/\wr.heap[b.heap.size]?=X (A5 iE 9 (0,0))/\A0 w.heap.size w wr) (fun r _=>30-(A2 r).toNat)
   case atStart=>exact⟨0,by omega,rfl,z,E,j.trans (C.mono J)⟩
   case round=>
    obtain⟨a,v,rfl,t,p,n⟩:=hrel;have x:=n.size;by_cases I:a<30
    ·have q:wr.cell? ⟨b.heap.size,a,Z⟩=X (M (bp iE a)):=by rw[au _ _ _ _ _ _ p];exact aaj ⟨a,I⟩
     have c:=t.out;rw[show 30-a=(30-(a+1))+1 by omega]at c;unfold aak at c;have H:=ai p;generalize bp iE a=k at q c;by_cases g:yB k=kind
     ·rw[ab g]at c;have h:=aw c;have K:(yB k==kind)=T:=by simp[g]
      clear c g;go_wp2_with (go_at_call 57;refine(xn k _).mono ?_;rintro e ad ⟨rfl,m⟩);go_ret;exact⟨by rw[<-h.out];rfl,n.trans (m.mono x)⟩
     ·rw[aa g]at c;have h:=aw c;have K:(yB k==kind)=S:=by simp[g]
      clear c g;go_wp2_with (go_at_call 57;refine(xn k _).mono ?_;rintro e ad ⟨rfl,m⟩);go_roundw
      case rel=>exact⟨a+1,by omega,by go_num,h,(m.block _ H).trans p,n.trans (m.mono x)⟩
      case measure=>simp[A2];omega
    ·obtain rfl:a=30:=by omega
     have h:=aw t.out;go_wp2;go_ret;exact⟨by rw[<-h.out];rfl,n⟩
open Go.Maps Go.WideMaps
theorem A3(c:Int)(w:Y):W O 54 #[N B6 c] w fun e w'=>e= R (A9 (bc c))/\w=w':=by
 rcases(show c<48\/57<c\/(48<=c/\c<=57) by omega) with h|h|⟨d,b⟩
 ·have e:bc c=S:=by simp[bc];omega
  rw[e];clear e;have a:¬48<=c:=by omega
  go_in;go_wp2;go_ret;exact⟨rfl,rfl⟩
 ·have e:bc c=S:=by simp[bc];omega
  rw[e];clear e;have a:¬c<=57:=by omega
  have b:48<=c:=by omega
  go_in;go_wp2;go_ret;exact⟨rfl,rfl⟩
 ·have e:bc c=T:=by simp[bc];omega
  rw[e];clear e;go_in;go_wp2;go_ret;exact⟨rfl,rfl⟩
theorem pm(c:Int)(w:Y):W O 52 #[N B6 c] w fun e w'=>e= R (A9 (ba c))/\w=w':=by
 rcases(show(97<=c/\c<=122)\/(65<=c/\c<=90)\/c=95\/c<65\/(90<c/\c<97/\c≠95)\/122<c by omega) with⟨f,g⟩|⟨f,g⟩|rfl|h|⟨f,g,k⟩|h
 ·have e:ba c=T:=by simp[ba];omega
  rw[e];clear e;go_in;go_wp2;go_ret;exact⟨rfl,rfl⟩
 ·have e:ba c=T:=by simp[ba];omega
  rw[e];clear e;have a:¬97<=c:=by omega
  go_in;go_wp2;go_ret;exact⟨rfl,rfl⟩
 ·go_in;go_wp2;go_ret;exact⟨rfl,rfl⟩
 ·have e:ba c=S:=by simp[ba];omega
  rw[e];clear e;have a:¬97<=c:=by omega
  have b:¬65<=c:=by omega
  have d:(c==95)=S:=by simp;omega
  go_in;go_wp2;go_ret;exact⟨rfl,rfl⟩
 ·have e:ba c=S:=by simp[ba];omega
  rw[e];clear e;have a:¬97<=c:=by omega
  have b:65<=c:=by omega
  have i:¬c<=90:=by omega
  have d:(c==95)=S:=by simp;omega
  go_in;go_wp2;go_ret;exact⟨rfl,rfl⟩
 ·have e:ba c=S:=by simp[ba];omega
  rw[e];clear e;have a:97<=c:=by omega
  have b:¬c<=122:=by omega
  have i:65<=c:=by omega
  have j:¬c<=90:=by omega
  have d:(c==95)=S:=by simp;omega
  go_in;go_wp2;go_ret;exact⟨rfl,rfl⟩
def lk(s:ByteArray)(p:Nat):Int:=if p<s.size then aq s p else 0
theorem acd(s:ByteArray)(p:Nat):0<=lk s p/\lk s p<256:=by
 unfold lk;split
 ·rename_i a;exact jl a
 ·omega
theorem ajr(s:ByteArray)(p:Nat):ba (lk s p)=ba (aq s p):=by
 unfold lk;split
 ·rfl
 ·rename_i a;rw[dl a];decide
theorem pK(s:ByteArray)(p:Nat):bc (lk s p)=bc (aq s p):=by
 unfold lk;split
 ·rfl
 ·rename_i a;rw[dl a];decide
theorem CI(s:ByteArray)(d:s.size<=1100000)(p:Nat)(w:Y):W O 51 #[M s,N Q p] w fun e w'=>e= R (N B6 (lk s p))/\w=w':=by
 unfold lk;by_cases a:p<s.size
 ·rw[ab a];have b:=fun w=>db a w;generalize aq s p=c at b;go_in;go_wp2;go_ret;exact⟨rfl,rfl⟩
 ·rw[aa a];go_in;go_wp2;go_ret;exact⟨rfl,rfl⟩
def mi(s:ByteArray):Nat->Nat->Nat
 |0,p=>p
 |f+1,p=>if ba (aq s p)=T\/bc (aq s p)=T then mi s f (p+1) else p
theorem CJ(h:¬p<s.size):¬(ba (aq s p)=T\/bc (aq s p)=T):=by
 rw[dl h];decide
theorem tw(s:ByteArray):∀(f p:Nat),p<=s.size->p<=mi s f p/\mi s f p<=s.size
 |0,p,h=>⟨ae _,h⟩
 |f+1,p,h=>by
  unfold mi;split
  ·rename_i a;have b:p<s.size:=by
    rcases aH p s.size with h1|h1
    ·exact h1
    ·exact absurd a (CJ (by omega))
   have:=tw s f (p+1) (by omega);omega
  ·exact⟨ae _,h⟩
theorem A4(s:ByteArray)(A:s.size<=1100000)(p:Nat)(v:p<=s.size)(w:Y):W O 169 #[M s,N Q p] w fun e w'=>e= R (N Q (mi s (s.size+1) p))/\w'=w:=by
 obtain⟨t,m⟩:=aA (mi s (s.size+1) p);rw[m];have r:=aw m;clear m;go_in;go_wp21
 go_loop [1] (fun n=>∃(b c:Nat),b<=s.size/\s.size<b+c/\n= N Q b/\B4 (mi s c b=t)) (fun n=>s.size-(A2 n).toNat)
 case atStart=>exact⟨p,s.size+1,v,by omega,rfl,r⟩
 case round=>
  obtain⟨b,c,z,y,rfl,q⟩:=hrel;obtain⟨c,rfl⟩:∃u,c=u+1:=⟨c-1,by omega⟩;have a:=q.out;unfold mi at a;by_cases o:b<s.size
  ·have x:=fun w=>db o w;generalize aq s b=f at x a;have i:=fun w=>mA f w;have k:=fun w=>je f w;by_cases g:ba f=T
   ·rw[ab (.inl g)]at a;have d:=aw a;clear a;rw[g]at i;clear g;go_wp2_with (go_at_call 123;refine(i _).mono ?_;rintro e w' ⟨rfl,rfl⟩);go_round
    case rel=>exact⟨b+1,c,by omega,by omega,by go_num,d⟩
    case measure=>simp[A2];omega
   ·have j:ba f=S:=by simpa using g
    rw[j]at i;by_cases h:bc f=T
    ·rw[ab (.inr h)]at a;have d:=aw a;clear a;rw[h]at k;clear g j h;go_wp2_with (first|(go_at_call 123;refine(i _).mono ?_;rintro e w' ⟨rfl,rfl⟩)|(go_at_call 125;refine(k _).mono ?_;rintro e w' ⟨rfl,rfl⟩));go_round
     case rel=>exact⟨b+1,c,by omega,by omega,by go_num,d⟩
     case measure=>simp[A2];omega
    ·have l:bc f=S:=by simpa using h
     rw[aa (by rw[j,l];simp)]at a;have d:=aw a;clear a;rw[l]at k;clear g j h l;go_wp2_with (first|(go_at_call 123;refine(i _).mono ?_;rintro e w' ⟨rfl,rfl⟩)|(go_at_call 125;refine(k _).mono ?_;rintro e w' ⟨rfl,rfl⟩));go_ret;exact⟨by rw[<-d.out];rfl,rfl⟩
  ·rw[aa (CJ o)]at a;have d:=aw a;clear a;go_wp2;go_ret;exact⟨by rw[<-d.out];rfl,rfl⟩
def tz(s:ByteArray):Bool:=(wg eu s 22 0).isSome
theorem xq(k:Nat):bp eu k=lE k:=rfl
theorem qL(V:Array B1)(s:ByteArray):∀(f k j:Nat),wg V s f k=X j->k<=j/\j<k+f/\(bp V j).toList=s.toList
 |0,k,j,h=>by simp[wg]at h
 |f+1,k,j,h=>by
  unfold wg at h;split at h
  ·rename_i a;obtain rfl:=bu h;exact⟨ae _,by omega,by simpa using a⟩
  ·have:=qL V s f (k+1) j h;exact⟨by omega,by omega,this.2.2⟩
theorem Jq(V:Array B1)(s:ByteArray):∀(f k:Nat),wg V s f k=Z->∀j,k<=j->j<k+f->(bp V j).toList≠s.toList
 |0,k,h=>fun j a b=>by omega
 |f+1,k,h=>fun j a b=>by
  unfold wg at h;split at h
  ·cases h
  ·rename_i c;rcases jj a with rfl|h3
   ·simpa using c
   ·exact Jq V s f (k+1) h j h3 (by omega)
theorem CK{H:Type}:∀n,IsMap (yA (H:=H) n)
 |0=>isMap_empty
 |n+1=>(CK n).put _ _
theorem ace{H:Type}(l:List UInt8):∀n,(∀j,j<n->(lE j).data.toList≠l)->Maps.has (yA (H:=H) n) (.string l)=S
 |0,_=>rfl
 |n+1,h=>by
  show Maps.has ((yA n).put _ _) _=S;rw[has_put_other (by intro e;exact h n (by omega) (by injection e with e;exact e.symm))];exact ace l n fun j a=>h j (by omega)
theorem acf{H:Type}(l:List UInt8)(j:Nat)(b:(lE j).data.toList=l):∀n,j<n->Maps.has (yA (H:=H) n) (.string l)=T
 |0,h=>by omega
 |n+1,h=>by
  show Maps.has ((yA n).put _ _) _=T;by_cases e:(lE n).data.toList=l
  ·rw[e];exact has_put_same (CK n) (by trivial) _
  ·rw[has_put_other (by intro a;injection a with a;exact e a.symm)];rcases jj (Nat.le_of_lt_succ h) with rfl|h3
   ·exact absurd b e
   ·exact acf l j b n h3
theorem Jr{H:Type}(s:ByteArray):Maps.has (yA (H:=H) 22) (.string s.data.toList)=tz s:=by
 unfold tz;cases h:wg eu s 22 0 with
 |none=>
  have:=Jq eu s 22 0 h;exact ace _ 22 fun d g c=>this d (aF _) (by omega) (by rw[xq,fC,fC];exact c)
 |some b=>
  obtain⟨e,f,a⟩:=qL eu s 22 0 b h;rw[xq,fC,fC]at a;exact acf _ b a 22 (by omega)
theorem ajs:∀i j:Fin 22,i≠j->(lE i.val).data.toList≠(lE j.val).data.toList:=by decide+kernel
theorem Fi{H:Type}(j:Nat):∀n,n<=22->j<n->(yA (H:=H) n).atKey (.string (lE j).data.toList) (.lit (.int .i64 0))= .lit (.int .i64 (10+(j:Int)))
 |0,_,h=>by omega
 |n+1,c,h=>by
  show((yA n).put _ _).atKey _ _=_;by_cases e:n=j
  ·subst e;exact atKey_put_same (CK n) (by trivial) _ _
  ·rw[atKey_put_other (by intro a;injection a with a;exact ajs ⟨j,by omega⟩ ⟨n,by omega⟩ (by intro b;injection b with b;exact e b.symm) a)];exact Fi j n (by omega) (by omega)
theorem apH{H:Type}(k:Fin 22):(yA (H:=H) 22).atKey (.string (lE k.val).data.toList) (.lit (.int .i64 0))= .lit (.int .i64 (10+(k.val:Int))):=Fi k.val 22 (by omega) k.isLt
theorem ajt{H:Type}(s:ByteArray)(k:Nat)(h:wg eu s 22 0=X k):(yA (H:=H) 22).atKey (.string s.data.toList) (.lit (.int .i64 0))= .lit (.int .i64 (10+(k:Int))):=by
 obtain⟨b,c,a⟩:=qL eu s 22 0 k h;rw[xq,fC,fC]at a;rw[<-a];exact apH ⟨k,by omega⟩
theorem aal{H:Type}(s:ByteArray)(t:s.size<=1100000)(b:Nat)(w:Y)(v:w.ownsMap O 9 (plainElem (H:=H) O 3) b 22 (yA 22)):W O 231 #[.string s,.map (X b)] w fun e w'=>e= .returned (.bool (decide (ba (aq s 0)=T/\mi s (s.size+1) 0=s.size/\tz s=S)))/\w'=w:=by
 have q:keyOf O 9 (.string s)=X (.string s.data.toList):=keyOf_string_mk Tryz.underlying9 (by unfold maxLen;omega);by_cases l:0<s.size
 ·have u:(s.toList==[])=S:=by
   have:s.toList.length=s.size:=by rw[fC];simp
   cases hs:s.toList with
   |nil=>rw[hs]at this;simp at this;omega
   |cons y C=>rfl
  have x:∀w,(B0 9 (.string s) (.int .i64 0)).run O w= .ok (.int .u8 (aq s 0)) w:=fun w=>db l w;have d:=fun w=>mA (aq s 0) w;have o:=tw s (s.size+1) 0 (by omega);have h:=fun w=>A4 s t 0 (by omega) w;generalize aq s 0=f at x d;generalize mi s (s.size+1) 0=g at h o;by_cases c:ba f=T
  ·rw[c]at d;by_cases m:g=s.size
   ·subst m;have r:¬(s.size:Int)<(s.size:Int):=by omega
    obtain⟨i,k⟩:=aA (tz s);have p:Maps.has (yA (H:=H) 22) (.string s.data.toList)=i:=by rw[Jr,k]
    have a:decide (ba f=T/\s.size=s.size/\tz s=S)=!i:=by rw[c,k];cases i<;>simp
    rw[a];clear a k c;go_in;go_wp2_with (first|(go_at_call 123;refine(d _).mono ?_;rintro e w' ⟨rfl,rfl⟩)|(go_at_call 169;refine(h _).mono ?_;rintro e w' ⟨rfl,rfl⟩)|(at_lookup;refine wpList_lookup_own_ok_int _ rfl _ _ 97 rfl 9 3 .i64 ajo Tryz.underlying97 Tryz.underlying3 (by kernel_rfl) b 22 _ rfl v _ _ rfl q ?_;intro z A B;rw[p]));go_ret;exact⟨rfl,rfl⟩
   ·have r:(g:Int)<(s.size:Int):=by omega
    have a:decide (ba f=T/\g=s.size/\tz s=S)=S:=by simp[m]
    rw[a];clear a c;go_in;go_wp2_with (first|(go_at_call 123;refine(d _).mono ?_;rintro e w' ⟨rfl,rfl⟩)|(go_at_call 169;refine(h _).mono ?_;rintro e w' ⟨rfl,rfl⟩));go_ret;exact⟨rfl,rfl⟩
  ·have j:ba f=S:=by simpa using c
   rw[j]at d;have a:decide (ba f=T/\g=s.size/\tz s=S)=S:=by simp[j]
   rw[a];clear a c j;go_in;go_wp2_with (first|(go_at_call 123;refine(d _).mono ?_;rintro e w' ⟨rfl,rfl⟩)|(go_at_call 169;refine(h _).mono ?_;rintro e w' ⟨rfl,rfl⟩));go_ret;exact⟨rfl,rfl⟩
 ·have n:s.toList=[]:=by
   have:s.toList.length=s.size:=by rw[fC];simp
   exact List.length_eq_zero_iff.1 (by omega)
  have u:(s.toList==[])=T:=by rw[n];rfl
  have a:decide (ba (aq s 0)=T/\mi s (s.size+1) 0=s.size/\tz s=S)=S:=by rw[dl l];simp[ba]
  rw[a];clear a n;go_in;go_wp2;go_ret;exact⟨rfl,rfl⟩
def wdT(s:ByteArray)(p:Nat):B1:=
 match wg eu (s.extract p (mi s (s.size+1) p)) 22 0 with
 |some a=> B3 #[N Q (10+(a:Int)),N Q p,N Q (mi s (s.size+1) p),N Q 0,N Q 0,M ⟨#[]⟩]
 |none=> B3 #[N Q 1,N Q p,N Q (mi s (s.size+1) p),N Q 0,N Q 0,M (s.extract p (mi s (s.size+1) p))]
theorem aam(s:ByteArray)(bn:s.size<=1100000)(p:Nat)(ak:p<=s.size)(w:Y):W O 53 #[M s,B3 #[N Q 0,N Q p,N Q 0,N Q 0,N Q 0,M ⟨#[]⟩]] w fun e w'=>e= R (Ax #[wdT s p,N Q (-1)])/\A0 w.heap.size w w':=by
 unfold wdT;obtain⟨I,E⟩:=aA (mi s (s.size+1) p);have a9:=tw s (s.size+1) p ak;rw[E]at a9⊢;have J:=aw E;clear E;obtain⟨a8,F⟩:=aA (wg eu (s.extract p I) 22 0);rw[F];have a6:=aw F;clear F;go_in;go_wp21
 generalize af:(w.alloc _).alloc _=n;obtain⟨a,K,L, -⟩:=GI af;have G:dE w.heap.size n 0 p 0 0 0 ⟨#[]⟩:=a;have ag:dE (w.heap.size+1) n 0 0 0 0 0 ⟨#[]⟩:=K;clear af a K;go_loop [6] (fun j=>∃(b g:Nat),b<=s.size/\s.size<b+g/\j= N Q b/\B4 (mi s g b=I)) (fun j=>s.size-(A2 j).toNat)
 case atStart=>exact⟨p,s.size+1,ak,by omega,rfl,J⟩
 case round=>
  obtain⟨b,g,bt,br,rfl,l⟩:=hrel;obtain⟨g,rfl⟩:∃bb,g=bb+1:=⟨g-1,by omega⟩;have c:=l.out;unfold mi at c;have r:=fun w=>CI s bn b w;have f:=fun w=>pm (lk s b) w;have i:=fun w=>A3 (lk s b) w;have h:ba (aq s b)=T\/bc (aq s b)=T->b<s.size:=by
   intro be;rcases aH b s.size with h1|h1
   ·exact h1
   ·exact absurd be (CJ (by omega))
  rw[ajr]at f;rw[pK]at i;generalize lk s b=bo at r f i;generalize aq s b=u at c f i h;by_cases h1:ba u=T
  ·rw[ab (.inl h1)]at c;have m:=aw c;have bl:=h (.inl h1);clear c h;rw[h1]at f;clear h1;go_wp2_with (first|(go_at_call 51;refine(r _).mono ?_;rintro e w' ⟨rfl,rfl⟩)|(go_at_call 52;refine(f _).mono ?_;rintro e w' ⟨rfl,rfl⟩));go_round
   case rel=>exact⟨b+1,g,by omega,by omega,by go_num,m⟩
   case measure=>simp[A2];omega
  ·have x:ba u=S:=by simpa using h1
   rw[x]at f;by_cases k:bc u=T
   ·rw[ab (.inr k)]at c;have m:=aw c;have bl:=h (.inr k);clear c h;rw[k]at i;clear h1 x k;go_wp2_with (first|(go_at_call 51;refine(r _).mono ?_;rintro e w' ⟨rfl,rfl⟩)|(go_at_call 52;refine(f _).mono ?_;rintro e w' ⟨rfl,rfl⟩)|(go_at_call 54;refine(i _).mono ?_;rintro e w' ⟨rfl,rfl⟩));go_round
    case rel=>exact⟨b+1,g,by omega,by omega,by go_num,m⟩
    case measure=>simp[A2];omega
   ·have C:bc u=S:=by simpa using k
    rw[aa (by rw[x,C];simp)]at c;rw[C]at i;clear h1 x k C h l J;subst c;obtain⟨al,am,an,ao,ap,ar,av⟩:=aJ G;have z:=(G.setKind 1).setTo (b:Int);have A:=(ag.other (a:=⟨w.heap.size,0,Z⟩) (by simp) (N Q 1)).other (a:=⟨w.heap.size,2,Z⟩) (by simp) (N Q (b:Int));have y:A0 w.heap.size w ((n.setCell ⟨w.heap.size,0,Z⟩ (N Q 1)).setCell ⟨w.heap.size,2,Z⟩ (N Q (b:Int))):=(L.setCell (by simp) _).setCell (by simp) _;obtain⟨o,H⟩:=aA ((n.setCell ⟨w.heap.size,0,Z⟩ (N Q 1)).setCell ⟨w.heap.size,2,Z⟩ (N Q (b:Int)));rw[H]at z A y;have a7:=aw H;clear H;go_wp2_with (first|(go_at_call 51;refine(r _).mono ?_;rintro e w' ⟨rfl,rfl⟩)|(go_at_call 52;refine(f _).mono ?_;rintro e w' ⟨rfl,rfl⟩)|(go_at_call 54;refine(i _).mono ?_;rintro e w' ⟨rfl,rfl⟩));rw[show(n.setCell ⟨w.heap.size,0,Z⟩ (N Q 1)).setCell ⟨w.heap.size,2,Z⟩ (N Q (b:Int))=o from a7.out];refine(qK o).mono ?_;rintro e t ⟨rfl,q⟩;have bf:dE w.heap.size t 1 p b 0 0 ⟨#[]⟩:=by rw[q];exact(cC _ _ _ (ai z)).trans z
    have bh:dE (w.heap.size+1) t 0 0 0 0 0 ⟨#[]⟩:=by rw[q];exact(cC _ _ _ (ai A)).trans A
    have ad:A0 w.heap.size w t:=by rw[q];exact y.alloc y.size _
    have bj:t.heap[o.heap.size]?=X (A5 eu 9 (0,0)):=by rw[q];exact ay o _
    clear q z A y G ag L al am an ao ap ar av r f i;go_wp21
    obtain⟨al,am,an,ao,ap,ar,av⟩:=aJ bf;obtain⟨z0,a1,a2,a3,a4,a5,bx⟩:=aJ bh;go_loop [34] (fun j=>∃d:Nat,d<=22/\j= N Q d/\B4 (wg eu (s.extract p b) (22-d) d=a8)) (fun j=>22-(A2 j).toNat)
    case atStart=>exact⟨0,by omega,rfl,a6⟩
    case round=>
     obtain⟨d,bs,rfl,l⟩:=hrel;by_cases h:d<22
     ·have bk:t.cell? ⟨o.heap.size,d,Z⟩=X (M (bp eu d)):=by rw[au _ _ _ _ _ _ bj];exact Cm ⟨d,h⟩
      have c:=l.out;rw[show 22-d=(22-(d+1))+1 by omega]at c;unfold wg at c;generalize bp eu d=a0 at bk c;by_cases B:(a0.toList==(s.extract p b).toList)=T
      ·rw[ab B]at c;subst c;go_wp2;refine aI (v:= Ax #[B3 #[N Q (10+(d:Int)),N Q p,N Q b,N Q 0,N Q 0,M ⟨#[]⟩],N Q (-1)]) (by simp[results,Tryz.results53,go_sem,z0,a1,a2,a3,a4,a5]) rfl ⟨rfl,?_⟩
       iterate 7 refine fJ ?_ (by simp) _
       exact ad
      ·rw[aa B]at c;have m:=aw c;have bw:(a0.toList==(s.extract p b).toList)=S:=by simpa using B
       clear c B;go_wp2;go_round
       case rel=>exact⟨d+1,by omega,by go_num,m⟩
       case measure=>simp[A2];omega
     ·obtain rfl:d=22:=by omega
      have c:=l.out;simp only[eD,wg]at c;subst c;go_wp2;refine aI (v:= Ax #[B3 #[N Q 1,N Q p,N Q b,N Q 0,N Q 0,M (s.extract p b)],N Q (-1)]) (by simp[results,Tryz.results53,go_sem,z0,a1,a2,a3,a4,a5]) rfl ⟨rfl,?_⟩
      iterate 7 refine fJ ?_ (by simp) _
      exact ad
theorem pL(h:ba c=T):65<=c/\c<=122:=by simp[ba]at h;omega
theorem fe(h:bc c=T):48<=c/\c<=57:=by simpa [bc] using h
theorem afl(s:ByteArray)(p:Nat):∃(k:Int) (x:ByteArray),wdT s p= B3 #[N Q k,N Q p,N Q (mi s (s.size+1) p),N Q 0,N Q 0,M x]/\((k==1)=!(tz (s.extract p (mi s (s.size+1) p)))):=by
 unfold wdT tz;cases h:wg eu (s.extract p (mi s (s.size+1) p)) 22 0 with
 |none=>exact⟨1,_,rfl,rfl⟩
 |some k=>exact⟨10+(k:Int),_,rfl,by simp;omega⟩
theorem A6(s:ByteArray)(u:s.size<=1100000)(p:Nat)(m:p<s.size)(d:ba (aq s p)=T)(w:Y):W O 22 #[M s,N Q p] w fun e w'=>e= R (Ax #[wdT s p,N Q (-1)])/\A0 w.heap.size w w':=by
 have n:=fun w=>db m w;have a:=fun w=>pm (aq s p) w;have b:=fun w=>aam s u p (eE m) w;have x:=pL d;rw[d]at a;generalize aq s p=r at n a x;obtain⟨z,B,h,l⟩:=afl s p;rw[h]at b⊢;generalize mi s (s.size+1) p=o at b l;have I:(r==10)=S:=by simp;omega
 clear d l h;go_in;go_wp2_with (first|(go_at_call 52;refine(a _).mono ?_;rintro e w' ⟨rfl,rfl⟩));generalize i:(w.alloc _).alloc _=q;obtain⟨f, -,g,y⟩:=GI i;have j:dE w.heap.size q 0 0 0 0 0 ⟨#[]⟩:=f;clear i f;refine(b _).mono ?_;rintro e A ⟨rfl,c⟩;have k:=j.below c (by omega);have t:=g.trans (c.mono (by omega));clear c j g y b a n;obtain⟨z0,C,E,F,G,H,K⟩:=aJ k;have J:w.heap.size<A.heap.size:=ai k;go_wp2;refine aI (v:= Ax #[B3 #[N Q z,N Q p,N Q o,N Q 0,N Q 0,M B],N Q (-1)]) (by simp[results,Tryz.results22,go_sem,z0,C,E,F,G,H]) rfl ⟨rfl,?_⟩
 iterate 6 refine fJ ?_ (by simp) _
 exact t
theorem re(s:ByteArray):s.extract 0 s.size=s:=by
 simp
def mG(s:ByteArray):Bool:=decide (s.size<=40/\ba (aq s 0)=T/\mi s (s.size+1) 0=s.size/\tz s=S)
theorem tA(s:ByteArray)(t:s.size<=1100000)(w:Y):W O 63 #[M s] w fun e w'=>e= R (A9 (mG s))/\A0 w.heap.size w w':=by
 unfold mG;by_cases h:0<s.size
 ·have u:((s.size:Int)==0)=S:=by rw[bH];omega
  by_cases m:s.size<=40
  ·have v:¬(40:Int)<(s.size:Int):=by omega
   have q:∀w,(B0 9 (M s) (N Q 0)).run O w= .ok (N B6 (aq s 0)) w:=fun w=>db h w;have b:=fun w=>pm (aq s 0) w;by_cases a:ba (aq s 0)=T
   ·have f:∀w,W O 22 #[M s,N Q 0] w fun e w'=>e= R (Ax #[wdT s 0,N Q (-1)])/\A0 w.heap.size w w':=fun w=>A6 s t 0 h a w;rw[a]at b;obtain⟨k,y,o,d⟩:=afl s 0;rw[o]at f;generalize mi s (s.size+1) 0=g at f d;generalize aq s 0=l at q b a;have p:decide (s.size<=40/\ba l=T/\g=s.size/\tz s=S)=((k==1)&&((g:Int)==(s.size:Int))):=by
     by_cases n:g=s.size
     ·subst n;rw[re]at d;rw[d,a];simp[m]
     ·simp[n];intro _;omega
    rw[p];clear p d o a;by_cases i:k=1
    ·subst i;go_in;go_wp2_with (first|(go_at_call 52;refine(b _).mono ?_;rintro e w' ⟨rfl,rfl⟩)|(go_at_call 22;refine(f _).mono ?_;rintro e x ⟨rfl,c⟩));go_ret;exact⟨by simp,c.alloc c.size _⟩
    ·have r:(k==1)=S:=by simp[i]
     clear i;go_in;go_wp2_with (first|(go_at_call 52;refine(b _).mono ?_;rintro e w' ⟨rfl,rfl⟩)|(go_at_call 22;refine(f _).mono ?_;rintro e x ⟨rfl,c⟩));go_ret;exact⟨by simp[r],c.alloc c.size _⟩
   ·have j:ba (aq s 0)=S:=by simpa using a
    rw[show decide (s.size<=40/\ba (aq s 0)=T/\mi s (s.size+1) 0=s.size/\tz s=S)=S by simp[j]];rw[j]at b;clear a j;generalize aq s 0=l at q b;go_in;go_wp2_with (first|(go_at_call 52;refine(b _).mono ?_;rintro e w' ⟨rfl,rfl⟩));go_ret;exact⟨rfl,ah _ _⟩
  ·have v:(40:Int)<(s.size:Int):=by omega
   rw[show decide (s.size<=40/\ba (aq s 0)=T/\mi s (s.size+1) 0=s.size/\tz s=S)=S by simp[m]];go_in;go_wp2;go_ret;exact⟨rfl,ah _ _⟩
 ·have u:((s.size:Int)==0)=T:=by rw[jk];omega
  rw[show decide (s.size<=40/\ba (aq s 0)=T/\mi s (s.size+1) 0=s.size/\tz s=S)=S by rw[dl h];simp[ba]];go_in;go_wp2;go_ret;exact⟨rfl,ah _ _⟩
def li(c:Int):Bool:=decide (0<=gg c)
theorem oC(c:Int):li c=T↔(48<=c/\c<=57)\/(97<=c/\c<=102):=by
 unfold li gg;rw[iJ];split
 ·omega
 ·split<;>omega
theorem CL(c:Int)(w:Y):W O 223 #[N B6 c] w fun e w'=>e= R (A9 (li c))/\w=w':=by
 have b:=fun w=>je c w;by_cases a:bc c=T
 ·rw[show li c=T by rw[oC];have:=fe a;omega];rw[a]at b;clear a;go_in;go_wp2_with (first|(go_at_call 125;refine(b _).mono ?_;rintro e w' ⟨rfl,rfl⟩));go_ret;exact⟨rfl,rfl⟩
 ·have d:bc c=S:=by simpa using a
  rw[d]at b;have f:¬(48<=c/\c<=57):=by simpa [bc] using d
  rcases(show(97<=c/\c<=102)\/c<97\/(97<=c/\102<c) by omega) with⟨i,j⟩|g|⟨i,j⟩
  ·rw[show li c=T by rw[oC];omega];clear a d f;go_in;go_wp2_with (first|(go_at_call 125;refine(b _).mono ?_;rintro e w' ⟨rfl,rfl⟩));go_ret;exact⟨rfl,rfl⟩
  ·rw[show li c=S by rw[<-GA,oC];omega];have h:¬97<=c:=by omega
   clear a d f;go_in;go_wp2_with (first|(go_at_call 125;refine(b _).mono ?_;rintro e w' ⟨rfl,rfl⟩));go_ret;exact⟨rfl,rfl⟩
  ·rw[show li c=S by rw[<-GA,oC];omega];have h:¬c<=102:=by omega
   clear a d f;go_in;go_wp2_with (first|(go_at_call 125;refine(b _).mono ?_;rintro e w' ⟨rfl,rfl⟩));go_ret;exact⟨by simp;omega,rfl⟩
def ic(q:Int->Bool)(s:ByteArray):Nat->Nat->Nat
 |0,p=>p
 |f+1,p=>if q (aq s p)=T then ic q s f (p+1) else p
theorem aan{q:Int->Bool}(a:q (-1)=S)(h:q (aq s p)=T):p<s.size:=by
 rcases aH p s.size with h1|h1
 ·exact h1
 ·rw[dl,a]at h;cases h
theorem oq(q:Int->Bool)(a:q (-1)=S)(s:ByteArray):∀(f p:Nat),p<=s.size->p<=ic q s f p/\ic q s f p<=s.size
 |0,p,h=>⟨ae _,h⟩
 |f+1,p,h=>by
  unfold ic;split
  ·rename_i b;have c:=aan a b;have:=oq q a s f (p+1) (by omega);omega
  ·exact⟨ae _,h⟩
theorem mC(q:Int->Bool)(s:ByteArray):∀(f p i:Nat),p<=i->i<ic q s f p->q (aq s i)=T
 |0,p,i,b,a=>by simp[ic]at a;omega
 |f+1,p,i,b,a=>by
  unfold ic at a;split at a
  ·rename_i c;rcases jj b with rfl|h3
   ·exact c
   ·exact mC q s f (p+1) i h3 a
  ·omega
theorem qa(q:Int->Bool)(a:q (-1)=S)(s:ByteArray):∀(f p:Nat),s.size<p+f->q (aq s (ic q s f p))=S
 |0,p,h=>by
  unfold ic;rw[dl,a]
 |f+1,p,h=>by
  unfold ic;split
  ·exact qa q a s f (p+1) (by omega)
  ·rename_i b;simpa using b
theorem tB:bc (-1)=S:=by decide
theorem yC:li (-1)=S:=by decide
def oD(s:ByteArray)(p:Nat):Nat:=ic bc s (s.size+1) p
def ED(s:ByteArray)(p:Nat):Nat:=ic li s (s.size+1) p
theorem wJ(s:ByteArray)(x:s.size<=1100000)(p:Nat)(r:p<=s.size)(w:Y):W O 204 #[M s,N Q p] w fun e w'=>e= R (N Q (oD s p))/\w'=w:=by
 unfold oD;obtain⟨o,i⟩:=aA (ic bc s (s.size+1) p);rw[i];have n:=aw i;clear i;go_in;go_wp21
 go_loop [1] (fun j=>∃(b c:Nat),b<=s.size/\s.size<b+c/\j= N Q b/\B4 (ic bc s c b=o)) (fun j=>s.size-(A2 j).toNat)
 case atStart=>exact⟨p,s.size+1,r,by omega,rfl,n⟩
 case round=>
  obtain⟨b,c,v,u,rfl,m⟩:=hrel;obtain⟨c,rfl⟩:∃q,c=q+1:=⟨c-1,by omega⟩;have a:=m.out;unfold ic at a;by_cases l:b<s.size
  ·have t:=fun w=>db l w;generalize aq s b=h at t a;have g:=fun w=>je h w;by_cases d:bc h=T
   ·rw[ab d]at a;have f:=aw a;clear a;rw[d]at g;clear d;go_wp2_with (go_at_call 125;refine(g _).mono ?_;rintro e w' ⟨rfl,rfl⟩);go_round
    case rel=>exact⟨b+1,c,by omega,by omega,by go_num,f⟩
    case measure=>simp[A2];omega
   ·have k:bc h=S:=by simpa using d
    rw[aa d]at a;have f:=aw a;rw[k]at g;clear d k a;go_wp2_with (go_at_call 125;refine(g _).mono ?_;rintro e w' ⟨rfl,rfl⟩);go_ret;exact⟨by rw[<-f.out];rfl,rfl⟩
  ·rw[aa (by rw[dl l];decide)]at a;have f:=aw a;clear a;go_wp2;go_ret;exact⟨by rw[<-f.out];rfl,rfl⟩
def mD(s:ByteArray)(q:Nat):Nat×Bool:=if q+16<ED s q then(q+16,S) else(ED s q,decide (q<ED s q))
theorem aao(s:ByteArray)(H:s.size<=1100000)(p:Nat)(B:p<=s.size)(w:Y):W O 203 #[M s,N Q p] w fun e w'=>e= R (Ax #[N Q ((mD s p).1:Int),A9 (mD s p).2])/\w'=w:=by
 unfold mD ED;obtain⟨i,l⟩:=aA (ic li s (s.size+1) p);rw[l];have v:=aw l;clear l;obtain⟨n,o,k⟩:∃n o,(if p+16<i then(p+16,S) else(i,decide (p<i)))=(n,o):=⟨_,_,rfl⟩;rw[k];have f:=aw k;clear k;go_in;go_wp21
 go_loop [6] (fun m=>∃(a d:Nat),p<=a/\a<=p+16/\a<=s.size/\s.size<a+d/\m= N Q a/\B4 (ic li s d a=i)) (fun m=>s.size-(A2 m).toNat)
 case atStart=>exact⟨p,s.size+1,ae _,by omega,B,by omega,rfl,v⟩
 case round=>
  obtain⟨a,d,I,G,F,E,rfl,u⟩:=hrel;obtain⟨d,rfl⟩:∃z,d=z+1:=⟨d-1,by omega⟩;have c:=u.out;unfold ic at c;by_cases t:a<s.size
  ·have C:=fun w=>db t w;generalize aq s a=j at C c;have h:=fun w=>CL j w;by_cases g:li j=T
   ·rw[ab g]at c;have A:=(oq li yC s d (a+1) (by omega)).1;rw[c]at A;have x:=aw c;clear c;rw[g]at h;clear g;by_cases r:a=p+16
    ·have b:=f.out;rw[ab (by omega),<-r]at b;obtain⟨rfl,rfl⟩:=yu b;have y:((a:Int)-(p:Int)==16)=T:=by rw[jk];omega
     clear b f r;go_wp2_with (go_at_call 223;refine(h _).mono ?_;rintro e w' ⟨rfl,rfl⟩);go_ret2;exact⟨rfl,rfl⟩
    ·have y:((a:Int)-(p:Int)==16)=S:=by rw[bH];omega
     go_wp2_with (go_at_call 223;refine(h _).mono ?_;rintro e w' ⟨rfl,rfl⟩);go_round
     case rel=>exact⟨a+1,d,by omega,by omega,by omega,by omega,by go_num,x⟩
     case measure=>simp[A2];omega
   ·have q:li j=S:=by simpa using g
    rw[aa g]at c;subst c;rw[q]at h;clear g q;have b:=f.out;rw[aa (by omega)]at b;obtain⟨rfl,rfl⟩:=yu b;clear b f;go_wp2_with (go_at_call 223;refine(h _).mono ?_;rintro e w' ⟨rfl,rfl⟩);go_ret2;exact⟨by simp,rfl⟩
  ·rw[aa (by rw[dl t];decide)]at c;subst c;have b:=f.out;rw[aa (by omega)]at b;obtain⟨rfl,rfl⟩:=yu b;clear b f;go_wp2;go_ret2;exact⟨by simp,rfl⟩
theorem fL(s:ByteArray)(i:Nat)(b:UInt8):s.data.toList[i]?=X b↔i<s.size/\aq s i=(b.toNat:Int):=by
 unfold aq;by_cases a:i<s.size
 ·rw[lD a];have d:s.data.toList[i]?=X s[i]:=by
   rw[vC];exact BJ a
  rw[d];constructor
  ·intro c;injection c with c;exact⟨a,by rw[c]⟩
  ·intro ⟨_,c⟩;congr 1;exact UInt8.toNat_inj.1 (by omega)
 ·have d:s.data.toList[i]?=Z:=by
   rw[vC];exact yi (Nat.not_lt.1 a)
  rw[d];simp[a]
theorem G1(s:ByteArray)(p:Nat)(x y:UInt8):Br (s.extract p s.size).data.toList [x,y]=decide (aq s p=(x.toNat:Int)/\aq s (p+1)=(y.toNat:Int)):=by
 have n:(s.extract p s.size).data.toList=s.data.toList.drop p:=by
  rw[<-fC,Lib.extract_toList,dj];rw[im,eK];exact ae _
 rw[n];unfold Br;rw[vH,yl,iJ];constructor
 ·rintro ⟨r,g⟩;have c:(s.data.toList.drop p)[0]?=X x:=by rw[<-g];rfl
  have d:(s.data.toList.drop p)[1]?=X y:=by rw[<-g];rfl
  rw[tg]at c d;exact⟨((fL s _ x).1 c).2,((fL s _ y).1 d).2⟩
 ·rintro ⟨c,d⟩;have e:∀a (b:UInt8),aq s a=(b.toNat:Int)->s.data.toList[a]?=X b:=fun a b f=>by
   refine(fL s a b).2 ⟨?_,f⟩;rcases aH a s.size with h2|h2
   ·exact h2
   ·rw[dl]at f;omega
  have o:=e p x c;have q:=e (p+1) y d;refine⟨s.data.toList.drop (p+2),?_⟩;have h:=List.getElem?_eq_some_iff.1 o;have i:=List.getElem?_eq_some_iff.1 q;obtain⟨j,l⟩:=h;obtain⟨k,m⟩:=i;rw[iH j,iH k,l,m];rfl
def nA0(s:ByteArray)(p:Nat):Nat:=if aq s p=48 then p+1 else oD s (p+1)
def nA1(s:ByteArray)(a:Nat):Nat:=if aq s a=46/\bc (aq s (a+1))=T then oD s (a+1) else a
def nA2(s:ByteArray)(a:Nat):Nat:=if aq s (a+1)=43\/aq s (a+1)=45 then a+1+1 else a+1
def ot(s:ByteArray)(a:Nat):Nat×Bool:=if aq s a=101 then(oD s (nA2 s a),decide (nA2 s a<oD s (nA2 s a))) else(a,T)
def cK(s:ByteArray)(p:Nat):Nat×Bool:=if aq s p=48/\aq s (p+1)=120 then mD s (p+2) else ot s (nA1 s (nA0 s p))
theorem ou(s:ByteArray)(p:Nat)(h:p<=s.size):p<=oD s p/\oD s p<=s.size:=oq bc tB s _ p h
theorem wL(s:ByteArray)(c:s.size<=1100000)(a:Int)(p:Nat)(b:a=(p:Int))(d:p<=s.size)(w:Y):W O 204 #[M s,N Q a] w fun e w'=>e= R (N Q (oD s p))/\w'=w:=by
 subst b;exact wJ s c p d w
theorem yD(a:Int)(i:Nat)(b:a=(i:Int))(h:i<s.size)(w:Y):(B0 9 (M s) (N Q a)).run O w= .ok (N B6 (aq s i)) w:=by
 subst b;exact db h w
theorem bz(h:aq s i=c)(a:0<=c:=by omega):i<s.size:=by
 rcases aH i s.size with h2|h2
 ·exact h2
 ·rw[dl]at h;omega
theorem qc(h:bc (aq s i)=T):i<s.size:=aan tB h
theorem C0(s:ByteArray)(p:Nat)(w:Y):W O 80 #[M (s.extract p s.size),M ⟨#[48,120]⟩] w fun e w'=>e= R (A9 (decide (aq s p=48/\aq s (p+1)=120)))/\w'=w:=by
 have a:=Tryz.strings_HasPrefix (s.extract p s.size) ⟨#[48,120]⟩ w;rw[show(⟨#[48,120]⟩:ByteArray).data.toList=[48,120] from rfl,G1]at a;exact a
theorem EE(s:ByteArray)(g:s.size<=1100000)(p:Nat)(c:aq s p=48)(a:aq s (p+1)=120)(w:Y):W O 171 #[M s,N Q p] w fun e w'=>e= R (Ax #[N Q ((mD s (p+2)).1:Int),A9 (mD s (p+2)).2])/\w'=w:=by
 have j:=bz a;have d:=fun w=>C0 s p w;rw[show decide (aq s p=48/\aq s (p+1)=120)=T by simp[c,a]]at d;have b:∀w,W O 203 #[M s,N Q ((p:Int)+2)] w fun e w'=>e= R (Ax #[N Q ((mD s (p+2)).1:Int),A9 (mD s (p+2)).2])/\w'=w:=fun w=>aao s g (p+2) (by omega) w;generalize mD s (p+2)=f at b;obtain⟨h,i⟩:=f;simp only at b⊢;clear c a;go_in;go_wp2_with (first|(go_at_call 80;refine eH (d _) ?_)|(go_at_call 203;refine eH (b _) ?_));go_ret2;exact⟨rfl,rfl⟩
abbrev IX(s:ByteArray)(a c:Int):Prop:=∀w,(B0 9 (M s) (N Q a)).run O w= .ok (N B6 c) w
abbrev DE(s:ByteArray)(a:Int)(B:Nat):Prop:=∀w,W O 204 #[M s,N Q a] w fun b w'=>b= R (N Q (B:Int))/\w'=w
abbrev DQ(c:Int)(b:Bool):Prop:=∀w,W O 125 #[N B6 c] w fun a w'=>a= R (A9 b)/\w'=w
theorem arn(s:ByteArray)(d:s.size<=1100000)(p:Nat)(f:p<s.size):∃a:Int,a=(nA0 s p:Nat)/\nA0 s p<=s.size/\((aq s p=48/\a=(p:Int)+1)\/((aq s p==48)=S/\DE s ((p:Int)+1) (nA0 s p)/\∃c,nA0 s p=c/\a=(c:Int))):=by
 unfold nA0;split
 ·rename_i b;exact⟨_,rfl,by omega,.inl ⟨b,by omega⟩⟩
 ·rename_i b;exact⟨_,rfl,(ou s (p+1) (by omega)).2,.inr ⟨by simp[b],fun e=>wJ s d (p+1) (by omega) e,_,rfl,rfl⟩⟩
theorem aro(s:ByteArray)(n:s.size<=1100000)(c:Nat)(m:c<=s.size)(a:Int)(h:a=(c:Int)):∃b:Int,b=(nA1 s c:Nat)/\nA1 s c<=s.size/\((¬a+1<(s.size:Int)/\b=a/\nA1 s c=c)\/(a+1<(s.size:Int)/\IX s a (aq s c)/\((b=a/\nA1 s c=c/\(aq s c==46)=S)\/(aq s c=46/\IX s (a+1) (aq s (c+1))/\((b=a/\nA1 s c=c/\DQ (aq s (c+1)) S)\/(DQ (aq s (c+1)) T/\DE s (a+1) (nA1 s c)/\∃B,nA1 s c=B/\b=(B:Int))))))):=by
 have k:∀f,DQ f (bc f):=fun f e=>(je _ e).mono fun o p d=>⟨d.1,d.2.symm⟩;have i:c<s.size->IX s a (aq s c):=fun d e=>yD _ c h d e;have j:c+1<s.size->IX s (a+1) (aq s (c+1)):=fun d e=>yD _ (c+1) (by omega) d e;unfold nA1;split
 ·rename_i d;have h1:=qc d.2;exact⟨_,rfl,(ou s (c+1) (by omega)).2,.inr ⟨by omega,i (by omega),.inr ⟨d.1,j h1,.inr ⟨by rw[<-d.2];exact k _,fun e=>wL s n _ (c+1) (by omega) (by omega) e,_,rfl,rfl⟩⟩⟩⟩
 ·rename_i d;refine⟨a,h,m,?_⟩;rcases aH (c+1) s.size with h1|h1
  ·refine .inr ⟨by omega,i (by omega),?_⟩;by_cases g:aq s c=46
   ·refine .inr ⟨g,j h1,.inl ⟨rfl,rfl,?_⟩⟩;have l:bc (aq s (c+1))=S:=by simpa [g] using d
    rw[<-l];exact k _
   ·exact .inl ⟨rfl,rfl,by simp[g]⟩
  ·exact .inl ⟨by omega,rfl,rfl⟩
theorem arp(s:ByteArray)(l:s.size<=1100000)(B:Nat)(m:B<=s.size)(b:Int)(f:b=(B:Int)):((b==(s.size:Int))=T/\((ot s B).1:Int)=b/\(ot s B).2=T)\/((b==(s.size:Int))=S/\IX s b (aq s B)/\(((aq s B==101)=S/\((ot s B).1:Int)=b/\(ot s B).2=T)\/(aq s B=101/\∃d:Int,((¬b+1<(s.size:Int)/\d=b+1)\/(b+1<(s.size:Int)/\IX s (b+1) (aq s (B+1))/\((aq s (B+1)=43/\d=b+1+1)\/(aq s (B+1)=45/\d=b+1+1)\/((aq s (B+1)==43)=S/\(aq s (B+1)==45)=S/\d=b+1))))/\∃C:Nat,DE s d C/\(ot s B).1=C/\(ot s B).2=decide (d<(C:Int))))):=by
 unfold ot;have i:B+1<s.size->IX s (b+1) (aq s (B+1)):=fun h c=>yD _ (B+1) (by omega) h c;by_cases e:aq s B=101
 ·have j:=bz e;rw[ab e];refine .inr ⟨by rw[bH];omega,fun c=>yD _ B f j c,.inr ⟨e,(nA2 s B:Nat),?_,_,fun c=>wL s l _ (nA2 s B) rfl ?_ c,rfl,by rw[GC];omega⟩⟩
  ·unfold nA2;rcases(show ¬B+1<s.size\/(B+1<s.size/\aq s (B+1)=43)\/(B+1<s.size/\aq s (B+1)=45)\/(B+1<s.size/\aq s (B+1)≠43/\aq s (B+1)≠45) by omega) with h2|⟨h2,a⟩|⟨h2,a⟩|⟨h2,a,k⟩
   ·rw[aa (by rw[dl h2];omega)];exact .inl ⟨by omega,by omega⟩
   ·rw[ab (.inl a)];exact .inr ⟨by omega,i h2,.inl ⟨a,by omega⟩⟩
   ·rw[ab (.inr a)];exact .inr ⟨by omega,i h2,.inr (.inl ⟨a,by omega⟩)⟩
   ·rw[aa (by omega)];exact .inr ⟨by omega,i h2,.inr (.inr ⟨by simp[a],by simp[k],by omega⟩)⟩
  ·unfold nA2;split
   ·rename_i h;rcases aH (B+1) s.size with g|g
    ·omega
    ·rw[dl]at h;omega
   ·omega
 ·rw[aa e];rcases(show B=s.size\/B<s.size by omega) with h2|h2
  ·exact .inl ⟨by rw[jk];omega,f.symm,rfl⟩
  ·exact .inr ⟨by rw[bH];omega,fun c=>yD _ B f h2 c,.inl ⟨by simp[e],f.symm,rfl⟩⟩
theorem EF(s:ByteArray)(f:s.size<=1100000)(p:Nat)(k:p<s.size)(l:¬(aq s p=48/\aq s (p+1)=120))(w:Y):W O 171 #[M s,N Q p] w fun e w'=>e= R (Ax #[N Q ((ot s (nA1 s (nA0 s p))).1:Int),A9 (ot s (nA1 s (nA0 s p))).2])/\w'=w:=by
 have m:=fun w=>C0 s p w;rw[aD l]at m;have al:=fun w=>db k w;obtain⟨r,c,i,o⟩:=arn s f p k;obtain⟨t,d,j,g⟩:=aro s f _ i r c;have a:=arp s f _ j t d;generalize ot s (nA1 s (nA0 s p))=q at a⊢;obtain⟨ad,af⟩:=q;simp only at a⊢;clear l;have u:nA0 s p<=1100000:=by omega
 have v:nA1 s (nA0 s p)<=1100000:=by omega
 generalize nA1 s (nA0 s p)=J at d j g a v;generalize nA0 s p=H at c i o g u;rcases o with⟨x,rfl⟩|⟨x,A,I,rfl,rfl⟩;all_goals
  rcases g with⟨G,rfl,rfl⟩|⟨G,am,⟨rfl,rfl,y⟩|⟨y,an,⟨rfl,rfl,n⟩|⟨n,B,K,rfl,rfl⟩⟩⟩;all_goals
   rcases a with⟨E,b,rfl⟩|⟨E,ao,⟨z,b,rfl⟩|⟨z,ag,⟨F,rfl⟩|⟨F,ap,⟨h,rfl⟩|⟨h,rfl⟩|⟨h,ak,rfl⟩⟩,L,C,rfl,rfl⟩⟩;all_goals first|omega|skip
   all_goals
    try rw[b]
    try clear b
    clear c d;go_in;go_wp2_with (first|(go_at_call 80;refine eH (m _) ?_)|(go_at_call 125;refine eH (n _) ?_)|(go_at_call 204;first|(with_reducible refine eH (A _) ?_)|(with_reducible refine eH (B _) ?_)|(with_reducible refine eH (C _) ?_)));all_goals
     go_ret2;exact⟨rfl,rfl⟩
theorem xa(s:ByteArray)(b:s.size<=1100000)(p:Nat)(c:p<s.size)(w:Y):W O 171 #[M s,N Q p] w fun e w'=>e= R (Ax #[N Q ((cK s p).1:Int),A9 (cK s p).2])/\w'=w:=by
 unfold cK;by_cases a:aq s p=48/\aq s (p+1)=120
 ·rw[ab a];exact EE s b p a.1 a.2 w
 ·rw[aa a];exact EF s b p c a w
def tD(s:ByteArray)(p:Nat):Nat->Nat
 |0=>0
 |n+1=>tD s p n*16+(gg (aq s (p+n))).toNat
theorem aap(s:ByteArray)(p:Nat):∀n,tD s p n<16 ^ n
 |0=>by simp[tD]
 |n+1=>by
  have h:=aap s p n;have b:=oh (aq s (p+n));have a:16 ^ (n+1)=16 ^ n*16:=Nat.pow_succ 16 n;unfold tD;omega
theorem afm(s:ByteArray)(p n:Nat)(h:n<=15):tD s p n<1152921504606846976:=by
 have a:=aap s p n;have b:16 ^ n<=16 ^ 15:=Nat.pow_le_pow_right (by omega) h;have c:16 ^ 15=1152921504606846976:=by decide
 omega
theorem aaq(s:ByteArray)(p n:Nat)(h:n<=16):tD s p n<18446744073709551616:=by
 have a:=aap s p n;have b:16 ^ n<=16 ^ 16:=Nat.pow_le_pow_right (by omega) h;have c:16 ^ 16=18446744073709551616:=by decide
 omega
theorem aju(c:Int)(a:97<=c)(b:c<=102):bits .or B6 c 32=c:=by
 rcases(show c=97\/c=98\/c=99\/c=100\/c=101\/c=102 by omega) with rfl|rfl|rfl|rfl|rfl|rfl<;>decide+kernel
theorem afn(s:ByteArray)(j:Nat)(h:j<s.size):((s.data.toList.getD j 0).toNat:Int)=aq s j:=by
 have:s.data.toList[j]?=X s[j]:=by
  rw[vC];exact BJ h
 rw[List.getD,this];unfold aq;rw[lD h];rfl
theorem arq(t:ByteArray)(s:1<=t.size)(ak:t.size<=16)(x:∀i,i<t.size->li (aq t i)=T)(w:Y):
  W O 225 #[.string t,.int .i64 16,.int .i64 64] w fun e w'=>e= .returned (.tuple #[.int .u64 (tD t 0 t.size:Int),.nilIface])/\w'=Lib.bytesWorld w 5 t:=by
 have al:t.toList.isEmpty=S:=by
  rw[<-decide_eq_emptyBytes];exact aD (fun C=>by rw[C]at s;simp at s)
 have G:=Lib.run_convert_string_bytes (P:=O) w 9 22 5 t (u:= .string) Tryz.underlying9 Tryz.underlying22 Tryz.underlying5;have j:∀f,f<t.size->(Lib.bytesWorld w 5 t).cell? ⟨w.heap.size,f,Z⟩=X (.int .u8 (aq t f)):=fun f y=>by rw[Lib.bytesWorld_cell w 5 t f y,afn t f y]
 obtain⟨r,v⟩:∃r,r=Lib.bytesWorld w 5 t:=⟨_,rfl⟩;rw[<-v]at G j⊢;clear v;have an:IntKind.u64.wrap (IntKind.u64.wrap 18446744073709551616-1)=18446744073709551615:=by
  rw[IntKind.wrap_u64,IntKind.wrap_u64];decide
 obtain⟨n,o⟩:∃n:Int,(tD t 0 t.size:Int)=n:=⟨_,rfl⟩;rw[o];have q:=aw o;clear o;go_in;go_wp2;go_loop [12,13,101] (fun L K p=>∃(a:Nat) (b:Int),L= .bool S/\K= .int .u64 b/\p= .int .i64 a/\a<=t.size/\B4 (b=(tD t 0 a:Int))) (fun _ _ p=>t.size-(A2 p).toNat)
 case atStart=>exact⟨0,0,rfl,rfl,rfl,by omega,rfl⟩
 case round=>
  obtain⟨a,b,rfl,rfl,rfl,am,d⟩:=hrel;by_cases z:a<t.size
  ·have F:=j a z;have B:=(oC _).1 (x a z);have E:=afm t 0 a (by omega);have ad:0<=b:=by rw[d.out];omega
   have af:b<1152921504606846976:=by rw[d.out];omega
   have g:B4 (∀h:Int,gg (aq t a)=h->0<=h->b*16+h=(tD t 0 (a+1):Int)):=fun h H ag=>by
    show _=((tD t 0 a*16+(gg (aq t (0+a))).toNat:Nat):Int);rw[gq,H,d.out];omega
   generalize aq t a=c at F B g;clear j E d x;rcases B with⟨k,l⟩|⟨k,l⟩
   ·have m:B4 (b*16+(c-48)=(tD t 0 (a+1):Int)):=g.out (c-48) (by unfold gg;rw[ab ⟨k,l⟩]) (by omega);clear g;go_wp2;refine⟨⟨a+1,b*16+(c-48),rfl,(by first|rfl|(congr 1;omega)),(by first|rfl|(congr 1;omega)),by omega,m⟩,by simp[A2];omega⟩
   ·have m:B4 (b*16+(c-87)=(tD t 0 (a+1):Int)):=g.out (c-87) (by unfold gg;rw[aa (by omega),ab ⟨k,l⟩]) (by omega);clear g;have A:=aju c k l;have J:∀w,W O 240 #[.int .u8 c] w fun e w'=>e= .returned (.int .u8 c)/\w'=w:=fun w=>by
     have:=Tryz.internal_strconv_lower c w;rw[A]at this;exact this
    clear A;go_wp2_with (go_at_call 240;refine eH (J _) ?_);refine⟨⟨a+1,b*16+(c-87),rfl,(by first|rfl|(congr 1;omega)),(by first|rfl|(congr 1;omega)),by omega,m⟩,by simp[A2];omega⟩
  ·obtain rfl:a=t.size:=by omega
   have I:b=n:=by rw[<-q.out,d.out]
   subst I;clear j d q;go_wp2;go_ret2;exact⟨rfl,rfl⟩
structure oE (w:Y):Prop where
 syn:∃te pe,w.cell? ⟨6,0,Z⟩=X (.iface te pe)
 rng:∃te pe,w.cell? ⟨7,0,Z⟩=X (.iface te pe)
theorem tE(h:A0 B w w'){a:Addr}(b:a.block<B):w'.cell? a=w.cell? a:=by
 unfold World.cell?;rw[h.block _ b]
theorem G4{a:Y}(h:A0 B a w)(n:Nat):A0 B a (w.drewN n):=⟨h.os,h.tape,h.output,h.size,h.block⟩
theorem oE.below(h:oE w)(d:A0 B w w')(c:w.heap.size<=B):oE w':=by
 obtain⟨⟨i,g,a⟩,⟨j,p2,b⟩⟩:=h;have e:=Ca w _ a;have f:=Ca w _ b;exact⟨⟨i,g,(tE d (gh e c)).trans a⟩,⟨j,p2,(tE d (gh f c)).trans b⟩⟩
theorem qd(s:ByteArray)(i:Nat):aq s i=match s.data.toList[i]? with|some b=>(b.toNat:Int)|none=> -1:=by
 cases h:s.data.toList[i]? with
 |some b=>exact((fL s i b).1 h).2
 |none=>
  refine dl fun a=>?_;have:s.data.toList[i]?=X s[i]:=by rw[vC];exact BJ a
  rw[this]at h;cases h
def Fj(s:ByteArray)(n:Nat):ByteArray:=⟨(s.data.toList.drop n).toArray⟩
theorem tG(s:ByteArray)(n:Nat):(Fj s n).size=s.size-n:=by
 show(s.data.toList.drop n).toArray.size=_;rw[iI,im,eK];rfl
theorem Fk(s:ByteArray)(n i:Nat):aq (Fj s n) i=aq s (n+i):=by
 rw[qd,qd];show(match (s.data.toList.drop n).toArray.toList[i]? with|some a=>(a.toNat:Int)|none=> -1)=_;rw[List.toList_toArray,tg]
theorem Js(s:ByteArray)(a p:Nat):∀n,tD (Fj s a) p n=tD s (a+p) n
 |0=>rfl
 |n+1=>by
  unfold tD;rw[Js s a p n,Fk,eG]
theorem apI(t:ByteArray)(c:1<=t.size)(a:t.size<=16)(d:∀i,i<t.size->li (aq t i)=T)(w:Y):
  W O 206 #[M t,N Q 16,N Q 64] w fun e w'=>e= R (Ax #[N .u64 (tD t 0 t.size:Int),Ce])/\A0 w.heap.size w w':=by
 have b:=fun w=>arq t c a d w;have f:=aaq t 0 t.size a;generalize (tD t 0 t.size:Int)=g at b;go_in;go_wp2_with (go_at_call 225;refine(b _).mono ?_;rintro e w' ⟨rfl,rfl⟩);go_ret2;exact⟨rfl,Lib.bytesWorld_below _ _ _⟩
theorem Jt(s:ByteArray)(x y:UInt8):Br s.data.toList [x,y]=decide (aq s 0=(x.toNat:Int)/\aq s 1=(y.toNat:Int)):=by
 have:=G1 s 0 x y;rw[re]at this;exact this
theorem Fl(q:ByteArray)(h:aq q 0=48)(j:aq q 1=120)(p:3<=q.size)(o:q.size<=18)(c:∀i,2<=i->i<q.size->li (aq q i)=T)(w:Y):
  W O 172 #[M q] w fun e w'=>e= R (Ax #[N Q (wrap64 (tD q 2 (q.size-2):Int)),A9 T])/\A0 w.heap.size w w':=by
 have d:Br q.data.toList [48,120]=T:=by rw[Jt];simp[h,j]
 have g:∀w,W O 205 #[M q,M ⟨#[48,120]⟩] w fun e w'=>e= R (Ax #[M (Fj q 2),A9 T])/\w'=w:=fun w=>by
  have:=Tryz.strings_CutPrefix q ⟨#[48,120]⟩ w;rw[show(⟨#[48,120]⟩:ByteArray).data.toList=[48,120] from rfl,Lib.trimPrefix,d]at this;exact this
 have a:=fun w=>apI (Fj q 2) (by rw[tG];omega) (by rw[tG];omega) (fun i m=>by rw[Fk];rw[tG]at m;exact c _ (by omega) (by omega)) w;rw[Js,tG]at a;have k:=aaq q 2 (q.size-2) (by omega);simp only[iz]at a;obtain⟨b,f⟩:∃b:Int,(tD q 2 (q.size-2):Int)=b:=⟨_,rfl⟩;have r:0<=b:=by omega
 have s:b<18446744073709551616:=by omega
 rw[f]at a⊢;clear f k d c;generalize Fj q 2=n at g a;go_in;go_wp2_with (first|(go_at_call 205;refine(g _).mono ?_;rintro e w' ⟨rfl,rfl⟩)|(go_at_call 206;refine(a _).mono ?_;rintro e w' ⟨rfl,l⟩));go_quiet (fail)
 go_wp2;go_ret2;exact⟨rfl,G4 l _⟩
def zL(q:ByteArray):Option Int:=match Lib.parseIntB 64 q.data.toList with| .ok a=>X a|_=>Z
theorem Fp(q:ByteArray)(r:q.size<=1100000)(j:¬(aq q 0=48/\aq q 1=120))(w:Y)(n:oE w):
  W O 172 #[M q] w fun e w'=>(∃x,e= R (Ax #[N Q x,A9 (zL q).isSome])/\∀v,zL q=X v->x=v)/\A0 w.heap.size w w':=by
 have g:Br q.data.toList [48,120]=S:=by rw[Jt];simpa using j
 have k:∀w,W O 205 #[M q,M ⟨#[48,120]⟩] w fun e w'=>e= R (Ax #[M ⟨q.data.toList.toArray⟩,A9 S])/\w'=w:=fun w=>by
  have:=Tryz.strings_CutPrefix q ⟨#[48,120]⟩ w;rw[show(⟨#[48,120]⟩:ByteArray).data.toList=[48,120] from rfl,Lib.trimPrefix,g]at this;exact this
 generalize (⟨q.data.toList.toArray⟩:ByteArray)=p at k;obtain⟨⟨y,s,i⟩,⟨z,t,h⟩⟩:=n;unfold zL;cases hp:Lib.parseIntB 64 q.data.toList with
 |ok v=>
  have c:=Tryz.strconv_ParseInt_10_at64_ok q (by omega) v hp w;have d:W O 207 #[M q,N Q 10,N Q 64] w fun e w'=>e= R (Ax #[N Q v,Ce])/\A0 w.heap.size w w':=c.mono fun e w' b=>⟨b.1,by
   rcases b.2 with rfl|⟨u,rfl⟩
   ·exact ah _ _
   ·exact Lib.bytesWorld_below _ _ _⟩
  clear c hp g j i h;go_in;go_wp2_with (first|(go_at_call 205;refine(k _).mono ?_;rintro e w' ⟨rfl,rfl⟩)|(go_at_call 207;refine d.mono ?_;rintro e w' ⟨rfl,f⟩));go_quiet (fail)
  go_wp2;go_ret2;exact⟨⟨v,rfl,fun _ b=>bu b⟩,G4 f _⟩
 | «syntax» =>
  have c:=Tryz.strconv_ParseInt_10_at64_syntax q (by omega) hp _ w i (.inr ⟨_,_,rfl⟩);have d:W O 207 #[M q,N Q 10,N Q 64] w fun e w'=>∃a,e= R (Ax #[N Q 0,.iface 274 (.pointer (X ⟨a,0,Z⟩))])/\A0 w.heap.size w w':=c.mono fun e w' ⟨a,l,_,_,m⟩=>⟨a,l,m⟩;clear c hp g j i h;go_in;go_wp2_with (first|(go_at_call 205;refine(k _).mono ?_;rintro e w' ⟨rfl,rfl⟩)|(go_at_call 207;refine d.mono ?_;rintro e w' ⟨a,rfl,f⟩));go_quiet (fail)
  go_wp2;go_ret2;exact⟨⟨0,rfl,fun _ b=>by cases b⟩,G4 f _⟩
 |range=>
  have c:=Tryz.strconv_ParseInt_10_at64_range q (by omega) hp _ w h (.inr ⟨_,_,rfl⟩);have d:W O 207 #[M q,N Q 10,N Q 64] w fun e w'=>∃a,e= R (Ax #[N Q (Lib.intSat 64 q.data.toList),.iface 274 (.pointer (X ⟨a,0,Z⟩))])/\A0 w.heap.size w w':=c.mono fun e w' ⟨a,l,_,_,m⟩=>⟨a,l,m⟩;clear c hp g j i h;generalize Lib.intSat 64 q.data.toList=o at d;go_in;go_wp2_with (first|(go_at_call 205;refine(k _).mono ?_;rintro e w' ⟨rfl,rfl⟩)|(go_at_call 207;refine d.mono ?_;rintro e w' ⟨a,rfl,f⟩));go_quiet (fail)
  go_wp2;go_ret2;exact⟨⟨o,rfl,fun _ b=>by cases b⟩,G4 f _⟩
def stp(a:Option Nat)(c:UInt8):Option Nat:=match a with|none=>Z|some b=>if b*10+(c.toNat-48)<=9223372036854775807 then X (b*10+(c.toNat-48)) else Z
theorem Ju:∀l:List UInt8,l.foldl stp Z=Z
 |[]=>rfl
 |c::r=>Ju r
theorem am0:∀(l:List UInt8)(a:Nat),(∀c∈l,48<=c.toNat/\c.toNat<=57)->9223372036854775808<=a->U (2 ^ 64-1) a l= .range\/∃u,U (2 ^ 64-1) a l= .ok u/\9223372036854775808<=u
 |[],a,_,h=> .inr ⟨a,rfl,h⟩
 |c::r,a,d,h=>by
  have b:=d c (by simp);unfold U;rw[ab b,ab (by omega)];exact .inl rfl
theorem afo:∀(l:List UInt8)(a:Nat),(∀c∈l,48<=c.toNat/\c.toNat<=57)->a<=9223372036854775807->(∀u,l.foldl stp (X a)=X u->U (2 ^ 64-1) a l= .ok u/\u<=9223372036854775807)/\(l.foldl stp (X a)=Z->U (2 ^ 64-1) a l= .range\/∃u,U (2 ^ 64-1) a l= .ok u/\9223372036854775808<=u)
 |[],a,_,h=>by
  refine⟨fun u b=>?_,fun n=>by simp at n⟩;simp at b;subst b;exact⟨rfl,h⟩
 |c::r,a,j,h=>by
  have i:=j c (by simp);have k:∀d∈r,48<=d.toNat/\d.toNat<=57:=fun d o=>j d (by simp[o]);rw[tq,show stp (X a) c=if a*10+(c.toNat-48)<=9223372036854775807 then X (a*10+(c.toNat-48)) else Z from rfl];by_cases e:a*10+(c.toNat-48)<=9223372036854775807
  ·rw[ab e];have p:=afo r (a*10+(c.toNat-48)) k e;have m:U (2 ^ 64-1) a (c::r)=U (2 ^ 64-1) (a*10+(c.toNat-48)) r:=by
    rw[U,ab i,aa (by omega),aa (by omega)]
   rw[m];exact p
  ·rw[aa e,Ju r];refine⟨fun u b=>(by cases b),fun _=>?_⟩;rw[U,ab i];by_cases f:1844674407370955162<=a
   ·rw[ab f];exact .inl rfl
   ·rw[aa f];by_cases g:2 ^ 64-1<a*10+(c.toNat-48)
    ·rw[ab g];exact .inl rfl
    ·rw[aa g];exact am0 r _ k (by omega)
theorem afp:∀(l:List UInt8)(b:Nat),(∃c∈l,¬(48<=c.toNat/\c.toNat<=57))->∀u,U (2 ^ 64-1) b l≠ .ok u
 |[],_,h,u=>by obtain⟨c,a,_⟩:=h;simp at a
 |c::f,b,h,u=>by
  rw[U];by_cases a:48<=c.toNat/\c.toNat<=57
  ·rw[ab a];split
   ·intro h;cases h
   ·split
    ·intro h;cases h
    ·refine afp f _ ?_ u;obtain⟨e,hd,d⟩:=h;rcases List.mem_cons.1 hd with rfl|hd
     ·exact absurd a d
     ·exact⟨e,hd,d⟩
  ·rw[aa a];intro h;cases h
def rh(s:ByteArray)(p:Nat):Nat->Option Nat
 |0=>X 0
 |n+1=>match rh s p n with|none=>Z|some x=>if x*10+(aq s (p+n)-48).toNat<=9223372036854775807 then X (x*10+(aq s (p+n)-48).toNat) else Z
theorem Jv(s:ByteArray)(p:Nat):∀n,p+n<=s.size->rh s p n=((s.data.toList.drop p).take n).foldl stp (X 0)
 |0,_=>rfl
 |n+1,h=>by
  have a:p+n<s.data.toList.length:=by rw[eK];exact h
  have b:(s.data.toList.drop p)[n]?=X (s.data.toList[p+n]):=by rw[tg];exact aE a
  have d:aq s (p+n)=((s.data.toList[p+n]).toNat:Int):=((fL s (p+n) _).1 (aE a)).2;rw[iw,b,List.foldl_append,<-Jv s p n (by omega),rh,d];simp only[Gy,tq,List.foldl_nil,stp];have c:(((s.data.toList[p+n]).toNat:Int)-48).toNat=(s.data.toList[p+n]).toNat-48:=by omega
  rw[c]
theorem am1(s:ByteArray)(p:Nat):∀n u,rh s p n=X u->u<=9223372036854775807
 |0,u,h=>by simp[rh]at h;omega
 |n+1,u,h=>by
  unfold rh at h;split at h
  ·cases h
  ·split at h
   ·rename_i a;cases h;exact a
   ·cases h
theorem afq(q:ByteArray)(h:∀i,i<q.size->bc (aq q i)=T):∀c∈q.data.toList,48<=c.toNat/\c.toNat<=57:=by
 intro c a;obtain⟨i,d,rfl⟩:=List.mem_iff_getElem.1 a;have:=(fL q i _).1 (aE d);have b:=fe (h i this.1);rw[this.2]at b;omega
theorem Jw(q:ByteArray)(a:bc (aq q 0)=T):∃c r,q.data.toList=c::r/\48<=c.toNat/\c.toNat<=57:=by
 have d:=qc a;cases hq:q.data.toList with
 |nil=>
  have:q.data.toList.length=q.size:=by rw[eK];rfl
  rw[hq]at this;simp at this;omega
 |cons c r=>
  refine⟨c,r,rfl,?_⟩;have:=(fL q 0 c).1 (by rw[hq];rfl);have b:=fe a;rw[this.2]at b;omega
theorem acg(c:UInt8)(r:List UInt8)(b:48<=c.toNat)(d:c.toNat<=57):Lib.parseIntB 64 (c::r)=match U (2 ^ 64-1) 0 (c::r) with| .syntax=> .syntax| .range=> .range| .ok u=>if 9223372036854775808<=u then .range else .ok (u:Int):=by
 simp only[Lib.parseIntB,Lib.parseUintB];rw[aa (show ¬(c.toNat=43\/c.toNat=45) by omega),aa (show ¬(c::r=[]) by simp)];have a:¬c.toNat=45:=by omega
 cases U (2 ^ 64-1) 0 (c::r) with
 |ok u=>simp[a]
 | «syntax» =>rfl
 |range=>rfl
theorem Jy(q:ByteArray)(j:0<q.size)(h:∀i,i<q.size->bc (aq q i)=T):zL q=Option.map (fun u:Nat=>(u:Int)) (rh q 0 q.size):=by
 obtain⟨a,c,m,k,l⟩:=Jw q (h 0 j);have d:=afq q h;have e:=Jv q 0 q.size (by omega);rw[jy,dj (by rw[eK];exact ae _)]at e;unfold zL;rw[e];rw[m]at d⊢;rw[acg a c k l];have f:=afo (a::c) 0 d (by omega);cases hx:(a::c).foldl stp (X 0) with
 |some u=>
  obtain⟨g,o⟩:=f.1 u hx;rw[g];simp only[tj];rw[aa (by omega)]
 |none=>
  rcases f.2 hx with b|⟨u,b,n⟩
  ·rw[b];rfl
  ·rw[b];simp only[ab n];rfl
theorem yE(q:ByteArray)(f:bc (aq q 0)=T)(i:Nat)(j:i<q.size)(k:bc (aq q i)=S):zL q=Z:=by
 obtain⟨a,b,l,g,h⟩:=Jw q f;have c:∃a∈q.data.toList,¬(48<=a.toNat/\a.toNat<=57):=by
  have d:i<q.data.toList.length:=by rw[eK];exact j
  refine⟨q.data.toList[i],oe d,?_⟩;have:=(fL q i _).1 (aE d);have e:¬(48<=aq q i/\aq q i<=57):=by simpa [bc] using k
  rw[this.2]at e;omega
 unfold zL;rw[l]at c⊢;rw[acg a b g h];have:=afp (a::b) 0 c;cases hx:U (2 ^ 64-1) 0 (a::b) with
 |ok m=>exact absurd hx (this m)
 | «syntax» =>rfl
 |range=>rfl
def qC(q:ByteArray):Bool:=decide (bc (aq q 0)=T/\cK q 0=(q.size,T)/\¬(aq q 0=48/\aq q 1=120)/\zL q=Z)
theorem afr(s:ByteArray)(p:Nat)(h:p<=s.size):p<=ED s p/\ED s p<=s.size:=oq li yC s _ p h
theorem Jz{e:Nat}(h:mD s p=(e,T)):p<e/\e<=p+16/\e=ED s p/\∀i,p<=i->i<e->li (aq s i)=T:=by
 unfold mD at h;split at h
 ·cases h
 ·rename_i d;obtain⟨b,a⟩:=yu h;subst b;exact⟨by simpa using a,by omega,rfl,fun i c a=>mC li s _ p i c a⟩
theorem C1{q:ByteArray}(b:0<q.size):(q.toList==[])=S:=by
 have:q.toList.length=q.size:=by rw[fC];simp
 cases hs:q.toList with
 |nil=>rw[hs]at this;simp at this;omega
 |cons a c=>rfl
theorem JA{q:ByteArray}(a:¬0<q.size):(q.toList==[])=T:=by
 have:q.toList.length=q.size:=by rw[fC];simp
 have:q.toList=[]:=List.length_eq_zero_iff.1 (by omega);rw[this];rfl
theorem Fq{b:Bool}(h:bc c=b)(w:Y):W O 125 #[N B6 c] w fun e w'=>e= R (A9 b)/\w'=w:=(je c w).mono fun e w' a=>⟨by rw[a.1,h],a.2.symm⟩
theorem aar(s:ByteArray)(b:s.size<=1100000)(a:0<s.size)(w:Y):W O 171 #[M s,N Q 0] w fun e w'=>e= R (Ax #[N Q ((cK s 0).1:Int),A9 (cK s 0).2])/\w'=w:=xa s b 0 a w
theorem G5(s:ByteArray)(a:Nat)(h:a<=s.size):a<=(ot s a).1/\(ot s a).1<=s.size:=by
 unfold ot;split
 ·rename_i c;have d:=bz c;have b:nA2 s a<=s.size/\a<nA2 s a:=by
   unfold nA2;split
   ·rename_i hs;rcases hs with hs|hs
    ·have:=bz hs;omega
    ·have:=bz hs;omega
   ·omega
  have:=ou s (nA2 s a) b.1;simp only;omega
 ·exact⟨ae _,h⟩
theorem Aa(s:ByteArray)(p:Nat)(h:p<s.size):p<nA0 s p/\nA0 s p<=s.size:=by
 unfold nA0;split
 ·omega
 ·have:=ou s (p+1) (by omega);omega
theorem Ab(s:ByteArray)(a:Nat)(h:a<=s.size):a<=nA1 s a/\nA1 s a<=s.size:=by
 unfold nA1;split
 ·rename_i b;have:=ou s (a+1) (by have:=qc b.2;omega);omega
 ·omega
theorem ajv(s:ByteArray)(p:Nat)(h:p<=s.size):p<=(mD s p).1/\(mD s p).1<=s.size:=by
 have:=afr s p h;unfold mD;split
 ·simp only;omega
 ·exact this
theorem rj(s:ByteArray)(p:Nat)(h:p<s.size):p<(cK s p).1/\(cK s p).1<=s.size:=by
 unfold cK;split
 ·rename_i c;have:=bz c.2;have:=ajv s (p+2) (by omega);omega
 ·have a:=Aa s p h;have b:=Ab s _ a.2;have d:=G5 s _ b.2;omega
theorem JB(q:ByteArray)(u:q.size<=1100000)(w:Y)(z:oE w):W O 213 #[M q] w fun e w'=>e= R (A9 (qC q))/\A0 w.heap.size w w':=by
 by_cases h:0<q.size
 ·have B:=C1 h;have k:∀w,(B0 9 (M q) (N Q 0)).run O w= .ok (N B6 (aq q 0)) w:=fun w=>db h w;by_cases f:bc (aq q 0)=T
  ·have b:=fun w=>Fq f w;have d:=fun w=>aar q u h w;have r:=(rj q 0 h).2;by_cases c:(cK q 0).2=T
   ·by_cases i:(cK q 0).1=q.size
    ·have j:cK q 0=(q.size,T):=Prod.ext i c;rw[j]at d;by_cases g:aq q 0=48/\aq q 1=120
     ·have a:qC q=S:=by unfold qC;simp[g]
      rw[a];have t:mD q 2=(q.size,T):=by rw[<-j];unfold cK;rw[ab g]
      obtain⟨E,F,y,s⟩:=Jz t;have l:=fun w=>Fl q g.1 g.2 (by omega) (by omega) s w;generalize wrap64 (tD q 2 (q.size-2):Int)=G at l;clear a t y s j c i g f;generalize aq q 0=m at k b;go_in;go_wp2_with (first|(go_at_call 125;refine eH (b _) ?_)|(go_at_call 171;refine eH (d _) ?_)|(go_at_call 172;refine(l _).mono ?_;rintro e w' ⟨rfl,o⟩));go_ret;exact⟨rfl,o⟩
     ·have l:=Fp q u g w z;have a:qC q=!(zL q).isSome:=by
       unfold qC;cases hdc:zL q<;>simp[f,j,g]
      rw[a];generalize (zL q).isSome=C at l;clear a j c i g f;generalize aq q 0=m at k b;go_in;go_wp2_with (first|(go_at_call 125;refine eH (b _) ?_)|(go_at_call 171;refine eH (d _) ?_)|(go_at_call 172;refine l.mono ?_;rintro e w' ⟨⟨H,rfl,_⟩,o⟩));go_ret;exact⟨rfl,o⟩
    ·have a:qC q=S:=by unfold qC;rw[sL];rintro ⟨_,n,_⟩;rw[n]at i;exact i rfl
     rw[a];have A:((cK q 0).1:Int)<(q.size:Int):=by omega
     rw[c]at d;generalize (cK q 0).1=x at d A;clear a c i f r;generalize aq q 0=m at k b;go_in;go_wp2_with (first|(go_at_call 125;refine eH (b _) ?_)|(go_at_call 171;refine eH (d _) ?_));go_ret;exact⟨rfl,ah _ _⟩
   ·have v:(cK q 0).2=S:=by simpa using c
    have a:qC q=S:=by unfold qC;rw[sL];rintro ⟨_,n,_⟩;rw[n]at c;exact c rfl
    rw[a];rw[v]at d;generalize (cK q 0).1=x at d r;clear a c v f;generalize aq q 0=m at k b;go_in;go_wp2_with (first|(go_at_call 125;refine eH (b _) ?_)|(go_at_call 171;refine eH (d _) ?_));go_ret;exact⟨rfl,ah _ _⟩
  ·have p:bc (aq q 0)=S:=by simpa using f
   have b:=fun w=>Fq p w;have a:qC q=S:=by unfold qC;simp[p]
   rw[a];clear a f p;generalize aq q 0=m at k b;go_in;go_wp2_with (first|(go_at_call 125;refine eH (b _) ?_));go_ret;exact⟨rfl,ah _ _⟩
 ·have B:=JA h;have a:qC q=S:=by unfold qC;rw[dl h];simp[tB]
  rw[a];clear a;go_in;go_wp2;go_ret;exact⟨rfl,ah _ _⟩
theorem ed{b:Bool}(h:bc c=b)(w:Y):W O 54 #[N B6 c] w fun e w'=>e= R (A9 b)/\w'=w:=(A3 c w).mono fun e w' a=>⟨by rw[a.1,h],a.2.symm⟩
theorem gK(s:ByteArray)(d:s.size<=1100000)(a:Int)(i:Nat)(c:a=(i:Int))(w:Y):W O 51 #[M s,N Q a] w fun e w'=>e= R (N B6 (lk s i))/\w'=w:=by
 subst c;exact(CI s d i w).mono fun e w' b=>⟨b.1,b.2.symm⟩
theorem Ad(c:Int)(h:0<=c)(i:c<256)(w:Y):W O 89 #[N B6 c] w fun e w'=>e= R (N Q (gg c))/\w'=w:=by
 unfold gg;by_cases a:bc c=T
 ·have b:=fun w=>ed a w;have d:=fe a;rw[ab d];clear a;go_in;go_wp2_with (first|(go_at_call 54;refine eH (b _) ?_));go_ret;exact⟨rfl,rfl⟩
 ·have f:bc c=S:=by simpa using a
  have b:=fun w=>ed f w;have d:¬(48<=c/\c<=57):=by simpa [bc] using f
  rw[aa d];clear a f d;rcases(show(97<=c/\c<=102)\/¬97<=c\/(97<=c/\¬c<=102) by omega) with⟨g1,g⟩|g1|⟨g1,g⟩
  ·rw[ab ⟨g1,g⟩];go_in;go_wp2_with (first|(go_at_call 54;refine eH (b _) ?_));go_ret;exact⟨by simp;omega,rfl⟩
  ·rw[aa (by omega)];go_in;go_wp2_with (first|(go_at_call 54;refine eH (b _) ?_));go_ret;exact⟨rfl,rfl⟩
  ·rw[aa (by omega)];go_in;go_wp2_with (first|(go_at_call 54;refine eH (b _) ?_));go_ret;exact⟨rfl,rfl⟩
theorem ach(s:ByteArray)(i:Nat):gg (lk s i)=gg (aq s i):=by
 unfold lk;split
 ·rfl
 ·rename_i a;rw[dl a];decide
theorem tH(h:i<s.size):lk s i=aq s i:=by unfold lk;rw[ab h]
def hxA(s:ByteArray)(p:Nat):B1:=if(mD s (p+2)).2=T then B3 #[N Q 2,N Q p,N Q ((mD s (p+2)).1:Int),N Q 0,N Q (wrap64 (tD s (p+2) ((mD s (p+2)).1-(p+2)):Int)),M ⟨#[]⟩] else B3 #[N Q 2,N Q p,N Q 0,N Q 0,N Q 0,M ⟨#[]⟩]
def hxF(s:ByteArray)(p:Nat):Int:=if(mD s (p+2)).2=T then -1 else((mD s (p+2)).1:Int)
theorem JC(s:ByteArray)(a7:s.size<=1100000)(p:Nat)(a9:p+2<=s.size)(w:Y):W O 88 #[M s,B3 #[N Q 2,N Q p,N Q 0,N Q 0,N Q 0,M ⟨#[]⟩]] w fun e w'=>e= R (Ax #[hxA s p,N Q (hxF s p)])/\A0 w.heap.size w w':=by
 obtain⟨bh,l⟩:=aA (hxA s p);obtain⟨an,hF⟩:=aA (hxF s p);rw[l,hF];unfold hxA at l;unfold hxF at hF;unfold mD at l hF;obtain⟨H,r⟩:=aA (ED s (p+2));rw[r]at l hF;unfold ED at r;have u:=aw r;have m:=aw l;have n:=aw hF;clear r l hF;go_in;go_wp2_with fail;generalize ag:(w.alloc _).alloc _=x;obtain⟨b,I,y, -⟩:=GI ag;have a4:dE w.heap.size x 2 p 0 0 0 ⟨#[]⟩:=b;have ak:dE (w.heap.size+1) x 0 0 0 0 0 ⟨#[]⟩:=I;clear ag b I;have br:w.heap.size+1<x.heap.size:=ai ak;obtain⟨bs,bt,bw,bx,bA,bD,bE⟩:=aJ a4;obtain⟨z0,A,B,C,E,F,b0⟩:=aJ ak;go_loop [6,7] (fun z bf=>∃(a h:Nat) (b:Int),p+2<=a/\a<=p+18/\a<=s.size/\s.size<a+h/\z= N Q a/\bf= N .u64 b/\B4 (ic li s h a=H)/\B4 (b=(tD s (p+2) (a-(p+2)):Int))) (fun z _=>s.size-(A2 z).toNat)
 case atStart=>exact⟨p+2,s.size+1,0,by omega,by omega,a9,by omega,by simp,rfl,u,by show(0:Int)=_;rw[eD];rfl⟩
 case round=>
  obtain⟨a,h,b,bo,bn,bl,bk,rfl,rfl,t,g⟩:=hrel;obtain⟨h,rfl⟩:∃a3,h=a3+1:=⟨h-1,by omega⟩;have j:=t.out;unfold ic at j;have k:=fun w=>gK s a7 (a:Int) a rfl w;have f:=fun w=>Ad (lk s a) (acd s a).1 (acd s a).2 w;rw[ach]at f;by_cases i:li (aq s a)=T
  ·have al:a<s.size:=aan yC i;have be:=fun w=>db al w;rw[tH al]at k f;rw[ab i]at j;have a5:=(oq li yC s h (a+1) (by omega)).1;rw[j]at a5;have ao:=aw j;have bb:0<=gg (aq s a):=by simpa [li] using i
   have bd:=oh (aq s a);have af:a≠p+18->tD s (p+2) (a-(p+2))<1152921504606846976:=fun K=>afm s (p+2) _ (by omega);have G:B4 (b*16+gg (aq s a)=(tD s (p+2) (a+1-(p+2)):Int)):=by
    show _=_;rw[show a+1-(p+2)=(a-(p+2))+1 by omega,tD,show p+2+(a-(p+2))=a by omega,g.out];omega
   have ap:0<=b:=by rw[g.out];omega
   have q:a≠p+18->b<1152921504606846976:=fun K=>by have:=af K;rw[g.out];omega
   generalize gg (aq s a)=J at f bb bd G;generalize aq s a=ar at k f be;clear j i af;by_cases L:a=p+18
   ·have c:=m.out;have d:=n.out;simp only[ab (show p+2+16<H by omega)]at c d;simp at c d;subst c;have a6:an=(a:Int):=by omega
    clear d;subst a6;have av:((a:Int)-(p:Int)==18)=T:=by rw[jk];omega
    clear m n L q;go_wp2_with (first|(go_at_call 51;refine eH (k _) ?_)|(go_at_call 89;refine eH (f _) ?_));refine aI (v:= Ax #[B3 #[N Q 2,N Q p,N Q 0,N Q 0,N Q 0,M ⟨#[]⟩],N Q (a:Int)]) (by simp[results,Tryz.results88,go_sem,z0,A,B,C,E,F]) rfl ⟨rfl,?_⟩
    iterate 6 refine fJ ?_ (by simp) _
    exact y
   ·have av:((a:Int)-(p:Int)==18)=S:=by rw[bH];omega
    have bj:=q L;clear q;go_wp2_with (first|(go_at_call 51;refine eH (k _) ?_)|(go_at_call 89;refine eH (f _) ?_));go_round
    case rel=>exact⟨a+1,h,b*16+J,by omega,by omega,by omega,by omega,by go_num,by first|rfl|(congr 1;omega),ao,G⟩
    case measure=>simp[A2];omega
  ·have am:gg (aq s a)<0:=by
    have:¬0<=gg (aq s a):=by simpa [li] using i
    omega
   rw[aa i]at j;subst j;have a8:¬(0:Int)<=gg (aq s a):=by omega
   have ap:0<=b:=by rw[g.out];omega
   have q:b<18446744073709551616:=by rw[g.out];have:=aaq s (p+2) (a-(p+2)) (by omega);omega
   generalize gg (aq s a)=J at f a8;generalize lk s a=ar at k f;have c:=m.out;have d:=n.out;simp only[aa (show ¬p+2+16<a by omega)]at c d;by_cases ad:a=p+2
   ·have o:decide (p+2<a)=S:=by rw[sL];omega
    simp only[o]at c d;simp at c d;subst c d;have a2:((a:Int)==(p:Int)+2)=T:=by rw[jk];omega
    clear m n i am ad o g t u;go_wp2_with (first|(go_at_call 51;refine eH (k _) ?_)|(go_at_call 89;refine eH (f _) ?_));refine aI (v:= Ax #[B3 #[N Q 2,N Q p,N Q 0,N Q 0,N Q 0,M ⟨#[]⟩],N Q (a:Int)]) (by simp[results,Tryz.results88,go_sem,z0,A,B,C,E,F]) rfl ⟨rfl,?_⟩
    iterate 6 refine fJ ?_ (by simp) _
    exact y
   ·have o:decide (p+2<a)=T:=by rw[iJ];omega
    simp only[o]at c d;simp only[iK]at c d;rw[<-g.out]at c;subst c d;have a2:((a:Int)==(p:Int)+2)=S:=by rw[bH];omega
    clear m n i am ad o g t u;go_wp2_with (first|(go_at_call 51;refine eH (k _) ?_)|(go_at_call 89;refine eH (f _) ?_));refine aI (v:= Ax #[B3 #[N Q 2,N Q p,N Q (a:Int),N Q 0,N Q (wrap64 b),M ⟨#[]⟩],N Q (-1)]) (by simp[results,Tryz.results88,go_sem,z0,A,B,C,E,F]) rfl ⟨rfl,?_⟩
    iterate 8 refine fJ ?_ (by simp) _
    exact y
