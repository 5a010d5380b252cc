import Derived.Test.YthboboahkkhopaaGreatDoorHRo02
import Derived.Deep.Strs
import Derived.OpenShut
import Derived.Lib.ItoaLen
import Derived.Sort.LoopGhostIn
import Derived.Test.YthboboahkkhopaaGreatDoorHRo04
set_option linter.all false
set_option maxRecDepth 100000
set_option maxHeartbeats 3200000
open Go.Proofs.Tryz
open Go.Value renaming string->M,int->Q,pointer->Y,tuple->A9,slice->Br,agg->Ck,nilIface->E0
open Go.Proofs.Tryz renaming prog->O,sizeOf3->B7,isAgg3->Ce
open Go.IntKind renaming i64->R
open Option renaming some->S,none->U
open Bool renaming false->X,true->A2
open Go.Ending renaming returned->Z
open Go renaming World->Ax,Calls->A0,Value->B0,TypeId->Ex
open Go.Obj renaming cells->A5
open Go.Lib renaming repeatL->B1
open Go.RowKit renaming intOf->B2,Below->B6,Hid->C2
open Go.Shelf renaming Ren->B3
open ByteArray renaming empty->B4
namespace Go.Proofs.YthboboahkkhopaaGreatDoor
open Go.RowKit
def Dt:Array B0:=#[M ⟨#[]⟩,M ⟨#[43]⟩,M ⟨#[45]⟩,M ⟨#[42]⟩,M ⟨#[47]⟩,M ⟨#[47,47]⟩,M ⟨#[37]⟩,M ⟨#[38]⟩,M ⟨#[124]⟩,M ⟨#[126]⟩,M ⟨#[60,60]⟩,M ⟨#[62,62]⟩,M ⟨#[46,46]⟩,M ⟨#[61,61]⟩,M ⟨#[126,61]⟩,M ⟨#[60]⟩,M ⟨#[60,61]⟩,M ⟨#[62]⟩,M ⟨#[62,61]⟩]
def kD:Array B0:=#[M ⟨#[40]⟩,M ⟨#[41]⟩,M ⟨#[123]⟩,M ⟨#[125]⟩,M ⟨#[91]⟩,M ⟨#[93]⟩,M ⟨#[44]⟩,M ⟨#[61]⟩,M ⟨#[46]⟩,M ⟨#[46,46,46]⟩,M ⟨#[35]⟩]
def FH:Array B0:=#[M ⟨#[46,46,46]⟩,M ⟨#[46,46]⟩,M ⟨#[46]⟩,M ⟨#[60,60]⟩,M ⟨#[60,61]⟩,M ⟨#[60]⟩,M ⟨#[62,62]⟩,M ⟨#[62,61]⟩,M ⟨#[62]⟩,M ⟨#[61,61]⟩,M ⟨#[61]⟩,M ⟨#[126,61]⟩,M ⟨#[126]⟩,M ⟨#[47,47]⟩,M ⟨#[47]⟩,M ⟨#[40]⟩,M ⟨#[41]⟩,M ⟨#[123]⟩,M ⟨#[125]⟩,M ⟨#[91]⟩,M ⟨#[93]⟩,M ⟨#[44]⟩,M ⟨#[59]⟩,M ⟨#[35]⟩,M ⟨#[43]⟩,M ⟨#[45]⟩,M ⟨#[42]⟩,M ⟨#[37]⟩,M ⟨#[38]⟩,M ⟨#[124]⟩]
def aj1:(#[M ⟨#[]⟩,M ⟨#[43]⟩,M ⟨#[45]⟩,M ⟨#[42]⟩,M ⟨#[47]⟩,M ⟨#[47,47]⟩,M ⟨#[37]⟩,M ⟨#[38]⟩,M ⟨#[124]⟩,M ⟨#[126]⟩,M ⟨#[60,60]⟩,M ⟨#[62,62]⟩,M ⟨#[46,46]⟩,M ⟨#[61,61]⟩,M ⟨#[126,61]⟩,M ⟨#[60]⟩,M ⟨#[60,61]⟩,M ⟨#[62]⟩,M ⟨#[62,61]⟩]:Array B0)=Dt:=rfl
def aj2:(#[M ⟨#[40]⟩,M ⟨#[41]⟩,M ⟨#[123]⟩,M ⟨#[125]⟩,M ⟨#[91]⟩,M ⟨#[93]⟩,M ⟨#[44]⟩,M ⟨#[61]⟩,M ⟨#[46]⟩,M ⟨#[46,46,46]⟩,M ⟨#[35]⟩]:Array B0)=kD:=rfl
def dD(V:Array B0)(k:Nat):ByteArray:=match V[k]? with|some (.string a)=>a|_=>B4
def anl:∀k:Fin 19,Dt[k.val]?=S (M (dD Dt k.val)):=by
 intro ⟨k,a⟩
 iterate 19 (obtain _|k:=k;· rfl)
 omega
def agn:∀k:Fin 11,kD[k.val]?=S (M (dD kD k.val)):=by
 intro ⟨k,a⟩
 iterate 11 (obtain _|k:=k;· rfl)
 omega
def anm:∀k:Fin 30,FH[k.val]?=S (M (dD FH k.val)):=by
 intro ⟨k,a⟩
 iterate 30 (obtain _|k:=k;· rfl)
 omega
def Ij:∀k:Fin 22,gA[k.val]?=S (M (dD gA k.val)):=by
 intro ⟨k,a⟩
 iterate 22 (obtain _|k:=k;· rfl)
 omega
def xr(V:Array B0)(s:ByteArray):Nat->Nat->Option Nat
 |0,_=>U
 |f+1,k=>if((dD V k).toList==s.toList)=A2 then S k else xr V s f (k+1)
def Ku(s:ByteArray):Int:=match xr Dt s 18 1 with|some a=>60+(a:Int)|none=>(match xr kD s 11 0 with|some a=>40+(a:Int)|none=>5)
def vC(w:Ax):A0 O 182 #[] w λe w'=>e= Z (Br (S ⟨w.heap.size,0,U⟩) 22 22)/\w'=w.alloc (A5 gA 9):=by
 go_in;go_wp2;go_ret;exact⟨rfl,rfl⟩
def Kv(w:Ax):A0 O 183 #[] w λe w'=>e= Z (Br (S ⟨w.heap.size,0,U⟩) 30 30)/\w'=w.alloc (A5 FH 9):=by
 go_in;go_wp2;go_ret;exact⟨rfl,rfl⟩
def Du(s:ByteArray)(w:Ax):A0 O 184 #[M s] w (gy w (Q R (Ku s))):=by
 go_in;go_wp21
 rw[aj1];have p:=aB w (A5 Dt 9);have k:be w (w.alloc (A5 Dt 9)):=(ah _ w).alloc (af _) _;generalize w.alloc (A5 Dt 9)=h at p k⊢;have⟨r,v⟩:=aJ (xr Dt s 18 1);have j:=am v;go_loop [4] (λd=>∃a:Nat,1<=a/\a<=19/\d= Q R a/\C2 (xr Dt s (19-a) a=r)) (λd=>19-(B2 d).toNat)
 case atStart=>exact⟨1,by omega,by omega,rfl,j⟩
 case round=>
  obtain⟨a,B,y,rfl,f⟩:=hrel;by_cases o:a<19
  .have n:h.cell? ⟨w.heap.size,a,U⟩=S (M (dD Dt a)):=by rw[aj _ _ _ _ _ _ p];exact anl ⟨a,o⟩
   have b:=f.out;rw[show 19-a=(19-(a+1))+1 by omega]at b;unfold xr at b;generalize dD Dt a=i at n b;by_cases c:(i.toList==s.toList)=A2
   .rw[ae c]at b;have e:=am b;go_wp2;go_ret;refine⟨?_,k⟩;unfold Ku;rw[j.out,<-e.out];rfl
   .rw[aa c]at b;have e:=am b;have A:(i.toList==s.toList)=X:=by simpa using c
    go_wp2;go_round
    case rel=>exact⟨a+1,by omega,by omega,by go_num,e⟩
    case measure=>simp[B2];omega
  .obtain rfl:a=19:=by omega
   have e:=am f.out;go_wp21
   rw[aj2];have q:=aB h (A5 kD 9);have z:=k.size;have m:be w (h.alloc (A5 kD 9)):=k.alloc z _;generalize h.alloc (A5 kD 9)=u at q m⊢;have⟨t,x⟩:=aJ (xr kD s 11 0);have l:=am x;go_loop [26] (λd=>∃a:Nat,a<=11/\d= Q R a/\C2 (xr kD s (11-a) a=t)) (λd=>11-(B2 d).toNat)
   case atStart=>exact⟨0,by omega,rfl,l⟩
   case round=>
    obtain⟨a,y,rfl,f⟩:=hrel;by_cases o:a<11
    .have n:u.cell? ⟨h.heap.size,a,U⟩=S (M (dD kD a)):=by rw[aj _ _ _ _ _ _ q];exact agn ⟨a,o⟩
     have b:=f.out;rw[show 11-a=(11-(a+1))+1 by omega]at b;unfold xr at b;generalize dD kD a=i at n b;by_cases c:(i.toList==s.toList)=A2
     .rw[ae c]at b;have g:=am b;go_wp2;go_ret;refine⟨?_,m⟩;unfold Ku;rw[j.out,<-e.out,l.out,<-g.out];rfl
     .rw[aa c]at b;have g:=am b;have A:(i.toList==s.toList)=X:=by simpa using c
      go_wp2;go_round
      case rel=>exact⟨a+1,by omega,by go_num,g⟩
      case measure=>simp[B2];omega
    .obtain rfl:a=11:=by omega
     have g:=am f.out;go_wp2;go_ret;refine⟨?_,m⟩;unfold Ku;rw[j.out,<-e.out,l.out,<-g.out];rfl
def amn:ByteArray:=⟨#[59]⟩
def apE:ByteArray:=⟨#[10]⟩
def aa7:ByteArray:=⟨#[]⟩
def ago(a:Int):Nat->Nat->ByteArray
 |0,_=>aa7
 |f+1,k=>if Ku (dD FH k)=a then dD FH k else ago a f (k+1)
def Am(a:Int):ByteArray:=if a=5 then amn else if 10<=a/\a<32 then dD gA (a-10).toNat else ago a 30 0
def ni:Array B0:=#[M ⟨#[43]⟩,M ⟨#[45]⟩,M ⟨#[42]⟩,M ⟨#[47]⟩,M ⟨#[47,47]⟩,M ⟨#[37]⟩,M ⟨#[38]⟩,M ⟨#[124]⟩,M ⟨#[126]⟩,M ⟨#[60,60]⟩,M ⟨#[62,62]⟩,M ⟨#[46,46]⟩,M ⟨#[61,61]⟩,M ⟨#[126,61]⟩,M ⟨#[60]⟩,M ⟨#[60,61]⟩,M ⟨#[62]⟩,M ⟨#[62,61]⟩]
def ann:∀k:Fin 18,ni[k.val]?=S (M (dD ni k.val)):=by
 intro ⟨k,a⟩
 iterate 18 (obtain _|k:=k;· rfl)
 omega
structure vD (w:Ax):Prop where
 word:∃tt fr,w.heap[0]?=S (.cells gA tt fr)
 mark:∃tt fr,w.heap[1]?=S (.cells kD tt fr)
 bin:∃tt fr,w.heap[2]?=S (.cells ni tt fr)
def vD.below{w w':Ax}{B:Nat}(h:vD w)(b:B6 B w w')(a:w.heap.size<=B):vD w':=by
 obtain⟨⟨j,f,c⟩,⟨k,g,d⟩,⟨l,i,e⟩⟩:=h;exact⟨⟨j,f,(b.block _ (iu (ai c) a)).trans c⟩,⟨k,g,(b.block _ (iu (ai d) a)).trans d⟩,⟨l,i,(b.block _ (iu (ai e) a)).trans e⟩⟩
def dG(a:Int):ByteArray:=if a=5 then amn else if a=7 then apE else if 10<=a/\a<=31 then dD gA (a-10).toNat else if 40<=a/\a<=50 then dD kD (a-40).toNat else if 61<=a/\a<=78 then dD ni (a-61).toNat else aa7
def xu(b:Int)(y: -9223372036854775808<=b)(z:b<=9223372036854775807)(w:Ax)(l:vD w):A0 O 125 #[Q R b] w (kL w (M (dG b))):=by
 obtain⟨⟨A,s,r⟩,⟨B,t,q⟩,⟨C,u,m⟩⟩:=l;unfold dG;by_cases d:b=5
 .subst d;go_in;go_wp2;go_ret;exact⟨rfl,rfl⟩
 by_cases e:b=7
 .subst e;go_in;go_wp2;go_ret;exact⟨rfl,rfl⟩
 rw[aa d,aa e];have v:(b==5)=X:=by simp[d]
 have x:(b==7)=X:=by simp[e]
 by_cases c:10<=b/\b<=31
 .rw[ae c];obtain⟨a,g⟩:∃a:Nat,b=10+(a:Int):=⟨(b-10).toNat,by omega⟩;subst g;rw[show((10+(a:Int))-10).toNat=a by omega];have p:a<22:=by omega
  have j:w.cell? ⟨0,a,U⟩=S (M (dD gA a)):=by rw[aj _ _ _ _ _ _ r];exact Ij ⟨a,p⟩
  clear c d e;go_in;go_wp2;go_ret;exact⟨rfl,rfl⟩
 by_cases f:40<=b/\b<=50
 .rw[aa c,ae f];obtain⟨a,g⟩:∃a:Nat,b=40+(a:Int):=⟨(b-40).toNat,by omega⟩;subst g;rw[show((40+(a:Int))-40).toNat=a by omega];have n:a<11:=by omega
  have j:w.cell? ⟨1,a,U⟩=S (M (dD kD a)):=by rw[aj _ _ _ _ _ _ q];exact agn ⟨a,n⟩
  clear c f d e;go_in;go_wp2;go_ret;exact⟨rfl,rfl⟩
 by_cases i:61<=b/\b<=78
 .rw[aa c,aa f,ae i];obtain⟨a,g⟩:∃a:Nat,b=61+(a:Int):=⟨(b-61).toNat,by omega⟩;subst g;rw[show((61+(a:Int))-61).toNat=a by omega];have o:a<18:=by omega
  have j:w.cell? ⟨2,61+a-60-1,U⟩=S (M (dD ni a)):=by rw[show 61+a-60-1=a by omega,aj _ _ _ _ _ _ m];exact ann ⟨a,o⟩
  clear c f i d e;go_in;go_wp2;go_ret;exact⟨rfl,rfl⟩
 rw[aa c,aa f,aa i];rcases(show b<10\/(31<b/\b<40)\/(50<b/\b<=60)\/78<b by omega) with h|⟨h,k⟩|⟨h,k⟩|h;all_goals
  clear c f i d e;go_in;go_wp2;go_ret;exact⟨rfl,rfl⟩
def aa8(c:Int)(w:Ax):A0 O 133 #[Q R c] w (gy w (M (Am c))):=by
 unfold Am;by_cases x:c=5
 .subst x;go_in;go_wp2;go_ret;exact⟨rfl,ah _ _⟩
 rw[aa x];by_cases A:10<=c/\c<32
 .rw[ae A];obtain⟨a,y⟩:∃a:Nat,c=10+(a:Int):=⟨(c-10).toNat,by omega⟩;subst y;have I:a<22:=by omega
  have H:((10+(a:Int))-10).toNat=a:=by omega
  rw[H];have l:be w (w.alloc (A5 gA 9)):=(ah _ w).alloc (af _) _;have s:(w.alloc (A5 gA 9)).cell? ⟨w.heap.size,a,U⟩=S (M (dD gA a)):=by rw[aj _ _ _ _ _ _ (aB w _)];exact Ij ⟨a,I⟩
  obtain⟨b,h⟩:∃b,b=w.alloc (A5 gA 9):=⟨_,rfl⟩;rw[<-h]at s l;have u:A0 O 182 #[] w λd g=>d= Z (Br (S ⟨w.heap.size,0,U⟩) 22 22)/\b=g:=by rw[h];exact(vC w).mono λd g f=>⟨f.1,f.2.symm⟩
  clear h;go_in;go_wp2_with (go_at_call 182;refine u.mono ?_;rintro d w1 ⟨rfl,rfl⟩);go_ret;exact⟨rfl,l⟩
 .rw[aa A];obtain⟨b,h⟩:∃b,b=w.alloc (A5 gA 9):=⟨_,rfl⟩;have u:A0 O 182 #[] w λd g=>d= Z (Br (S ⟨w.heap.size,0,U⟩) 22 22)/\b=g:=by rw[h];exact(vC w).mono λd g f=>⟨f.1,f.2.symm⟩
  have l:be w b:=by rw[h];exact(ah _ w).alloc (af _) _
  clear h;obtain⟨k,n⟩:∃k,k=b.alloc (A5 FH 9):=⟨_,rfl⟩;have ak:A0 O 183 #[] b λd g=>d= Z (Br (S ⟨b.heap.size,0,U⟩) 30 30)/\k=g:=by rw[n];exact(Kv b).mono λd g f=>⟨f.1,f.2.symm⟩
  have G:k.heap[b.heap.size]?=S (A5 FH 9 (0,0)):=by rw[n];exact aB b _
  have F:be b k:=by rw[n];exact(ah _ b).alloc (af _) _
  clear n;obtain⟨C,q⟩:=aJ (ago c 30 0);rw[q];have B:=am q;clear q;have L:=l.size;rcases(show ¬10<=c\/(10<=c/\¬c<10+22) by omega) with E|⟨an,E⟩;all_goals
   go_in;go_wp2_with (first|(go_at_call 182;refine u.mono ?_;rintro d w1 ⟨rfl,rfl⟩)|(go_at_call 183;refine ak.mono ?_;rintro d ao ⟨rfl,rfl⟩));go_loopw [25] (λt wr=>∃a:Nat,a<=30/\t= Q R a/\C2 (ago c (30-a) a=C)/\wr.heap[b.heap.size]?=S (A5 FH 9 (0,0))/\be w wr) (λt _=>30-(B2 t).toNat)
   case atStart=>exact⟨0,by omega,rfl,B,G,l.trans (F.mono L)⟩
   case round=>
    obtain⟨a,y,rfl,v,r,p⟩:=hrel;have z:=p.size;by_cases K:a<30
    .have s:wr.cell? ⟨b.heap.size,a,U⟩=S (M (dD FH a)):=by rw[aj _ _ _ _ _ _ r];exact anm ⟨a,K⟩
     have e:=v.out;rw[show 30-a=(30-(a+1))+1 by omega]at e;unfold ago at e;have J:=ai r;generalize dD FH a=m at s e;by_cases i:Ku m=c
     .rw[ae i]at e;have j:=am e;have ad:(Ku m==c)=A2:=by simp[i]
      clear e i;go_wp2_with (go_at_call 184;refine(Du m _).mono ?_;rintro d al ⟨rfl,o⟩);go_ret;exact⟨by rw[<-j.out];rfl,p.trans (o.mono z)⟩
     .rw[aa i]at e;have j:=am e;have ad:(Ku m==c)=X:=by simp[i]
      clear e i;go_wp2_with (go_at_call 184;refine(Du m _).mono ?_;rintro d al ⟨rfl,o⟩);go_roundw
      case rel=>exact⟨a+1,by omega,by go_num,j,(o.block _ J).trans r,p.trans (o.mono z)⟩
      case measure=>simp[B2];omega
    .obtain rfl:a=30:=by omega
     have j:=am v.out;go_wp2;go_ret;exact⟨by rw[<-j.out];rfl,p⟩
open Go.Maps Go.WideMaps
def Bn(c:Int)(w:Ax):A0 O 189 #[Q .u8 c] w λe w'=>e= Z (.bool (cJ c))/\w=w':=by
 rcases(show c<48\/57<c\/(48<=c/\c<=57) by omega) with h|h|⟨d,b⟩
 .have e:cJ c=X:=by simp[cJ];omega
  rw[e];clear e;have a:¬48<=c:=by omega
  go_in;go_wp2;go_ret;exact⟨rfl,rfl⟩
 .have e:cJ c=X:=by simp[cJ];omega
  rw[e];clear e;have a:¬c<=57:=by omega
  have b:48<=c:=by omega
  go_in;go_wp2;go_ret;exact⟨rfl,rfl⟩
 .have e:cJ c=A2:=by simp[cJ];omega
  rw[e];clear e;go_in;go_wp2;go_ret;exact⟨rfl,rfl⟩
def qg(c:Int)(w:Ax):A0 O 191 #[Q .u8 c] w λe w'=>e= Z (.bool (cD c))/\w=w':=by
 rcases(show(97<=c/\c<=122)\/(65<=c/\c<=90)\/c=95\/c<65\/(90<c/\c<97/\c≠95)\/122<c by omega) with⟨f,g⟩|⟨f,g⟩|rfl|h|⟨f,g,k⟩|h
 .have e:cD c=A2:=by simp[cD];omega
  rw[e];clear e;go_in;go_wp2;go_ret;exact⟨rfl,rfl⟩
 .have e:cD c=A2:=by simp[cD];omega
  rw[e];clear e;have a:¬97<=c:=by omega
  go_in;go_wp2;go_ret;exact⟨rfl,rfl⟩
 .go_in;go_wp2;go_ret;exact⟨rfl,rfl⟩
 .have e:cD c=X:=by simp[cD];omega
  rw[e];clear e;have a:¬97<=c:=by omega
  have b:¬65<=c:=by omega
  have d:(c==95)=X:=by simp;omega
  go_in;go_wp2;go_ret;exact⟨rfl,rfl⟩
 .have e:cD c=X:=by simp[cD];omega
  rw[e];clear e;have a:¬97<=c:=by omega
  have b:65<=c:=by omega
  have i:¬c<=90:=by omega
  have d:(c==95)=X:=by simp;omega
  go_in;go_wp2;go_ret;exact⟨rfl,rfl⟩
 .have e:cD c=X:=by simp[cD];omega
  rw[e];clear e;have a:97<=c:=by omega
  have b:¬c<=122:=by omega
  have i:65<=c:=by omega
  have j:¬c<=90:=by omega
  have d:(c==95)=X:=by simp;omega
  go_in;go_wp2;go_ret;exact⟨rfl,rfl⟩
def lk(s:ByteArray)(p:Nat):Int:=if p<s.size then aA s p else 0
def amo(s:ByteArray)(p:Nat):0<=lk s p/\lk s p<256:=by
 unfold lk;split
 .rename_i a;exact oa a
 .omega
def aj3(s:ByteArray)(p:Nat):cD (lk s p)=cD (aA s p):=by
 unfold lk;split
 .rfl
 .rename_i a;rw[dJ a];decide
def qy(s:ByteArray)(p:Nat):cJ (lk s p)=cJ (aA s p):=by
 unfold lk;split
 .rfl
 .rename_i a;rw[dJ a];decide
def Dv(s:ByteArray)(d:s.size<=1100000)(p:Nat)(w:Ax):A0 O 266 #[M s,Q R p] w λe w'=>e= Z (Q .u8 (lk s p))/\w=w':=by
 unfold lk;by_cases a:p<s.size
 .rw[ae a];have b:=λw=>fL a w;generalize aA s p=c at b;go_in;go_wp2;go_ret;exact⟨rfl,rfl⟩
 .rw[aa a];go_in;go_wp2;go_ret;exact⟨rfl,rfl⟩
def rv(s:ByteArray):Nat->Nat->Nat
 |0,p=>p
 |f+1,p=>if cD (aA s p)=A2\/cJ (aA s p)=A2 then rv s f (p+1) else p
def Ik{s:ByteArray}{p:Nat}(h:¬p<s.size):¬(cD (aA s p)=A2\/cJ (aA s p)=A2):=by
 rw[dJ h];decide
def ya(s:ByteArray):∀(f p:Nat),p<=s.size->p<=rv s f p/\rv s f p<=s.size
 |0,p,h=>⟨af _,h⟩
 |f+1,p,h=>by
  unfold rv;split
  .rename_i a;have b:p<s.size:=by
    rcases bI p s.size with h1|h1
    .exact h1
    .exact absurd a (Ik (by omega))
   have:=ya s f (p+1) (by omega);omega
  .exact⟨af _,h⟩
def Bo(s:ByteArray)(B:s.size<=1100000)(p:Nat)(x:p<=s.size)(w:Ax):A0 O 235 #[M s,Q R p] w (kL w (Q R (rv s (s.size+1) p))):=by
 have⟨u,o⟩:=aJ (rv s (s.size+1) p);rw[o];have t:=am o;go_in;go_wp21
 go_loop [1] (λn=>∃(b c:Nat),b<=s.size/\s.size<b+c/\n= Q R b/\C2 (rv s c b=u)) (λn=>s.size-(B2 n).toNat)
 case atStart=>exact⟨p,s.size+1,x,by omega,rfl,t⟩
 case round=>
  obtain⟨b,c,A,z,rfl,r⟩:=hrel;obtain⟨c,rfl⟩:∃v,c=v+1:=⟨c-1,by omega⟩;have a:=r.out;unfold rv at a;by_cases q:b<s.size
  .have y:=λw=>fL q w;generalize aA s b=e at y a;have f:=λw=>qf e w;have j:=λw=>lD e w;by_cases h:cD e=A2
   .rw[ae (.inl h)]at a;have d:=am a;rw[h]at f;go_wp2_with (go_at_call 194;refine(f _).mono ?_;rintro g k ⟨rfl,rfl⟩);go_round
    case rel=>exact⟨b+1,c,by omega,by omega,by go_num,d⟩
    case measure=>simp[B2];omega
   .have l:cD e=X:=by simpa using h
    rw[l]at f;by_cases i:cJ e=A2
    .rw[ae (.inr i)]at a;have d:=am a;rw[i]at j;go_wp2_with (first|(go_at_call 194;refine(f _).mono ?_;rintro g k ⟨rfl,rfl⟩)|(go_at_call 196;refine(j _).mono ?_;rintro g k ⟨rfl,rfl⟩));go_round
     case rel=>exact⟨b+1,c,by omega,by omega,by go_num,d⟩
     case measure=>simp[B2];omega
    .have m:cJ e=X:=by simpa using i
     rw[aa (by rw[l,m];simp)]at a;have d:=am a;clear a;rw[m]at j;clear h l i m;go_wp2_with (first|(go_at_call 194;refine(f _).mono ?_;rintro g k ⟨rfl,rfl⟩)|(go_at_call 196;refine(j _).mono ?_;rintro g k ⟨rfl,rfl⟩));go_ret;exact⟨by rw[<-d.out];rfl,rfl⟩
  .rw[aa (Ik q)]at a;have d:=am a;go_wp2;go_ret;exact⟨by rw[<-d.out];rfl,rfl⟩
def uk(s:ByteArray):Bool:=(xr gA s 22 0).isSome
def yc(k:Nat):dD gA k=nh k:=rfl
def vE(V:Array B0)(s:ByteArray):∀(f k j:Nat),xr V s f k=S j->k<=j/\j<k+f/\(dD V j).toList=s.toList
 |0,k,j,h=>by simp[xr]at h
 |f+1,k,j,h=>by
  unfold xr at h;split at h
  .rename_i a;obtain rfl:=bz h;exact⟨af _,by omega,by simpa using a⟩
  .have:=vE V s f (k+1) j h;exact⟨by omega,by omega,this.2.2⟩
def Kw(V:Array B0)(s:ByteArray):∀(f k:Nat),xr V s f k=U->∀j,k<=j->j<k+f->(dD V j).toList≠s.toList
 |0,k,h=>λj a b=>by omega
 |f+1,k,h=>λj a b=>by
  unfold xr at h;split at h
  .cases h
  .rename_i c;rcases jz a with rfl|h3
   .simpa using c
   .exact Kw V s f (k+1) h j h3 (by omega)
def Dw{H:Type}:∀n,IsMap (Ai (H:=H) n)
 |0=>isMap_empty
 |n+1=>(Dw n).put _ _
def ac1{H:Type}(l:List UInt8):∀n,(∀j,j<n->(nh j).data.toList≠l)->Maps.has (Ai (H:=H) n) (.string l)=X
 |0,_=>rfl
 |n+1,h=>by
  show Maps.has ((Ai n).put _ _) _=X;rw[has_put_other (by intro e;exact h n (by omega) (by injection e with e;exact e.symm))];exact ac1 l n λj a=>h j (by omega)
def ac2{H:Type}(l:List UInt8)(j:Nat)(b:(nh j).data.toList=l):∀n,j<n->Maps.has (Ai (H:=H) n) (.string l)=A2
 |0,h=>by omega
 |n+1,h=>by
  show Maps.has ((Ai n).put _ _) _=A2;by_cases e:(nh n).data.toList=l
  .rw[e];exact has_put_same (Dw n) (by trivial) _
  .rw[has_put_other (by intro a;injection a with a;exact e a.symm)];rcases jz (Nat.le_of_lt_succ h) with rfl|h3
   .exact absurd b e
   .exact ac2 l j b n h3
def Kx{H:Type}(s:ByteArray):Maps.has (Ai (H:=H) 22) (.string s.data.toList)=uk s:=by
 unfold uk;cases h:xr gA s 22 0 with
 |none=>
  have:=Kw gA s 22 0 h;exact ac1 _ 22 λd g c=>this d (aH _) (by omega) (by rw[yc,ja,ja];exact c)
 |some b=>
  have⟨e,f,a⟩:=vE gA s 22 0 b h;rw[yc,ja,ja]at a;exact ac2 _ b a 22 (by omega)
def aj4:∀i j:Fin 22,i≠j->(nh i.val).data.toList≠(nh j.val).data.toList:=by decide+kernel
def Gs{H:Type}(j:Nat):∀n,n<=22->j<n->(Ai (H:=H) n).atKey (.string (nh j).data.toList) (.lit (.int .i64 0))= .lit (.int .i64 (10+(j:Int)))
 |0,_,h=>by omega
 |n+1,c,h=>by
  show((Ai n).put _ _).atKey _ _=_;by_cases e:n=j
  .subst e;exact atKey_put_same (Dw n) (by trivial) _ _
  .rw[atKey_put_other (by intro a;injection a with a;exact aj4 ⟨j,by omega⟩ ⟨n,by omega⟩ (by intro b;injection b with b;exact e b.symm) a)];exact Gs j n (by omega) (by omega)
def apF{H:Type}(k:Fin 22):(Ai (H:=H) 22).atKey (.string (nh k.val).data.toList) (.lit (.int .i64 0))= .lit (.int .i64 (10+(k.val:Int))):=Gs k.val 22 (by omega) k.isLt
def aj5{H:Type}(s:ByteArray)(k:Nat)(h:xr gA s 22 0=S k):(Ai (H:=H) 22).atKey (.string s.data.toList) (.lit (.int .i64 0))= .lit (.int .i64 (10+(k:Int))):=by
 have⟨b,c,a⟩:=vE gA s 22 0 k h;rw[yc,ja,ja]at a;rw[<-a];exact apF ⟨k,by omega⟩
def aa9{H:Type}(s:ByteArray)(u:s.size<=1100000)(b:Nat)(w:Ax)(x:w.ownsMap O 9 (plainElem (H:=H) O 3) b 22 (Ai 22)):A0 O 252 #[.string s,.map (S b)] w (kL w (.bool (decide (cD (aA s 0)=A2/\rv s (s.size+1) 0=s.size/\uk s=X)))):=by
 have r:keyOf O 9 (.string s)=S (.string s.data.toList):=keyOf_string_mk underlying9 (by unfold maxLen;omega);by_cases m:0<s.size
 .have v:(s.toList==[])=X:=by
   have:s.toList.length=s.size:=by rw[ja];simp
   cases hs:s.toList with
   |nil=>rw[hs]at this;simp at this;omega
   |cons z E=>rfl
  have y:∀w,(Instr.index 9 (.string s) (.int .i64 0)).run O w= .ok (.int .u8 (aA s 0)) w:=λw=>fL m w;have d:=λw=>qf (aA s 0) w;have p:=ya s (s.size+1) 0 (by omega);have i:=λw=>Bo s u 0 (by omega) w;generalize aA s 0=e at y d;generalize rv s (s.size+1) 0=h at i p;by_cases c:cD e=A2
  .rw[c]at d;by_cases n:h=s.size
   .subst n;have t:¬(s.size:Int)<(s.size:Int):=by omega
    have⟨j,l⟩:=aJ (uk s);have q:Maps.has (Ai (H:=H) 22) (.string s.data.toList)=j:=by rw[Kx,l]
    have a:decide (cD e=A2/\s.size=s.size/\uk s=X)=!j:=by rw[c,l];cases j<;>simp
    rw[a];clear a l c;go_in;go_wp2_with (first|(go_at_call 194;refine(d _).mono ?_;rintro f g ⟨rfl,rfl⟩)|(go_at_call 235;refine(i _).mono ?_;rintro f g ⟨rfl,rfl⟩)|(at_lookup;refine wpList_lookup_own_ok_int _ rfl _ _ 90 rfl 9 3 .i64 ajK underlying90 underlying3 (by kernel_rfl) b 22 _ rfl x _ _ rfl r ?_;intro A B C;rw[q]));go_ret;exact⟨rfl,rfl⟩
   .have t:(h:Int)<(s.size:Int):=by omega
    have a:decide (cD e=A2/\h=s.size/\uk s=X)=X:=by simp[n]
    rw[a];clear a c;go_in;go_wp2_with (first|(go_at_call 194;refine(d _).mono ?_;rintro f g ⟨rfl,rfl⟩)|(go_at_call 235;refine(i _).mono ?_;rintro f g ⟨rfl,rfl⟩));go_ret;exact⟨rfl,rfl⟩
  .have k:cD e=X:=by simpa using c
   rw[k]at d;have a:decide (cD e=A2/\h=s.size/\uk s=X)=X:=by simp[k]
   rw[a];clear a c k;go_in;go_wp2_with (first|(go_at_call 194;refine(d _).mono ?_;rintro f g ⟨rfl,rfl⟩)|(go_at_call 235;refine(i _).mono ?_;rintro f g ⟨rfl,rfl⟩));go_ret;exact⟨rfl,rfl⟩
 .have o:s.toList=[]:=by
   have:s.toList.length=s.size:=by rw[ja];simp
   exact List.length_eq_zero_iff.1 (by omega)
  have v:(s.toList==[])=A2:=by rw[o];rfl
  have a:decide (cD (aA s 0)=A2/\rv s (s.size+1) 0=s.size/\uk s=X)=X:=by rw[dJ m];simp[cD]
  rw[a];clear a o;go_in;go_wp2;go_ret;exact⟨rfl,rfl⟩
def wdT(s:ByteArray)(p:Nat):B0:=
 match xr gA (s.extract p (rv s (s.size+1) p)) 22 0 with
 |some a=> Ck #[Q R (10+(a:Int)),Q R p,Q R (rv s (s.size+1) p),Q R 0,Q R 0,M ⟨#[]⟩]
 |none=> Ck #[Q R 1,Q R p,Q R (rv s (s.size+1) p),Q R 0,Q R 0,M (s.extract p (rv s (s.size+1) p))]
def aba(s:ByteArray)(bo:s.size<=1100000)(p:Nat)(al:p<=s.size)(w:Ax):A0 O 232 #[M s,Ck #[Q R 0,Q R p,Q R 0,Q R 0,Q R 0,M ⟨#[]⟩]] w (gy w (A9 #[wdT s p,Q R (-1)])):=by
 unfold wdT;have⟨H,L⟩:=aJ (rv s (s.size+1) p);have ba:=ya s (s.size+1) p al;rw[L]at ba⊢;have I:=am L;have⟨a8,ad⟩:=aJ (xr gA (s.extract p H) 22 0);rw[ad];have a6:=am ad;go_in;go_wp21
 generalize bh:(w.alloc _).alloc _=o;obtain⟨a,a9,J, -⟩:=If bh;have F:gg w.heap.size o 0 p 0 0 0 ⟨#[]⟩:=a;have ak:gg (w.heap.size+1) o 0 0 0 0 0 ⟨#[]⟩:=a9;go_loop [6] (λj=>∃(b g:Nat),b<=s.size/\s.size<b+g/\j= Q R b/\C2 (rv s g b=H)) (λj=>s.size-(B2 j).toNat)
 case atStart=>exact⟨p,s.size+1,al,by omega,rfl,I⟩
 case round=>
  obtain⟨b,g,bt,br,rfl,m⟩:=hrel;obtain⟨g,rfl⟩:∃bb,g=bb+1:=⟨g-1,by omega⟩;have c:=m.out;unfold rv at c;have t:=λw=>Dv s bo b w;have e:=λw=>qg (lk s b) w;have h:=λw=>Bn (lk s b) w;have i:cD (aA s b)=A2\/cJ (aA s b)=A2->b<s.size:=by
   intro bc;rcases bI b s.size with h1|h1
   .exact h1
   .exact absurd bc (Ik (by omega))
  rw[aj3]at e;rw[qy]at h;generalize lk s b=bp at t e h;generalize aA s b=x at c e h i;by_cases h1:cD x=A2
  .rw[ae (.inl h1)]at c;have n:=am c;have bn:=i (.inl h1);rw[h1]at e;go_wp2_with (first|(go_at_call 266;refine(t _).mono ?_;rintro f k ⟨rfl,rfl⟩)|(go_at_call 191;refine(e _).mono ?_;rintro f k ⟨rfl,rfl⟩));go_round
   case rel=>exact⟨b+1,g,by omega,by omega,by go_num,n⟩
   case measure=>simp[B2];omega
  .have y:cD x=X:=by simpa using h1
   rw[y]at e;by_cases l:cJ x=A2
   .rw[ae (.inr l)]at c;have n:=am c;have bn:=i (.inr l);clear c i;rw[l]at h;clear h1 y l;go_wp2_with (first|(go_at_call 266;refine(t _).mono ?_;rintro f k ⟨rfl,rfl⟩)|(go_at_call 191;refine(e _).mono ?_;rintro f k ⟨rfl,rfl⟩)|(go_at_call 189;refine(h _).mono ?_;rintro f k ⟨rfl,rfl⟩));go_round
    case rel=>exact⟨b+1,g,by omega,by omega,by go_num,n⟩
    case measure=>simp[B2];omega
   .have E:cJ x=X:=by simpa using l
    rw[aa (by rw[y,E];simp)]at c;rw[E]at h;clear h1 y l E i m I;subst c;obtain⟨an,ao,ap,ar,au,av,ax⟩:=db F;have A:=(F.setKind 1).setTo (b:Int);have B:=(ak.other (a:=⟨w.heap.size,0,U⟩) (by simp) (Q R 1)).other (a:=⟨w.heap.size,2,U⟩) (by simp) (Q R (b:Int));have z:be w ((o.setCell ⟨w.heap.size,0,U⟩ (Q R 1)).setCell ⟨w.heap.size,2,U⟩ (Q R (b:Int))):=(J.setCell (by simp) _).setCell (by simp) _;obtain⟨q,G⟩:=aJ ((o.setCell ⟨w.heap.size,0,U⟩ (Q R 1)).setCell ⟨w.heap.size,2,U⟩ (Q R (b:Int)));rw[G]at A B z;have a7:=am G;clear G;go_wp2_with (first|(go_at_call 266;refine(t _).mono ?_;rintro f k ⟨rfl,rfl⟩)|(go_at_call 191;refine(e _).mono ?_;rintro f k ⟨rfl,rfl⟩)|(go_at_call 189;refine(h _).mono ?_;rintro f k ⟨rfl,rfl⟩));rw[show(o.setCell ⟨w.heap.size,0,U⟩ (Q R 1)).setCell ⟨w.heap.size,2,U⟩ (Q R (b:Int))=q from a7.out];refine(vC q).mono ?_;rintro f u ⟨rfl,r⟩;have bf:gg w.heap.size u 1 p b 0 0 ⟨#[]⟩:=by rw[r];exact(fp _ _ _ (ai A)).trans A
    have bj:gg (w.heap.size+1) u 0 0 0 0 0 ⟨#[]⟩:=by rw[r];exact(fp _ _ _ (ai B)).trans B
    have K:be w u:=by rw[r];exact z.alloc z.size _
    have bk:u.heap[q.heap.size]?=S (A5 gA 9 (0,0)):=by rw[r];exact aB q _
    clear r A B z F ak J an ao ap ar au av ax t e h;go_wp21
    obtain⟨an,ao,ap,ar,au,av,ax⟩:=db bf;obtain⟨z0,a1,a2,a3,a4,a5,bw⟩:=db bj;go_loop [34] (λj=>∃d:Nat,d<=22/\j= Q R d/\C2 (xr gA (s.extract p b) (22-d) d=a8)) (λj=>22-(B2 j).toNat)
    case atStart=>exact⟨0,by omega,rfl,a6⟩
    case round=>
     obtain⟨d,bs,rfl,m⟩:=hrel;by_cases i:d<22
     .have bl:u.cell? ⟨q.heap.size,d,U⟩=S (M (dD gA d)):=by rw[aj _ _ _ _ _ _ bk];exact Ij ⟨d,i⟩
      have c:=m.out;rw[show 22-d=(22-(d+1))+1 by omega]at c;unfold xr at c;generalize dD gA d=a0 at bl c;by_cases C:(a0.toList==(s.extract p b).toList)=A2
      .rw[ae C]at c;subst c;go_wp2;refine bH (v:= A9 #[Ck #[Q R (10+(d:Int)),Q R p,Q R b,Q R 0,Q R 0,M ⟨#[]⟩],Q R (-1)]) (by simp[results,results232,go_sem,z0,a1,a2,a3,a4,a5]) rfl ⟨rfl,?_⟩
       iterate 7 refine ll ?_ (by simp) _
       exact K
      .rw[aa C]at c;have n:=am c;have bv:(a0.toList==(s.extract p b).toList)=X:=by simpa using C
       clear c C;go_wp2;go_round
       case rel=>exact⟨d+1,by omega,by go_num,n⟩
       case measure=>simp[B2];omega
     .obtain rfl:d=22:=by omega
      have c:=m.out;simp only[fH,xr]at c;subst c;go_wp2;refine bH (v:= A9 #[Ck #[Q R 1,Q R p,Q R b,Q R 0,Q R 0,M (s.extract p b)],Q R (-1)]) (by simp[results,results232,go_sem,z0,a1,a2,a3,a4,a5]) rfl ⟨rfl,?_⟩
      iterate 7 refine ll ?_ (by simp) _
      exact K
def oD{c:Int}(h:cD c=A2):65<=c/\c<=122:=by simp[cD]at h;omega
def kF{c:Int}(h:cJ c=A2):48<=c/\c<=57:=by simpa [cJ] using h
def agp(s:ByteArray)(p:Nat):∃(k:Int) (x:ByteArray),wdT s p= Ck #[Q R k,Q R p,Q R (rv s (s.size+1) p),Q R 0,Q R 0,M x]/\((k==1)=!(uk (s.extract p (rv s (s.size+1) p)))):=by
 unfold wdT uk;cases h:xr gA (s.extract p (rv s (s.size+1) p)) 22 0 with
 |none=>exact⟨1,_,rfl,rfl⟩
 |some k=>exact⟨10+(k:Int),_,rfl,by simp;omega⟩
def Ky(s:ByteArray)(t:s.size<=1100000)(p:Nat)(f:p<s.size)(e:cD (aA s p)=A2)(w:Ax):A0 O 190 #[M s,Q R p] w (gy w (A9 #[wdT s p,Q R (-1)])):=by
 have x:=λw=>fL f w;have a:=λw=>qg (aA s p) w;have b:=λw=>aba s t p (iA f) w;have u:=oD e;rw[e]at a;generalize aA s p=j at x a u;have⟨y,A,n,r⟩:=agp s p;rw[n]at b⊢;generalize rv s (s.size+1) p=g at b r;have H:(j==10)=X:=by simp;omega
 go_in;go_wp2_with (first|(go_at_call 191;refine(a _).mono ?_;rintro k K ⟨rfl,rfl⟩));generalize o:(w.alloc _).alloc _=h;obtain⟨i, -,l,I⟩:=If o;have q:gg w.heap.size h 0 0 0 0 0 ⟨#[]⟩:=i;refine(b _).mono ?_;rintro k z ⟨rfl,d⟩;have c:=q.below d (by omega);have m:=l.trans (d.mono (by omega));have⟨z0,B,C,E,F,G,L⟩:=db c;have J:w.heap.size<z.heap.size:=ai c;go_wp2;refine bH (v:= A9 #[Ck #[Q R y,Q R p,Q R g,Q R 0,Q R 0,M A],Q R (-1)]) (by simp[results,results190,go_sem,z0,B,C,E,F,G]) rfl ⟨rfl,?_⟩
 iterate 6 refine ll ?_ (by simp) _
 exact m
def nB(s:ByteArray):s.extract 0 s.size=s:=by
 simp
def jf(s:ByteArray):Bool:=decide (s.size<=40/\cD (aA s 0)=A2/\rv s (s.size+1) 0=s.size/\uk s=X)
def yH(s:ByteArray)(u:s.size<=1100000)(w:Ax):A0 O 144 #[M s] w (gy w (.bool (jf s))):=by
 unfold jf;by_cases h:0<s.size
 .have v:((s.size:Int)==0)=X:=by rw[eJ];omega
  by_cases l:s.size<=40
  .have x:¬(40:Int)<(s.size:Int):=by omega
   have q:∀w,(Instr.index 9 (M s) (Q R 0)).run O w= .ok (Q .u8 (aA s 0)) w:=λw=>fL h w;have a:=λw=>qg (aA s 0) w;by_cases b:cD (aA s 0)=A2
   .have f:∀w,A0 O 190 #[M s,Q R 0] w (gy w (A9 #[wdT s 0,Q R (-1)])):=λw=>Ky s u 0 h b w;rw[b]at a;have⟨j,z,n,e⟩:=agp s 0;rw[n]at f;generalize rv s (s.size+1) 0=g at f e;generalize aA s 0=k at q a b;have p:decide (s.size<=40/\cD k=A2/\g=s.size/\uk s=X)=((j==1)&&((g:Int)==(s.size:Int))):=by
     by_cases m:g=s.size
     .subst m;rw[nB]at e;rw[e,b];simp[l]
     .simp[m];intro _;omega
    rw[p];clear p e n b;by_cases i:j=1
    .subst i;go_in;go_wp2_with (first|(go_at_call 191;refine(a _).mono ?_;rintro d r ⟨rfl,rfl⟩)|(go_at_call 190;refine(f _).mono ?_;rintro d y ⟨rfl,c⟩));go_ret;exact⟨by simp,c.alloc c.size _⟩
    .have t:(j==1)=X:=by simp[i]
     clear i;go_in;go_wp2_with (first|(go_at_call 191;refine(a _).mono ?_;rintro d r ⟨rfl,rfl⟩)|(go_at_call 190;refine(f _).mono ?_;rintro d y ⟨rfl,c⟩));go_ret;exact⟨by simp[t],c.alloc c.size _⟩
   .have o:cD (aA s 0)=X:=by simpa using b
    rw[show decide (s.size<=40/\cD (aA s 0)=A2/\rv s (s.size+1) 0=s.size/\uk s=X)=X by simp[o]];rw[o]at a;generalize aA s 0=k at q a;go_in;go_wp2_with (first|(go_at_call 191;refine(a _).mono ?_;rintro d r ⟨rfl,rfl⟩));go_ret;exact⟨rfl,ah _ _⟩
  .have x:(40:Int)<(s.size:Int):=by omega
   rw[show decide (s.size<=40/\cD (aA s 0)=A2/\rv s (s.size+1) 0=s.size/\uk s=X)=X by simp[l]];go_in;go_wp2;go_ret;exact⟨rfl,ah _ _⟩
 .have v:((s.size:Int)==0)=A2:=by rw[mj];omega
  rw[show decide (s.size<=40/\cD (aA s 0)=A2/\rv s (s.size+1) 0=s.size/\uk s=X)=X by rw[dJ h];simp[cD]];go_in;go_wp2;go_ret;exact⟨rfl,ah _ _⟩
def ndD:Nd:=⟨0,0,0,0,0,0,B4,[],[]⟩
def ab(ns:List Nd)(i:Int):Nd:=ns.getD i.toNat ndD
open Go.ChangeShapes Go.WideShapes Go.ChangeAt Go.WideElems Go.Deep
structure ac3 (N:Nd):Prop where
 k: -9223372036854775808<=N.k/\N.k<=9223372036854775807
 f: -9223372036854775808<=N.f/\N.f<=9223372036854775807
 t: -9223372036854775808<=N.t/\N.t<=9223372036854775807
 l: -9223372036854775808<=N.l/\N.l<=9223372036854775807
 op: -9223372036854775808<=N.op/\N.op<=9223372036854775807
 n: -9223372036854775808<=N.n/\N.n<=9223372036854775807
 ks:∀z∈N.ks, -9223372036854775808<=z/\z<=9223372036854775807
end Go.Proofs.YthboboahkkhopaaGreatDoor
namespace Go.Proofs.YthboboahkkhopaaGreatDoor
open Go.RowKit Go.Maps Go.WideMaps
def ano(s:ByteArray):ByteArray:=eD (dA s)
def abb(x:List Int):(eD x).size=x.length:=by
 have d:∀(x:List Int)(a:ByteArray),(x.foldl (λb e=>b.push (UInt8.ofNat e.toNat)) a).size=a.size+x.length:=by
  intro x
  induction x with
  |nil=>intro a;rfl
  |cons f b c=>intro a;show(b.foldl _ (a.push _)).size=_;rw[c];simp;omega
 have:=d x B4;unfold eD;rw[this];simp
def aez(s:ByteArray):(ano s).size<=2+4*s.size:=by
 unfold ano;rw[abb];unfold dA;have:=Dm s s.size (af _);simp;omega
abbrev BuF(B b:Nat)(a:List B0)(w:Ax):Prop:=Lib.IsBuilderF 241 5 B b a w
abbrev BuA(B b:Nat)(a:List B0)(w:Ax):Prop:=Lib.BuilderAtF 241 5 B b (Y (S ⟨b,0,U⟩)) a w
def uI(b:Nat)(w:Ax)(g:w.cell? ⟨b,0,U⟩=S (Y U))(d:w.shape? b=S (241,2))(h:w.frozen? ⟨b,0,U⟩=X):
  A0 O 255 #[Y (S ⟨b,0,U⟩)] w λe w'=>e= Z (A9 #[])/\w'=w.setCell ⟨b,0,U⟩ (Y (S ⟨b,0,U⟩)):=by
 have⟨i,c,f⟩:=Option.map_eq_some_iff.1 (show(Tryz.prog.info? 241).map (·.size)=S 2 by kernel_rfl);have j:=Lib.run_to_unsafe (P:=O) (w:=w) ⟨b,0,U⟩ underlying239 underlying285 c (by rw[f];decide) d (Nat.zero_lt_succ 1);have k:=Lib.run_from_unsafe (P:=O) (w:=w) ⟨b,0,U⟩ underlying285 underlying239 c d (by kernel_rfl);have l:∀a,(callFunc 277 #[a]).run O w= .ok (.value a) w:=λa=>by
  rw[acy func277 (by kernel_rfl) (by kernel_rfl) (by kernel_rfl) (e:=Extern.AbiNoEscape.same) (by kernel_rfl),Lib.run_noEscape];rfl
 go_in;go_wp2;go_end0
 exact⟨rfl,rfl⟩
def Dx(b:Nat)(w:Ax)(c:w.cell? ⟨b,0,U⟩=S (Y (S ⟨b,0,U⟩)))(f:w.shape? b=S (241,2)):
  A0 O 255 #[Y (S ⟨b,0,U⟩)] w λe w'=>e= Z (A9 #[])/\w'=w:=by
 have⟨g,a,d⟩:=Option.map_eq_some_iff.1 (show(Tryz.prog.info? 241).map (·.size)=S 2 by kernel_rfl);have h:=Lib.run_neq_ptr_same (P:=O) w ⟨b,0,U⟩ underlying239 a;go_in;go_wp2;go_end0
 exact⟨rfl,rfl⟩
def FI(B b:Nat)(a:List B0)(w:Ax)(h:BuF B b a w):
  A0 O 255 #[Y (S ⟨b,0,U⟩)] w λe w'=>e= Z (A9 #[])/\BuA B b a w'/\B6 B w w':=by
 rcases h with h|h
 .refine(uI b w h.cell0 h.shape h.frozen0).mono ?_;rintro e w' ⟨rfl,rfl⟩;exact⟨rfl,h.used _,(ah B w).setCell (p:=⟨b,0,U⟩) h.1 _⟩
 .refine(Dx b w h.cell0 h.shape).mono ?_;rintro e w' ⟨rfl,rfl⟩;exact⟨rfl,h,ah B _⟩
def BJ(B b:Nat)(a:List B0)(s:ByteArray)(w:Ax)(h:BuF B b a w)(an:a.length+s.size<=140737488355328)(al:B<=w.heap.size):
  A0 O 222 #[Y (S ⟨b,0,U⟩),M s] w λe w'=>e= Z (A9 #[Q R s.size,E0])/\BuA B b (a++Lib.strCells s) w'/\B6 B w w':=by
 have⟨F,v,A,C,E⟩:=eu (show(Tryz.prog.info? 5).map (λi=>(i.zero,i.size,i.bytes))=S (S (Q .u8 0),1,1) by kernel_rfl);go_in;go_wp2_with (go_at_call 255;refine(FI B b a _ h).mono ?_);rintro e w1 ⟨rfl,u,m⟩;obtain⟨l,j,f,o,z⟩:=u;have I:w1.cell? ⟨b,1,U⟩=S j:=by rw[Lib.cell_of_heap f];rfl
 have ap:=m.size;go_wp2_with (at_builtin;refine Lib.wpList_append_own_stringF _ rfl _ _ 22 9 rfl B 5 F underlying22 underlying9 v A C E _ _ _ rfl o s rfl (by unfold maxLen;omega) (by omega) (by omega) ?_);intro H t q n _;have y:=ai f;have d:t.heap[b]?=S (A5 #[Y (S ⟨b,0,U⟩),j] 241 (0,0)):=by
  rw[n.block b y (λe=>z e.symm)];exact f
 have K:t.cell? ⟨b,1,U⟩=S j:=by rw[Lib.cell_of_heap d];rfl
 have L:=Lib.frozen_of_heap d 1;obtain⟨k,r,c,rfl⟩:∃k r c,H= Br k r c:=by
  rcases q.2 with⟨g,_⟩|⟨ak,c,J,ad,g,_⟩
  .exact⟨_,_,_,g⟩
  .exact⟨_,_,_,g⟩
 go_wp2;go_ret2;refine⟨rfl,?_,?_⟩
 .exact Lib.BuilderAtF.put (T:=241) (e:=5) l d (bs':=a++Lib.strCells s) (by simpa [Lib.strCells_length] using q) (by decide)
 .exact(m.grown n (by omega) (λG x=>(o.lt G x).1)).setCell (p:=⟨b,1,U⟩) l _
end Go.Proofs.YthboboahkkhopaaGreatDoor
namespace Go.Proofs
open Go.Shelf
def Tryz.lays170_ren:B3:=⟨λ|170=>223|n=>n,λ|70=>239|3=>3|0=>0|72=>241|37=>22|5=>5|n=>n,λ|n=>n⟩
def Tryz.lays170:Go.Proofs.Lays.n170 O Tryz.lays170_ren:={
 mixed:=by kernel_rfl
 f170:=Tryz.func223.trans (congrArg S (by kernel_rfl))
 t0:=underlying0
 a0:=isAgg0
 z0:=sizeOf0
 v0:=zeroValue0
 t3:=underlying3
 a3:=Ce
 z3:=B7
 v3:=zeroValue3
 t37:=underlying22
 a37:=isAgg22
 z37:=sizeOf22
 v37:=zeroValue22
 t70:=underlying239
 a70:=isAgg239
 z70:=sizeOf239
 v70:=zeroValue239
 t72:=underlying241
 a72:=isAgg241
 z72:=sizeOf241
 v72:=zeroValue241}
def Tryz.lays169_ren:B3:=⟨λ|169=>224|n=>n,λ|70=>239|9=>9|0=>0|72=>241|37=>22|127=>204|3=>3|5=>5|n=>n,λ|n=>n⟩
def Tryz.lays169:Go.Proofs.Lays.n169 O Tryz.lays169_ren:={
 mixed:=by kernel_rfl
 f169:=Tryz.func224.trans (congrArg S (by kernel_rfl))
 t0:=underlying0
 a0:=isAgg0
 z0:=sizeOf0
 v0:=zeroValue0
 t3:=underlying3
 a3:=Ce
 z3:=B7
 v3:=zeroValue3
 t9:=underlying9
 a9:=isAgg9
 z9:=sizeOf9
 v9:=zeroValue9
 t37:=underlying22
 a37:=isAgg22
 z37:=sizeOf22
 v37:=zeroValue22
 t70:=underlying239
 a70:=isAgg239
 z70:=sizeOf239
 v70:=zeroValue239
 t72:=underlying241
 a72:=isAgg241
 z72:=sizeOf241
 v72:=zeroValue241
 t127:=underlying204
 a127:=isAgg204
 z127:=sizeOf204
 v127:=zeroValue204}
def Tryz.Builder_Extra_169:Builder.Extra O Tryz.lays169_ren:={
 sizeBuilder:=by kernel_rfl
 liesBuilder:=by kernel_rfl
 t5:=underlying5
 a5:=isAgg5
 z5:=sizeOf5
 v5:=zeroValue5
 infoByte:=by kernel_rfl
 cellsByte:=by kernel_rfl
 sizeByte:=by kernel_rfl
 neB5:=by decide}
def Tryz.lays241_ren:B3:=⟨λ|241=>256|277=>278|n=>n,λ|70=>239|3=>3|0=>0|72=>241|37=>22|5=>5|n=>n,λ|n=>n⟩
def Tryz.lays241:Go.Proofs.Lays.n241 O Tryz.lays241_ren:={
 mixed:=by kernel_rfl
 f241:=Tryz.func256.trans (congrArg S (by kernel_rfl))
 f277:=Tryz.func278.trans (congrArg S (by kernel_rfl))
 t0:=underlying0
 a0:=isAgg0
 z0:=sizeOf0
 v0:=zeroValue0
 t3:=underlying3
 a3:=Ce
 z3:=B7
 v3:=zeroValue3
 t37:=underlying22
 a37:=isAgg22
 z37:=sizeOf22
 v37:=zeroValue22
 t70:=underlying239
 a70:=isAgg239
 z70:=sizeOf239
 v70:=zeroValue239
 t72:=underlying241
 a72:=isAgg241
 z72:=sizeOf241
 v72:=zeroValue241}
def Tryz.Builder_Extra_241:Builder.Extra O Tryz.lays241_ren:={
 sizeBuilder:=by kernel_rfl
 liesBuilder:=by kernel_rfl
 t5:=underlying5
 a5:=isAgg5
 z5:=sizeOf5
 v5:=zeroValue5
 infoByte:=by kernel_rfl
 cellsByte:=by kernel_rfl
 sizeByte:=by kernel_rfl
 neB5:=by decide}
open Go.RowKit in
def Tryz.Builder_grow_fresh(B b n:Nat)(w:Ax)(a:B<=b)(d:w.heap[b]?=S (A5 #[Y (S ⟨b,0,U⟩),Br U 0 0] 241 (0,0)))(c:B<=w.heap.size)(f:n<=281474976710656):
  A0 O 256 #[Y (S ⟨b,0,U⟩),Q R n] w λe w'=>e= Z (A9 #[])/\(Lib.BuilderAt 241 5 B b (Y (S ⟨b,0,U⟩)) [] w'/\B6 B w w'):=Any.Builder_grow_fresh Tryz.lays241 Tryz.Builder_Extra_241 B b n w a d c f
open Go.RowKit in
def Tryz.Builder_Len_f(B b:Nat)(a:List B0)(w:Ax)(h:Lib.IsBuilderF 241 5 B b a w):
  A0 O 223 #[Y (S ⟨b,0,U⟩)] w λe w'=>e= Z (Q R a.length)/\w'=w:=Any.Builder_Len_f Tryz.lays170 B b a w h
open Go.RowKit in
def Tryz.Builder_String_any_k(B b:Nat)(l:List UInt8)(w:Ax)(h:Lib.IsBuilderF 241 5 B b (Lib.byteCells l) w)(a:B<=w.heap.size):
  A0 O 224 #[Y (S ⟨b,0,U⟩)] w λe w'=>e= Z (M ⟨l.toArray⟩)/\(Lib.IsBuilderF 241 5 B b (Lib.byteCells l) w'/\B6 B w w'/\Lib.OthersKept 5 (S b) w w'):=Any.Builder_String_any_k Tryz.lays169 Tryz.Builder_Extra_169 B b l w h a
end Go.Proofs
namespace Go.Proofs.YthboboahkkhopaaGreatDoor
open Go.RowKit Go.Maps Go.WideMaps
def agq(B b n:Nat)(w:Ax)(g:B<=b)(d:w.heap[b]?=S (A5 #[Y U,Br U 0 0] 241 (0,0)))(r:B<=w.heap.size)(k:n<=281474976710656)(q:0<n):
  A0 O 221 #[Y (S ⟨b,0,U⟩),Q R n] w λe w'=>e= Z (A9 #[])/\BuA B b [] w'/\B6 B w w':=by
 have f:(w.setCell ⟨b,0,U⟩ (Y (S ⟨b,0,U⟩))).heap[b]?=S (A5 #[Y (S ⟨b,0,U⟩),Br U 0 0] 241 (0,0)):=bg _ b 0 _ _ _ d;have a:B6 B w (w.setCell ⟨b,0,U⟩ (Y (S ⟨b,0,U⟩))):=(ah B w).setCell (p:=⟨b,0,U⟩) g _;have m:=uI b w (by rw[Lib.cell_of_heap d];rfl) (by simp[World.shape?,d]) (Lib.frozen_of_heap d 0);go_in;go_wp2_with (go_at_call 255;refine m.mono ?_;rintro e w1 ⟨rfl,rfl⟩);generalize w.setCell ⟨b,0,U⟩ (Y (S ⟨b,0,U⟩))=c at f a⊢;have h:c.cell? ⟨b,1,U⟩=S (Br U 0 0):=by rw[Lib.cell_of_heap f];rfl
 have s:=a.size;go_region_held3 (λw'=>w'.cell? ⟨b,1,U⟩=S (Br U 0 0)) (first|go_keep|exact h) (fail)
 have o:=Tryz.Builder_grow_fresh B b n c.drew g f (by simpa using(show B<=c.heap.size by omega)) k;go_wp2_with (go_at_call 256;refine o.mono ?_;rintro e t ⟨rfl,i,j⟩);all_goals first
  |(rename_i l;rw[fh]at l;omega)
  |skip
 go_end0
 exact⟨rfl,Lib.BuilderAtF.of i,(⟨a.os,a.tape,a.output,a.size,a.block⟩:B6 B w c.drew).trans j⟩
def Bu(B b:Nat)(T:ByteArray)(w:Ax):Prop:=BuF B b (Lib.strCells T) w
def FJ(a b:ByteArray):Lib.strCells (a++b)=Lib.strCells a++Lib.strCells b:=by
 unfold Lib.strCells;rw[lm,acC,eK]
def Gu(B b:Nat)(T s:ByteArray)(w:Ax)(h:Bu B b T w)(f:T.size+s.size<=140737488355328)(d:B<=w.heap.size):
  A0 O 222 #[Y (S ⟨b,0,U⟩),M s] w λe w'=>e= Z (A9 #[Q R s.size,E0])/\Bu B b (T++s) w'/\B6 B w w':=by
 refine(BJ B b _ s w h (by rw[Lib.strCells_length];exact f) d).mono ?_;rintro e w' ⟨rfl,a,c⟩;exact⟨rfl,.inr (by rw[FJ];exact a),c⟩
def abc(B b:Nat)(T:ByteArray)(w:Ax)(h:Bu B b T w)(d:B<=w.heap.size):
  A0 O 224 #[Y (S ⟨b,0,U⟩)] w λe w'=>e= Z (M T)/\Bu B b T w'/\B6 B w w':=by
 refine(Tryz.Builder_String_any_k B b T.data.toList w h d).mono ?_;rintro e w' ⟨rfl,a,c,_⟩;exact⟨rfl,a,c⟩
end Go.Proofs.YthboboahkkhopaaGreatDoor
namespace Go.Proofs
open Go.Shelf
def Tryz.lays212_ren:B3:=⟨λ|212=>220|263=>253|264=>254|n=>n,λ|46=>205|51=>263|146=>264|53=>39|148=>266|n=>n,λ|n=>n⟩
def Tryz.lays212:Go.Proofs.Lays.n212 O Tryz.lays212_ren:={
 mixed:=by kernel_rfl
 f212:=Tryz.func220.trans (congrArg S (by kernel_rfl))
 f263:=Tryz.func253.trans (congrArg S (by kernel_rfl))
 f264:=Tryz.func254.trans (congrArg S (by kernel_rfl))
 t46:=underlying205
 a46:=isAgg205
 z46:=sizeOf205
 v46:=zeroValue205
 t51:=underlying263
 a51:=isAgg263
 z51:=sizeOf263
 v51:=zeroValue263
 t53:=underlying39
 a53:=isAgg39
 z53:=sizeOf39
 v53:=zeroValue39
 t146:=underlying264
 a146:=isAgg264
 z146:=sizeOf264
 v146:=zeroValue264
 t148:=underlying266
 a148:=isAgg266
 z148:=sizeOf266
 v148:=zeroValue266}
open Go.RowKit Go.Lib in
def Tryz.bits_Mul(x a:Nat)(b:x<18446744073709551616)(c:a<18446744073709551616)(w:Ax):
  A0 O 220 #[Q .u64 x,Q .u64 a] w λe w'=>e= Z (A9 #[Q .u64 ((x*a / 18446744073709551616:Nat):Int),Q .u64 ((x*a%18446744073709551616:Nat):Int)])/\w'=w:=Any.bits_Mul Tryz.lays212 x a b c w
end Go.Proofs
namespace Go.Proofs.YthboboahkkhopaaGreatDoor
open Go.RowKit Go.Maps Go.WideMaps
def apH:ByteArray:=⟨#[116,97,114,103,101,116,32]⟩
def vF(a:Nat):ByteArray:=⟨(B1 [116,97,114,103,101,116,32] a).toArray⟩
def wJ(a:Nat):(vF a).size=7*a:=by
 have b:(vF a).size=(B1 [116,97,114,103,101,116,32] a).length:=by simp[vF,ByteArray.size]
 rw[b,Lib.repeatL_length];simp;omega
def Kz(a b:Nat):vF (a+b)=vF a++vF b:=by
 apply kI;rw[lm];show(B1 _ (a+b)).toArray=(B1 _ a).toArray++(B1 _ b).toArray;rw[Lib.repeatL_add];simp
def aeA(a d:Nat)(h:d<=a):(vF a).extract 0 (7*d)=vF d:=by
 obtain⟨c,rfl⟩:=Nat.exists_eq_add_of_le h;rw[Kz];apply kI;rw[ByteArray.data_extract,lm];have b:(vF d).data.size=7*d:=wJ d;rw[<-b];apply Array.ext';simp;apply cj;rw[iG];exact af _
def ar0(ts:Array Ex)(t:Ex)(x a z c:Int)(W:Ax)(h:(if z<(if a<x then a else x) then z else(if a<x then a else x))=c):
  (Builtin.min_ ts t #[Q R x,Q R a,Q R z]).run O W= .ok (Q R c) W:=by
 rw[<-h];simp[Builtin.min_,Builtin.min2]
def KA(m:Nat)(w:Ax)(bb:m+2<=200):
  A0 O 170 #[M ⟨#[116,97,114,103,101,116,32]⟩,Q R ((m+2:Nat):Int)] w (gy w (M (vF (m+2)))):=by
 have q:=Tryz.bits_Mul 7 (m+2) (by omega) (by omega) w;rw[Nat.div_eq_of_lt (by omega:7*(m+2)<18446744073709551616),Nat.mod_eq_of_lt (by omega:7*(m+2)<18446744073709551616)]at q;have⟨e,E⟩:=aJ (7*(m+2));rw[E]at q;have l:=am E;have bf:(e:Int)<=1400:=by omega
 have bh:14<=e:=by omega
 go_in;go_wp2_with (go_at_call 220;refine q.mono ?_;rintro d a4 ⟨rfl,rfl⟩);obtain⟨a,rfl⟩:∃a,a=a4:=⟨_,rfl⟩;have a3:=agq a.heap.size a.heap.size e (a.alloc (A5 #[Y U,Br U 0 0] 241)) (af _) (aB a _) (by simp) (by omega) (by omega);refine a3.mono ?_;rintro d G ⟨rfl,ap,av⟩;have a1:be a (a.alloc (A5 #[Y U,Br U 0 0] 241)):=(ah _ a).alloc (af _) _;have z:=a1.trans av;have al:Bu a.heap.size a.heap.size ⟨#[]⟩ G:= .inr ap;have F:=Gu a.heap.size a.heap.size ⟨#[]⟩ apH G al (by decide) z.size;rw[show(⟨#[]⟩:ByteArray)++apH=vF 1 from rfl]at F;have ak:=am z;go_wp21
 refine F.mono ?_;rintro d H ⟨rfl,an,ax⟩;have L:C2 (Bu a.heap.size a.heap.size (vF 1) H/\be a H):=⟨an,ak.out.trans ax⟩;go_wp21
 go_loopg [] (m+1) (λB K=>∃b:Nat,1<=b/\b+B=m+2/\C2 (Bu a.heap.size a.heap.size (vF b) K/\be a K))
 case atStart=>exact⟨1,af _,by omega,L⟩
 case round=>
  obtain⟨b,bc,bd,g⟩:=hrel;have k:=Tryz.Builder_Len_f a.heap.size a.heap.size _ wr g.1;rw[Lib.strCells_length,wJ]at k;have p:=abc a.heap.size a.heap.size _ wr g.1 g.2.size;have⟨f,r⟩:=aJ (7*b);have i:=am r;rw[r]at k;have⟨o,hS⟩:=aJ (vF b);have n:=am hS;have au:o.size=f:=by rw[<-hS,wJ,r]
  rw[hS]at p;cases gk with
  |zero=>
   obtain rfl:b=m+2:=by omega
   have ar:¬((f:Int)<(e:Int)):=by have:=l.out;have:=i.out;omega
   go_wp2_with (first|(go_at_call 223;refine k.mono ?_;rintro d a5 ⟨rfl,t⟩;rw[t])|(go_at_call 224;refine p.mono ?_;rintro d I ⟨rfl,y,s⟩));go_ret;exact⟨by rw[n.out];rfl,g.2.trans s⟩
  |succ B=>
   have⟨c,a7⟩:=aJ (min (m+2-b) b);have a8:1<=c:=by omega
   have a2:c<=b:=by omega
   have a9:b+c<=m+2:=by omega
   have⟨h,C⟩:=aJ (7*c);have ar:(f:Int)<(e:Int):=by have:=l.out;have:=i.out;omega
   have a6:h<=f:=by have:=i.out;omega
   have ba:∀(v:Array Ex)(u:Ex)(j:Ax),(Builtin.min_ v u #[Q R ((e:Int)-(f:Int)),Q R (f:Int),Q R (e:Int)]).run O j= .ok (Q R (h:Int)) j:=λv u j=>ar0 v u _ _ _ _ j (by
    have:=l.out;have:=i.out;split<;>split<;>omega)
   have x:C2 (7*c=h/\o.extract 0 h=vF c):=⟨C,by rw[<-C,<-n.out];exact aeA b c a2⟩;go_wp2_with (first|(go_at_call 223;refine k.mono ?_;rintro d a5 ⟨rfl,t⟩;rw[t])|(go_at_call 224;refine p.mono ?_;rintro d I ⟨rfl,y,s⟩));rw[x.out.2];have A:=g.2.trans s;refine(Gu a.heap.size a.heap.size o (vF c) I y (by rw[au,wJ,x.out.1];omega) A.size).mono ?_;rintro d J ⟨rfl,ao,a0⟩;have ad:C2 (Bu a.heap.size a.heap.size (vF (b+c)) J/\be a J):=⟨by rw[Kz,n.out];exact ao,A.trans a0⟩;go_wp21
   go_roundg (m+2-(b+c))
   case measure=>omega
   case rel=>exact⟨b+c,by omega,by omega,ad⟩
def abd(n:Nat)(w:Ax)(a:n<=200):
  A0 O 170 #[M ⟨#[116,97,114,103,101,116,32]⟩,Q R (n:Int)] w (gy w (M ⟨(B1 [116,97,114,103,101,116,32] n).toArray⟩)):=by
 match n,a with
 |0,_=>
  go_in;go_wp2;go_ret;exact⟨rfl,ah _ _⟩
 |1,_=>
  go_in;go_wp2;go_ret;exact⟨rfl,ah _ _⟩
 |m+2,a=>exact KA m w a
def bareN(N:Nd):Nd:={N with f:=0,t:=0,l:=0}
