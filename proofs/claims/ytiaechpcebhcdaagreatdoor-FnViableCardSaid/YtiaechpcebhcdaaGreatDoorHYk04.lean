import Derived.Test.YtiaechpcebhcdaaGreatDoorHYk02
set_option linter.all false
set_option maxRecDepth 100000
set_option maxHeartbeats 25600000
open Go.Proofs.Tryz
open Go.Value renaming int->M,string->Q,tuple->Ax,bool->Br,agg->B0,nilIface->B7,slice->Ce
open Go.IntKind renaming i64->N,u8->B4,u64->Ck
open Go.Proofs.Tryz renaming prog->S
open Go.Ending renaming returned->T
open Bool renaming false->W,true->X
open Go renaming Calls->Y,World->A3,Value->B6
open Option renaming none->A0,some->A5
open Go.Lib renaming parseUintM->A2,hasPrefix->B3
open Go.RowKit renaming Below->A6,intOf->A9,Hid->B1
open Go.Instr renaming index->B2
open Go.Obj renaming cells->B5
namespace Go.Proofs.YtiaechpcebhcdaaGreatDoor
open Go.RowKit
variable{B i p:Nat}{b:Bool}{c:Int}{s:Bz}{w w':World}
def anI:Bz:=⟨#[59]⟩
def arv:Bz:=⟨#[10]⟩
def abH:Bz:=⟨#[]⟩
def Ge(kind:Int):Nat->Nat->Bz
 |0,_=>abH
 |f+1,k=>if yq (bq ju k)=kind then bq ju k else Ge kind f (k+1)
def eI(kind:Int):Bz:=if kind=5 then anI else if 10<=kind/\kind<32 then bq fG (kind-10).toNat else Ge kind 30 0
def lK:Array B6:=#[Q ⟨#[43]⟩,Q ⟨#[45]⟩,Q ⟨#[42]⟩,Q ⟨#[47]⟩,Q ⟨#[47,47]⟩,Q ⟨#[37]⟩,Q ⟨#[38]⟩,Q ⟨#[124]⟩,Q ⟨#[126]⟩,Q ⟨#[60,60]⟩,Q ⟨#[62,62]⟩,Q ⟨#[46,46]⟩,Q ⟨#[61,61]⟩,Q ⟨#[126,61]⟩,Q ⟨#[60]⟩,Q ⟨#[60,61]⟩,Q ⟨#[62]⟩,Q ⟨#[62,61]⟩]
def aoG:∀k:Fin 18,lK[k.val]?=A5 (Q (bq lK k.val)):=by
 intro ⟨k,a⟩
 iterate 18 (obtain _|k:=k;· rfl)
 omega
structure sJ (w:A3):Prop where
 word:∃tt fr,w.heap[0]?=A5 (.cells fG tt fr)
 mark:∃tt fr,w.heap[2]?=A5 (.cells je tt fr)
 bin:∃tt fr,w.heap[3]?=A5 (.cells lK tt fr)
def sJ.below(h:sJ w)(b:A6 B w w')(a:w.heap.size<=B):sJ w':=by
 obtain⟨⟨j,f,c⟩,⟨k,g,d⟩,⟨l,i,e⟩⟩:=h;exact⟨⟨j,f,(b.block _ (gF (ah c) a)).trans c⟩,⟨k,g,(b.block _ (gF (ah d) a)).trans d⟩,⟨l,i,(b.block _ (gF (ah e) a)).trans e⟩⟩
def fJ(kind:Int):Bz:=if kind=5 then anI else if kind=7 then arv else if 10<=kind/\kind<=31 then bq fG (kind-10).toNat else if 40<=kind/\kind<=50 then bq je (kind-40).toNat else if 61<=kind/\kind<=78 then bq lK (kind-61).toNat else abH
theorem xL(kind:Int)(y: -9223372036854775808<=kind)(z:kind<=9223372036854775807)(w:A3)(l:sJ w):Y S 123 #[M N kind] w λe w'=>e= T (Q (fJ kind))/\w'=w:=by
 obtain⟨⟨A,s,r⟩,⟨B,t,q⟩,⟨C,u,m⟩⟩:=l;unfold fJ;by_cases d:kind=5
 .subst d;go_in;go_wp2;go_ret;exact rr
 by_cases f:kind=7
 .subst f;go_in;go_wp2;go_ret;exact rr
 rw[aa d,aa f];have v:(kind==5)=W:=U;have x:(kind==7)=W:=U;by_cases b:10<=kind/\kind<=31
 .rw[ab b];obtain⟨a,g⟩:∃a:Nat,kind=10+(a:Int):=⟨(kind-10).toNat,O⟩;subst g;rw[(O:((10+(a:Int))-10).toNat=a)];have p:a<22:=O;have j:w.cell? ⟨0,a,A0⟩=A5 (Q (bq fG a)):=by rw[au _ _ _ _ _ _ r];exact Dc ⟨a,p⟩
  clear b d f;go_in;go_wp2;go_ret
  simp_all
 by_cases c:40<=kind/\kind<=50
 .rw[aa b,ab c];obtain⟨a,g⟩:∃a:Nat,kind=40+(a:Int):=⟨(kind-40).toNat,O⟩;subst g;rw[(O:((40+(a:Int))-40).toNat=a)];have n:a<11:=O;have j:w.cell? ⟨2,a,A0⟩=A5 (Q (bq je a)):=by rw[au _ _ _ _ _ _ q];exact ag7 ⟨a,n⟩
  clear b c d f;go_in;go_wp2;go_ret
  simp_all
 by_cases i:61<=kind/\kind<=78
 .rw[aa b,aa c,ab i];obtain⟨a,g⟩:∃a:Nat,kind=61+(a:Int):=⟨(kind-61).toNat,O⟩;subst g;rw[(O:((61+(a:Int))-61).toNat=a)];have o:a<18:=O;have j:w.cell? ⟨3,61+a-60-1,A0⟩=A5 (Q (bq lK a)):=by rw[(O:61+a-60-1=a),au _ _ _ _ _ _ m];exact aoG ⟨a,o⟩
  clear b c i d f;go_in;go_wp2;go_ret
  simp_all
 rw[aa b,aa c,aa i];rcases((O:kind<10\/(31<kind/\kind<40)\/(50<kind/\kind<=60)\/78<kind)) with h|⟨h,k⟩|⟨h,k⟩|h;all_goals
  clear b c i d f;go_in;go_wp2;go_ret;exact rr
theorem uf(kind:Int)(w:A3):Y S 59 #[M N kind] w λe w'=>e= T (Q (eI kind))/\A6 w.heap.size w w':=by
 unfold eI;by_cases u:kind=5
 .subst u;go_in;go_wp2;go_ret;exact⟨rfl,ai _ _⟩
 rw[aa u];by_cases y:10<=kind/\kind<32
 .rw[ab y];obtain⟨a,v⟩:∃a:Nat,kind=10+(a:Int):=⟨(kind-10).toNat,O⟩;subst v;have F:((10+(a:Int))-10).toNat=a:=O;rw[F];have k:A6 w.heap.size w (w.alloc (B5 fG 9)):=(ai _ w).alloc cJ _;have q:(w.alloc (B5 fG 9)).cell? ⟨w.heap.size,a,A0⟩=A5 (Q (bq fG a)):=by rw[au _ _ _ _ _ _ (ay w _)];exact Dc ⟨a,O⟩
  obtain⟨b,f⟩:∃b,b=w.alloc (B5 fG 9):=⟨_,rfl⟩;rw[<-f]at q k;have s:Y S 70 #[] w λe w'=>e= T (Ce (A5 ⟨w.heap.size,0,A0⟩) 22 22)/\b=w':=by rw[f];exact(ru w).mono λe w' d=>⟨d.1,d.2.symm⟩
  clear f;go_in;go_wp2_with (go_at_call 70;apply s.mono;rintro e w1 ⟨rfl,rfl⟩);go_ret
  simp_all
 .rw[aa y];obtain⟨b,f⟩:∃b,b=w.alloc (B5 fG 9):=⟨_,rfl⟩;have s:Y S 70 #[] w λe w'=>e= T (Ce (A5 ⟨w.heap.size,0,A0⟩) 22 22)/\b=w':=by rw[f];exact(ru w).mono λe w' d=>⟨d.1,d.2.symm⟩
  have k:A6 w.heap.size w b:=by rw[f];exact(ai _ w).alloc cJ _
  clear f;obtain⟨g,i⟩:∃g,g=b.alloc (B5 ju 9):=⟨_,rfl⟩;have ad:Y S 55 #[] b λe w'=>e= T (Ce (A5 ⟨b.heap.size,0,A0⟩) 30 30)/\g=w':=by rw[i];exact(vB b).mono λe w' d=>⟨d.1,d.2.symm⟩
  have E:g.heap[b.heap.size]?=A5 (B5 ju 9 (0,0)):=by rw[i];exact ay b _
  have C:A6 b.heap.size b g:=by rw[i];exact(ai _ b).alloc cJ _
  clear i;have⟨A,o⟩:=aw (Ge kind 30 0);rw[o];have z:=aj o;clear o;have K:=k.size;rcases((O:¬10<=kind\/(10<=kind/\¬kind<10+22))) with B|⟨ag,B⟩;all_goals
   go_in;go_wp2_with (first|(go_at_call 70;apply s.mono;rintro e w1 ⟨rfl,rfl⟩)|(go_at_call 55;apply ad.mono;rintro e ak ⟨rfl,rfl⟩));go_loopw [25] (λr wr=>∃a:Nat,a<=30/\r= M N a/\B1 (Ge kind (30-a) a=A)/\wr.heap[b.heap.size]?=A5 (B5 ju 9 (0,0))/\A6 w.heap.size w wr) (λr _=>30-(A9 r).toNat)
   case atStart=>exact⟨0,O,rfl,z,E,k.trans (C.mono K)⟩
   case round=>
    obtain⟨a,v,rfl,t,p,l⟩:=hrel;have x:=l.size;by_cases H:a<30
    .have q:wr.cell? ⟨b.heap.size,a,A0⟩=A5 (Q (bq ju a)):=by rw[au _ _ _ _ _ _ p];exact aby ⟨a,H⟩
     have c:=t.out;rw[(O:30-a=(30-(a+1))+1)]at c;unfold Ge at c;have G:=ah p;generalize bq ju a=h at q c;by_cases m:yq h=kind
     .rw[ab m]at c;have n:=aj c;have L:(yq h==kind)=X:=U;clear c m;go_wp2_with (go_at_call 56;apply(yr h _).mono;rintro e af ⟨rfl,j⟩);go_ret;exact⟨by rw[<-n.out];rfl,l.trans (j.mono x)⟩
     .rw[aa m]at c;have n:=aj c;have L:(yq h==kind)=W:=U;clear c m;go_wp2_with (go_at_call 56;apply(yr h _).mono;rintro e af ⟨rfl,j⟩);go_roundw
      case rel=>exact⟨a+1,O,by go_num,n,(j.block _ G).trans p,l.trans (j.mono x)⟩
      case measure=>simp[A9];omega
    .obtain rfl:a=30:=O;go_wp2;go_ret;exact⟨by rw[<-(aj t.out).out];rfl,l⟩
open Go.Maps Go.WideMaps
theorem BF(c:Int)(w:A3):Y S 52 #[M B4 c] w λe w'=>e= T (Br (aC c))/\w=w':=by
 rcases((O:c<48\/57<c\/(48<=c/\c<=57))) with h|h|⟨d,b⟩
 .have e:aC c=W:=by simp[aC];omega
  rw[e];clear e;have a:¬48<=c:=O;go_in;go_wp2;go_ret
  simp_all
 .have e:aC c=W:=by simp[aC];omega
  rw[e];clear e;have a:¬c<=57:=O;have b:48<=c:=O;go_in;go_wp2;go_ret
  simp_all
 .have e:aC c=X:=by simp[aC];omega
  rw[e];clear e;go_in;go_wp2;go_ret
  simp_all
theorem pH(c:Int)(w:A3):Y S 50 #[M B4 c] w λe w'=>e= T (Br (aJ c))/\w=w':=by
 rcases((O:(97<=c/\c<=122)\/(65<=c/\c<=90)\/c=95\/c<65\/(90<c/\c<97/\c≠95)\/122<c)) with⟨f,g⟩|⟨f,g⟩|rfl|h|⟨f,g,k⟩|h
 .have e:aJ c=X:=by simp[aJ];omega
  rw[e];clear e;go_in;go_wp2;go_ret
  simp_all
 .have e:aJ c=X:=by simp[aJ];omega
  rw[e];clear e;have a:¬97<=c:=O;go_in;go_wp2;go_ret
  simp_all
 .go_in;go_wp2;go_ret;exact rr
 .have e:aJ c=W:=by simp[aJ];omega
  rw[e];clear e;have a:¬97<=c:=O;have b:¬65<=c:=O;have d:(c==95)=W:=U;go_in;go_wp2;go_ret
  simp_all
 .have e:aJ c=W:=by simp[aJ];omega
  rw[e];clear e;have a:¬97<=c:=O;have b:65<=c:=O;have i:¬c<=90:=O;have d:(c==95)=W:=U;go_in;go_wp2;go_ret
  simp_all
 .have e:aJ c=W:=by simp[aJ];omega
  rw[e];clear e;have a:97<=c:=O;have b:¬c<=122:=O;have i:65<=c:=O;have j:¬c<=90:=O;have d:(c==95)=W:=U;go_in;go_wp2;go_ret
  simp_all
def lk(s:Bz)(p:Nat):Int:=if p<s.size then ae s p else 0
def adC(s:Bz)(p:Nat):0<=lk s p/\lk s p<256:=by
 unfold lk;split
 .rename_i a;exact gI a
 .omega
def alq(s:Bz)(p:Nat):aJ (lk s p)=aJ (ae s p):=by
 unfold lk;split
 .rfl
 .rename_i a;rw[di a];decide
def qo(s:Bz)(p:Nat):aC (lk s p)=aC (ae s p):=by
 unfold lk;split
 .rfl
 .rename_i a;rw[di a];decide
theorem DL(s:Bz)(d:s.size<=1100000)(p:Nat)(w:A3):Y S 49 #[Q s,M N p] w λe w'=>e= T (M B4 (lk s p))/\w=w':=by
 unfold lk;by_cases a:p<s.size
 .rw[ab a];have b:=λw=>dx a w;generalize ae s p=c at b;go_in;go_wp2;go_ret
  simp_all
 .rw[aa a];go_in;go_wp2;go_ret
  simp_all
def mh(s:Bz):Nat->Nat->Nat
 |0,p=>p
 |f+1,p=>if aJ (ae s p)=X\/aC (ae s p)=X then mh s f (p+1) else p
def D0(h:¬p<s.size:=by omega):¬(aJ (ae s p)=X\/aC (ae s p)=X):=by
 rw[di h];decide
def sa(s:Bz):∀(f p:Nat),p<=s.size->p<=mh s f p/\mh s f p<=s.size
 |0,p,h=>⟨cJ,h⟩
 |f+1,p,h=>by
  unfold mh;split
  .rename_i a;have b:p<s.size:=by
    rcases aH p s.size with h1|h1
    .exact h1
    .exact absurd a (D0)
   have:=sa s f (p+1) O;omega
  omega
theorem BG(s:Bz)(z:s.size<=1100000)(p:Nat)(A:p<=s.size)(w:A3):Y S 183 #[Q s,M N p] w λe w'=>e= T (M N (mh s (s.size+1) p))/\w'=w:=by
 have⟨r,n⟩:=aw (mh s (s.size+1) p);rw[n];have v:=aj n;go_in;go_wp21
 go_loop [1] (λk=>∃(b d:Nat),b<=s.size/\s.size<b+d/\k= M N b/\B1 (mh s d b=r)) (λk=>s.size-(A9 k).toNat)
 case atStart=>grind
 case round=>
  obtain⟨b,d,y,x,rfl,q⟩:=hrel;obtain⟨d,rfl⟩:∃t,d=t+1:=⟨d-1,O⟩;have a:=q.out;unfold mh at a;by_cases o:b<s.size
  .have u:=λw=>dx o w;generalize ae s b=c at u a;have f:=λw=>nC c w;have h:=λw=>jC c w;by_cases i:aJ c=X
   .rw[ab (.inl i)]at a;have g:=aj a;rw[i]at f;go_wp2_with (go_at_call 115;apply(f _).mono;rintro e w' ⟨rfl,rfl⟩);go_round
    case rel=>grind
    case measure=>simp[A9];omega
   .have l:aJ c=W:=U;rw[l]at f;by_cases j:aC c=X
    .rw[ab (.inr j)]at a;have g:=aj a;rw[j]at h;go_wp2_with (first|(go_at_call 115;apply(f _).mono;rintro e w' ⟨rfl,rfl⟩)|(go_at_call 117;apply(h _).mono;rintro e w' ⟨rfl,rfl⟩));go_round
     case rel=>grind
     case measure=>simp[A9];omega
    .have m:aC c=W:=U;rw[aa U]at a;have g:=aj a;clear a;rw[m]at h;clear i l j m;go_wp2_with (first|(go_at_call 115;apply(f _).mono;rintro e w' ⟨rfl,rfl⟩)|(go_at_call 117;apply(h _).mono;rintro e w' ⟨rfl,rfl⟩));go_ret;exact⟨by rw[<-g.out];rfl,rfl⟩
  .rw[aa (D0 o)]at a;have g:=aj a;go_wp2;go_ret
   simp_all
def vE(s:Bz):Bool:=(zj fG s 22 0).isSome
def yw(k:Nat):bq fG k=mw k:=rfl
theorem rC(V:Array B6)(s:Bz):∀(f k j:Nat),zj V s f k=A5 j->k<=j/\j<k+f/\(bq V j).toList=s.toList
 |0,k,j,h=>by simp[zj]at h
 |f+1,k,j,h=>by
  unfold zj at h;split at h
  .grind
  .have:=rC V s f (k+1) j h;grind
theorem K8(V:Array B6)(s:Bz):∀(f k:Nat),zj V s f k=A0->∀j,k<=j->j<k+f->(bq V j).toList≠s.toList
 |0,k,h=>λj a b=>O
 |f+1,k,h=>λj a b=>by
  unfold zj at h;split at h
  .cases h
  .rename_i c;rcases js a with rfl|h3
   .grind
   .exact K8 V s f (k+1) h j h3 O
def D1{H:Type}:∀n,IsMap (zG (H:=H) n)
 |0=>isMap_empty
 |n+1=>(D1 n).put _ _
def adD{H:Type}(l:List UInt8):∀n,(∀j,j<n->(mw j).data.toList≠l)->Maps.has (zG (H:=H) n) (.string l)=W
 |0,_=>rfl
 |n+1,h=>by
  show Maps.has ((zG n).put _ _) _=W;rw[has_put_other U];exact adD l n λj a=>h j O
theorem adE{H:Type}(l:List UInt8)(j:Nat)(a:(mw j).data.toList=l):∀n,j<n->Maps.has (zG (H:=H) n) (.string l)=X
 |0,h=>O
 |n+1,h=>by
  show Maps.has ((zG n).put _ _) _=X;by_cases e:(mw n).data.toList=l
  .rw[e];exact has_put_same (D1 n) (by trivial) _
  .rw[has_put_other U];rcases js (Nat.le_of_lt_succ h) with rfl|h3
   .grind
   .exact adE l j a n h3
def La{H:Type}(s:Bz):Maps.has (zG (H:=H) 22) (.string s.data.toList)=vE s:=by
 unfold vE;cases h:zj fG s 22 0 with
 |none=>
  exact adD _ 22 λd g c=>(K8 fG s 22 0 h) d nH O (by rw[yw,fL,fL];exact c)
 |some b=>
  have⟨e,f,a⟩:=rC fG s 22 0 b h;rw[yw,fL,fL]at a;exact adE _ b a 22 O
def alr:∀i j:Fin 22,i≠j->(mw i.val).data.toList≠(mw j.val).data.toList:=by decide+kernel
def GH{H:Type}(j:Nat):∀n,n<=22->j<n->(zG (H:=H) n).atKey (.string (mw j).data.toList) (.lit (.int .i64 0))= .lit (.int .i64 (10+(j:Int)))
 |0,_,h=>O
 |n+1,hn,h=>by
  show((zG n).put _ _).atKey _ _=_;by_cases e:n=j
  .subst e;exact atKey_put_same (D1 n) (by trivial) _ _
  .rw[atKey_put_other (by intro a;injection a with a;exact alr ⟨j,O⟩ ⟨n,O⟩ U a)];exact GH j n O O
def arw{H:Type}(k:Fin 22):(zG (H:=H) 22).atKey (.string (mw k.val).data.toList) (.lit (.int .i64 0))= .lit (.int .i64 (10+(k.val:Int))):=GH k.val 22 O k.isLt
def als{H:Type}(s:Bz)(k:Nat)(h:zj fG s 22 0=A5 k):(zG (H:=H) 22).atKey (.string s.data.toList) (.lit (.int .i64 0))= .lit (.int .i64 (10+(k:Int))):=by
 have⟨b,c,a⟩:=rC fG s 22 0 k h;rw[yw,fL,fL]at a;rw[<-a];exact arw ⟨k,O⟩
theorem abI{H:Type}(s:Bz)(r:s.size<=1100000)(b:Nat)(w:A3)(u:w.ownsMap S 9 (plainElem (H:=H) S 3) b 22 (zG 22)):Y S 254 #[.string s,.map (A5 b)] w λe w'=>e= .returned (.bool (decide (aJ (ae s 0)=X/\mh s (s.size+1) 0=s.size/\vE s=W)))/\w'=w:=by
 have p:keyOf S 9 (.string s)=A5 (.string s.data.toList):=keyOf_string_mk underlying9 py;by_cases j:0<s.size
 .have t:(s.toList==[])=W:=by
   have:s.toList.length=s.size:=by rw[fL];simp
   grind
  have x:∀w,(B2 9 (.string s) (.int .i64 0)).run S w= .ok (.int .u8 (ae s 0)) w:=λw=>dx j w;have c:=λw=>nC (ae s 0) w;have m:=sa s (s.size+1) 0 O;have h:=λw=>BG s r 0 O w;generalize ae s 0=d at x c;generalize mh s (s.size+1) 0=f at h m;by_cases g:aJ d=X
  .rw[g]at c;by_cases n:f=s.size
   .subst n;have q:¬(s.size:Int)<(s.size:Int):=O;have⟨i,l⟩:=aw (vE s);have o:Maps.has (zG (H:=H) 22) (.string s.data.toList)=i:=by rw[La,l]
    have a:decide (aJ d=X/\s.size=s.size/\vE s=W)=!i:=U;rw[a];clear a l g;go_in;go_wp2_with (first|(go_at_call 115;refine(c _).mono ?_;rintro e w' ⟨rfl,rfl⟩)|(go_at_call 183;refine(h _).mono ?_;rintro e w' ⟨rfl,rfl⟩)|(at_lookup;refine wpList_lookup_own_ok_int _ rfl _ _ 88 rfl 9 3 .i64 ak2 underlying88 underlying3 J b 22 _ rfl u _ _ rfl p ?_;intro y z A;rw[o]));go_ret
    simp_all
   .have q:(f:Int)<(s.size:Int):=O;have a:decide (aJ d=X/\f=s.size/\vE s=W)=W:=U;rw[a];clear a g;go_in;go_wp2_with (first|(go_at_call 115;apply(c _).mono;rintro e w' ⟨rfl,rfl⟩)|(go_at_call 183;apply(h _).mono;rintro e w' ⟨rfl,rfl⟩));go_ret
    simp_all
  .have k:aJ d=W:=U;rw[k]at c;have a:decide (aJ d=X/\f=s.size/\vE s=W)=W:=U;rw[a];clear a g k;go_in;go_wp2_with (first|(go_at_call 115;apply(c _).mono;rintro e w' ⟨rfl,rfl⟩)|(go_at_call 183;apply(h _).mono;rintro e w' ⟨rfl,rfl⟩));go_ret
   simp_all
 .have v:s.toList=[]:=by
   simp_all
  have t:(s.toList==[])=X:=U;have a:decide (aJ (ae s 0)=X/\mh s (s.size+1) 0=s.size/\vE s=W)=W:=by rw[di j];rfl
  rw[a];clear a v;go_in;go_wp2;go_ret
  simp_all
def wdT(s:Bz)(p:Nat):B6:=
 match zj fG (s.extract p (mh s (s.size+1) p)) 22 0 with
 |some a=> B0 #[M N (10+(a:Int)),M N p,M N (mh s (s.size+1) p),M N 0,M N 0,Q ⟨#[]⟩]
 |none=> B0 #[M N 1,M N p,M N (mh s (s.size+1) p),M N 0,M N 0,Q (s.extract p (mh s (s.size+1) p))]
theorem abJ(s:Bz)(bh:s.size<=1100000)(p:Nat)(bj:p<=s.size)(w:A3):Y S 51 #[Q s,B0 #[M N 0,M N p,M N 0,M N 0,M N 0,Q ⟨#[]⟩]] w λe w'=>e= T (Ax #[wdT s p,M N (-1)])/\A6 w.heap.size w w':=by
 unfold wdT;have⟨E,K⟩:=aw (mh s (s.size+1) p);have a6:=sa s (s.size+1) p bj;rw[K]at a6⊢;have a2:=aj K;have⟨a4,L⟩:=aw (zj fG (s.extract p E) 22 0);rw[L];have bk:=aj L;go_in;go_wp21
 generalize ba:(w.alloc _).alloc _=l;obtain⟨a,a5,H, -⟩:=Da ba;have A:dL w.heap.size l 0 p 0 0 0 ⟨#[]⟩:=a;have ad:dL (w.heap.size+1) l 0 0 0 0 0 ⟨#[]⟩:=a5;go_loop [6] (λi=>∃(b j:Nat),b<=s.size/\s.size<b+j/\i= M N b/\B1 (mh s j b=E)) (λi=>s.size-(A9 i).toNat)
 case atStart=>grind
 case round=>
  obtain⟨b,j,br,bo,rfl,k⟩:=hrel;obtain⟨j,rfl⟩:∃a7,j=a7+1:=⟨j-1,O⟩;have c:=k.out;unfold mh at c;have q:=λw=>DL s bh b w;have f:=λw=>pH (lk s b) w;have g:=λw=>BF (lk s b) w;have h:aJ (ae s b)=X\/aC (ae s b)=X->b<s.size:=by
   intro a8;rcases aH b s.size with h1|h1
   .exact h1
   .exact absurd a8 (D0)
  rw[alq]at f;rw[qo]at g;generalize lk s b=bl at q f g;generalize ae s b=t at c f g h;by_cases h1:aJ t=X
  .rw[ab (.inl h1)]at c;have F:=aj c;have bg:=h (.inl h1);rw[h1]at f;go_wp2_with (first|(go_at_call 49;apply(q _).mono;rintro e w' ⟨rfl,rfl⟩)|(go_at_call 50;apply(f _).mono;rintro e w' ⟨rfl,rfl⟩));go_round
   case rel=>grind
   case measure=>simp[A9];omega
  .have z:aJ t=W:=U;rw[z]at f;by_cases n:aC t=X
   .rw[ab (.inr n)]at c;have F:=aj c;have bg:=h (.inr n);clear c h;rw[n]at g;clear h1 z n;go_wp2_with (first|(go_at_call 49;apply(q _).mono;rintro e w' ⟨rfl,rfl⟩)|(go_at_call 50;apply(f _).mono;rintro e w' ⟨rfl,rfl⟩)|(go_at_call 52;apply(g _).mono;rintro e w' ⟨rfl,rfl⟩));go_round
    case rel=>grind
    case measure=>simp[A9];omega
   .have G:aC t=W:=U;rw[aa U]at c;rw[G]at g;clear h1 z n G h k a2;subst c;have⟨af,ag,ak,al,am,an,ao⟩:=aE A;have x:=(A.setKind 1).setTo (b:Int);have y:=(ad.other (a:=⟨w.heap.size,0,A0⟩) I (M N 1)).other (a:=⟨w.heap.size,2,A0⟩) I (M N (b:Int));have u:A6 w.heap.size w ((l.setCell ⟨w.heap.size,0,A0⟩ (M N 1)).setCell ⟨w.heap.size,2,A0⟩ (M N (b:Int))):=(H.setCell I _).setCell I _;have⟨m,B⟩:=aw ((l.setCell ⟨w.heap.size,0,A0⟩ (M N 1)).setCell ⟨w.heap.size,2,A0⟩ (M N (b:Int)));rw[B]at x y u;have a3:=aj B;clear B;go_wp2_with (first|(go_at_call 49;apply(q _).mono;rintro e w' ⟨rfl,rfl⟩)|(go_at_call 50;apply(f _).mono;rintro e w' ⟨rfl,rfl⟩)|(go_at_call 52;apply(g _).mono;rintro e w' ⟨rfl,rfl⟩));rw[show(l.setCell ⟨w.heap.size,0,A0⟩ (M N 1)).setCell ⟨w.heap.size,2,A0⟩ (M N (b:Int))=m from a3.out];apply(ru m).mono;rintro e r ⟨rfl,o⟩;have a9:dL w.heap.size r 1 p b 0 0 ⟨#[]⟩:=by rw[o];exact(dG _ _ _ (ah x)).trans x
    have bb:dL (w.heap.size+1) r 0 0 0 0 0 ⟨#[]⟩:=by rw[o];exact(dG _ _ _ (ah y)).trans y
    have bn:A6 w.heap.size w r:=by rw[o];exact u.alloc u.size _
    have bc:r.heap[m.heap.size]?=A5 (B5 fG 9 (0,0)):=by rw[o];exact ay m _
    clear o x y u A ad H af ag ak al am an ao q f g;go_wp21
    obtain⟨af,ag,ak,al,am,an,ao⟩:=aE a9;obtain⟨z0,ar,av,aL,a0,a1,bt⟩:=aE bb;go_loop [34] (λi=>∃d:Nat,d<=22/\i= M N d/\B1 (zj fG (s.extract p b) (22-d) d=a4)) (λi=>22-(A9 i).toNat)
    case atStart=>grind
    case round=>
     obtain⟨d,bp,rfl,k⟩:=hrel;by_cases h:d<22
     .have bf:r.cell? ⟨m.heap.size,d,A0⟩=A5 (Q (bq fG d)):=by rw[au _ _ _ _ _ _ bc];exact Dc ⟨d,h⟩
      have c:=k.out;rw[(O:22-d=(22-(d+1))+1)]at c;unfold zj at c;generalize bq fG d=ap at bf c;by_cases C:(ap.toList==(s.extract p b).toList)=X
      .rw[ab C]at c;subst c;go_wp2;refine aD (v:= Ax #[B0 #[M N (10+(d:Int)),M N p,M N b,M N 0,M N 0,Q ⟨#[]⟩],M N (-1)]) (by simp[results,results51,go_sem,z0,ar,av,aL,a0,a1]) rfl ⟨rfl,?_⟩
       iterate 7 refine gh ?_ I _
       omega
      .rw[aa C]at c;have F:=aj c;have bs:(ap.toList==(s.extract p b).toList)=W:=U;clear c C;go_wp2;go_round
       case rel=>grind
       case measure=>simp[A9];omega
     .obtain rfl:d=22:=O;have c:=k.out;simp only[fI,zj]at c;subst c;go_wp2;refine aD (v:= Ax #[B0 #[M N 1,M N p,M N b,M N 0,M N 0,Q (s.extract p b)],M N (-1)]) (by simp[results,results51,go_sem,z0,ar,av,aL,a0,a1]) rfl ⟨rfl,?_⟩
      iterate 7 refine gh ?_ I _
      omega
def D2(h:aJ c=X):65<=c/\c<=122:=by simp[aJ]at h;omega
def iq(h:aC c=X):48<=c/\c<=57:=by simpa [aC] using h
theorem ahr(s:Bz)(p:Nat):∃(k:Int) (x:Bz),wdT s p= B0 #[M N k,M N p,M N (mh s (s.size+1) p),M N 0,M N 0,Q x]/\((k==1)=!(vE (s.extract p (mh s (s.size+1) p)))):=by
 unfold wdT vE;cases h:zj fG (s.extract p (mh s (s.size+1) p)) 22 0 with
 |none=>grind
 |some k=>grind
def BH(s:Bz)(r:s.size<=1100000)(p:Nat)(g:p<s.size)(f:aJ (ae s p)=X)(w:A3):Y S 24 #[Q s,M N p] w λe w'=>e= T (Ax #[wdT s p,M N (-1)])/\A6 w.heap.size w w':=by
 have u:=λw=>dx g w;have a:=λw=>pH (ae s p) w;have b:=λw=>abJ s r p (fs g) w;have t:=D2 f;rw[f]at a;generalize ae s p=k at u a t;have⟨x,z,m,q⟩:=ahr s p;rw[m]at b⊢;generalize mh s (s.size+1) p=h at b q;have G:(k==10)=W:=U;go_in;go_wp2_with (first|(go_at_call 50;apply(a _).mono;rintro e w' ⟨rfl,rfl⟩));generalize n:(w.alloc _).alloc _=i;obtain⟨j, -,l,K⟩:=Da n;have o:dL w.heap.size i 0 0 0 0 0 ⟨#[]⟩:=j;apply(b _).mono;rintro e y ⟨rfl,d⟩;have c:=o.below d O;have H:=l.trans (d.mono O);have⟨z0,A,B,C,E,F,ad⟩:=aE c;have L:w.heap.size<y.heap.size:=ah c;go_wp2;refine aD (v:= Ax #[B0 #[M N x,M N p,M N h,M N 0,M N 0,Q z],M N (-1)]) (by simp[results,results24,go_sem,z0,A,B,C,E,F]) rfl ⟨rfl,?_⟩
 iterate 6 refine gh ?_ I _
 omega
def qp(s:Bz):Bool:=decide (s.size<=40/\aJ (ae s 0)=X/\mh s (s.size+1) 0=s.size/\vE s=W)
theorem zJ(s:Bz)(q:s.size<=1100000)(w:A3):Y S 162 #[Q s] w λe w'=>e= T (Br (qp s))/\A6 w.heap.size w w':=by
 unfold qp;by_cases g:0<s.size
 .have r:((s.size:Int)==0)=W:=U;by_cases v:s.size<=40
  .have t:¬(40:Int)<(s.size:Int):=O;have n:∀w,(B2 9 (Q s) (M N 0)).run S w= .ok (M B4 (ae s 0)) w:=λw=>dx g w;have a:=λw=>pH (ae s 0) w;by_cases c:aJ (ae s 0)=X
   .have d:∀w,Y S 24 #[Q s,M N 0] w λe w'=>e= T (Ax #[wdT s 0,M N (-1)])/\A6 w.heap.size w w':=λw=>BH s q 0 g c w;rw[c]at a;have⟨h,y,j,k⟩:=ahr s 0;rw[j]at d;generalize mh s (s.size+1) 0=f at d k;generalize ae s 0=i at n a c;have m:decide (s.size<=40/\aJ i=X/\f=s.size/\vE s=W)=((h==1)&&((f:Int)==(s.size:Int))):=by
     by_cases x:f=s.size
     .simp_all
     grind
    rw[m];clear m k j c;by_cases l:h=1
    .subst l;go_in;go_wp2_with (first|(go_at_call 50;apply(a _).mono;rintro e w' ⟨rfl,rfl⟩)|(go_at_call 24;apply(d _).mono;rintro e u ⟨rfl,b⟩));go_ret;exact⟨I,b.alloc b.size _⟩
    .have o:(h==1)=W:=U;clear l;go_in;go_wp2_with (first|(go_at_call 50;apply(a _).mono;rintro e w' ⟨rfl,rfl⟩)|(go_at_call 24;apply(d _).mono;rintro e u ⟨rfl,b⟩));go_ret;exact⟨by simp[o],b.alloc b.size _⟩
   .have p:aJ (ae s 0)=W:=U;rw[(U:decide (s.size<=40/\aJ (ae s 0)=X/\mh s (s.size+1) 0=s.size/\vE s=W)=W)];rw[p]at a;generalize ae s 0=i at n a;go_in;go_wp2_with (first|(go_at_call 50;apply(a _).mono;rintro e w' ⟨rfl,rfl⟩));go_ret;exact⟨rfl,ai _ _⟩
  .have t:(40:Int)<(s.size:Int):=O;rw[(U:decide (s.size<=40/\aJ (ae s 0)=X/\mh s (s.size+1) 0=s.size/\vE s=W)=W)];go_in;go_wp2;go_ret;exact⟨rfl,ai _ _⟩
 .have r:((s.size:Int)==0)=X:=U;rw[show decide (s.size<=40/\aJ (ae s 0)=X/\mh s (s.size+1) 0=s.size/\vE s=W)=W by rw[di g];simp[aJ]];go_in;go_wp2;go_ret;exact⟨rfl,ai _ _⟩
def jo(c:Int):Bool:=decide (0<=gj c)
theorem oG(c:Int):jo c=X↔(48<=c/\c<=57)\/(97<=c/\c<=102):=by
 unfold jo gj;grind
theorem D5(c:Int)(w:A3):Y S 246 #[M B4 c] w λe w'=>e= T (Br (jo c))/\w=w':=by
 have a:=λw=>jC c w;by_cases b:aC c=X
 .rw[show jo c=X by rw[oG];have:=iq b;omega];rw[b]at a;go_in;go_wp2_with (first|(go_at_call 117;apply(a _).mono;rintro e w' ⟨rfl,rfl⟩));go_ret
  simp_all
 .have d:aC c=W:=U;rw[d]at a;have j:¬(48<=c/\c<=57):=by simpa [aC] using d
  rcases((O:(97<=c/\c<=102)\/c<97\/(97<=c/\102<c))) with⟨h,i⟩|g|⟨h,i⟩
  .rw[show jo c=X by rw[oG];omega];go_in;go_wp2_with (first|(go_at_call 117;apply(a _).mono;rintro e w' ⟨rfl,rfl⟩));go_ret
   simp_all
  .rw[show jo c=W by rw[<-adu,oG];omega];have f:¬97<=c:=O;go_in;go_wp2_with (first|(go_at_call 117;apply(a _).mono;rintro e w' ⟨rfl,rfl⟩));go_ret
   simp_all
  .rw[show jo c=W by rw[<-adu,oG];omega];have f:¬c<=102:=O;go_in;go_wp2_with (first|(go_at_call 117;apply(a _).mono;rintro e w' ⟨rfl,rfl⟩));go_ret
   simp_all
def gB(q:Int->Bool)(s:Bz):Nat->Nat->Nat
 |0,p=>p
 |f+1,p=>if q (ae s p)=X then gB q s f (p+1) else p
def D6{q:Int->Bool}(a:q (-1)=W)(h:q (ae s p)=X):p<s.size:=by
 rcases aH p s.size with h1|h1
 .exact h1
 .rw[di,a]at h;cases h
def kF(q:Int->Bool)(a:q (-1)=W)(s:Bz):∀(f p:Nat),p<=s.size->p<=gB q s f p/\gB q s f p<=s.size
 |0,p,h=>⟨cJ,h⟩
 |f+1,p,h=>by
  unfold gB;split
  .rename_i b;have c:=D6 a b;have:=kF q a s f (p+1) O;omega
  omega
def jx(q:Int->Bool)(s:Bz):∀(f p i:Nat),p<=i->i<gB q s f p->q (ae s i)=X
 |0,p,i,b,a=>by simp[gB]at a;omega
 |f+1,p,i,b,a=>by
  unfold gB at a;split at a
  .rename_i c;rcases js b with rfl|h3
   .exact c
   .exact jx q s f (p+1) i h3 a
  .omega
theorem jy(q:Int->Bool)(a:q (-1)=W)(s:Bz):∀(f p:Nat),s.size<p+f->q (ae s (gB q s f p))=W
 |0,p,h=>by
  unfold gB;rw[di,a]
 |f+1,p,h=>by
  unfold gB;split
  .exact jy q a s f (p+1) O
  grind
def pI:aC (-1)=W:=Z
def oy:jo (-1)=W:=Z
def lg(s:Bz)(p:Nat):Nat:=gB aC s (s.size+1) p
def uH(s:Bz)(p:Nat):Nat:=gB jo s (s.size+1) p
theorem ya(s:Bz)(v:s.size<=1100000)(p:Nat)(x:p<=s.size)(w:A3):Y S 224 #[Q s,M N p] w λe w'=>e= T (M N (lg s p))/\w'=w:=by
 unfold lg;have⟨n,k⟩:=aw (gB aC s (s.size+1) p);rw[k];have r:=aj k;go_in;go_wp21
 go_loop [1] (λi=>∃(b c:Nat),b<=s.size/\s.size<b+c/\i= M N b/\B1 (gB aC s c b=n)) (λi=>s.size-(A9 i).toNat)
 case atStart=>grind
 case round=>
  obtain⟨b,c,u,t,rfl,m⟩:=hrel;obtain⟨c,rfl⟩:∃o,c=o+1:=⟨c-1,O⟩;have a:=m.out;unfold gB at a;by_cases l:b<s.size
  .have q:=λw=>dx l w;generalize ae s b=h at q a;have f:=λw=>jC h w;by_cases d:aC h=X
   .rw[ab d]at a;have g:=aj a;rw[d]at f;clear d;go_wp2_with (go_at_call 117;apply(f _).mono;rintro e w' ⟨rfl,rfl⟩);go_round
    case rel=>grind
    case measure=>simp[A9];omega
   .have j:aC h=W:=U;rw[aa d]at a;have g:=aj a;rw[j]at f;clear d j a;go_wp2_with (go_at_call 117;apply(f _).mono;rintro e w' ⟨rfl,rfl⟩);go_ret;exact⟨by rw[<-g.out];rfl,rfl⟩
  .rw[aa (by rw[di l];decide)]at a;have g:=aj a;go_wp2;go_ret
   simp_all
def lh(s:Bz)(q:Nat):Nat×Bool:=if q+16<uH s q then(q+16,W) else(uH s q,decide (q<uH s q))
theorem abK(s:Bz)(G:s.size<=1100000)(p:Nat)(H:p<=s.size)(w:A3):Y S 223 #[Q s,M N p] w λe w'=>e= T (Ax #[M N ((lh s p).1:Int),Br (lh s p).2])/\w'=w:=by
 unfold lh uH;have⟨h,q⟩:=aw (gB jo s (s.size+1) p);rw[q];have A:=aj q;obtain⟨l,m,o⟩:∃l m,(if p+16<h then(p+16,W) else(h,decide (p<h)))=(l,m):=⟨_,_,rfl⟩;rw[o];have g:=aj o;go_in;go_wp21
 go_loop [6] (λk=>∃(a d:Nat),p<=a/\a<=p+16/\a<=s.size/\s.size<a+d/\k= M N a/\B1 (gB jo s d a=h)) (λk=>s.size-(A9 k).toNat)
 case atStart=>grind
 case round=>
  obtain⟨a,d,K,F,E,C,rfl,t⟩:=hrel;obtain⟨d,rfl⟩:∃v,d=v+1:=⟨d-1,O⟩;have c:=t.out;unfold gB at c;by_cases r:a<s.size
  .have z:=λw=>dx r w;generalize ae s a=j at z c;have f:=λw=>D5 j w;by_cases i:jo j=X
   .rw[ab i]at c;have y:=(kF jo oy s d (a+1) O).1;rw[c]at y;have B:=aj c;rw[i]at f;clear i;by_cases n:a=p+16
    .have b:=g.out;rw[ifp,<-n]at b;obtain⟨rfl,rfl⟩:=C8 b;have u:((a:Int)-(p:Int)==16)=X:=U;clear b g n;go_wp2_with (go_at_call 246;apply(f _).mono;rintro e w' ⟨rfl,rfl⟩);go_ret2
     simp_all
    .have u:((a:Int)-(p:Int)==16)=W:=U;go_wp2_with (go_at_call 246;apply(f _).mono;rintro e w' ⟨rfl,rfl⟩);go_round
     case rel=>grind
     case measure=>simp[A9];omega
   .have x:jo j=W:=U;rw[aa i]at c;subst c;rw[x]at f;have b:=g.out;rw[Ga]at b;obtain⟨rfl,rfl⟩:=C8 b;go_wp2_with (go_at_call 246;apply(f _).mono;rintro e w' ⟨rfl,rfl⟩);go_ret2
    simp_all
  .rw[aa (by rw[di r];decide)]at c;subst c;have b:=g.out;rw[Ga]at b;obtain⟨rfl,rfl⟩:=C8 b;go_wp2;go_ret2
   simp_all
theorem gH(s:Bz)(i:Nat)(b:UInt8):s.data.toList[i]?=A5 b↔i<s.size/\ae s i=(b.toNat:Int):=by
 unfold ae;by_cases c:i<s.size
 .rw[pG c];have a:s.data.toList[i]?=A5 s[i]:=by
   rw[CJ];exact Ib c
  rw[a];constructor
  .grind
  .intro ⟨_,d⟩;congr 1;exact UInt8.toNat_inj.1 O
 .have a:s.data.toList[i]?=A0:=by
   simp_all
  grind
theorem IH(s:Bz)(p:Nat)(x b:UInt8):B3 (s.extract p s.size).data.toList [x,b]=decide (ae s p=(x.toNat:Int)/\ae s (p+1)=(b.toNat:Int)):=by
 have n:(s.extract p s.size).data.toList=s.data.toList.drop p:=by
  rw[<-fL,Lib.extract_toList,dH]
  simp_all
 rw[n];unfold B3;rw[zw,zm,ga];constructor
 .rintro ⟨t,r⟩;have d:(s.data.toList.drop p)[0]?=A5 x:=U;have e:(s.data.toList.drop p)[1]?=A5 b:=U;rw[C1]at d e;exact⟨((gH s _ x).1 d).2,((gH s _ b).1 e).2⟩
 .rintro ⟨d,e⟩;have f:∀a (c:UInt8),ae s a=(c.toNat:Int)->s.data.toList[a]?=A5 c:=λa c g=>by
   refine(gH s a c).2 ⟨?_,g⟩;rcases aH a s.size with h2|h2
   .exact h2
   .rw[di]at g;omega
  have o:=f p x d;have q:=f (p+1) b e;refine⟨s.data.toList.drop (p+2),?_⟩;have h:=List.getElem?_eq_some_iff.1 o;have i:=List.getElem?_eq_some_iff.1 q;obtain⟨j,l⟩:=h;obtain⟨k,m⟩:=i;rw[ja j,ja k,l,m];rfl
def nA0(s:Bz)(p:Nat):Nat:=if ae s p=48 then p+1 else lg s (p+1)
def nA1(s:Bz)(a:Nat):Nat:=if ae s a=46/\aC (ae s (a+1))=X then lg s (a+1) else a
def nA2(s:Bz)(a:Nat):Nat:=if ae s (a+1)=43\/ae s (a+1)=45 then a+1+1 else a+1
def mu(s:Bz)(a:Nat):Nat×Bool:=if ae s a=101 then(lg s (nA2 s a),decide (nA2 s a<lg s (nA2 s a))) else(a,X)
def ci(s:Bz)(p:Nat):Nat×Bool:=if ae s p=48/\ae s (p+1)=120 then lh s (p+2) else mu s (nA1 s (nA0 s p))
def lL(s:Bz)(p:Nat)(h:p<=s.size:=by omega):p<=lg s p/\lg s p<=s.size:=kF aC pI s _ p h
def yc(s:Bz)(c:s.size<=1100000)(a:Int)(p:Nat)(b:a=(p:Int))(d:p<=s.size)(w:A3):Y S 224 #[Q s,M N a] w λe w'=>e= T (M N (lg s p))/\w'=w:=by
 subst b;exact ya s c p d w
def zK(a:Int)(i:Nat)(b:a=(i:Int))(h:i<s.size)(w:A3):(B2 9 (Q s) (M N a)).run S w= .ok (M B4 (ae s i)) w:=by
 subst b;exact dx h w
def aF(h:ae s i=c)(a:0<=c:=by omega):i<s.size:=by
 rcases aH i s.size with h2|h2
 .exact h2
 .rw[di]at h;omega
def qr(h:aC (ae s i)=X):i<s.size:=D6 pI h
def D7(s:Bz)(p:Nat)(w:A3):Y S 75 #[Q (s.extract p s.size),Q ⟨#[48,120]⟩] w λe w'=>e= T (Br (decide (ae s p=48/\ae s (p+1)=120)))/\w'=w:=by
 have a:=Tryz.strings_HasPrefix (s.extract p s.size) ⟨#[48,120]⟩ w;rw[show(⟨#[48,120]⟩:Bz).data.toList=[48,120] from rfl,IH]at a;exact a
theorem Gf(s:Bz)(g:s.size<=1100000)(p:Nat)(f:ae s p=48)(b:ae s (p+1)=120)(w:A3):Y S 185 #[Q s,M N p] w λe w'=>e= T (Ax #[M N ((lh s (p+2)).1:Int),Br (lh s (p+2)).2])/\w'=w:=by
 have j:=aF b;have c:=λw=>D7 s p w;rw[(U:decide (ae s p=48/\ae s (p+1)=120)=X)]at c;have a:∀w,Y S 223 #[Q s,M N ((p:Int)+2)] w λe w'=>e= T (Ax #[M N ((lh s (p+2)).1:Int),Br (lh s (p+2)).2])/\w'=w:=λw=>abK s g (p+2) O w;generalize lh s (p+2)=d at a;obtain⟨h,i⟩:=d;simp only at a⊢;clear f b;go_in;go_wp2_with (first|(go_at_call 75;refine eE (c _) ?_)|(go_at_call 223;refine eE (a _) ?_));go_ret2
 simp_all
abbrev IX(s:Bz)(a c:Int):Prop:=∀w,(B2 9 (Q s) (M N a)).run S w= .ok (M B4 c) w
abbrev DE(s:Bz)(a:Int)(B:Nat):Prop:=∀w,Y S 224 #[Q s,M N a] w λb w'=>b= T (M N (B:Int))/\w'=w
abbrev DQ(c:Int)(b:Bool):Prop:=∀w,Y S 117 #[M B4 c] w λa w'=>a= T (Br b)/\w'=w
def atk(s:Bz)(d:s.size<=1100000)(p:Nat)(f:p<s.size):∃a:Int,a=(nA0 s p:Nat)/\nA0 s p<=s.size/\((ae s p=48/\a=(p:Int)+1)\/((ae s p==48)=W/\DE s ((p:Int)+1) (nA0 s p)/\∃c,nA0 s p=c/\a=(c:Int))):=by
 unfold nA0;split
 .rename_i b;exact⟨_,rfl,O,.inl ⟨b,O⟩⟩
 .rename_i b;exact⟨_,rfl,(lL s (p+1)).2,.inr ⟨by simp[b],λe=>ya s d (p+1) O e,_,rfl,rfl⟩⟩
theorem atl(s:Bz)(i:s.size<=1100000)(c:Nat)(m:c<=s.size)(a:Int)(h:a=(c:Int)):∃b:Int,b=(nA1 s c:Nat)/\nA1 s c<=s.size/\((¬a+1<(s.size:Int)/\b=a/\nA1 s c=c)\/(a+1<(s.size:Int)/\IX s a (ae s c)/\((b=a/\nA1 s c=c/\(ae s c==46)=W)\/(ae s c=46/\IX s (a+1) (ae s (c+1))/\((b=a/\nA1 s c=c/\DQ (ae s (c+1)) W)\/(DQ (ae s (c+1)) X/\DE s (a+1) (nA1 s c)/\∃B,nA1 s c=B/\b=(B:Int))))))):=by
 have n:∀f,DQ f (aC f):=λf e=>(jC _ e).mono λl o d=>⟨d.1,d.2.symm⟩;have j:c<s.size->IX s a (ae s c):=λd e=>zK _ c h d e;have k:c+1<s.size->IX s (a+1) (ae s (c+1)):=λd e=>zK _ (c+1) O d e;unfold nA1;split
 .rename_i d;have g:=qr d.2;exact⟨_,rfl,(lL s (c+1)).2,.inr ⟨O,j O,.inr ⟨d.1,k g,.inr ⟨U,λe=>yc s i _ (c+1) O O e,_,rfl,rfl⟩⟩⟩⟩
 grind
theorem atm(s:Bz)(j:s.size<=1100000)(B:Nat)(l:B<=s.size)(b:Int)(f:b=(B:Int)):((b==(s.size:Int))=X/\((mu s B).1:Int)=b/\(mu s B).2=X)\/((b==(s.size:Int))=W/\IX s b (ae s B)/\(((ae s B==101)=W/\((mu s B).1:Int)=b/\(mu s B).2=X)\/(ae s B=101/\∃d:Int,((¬b+1<(s.size:Int)/\d=b+1)\/(b+1<(s.size:Int)/\IX s (b+1) (ae s (B+1))/\((ae s (B+1)=43/\d=b+1+1)\/(ae s (B+1)=45/\d=b+1+1)\/((ae s (B+1)==43)=W/\(ae s (B+1)==45)=W/\d=b+1))))/\∃C:Nat,DE s d C/\(mu s B).1=C/\(mu s B).2=decide (d<(C:Int))))):=by
 unfold mu;have m:B+1<s.size->IX s (b+1) (ae s (B+1)):=λe a=>zK _ (B+1) O e a;by_cases c:ae s B=101
 .have i:=aF c;rw[ab c];refine .inr ⟨U,λa=>zK _ B f i a,.inr ⟨c,(nA2 s B:Nat),?_,_,λa=>yc s j _ (nA2 s B) rfl ?_ a,rfl,U⟩⟩
  .unfold nA2;rcases((O:¬B+1<s.size\/(B+1<s.size/\ae s (B+1)=43)\/(B+1<s.size/\ae s (B+1)=45)\/(B+1<s.size/\ae s (B+1)≠43/\ae s (B+1)≠45))) with h2|⟨h2,h⟩|⟨h2,h⟩|⟨h2,h,k⟩
   .rw[aa (by rw[di h2];omega)];omega
   all_goals grind
  .unfold nA2;split
   .rename_i e;rcases aH (B+1) s.size with g|g
    .omega
    .rw[di]at e;omega
   .omega
 .rw[aa c];rcases(O:B=s.size\/B<s.size) with h2|h2
  .grind
  .exact .inr ⟨U,λa=>zK _ B f h2 a,.inl ⟨U,f.symm,rfl⟩⟩
def Gg(s:Bz)(f:s.size<=1100000)(p:Nat)(k:p<s.size)(l:¬(ae s p=48/\ae s (p+1)=120))(w:A3):Y S 185 #[Q s,M N p] w λe w'=>e= T (Ax #[M N ((mu s (nA1 s (nA0 s p))).1:Int),Br (mu s (nA1 s (nA0 s p))).2])/\w'=w:=by
 have m:=λw=>D7 s p w;rw[aG l]at m;have an:=λw=>dx k w;have⟨r,c,i,o⟩:=atk s f p k;obtain⟨t,d,j,g⟩:=atl s f _ i r c;have a:=atm s f _ j t d;generalize mu s (nA1 s (nA0 s p))=q at a⊢;obtain⟨ag,ak⟩:=q;simp only at a⊢;clear l;have u:nA0 s p<=1100000:=O;have v:nA1 s (nA0 s p)<=1100000:=O;generalize nA1 s (nA0 s p)=L at d j g a v;generalize nA0 s p=H at c i o g u;rcases o with⟨x,rfl⟩|⟨x,A,K,rfl,rfl⟩;all_goals
  rcases g with⟨G,rfl,rfl⟩|⟨G,ao,⟨rfl,rfl,y⟩|⟨y,ap,⟨rfl,rfl,n⟩|⟨n,B,ad,rfl,rfl⟩⟩⟩;all_goals
   rcases a with⟨E,b,rfl⟩|⟨E,ar,⟨z,b,rfl⟩|⟨z,al,⟨F,rfl⟩|⟨F,av,⟨h,rfl⟩|⟨h,rfl⟩|⟨h,am,rfl⟩⟩,af,C,rfl,rfl⟩⟩;all_goals first|omega|skip
   all_goals
    try rw[b]
    try clear b
    clear c d;go_in;go_wp2_with (first|(go_at_call 75;refine eE (m _) ?_)|(go_at_call 117;refine eE (n _) ?_)|(go_at_call 224;first|(with_reducible refine eE (A _) ?_)|(with_reducible refine eE (B _) ?_)|(with_reducible refine eE (C _) ?_)));all_goals
     go_ret2;exact rr
def yd(s:Bz)(b:s.size<=1100000)(p:Nat)(c:p<s.size)(w:A3):Y S 185 #[Q s,M N p] w λe w'=>e= T (Ax #[M N ((ci s p).1:Int),Br (ci s p).2])/\w'=w:=by
 unfold ci;by_cases a:ae s p=48/\ae s (p+1)=120
 .rw[ab a];exact Gf s b p a.1 a.2 w
 .rw[aa a];exact Gg s b p c a w
def tF(s:Bz)(p:Nat):Nat->Nat
 |0=>0
 |n+1=>tF s p n*16+(gj (ae s (p+n))).toNat
def abL(s:Bz)(p:Nat):∀n,tF s p n<16 ^ n
 |0=>by simp[tF]
 |n+1=>by
  have h:=abL s p n;have b:=ov (ae s (p+n));have a:16 ^ (n+1)=16 ^ n*16:=Nat.pow_succ 16 n;unfold tF;omega
def ahs(s:Bz)(p n:Nat)(h:n<=15):tF s p n<1152921504606846976:=by
 have a:=abL s p n;have b:16 ^ n<=16 ^ 15:=Nat.pow_le_pow_right O h;omega
def ab0(s:Bz)(p n:Nat)(h:n<=16):tF s p n<18446744073709551616:=by
 have a:=abL s p n;have b:16 ^ n<=16 ^ 16:=Nat.pow_le_pow_right O h;omega
def alt(c:Int)(a:97<=c)(b:c<=102):bits .or B4 c 32=c:=by
 rcases(O:c=97\/c=98\/c=99\/c=100\/c=101\/c=102) with rfl|rfl|rfl|rfl|rfl|rfl<;>decide+kernel
theorem aht(s:Bz)(j:Nat)(h:j<s.size):((s.data.toList.getD j 0).toNat:Int)=ae s j:=by
 have:s.data.toList[j]?=A5 s[j]:=by
  rw[CJ];exact Ib h
 rw[List.getD,this];unfold ae;grind
theorem atn(t:Bz)(al:1<=t.size)(am:t.size<=16)(r:∀i,i<t.size->jo (ae t i)=X)(w:A3):
  Y S 248 #[Q t,M N 16,M N 64] w λe w'=>e= T (Ax #[M Ck (tF t 0 t.size:Int),B7])/\w'=Lib.bytesWorld w 5 t:=by
 have an:t.toList.isEmpty=W:=by
  rw[<-decide_eq_emptyBytes];exact aG (λag=>byS)
 have E:=Lib.run_convert_string_bytes (P:=S) w 9 22 5 t (u:= .string) underlying9 underlying22 underlying5;have j:∀f,f<t.size->(Lib.bytesWorld w 5 t).cell? ⟨w.heap.size,f,A0⟩=A5 (M B4 (ae t f)):=λf s=>by rw[Lib.bytesWorld_cell w 5 t f s,aht t f s]
 obtain⟨p,q⟩:∃p,p=Lib.bytesWorld w 5 t:=⟨_,rfl⟩;rw[<-q]at E j⊢;clear q;have ap:IntKind.u64.wrap (IntKind.u64.wrap 18446744073709551616-1)=18446744073709551615:=by
  rfl
 obtain⟨l,m⟩:∃l:Int,(tF t 0 t.size:Int)=l:=⟨_,rfl⟩;rw[m];have o:=aj m;clear m;go_in;go_wp2;go_loop [12,13,101] (λL K n=>∃(a:Nat) (b:Int),L= Br W/\K= M Ck b/\n= M N a/\a<=t.size/\B1 (b=(tF t 0 a:Int))) (λ_ _ n=>t.size-(A9 n).toNat)
 case atStart=>exact⟨0,0,rfl,rfl,rfl,O,rfl⟩
 case round=>
  obtain⟨a,b,rfl,rfl,rfl,ao,d⟩:=hrel;by_cases v:a<t.size
  .have C:=j a v;have y:=(oG _).1 (r a v);have B:=ahs t 0 a O;have ad:0<=b:=by rw[d.out];omega
   have af:b<1152921504606846976:=by rw[d.out];omega
   have g:B1 (∀h:Int,gj (ae t a)=h->0<=h->b*16+h=(tF t 0 (a+1):Int)):=λh F ak=>by
    show _=((tF t 0 a*16+(gj (ae t (0+a))).toNat:Nat):Int);rw[ny,F,d.out];omega
   generalize ae t a=c at C y g;clear j B d r;rcases y with⟨z,A⟩|⟨z,A⟩
   .have k:B1 (b*16+(c-48)=(tF t 0 (a+1):Int)):=g.out (c-48) (by unfold gj;omega) O;clear g;go_wp2;refine⟨⟨a+1,b*16+(c-48),rfl,U,U,O,k⟩,by simp[A9];omega⟩
   .have k:B1 (b*16+(c-87)=(tF t 0 (a+1):Int)):=g.out (c-87) (by unfold gj;omega) O;clear g;have x:=alt c z A;have H:∀w,Y S 263 #[M B4 c] w λe w'=>e= T (M B4 c)/\w'=w:=λw=>by
     have:=Tryz.internal_strconv_lower c w;rw[x]at this;exact this
    clear x;go_wp2_with (go_at_call 263;refine eE (H _) ?_);refine⟨⟨a+1,b*16+(c-87),rfl,U,U,O,k⟩,by simp[A9];omega⟩
  .obtain rfl:a=t.size:=O;have G:b=l:=by rw[<-o.out,d.out]
   subst G;clear j d o;go_wp2;go_ret2
   simp_all
structure oH (w:A3):Prop where
 syn:∃te pe,w.cell? ⟨6,0,A0⟩=A5 (.iface te pe)
 rng:∃te pe,w.cell? ⟨7,0,A0⟩=A5 (.iface te pe)
def ug(h:A6 B w w'){a:Addr}(b:a.block<B):w'.cell? a=w.cell? a:=by
 unfold World.cell?;rw[h.block _ b]
def II{a:A3}(h:A6 B a w)(n:Nat):A6 B a (w.drewN n):=⟨h.os,h.tape,h.output,h.size,h.block⟩
def oH.below(h:oH w)(d:A6 B w w')(c:w.heap.size<=B):oH w':=by
 obtain⟨⟨f,e,a⟩,⟨g,p2,b⟩⟩:=h;exact⟨⟨f,e,(ug d (gF (C5 w _ a) c)).trans a⟩,⟨g,p2,(ug d (gF (C5 w _ b) c)).trans b⟩⟩
theorem uh(s:Bz)(i:Nat):ae s i=match s.data.toList[i]? with|some b=>(b.toNat:Int)|none=> -1:=by
 cases h:s.data.toList[i]? with
 |some b=>exact((gH s i b).1 h).2
 |none=>
  refine di λa=>?_
  simp_all
def GI(s:Bz)(n:Nat):Bz:=⟨(s.data.toList.drop n).toArray⟩
theorem ui(s:Bz)(n:Nat):(GI s n).size=s.size-n:=by
 show(s.data.toList.drop n).toArray.size=_
 simp_all
theorem GJ(s:Bz)(n i:Nat):ae (GI s n) i=ae s (n+i):=by
 rw[uh,uh];show(match (s.data.toList.drop n).toArray.toList[i]? with|some a=>(a.toNat:Int)|none=> -1)=_;grind
def Lb(s:Bz)(a p:Nat):∀n,tF (GI s a) p n=tF s (a+p) n
 |0=>rfl
 |n+1=>by
  unfold tF;rw[Lb s a p n,GJ,eH]
def arx(t:Bz)(c:1<=t.size)(a:t.size<=16)(d:∀i,i<t.size->jo (ae t i)=X)(w:A3):
  Y S 226 #[Q t,M N 16,M N 64] w λe w'=>e= T (Ax #[M Ck (tF t 0 t.size:Int),B7])/\A6 w.heap.size w w':=by
 have b:=λw=>atn t c a d w;have f:=ab0 t 0 t.size a;generalize (tF t 0 t.size:Int)=g at b;go_in;go_wp2_with (go_at_call 248;apply(b _).mono;rintro e w' ⟨rfl,rfl⟩);go_ret2;exact⟨rfl,Lib.bytesWorld_below _ _ _⟩
theorem Lc(s:Bz)(x a:UInt8):B3 s.data.toList [x,a]=decide (ae s 0=(x.toNat:Int)/\ae s 1=(a.toNat:Int)):=by
 have:=IH s 0 x a
 simp_all
theorem GK(q:Bz)(k:ae q 0=48)(l:ae q 1=120)(h3:3<=q.size)(m:q.size<=18)(o:∀i,2<=i->i<q.size->jo (ae q i)=X)(w:A3):
  Y S 186 #[Q q] w λe w'=>e= T (Ax #[M N (wrap64 (tF q 2 (q.size-2):Int)),Br X])/\A6 w.heap.size w w':=by
 have g:B3 q.data.toList [48,120]=X:=by rw[Lc];grind
 have c:∀w,Y S 225 #[Q q,Q ⟨#[48,120]⟩] w λe w'=>e= T (Ax #[Q (GI q 2),Br X])/\w'=w:=λw=>by
  have:=Tryz.strings_CutPrefix q ⟨#[48,120]⟩ w;rw[show(⟨#[48,120]⟩:Bz).data.toList=[48,120] from rfl,Lib.trimPrefix,g]at this;exact this
 have a:=λw=>arx (GI q 2) (by rw[ui];omega) (by rw[ui];omega) (λi f=>by rw[GJ];rw[ui]at f;grind) w;rw[Lb,ui]at a;have n:=ab0 q 2 (q.size-2) O;simp only[du]at a;obtain⟨b,h⟩:∃b:Int,(tF q 2 (q.size-2):Int)=b:=⟨_,rfl⟩;have p:0<=b:=O;have r:b<18446744073709551616:=O;rw[h]at a⊢;generalize GI q 2=j at c a;go_in;go_wp2_with (first|(go_at_call 225;apply(c _).mono;rintro e w' ⟨rfl,rfl⟩)|(go_at_call 226;apply(a _).mono;rintro e w' ⟨rfl,d⟩));go_quiet (fail)
 go_wp2;go_ret2;exact⟨rfl,II d _⟩
def AF(q:Bz):Option Int:=match Lib.parseIntB 64 q.data.toList with| .ok a=>A5 a|_=>A0
theorem GL(q:Bz)(o:q.size<=1100000)(p:¬(ae q 0=48/\ae q 1=120))(w:A3)(i:oH w):
  Y S 186 #[Q q] w λe w'=>(∃x,e= T (Ax #[M N x,Br (AF q).isSome])/\∀v,AF q=A5 v->x=v)/\A6 w.heap.size w w':=by
 have j:B3 q.data.toList [48,120]=W:=by rw[Lc];grind
 have f:∀w,Y S 225 #[Q q,Q ⟨#[48,120]⟩] w λe w'=>e= T (Ax #[Q ⟨q.data.toList.toArray⟩,Br W])/\w'=w:=λw=>by
  have:=Tryz.strings_CutPrefix q ⟨#[48,120]⟩ w;rw[show(⟨#[48,120]⟩:Bz).data.toList=[48,120] from rfl,Lib.trimPrefix,j]at this;exact this
 generalize (⟨q.data.toList.toArray⟩:Bz)=n at f;obtain⟨⟨u,r,l⟩,⟨y,s,k⟩⟩:=i;unfold AF;cases hp:Lib.parseIntB 64 q.data.toList with
 |ok v=>
  have c:Y S 227 #[Q q,M N 10,M N 64] w λe w'=>e= T (Ax #[M N v,B7])/\A6 w.heap.size w w':=(Tryz.strconv_ParseInt_10_at64_ok q O v hp w).mono λe w' b=>⟨b.1,by
   rcases b.2 with rfl|⟨t,rfl⟩
   .exact ai _ _
   .exact Lib.bytesWorld_below _ _ _⟩
  go_in;go_wp2_with (first|(go_at_call 225;apply(f _).mono;rintro e w' ⟨rfl,rfl⟩)|(go_at_call 227;apply c.mono;rintro e w' ⟨rfl,d⟩));go_quiet (fail)
  go_wp2;go_ret2;exact⟨⟨v,rfl,λ_ b=>cC b⟩,II d _⟩
 | «syntax» =>
  have c:Y S 227 #[Q q,M N 10,M N 64] w λe w'=>∃a,e= T (Ax #[M N 0,.iface 280 (.pointer (A5 ⟨a,0,A0⟩))])/\A6 w.heap.size w w':=(Tryz.strconv_ParseInt_10_at64_syntax q O hp _ w l (.inr ⟨_,_,rfl⟩)).mono λe w' ⟨a,g,_,_,h⟩=>⟨a,g,h⟩;go_in;go_wp2_with (first|(go_at_call 225;apply(f _).mono;rintro e w' ⟨rfl,rfl⟩)|(go_at_call 227;apply c.mono;rintro e w' ⟨a,rfl,d⟩));go_quiet (fail)
  go_wp2;go_ret2;exact⟨⟨0,rfl,λ_ b=>by cases b⟩,II d _⟩
 |range=>
  have c:Y S 227 #[Q q,M N 10,M N 64] w λe w'=>∃a,e= T (Ax #[M N (Lib.intSat 64 q.data.toList),.iface 280 (.pointer (A5 ⟨a,0,A0⟩))])/\A6 w.heap.size w w':=(Tryz.strconv_ParseInt_10_at64_range q O hp _ w k (.inr ⟨_,_,rfl⟩)).mono λe w' ⟨a,g,_,_,h⟩=>⟨a,g,h⟩;generalize Lib.intSat 64 q.data.toList=m at c;go_in;go_wp2_with (first|(go_at_call 225;apply(f _).mono;rintro e w' ⟨rfl,rfl⟩)|(go_at_call 227;apply c.mono;rintro e w' ⟨a,rfl,d⟩));go_quiet (fail)
  go_wp2;go_ret2;exact⟨⟨m,rfl,λ_ b=>by cases b⟩,II d _⟩
def stp(a:Option Nat)(c:UInt8):Option Nat:=match a with|none=>A0|some b=>if b*10+(c.toNat-48)<=9223372036854775807 then A5 (b*10+(c.toNat-48)) else A0
def Ld:∀l:List UInt8,l.foldl stp A0=A0
 |[]=>rfl
 |c::r=>Ld r
theorem aoH:∀(l:List UInt8)(a:Nat),(∀c∈l,48<=c.toNat/\c.toNat<=57)->9223372036854775808<=a->A2 (2 ^ 64-1) a l= .range\/∃u,A2 (2 ^ 64-1) a l= .ok u/\9223372036854775808<=u
 |[],a,_,h=> .inr ⟨a,rfl,h⟩
 |c::r,a,b,h=>by
  have d:=b c I;unfold A2;grind
theorem ahu:∀(l:List UInt8)(a:Nat),(∀c∈l,48<=c.toNat/\c.toNat<=57)->a<=9223372036854775807->(∀u,l.foldl stp (A5 a)=A5 u->A2 (2 ^ 64-1) a l= .ok u/\u<=9223372036854775807)/\(l.foldl stp (A5 a)=A0->A2 (2 ^ 64-1) a l= .range\/∃u,A2 (2 ^ 64-1) a l= .ok u/\9223372036854775808<=u)
 |[],a,_,h=>by
  refine⟨λu b=>?_,λhn=>U⟩;simp at b;subst b;exact⟨rfl,h⟩
 |c::r,a,g,h=>by
  have f:=g c I;have i:∀d∈r,48<=d.toNat/\d.toNat<=57:=λd n=>g d U;rw[zB,show stp (A5 a) c=if a*10+(c.toNat-48)<=9223372036854775807 then A5 (a*10+(c.toNat-48)) else A0 from rfl];by_cases e:a*10+(c.toNat-48)<=9223372036854775807
  .rw[ab e];have o:=ahu r (a*10+(c.toNat-48)) i e;have m:A2 (2 ^ 64-1) a (c::r)=A2 (2 ^ 64-1) (a*10+(c.toNat-48)) r:=by
    rw[A2,ab f,Ga,Ga]
   grind
  .rw[aa e,Ld r];refine⟨λu b=>(by cases b),λ_=>?_⟩;rw[A2,ab f];by_cases j:1844674407370955162<=a
   .grind
   .rw[aa j];by_cases k:2 ^ 64-1<a*10+(c.toNat-48)
    .grind
    .rw[aa k];exact aoH r _ i O
theorem ahv:∀(l:List UInt8)(a:Nat),(∃c∈l,¬(48<=c.toNat/\c.toNat<=57))->∀u,A2 (2 ^ 64-1) a l≠ .ok u
 |[],_,h,u=>U
 |c::r,a,h,u=>by
  rw[A2];by_cases b:48<=c.toNat/\c.toNat<=57
  .rw[ab b];split
   .grind
   .split
    .grind
    .refine ahv r _ ?_ u;grind
  grind
def qu(s:Bz)(p:Nat):Nat->Option Nat
 |0=>A5 0
 |n+1=>match qu s p n with|none=>A0|some x=>if x*10+(ae s (p+n)-48).toNat<=9223372036854775807 then A5 (x*10+(ae s (p+n)-48).toNat) else A0
theorem Le(s:Bz)(p:Nat):∀n,p+n<=s.size->qu s p n=((s.data.toList.drop p).take n).foldl stp (A5 0)
 |0,_=>rfl
 |n+1,h=>by
  have c:p+n<s.data.toList.length:=by rw[mJ];exact h
  have a:(s.data.toList.drop p)[n]?=A5 (s.data.toList[p+n]):=U;have b:ae s (p+n)=((s.data.toList[p+n]).toNat:Int):=((gH s (p+n) _).1 (bi c)).2;rw[il,a,List.foldl_append,<-Le s p n O,qu,b];simp only[Ik,zB,List.foldl_nil,stp];grind
theorem aoI(s:Bz)(p:Nat):∀n u,qu s p n=A5 u->u<=9223372036854775807
 |0,u,h=>by simp[qu]at h;omega
 |n+1,u,h=>by
  unfold qu at h;grind
def ahw(q:Bz)(h:∀i,i<q.size->aC (ae q i)=X):∀c∈q.data.toList,48<=c.toNat/\c.toNat<=57:=by
 intro c a;obtain⟨i,b,rfl⟩:=List.mem_iff_getElem.1 a;have:=(gH q i _).1 (bi b);have d:=iq (h i this.1);omega
theorem Lg(q:Bz)(a:aC (ae q 0)=X):∃c r,q.data.toList=c::r/\48<=c.toNat/\c.toNat<=57:=by
 have d:=qr a;cases hq:q.data.toList with
 |nil=>
  have:q.data.toList.length=q.size:=by rfl
  grind
 |cons c r=>
  refine⟨c,r,rfl,?_⟩;have:=(gH q 0 c).1 U;have b:=iq a;omega
theorem adF(c:UInt8)(r:List UInt8)(a:48<=c.toNat)(b:c.toNat<=57):Lib.parseIntB 64 (c::r)=match A2 (2 ^ 64-1) 0 (c::r) with| .syntax=> .syntax| .range=> .range| .ok u=>if 9223372036854775808<=u then .range else .ok (u:Int):=by
 simp only[Lib.parseIntB,Lib.parseUintB];grind
theorem Lh(q:Bz)(e:0<q.size)(h:∀i,i<q.size->aC (ae q i)=X):AF q=Option.map (λu:Nat=>(u:Int)) (qu q 0 q.size):=by
 have⟨a,b,j,f,g⟩:=Lg q (h 0 e);have c:=ahw q h;have d:=Le q 0 q.size O;rw[ni,dH (by rw[mJ];simp_all)]at d;rw[AF,d];rw[j]at c⊢;rw[adF a b f g];have k:=ahu (a::b) 0 c O;cases hx:(a::b).foldl stp (A5 0) with
 |some u=>
  grind
 |none=>
  grind
theorem zL(q:Bz)(e:aC (ae q 0)=X)(i:Nat)(h:i<q.size)(hn:aC (ae q i)=W):AF q=A0:=by
 have⟨a,d,j,f,g⟩:=Lg q e;have b:∃a∈q.data.toList,¬(48<=a.toNat/\a.toNat<=57):=by
  have c:i<q.data.toList.length:=by rw[mJ];exact h
  refine⟨q.data.toList[i],xd c,?_⟩;have:=(gH q i _).1 (bi c);have k:¬(48<=ae q i/\ae q i<=57):=by simpa [aC] using hn
  omega
 unfold AF;rw[j]at b⊢;rw[adF a d f g];have:=ahv (a::d) 0 b;grind
def se(q:Bz):Bool:=decide (aC (ae q 0)=X/\ci q 0=(q.size,X)/\¬(ae q 0=48/\ae q 1=120)/\AF q=A0)
def ahx(s:Bz)(p:Nat)(h:p<=s.size):p<=uH s p/\uH s p<=s.size:=kF jo oy s _ p h
def Li{e:Nat}(h:lh s p=(e,X)):p<e/\e<=p+16/\e=uH s p/\∀i,p<=i->i<e->jo (ae s i)=X:=by
 unfold lh at h;split at h
 .cases h
 .rename_i d;have⟨b,a⟩:=C8 h;subst b;exact⟨U,O,rfl,λi c a=>jx jo s _ p i c a⟩
theorem ab1{q:Bz}(a:0<q.size):(q.toList==[])=W:=by
 have:q.toList.length=q.size:=by rw[fL];simp
 grind
theorem Ll{q:Bz}(a:¬0<q.size):(q.toList==[])=X:=by
 simp_all
def G1(h:aC c=b)(w:A3):Y S 117 #[M B4 c] w λe w'=>e= T (Br b)/\w'=w:=(jC c w).mono λe w' a=>⟨U,a.2.symm⟩
def ab2(s:Bz)(b:s.size<=1100000)(a:0<s.size)(w:A3):Y S 185 #[Q s,M N 0] w λe w'=>e= T (Ax #[M N ((ci s 0).1:Int),Br (ci s 0).2])/\w'=w:=yd s b 0 a w
def IJ(s:Bz)(a:Nat)(h:a<=s.size):a<=(mu s a).1/\(mu s a).1<=s.size:=by
 unfold mu;split
 .rename_i c;have d:=aF c;have b:nA2 s a<=s.size/\a<nA2 s a:=by
   unfold nA2;split
   .rename_i hs;rcases hs with hs|hs
    .have:=aF hs;omega
    .have:=aF hs;omega
   .omega
  have:=lL s (nA2 s a) b.1;omega
 omega
def uj(s:Bz)(p:Nat)(h:p<s.size):p<nA0 s p/\nA0 s p<=s.size:=by
 unfold nA0;split
 .omega
 .have:=lL s (p+1);omega
def uk(s:Bz)(a:Nat)(h:a<=s.size):a<=nA1 s a/\nA1 s a<=s.size:=by
 unfold nA1;split
 .rename_i b;have:=lL s (a+1) (by have:=qr b.2;omega);omega
 .omega
theorem alu(s:Bz)(p:Nat)(h:p<=s.size):p<=(lh s p).1/\(lh s p).1<=s.size:=by
 have:=ahx s p h;unfold lh;grind
def kG(s:Bz)(p:Nat)(h:p<s.size):p<(ci s p).1/\(ci s p).1<=s.size:=by
 unfold ci;split
 .rename_i c;have:=aF c.2;have:=alu s (p+2) O;omega
 .have a:=uj s p h;have b:=uk s _ a.2;have d:=IJ s _ b.2;omega
theorem Lm(q:Bz)(l:q.size<=1100000)(w:A3)(r:oH w):Y S 233 #[Q q] w λe w'=>e= T (Br (se q))/\A6 w.heap.size w w':=by
 by_cases d:0<q.size
 .have y:=ab1 d;have f:∀w,(B2 9 (Q q) (M N 0)).run S w= .ok (M B4 (ae q 0)) w:=λw=>dx d w;by_cases k:aC (ae q 0)=X
  .have b:=λw=>G1 k w;have c:=λw=>ab2 q l d w;have o:=(kG q 0 d).2;by_cases m:(ci q 0).2=X
   .by_cases u:(ci q 0).1=q.size
    .have j:ci q 0=(q.size,X):=Prod.ext u m;rw[j]at c;by_cases i:ae q 0=48/\ae q 1=120
     .have a:se q=W:=by unfold se;grind
      rw[a];have v:lh q 2=(q.size,X):=by rw[<-j];unfold ci;grind
      have⟨B,C,E,p⟩:=Li v;have g:=λw=>GK q i.1 i.2 O O p w;generalize wrap64 (tF q 2 (q.size-2):Int)=F at g;generalize ae q 0=h at f b;go_in;go_wp2_with (first|(go_at_call 117;apply eE (b _))|(go_at_call 185;apply eE (c _))|(go_at_call 186;apply(g _).mono;rintro e w' ⟨rfl,s⟩));go_ret
      simp_all
     .have g:=GL q l i w r;have a:se q=!(AF q).isSome:=by
       unfold se;cases hdc:AF q<;>simp[k,j,i]
      rw[a];generalize (AF q).isSome=A at g;generalize ae q 0=h at f b;go_in;go_wp2_with (first|(go_at_call 117;apply eE (b _))|(go_at_call 185;apply eE (c _))|(go_at_call 186;apply g.mono;rintro e w' ⟨⟨G,rfl,_⟩,s⟩));go_ret
      simp_all
    .have a:se q=W:=by unfold se;grind
     rw[a];have x:((ci q 0).1:Int)<(q.size:Int):=O;rw[m]at c;generalize (ci q 0).1=n at c x;generalize ae q 0=h at f b;go_in;go_wp2_with (first|(go_at_call 117;apply eE (b _))|(go_at_call 185;apply eE (c _)));go_ret;exact⟨rfl,ai _ _⟩
   .have z:(ci q 0).2=W:=U;have a:se q=W:=by unfold se;grind
    rw[a];rw[z]at c;generalize (ci q 0).1=n at c o;generalize ae q 0=h at f b;go_in;go_wp2_with (first|(go_at_call 117;apply eE (b _))|(go_at_call 185;apply eE (c _)));go_ret;exact⟨rfl,ai _ _⟩
  .have t:aC (ae q 0)=W:=U;have b:=λw=>G1 t w;have a:se q=W:=by unfold se;grind
   rw[a];generalize ae q 0=h at f b;go_in;go_wp2_with (first|(go_at_call 117;apply eE (b _)));go_ret;exact⟨rfl,ai _ _⟩
 .have y:=Ll d;have a:se q=W:=by rw[se,di d];rfl
  rw[a];go_in;go_wp2;go_ret;exact⟨rfl,ai _ _⟩
def eG(h:aC c=b)(w:A3):Y S 52 #[M B4 c] w λe w'=>e= T (Br b)/\w'=w:=(BF c w).mono λe w' a=>⟨U,a.2.symm⟩
def iw(s:Bz)(d:s.size<=1100000)(a:Int)(i:Nat)(c:a=(i:Int))(w:A3):Y S 49 #[Q s,M N a] w λe w'=>e= T (M B4 (lk s i))/\w'=w:=by
 subst c;exact(DL s d i w).mono λe w' b=>⟨b.1,b.2.symm⟩
theorem AG(c:Int)(h:0<=c)(i:c<256)(w:A3):Y S 101 #[M B4 c] w λe w'=>e= T (M N (gj c))/\w'=w:=by
 unfold gj;by_cases b:aC c=X
 .have a:=λw=>eG b w;have d:=iq b;rw[ab d];clear b;go_in;go_wp2_with (first|(go_at_call 52;refine eE (a _) ?_));go_ret
  simp_all
 .have f:aC c=W:=U;have a:=λw=>eG f w;have d:¬(48<=c/\c<=57):=by simpa [aC] using f
  rw[aa d];clear b f d;rcases((O:(97<=c/\c<=102)\/¬97<=c\/(97<=c/\¬c<=102))) with⟨g1,g⟩|g1|⟨g1,g⟩
  .rw[ab ⟨g1,g⟩];go_in;go_wp2_with (first|(go_at_call 52;refine eE (a _) ?_));go_ret;exact⟨byT,rfl⟩
  .rw[Ga];go_in;go_wp2_with (first|(go_at_call 52;refine eE (a _) ?_));go_ret
   simp_all
  .rw[Ga];go_in;go_wp2_with (first|(go_at_call 52;refine eE (a _) ?_));go_ret
   simp_all
def adG(s:Bz)(i:Nat):gj (lk s i)=gj (ae s i):=by
 unfold lk;split
 .rfl
 .rename_i a;rw[di a];decide
def ul(h:i<s.size):lk s i=ae s i:=by unfold lk;omega
def hxA(s:Bz)(p:Nat):B6:=if(lh s (p+2)).2=X then B0 #[M N 2,M N p,M N ((lh s (p+2)).1:Int),M N 0,M N (wrap64 (tF s (p+2) ((lh s (p+2)).1-(p+2)):Int)),Q ⟨#[]⟩] else B0 #[M N 2,M N p,M N 0,M N 0,M N 0,Q ⟨#[]⟩]
def hxF(s:Bz)(p:Nat):Int:=if(lh s (p+2)).2=X then -1 else((lh s (p+2)).1:Int)
theorem Lp(s:Bz)(a6:s.size<=1100000)(p:Nat)(a8:p+2<=s.size)(w:A3):Y S 100 #[Q s,B0 #[M N 2,M N p,M N 0,M N 0,M N 0,Q ⟨#[]⟩]] w λe w'=>e= T (Ax #[hxA s p,M N (hxF s p)])/\A6 w.heap.size w w':=by
 have⟨bd,l⟩:=aw (hxA s p);have⟨am,hF⟩:=aw (hxF s p);rw[l,hF];unfold hxA at l;unfold hxF at hF;unfold lh at l hF;have⟨F,r⟩:=aw (uH s (p+2));rw[r]at l hF;unfold uH at r;have u:=aj r;have m:=aj l;have n:=aj hF;clear r l hF;go_in;go_wp2_with fail;generalize af:(w.alloc _).alloc _=x;obtain⟨b,G,bh, -⟩:=Da af;have a3:dL w.heap.size x 2 p 0 0 0 ⟨#[]⟩:=b;have ag:dL (w.heap.size+1) x 0 0 0 0 0 ⟨#[]⟩:=G;clear af b G;have bo:w.heap.size+1<x.heap.size:=ah ag;have⟨bp,br,bs,bt,bv,bw,bx⟩:=aE a3;have⟨z0,z,A,B,C,E,bA⟩:=aE ag;go_loop [6,7] (λy bc=>∃(a i:Nat) (b:Int),p+2<=a/\a<=p+18/\a<=s.size/\s.size<a+i/\y= M N a/\bc= M Ck b/\B1 (gB jo s i a=F)/\B1 (b=(tF s (p+2) (a-(p+2)):Int))) (λy _=>s.size-(A9 y).toNat)
 case atStart=>exact⟨p+2,s.size+1,0,O,O,a8,O,I,rfl,u,by show(0:Int)=_;rw[fI];rfl⟩
 case round=>
  obtain⟨a,i,b,bn,bl,bk,bj,rfl,rfl,t,g⟩:=hrel;obtain⟨i,rfl⟩:∃a2,i=a2+1:=⟨i-1,O⟩;have j:=t.out;unfold gB at j;have k:=λw=>iw s a6 (a:Int) a rfl w;have f:=λw=>AG (lk s a) (adC s a).1 (adC s a).2 w;rw[adG]at f;by_cases h:jo (ae s a)=X
  .have ak:a<s.size:=D6 oy h;have bb:=λw=>dx ak w;rw[ul ak]at k f;rw[ab h]at j;have a4:=(kF jo oy s i (a+1) O).1;rw[j]at a4;have bf:=aj j;have a9:0<=gj (ae s a):=by simpa [jo] using h
   have ba:=ov (ae s a);have ad:a≠p+18->tF s (p+2) (a-(p+2))<1152921504606846976:=λH=>ahs s (p+2) _ O;have an:B1 (b*16+gj (ae s a)=(tF s (p+2) (a+1-(p+2)):Int)):=by
    show _=_;rw[(O:a+1-(p+2)=(a-(p+2))+1),tF,(O:p+2+(a-(p+2))=a),g.out];omega
   have ao:0<=b:=by rw[g.out];omega
   have q:a≠p+18->b<1152921504606846976:=λH=>by have:=ad H;rw[g.out];omega
   generalize gj (ae s a)=ar at f a9 ba an;generalize ae s a=ap at k f bb;clear j h ad;by_cases K:a=p+18
   .have c:=m.out;have d:=n.out;simp only[ab (O:p+2+16<F)]at c d;simp at c d;subst c;have a5:am=(a:Int):=O;clear d;subst a5;have av:((a:Int)-(p:Int)==18)=X:=U;clear m n K q;go_wp2_with (first|(go_at_call 49;apply eE (k _))|(go_at_call 101;apply eE (f _)));refine aD (v:= Ax #[B0 #[M N 2,M N p,M N 0,M N 0,M N 0,Q ⟨#[]⟩],M N (a:Int)]) (by simp[results,results100,go_sem,z0,z,A,B,C,E]) rfl ⟨rfl,?_⟩
    iterate 6 refine gh ?_ I _
    omega
   .have av:((a:Int)-(p:Int)==18)=W:=U;have bg:=q K;clear q;go_wp2_with (first|(go_at_call 49;apply eE (k _))|(go_at_call 101;apply eE (f _)));go_round
    case rel=>grind
    case measure=>simp[A9];omega
  .have al:gj (ae s a)<0:=by
    have:¬0<=gj (ae s a):=by simpa [jo] using h
    omega
   rw[aa h]at j;subst j;have a7:¬(0:Int)<=gj (ae s a):=O;have ao:0<=b:=by rw[g.out];omega
   have q:b<18446744073709551616:=by rw[g.out];have:=ab0 s (p+2) (a-(p+2)) O;omega
   generalize gj (ae s a)=ar at f a7;generalize lk s a=ap at k f;have c:=m.out;have d:=n.out;simp only[aa (O:¬p+2+16<a)]at c d;by_cases L:a=p+2
   .have o:decide (p+2<a)=W:=U;simp only[o]at c d;simp at c d;subst c d;have aL:((a:Int)==(p:Int)+2)=X:=U;clear m n h al L o g t u;go_wp2_with (first|(go_at_call 49;apply eE (k _))|(go_at_call 101;apply eE (f _)));refine aD (v:= Ax #[B0 #[M N 2,M N p,M N 0,M N 0,M N 0,Q ⟨#[]⟩],M N (a:Int)]) (by simp[results,results100,go_sem,z0,z,A,B,C,E]) rfl ⟨rfl,?_⟩
    iterate 6 refine gh ?_ I _
    omega
   .have o:decide (p+2<a)=X:=U;simp only[o]at c d;simp only[nA]at c d;rw[<-g.out]at c;subst c d;have aL:((a:Int)==(p:Int)+2)=W:=U;clear m n h al L o g t u;go_wp2_with (first|(go_at_call 49;apply eE (k _))|(go_at_call 101;apply eE (f _)));refine aD (v:= Ax #[B0 #[M N 2,M N p,M N (a:Int),M N 0,M N (wrap64 b),Q ⟨#[]⟩],M N (-1)]) (by simp[results,results100,go_sem,z0,z,A,B,C,E]) rfl ⟨rfl,?_⟩
    iterate 8 refine gh ?_ I _
    omega
def vF(s:Bz)(i:Nat)(c:Int)(d:0<c:=by omega):(lk s i==c)=decide (ae s i=c):=by
 unfold lk;split
 .by_cases a:ae s i=c<;>simp[a]
 .rename_i a;rw[di a];have b:((0:Int)==c)=W:=by rw[qK];omega
  rw[b];symm;rw[wF];omega
def F8(s:Bz)(p:Nat):Bool:=decide ((ae s (nA0 s p)=46/\aC (ae s (nA0 s p+1))=X)\/ae s (nA1 s (nA0 s p))=101)
def alv(s:Bz)(p E:Nat)(R:Option Nat):B6:=match R with
 |some a=> B0 #[M N 2,M N p,M N (E:Int),M N 0,M N (a:Int),Q ⟨#[]⟩]
 |none=> B0 #[M N 3,M N p,M N (E:Int),M N 0,M N 0,Q (s.extract p E)]
def nmA(s:Bz)(p:Nat):B6:=
 if(mu s (nA1 s (nA0 s p))).2=X then
  (if F8 s p=X then B0 #[M N 3,M N p,M N ((mu s (nA1 s (nA0 s p))).1:Int),M N 0,M N 0,Q (s.extract p (mu s (nA1 s (nA0 s p))).1)]
  else alv s p (mu s (nA1 s (nA0 s p))).1 (qu s p ((mu s (nA1 s (nA0 s p))).1-p)))
 else B0 #[M N 3,M N p,M N 0,M N 0,M N 0,Q ⟨#[]⟩]
def nmF(s:Bz)(p:Nat):Int:=if(mu s (nA1 s (nA0 s p))).2=X then -1 else((mu s (nA1 s (nA0 s p))).1:Int)
def Lq(s:Bz)(p j:Nat)(h:qu s p j=A0):∀n,j<=n->qu s p n=A0
 |0,hn=>by
  obtain rfl:j=0:=O;exact h
 |n+1,hn=>by
  rcases js hn with rfl|h2
  .exact h
  .rw[qu,Lq s p j h n O]
def IK(s:Bz)(p:Nat)(e:aC (ae s p)=X)(a:F8 s p=W):(mu s (nA1 s (nA0 s p)))=(nA0 s p,X)/\∀i,p<=i->i<nA0 s p->aC (ae s i)=X:=by
 rw[F8,wF]at a;have d:nA1 s (nA0 s p)=nA0 s p:=by rw[nA1,aa (λb=>a (.inl b))]
 rw[d]at a⊢;refine⟨by unfold mu;rw[aa (λb=>a (.inr b))],λi f c=>?_⟩;rcases js f with rfl|h3
 .exact e
 .unfold nA0 at c;split at c
  .omega
  .exact jx aC s _ (p+1) i h3 c
def aoJ(s:Bz)(a:Nat)(h:ae s a=101)(c:aC (ae s (nA2 s a))=W):mu s a=(nA2 s a,W):=by
 have b:lg s (nA2 s a)=nA2 s a:=by rw[lg,gB,aa (by rw[c];simp)]
 rw[mu,ab h,b];simp
def alw(s:Bz)(a:Nat)(e:a<s.size)(h:ae s a=101)(b:aC (ae s (nA2 s a))=X):mu s a=(lg s (nA2 s a),X):=by
 have f:=qr b;have d:=kF aC pI s s.size (nA2 s a+1) O;have c:lg s (nA2 s a)=gB aC s s.size (nA2 s a+1):=by
  show gB aC s (s.size+1) (nA2 s a)=_;rw[gB,ab b]
 rw[mu,ab h,c];simp;omega
def ahy(s:Bz)(a:Nat)(h:ae s a=101):a<nA2 s a/\nA2 s a<=s.size:=by
 have b:=aF h;unfold nA2;split
 .rename_i hs;rcases hs with hs|hs
  .have:=aF hs;omega
  .have:=aF hs;omega
 .omega
def qv(s:Bz)(k:Nat):aC (ae s k)=X\/aC (ae s k)=W:=by cases aC (ae s k)<;>simp
def IL(s:Bz)(H:s.size<=1100000)(p:Nat)(d6:p<s.size)(cs:aC (ae s p)=X)(A:¬(ae s p=48/\ae s (p+1)=120))(w:A3):Y S 53 #[Q s,B0 #[M N 0,M N p,M N 0,M N 0,M N 0,Q ⟨#[]⟩]] w λe w'=>e= T (Ax #[nmA s p,M N (nmF s p)])/\A6 w.heap.size w w':=by
 have⟨eb,ch⟩:=aw (nmA s p);have⟨eF,cl⟩:=aw (nmF s p);rw[ch,cl];have k:=aj ch;have o:=aj cl;clear ch cl;have cu:=λw=>dx d6 w;go_in;go_upto_region 3 with fail
 generalize c9:(w.alloc _).alloc _=b0;obtain⟨a,cy,ck, -⟩:=Da c9;have b8:dL w.heap.size b0 2 p 0 0 0 ⟨#[]⟩:=a;have b9:dL (w.heap.size+1) b0 0 0 0 0 0 ⟨#[]⟩:=cy;clear c9 a cy;have ep:w.heap.size+1<b0.heap.size:=ah b9;have⟨ad,af,ag,ak,al,am,an⟩:=aE b8;go_cut [22] from 9 (λew r=>ew= Br W/\r=b0)
 case first=>
  by_cases y:ae s p=48
  .rw[y]at cu;have d2:¬ae s (p+1)=120:=λh=>A ⟨y,h⟩;have ef:(lk s (p+1)==120)=W:=by rw[vF _ _ _];simpa using d2
   have f:∀w,Y S 49 #[Q s,M N ((p:Int)+1)] w λe w'=>e= T (M B4 (lk s (p+1)))/\w'=w:=λw=>iw s H _ (p+1) O w;generalize lk s (p+1)=n at f ef;clear y d2 A cs k o;go_wp2_with (go_at_call 49;apply eE (f _));go_meet
   case rel=>exact rr
  .have b5:(ae s p==48)=W:=by rw[qK];exact y
   generalize ae s p=n at cu b5;clear y A k o;go_wp2_with fail;go_meet
   case rel=>exact rr
 case rest=>
  obtain⟨rfl,rfl⟩:=hcut;go_upto_if 34 with fail
  go_cut [6] from 9 (λa8 r=>a8= M N (nA0 s p:Int)/\r=wc)
  case first=>
   by_cases y:ae s p=48
   .have eg:B1 (nA0 s p=p+1):=by show _=_;unfold nA0;rw[ab y]
    rw[y];clear y A k o;go_wp2_with fail;go_meet
    case rel=>exact⟨by rw[eg.out];go_num,rfl⟩
   .have C:B1 (gB aC s (s.size+1) (p+1)=nA0 s p):=by show _=_;rw[nA0,aa y];rfl
    have b5:(ae s p !=48)=X:=by rw[bne_iff_ne];exact y
    rw[b5];have⟨g,t⟩:=aw (nA0 s p);rw[t]at C;have z:=aj t;clear y A k o b5 t;go_wp2;go_loop [6] (λi=>∃(b l:Nat),b<=s.size/\s.size<b+l/\i= M N b/\B1 (gB aC s l b=g)) (λi=>s.size-(A9 i).toNat)
    case atStart=>exact⟨p+1,s.size+1,O,O,by first|rfl|(congr 1;omega),C⟩
    case round=>
     obtain⟨b,l,dq,dl,rfl,bj⟩:=hrel;obtain⟨l,rfl⟩:∃bl,l=bl+1:=⟨l-1,O⟩;have d:=bj.out;unfold gB at d;have f:=λw=>iw s H (b:Int) b rfl w;rcases qv s b with h1|h1
     .have d1:b<s.size:=qr h1;have c:=λw=>eG ((qo s b).trans h1) w;rw[ab h1]at d;have m:=aj d;generalize lk s b=n at f c;clear d h1;go_wp2_with (first|(go_at_call 49;apply eE (f _))|(go_at_call 52;apply eE (c _)));go_round
      case rel=>exact⟨b+1,l,O,O,by go_num,m⟩
      case measure=>simp[A9];omega
     .have c:=λw=>eG ((qo s b).trans h1) w;rw[aa (by rw[h1];simp)]at d;have m:=aj d;generalize lk s b=n at f c;clear d h1;go_wp2_with (first|(go_at_call 49;apply eE (f _))|(go_at_call 52;apply eE (c _)));go_meet
      case rel=>exact⟨by rw[z.out,<-m.out],rfl⟩
  case rest=>
   obtain⟨rfl,rfl⟩:=hcut;have cg:=uj s p d6;go_upto_region 9 with fail
   obtain⟨D,c5⟩:∃D:Bool,decide (ae s (nA0 s p)=46/\aC (ae s (nA0 s p+1))=X)=D:=⟨_,rfl⟩;have u:=aj c5;clear c5;go_cut [51] from 9 (λex r=>ex= Br D/\r=wc)
   case first=>
    have f:=λw=>iw s H (nA0 s p:Int) (nA0 s p) rfl w;have B:∀w,Y S 49 #[Q s,M N ((nA0 s p:Int)+1)] w λe w'=>e= T (M B4 (lk s (nA0 s p+1)))/\w'=w:=λw=>iw s H _ (nA0 s p+1) O w;have bn:=vF s (nA0 s p) 46;by_cases a4:ae s (nA0 s p)=46
    .rw[dB a4]at bn;have a5:=u.out;rcases qv s (nA0 s p+1) with h1|h1
     .have c:=λw=>eG ((qo s (nA0 s p+1)).trans h1) w;rw[dB ⟨a4,h1⟩]at a5;subst a5;generalize lk s (nA0 s p+1)=ed at B c;generalize lk s (nA0 s p)=n at f bn;clear a4 h1 u k o;go_wp2_with (first|(go_at_call 49;first|(with_reducible refine eE (f _) ?_)|(with_reducible refine eE (B _) ?_))|(go_at_call 52;apply eE (c _)));go_meet
      case rel=>exact rr
     .have c:=λw=>eG ((qo s (nA0 s p+1)).trans h1) w;rw[aG (λh=>by rw[h.2]at h1;cases h1)]at a5;subst a5;generalize lk s (nA0 s p+1)=ed at B c;generalize lk s (nA0 s p)=n at f bn;clear a4 h1 u k o;go_wp2_with (first|(go_at_call 49;first|(with_reducible refine eE (f _) ?_)|(with_reducible refine eE (B _) ?_))|(go_at_call 52;apply eE (c _)));go_meet
      case rel=>exact rr
    .rw[aG a4]at bn;have a5:=u.out;rw[aG (λh=>a4 h.1)]at a5;subst a5;generalize lk s (nA0 s p)=n at f bn;clear a4 u k o;go_wp2_with (first|(go_at_call 49;apply eE (f _)));go_meet
     case rel=>exact rr
   case rest=>
    obtain⟨rfl,rfl⟩:=hcut;go_upto_if 51 with fail
    go_cut [6] from 9 (λa8 r=>a8= M N (nA1 s (nA0 s p):Int)/\dL w.heap.size r (if D=X then 3 else 2) p 0 0 0 ⟨#[]⟩/\dL (w.heap.size+1) r 0 0 0 0 0 ⟨#[]⟩/\A6 w.heap.size w r)
    case first=>
     cases D with
     |true=>
      have bg:=be u.out;have C:B1 (gB aC s (s.size+1) (nA0 s p+1)=nA1 s (nA0 s p)):=by show _=_;rw[nA1,ab bg];rfl
      have el:=qr bg.2;have⟨g,t⟩:=aw (nA1 s (nA0 s p));rw[t]at C;have z:=aj t;generalize nA0 s p=d9 at C el cg⊢;clear bg u k o A t;have E:=b8.setKind 3;have F:=b9.other (a:=⟨w.heap.size,0,A0⟩) I (M N 3);have K:A6 w.heap.size w (wc.setCell ⟨w.heap.size,0,A0⟩ (M N 3)):=ck.setCell I _;go_wp2;go_loop [6] (λi=>∃(b l:Nat),b<=s.size/\s.size<b+l/\i= M N b/\B1 (gB aC s l b=g)) (λi=>s.size-(A9 i).toNat)
      case atStart=>exact⟨d9+1,s.size+1,O,O,by first|rfl|(congr 1;omega),C⟩
      case round=>
       obtain⟨b,l,dq,dl,rfl,bj⟩:=hrel;obtain⟨l,rfl⟩:∃bl,l=bl+1:=⟨l-1,O⟩;have d:=bj.out;unfold gB at d;have f:=λw=>iw s H (b:Int) b rfl w;rcases qv s b with h1|h1
       .have d1:b<s.size:=qr h1;have c:=λw=>eG ((qo s b).trans h1) w;rw[ab h1]at d;have m:=aj d;generalize lk s b=n at f c;clear d h1;go_wp2_with (first|(go_at_call 49;apply eE (f _))|(go_at_call 52;apply eE (c _)));go_round
        case rel=>exact⟨b+1,l,O,O,by go_num,m⟩
        case measure=>simp[A9];omega
       .have c:=λw=>eG ((qo s b).trans h1) w;rw[aa (by rw[h1];simp)]at d;have m:=aj d;generalize lk s b=n at f c;clear d h1;go_wp2_with (first|(go_at_call 49;apply eE (f _))|(go_at_call 52;apply eE (c _)));go_meet
        case rel=>exact⟨by rw[z.out,<-m.out],E,F,K⟩
     |false=>
      have bg:=jE u.out;have t:nA1 s (nA0 s p)=nA0 s p:=by rw[nA1,aa bg]
      have z:=aj t;clear bg u k o A t;go_wp2_with fail;go_meet
      case rel=>exact⟨by rw[z.out],b8,b9,ck⟩
    case rest=>
     obtain⟨rfl,a6,bf,b6⟩:=hcut;clear b8 b9 ck ad af ag ak al am an ep;have cA:=uk s _ cg.2;have f:=λw=>iw s H (nA1 s (nA0 s p):Int) (nA1 s (nA0 s p)) rfl w;have cF:=vF s (nA1 s (nA0 s p)) 101;obtain⟨a3,cq⟩:∃a3:Bool,decide (ae s (nA1 s (nA0 s p))=101)=a3:=⟨_,rfl⟩;have a9:=aj cq;rw[cq]at cF;clear cq;have⟨ad,af,ag,ak,al,am,an⟩:=aE a6;have⟨z0,ao,ap,ar,av,aL,cd⟩:=aE bf;have bh:w.heap.size<wc.heap.size:=ah a6;have cc:w.heap.size+1<wc.heap.size:=ah bf;go_upto_if 64 with(go_at_call 49;apply(f _).mono;rintro e w' ⟨rfl,x⟩;obtain rfl:=x.symm)
     clear f cF;go_cut [6] from 9 (λa8 r=>a8= M N ((mu s (nA1 s (nA0 s p))).1:Int)/\(mu s (nA1 s (nA0 s p))).2=X/\dL w.heap.size r (if(D||a3)=X then 3 else 2) p 0 0 0 ⟨#[]⟩/\dL (w.heap.size+1) r 0 0 0 0 0 ⟨#[]⟩/\A6 w.heap.size w r)
     case first=>
      cases a3 with
      |false=>
       have L:=jE a9.out;have z:B1 (mu s (nA1 s (nA0 s p))=(nA1 s (nA0 s p),X)):=by show _=_;rw[mu,aa L]
       rw[<-If D]at a6;clear L a9 k o u A;go_wp2_with fail;go_meet
       case rel=>exact⟨by rw[z.out],by rw[z.out],a6,bf,b6⟩
      |true=>
       have L:=be a9.out;have br:=aoJ s (nA1 s (nA0 s p)) L;have bt:=alw s (nA1 s (nA0 s p)) (aF L) L;have cz:=ahy s (nA1 s (nA0 s p)) L;have B:∀w,Y S 49 #[Q s,M N ((nA1 s (nA0 s p):Int)+1)] w λe w'=>e= T (M B4 (lk s (nA1 s (nA0 s p)+1)))/\w'=w:=λw=>iw s H _ (nA1 s (nA0 s p)+1) O w;have b3:=vF s (nA1 s (nA0 s p)+1) 43;have b4:=vF s (nA1 s (nA0 s p)+1) 45;have bb:B1 (nA2 s (nA1 s (nA0 s p))=if decide (ae s (nA1 s (nA0 s p)+1)=43)=X\/decide (ae s (nA1 s (nA0 s p)+1)=45)=X then nA1 s (nA0 s p)+1+1 else nA1 s (nA0 s p)+1):=by show _=_;unfold nA2;simp
       generalize decide (ae s (nA1 s (nA0 s p)+1)=43)=cf at b3 bb;generalize decide (ae s (nA1 s (nA0 s p)+1)=45)=bA at b4 bb;have E:=a6.setKind 3;have F:=bf.other (a:=⟨w.heap.size,0,A0⟩) I (M N 3);have K:A6 w.heap.size w (wc.setCell ⟨w.heap.size,0,A0⟩ (M N 3)):=b6.setCell I _;have⟨b1,cp⟩:=aw (wc.setCell ⟨w.heap.size,0,A0⟩ (M N 3));rw[cp]at E F K;have cx:=aj cp;clear L a9 u A cp;go_upto_region 17 with fail
       rw[cx.out];clear cx a6 bf b6 ad af ag ak al am an z0 ao ap ar av aL cd bh cc;have⟨ad,af,ag,ak,al,am,an⟩:=aE E;have⟨z0,ao,ap,ar,av,aL,cd⟩:=aE F;have bh:w.heap.size<b1.heap.size:=ah E;have cc:w.heap.size+1<b1.heap.size:=ah F;go_cut [77] from 9 (λez r=>ez= Br (bA||cf)/\r=b1)
       case first=>
        generalize lk s (nA1 s (nA0 s p)+1)=n at B b3 b4;clear k o br bt bb;cases bA with
        |true=>
         go_wp2_with (first|(go_at_call 49;apply(B _).mono;rintro e w' ⟨rfl,x⟩;obtain rfl:=x.symm));go_meet
         case rel=>exact rr
        |false=>
         go_wp2_with (first|(go_at_call 49;apply(B _).mono;rintro e w' ⟨rfl,x⟩;obtain rfl:=x.symm));go_meet
         case rel=>exact rr
       case rest=>
        obtain⟨rfl,bv⟩:=hcut;obtain rfl:=bv.symm;clear bv;go_upto_if 77 with fail
        go_cut [6] from 9 (λa8 r=>a8= M N (nA2 s (nA1 s (nA0 s p)):Int)/\r=b1)
        case first=>
         clear k o br bt b3 b4 B;obtain⟨bD,cm⟩:∃bD:Bool,(bA||cf)=bD:=⟨_,rfl⟩;have c0:B1 (nA2 s (nA1 s (nA0 s p))=if bD=X then nA1 s (nA0 s p)+1+1 else nA1 s (nA0 s p)+1):=by show _=_;rw[bb.out,<-cm];cases bA<;>cases cf<;>simp
         rw[cm];clear cm bb;cases bD with
         |true=>
          go_wp2_with fail;go_meet
          case rel=>exact⟨by rw[c0.out];simp only[nA];go_num,rfl⟩
         |false=>
          go_wp2_with fail;go_meet
          case rel=>exact⟨by rw[c0.out];simp,rfl⟩
        case rest=>
         obtain⟨rfl,bv⟩:=hcut;obtain rfl:=bv.symm;clear bv bb b3 b4 B;have a7:=λw=>iw s H (nA2 s (nA1 s (nA0 s p)):Int) (nA2 s (nA1 s (nA0 s p))) rfl w;rcases qv s (nA2 s (nA1 s (nA0 s p))) with h1|h1
         .have c:=λw=>eG ((qo s (nA2 s (nA1 s (nA0 s p)))).trans h1) w;have cv:B1 (mu s (nA1 s (nA0 s p))=(lg s (nA2 s (nA1 s (nA0 s p))),X)):=bt h1;have⟨g,t⟩:=aw (lg s (nA2 s (nA1 s (nA0 s p))));have C:=aj t;have z:=aj t;generalize lk s (nA2 s (nA1 s (nA0 s p)))=ee at a7 c;generalize nA2 s (nA1 s (nA0 s p))=ea at C cz a7⊢;clear br bt t h1 k o;go_wp2_with (first|(go_at_call 49;apply(a7 _).mono;rintro e w' ⟨rfl,x⟩;obtain rfl:=x.symm)|(go_at_call 52;apply(c _).mono;rintro e w' ⟨rfl,x⟩;obtain rfl:=x.symm));clear a7 c;go_loop [6] (λi=>∃(b l:Nat),b<=s.size/\s.size<b+l/\i= M N b/\B1 (gB aC s l b=g)) (λi=>s.size-(A9 i).toNat)
          case atStart=>exact⟨ea,s.size+1,O,O,by first|rfl|(congr 1;omega),C⟩
          case round=>
           obtain⟨b,l,dq,dl,rfl,bj⟩:=hrel;obtain⟨l,rfl⟩:∃bl,l=bl+1:=⟨l-1,O⟩;have d:=bj.out;unfold gB at d;have f:=λw=>iw s H (b:Int) b rfl w;rcases qv s b with h1|h1
           .have d1:b<s.size:=qr h1;have c:=λw=>eG ((qo s b).trans h1) w;rw[ab h1]at d;have m:=aj d;generalize lk s b=n at f c;clear d h1;go_wp2_with (first|(go_at_call 49;apply eE (f _))|(go_at_call 52;apply eE (c _)));go_round
            case rel=>exact⟨b+1,l,O,O,by go_num,m⟩
            case measure=>simp[A9];omega
           .have c:=λw=>eG ((qo s b).trans h1) w;rw[aa (by rw[h1];simp)]at d;have m:=aj d;generalize lk s b=n at f c;clear d h1;go_wp2_with (first|(go_at_call 49;apply eE (f _))|(go_at_call 52;apply eE (c _)));go_meet
            case rel=>exact⟨by rw[cv.out,z.out,<-m.out],by rw[cv.out],by simpa using E,F,K⟩
         .have c:=λw=>eG ((qo s (nA2 s (nA1 s (nA0 s p)))).trans h1) w;have dg:=br h1;have j:=k.out;have G:=o.out;unfold nmA at j;unfold nmF at G;rw[dg]at j G;simp only[aa (I:¬W=X)]at j G;subst j;obtain⟨ce,c6⟩:∃ce:Int,(nA2 s (nA1 s (nA0 s p)):Int)=ce:=⟨_,rfl⟩;rw[c6]at G a7⊢;subst G;generalize lk s (nA2 s (nA1 s (nA0 s p)))=ee at a7 c;clear dg h1 br bt k o cz c6;go_wp2_with (first|(go_at_call 49;apply(a7 _).mono;rintro e w' ⟨rfl,x⟩;obtain rfl:=x.symm)|(go_at_call 52;apply(c _).mono;rintro e w' ⟨rfl,x⟩;obtain rfl:=x.symm));refine aD (v:= Ax #[B0 #[M N 3,M N p,M N 0,M N 0,M N 0,Q ⟨#[]⟩],M N ce]) (by simp[results,results53,go_sem,z0,ao,ap,ar,av,aL]) rfl ⟨rfl,?_⟩
          iterate 6 refine gh ?_ I _
          exact K
     case rest=>
      obtain⟨rfl,d4,bd,dc,c3⟩:=hcut;have cB:=IJ s _ cA.2;have c7:F8 s p=(D||a3):=by rw[F8,<-u.out,<-a9.out];simp
      have cr:=IK s p cs;have j:=k.out;have G:=o.out;unfold nmA at j;unfold nmF at G;rw[ab d4]at j G;subst G;rw[c7]at j cr;have em:p<(mu s (nA1 s (nA0 s p))).1:=O;have ek:(mu s (nA1 s (nA0 s p))).1<=s.size:=cB.2;have ca:(D||a3)=W->∀i,p<=i->i<(mu s (nA1 s (nA0 s p))).1->aC (ae s i)=X:=λh i h1 cI=>by
       have dn:=cr h;exact dn.2 i h1 (by rw[dn.1]at cI;exact cI)
      clear cr c7 u a9 k o d4 cB cA cg A cu cs;generalize (D||a3)=a2 at bd j ca;generalize (mu s (nA1 s (nA0 s p))).1=g at em ek j ca⊢;clear a6 bf b6 ad af ag ak al am an z0 ao ap ar av aL cd bh cc;have⟨ba,cn⟩:=aw (qu s p (g-p));rw[cn]at j;have bk:=aj cn;have k:=aj j;have bx:=aj ca;clear j ca cn;obtain⟨bw,cb⟩:∃bw:Int,(if a2=X then(3:Int) else 2)=bw:=⟨_,rfl⟩;rw[cb]at bd;have cw:B1 ((bw=2/\a2=W/\(0:Int)<=0/\qu s p (p-p)=A5 (0:Int).toNat)\/(bw=3/\(a2=X\/ba=A0))):=by
       cases a2 with
       |true=>exact .inr ⟨cb.symm,.inl rfl⟩
       |false=>exact .inl ⟨cb.symm,rfl,O,by rw[fI];rfl⟩
      clear cb;have⟨ad,af,ag,ak,al,am,an⟩:=aE bd;have bh:w.heap.size<wc.heap.size:=ah bd;have E:=bd.setTo (g:Int);have F:=dc.other (a:=⟨w.heap.size,2,A0⟩) I (M N (g:Int));have K:A6 w.heap.size w (wc.setCell ⟨w.heap.size,2,A0⟩ (M N (g:Int))):=c3.setCell I _;go_wp2;go_loopw [7,8] (λes i wr=>∃(b:Nat) (c a:Int),p<=b/\b<=g/\i= M N b/\es= M Ck a/\dL w.heap.size wr c p (g:Int) 0 0 ⟨#[]⟩/\dL (w.heap.size+1) wr 0 0 0 0 0 ⟨#[]⟩/\A6 w.heap.size w wr/\B1 ((c=2/\a2=W/\0<=a/\qu s p (b-p)=A5 a.toNat)\/(c=3/\(a2=X\/ba=A0)))) (λ_ i _=>g-(A9 i).toNat)
      case atStart=>exact⟨p,bw,0,cJ,O,rfl,rfl,E,F,K,cw⟩
      case round=>
       obtain⟨b,c,a,en,e0,rfl,rfl,bo,bp,bc,d⟩:=hrel;clear E F K bd dc c3 ad af ag ak al am an bh cw;have⟨ad,af,ag,ak,al,am,an⟩:=aE bo;have⟨z0,ao,ap,ar,av,aL,cd⟩:=aE bp;have bh:w.heap.size<wr.heap.size:=ah bo;have cc:w.heap.size+1<wr.heap.size:=ah bp;rcases d.out with⟨rfl,b7,eL,bs⟩|⟨rfl,d5⟩
       .have df:=aoI s p _ _ bs;by_cases ds:b<g
        .have dk:=bx.out b7 b en ds;have ei:=iq dk;have eq:=λw=>dx (s:=s) (i:=b) O w;have ct:qu s p (b+1-p)=if a.toNat*10+(ae s b-48).toNat<=9223372036854775807 then A5 (a.toNat*10+(ae s b-48).toNat) else A0:=by
          rw[(O:b+1-p=(b-p)+1),qu,bs,(O:p+(b-p)=b)]
         have ec:a<=9223372036854775807:=O;have d3:qu s p (b+1-p)=A0->ba=A0:=λh=>by rw[<-bk.out];exact Lq s p _ h _ O
         have m:B1 ((¬a*10+(ae s b-48)<=9223372036854775807->ba=A0)/\(a*10+(ae s b-48)<=9223372036854775807->qu s p (b+1-p)=A5 (a*10+(ae s b-48)).toNat)):=by
          refine⟨λh=>d3 (by rw[ct,Ga]),λh=>?_⟩;rw[ct,ifp]
          congr 1
          omega
         generalize ae s b=n at eq ei m;clear dk ct d3 bs d bx bk k df;have c8:=bo.setKind 3;have dd:=bp.other (a:=⟨w.heap.size,0,A0⟩) I (M N 3);have c4:A6 w.heap.size w (wr.setCell ⟨w.heap.size,0,A0⟩ (M N 3)):=bc.setCell I _;have d0:(b:Int)<(g:Int):=O;rcases((O:922337203685477580<a\/(a=922337203685477580/\55<n)\/(a=922337203685477580/\¬55<n)\/a<922337203685477580)) with q|⟨q,et⟩|⟨q,et⟩|q
         .have a0:B1 (ba=A0):=m.1 O;clear m;go_wp2;go_roundw
          case rel=>exact⟨b+1,3,_,O,O,by go_num,rfl,c8,dd,c4,.inr ⟨rfl,.inr a0⟩⟩
          case measure=>simp[A9];omega
         .have a0:B1 (ba=A0):=m.1 O;have d8:(a==922337203685477580)=X:=by rw[mL];exact q
          have d7:¬922337203685477580<a:=O;clear m q;go_wp2;go_roundw
          case rel=>exact⟨b+1,3,_,O,O,by go_num,rfl,c8,dd,c4,.inr ⟨rfl,.inr a0⟩⟩
          case measure=>simp[A9];omega
         .have a0:B1 (qu s p (b+1-p)=A5 (a*10+(n-48)).toNat):=m.2 O;have d8:(a==922337203685477580)=X:=by rw[mL];exact q
          have d7:¬922337203685477580<a:=O;have ev:a*10+(n-48)<=9223372036854775807:=O;clear m q;go_wp2;go_roundw
          case rel=>exact⟨b+1,2,a*10+(n-48),O,O,by go_num,by first|rfl|(congr 1;omega),bo,bp,bc,.inl ⟨rfl,b7,O,a0⟩⟩
          case measure=>simp[A9];omega
         .have a0:B1 (qu s p (b+1-p)=A5 (a*10+(n-48)).toNat):=m.2 O;have d8:(a==922337203685477580)=W:=by rw[qK];omega
          have d7:¬922337203685477580<a:=O;have ev:a*10+(n-48)<=9223372036854775807:=O;clear m;go_wp2;go_roundw
          case rel=>exact⟨b+1,2,a*10+(n-48),O,O,by go_num,by first|rfl|(congr 1;omega),bo,bp,bc,.inl ⟨rfl,b7,O,a0⟩⟩
          case measure=>simp[A9];omega
        .obtain rfl:b=g:=O;have j:=k.out;rw[b7,<-bk.out,bs]at j;simp only[aa (I:¬W=X),alv]at j;rw[(O:((a.toNat:Nat):Int)=a)]at j;subst j;have e1:wrap64 a=a:=by unfold wrap64;omega
         have ec:a<=9223372036854775807:=O;clear k bk bx d bs df;go_wp2;refine aD (v:= Ax #[B0 #[M N 2,M N p,M N (b:Int),M N 0,M N a,Q ⟨#[]⟩],M N (-1)]) (by simp[results,results53,go_sem,z0,ao,ap,ar,av,aL]) rfl ⟨rfl,?_⟩
         iterate 7 refine gh ?_ I _
         exact bc
       .have j:=k.out;have eh:Value.agg #[M N 3,M N p,M N (g:Int),M N 0,M N 0,Q (s.extract p g)]=eb:=by
         rcases d5 with h|h
         .rw[h]at j;exact j
         .rw[h]at j;cases a2<;>exact j
        subst eh;clear j k bk bx d d5;by_cases ds:b<g
        .have d0:(b:Int)<(g:Int):=O;go_wp2;refine aD (v:= Ax #[B0 #[M N 3,M N p,M N (g:Int),M N 0,M N 0,Q (s.extract p g)],M N (-1)]) (by simp[results,results53,go_sem,z0,ao,ap,ar,av,aL]) rfl ⟨rfl,?_⟩
         iterate 7 refine gh ?_ I _
         exact bc
        .have d0:¬(b:Int)<(g:Int):=O;go_wp2;refine aD (v:= Ax #[B0 #[M N 3,M N p,M N (g:Int),M N 0,M N 0,Q (s.extract p g)],M N (-1)]) (by simp[results,results53,go_sem,z0,ao,ap,ar,av,aL]) rfl ⟨rfl,?_⟩
         iterate 7 refine gh ?_ I _
         exact bc
def ahz(s:Bz)(p:Nat):∃(t n:Int),hxA s p= B0 #[M N 2,M N p,M N t,M N 0,M N n,Q ⟨#[]⟩]:=by
 unfold hxA;split<;>exact⟨_,_,rfl⟩
def Cn(s:Bz)(p:Nat):B6:=if ae s p=48/\ae s (p+1)=120 then hxA s p else nmA s p
def AH(s:Bz)(p:Nat):Int:=if ae s p=48/\ae s (p+1)=120 then hxF s p else nmF s p
theorem aoK(s:Bz)(p:Nat):∃(k t n:Int) (x:Bz),nmA s p= B0 #[M N k,M N p,M N t,M N 0,M N n,Q x]:=by
 unfold nmA alv;split
 .split
  .grind
  .split<;>exact⟨_,_,_,_,rfl⟩
 grind
theorem adH(s:Bz)(p:Nat):∃(k t n:Int) (x:Bz),Cn s p= B0 #[M N k,M N p,M N t,M N 0,M N n,Q x]:=by
 unfold Cn;split
 .obtain⟨t,n,a⟩:=ahz s p;grind
 .exact aoK s p
def I0(s:Bz)(f:s.size<=1100000)(p:Nat)(k:ae s p=48)(b:ae s (p+1)=120)(w:A3):Y S 53 #[Q s,B0 #[M N 0,M N p,M N 0,M N 0,M N 0,Q ⟨#[]⟩]] w λe w'=>e= T (Ax #[hxA s p,M N (hxF s p)])/\A6 w.heap.size w w':=by
 have q:=aF b;have r:=λw=>dx (s:=s) (i:=p) O w;rw[k]at r;have t:∀w,Y S 49 #[Q s,M N ((p:Int)+1)] w λe w'=>e= T (M B4 120)/\w'=w:=λw=>by
  have:=iw s f ((p:Int)+1) (p+1) O w;rw[ul q,b]at this;exact this
 have a:=λw=>Lp s f p O w;have⟨x,u,l⟩:=ahz s p;rw[l]at a⊢;generalize hxF s p=g at a;go_in;go_wp2_with (go_at_call 49;refine eE (t _) ?_);generalize n:(w.alloc _).alloc _=h;obtain⟨-,j,m,G⟩:=Da n;have o:dL (w.heap.size+1) h 0 0 0 0 0 ⟨#[]⟩:=j;refine dm (a _) λy d=>?_;have c:=o.below d O;have F:=m.trans (d.mono O);have⟨z0,z,A,B,C,E,K⟩:=aE c;have H:w.heap.size+1<y.heap.size:=ah c;go_wp2;refine aD (v:= Ax #[B0 #[M N 2,M N p,M N x,M N 0,M N u,Q ⟨#[]⟩],M N g]) (by simp[results,results53,go_sem,z0,z,A,B,C,E]) rfl ⟨rfl,?_⟩
 iterate 6 refine gh ?_ I _
 omega
def I2(s:Bz)(b:s.size<=1100000)(p:Nat)(d:p<s.size)(c:aC (ae s p)=X)(w:A3):Y S 53 #[Q s,B0 #[M N 0,M N p,M N 0,M N 0,M N 0,Q ⟨#[]⟩]] w λe w'=>e= T (Ax #[Cn s p,M N (AH s p)])/\A6 w.heap.size w w':=by
 unfold Cn AH;split
 .rename_i a;exact I0 s b p a.1 a.2 w
 .rename_i a;exact IL s b p d c a w
def lp(h:aJ c=b)(w:A3):Y S 50 #[M B4 c] w λe w'=>e= T (Br b)/\w'=w:=(pH c w).mono λe w' a=>⟨U,a.2.symm⟩
def yx(s:Bz)(t:s.size<=1100000)(p:Nat)(f:p<s.size)(a:aC (ae s p)=X)(w:A3):Y S 24 #[Q s,M N p] w λe w'=>e= T (Ax #[Cn s p,M N (AH s p)])/\A6 w.heap.size w w':=by
 have x:=λw=>dx f w;have u:=iq a;have r:aJ (ae s p)=W:=by simp[aJ];omega
 have h:=λw=>lp r w;have g:=λw=>eG a w;have b:=λw=>I2 s t p f a w;have⟨y,A,z,C,n⟩:=adH s p;rw[n]at b⊢;generalize AH s p=i at b;generalize ae s p=l at x h g u;have L:(l==10)=W:=U;go_in;go_wp2_with (first|(go_at_call 50;refine eE (h _) ?_)|(go_at_call 52;refine eE (g _) ?_));generalize o:(w.alloc _).alloc _=j;obtain⟨k, -,m,af⟩:=Da o;have q:dL w.heap.size j 0 0 0 0 0 ⟨#[]⟩:=k;refine dm (b _) λB d=>?_;have c:=q.below d O;have ad:=m.trans (d.mono O);have⟨z0,E,F,G,H,K,ak⟩:=aE c;have ag:w.heap.size<B.heap.size:=ah c;go_wp2;refine aD (v:= Ax #[B0 #[M N y,M N p,M N A,M N 0,M N z,Q C],M N i]) (by simp[results,results24,go_sem,z0,E,F,G,H,K]) rfl ⟨rfl,?_⟩
 iterate 6 refine gh ?_ I _
 omega
theorem ahA(s:Bz)(p:Nat):(AH s p<0↔(ci s p).2=X)/\∃(k t n:Int) (x:Bz),Cn s p= B0 #[M N k,M N p,M N t,M N 0,M N n,Q x]/\((ci s p).2=X->t=((ci s p).1:Int)/\((k==3)=decide (¬(ae s p=48/\ae s (p+1)=120)/\(F8 s p=X\/qu s p ((ci s p).1-p)=A0)))):=by
 unfold AH Cn ci;by_cases a:ae s p=48/\ae s (p+1)=120
 .simp only[ab a];unfold hxF hxA;cases hh:(lh s (p+2)).2 with
  |true=>
   grind
  |false=>
   grind
 .simp only[aa a];unfold nmF nmA alv;cases hh:(mu s (nA1 s (nA0 s p))).2 with
  |true=>
   simp only[nA];refine⟨⟨λ_=>trivial,λ_=>O⟩,?_⟩;cases hk:F8 s p with
   |true=>
    grind
   |false=>
    simp only[aa (I:¬W=X)];cases hc:qu s p ((mu s (nA1 s (nA0 s p))).1-p) with
    |none=>grind
    |some b=>grind
  |false=>
   grind
def adI(q:Bz)(a:aC (ae q 0)=X)(f:mu q (nA1 q (nA0 q 0))=(q.size,X)):AF q=A0↔(F8 q 0=X\/qu q 0 q.size=A0):=by
 cases hk:F8 q 0 with
 |false=>
  have⟨e,b⟩:=IK q 0 a hk;have d:nA0 q 0=q.size:=U;rw[Lh q (qr a) (λc g=>b c O O)];simp
 |true=>
  simp only[true_or,iff_true];unfold F8 at hk;rcases be hk with h|h
  .exact zL q a _ (aF h.1) (by rw[h.1];decide)
  .exact zL q a _ (aF h) (by rw[h];decide)
def fok(q:Bz):Bool:=decide (q.size<=40)&&se q
theorem Lr(s:Bz)(x:s.size<=1100000)(w:A3):Y S 161 #[Q s] w λe w'=>e= T (Br (fok s))/\A6 w.heap.size w w':=by
 unfold fok;by_cases h:0<s.size
 .have B:((s.size:Int)==0)=W:=U;by_cases n:s.size<=40
  .have C:¬(40:Int)<(s.size:Int):=O;have o:∀w,(B2 9 (Q s) (M N 0)).run S w= .ok (M B4 (ae s 0)) w:=λw=>dx h w;by_cases c:aC (ae s 0)=X
   .have b:=λw=>eG c w;have d:∀w,Y S 24 #[Q s,M N 0] w λe w'=>e= T (Ax #[Cn s 0,M N (AH s 0)])/\A6 w.heap.size w w':=λw=>yx s x 0 h c w;have⟨hF,l,E,F,G,r,y⟩:=ahA s 0;rw[r]at d;have z:(decide (s.size<=40)&&se s)=(decide (AH s 0<0)&&((l==3)&&(E==(s.size:Int)))):=by
     rw[dB n,gK];unfold se;cases h2:(ci s 0).2 with
     |false=>
      grind
     |true=>
      have⟨A,j⟩:=y h2;rw[dB (hF.2 h2),gK,j,A];by_cases u:(ci s 0).1=s.size
      .have i:ci s 0=(s.size,X):=Prod.ext u h2;rw[i];simp only[Il,beq_self_eq_true,Bool.and_true];rw[decide_eq_decide];constructor
       .rintro ⟨_,_,f,g⟩;have k:mu s (nA1 s (nA0 s 0))=(s.size,X):=by rw[<-i];unfold ci;grind
        exact⟨f,(adI s c k).1 g⟩
       .rintro ⟨f,g⟩;have k:mu s (nA1 s (nA0 s 0))=(s.size,X):=by rw[<-i];unfold ci;grind
        exact⟨c,trivial,f,(adI s c k).2 g⟩
      grind
    rw[z];generalize AH s 0=m at d;generalize ae s 0=q at o b;by_cases hF:m<0
    .by_cases j:l=3
     .subst j;go_in;go_wp2_with (first|(go_at_call 52;refine eE (b _) ?_)|(go_at_call 24;refine(d _).mono ?_;rintro e p ⟨rfl,a⟩));go_ret;exact⟨by simp[hF],a.alloc a.size _⟩
     .have v:(l==3)=W:=U;go_in;go_wp2_with (first|(go_at_call 52;refine eE (b _) ?_)|(go_at_call 24;refine(d _).mono ?_;rintro e p ⟨rfl,a⟩));go_ret;exact⟨by simp[v],a.alloc a.size _⟩
    .go_in;go_wp2_with (first|(go_at_call 52;refine eE (b _) ?_)|(go_at_call 24;refine(d _).mono ?_;rintro e p ⟨rfl,a⟩));go_ret;exact⟨by rw[aG (O:¬m<0)];simp,a.alloc a.size _⟩
   .have t:aC (ae s 0)=W:=U;have b:=λw=>eG t w;rw[show se s=W by unfold se;grind,C0];generalize ae s 0=q at o b;go_in;go_wp2_with (first|(go_at_call 52;refine eE (b _) ?_));go_ret;exact⟨rfl,ai _ _⟩
  .have C:(40:Int)<(s.size:Int):=O;rw[aG n,gJ];go_in;go_wp2;go_ret;exact⟨rfl,ai _ _⟩
 .have B:((s.size:Int)==0)=X:=U;rw[show se s=W by unfold se;rw[di h];rfl,C0];go_in;go_wp2;go_ret;exact⟨rfl,ai _ _⟩
