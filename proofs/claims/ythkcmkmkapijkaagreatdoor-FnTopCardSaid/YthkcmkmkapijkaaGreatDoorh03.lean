import Derived.Test.YthkcmkmkapijkaaGreatDoorRows
import Derived.LaidMore
import Derived.LaidSub
import Derived.OpenShut
import Derived.OpenVars
import Derived.Stop.Joined
import Derived.Test.YthkcmkmkapijkaaGreatDoorh02
import Derived.Stop.Asserts
set_option linter.all false
set_option maxRecDepth 100000
set_option maxHeartbeats 25600000
open Go.Proofs.Tryz
open Go.Proofs.Tryz renaming prog->M
open Go renaming World->N,Calls->Ax,Value->Br,TypeId->B6
open Go.Ending renaming returned->Q
open Go.Value renaming string->S,iface->A0,tuple->A1,bool->A2,agg->B2,nilIface->B3,int->B9,pointer->C2,int->D1
open Bool renaming false->T,true->V
open Go.Lib renaming parseUintM->X,hasPrefix->B1
open Option renaming some->Y,none->A9
open Go.Result renaming andThen->A3
open Go.RowKit renaming Below->A5,intOf->B0,Hid->B7
open Go.Instr renaming index->B4
open Go.Obj renaming cells->B5
namespace Go.Proofs.YthkcmkmkapijkaaGreatDoor
open Go.ChangeShapes Go.WideShapes Go.ChangeAt Go.WideMaps Go.WideElems Go.RowKit
def Jo{H}{m:B6×Br->H}{P w j E x fuel t e n}{cs:zLV}{d:List (List UInt8)}{p}
  (B:P.underlying t=Y (.array n e)) (u:P.underlying e=Y .string) (q:P.cellsOf e=1) (s:P.cellsOf t=n)
  (h:DataW.trod m P w j E x fuel t cs=Y (.agg<|d.map λb=> .lit (.string b),p)):cs=d.map λb=>Value.string ⟨b.toArray⟩:=by
 obtain⟨F,_,rfl,f,z,C,v⟩:=DataW.trod_array B h;simp only[oI,DataW.agg.injEq]at f;have A:d.length=n:=by have:=congrArg List.length f.1;simpa [C] using this
 apply List.ext_getElem (by simp[z,s,A]);intro a o _;have y:a<n:=O;have g:=v a y;rw[q,zm,bm O]at g;have⟨i,k,l,_⟩:=DataW.trod_string u g;have r:cs[a]= .string i:=by
  have:((cs.drop a).take 1)[0]?=Y (.string i):=by rw[k];rfl
  simpa [zh,BD,bm o] using this
 have c:(F.map (·.1))[a]?=(d.map λb=>(DataW.lit (.string b):DataW H))[a]?:=by rw[f.1]
 rw[cJ,cJ,bm O,bm O]at c;simp only[BL,mw]at c;rw[l]at c;simp only[DataW.lit.injEq,Lit.string.injEq]at c;rw[r,List.getElem_map,<-c]
def own:ownKnob M.godebug=A9:=J
def agF:laidOutB M=V:=J
end Go.Proofs.YthkcmkmkapijkaaGreatDoor
namespace Go.Proofs.YthkcmkmkapijkaaGreatDoor
open Go.RowKit Go.Maps Go.WideMaps
def qH(c:Int):Bool:=decide (0<=ix c)
def xK(c):qH c=V↔(48<=c/\c<=57)\/(97<=c/\c<=102):=by
 unfold qH ix;grind
def G8(c w):Ax M 360 #[zU c] w λe b=>e=Q (A2<|qH c)/\w=b:=by
 have a:=λw=>kL c w;by_cases d:co c=V
 .rw[show qH c=V by rw[xK];have:=lC d;omega];rw[d]at a;go_in;go_wp2_with (first|(go_at_call 236;apply(a _).mono;rintro e b ⟨rfl,rfl⟩));go_ret
  simp_all
 .have f:co c=T:=U;rw[f]at a;have k:¬(48<=c/\c<=57):=by simpa [co] using f
  obtain⟨i,j⟩|g|⟨i,j⟩:(97<=c/\c<=102)\/c<97\/(97<=c/\102<c):=O
  .rw[show qH c=V by rw[xK];omega];go_in;go_wp2_with (first|(go_at_call 236;apply(a _).mono;rintro e b ⟨rfl,rfl⟩));go_ret
   simp_all
  .rw[show qH c=T by rw[<-agq,xK];omega];have h:¬97<=c:=O;go_in;go_wp2_with (first|(go_at_call 236;apply(a _).mono;rintro e b ⟨rfl,rfl⟩));go_ret
   simp_all
  .rw[show qH c=T by rw[<-agq,xK];omega];have h:¬c<=102:=O;go_in;go_wp2_with (first|(go_at_call 236;apply(a _).mono;rintro e b ⟨rfl,rfl⟩));go_ret
   simp_all
def jp(q:Int->Bool)(s:Bz):Nat->Nat->Nat|0,p=>p|f+1,p=>ite (q (aq s p)=V) (jp q s f<|p+1) p
def aet{q:Int->Bool}(a:q (-1)=T){s p}(h:q (aq s p)=V):p<s.size:=by
 obtain h1|h1:=cG p s.size
 .exact h1
 .rw[dH,a]at h;cases h
theorem ru(q)(a:q (-1)=T)(s):∀f p,p<=s.size->p<=jp q s f p/\jp q s f p<=s.size
 |0,p,h=>⟨eE,h⟩|f+1,p,h=>by
  unfold jp;split
  .rename_i b;have c:=aet a b;have:=ru q a s f (p+1) O;omega
  omega
def xL(q s):∀f p i,p<=i->i<jp q s f p->q (aq s i)=V
 |0,p,i,b,a=>by simp[jp]at a;omega|f+1,p,i,b,a=>by
  unfold jp at a;split at a
  .rename_i c;obtain rfl|h3:=jx b
   .exact c
   .exact xL q s f _ i h3 a
  .omega
def acd(q:Int->Bool)(a:q (-1)=T)(s):∀f p,s.size<p+f->q (aq s<|jp q s f p)=T
 |0,p,h=>by
  unfold jp;rw[dH,a]|f+1,p,h=>by
  unfold jp;split
  .exact acd q a s f _ O
  grind
def LI:co (-1)=T:=Z
def Gc:qH (-1)=T:=Z
def wh(s:Bz)(p:Nat):Nat:=jp co s (s.size+1) p
def hxE(s:Bz)(p:Nat):Nat:=jp qH s (s.size+1) p
def Al(s:Bz)(u:s.size<=1100000)(p)(v:p<=s.size)(w):Ax M 337 #[S s,zI p] w λe j=>e=Q (zI<|wh s p)/\j=w:=by
 unfold wh;have⟨n,l⟩:=aw<|jp co s (s.size+1) p;rw[l];have t:=ah l;go_in;go_wp21
 go_loop [1] (λi=>∃b c,b<=s.size/\s.size<b+c/\i=zI b/\B7 (jp co s c b=n)) (λi=>s.size-(B0 i).toNat)
 .grind
 .
  obtain⟨b,c,_,_,rfl,m⟩:=hrel;obtain⟨c,rfl⟩:∃o,c=o+1:=⟨c-1,O⟩;have a:=m.out;unfold jp at a;by_cases q:b<s.size
  .have r:=λw=>dy q w;generalize aq s b=h at r a;have f:=λw=>kL h w;by_cases d:co h=V
   .rw[ae d]at a;have g:=ah a;rw[d]at f;clear d;go_wp2_with (go_at_call 236;apply(f _).mono;rintro e j ⟨rfl,rfl⟩);go_round
    .grind
    simp[B0];omega
   .have k:co h=T:=U;rw[aa d]at a;have g:=ah a;rw[k]at f;clear d k a;go_wp2_with (go_at_call 236;apply(f _).mono;rintro e j ⟨rfl,rfl⟩);go_ret;exact⟨by rw[<-g.out];rfl,R⟩
  .rw[aa (by rw[dH];decide)]at a;have g:=ah a;exact gwS
def pF(s:Bz)(q:Nat):Nat×Bool:=ite (q+16<hxE s q) (q+16,T) (hxE s q,decide (q<hxE s q))
def aeu(s:Bz)(C:s.size<=1100000)(p)(E:p<=s.size)(w):Ax M 336 #[S s,zI p] w λe j=>e=Q (A1 #[zI ((pF s p).1:Int),A2 (pF s p).2])/\j=w:=by
 unfold pF hxE;have⟨h,r⟩:=aw<|jp qH s (s.size+1) p;rw[r];have A:=ah r;obtain⟨m,n,q⟩:∃m n,(ite (p+16<h) (p+16,T) (h,decide (p<h)))=(m,n):=⟨_,_,R⟩;rw[q];have g:=ah q;go_in;go_wp21
 go_loop [6] (λl=>∃a d,p<=a/\a<=p+16/\a<=s.size/\s.size<a+d/\l=zI a/\B7 (jp qH s d a=h)) (λl=>s.size-(B0 l).toNat)
 .grind
 .
  obtain⟨a,d,_,_,_,_,rfl,t⟩:=hrel;obtain⟨d,rfl⟩:∃v,d=v+1:=⟨d-1,O⟩;have c:=t.out;unfold jp at c;by_cases y:a<s.size
  .have z:=λw=>dy y w;generalize aq s a=k at z c;have f:=λw=>G8 k w;by_cases i:qH k=V
   .rw[ae i]at c;have x:=(ru _ Gc s d (a+1) O).1;rw[c]at x;have B:=ah c;rw[i]at f;clear i;by_cases o:a=p+16
    .have b:=g.out;rw[ifp,<-o]at b;obtain⟨rfl,rfl⟩:=F6 b;have u:((a:Int)-(p:Int)==16)=V:=U;clear b g o;go_wp2_with (go_at_call 360;apply(f _).mono;rintro e j ⟨rfl,rfl⟩);go_ret2
     simp_all
    .have u:((a:Int)-(p:Int)==16)=T:=U;go_wp2_with (go_at_call 360;apply(f _).mono;rintro e j ⟨rfl,rfl⟩);go_round
     .grind
     simp[B0];omega
   .have o:qH k=T:=U;rw[aa i]at c;subst c;rw[o]at f;have b:=g.out;rw[Bw]at b;obtain⟨rfl,rfl⟩:=F6 b;go_wp2_with (go_at_call 360;apply(f _).mono;rintro e j ⟨rfl,rfl⟩);go_ret2
    simp_all
  .rw[aa (by rw[dH];decide)]at c;subst c;have b:=g.out;rw[Bw]at b;obtain⟨rfl,rfl⟩:=F6 b;go_wp2;go_ret2
   simp_all
theorem jj(s i b):s.data.toList[i]?=Y b↔i<s.size/\aq s i=(b.toNat:Int):=by
 unfold aq;by_cases c:i<s.size
 .rw[pc c];have a:s.data.toList[i]?=Y s[i]:=by
   rw[FC];exact FE c
  rw[a];constructor
  .grind
  .intro ⟨_,_⟩;congr 1;exact UInt8.toNat_inj.1 O
 .have a:s.data.toList[i]?=A9:=by
   simp_all
  grind
def LJ(s p x b):B1 (s.extract p s.size).data.toList [x,b]=decide (aq s p=(x.toNat:Int)/\aq s (p+1)=(b.toNat:Int)):=by
 have n:(s.extract p s.size).data.toList=s.data.toList.drop p:=by
  rw[<-iH,Lib.extract_toList,ci]
  simp_all
 rw[n];unfold B1;rw[Cc,BF,tr];constructor
 .rintro ⟨_,_⟩;have d:(s.data.toList.drop p)[0]?=Y x:=U;have e:(s.data.toList.drop p)[1]?=Y b:=U;rw[BD]at d e;exact⟨((jj s _ x).1 d).2,((jj s _ b).1 e).2⟩
 .rintro ⟨d,e⟩;have f:∀a (c:UInt8),aq s a=(c.toNat:Int)->s.data.toList[a]?=Y c:=λa c g=>by
   refine(jj s a c).2 ⟨?_,g⟩;obtain h2|h2:=cG a s.size
   .exact h2
   .rw[dH]at g;omega
  have o:=f p x d;have q:=f _ b e;refine⟨s.data.toList.drop<|p+2,?_⟩;have h:=dr.1 o;have i:=dr.1 q;obtain⟨j,l⟩:=h;obtain⟨k,m⟩:=i;rw[my j,my k,l,m];rfl
def nA0(s:Bz)(p:Nat):Nat:=ite (aq s p=48) (p+1)<|wh s<|p+1
def nA1(s:Bz)(a:Nat):Nat:=ite (aq s a=46/\co (aq s<|a+1)=V) (wh s<|a+1) a
def xr(s:Bz)(a:Nat):Nat:=ite (aq s (a+1)=43\/aq s (a+1)=45) (a+1+1)<|a+1
def qF(s:Bz)(a:Nat):Nat×Bool:=ite (aq s a=101) (wh s<|xr s a,decide (xr s a<wh s (xr s a))) (a,V)
def eB(s:Bz)(p:Nat):Nat×Bool:=ite (aq s p=48/\aq s (p+1)=120) (pF s<|p+2)<|qF s<|nA1 s<|nA0 s p
theorem wi(s p)(h:p<=s.size:=by omega):p<=wh s p/\wh s p<=s.size:=ru co LI s _ p h
def Am(s:Bz)(c:s.size<=1100000)(a)(p:Nat)(b:a=(p:Int))(d:p<=s.size)(w):Ax M 337 #[S s,zI a] w λe f=>e=Q (zI<|wh s p)/\f=w:=by
 subst b;exact Al s c p d w
def Ct{s:Bz}(a)(i:Nat)(b:a=(i:Int))(h:i<s.size)(w):(B4 9 (S s)<|zI a).run M w= .ok (zU<|aq s i) w:=by
 subst b;exact dy h w
theorem bp{s i c}(h:aq s i=c)(a:0<=c:=by omega):i<s.size:=by
 obtain h2|h2:=cG i s.size
 .exact h2
 .rw[dH]at h;omega
def ui{s i}(h:co (aq s i)=V):i<s.size:=aet LI h
def G9(s p w):Ax M 142 #[S<|s.extract p s.size,S ⟨#[48,120]⟩] w λe b=>e=Q (A2<|decide (aq s p=48/\aq s (p+1)=120))/\b=w:=by
 have a:=Tryz.strings_HasPrefix (s.extract p s.size) ⟨#[48,120]⟩ w;rw[show(⟨#[48,120]⟩:Bz).data.toList=[48,120] from rfl,LJ]at a;exact a
def Jp(s)(h:s.size<=1100000)(p)(g:aq s p=48)(c:aq s (p+1)=120)(w):Ax M 296 #[S s,zI p] w λe b=>e=Q (A1 #[zI ((pF s<|p+2).1:Int),A2 (pF s<|p+2).2])/\b=w:=by
 have i:=bp c;have d:=λw=>G9 s p w;rw[(U:decide (aq s p=48/\aq s (p+1)=120)=V)]at d;have a:∀w,Ax M 336 #[S s,zI<|(p:Int)+2] w λe b=>e=Q (A1 #[zI ((pF s<|p+2).1:Int),A2 (pF s<|p+2).2])/\b=w:=λw=>aeu s h (p+2) O w;generalize pF s (p+2)=f at a;obtain⟨_,_⟩:=f;simp at a⊢;clear g c;go_in;go_wp2_with (first|(go_at_call 142;apply ez<|d _)|(go_at_call 336;apply ez<|a _));go_ret2
 simp_all
abbrev IX(s:Bz)(a c:Int):Prop:=∀b,(B4 9 (S s)<|zI a).run M b= .ok (zU c) b
abbrev DE(s:Bz)(a:Int)(B:Nat):Prop:=∀b,Ax M 337 #[S s,zI a] b λc d=>c=Q (zI (B:Int))/\d=b
abbrev DQ(c:Int)(b:Bool):Prop:=∀a,Ax M 236 #[zU c] a λd e=>d=Q (A2 b)/\e=a
def ay5(s)(d:s.size<=1100000)(p)(f:p<s.size):∃a:Int,a=(nA0 s p:Nat)/\nA0 s p<=s.size/\((aq s p=48/\a=(p:Int)+1)\/((aq s p==48)=T/\DE s ((p:Int)+1) (nA0 s p)/\∃b,nA0 s p=b/\a=(b:Int))):=by
 unfold nA0;split
 .rename_i c;exact⟨_,R,O,O⟩
 .rename_i c;exact⟨_,R,(wi s _).2,.inr ⟨by simp[c],λe=>Al s d (p+1) O e,_,R,R⟩⟩
def ay6(s:Bz)(i:s.size<=1100000)(c)(m:c<=s.size)(a)(h:a=(c:Int)):∃b:Int,b=(nA1 s c:Nat)/\nA1 s c<=s.size/\((¬a+1<(s.size:Int)/\b=a/\nA1 s c=c)\/(a+1<(s.size:Int)/\IX s a (aq s c)/\((b=a/\nA1 s c=c/\(aq s c==46)=T)\/(aq s c=46/\IX s (a+1) (aq s<|c+1)/\((b=a/\nA1 s c=c/\DQ (aq s<|c+1) T)\/(DQ (aq s<|c+1) V/\DE s (a+1) (nA1 s c)/\∃B,nA1 s c=B/\b=(B:Int))))))):=by
 have n:∀f,DQ f (co f):=λf e=>(kL _ e).mono λl o d=>⟨d.1,d.2.symm⟩;have j:c<s.size->IX s a (aq s c):=λd e=>Ct _ c h d e;have k:c+1<s.size->IX s (a+1) (aq s<|c+1):=λd e=>Ct _ _ O d e;unfold nA1;split
 .rename_i d;have g:=ui d.2;exact⟨_,R,(wi s _).2,.inr ⟨O,j O,.inr ⟨d.1,k g,.inr ⟨U,λe=>Am s i _ _ O O e,_,R,R⟩⟩⟩⟩
 grind
def ay7(s:Bz)(j:s.size<=1100000)(B)(l:B<=s.size)(b)(h:b=(B:Int)):((b==(s.size:Int))=V/\((qF s B).1:Int)=b/\(qF s B).2=V)\/((b==(s.size:Int))=T/\IX s b (aq s B)/\(((aq s B==101)=T/\((qF s B).1:Int)=b/\(qF s B).2=V)\/(aq s B=101/\∃d:Int,((¬b+1<(s.size:Int)/\d=b+1)\/(b+1<(s.size:Int)/\IX s (b+1) (aq s<|B+1)/\((aq s (B+1)=43/\d=b+1+1)\/(aq s (B+1)=45/\d=b+1+1)\/((aq s (B+1)==43)=T/\(aq s (B+1)==45)=T/\d=b+1))))/\∃C:Nat,DE s d C/\(qF s B).1=C/\(qF s B).2=decide (d<(C:Int))))):=by
 unfold qF;have m:B+1<s.size->IX s (b+1) (aq s<|B+1):=λe a=>Ct _ _ O e a;by_cases c:aq s B=101
 .have i:=bp c;rw[ae c];refine .inr ⟨U,λa=>Ct _ B h i a,.inr ⟨c,_,?_,_,λa=>Am s j _ _ R ?_ a,R,U⟩⟩
  .unfold xr;obtain h2|⟨h2,f⟩|⟨h2,f⟩|⟨h2,f,k⟩:¬B+1<s.size\/(B+1<s.size/\aq s (B+1)=43)\/(B+1<s.size/\aq s (B+1)=45)\/(B+1<s.size/\aq s (B+1)≠43/\aq s (B+1)≠45):=O
   .rw[aa (by rw[dH];omega)];omega
   all_goals grind
  .unfold xr;split
   .rename_i e;obtain g|g:=cG (B+1) s.size
    .omega
    .rw[dH]at e;omega
   .omega
 .rw[aa c];obtain h2|h2:=(O:B=s.size\/B<s.size)
  .grind
  .exact .inr ⟨U,λa=>Ct _ B h h2 a,U⟩
def Jq(s)(f:s.size<=1100000)(p)(l:p<s.size)(m:¬(aq s p=48/\aq s (p+1)=120))(w):Ax M 296 #[S s,zI p] w λe H=>e=Q (A1 #[zI ((qF s<|nA1 s<|nA0 s p).1:Int),A2 (qF s<|nA1 s<|nA0 s p).2])/\H=w:=by
 have n:=λw=>G9 s p w;rw[bq m]at n;have ad:=λw=>dy l w;have⟨r,c,j,q⟩:=ay5 s f p l;obtain⟨t,d,k,g⟩:=ay6 s f _ j r c;have a:=ay7 s f _ k t d;generalize qF s (nA1 s<|nA0 s p)=h at a⊢;obtain⟨h,_⟩:=h;simp only at a⊢;clear m;have u:nA0 s p<=1100000:=O;have v:nA1 s (nA0 s p)<=1100000:=O;generalize nA1 s (nA0 s p)=L at d k g a v;generalize nA0 s p=K at c j q g u;obtain⟨x,rfl⟩|⟨x,A,_,rfl,rfl⟩:=q;all_goals
  obtain⟨G,rfl,rfl⟩|⟨G,_,⟨rfl,rfl,y⟩|⟨y,_,⟨rfl,rfl,o⟩|⟨o,B,_,rfl,rfl⟩⟩⟩:=g;all_goals
   obtain⟨E,b,rfl⟩|⟨E,_,⟨z,b,rfl⟩|⟨z,_,⟨F,rfl⟩|⟨F,_,⟨i,rfl⟩|⟨i,rfl⟩|⟨i,_,rfl⟩⟩,_,C,rfl,rfl⟩⟩:=a;all_goals first|omega|skip
   all_goals
    try rw[b]
    try clear b
    clear c d;go_in;go_wp2_with (first|(go_at_call 142;refine ez (n _) ?_)|(go_at_call 236;refine ez (o _) ?_)|(go_at_call 337;first|(with_reducible refine ez (A _) ?_)|(with_reducible refine ez (B _) ?_)|(with_reducible refine ez (C _) ?_)));all_goals
     go_ret2;exact rr
def An(s:Bz)(b:s.size<=1100000)(p)(c:p<s.size)(w):Ax M 296 #[S s,zI p] w λe d=>e=Q (A1 #[zI ((eB s p).1:Int),A2 (eB s p).2])/\d=w:=by
 unfold eB;by_cases a:aq s p=48/\aq s (p+1)=120
 .rw[ae a];exact Jp s b p a.1 a.2 w
 .rw[aa a];exact Jq s b p c a w
def wj(s:Bz)(p:Nat):Nat->Nat|0=>0|n+1=>wj s p n*16+(ix<|aq s<|p+n).toNat
def aev(s p):∀n,wj s p n<16 ^ n
 |0=>by simp[wj]|n+1=>by
  have h:=aev s p n;have b:=qu<|aq s<|p+n;have a:16 ^ (n+1)=16 ^ n*16:=O;unfold wj;omega
def alg(s p n)(h:n<=15):wj s p n<1152921504606846976:=by
 have a:=aev s p n;have b:16 ^ n<=16 ^ 15:=Nat.pow_le_pow_right O h;omega
def aew(s p n)(h:n<=16):wj s p n<18446744073709551616:=by
 have a:=aev s p n;have b:16 ^ n<=16 ^ 16:=Nat.pow_le_pow_right O h;omega
def ap0(c)(a:97<=c)(b:c<=102):bits .or .u8 c 32=c:=by
 obtain rfl|rfl|rfl|rfl|rfl|rfl:=(O:c=97\/c=98\/c=99\/c=100\/c=101\/c=102)<;>decide+kernel
def alh(s j)(h:j<s.size):((s.data.toList.getD j 0).toNat:Int)=aq s j:=by
 have:s.data.toList[j]?=Y s[j]:=by
  rw[FC];exact FE h
 rw[List.getD,this];unfold aq;grind
def ay8(t)(af:1<=t.size)(ak:t.size<=16)(r:∀i,i<t.size->qH (aq t i)=V)(w):
  Ax M 362 #[S t,zI 16,zI 64] w λe n=>e=Q (A1 #[B9 .u64 (wj t 0 t.size:Int),B3])/\n=Lib.bytesWorld w 5 t:=by
 have al:t.toList.isEmpty=T:=by
  rw[<-decide_eq_emptyBytes];exact bq (λ_=>byS)
 have E:=Lib.run_convert_string_bytes w 9 22 5 t underlying9 underlying22 underlying5;have j:∀f,f<t.size->(Lib.bytesWorld w 5 t).cell? ⟨w.heap.size,f,A9⟩=Y (zU<|aq t f):=λf s=>by rw[Lib.bytesWorld_cell w 5 t f s,alh t f s]
 obtain⟨p,q⟩:∃p,p=Lib.bytesWorld w 5 t:=⟨_,R⟩;rw[<-q]at E j⊢;clear q;have am:IntKind.u64.wrap (IntKind.u64.wrap 18446744073709551616-1)=18446744073709551615:=by
  rfl
 obtain⟨k,l⟩:∃k:Int,(wj t 0 t.size)=k:=⟨_,R⟩;rw[l];have o:=ah l;clear l;go_in;go_wp2;go_loop [12,13,101] (λK H m=>∃(a:Nat) (b:_),K=A2 T/\H=B9 .u64 b/\m=zI a/\a<=t.size/\B7 (b=(wj t 0 a))) (λ_ _ m=>t.size-(B0 m).toNat)
 .exact⟨0,0,R,R,R,O,R⟩
 .
  obtain⟨a,b,rfl,rfl,rfl,_,d⟩:=hrel;by_cases u:a<t.size
  .have C:=j a u;have x:=(xK _).1<|r a u;have B:=alg t 0 a O;have L:0<=b:=by rw[d.out];omega
   have ad:b<1152921504606846976:=by rw[d.out];omega
   have g:B7 (∀h:Int,ix (aq t a)=h->0<=h->b*16+h=(wj t 0 (a+1):Int)):=λh F _=>by
    show _=((wj t 0 a*16+(ix<|aq t<|0+a).toNat:Nat):Int);rw[qp,F,d.out];omega
   generalize aq t a=c at C x g;clear j B d r;obtain⟨y,z⟩|⟨y,z⟩:=x
   .have A:B7 (b*16+(c-48)=(wj t 0 (a+1):Int)):=g.out _ (by unfold ix;omega) O;clear g;go_wp2;refine⟨U,by simp[B0];omega⟩
   .have A:B7 (b*16+(c-87)=(wj t 0 (a+1):Int)):=g.out _ (by unfold ix;omega) O;clear g;have v:=ap0 c y z;have G:∀w,Ax M 372 #[zU c] w λe n=>e=Q (zU c)/\n=w:=λw=>by
     have:=Tryz.internal_strconv_lower c w;rw[v]at this;exact this
    clear v;go_wp2_with (go_at_call 372;apply ez<|G _);refine⟨U,by simp[B0];omega⟩
  .obtain rfl:a=t.size:=O;have c:b=k:=by rw[<-o.out,d.out]
   subst c;clear j d o;go_wp2;go_ret2
   simp_all
structure qy (w:N):Prop where
 syn:∃te pe,w.cell? (aj 12 0)=Y (.iface te pe)
 rng:∃te pe,w.cell? (aj 13 0)=Y (.iface te pe)
def ma{B w b}(h:A5 B w b){a}(c:a.block<B):b.cell? a=w.cell? a:=by
 unfold World.cell?;rw[h.block _ c]
def LK{B a w}(h:A5 B a w)(n):A5 B a (w.drewN n):=⟨h.os,h.tape,h.output,h.size,h.block⟩
def qy.below{w e B}(h:qy w)(d:A5 B w e)(c:w.heap.size<=B):qy e:=by
 obtain⟨⟨_,_,a⟩,⟨_,p2,b⟩⟩:=h;exact⟨⟨_,_,(ma d<|jm (Ca w _ a) c).trans a⟩,⟨_,_,(ma d<|jm (Ca w _ b) c).trans b⟩⟩
def AG(s i):aq s i=match s.data.toList[i]? with|some b=>(b.toNat:Int)|none=> -1:=by
 cases h:s.data.toList[i]? with
 |some b=>exact((jj s i b).1 h).2|none=>
  refine dH λ_=>?_
  simp_all
def J6(s:Bz)(n:Nat):Bz:=⟨(s.data.toList.drop n).toArray⟩
def wm(s n):(J6 s n).size=s.size-n:=by
 show(s.data.toList.drop n).toArray.size=_
 simp_all
def J7(s n i):aq (J6 s n) i=aq s (n+i):=by
 rw[AG,AG];show(match (s.data.toList.drop n).toArray.toList[i]? with|some a=>(a.toNat:Int)|none=> -1)=_;grind
def ace(s a p):∀n,wj (J6 s a) p n=wj s (a+p) n
 |0=>rfl|n+1=>by
  unfold wj;rw[ace,J7,gF]
def awF(t)(d:1<=t.size)(a:t.size<=16)(f:∀i,i<t.size->qH (aq t i)=V)(w):
  Ax M 339 #[S t,zI 16,zI 64] w λe c=>e=Q (A1 #[B9 .u64 (wj t 0 t.size:Int),B3])/\A5 w.heap.size w c:=by
 have b:=λw=>ay8 t d a f w;have g:=aew t 0 _ a;generalize (wj t 0 t.size:Int)=h at b;go_in;go_wp2_with (go_at_call 362;apply(b _).mono;rintro e c ⟨rfl,rfl⟩);go_ret2;exact⟨R,Lib.bytesWorld_below _ _ _⟩
def acf(s x a):B1 s.data.toList [x,a]=decide (aq s 0=(x.toNat:Int)/\aq s 1=(a.toNat:Int)):=by
 have:=LJ s 0 x a
 simp_all
def J8(q)(l:aq q 0=48)(m:aq q 1=120)(o:3<=q.size)(n:q.size<=18)(r:∀i,2<=i->i<q.size->qH (aq q i)=V)(w):
  Ax M 297 #[S q] w λe b=>e=Q (A1 #[zI<|wrap64 (wj q 2 (q.size-2):Int),A2 V])/\A5 w.heap.size w b:=by
 have h:B1 q.data.toList [48,120]=V:=by rw[acf];grind
 have d:∀w,Ax M 338 #[S q,S ⟨#[48,120]⟩] w λe b=>e=Q (A1 #[S<|J6 q 2,A2 V])/\b=w:=λw=>by
  have:=Tryz.strings_CutPrefix q ⟨#[48,120]⟩ w;rw[show(⟨#[48,120]⟩:Bz).data.toList=[48,120] from rfl,Lib.trimPrefix,h]at this;exact this
 have a:=λw=>awF (J6 q 2) (by rw[wm];omega) (by rw[wm];omega) (λi g=>by rw[J7];rw[wm]at g;grind) w;rw[ace,wm]at a;have p:=aew q 2 (q.size-2) O;simp[jy]at a;obtain⟨c,j⟩:∃c:Int,(wj q 2<|q.size-2)=c:=⟨_,R⟩;have s:0<=c:=O;have t:c<18446744073709551616:=O;rw[j]at a⊢;generalize J6 q 2=k at d a;go_in;go_wp2_with (first|(go_at_call 338;apply(d _).mono;rintro e b ⟨rfl,rfl⟩)|(go_at_call 339;apply(a _).mono;rintro e b ⟨rfl,f⟩));go_quiet (fail)
 go_wp2;go_ret2;exact⟨R,LK f _⟩
def Dz(q:Bz):Option Int:=match Lib.parseIntB 64 q.data.toList with| .ok a=>Y a|_=>A9
def J9(q)(p:q.size<=1100000)(r:¬(aq q 0=48/\aq q 1=120))(w)(j:qy w):
  Ax M 297 #[S q] w λe a=>(∃x,e=Q (A1 #[zI x,A2 (Dz q).isSome])/\∀v,Dz q=Y v->x=v)/\A5 w.heap.size w a:=by
 have k:B1 q.data.toList [48,120]=T:=by rw[acf];grind
 have g:∀w,Ax M 338 #[S q,S ⟨#[48,120]⟩] w λe a=>e=Q (A1 #[S ⟨q.data.toList.toArray⟩,A2 T])/\a=w:=λw=>by
  have:=Tryz.strings_CutPrefix q ⟨#[48,120]⟩ w;rw[show(⟨#[48,120]⟩:Bz).data.toList=[48,120] from rfl,Lib.trimPrefix,k]at this;exact this
 generalize (⟨q.data.toList.toArray⟩:Bz)=o at g;obtain⟨⟨_,_,m⟩,⟨_,_,l⟩⟩:=j;unfold Dz;cases hp:Lib.parseIntB 64 q.data.toList with
 |ok v=>
  have d:Ax M 340 #[S q,zI 10,zI 64] w λe a=>e=Q (A1 #[zI v,B3])/\A5 w.heap.size w a:=(Tryz.strconv_ParseInt_10_at64_ok q O v hp w).mono λe a c=>⟨c.1,by
   obtain rfl|⟨_,rfl⟩:=c.2
   .exact blR
   .exact Lib.bytesWorld_below _ _ _⟩
  go_in;go_wp2_with (first|(go_at_call 338;apply(g _).mono;rintro e a ⟨rfl,rfl⟩)|(go_at_call 340;apply d.mono;rintro e a ⟨rfl,f⟩));go_quiet (fail)
  go_wp2;go_ret2;exact⟨⟨v,R,λ_ c=>de c⟩,LK f _⟩
 | «syntax» =>
  have d:Ax M 340 #[S q,zI 10,zI 64] w λe a=>∃b,e=Q (A1 #[zI 0,A0 358<|be b 0])/\A5 w.heap.size w a:=(Tryz.strconv_ParseInt_10_at64_syntax q O hp _ w m U).mono λe a ⟨b,h,_,_,i⟩=>⟨b,h,i⟩;go_in;go_wp2_with (first|(go_at_call 338;apply(g _).mono;rintro e a ⟨rfl,rfl⟩)|(go_at_call 340;apply d.mono;rintro e a ⟨b,rfl,f⟩));go_quiet (fail)
  go_wp2;go_ret2;exact⟨⟨0,R,λ_ c=>by cases c⟩,LK f _⟩
 |range=>
  have d:Ax M 340 #[S q,zI 10,zI 64] w λe a=>∃b,e=Q (A1 #[zI<|Lib.intSat 64 q.data.toList,A0 358<|be b 0])/\A5 w.heap.size w a:=(Tryz.strconv_ParseInt_10_at64_range q O hp _ w l U).mono λe a ⟨b,h,_,_,i⟩=>⟨b,h,i⟩;generalize Lib.intSat 64 q.data.toList=n at d;go_in;go_wp2_with (first|(go_at_call 338;apply(g _).mono;rintro e a ⟨rfl,rfl⟩)|(go_at_call 340;apply d.mono;rintro e a ⟨b,rfl,f⟩));go_quiet (fail)
  go_wp2;go_ret2;exact⟨⟨n,R,λ_ c=>by cases c⟩,LK f _⟩
def stp(a:zON)(c:UInt8):zON:=match a with|none=>A9|some b=>ite (b*10+(c.toNat-48)<=9223372036854775807) (Y<|b*10+(c.toNat-48)) A9
def acg:∀l:List UInt8,l.foldl stp A9=A9|[]=>rfl|c::r=>acg r
def aty:∀(l)(a),(∀c∈l,48<=c.toNat/\c.toNat<=57)->9223372036854775808<=a->X (2 ^ 64-1) a l= .range\/∃u,X (2 ^ 64-1) a l= .ok u/\9223372036854775808<=u
 |[],a,_,h=> .inr ⟨a,R,h⟩|c::r,a,b,h=>by
  have d:=b c I;unfold X;grind
def ali:∀(l:List UInt8)(a),(∀c∈l,48<=c.toNat/\c.toNat<=57)->a<=9223372036854775807->(∀u,l.foldl stp (Y a)=Y u->X (2 ^ 64-1) a l= .ok u/\u<=9223372036854775807)/\(l.foldl stp (Y a)=A9->X (2 ^ 64-1) a l= .range\/∃u,X (2 ^ 64-1) a l= .ok u/\9223372036854775808<=u)
 |[],a,_,h=>by
  refine⟨λu b=>?_,λ_=>U⟩;simp at b;subst b;exact⟨R,h⟩|c::r,a,k,h=>by
  have e:=k c I;have f:∀g∈r,48<=g.toNat/\g.toNat<=57:=U;rw[qr,show stp (Y a) c=ite (a*10+(c.toNat-48)<=9223372036854775807) (Y<|a*10+(c.toNat-48)) A9 from rfl];by_cases d:a*10+(c.toNat-48)<=9223372036854775807
  .rw[ae d];have j:=ali r _ f d;have i:X (2 ^ 64-1) a (c::r)=X (2 ^ 64-1) (a*10+(c.toNat-48)) r:=by
    rw[X,ae e,Bw,Bw]
   grind
  .rw[aa d,acg];refine⟨λu b=>(by cases b),λ_=>?_⟩;rw[X,ae e];by_cases i:1844674407370955162<=a
   .grind
   .rw[aa i];by_cases j:2 ^ 64-1<a*10+(c.toNat-48)
    .grind
    .rw[aa j];exact aty r _ f O
def alj:∀(l)(a),(∃c∈l,¬(48<=c.toNat/\c.toNat<=57))->∀u,X (2 ^ 64-1) a l≠ .ok u
 |[],_,h,u=>U|c::r,a,h,u=>by
  rw[X];by_cases b:48<=c.toNat/\c.toNat<=57
  .rw[ae b];split
   .grind
   .split
    .grind
    .refine alj r _ ?_ u;grind
  grind
def ux(s:Bz)(p:Nat):Nat->zON|0=>Y 0|n+1=>match ux s p n with|none=>A9|some x=>ite (x*10+(aq s (p+n)-48).toNat<=9223372036854775807) (Y<|x*10+(aq s (p+n)-48).toNat) A9
def ach(s p):∀n,p+n<=s.size->ux s p n=((s.data.toList.drop p).take n).foldl stp (Y 0)
 |0,_=>rfl|n+1,h=>by
  have c:p+n<s.data.toList.length:=by rw[oG];exact h
  have a:(s.data.toList.drop p)[n]?=Y (s.data.toList[p+n]):=U;have b:aq s (p+n)=((s.data.toList[p+n]).toNat:Int):=((jj s _ _).1 U).2;rw[gD,a,List.foldl_append,<-ach s p n O,ux,b];simp only[Ll,qr,List.foldl_nil,stp];grind
def alk(s p):∀n u,ux s p n=Y u->u<=9223372036854775807
 |0,u,h=>by simp[ux]at h;omega|n+1,u,h=>by
  unfold ux at h;grind
def alm(q)(h:∀i,i<q.size->co (aq q i)=V):∀c∈q.data.toList,48<=c.toNat/\c.toNat<=57:=by
 intro c a;obtain⟨i,b,rfl⟩:=List.mem_iff_getElem.1 a;have:=(jj q i _).1<|bm b;have d:=lC<|h i this.1;omega
def aci(q)(a:co (aq q 0)=V):∃c r,q.data.toList=c::r/\48<=c.toNat/\c.toNat<=57:=by
 have d:=ui a;cases hq:q.data.toList with
 |nil=>
  have:q.data.toList.length=q.size:=by rfl
  grind|cons c r=>
  refine⟨c,r,R,?_⟩;have:=(jj q 0 c).1 U;have b:=lC a;omega
def agG(c r)(a:48<=c.toNat)(b:c.toNat<=57):Lib.parseIntB 64 (c::r)=match X (2 ^ 64-1) 0 (c::r) with| .syntax=> .syntax| .range=> .range| .ok u=>ite (9223372036854775808<=u) (.range) (.ok (u:Int)):=by
 simp only[Lib.parseIntB,Lib.parseUintB];grind
def acj(q)(e:0<q.size)(h:∀i,i<q.size->co (aq q i)=V):Dz q=Option.map (λu:Nat=>(u:Int)) (ux q 0 q.size):=by
 have⟨a,d,j,f,g⟩:=aci q<|h 0 e;have b:=alm q h;have c:=ach q 0 q.size O;rw[iq,ci (by rw[oG];simp_all)]at c;rw[Dz,c];rw[j]at b⊢;rw[agG a d f g];have k:=ali _ 0 b O;cases hx:(a::d).foldl stp (Y 0) with
 |some u=>
  grind|none=>
  grind
def Cv(q)(d:co (aq q 0)=V)(i)(g:i<q.size)(h:co (aq q i)=T):Dz q=A9:=by
 have⟨a,k,j,e,f⟩:=aci q d;have b:∃a∈q.data.toList,¬(48<=a.toNat/\a.toNat<=57):=by
  have c:i<q.data.toList.length:=by rw[oG];exact g
  refine⟨_,pd c,?_⟩;have:=(jj q i _).1<|bm c;have l:¬(48<=aq q i/\aq q i<=57):=by simpa [co] using h
  omega
 unfold Dz;rw[j]at b⊢;rw[agG a k e f];have:=alj _ 0 b;grind
def sj(q:Bz):Bool:=decide (co (aq q 0)=V/\eB q 0=(q.size,V)/\¬(aq q 0=48/\aq q 1=120)/\Dz q=A9)
def atz(s p)(h:p<=s.size):p<=hxE s p/\hxE s p<=s.size:=ru qH Gc s _ p h
def ack{s p e}(h:pF s p=(e,V)):p<e/\e<=p+16/\e=hxE s p/\∀i,p<=i->i<e->qH (aq s i)=V:=by
 unfold pF at h;split at h
 .cases h
 .rename_i d;have⟨b,a⟩:=F6 h;subst b;exact⟨U,O,R,λi c a=>xL _ s _ p i c a⟩
def aex{q:Bz}(a:0<q.size):(q.toList==[])=T:=by
 have:q.toList.length=q.size:=by rw[iH];simp
 grind
def acl{q:Bz}(a:¬0<q.size):(q.toList==[])=V:=by
 simp_all
def Ka{c b}(h:co c=b)(w):Ax M 236 #[zU c] w λe a=>e=Q (A2 b)/\a=w:=(kL c w).mono λe a d=>⟨U,d.2.symm⟩
def aey(s:Bz)(b:s.size<=1100000)(a:0<s.size)(w):Ax M 296 #[S s,zI 0] w λe c=>e=Q (A1 #[zI ((eB s 0).1:Int),A2 (eB s 0).2])/\c=w:=An s b 0 a w
def aez(s a)(h:a<=s.size):a<=(qF s a).1/\(qF s a).1<=s.size:=by
 unfold qF;split
 .rename_i c;have d:=bp c;have b:xr s a<=s.size/\a<xr s a:=by
   unfold xr;split
   .rename_i hs;obtain hs|hs:=hs
    .have:=bp hs;omega
    .have:=bp hs;omega
   .omega
  have:=wi s _ b.1;omega
 omega
def Ha(s p)(h:p<s.size):p<nA0 s p/\nA0 s p<=s.size:=by
 unfold nA0;split
 .omega
 .have:=wi s<|p+1;omega
def Hb(s a)(h:a<=s.size):a<=nA1 s a/\nA1 s a<=s.size:=by
 unfold nA1;split
 .rename_i b;have:=wi s (a+1) (by have:=ui b.2;omega);omega
 .omega
def ap1(s p)(h:p<=s.size):p<=(pF s p).1/\(pF s p).1<=s.size:=by
 have:=atz s p h;unfold pF;grind
theorem wo(s p)(h:p<s.size):p<(eB s p).1/\(eB s p).1<=s.size:=by
 unfold eB;split
 .rename_i c;have:=bp c.2;have:=ap1 s (p+2) O;omega
 .have a:=Ha s p h;have b:=Hb s _ a.2;have d:=aez s _ b.2;omega
def acm(q:Bz)(m:q.size<=1100000)(w)(p:qy w):Ax M 321 #[S q] w λe k=>e=Q (A2<|sj q)/\A5 w.heap.size w k:=by
 by_cases d:0<q.size
 .have t:=aex d;have f:∀w,(B4 9 (S q)<|zI 0).run M w= .ok (zU<|aq q 0) w:=λw=>dy d w;by_cases l:co (aq q 0)=V
  .have b:=λw=>Ka l w;have c:=λw=>aey q m d w;have n:=(wo q 0 d).2;by_cases u:(eB q 0).2=V
   .by_cases v:(eB q 0).1=q.size
    .have j:eB q 0=(q.size,V):=U;rw[j]at c;by_cases i:aq q 0=48/\aq q 1=120
     .have a:sj q=T:=by unfold sj;grind
      rw[a];have s:pF q 2=(q.size,V):=by rw[<-j];unfold eB;grind
      have⟨_,_,_,o⟩:=ack s;have g:=λw=>J8 q i.1 i.2 O O o w;generalize wrap64 (wj q 2 (q.size-2):Int)=x at g;generalize aq q 0=h at f b;go_in;go_wp2_with (first|(go_at_call 236;apply ez<|b _)|(go_at_call 296;apply ez<|c _)|(go_at_call 297;apply(g _).mono;rintro e k ⟨rfl,r⟩));go_ret
      simp_all
     .have g:=J9 q m i w p;have a:sj q=!(Dz q).isSome:=by
       unfold sj;cases hdc:Dz q<;>simp[l,j,i]
      rw[a];generalize (Dz q).isSome=o at g;generalize aq q 0=h at f b;go_in;go_wp2_with (first|(go_at_call 236;apply ez<|b _)|(go_at_call 296;apply ez<|c _)|(go_at_call 297;apply g.mono;rintro e k ⟨⟨_,rfl,_⟩,r⟩));go_ret
      simp_all
    .have a:sj q=T:=by unfold sj;grind
     rw[a];have i:((eB q 0).1:Int)<(q.size:Int):=O;rw[u]at c;generalize (eB q 0).1=g at c i;generalize aq q 0=h at f b;go_in;go_wp2_with (first|(go_at_call 236;apply ez<|b _)|(go_at_call 296;apply ez<|c _));go_ret;exact⟨R,blR⟩
   .have i:(eB q 0).2=T:=U;have a:sj q=T:=by unfold sj;grind
    rw[a];rw[i]at c;generalize (eB q 0).1=g at c n;generalize aq q 0=h at f b;go_in;go_wp2_with (first|(go_at_call 236;apply ez<|b _)|(go_at_call 296;apply ez<|c _));go_ret;exact⟨R,blR⟩
  .have c:co (aq q 0)=T:=U;have b:=λw=>Ka c w;have a:sj q=T:=by unfold sj;grind
   rw[a];generalize aq q 0=h at f b;go_in;go_wp2_with (first|(go_at_call 236;apply ez<|b _));go_ret;exact⟨R,blR⟩
 .have t:=acl d;have a:sj q=T:=by rw[sj,dH];rfl
  rw[a];exact giX blR
def eH{c b}(h:co c=b)(w):Ax M 203 #[zU c] w λe a=>e=Q (A2 b)/\a=w:=(Ev c w).mono λe a d=>⟨U,d.2.symm⟩
def jd(s:Bz)(f:s.size<=1100000)(a)(i:Nat)(d:a=(i:Int))(w):Ax M 200 #[S s,zI a] w λe c=>e=Q (zU<|lk s i)/\c=w:=by
 subst d;exact(GI s f i w).mono λe c b=>⟨b.1,b.2.symm⟩
def DA(c)(i:0<=c)(j:c<256)(w):Ax M 287 #[zU c] w λe h=>e=Q (zI<|ix c)/\h=w:=by
 unfold ix;by_cases b:co c=V
 .have a:=λw=>eH b w;have d:=lC b;rw[ae d];clear b;go_in;go_wp2_with (first|(go_at_call 203;apply ez<|a _));go_ret
  simp_all
 .have f:co c=T:=U;have a:=λw=>eH f w;have d:¬(48<=c/\c<=57):=by simpa [co] using f
  rw[aa d];clear b f d;obtain⟨g1,g⟩|g1|⟨g1,g⟩:(97<=c/\c<=102)\/¬97<=c\/(97<=c/\¬c<=102):=O
  .rw[ae O];go_in;go_wp2_with (first|(go_at_call 203;apply ez<|a _));go_ret;exact⟨lr,R⟩
  .rw[Bw];go_in;go_wp2_with (first|(go_at_call 203;apply ez<|a _));go_ret
   simp_all
  .rw[Bw];go_in;go_wp2_with (first|(go_at_call 203;apply ez<|a _));go_ret
   simp_all
def agH(s i):ix (lk s i)=ix (aq s i):=by
 unfold lk;split
 .rfl
 .rename_i a;rw[dH];decide
def wt{s i}(h:i<s.size):lk s i=aq s i:=by unfold lk;omega
def hxA(s:Bz)(p:Nat):Br:=if(pF s<|p+2).2=V then B2 #[zI 2,zI p,zI ((pF s<|p+2).1:Int),zI 0,zI<|wrap64 (wj s (p+2) ((pF s<|p+2).1-(p+2)):Int),nh] else B2 #[zI 2,zI p,zI 0,zI 0,zI 0,nh]
def hxF(s:Bz)(p:Nat):Int:=if(pF s<|p+2).2=V then -1 else((pF s<|p+2).1:Int)
def acn(s:Bz)(a2:s.size<=1100000)(p)(a3:p+2<=s.size)(w):Ax M 286 #[S s,B2 #[zI 2,zI p,zI 0,zI 0,zI 0,nh]] w λe a8=>e=Q (A1 #[hxA s p,zI<|hxF s p])/\A5 w.heap.size w a8:=by
 have⟨_,l⟩:=aw<|hxA s p;have⟨af,hF⟩:=aw<|hxF s p;rw[l,hF];unfold hxA at l;unfold hxF at hF;unfold pF at l hF;have⟨E,r⟩:=aw<|hxE s<|p+2;rw[r]at l hF;unfold hxE at r;have u:=ah r;have m:=ah l;have n:=ah hF;clear r l hF;go_in;go_wp2_with fail;generalize K:(w.alloc _).alloc _=v;obtain⟨c,F,_, -⟩:=Eu K;have ar:eK w.heap.size v 2 p 0 0 0 zE0:=c;have L:eK (w.heap.size+1) v 0 0 0 0 0 zE0:=F;clear K c F;have ba:w.heap.size+1<v.heap.size:=ai L;have⟨_,_,_,_,_,_,_⟩:=aJ ar;have⟨z0,y,z,A,B,C,_⟩:=aJ L;go_loop [6,7] (λx a7=>∃a i c,p+2<=a/\a<=p+18/\a<=s.size/\s.size<a+i/\x=zI a/\a7=B9 .u64 c/\B7 (jp qH s i a=E)/\B7 (c=(wj s (p+2)<|a-(p+2)))) (λx _=>s.size-(B0 x).toNat)
 .exact⟨_,_,0,O,O,a3,O,I,R,u,by show(0:Int)=_;rw[iI];rfl⟩
 .
  obtain⟨a,i,c,_,_,_,_,rfl,rfl,t,g⟩:=hrel;obtain⟨i,rfl⟩:∃ap,i=ap+1:=⟨i-1,O⟩;have j:=t.out;unfold jp at j;have k:=λw=>jd s a2 _ a R w;have f:=λw=>DA _ (agx s a).1 (agx s a).2 w;rw[agH]at f;by_cases h:qH (aq s a)=V
  .have ad:a<s.size:=aet Gc h;have a6:=λw=>dy ad w;rw[wt ad]at k f;rw[ae h]at j;have av:=(ru _ Gc s i (a+1) O).1;rw[j]at av;have a9:=ah j;have a4:0<=ix (aq s a):=by simpa [qH] using h
   have a5:=qu<|aq s a;have H:a≠p+18->wj s (p+2) (a-(p+2))<1152921504606846976:=λo=>alg s _ _ O;have ak:B7 (c*16+ix (aq s a)=(wj s (p+2) (a+1-(p+2)):Int)):=by
    show _=_;rw[(O:a+1-(p+2)=(a-(p+2))+1),wj,(O:p+2+(a-(p+2))=a),g.out];omega
   have al:0<=c:=by rw[g.out];omega
   have q:a≠p+18->c<1152921504606846976:=λo=>by have:=H o;rw[g.out];omega
   generalize ix (aq s a)=an at f a4 a5 ak;generalize aq s a=am at k f a6;clear j h H;by_cases G:a=p+18
   .have b:=m.out;have d:=n.out;simp only[ae (O:p+2+16<E)]at b d;simp at b d;subst b;have ax:af=(a:Int):=O;clear d;subst ax;have ao:((a:Int)-(p:Int)==18)=V:=U;clear m n G q;go_wp2_with (first|(go_at_call 200;apply ez<|k _)|(go_at_call 287;apply ez<|f _));refine aA (by simp[results,go_sem,z0,y,z,A,B,C]) R ⟨R,?_⟩
    iterate 6 refine gE ?_ I _
    omega
   .have ao:((a:Int)-(p:Int)==18)=T:=U;have ax:=q G;clear q;go_wp2_with (first|(go_at_call 200;apply ez<|k _)|(go_at_call 287;apply ez<|f _));go_round
    .grind
    simp[B0];omega
  .have H:ix (aq s a)<0:=by
    have:¬0<=ix (aq s a):=by simpa [qH] using h
    omega
   rw[aa h]at j;subst j;have ak:¬(0:Int)<=ix (aq s a):=O;have al:0<=c:=by rw[g.out];omega
   have q:c<18446744073709551616:=by rw[g.out];have:=aew s (p+2) (a-(p+2)) O;omega
   generalize ix (aq s a)=an at f ak;generalize lk s a=am at k f;have b:=m.out;have d:=n.out;simp only[aa (O:¬p+2+16<a)]at b d;by_cases G:a=p+2
   .have o:decide (p+2<a)=T:=U;simp only[o]at b d;simp at b d;subst b d;have ad:((a:Int)==(p:Int)+2)=V:=U;clear m n h H G o g t u;go_wp2_with (first|(go_at_call 200;apply ez<|k _)|(go_at_call 287;apply ez<|f _));refine aA (by simp[results,go_sem,z0,y,z,A,B,C]) R ⟨R,?_⟩
    iterate 6 refine gE ?_ I _
    omega
   .have o:decide (p+2<a)=V:=U;simp only[o]at b d;simp[oL]at b d;rw[<-g.out]at b;subst b d;have ad:((a:Int)==(p:Int)+2)=T:=U;clear m n h H G o g t u;go_wp2_with (first|(go_at_call 200;apply ez<|k _)|(go_at_call 287;apply ez<|f _));refine aA (by simp[results,go_sem,z0,y,z,A,B,C]) R ⟨R,?_⟩
    iterate 8 refine gE ?_ I _
    omega
def Hc(s:Bz)(ad:s.size<=4100)(w):
  Ax M 121 #[S s] w λe t=>e=Q (S<|dK<|eJ s)/\A5 w.heap.size w t:=by
 go_in;go_wp2;go_loopw [4,5] (λy r wr=>∃b g:Nat,b<=s.size/\r=zI b/\wr.ownsRow w.heap.size 5 1 y g (B8<|qt s b)/\A5 w.heap.size w wr) (λ_ r _=>s.size-(B0 r).toNat)
 .exact⟨0,1,O,R,uy w _,blR.alloc O _⟩
 .
  obtain⟨b,g,u,rfl,h,c⟩:=hrel;have v:=zq h;have x:=GC s b u;have L:g<=20000:=O;clear v x;by_cases K:b<s.size
  .have i:B7 (qt s (b+1)=qt s b++esc (s[b].toNat:Int)):=vL s b _;obtain⟨a,q⟩:∃a:Int,a=(s[b].toNat):=⟨_,R⟩;have F:0<=a:=O;have G:a<256:=by have:=s[b].toNat_lt;omega
   rw[<-q]at i;have H:∀w,(B4 9 (S s)<|zI (b:Int)).run M w= .ok (zU a) w:=by
    intro w;rw[q];go_simp
   clear q;by_cases m:a=10
   .subst m;go_wp2_with (at_builtin;apply js R _ _ R _ _ g _ R h c.size O [92,110] 2 R Z Z _ R R;intro k j w1 f d);go_roundw
    .exact⟨b+1,_,O,by go_num,by rw[i.out];exact f,c.trans d⟩
    simp[B0];omega
   have A:(a==10)=T:=U;by_cases n:a=9
   .subst n;go_wp2_with (at_builtin;apply js R _ _ R _ _ g _ R h c.size O [92,116] 2 R Z Z _ R R;intro k j w1 f d);go_roundw
    .exact⟨b+1,_,O,by go_num,by rw[i.out];exact f,c.trans d⟩
    simp[B0];omega
   have B:(a==9)=T:=U;by_cases o:a=34
   .subst o;go_wp2_with (at_builtin;apply js R _ _ R _ _ g _ R h c.size O [92,34] 2 R Z Z _ R R;intro k j w1 f d);go_roundw
    .exact⟨b+1,_,O,by go_num,by rw[i.out];exact f,c.trans d⟩
    simp[B0];omega
   have C:(a==34)=T:=U;by_cases p:a=92
   .subst p;go_wp2_with (at_builtin;apply js R _ _ R _ _ g _ R h c.size O [92,92] 2 R Z Z _ R R;intro k j w1 f d);go_roundw
    .exact⟨b+1,_,O,by go_num,by rw[i.out];exact f,c.trans d⟩
    simp[B0];omega
   have E:(a==92)=T:=U;by_cases e5:a<32\/126<a
   .have l:B7 (esc a=[92,120,ny<|a / 16,ny<|a%16]):=by unfold esc B7;grind
    clear m n o p;have af:=Dv (a / 16) O O;have ak:=Dv (a%16) O O;have z:=atl a O O;obtain e5|e5:=e5;all_goals
     go_wp2_with fail;go_region_held3 (λt=>True) (trivial) ((apply Ga byR _ _ byR _ _ g _ byR h c.size O [92,120,_,_] 4 byR Z Z _ byR byR;intro k j w1 f d))
     all_goals
      go_wp2;go_roundw
      .exact⟨b+1,_,O,by go_num,by rw[i.out,l.out];omega,c.trans O⟩
      simp[B0];omega
   .have l:B7 (esc a=[a]):=by unfold esc B7;grind
    have t:¬a<32:=O;have z:¬126<a:=O;clear m n o p e5;go_wp2_with (at_builtin;apply js R _ _ R _ _ g _ R h c.size O [a] 1 R Z Z _ R R;intro k j w1 f d);go_roundw
    .exact⟨b+1,_,O,by go_num,by rw[i.out,l.out];omega,c.trans d⟩
    simp[B0];omega
  .have a:b=s.size:=O;subst a;go_wp2_with (at_builtin;apply js R _ _ R _ _ g _ R h c.size O [34] 1 R Z Z _ R R;intro k j w1 f d;have i:=lK f);go_ret;exact⟨R,c.trans d⟩
def Kb(s:Bz)(b:s.size<=4000)(w):
  Ax M 121 #[S s] w λe a=>e=Q (S<|dK<|eJ s)/\A5 w.heap.size w a:=Hc s O w
def Fg:zAV:=⟨[26,1,2,10,2,3,73,3,4,74,3,4,75,3,4,76,3,4,77,3,4,78,3,4,72,4,4,68,5,6,69,6,7,67,7,8,70,8,9,71,8,9,61,9,10,62,9,10,63,10,11,64,10,11,65,10,11,66,10,11].map zI⟩
def td:zLI:=[26,10,73,74,75,76,77,78,72,68,69,67,70,71,61,62,63,64,65,66]
def uE(k:Nat):Int:=match Fg.getD k (zI 0) with| .int _ a=>a|_=>0
def atA(k:Nat)(a:k<20)(w):(B4 280 (B2 Fg)<|zI (k:Int)).run M w= .ok (B2 #[zI<|td.getD k 0,zI<|uE<|3*k+1,zI<|uE<|3*k+2]) w:=by
 iterate 20 (obtain _|k:=k;· kernel_rfl)
 omega
end Go.Proofs.YthkcmkmkapijkaaGreatDoor
namespace Go.Proofs
open Go.Shelf
def Tryz.lays156_ren:Go.Shelf.Ren:=⟨λ|156=>160|165=>259|166=>57|169=>59|240=>157|241=>315|276=>256|277=>349|n=>n,λ|31=>34|9=>9|3=>3|4=>4|0=>0|20=>20|72=>138|76=>139|70=>136|37=>22|75=>67|127=>225|164=>142|5=>5|80=>43|n=>n,λ|n=>n⟩
def Tryz.lays156:Go.Proofs.Lays.n156 M Tryz.lays156_ren:=Tryz.sh
def Tryz.Builder_Extra_156:Builder.Extra M Tryz.lays156_ren:=Tryz.sh
open Go.RowKit in
def Tryz.strings_Join_none(a c b w):
  Ax M 160 #[.slice a 0 c,S b] w λe d=>e=Q (S ⟨#[]⟩)/\d=w:=Any.strings_Join_none Tryz.lays156 Tryz.Builder_Extra_156 a c b w
open Go.RowKit in
def Tryz.strings_Join(a o c)(xs:List ByteArray)(b w)(h:∀(j) x,xs[j]?=Y x->w.cell? ⟨a,o+j,A9⟩=Y (S x))(f:a<w.heap.size)(d:xs.length<=140737488355328)(g:xs.length<=c)(i:(Lib.join (xs.map (·.data.toList)) b.data.toList).length<=140737488355328):
  Ax M 160 #[.slice (Y ⟨a,o,A9⟩) xs.length c,S b] w λe k=>e=Q (S ⟨(Lib.join (xs.map (·.data.toList)) b.data.toList).toArray⟩)/\A5 w.heap.size w k:=Any.strings_Join Tryz.lays156 Tryz.Builder_Extra_156 a o c xs b w h f d g i
def Tryz.lays138_ren:Go.Shelf.Ren:=⟨λ|138=>64|195=>164|218=>165|143=>166|219=>260|217=>316|225=>317|224=>318|267=>319|266=>350|314=>351|n=>n,λ|9=>9|3=>3|4=>4|5=>5|0=>0|46=>265|146=>290|51=>289|n=>n,λ|1=>4|n=>n⟩
def Tryz.lays138:Go.Proofs.Lays.n138 M Tryz.lays138_ren:=Tryz.sh
open Go.RowKit Go.Lib in
def Tryz.strings_Count_one(s c w):
  Ax M 64 #[S s,S ⟨#[c]⟩] w λe a=>e=Q (B9 .i64<|Lib.countByte s.data.toList c)/\a=w:=Any.strings_Count_one Tryz.lays138 s c w
def Tryz.lays148_ren:Go.Shelf.Ren:=⟨λ|148=>65|222=>167|223=>168|269=>261|n=>n,λ|9=>9|3=>3|4=>4|5=>5|146=>290|51=>289|46=>265|n=>n,λ|n=>n⟩
def Tryz.lays148:Go.Proofs.Lays.n148 M Tryz.lays148_ren:=Tryz.sh
open Go.RowKit Go.Lib in
def Tryz.strings_LastIndex_one(s a)(b:a.size=1)(c:s.size<4611686018427387904)(w):
  Ax M 65 #[S s,S a] w λe d=>e=Q (B9 .i64<|Lib.lastIndexByte s ((a[0]'(by omega)).toNat:Int))/\d=w:=Any.strings_LastIndex_one Tryz.lays148 s a b c w
end Go.Proofs
namespace Go.Proofs.YthkcmkmkapijkaaGreatDoor
def N23(b:zLI):Prop:=∀a∈b,a≠2/\a≠3
def c23(s t:Int):Bool:=match fJ 8 [s] t 0 with|some (b,_,_)=>b.all (λa=>decide (a≠2/\a≠3))|none=>V
def ap4:((List.range 34).all λs=>(List.range 78).all λt=>c23 ((s:Int)+100)<|(t:Int)+1)=V:=by rfl
def e23(s:Int):Bool:=decide (((xE s 2).1=[]/\(xE s 2).2=V)↔((xE s 3).1=[]/\(xE s 3).2=V))&&match fJ 8 [s] 2 0,fJ 8 [s] 3 0 with|some (_,some a,_),some (_,some b,_)=>a==b|_,_=>V
def ap5:((List.range 34).all λs=>e23<|(s:Int)+100)=V:=by rfl
def aeJ{t}(j:1<=t)(g:t<=78):∀d,By d->N23 d->N23 (feedL d t).1
 |[],_,h=>by grind [feedL]|s::r,o,h=>by
  have f:N23 r:=λa hx=>h a<|dJ _ hx;have i:=o s bG;by_cases k:s<100
  .grind [iK]
  by_cases b:(xE s t).1=[]/\(xE s t).2=V
  .rw[kC O b];exact aeJ j g r (λa hx=>o a<|dJ _ hx) f
  .obtain⟨_,_,_,e,_⟩:=uh O i O g b;have c:=fH.1 (fH.1 ap4 (s-100).toNat U) (t-1).toNat U;rw[(O:(((s-100).toNat:Nat):Int)+100=s),(O:(((t-1).toNat:Nat):Int)+1=t)]at c;unfold c23 at c;rw[lD O b e];rw[e]at c;intro a hx;obtain hx|hx:=dg.1 hx
   .grind
   .exact f a hx
def asv:∀b,By b->N23 b->(feedL b 2).2=(feedL b 3).2
 |[],_,h=>by rfl|s::r,o,h=>by
  have g:=o s bG;by_cases j:s<100
  .have:=h s bG;grind [iK,decide_eq_false]
  have d:=fH.1 ap5 (s-100).toNat U;rw[(O:(((s-100).toNat:Nat):Int)+100=s)]at d;rw[e23,dF]at d;have e:=aL d.1;by_cases a:(xE s 2).1=[]/\(xE s 2).2=V
  .rw[kC O a,kC O<|e.1 a];exact asv r (λf c=>o f<|dJ _ c) (λf c=>h f<|dJ _ c)
  .have⟨_,_,_,f,_⟩:=uh O g O O a;have⟨_,_,_,i,_⟩:=uh O g O O (λc=>a<|e.2 c);rw[lD O a f,lD O (λc=>a<|e.2 c) i];grind
open Go.RowKit Go.Maps Go.WideMaps Go.Extern.Stop Go.Stop Go.Extern
abbrev aA2(t:Nat):Br:=be 22 t
abbrev oA(t:Nat):Br:=B2 #[aA2 t]
abbrev wA(t:Nat)(a:Addr)(f:Int):Br:=B2 #[aA2 t,C2<|Y a,B9 .u64 f]
abbrev aA6(b:Nat)(w:N):N:=w.alloc<|B5 #[be b 0] 72
abbrev aA7(w:N):Obj:=B5 #[aA2 72,be w.heap.size 0,B9 .u64 150] 145
abbrev aA3(b:Nat)(w:N):N:=(aA6 b w).alloc<|aA7 w
abbrev aA4(b:Nat)(w:N):N:=(aA3 b w).alloc<|aA7 w
abbrev aA5(z:Int)(b:Nat)(w:N):N:=(aA4 b w).alloc<|B5 #[zI z] 70
def raV(t w):(ReflectliteValue.unpack<|A0 72<|C2<|Y t).run M w
  = .ok (wA 72 ⟨w.heap.size,0,A9⟩ 150) (w.alloc<|B5 #[C2<|Y t] 72):=J
def raT(a w):(ReflectliteValue.methodAny (ReflectliteValue.valueError "reflectlite.Value.Type" 0) (λt _ _ _=>ReflectliteType.toType t) #[wA 72 a 150]).run M w
  = .ok (A0 227<|oA 72) w:=J
def aw0(h w):(Go.method 520 227 (B2 #[h]) "Kind").run M w= .ok (396,h) w:=J
def aw1(h w):(Go.method 520 227 (B2 #[h]) "Elem").run M w= .ok (412,B2 #[h]) w:=J
def aw2(h w):(Go.method 520 227 (B2 #[h]) "Implements").run M w= .ok (413,B2 #[h]) w:=J
def aw3(h w):(Go.method 520 227 (B2 #[h]) "AssignableTo").run M w= .ok (410,B2 #[h]) w:=J
def aw4(w):((ReflectliteType.abiMethod λt=>(λa:Nat=>D1 IntKind.u8 (a:Int))<$>Rtype.kind t) #[aA2 72]).run M w= .ok (zU 22) w:=J
def aw5(w):((ReflectliteType.abiMethod λt=>(λa:Nat=>D1 IntKind.u8 (a:Int))<$>Rtype.kind t) #[aA2 70]).run M w= .ok (zU 25) w:=J
def aw6(z f v):
  ReflectliteValue.method z f #[v]=(do match <-ReflectliteValue.parts v with|none=>z|some (t,a,b)=>f t a b<|b%32):=rfl
def aw7(a w):(ReflectliteValue.parts<|wA 72 a 150).run M w= .ok (Y (72,a,150)) w:=J
def raN(a p W)(b:W.cell? a=Y (.pointer<|Y p)):
  (ReflectliteValue.method (ReflectliteValue.valueError "reflectlite.Value.IsNil" 0) ReflectliteValue.isNil #[wA 72 a 150]).run M W= .ok (.bool T) W:=by
 rw[aw6];simp only[zl,aw7,A3];simp[ReflectliteValue.isNil,loadVar,isAgg,underlying,underlying72,b,A3]
def aw8(w):(ReflectliteType.method ReflectliteType.elem #[oA 72]).run M w= .ok (A0 227<|oA 70) w:=J
def aw9(w):(ReflectliteType.relation "Implements" ReflectliteType.implements_ #[oA 70,A0 227<|oA 67]).run M w= .ok (A2 V) w:=J
def azc(v w):(ReflectliteType.typeOf #[A0 70 v]).run M w= .ok (A0 227<|oA 70) w:=J
def azd(v w):(ReflectliteType.typeOf #[A0 379 v]).run M w= .ok (A0 227<|oA 379) w:=J
def aze(w):(ReflectliteType.relation "AssignableTo" ReflectliteType.assignableTo #[oA 70,A0 227<|oA 70]).run M w= .ok (A2 V) w:=J
def azf(w):(ReflectliteType.relation "AssignableTo" ReflectliteType.assignableTo #[oA 379,A0 227<|oA 70]).run M w= .ok (A2 T) w:=J
def azg(z w):(ReflectliteValue.unpack<|A0 70<|B2 #[zI z]).run M w
  = .ok (wA 70 ⟨w.heap.size,0,A9⟩ 153) (w.alloc<|B5 #[zI z] 70):=J
def azh(w):(Rtype.elem? 72).run M w= .ok (Y 70) w:=J
def azi(p w):(ReflectliteValue.mk 70 p ReflectliteValue.flagAddr).run M w= .ok (wA 70 p 409) w:=J
def azj(a p W)(b:W.cell? a=Y (.pointer<|Y p)):
  (ReflectliteValue.method (ReflectliteValue.valueError "reflectlite.Value.Elem" 0) ReflectliteValue.elem #[wA 72 a 150]).run M W
   = .ok (wA 70 p 409) W:=by
 rw[aw6];simp only[zl,aw7,A3];simp[ReflectliteValue.elem,loadVar,isAgg,underlying,underlying72,b,A3,azh,azi]
def azk(v x):ReflectliteValue.set #[v,x]=(do
  let (Y (dst,a,fl),Y (src,b,_)):=(<-ReflectliteValue.parts v,<-ReflectliteValue.parts x)
   |unsupported (.noEntry "extern/(internal/reflectlite.Value).Set.zeroValue")
  if fl / ReflectliteValue.flagAddr%2==0 then unsupported (.noEntry "extern/(internal/reflectlite.Value).Set.unaddressable")
  let val <-loadVar src b
  if <-Rtype.directlyAssignable dst src then storeVar dst a val
  else if <-Rtype.implements dst src then
   if(<-Rtype.kind src)==20 then
    match val with
    | .nilIface=>unsupported (.noEntry "extern/reflectlite: a nil value of one interface type handed on as a value of another")|_=>storeVar dst a val
   else storeVar dst a (A0 src val)
  else panicString ("reflectlite.Set: value of type " ++(<-Rtype.spelt src)++ " is not assignable to type " ++(<-Rtype.spelt dst))
  pure (A1 #[])):=rfl
def azl(a w):(ReflectliteValue.parts<|wA 70 a 409).run M w= .ok (Y (70,a,409)) w:=J
def azm(a w):(ReflectliteValue.parts<|wA 70 a 153).run M w= .ok (Y (70,a,153)) w:=J
def raD(w):(Rtype.directlyAssignable 70 70).run M w= .ok V w:=J
def azn(w):(sizeOf 70).run M w= .ok 1 w:=J
def raS(a b z h W)(c:W.cell? b=Y (.int .i64 z))(g:W.cell? a=Y h)(d:W.frozen? a=T):
  (ReflectliteValue.set #[wA 70 a 409,wA 70 b 153]).run M W
   = .ok (.tuple #[]) (W.setCell a<|zI z):=by
 have e:(loadVar 70 b).run M W= .ok (.agg #[zI z]) W:=by
  unfold loadVar;simp[isAgg,underlying,underlying70,loadCells,loadCellsFrom,c,Addr.add,A3]
 have f:(storeVar 70 a<|.agg #[zI z]).run M W= .ok () (W.setCell a<|zI z):=by
  unfold storeVar;simp only[zl,azn,A3];simp[Value.cells,storeCells,Addr.add];rw[run_store M W a _ _ byR];simp[g,d]
 rw[azk];simp only[zl,azl,azm,A3];simp[ReflectliteValue.flagAddr,e,raD,f,A3]
def azo(v a w):(Instr.typeAssert (A0 379 v) a 232 V).run M w= .ok (A1 #[B3,A2 T]) w:=run_typeAssert_lacksB underlying232 J J v a w
def azp(v a w):(Instr.typeAssert (A0 379 v) a 235 V).run M w= .ok (A1 #[B3,A2 T]) w:=run_typeAssert_lacksB underlying235 J J v a w
def azq(v a w):(Instr.typeAssert (A0 379 v) a 237 V).run M w= .ok (A1 #[B3,A2 T]) w:=run_typeAssert_lacksB underlying237 J J v a w
def Exn(f:FuncId)(e:zAV->Sem Br):Prop:=∀(args:zAV)(a:N),(callFunc f args).run M a=((e args).run M a).andThen λb c=> .ok (.value b) c
def rh6:Exn 60 (λargs=>ReflectliteValue.unpack<|args.getD 0<|A1 #[]):=nI func60 J J J J
def rh7:Exn 61 (ReflectliteValue.methodAny (ReflectliteValue.valueError "reflectlite.Value.Type" 0) (λt _ _ _=>ReflectliteType.toType t)):=nI func61 J J J J
def rh8:Exn 62 (ReflectliteValue.method (ReflectliteValue.valueError "reflectlite.Value.IsNil" 0) ReflectliteValue.isNil):=nI func62 J J J J
def axa:Exn 396 (ReflectliteType.abiMethod λt=>do pure (zU<|<-Rtype.kind t)):=nI func396 J J J J
def axb:Exn 412 (ReflectliteType.method ReflectliteType.elem):=nI func412 J J J J
def axc:Exn 413 (ReflectliteType.relation "Implements" ReflectliteType.implements_):=nI func413 J J J J
def axd:Exn 161 ReflectliteType.typeOf:=nI func161 J J J J
def axe:Exn 410 (ReflectliteType.relation "AssignableTo" ReflectliteType.assignableTo):=nI func410 J J J J
def axf:Exn 162 (ReflectliteValue.method (ReflectliteValue.valueError "reflectlite.Value.Elem" 0) ReflectliteValue.elem):=nI func162 J J J J
def axg:Exn 163 ReflectliteValue.set:=nI func163 J J J J
def atE(z b o w)(l:w.cell? (aj 1 0)=Y (A0 227<|oA 67))(n:w.heap[b]?=Y (B5 #[o] 70 (0,0))):
  Ax M 27 #[A0 70<|B2 #[zI z],A0 72<|be b 0] w λc a=>c=Q (A2 V)/\a.heap[b]?=Y (B5 #[zI z] 70 (0,0))/\A5 b w a:=by
 have y:=rh6;have A:=rh7;have B:=rh8;have t:=axa;have v:=axb;have x:=axc;have q:=axd;have u:=axe;have r:=axf;have s:=axg;unfold Exn at y A B t v x q u r s;have ad:=azc;have af:=aw3;have ak:=aze;have al:=azg;have am:=raV;have an:=raT;have ao:=aw0;have ap:=aw1;have ar:=aw2;have av:=aw4;have ax:=aw5;have a0:=aw8;have a1:=aw9;have j:=(mE.1 n).1;have G:1<w.heap.size:=by
  obtain h|h:=cG 1 w.heap.size
  .exact h
  .simp[World.cell?,Lf h]at l
 have a:=λE C=>(ay _ E).alloc eE C;have d:A5 w.heap.size w (aA3 b w):=(a w _).trans<|(a _ _).mono (a w _).size;have f:A5 w.heap.size w (aA4 b w):=d.trans<|(a _ _).mono d.size;have g:A5 w.heap.size w (aA5 z b w):=f.trans<|(a _ _).mono f.size;have H:=ag d l;have e:(aA6 b w).cell? ⟨w.heap.size,0,A9⟩=Y (be b 0):=oe<|au w _;have K:=raN ⟨w.heap.size,0,A9⟩ ⟨b,0,A9⟩ (aA3 b w)<|ag (a _ _) e;have F:=azj ⟨w.heap.size,0,A9⟩ ⟨b,0,A9⟩ (aA4 b w)<|ag (a _ _)<|ag (a _ _) e;have c:=(g.block b j).trans n;have L:=raS ⟨b,0,A9⟩ ⟨w.heap.size+1+1+1,0,A9⟩ z o (aA5 z b w) (by
  have:=yL _ _ 0 _ _ _<|au (aA4 b w)<|B5 #[zI z] 70;simpa using this) (oe c)<|frR c
 have m:((aA5 z b w).setCell ⟨b,0,A9⟩<|zI z).heap[b]?=Y (B5 #[zI z] 70 (0,0)):=aD _ b 0 _ _ _ c;have k:A5 b w ((aA5 z b w).setCell ⟨b,0,A9⟩<|zI z):=(g.mono<|gL j).setCell (p:=⟨b,0,A9⟩) eE _;have i:=fs m k;clear d f g a e m k c;go_in;go_wp2;refine ql 1 ?_;rw[jw];go_wp2;go_ret;exact⟨R,i.out.1,i.out.2⟩
def ap6(v b w)(q:w.cell? (aj 1 0)=Y (A0 227<|oA 67)):
  Ax M 27 #[A0 379 v,A0 72<|be b 0] w λa c=>a=Q (A2 T)/\A5 w.heap.size w c:=by
 have n:=rh6;have o:=rh7;have p:=rh8;have j:=axa;have l:=axb;have m:=axc;have g:=axd;have k:=axe;have h:=axf;have i:=axg;unfold Exn at n o p j l m g k h i;have x:=azd;have y:=aw3;have z:=azf;have A:=azo;have B:=raV;have C:=raT;have E:=aw0;have F:=aw1;have G:=aw2;have H:=aw4;have K:=aw5;have L:=aw8;have ad:=aw9;have af:=azp;have ak:=azq;have a:=λs r=>(ay _ s).alloc eE r;have c:A5 w.heap.size w (aA3 b w):=(a w _).trans<|(a _ _).mono (a w _).size;have e:A5 w.heap.size w (aA4 b w):=c.trans<|(a _ _).mono c.size;have t:=ag c q;have d:(aA6 b w).cell? ⟨w.heap.size,0,A9⟩=Y (be b 0):=oe<|au w _;have u:=raN ⟨w.heap.size,0,A9⟩ ⟨b,0,A9⟩ (aA3 b w)<|ag (a _ _) d;have f:=ah e;clear c e a d;go_in;go_wp2;refine ql 1 ?_;rw[jw];exact gwX f.out
end Go.Proofs.YthkcmkmkapijkaaGreatDoor
namespace Go.Proofs.YthkcmkmkapijkaaGreatDoor
open Go.RowKit
def atF(z w):(Instr.typeAssert (A0 52<|B2 #[zI z]) 20 52 V).run M w= .ok (A1 #[B2 #[zI z],A2 V]) w:=J
def atG(w):(Instr.typeAssert B3 20 52 V).run M w= .ok (A1 #[B2 #[zI 0],A2 T]) w:=J
