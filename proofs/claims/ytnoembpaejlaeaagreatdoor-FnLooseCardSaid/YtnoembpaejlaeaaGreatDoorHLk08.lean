import Derived.Test.YtnoembpaejlaeaaGreatDoorHLk02
import Derived.Test.YtnoembpaejlaeaaGreatDoorHLk03
import Derived.Deep.Strs
import Derived.OpenShut
import Derived.Test.YtnoembpaejlaeaaGreatDoorHLk07
import Derived.Lib.Join
set_option linter.all false
set_option maxRecDepth 100000
set_option maxHeartbeats 25600000
open Go.Proofs.Tryz renaming prog->M,sizeOf3->Ex,isAgg3->E1
open Option renaming some->O,none->A3
open Bool renaming true->U,false->Ax
open Go.Ending renaming returned->V
open Go.Value renaming int->Y,string->Z,pointer->B0,tuple->B2,bool->B4,slice->Fs,nilIface->F0,agg->G0
open Go.IntKind renaming i64->A0,u8->F2
open Go renaming World->A2,Calls->A9,Program->B3,Value->B7,KeepsFrom->F1
open Go.Lib renaming parseUintM->A5,hasPrefix->B6
open Go.World renaming putObj_heap_other->Br
open Go.RowKit renaming Below->B1,intOf->B5,Hid->E2
open List renaming range->Ce
open Go.Fence renaming wide->Ck
open Go.Instr renaming index->C2
namespace Go.Proofs.YtnoembpaejlaeaaGreatDoor
open Go.RowKit Go.Maps Go.WideMaps
variable{B i l n:Nat}{C:Nat->Bool}{K:Act->World->Prop}{Q:Exit->Act->World->Prop}{S S2:World->Prop}{W W' w:World}{a:Act}{c t:Int}{md:Region.Mode}{o:Oper}{ops:Array Oper}{s:ByteArray}
def ny(c:Int):Bool:=decide (0<=gF c)
def uh(c:Int):ny c=U↔(48<=c/\c<=57)\/(97<=c/\c<=102):=by
 unfold ny gF;rw[pa];split
 .omega
 .split<;>omega
def C3(c:Int)(w:A2):A9 M 241 #[Y F2 c] w λe f=>e= V (B4 (ny c))/\w=f:=by
 have b:=λw=>lg c w;by_cases a:cD c=U
 .rw[show ny c=U by rw[uh];have:=jw a;omega];rw[a]at b;clear a;go_in;go_wp2_with (first|(go_at_call 105;refine(b _).mono ?_;rintro e f ⟨rfl,rfl⟩));go_ret;exact⟨rfl,rfl⟩
 .have d:cD c=Ax:=by simpa using a
  rw[d]at b;have h:¬(48<=c/\c<=57):=by simpa [cD] using d
  rcases(show(97<=c/\c<=102)\/c<97\/(97<=c/\102<c) by omega) with⟨j,k⟩|g|⟨j,k⟩
  .rw[show ny c=U by rw[uh];omega];clear a d h;go_in;go_wp2_with (first|(go_at_call 105;refine(b _).mono ?_;rintro e f ⟨rfl,rfl⟩));go_ret;exact⟨rfl,rfl⟩
  .rw[show ny c=Ax by rw[<-abv,uh];omega];have i:¬97<=c:=by omega
   clear a d h;go_in;go_wp2_with (first|(go_at_call 105;refine(b _).mono ?_;rintro e f ⟨rfl,rfl⟩));go_ret;exact⟨rfl,rfl⟩
  .rw[show ny c=Ax by rw[<-abv,uh];omega];have i:¬c<=102:=by omega
   clear a d h;go_in;go_wp2_with (first|(go_at_call 105;refine(b _).mono ?_;rintro e f ⟨rfl,rfl⟩));go_ret;exact⟨by simp;omega,rfl⟩
def iI(q:Int->Bool)(s:ByteArray):Nat->Nat->Nat
 |0,p=>p
 |f+1,p=>if q (aw s p)=U then iI q s f (p+1) else p
def aag{q:Int->Bool}(a:q (-1)=Ax){p:Nat}(h:q (aw s p)=U):p<s.size:=by
 rcases bC p s.size with h1|h1
 .exact h1
 .rw[dH,a]at h;cases h
def pq(q:Int->Bool)(a:q (-1)=Ax)(s:ByteArray):∀(f p:Nat),p<=s.size->p<=iI q s f p/\iI q s f p<=s.size
 |0,p,h=>⟨ag _,h⟩
 |f+1,p,h=>by
  unfold iI;split
  .rename_i b;have c:=aag a b;have:=pq q a s f (p+1) (by omega);omega
  .exact⟨ag _,h⟩
def ui(q:Int->Bool)(s:ByteArray):∀(f p i:Nat),p<=i->i<iI q s f p->q (aw s i)=U
 |0,p,i,b,a=>by simp[iI]at a;omega
 |f+1,p,i,b,a=>by
  unfold iI at a;split at a
  .rename_i c;rcases js b with rfl|h3
   .exact c
   .exact ui q s f (p+1) i h3 a
  .omega
def Jq(q:Int->Bool)(a:q (-1)=Ax)(s:ByteArray):∀(f p:Nat),s.size<p+f->q (aw s (iI q s f p))=Ax
 |0,p,h=>by
  unfold iI;rw[dH,a]
 |f+1,p,h=>by
  unfold iI;split
  .exact Jq q a s f (p+1) (by omega)
  .rename_i b;simpa using b
def yl:cD (-1)=Ax:=by decide
def BG:ny (-1)=Ax:=by decide
def sx(s:ByteArray)(p:Nat):Nat:=iI cD s (s.size+1) p
def hxE(s:ByteArray)(p:Nat):Nat:=iI ny s (s.size+1) p
def wo(s:ByteArray)(y:s.size<=1100000)(p:Nat)(t:p<=s.size)(w:A2):A9 M 219 #[Z s,Y A0 p] w λe k=>e= V (Y A0 (sx s p))/\k=w:=by
 unfold sx;obtain⟨q,i⟩:=aF (iI cD s (s.size+1) p);rw[i];have o:=aq i;clear i;go_in;go_wp21
 go_loop [1] (λj=>∃(b c:Nat),b<=s.size/\s.size<b+c/\j= Y A0 b/\E2 (iI cD s c b=q)) (λj=>s.size-(B5 j).toNat)
 case atStart=>exact⟨p,s.size+1,t,by omega,rfl,o⟩
 case round=>
  obtain⟨b,c,x,v,rfl,n⟩:=hrel;obtain⟨c,rfl⟩:∃r,c=r+1:=⟨c-1,by omega⟩;have a:=n.out;unfold iI at a;by_cases m:b<s.size
  .have u:=λw=>dL m w;generalize aw s b=h at u a;have g:=λw=>lg h w;by_cases d:cD h=U
   .rw[ab d]at a;have f:=aq a;clear a;rw[d]at g;clear d;go_wp2_with (go_at_call 105;refine(g _).mono ?_;rintro e k ⟨rfl,rfl⟩);go_round
    case rel=>exact⟨b+1,c,by omega,by omega,by go_num,f⟩
    case measure=>simp[B5];omega
   .have l:cD h=Ax:=by simpa using d
    rw[aa d]at a;have f:=aq a;rw[l]at g;clear d l a;go_wp2_with (go_at_call 105;refine(g _).mono ?_;rintro e k ⟨rfl,rfl⟩);go_ret;exact⟨by rw[<-f.out];rfl,rfl⟩
  .rw[aa (by rw[dH m];decide)]at a;have f:=aq a;clear a;go_wp2;go_ret;exact⟨by rw[<-f.out];rfl,rfl⟩
def nA(s:ByteArray)(q:Nat):Nat×Bool:=if q+16<hxE s q then(q+16,Ax) else(hxE s q,decide (q<hxE s q))
def aah(s:ByteArray)(I:s.size<=1100000)(p:Nat)(C:p<=s.size)(w:A2):A9 M 218 #[Z s,Y A0 p] w λe j=>e= V (B2 #[Y A0 ((nA s p).1:Int),B4 (nA s p).2])/\j=w:=by
 unfold nA hxE;obtain⟨i,m⟩:=aF (iI ny s (s.size+1) p);rw[m];have x:=aq m;clear m;obtain⟨o,q,l⟩:∃o q,(if p+16<i then(p+16,Ax) else(i,decide (p<i)))=(o,q):=⟨_,_,rfl⟩;rw[l];have f:=aq l;clear l;go_in;go_wp21
 go_loop [6] (λn=>∃(a d:Nat),p<=a/\a<=p+16/\a<=s.size/\s.size<a+d/\n= Y A0 a/\E2 (iI ny s d a=i)) (λn=>s.size-(B5 n).toNat)
 case atStart=>exact⟨p,s.size+1,ag _,by omega,C,by omega,rfl,x⟩
 case round=>
  obtain⟨a,d,J,H,G,F,rfl,v⟩:=hrel;obtain⟨d,rfl⟩:∃A,d=A+1:=⟨d-1,by omega⟩;have c:=v.out;unfold iI at c;by_cases u:a<s.size
  .have E:=λw=>dL u w;generalize aw s a=k at E c;have h:=λw=>C3 k w;by_cases g:ny k=U
   .rw[ab g]at c;have B:=(pq ny BG s d (a+1) (by omega)).1;rw[c]at B;have y:=aq c;clear c;rw[g]at h;clear g;by_cases t:a=p+16
    .have b:=f.out;rw[ab (by omega),<-t]at b;obtain⟨rfl,rfl⟩:=xG b;have z:((a:Int)-(p:Int)==16)=U:=by rw[jB];omega
     clear b f t;go_wp2_with (go_at_call 241;refine(h _).mono ?_;rintro e j ⟨rfl,rfl⟩);go_ret2;exact⟨rfl,rfl⟩
    .have z:((a:Int)-(p:Int)==16)=Ax:=by rw[dv];omega
     go_wp2_with (go_at_call 241;refine(h _).mono ?_;rintro e j ⟨rfl,rfl⟩);go_round
     case rel=>exact⟨a+1,d,by omega,by omega,by omega,by omega,by go_num,y⟩
     case measure=>simp[B5];omega
   .have r:ny k=Ax:=by simpa using g
    rw[aa g]at c;subst c;rw[r]at h;clear g r;have b:=f.out;rw[aa (by omega)]at b;obtain⟨rfl,rfl⟩:=xG b;clear b f;go_wp2_with (go_at_call 241;refine(h _).mono ?_;rintro e j ⟨rfl,rfl⟩);go_ret2;exact⟨by simp,rfl⟩
  .rw[aa (by rw[dH u];decide)]at c;subst c;have b:=f.out;rw[aa (by omega)]at b;obtain⟨rfl,rfl⟩:=xG b;clear b f;go_wp2;go_ret2;exact⟨by simp,rfl⟩
def io(s:ByteArray)(i:Nat)(b:UInt8):s.data.toList[i]?=O b↔i<s.size/\aw s i=(b.toNat:Int):=by
 unfold aw;by_cases a:i<s.size
 .rw[mK a];have d:s.data.toList[i]?=O s[i]:=by
   rw[uG];exact Bj a
  rw[d];constructor
  .intro c;injection c with c;exact⟨a,by rw[c]⟩
  .intro ⟨_,c⟩;congr 1;exact UInt8.toNat_inj.1 (by omega)
 .have d:s.data.toList[i]?=A3:=by
   rw[uG];exact xB (Nat.not_lt.1 a)
  rw[d];simp[a]
def G5(s:ByteArray)(p:Nat)(x b:UInt8):B6 (s.extract p s.size).data.toList [x,b]=decide (aw s p=(x.toNat:Int)/\aw s (p+1)=(b.toNat:Int)):=by
 have o:(s.extract p s.size).data.toList=s.data.toList.drop p:=by
  rw[<-gy,Lib.extract_toList,db];rw[ig,fD];exact ag _
 rw[o];unfold B6;rw[vf,xC,pa];constructor
 .rintro ⟨t,h⟩;have d:(s.data.toList.drop p)[0]?=O x:=by rw[<-h];rfl
  have e:(s.data.toList.drop p)[1]?=O b:=by rw[<-h];rfl
  rw[sj]at d e;exact⟨((io s _ x).1 d).2,((io s _ b).1 e).2⟩
 .rintro ⟨d,e⟩;have f:∀a (c:UInt8),aw s a=(c.toNat:Int)->s.data.toList[a]?=O c:=λa c g=>by
   refine(io s a c).2 ⟨?_,g⟩;rcases bC a s.size with h2|h2
   .exact h2
   .rw[dH]at g;omega
  have q:=f p x d;have r:=f (p+1) b e;refine⟨s.data.toList.drop (p+2),?_⟩;have i:=List.getElem?_eq_some_iff.1 q;have j:=List.getElem?_eq_some_iff.1 r;obtain⟨k,m⟩:=i;obtain⟨l,n⟩:=j;rw[lp k,lp l,m,n];rfl
def nA0(s:ByteArray)(p:Nat):Nat:=if aw s p=48 then p+1 else sx s (p+1)
def nA1(s:ByteArray)(a:Nat):Nat:=if aw s a=46/\cD (aw s (a+1))=U then sx s (a+1) else a
def nA2(s:ByteArray)(a:Nat):Nat:=if aw s (a+1)=43\/aw s (a+1)=45 then a+1+1 else a+1
def oq(s:ByteArray)(a:Nat):Nat×Bool:=if aw s a=101 then(sx s (nA2 s a),decide (nA2 s a<sx s (nA2 s a))) else(a,U)
def dJ(s:ByteArray)(p:Nat):Nat×Bool:=if aw s p=48/\aw s (p+1)=120 then nA s (p+2) else oq s (nA1 s (nA0 s p))
def sy(s:ByteArray)(p:Nat)(h:p<=s.size):p<=sx s p/\sx s p<=s.size:=pq cD yl s _ p h
def wu(s:ByteArray)(c:s.size<=1100000)(a:Int)(p:Nat)(b:a=(p:Int))(d:p<=s.size)(w:A2):A9 M 219 #[Z s,Y A0 a] w λe f=>e= V (Y A0 (sx s p))/\f=w:=by
 subst b;exact wo s c p d w
def ym(a:Int)(i:Nat)(b:a=(i:Int))(h:i<s.size)(w:A2):(C2 9 (Z s) (Y A0 a)).run M w= .ok (Y F2 (aw s i)) w:=by
 subst b;exact dL h w
def bq(h:aw s i=c)(a:0<=c:=by omega):i<s.size:=by
 rcases bC i s.size with h2|h2
 .exact h2
 .rw[dH]at h;omega
def re(h:cD (aw s i)=U):i<s.size:=aag yl h
def C4(s:ByteArray)(p:Nat)(w:A2):A9 M 55 #[Z (s.extract p s.size),Z ⟨#[48,120]⟩] w λe b=>e= V (B4 (decide (aw s p=48/\aw s (p+1)=120)))/\b=w:=by
 have a:=Tryz.strings_HasPrefix (s.extract p s.size) ⟨#[48,120]⟩ w;rw[show(⟨#[48,120]⟩:ByteArray).data.toList=[48,120] from rfl,G5]at a;exact a
def EC(s:ByteArray)(h:s.size<=1100000)(p:Nat)(d:aw s p=48)(a:aw s (p+1)=120)(w:A2):A9 M 178 #[Z s,Y A0 p] w λe c=>e= V (B2 #[Y A0 ((nA s (p+2)).1:Int),B4 (nA s (p+2)).2])/\c=w:=by
 have k:=bq a;have f:=λw=>C4 s p w;rw[show decide (aw s p=48/\aw s (p+1)=120)=U by simp[d,a]]at f;have b:∀w,A9 M 218 #[Z s,Y A0 ((p:Int)+2)] w λe c=>e= V (B2 #[Y A0 ((nA s (p+2)).1:Int),B4 (nA s (p+2)).2])/\c=w:=λw=>aah s h (p+2) (by omega) w;generalize nA s (p+2)=g at b;obtain⟨i,j⟩:=g;simp only at b⊢;clear d a;go_in;go_wp2_with (first|(go_at_call 55;refine ft (f _) ?_)|(go_at_call 218;refine ft (b _) ?_));go_ret2;exact⟨rfl,rfl⟩
abbrev IX(s:ByteArray)(a c:Int):Prop:=∀w,(C2 9 (Z s) (Y A0 a)).run M w= .ok (Y F2 c) w
abbrev DE(s:ByteArray)(a:Int)(b:Nat):Prop:=∀w,A9 M 219 #[Z s,Y A0 a] w λc d=>c= V (Y A0 (b:Int))/\d=w
abbrev DQ(c:Int)(b:Bool):Prop:=∀w,A9 M 105 #[Y F2 c] w λa d=>a= V (B4 b)/\d=w
def aqD(s:ByteArray)(d:s.size<=1100000)(p:Nat)(f:p<s.size):∃a:Int,a=(nA0 s p:Nat)/\nA0 s p<=s.size/\((aw s p=48/\a=(p:Int)+1)\/((aw s p==48)=Ax/\DE s ((p:Int)+1) (nA0 s p)/\∃c,nA0 s p=c/\a=(c:Int))):=by
 unfold nA0;split
 .rename_i b;exact⟨_,rfl,by omega,.inl ⟨b,by omega⟩⟩
 .rename_i b;exact⟨_,rfl,(sy s (p+1) (by omega)).2,.inr ⟨by simp[b],λe=>wo s d (p+1) (by omega) e,_,rfl,rfl⟩⟩
def aqE(s:ByteArray)(n:s.size<=1100000)(c:Nat)(m:c<=s.size)(a:Int)(h:a=(c:Int)):∃b:Int,b=(nA1 s c:Nat)/\nA1 s c<=s.size/\((¬a+1<(s.size:Int)/\b=a/\nA1 s c=c)\/(a+1<(s.size:Int)/\IX s a (aw s c)/\((b=a/\nA1 s c=c/\(aw s c==46)=Ax)\/(aw s c=46/\IX s (a+1) (aw s (c+1))/\((b=a/\nA1 s c=c/\DQ (aw s (c+1)) Ax)\/(DQ (aw s (c+1)) U/\DE s (a+1) (nA1 s c)/\∃B,nA1 s c=B/\b=(B:Int))))))):=by
 have k:∀f,DQ f (cD f):=λf e=>(lg _ e).mono λo p d=>⟨d.1,d.2.symm⟩;have i:c<s.size->IX s a (aw s c):=λd e=>ym _ c h d e;have j:c+1<s.size->IX s (a+1) (aw s (c+1)):=λd e=>ym _ (c+1) (by omega) d e;unfold nA1;split
 .rename_i d;have h1:=re d.2;exact⟨_,rfl,(sy s (c+1) (by omega)).2,.inr ⟨by omega,i (by omega),.inr ⟨d.1,j h1,.inr ⟨by rw[<-d.2];exact k _,λe=>wu s n _ (c+1) (by omega) (by omega) e,_,rfl,rfl⟩⟩⟩⟩
 .rename_i d;refine⟨a,h,m,?_⟩;rcases bC (c+1) s.size with h1|h1
  .refine .inr ⟨by omega,i (by omega),?_⟩;by_cases g:aw s c=46
   .refine .inr ⟨g,j h1,.inl ⟨rfl,rfl,?_⟩⟩;have l:cD (aw s (c+1))=Ax:=by simpa [g] using d
    rw[<-l];exact k _
   .exact .inl ⟨rfl,rfl,by simp[g]⟩
  .exact .inl ⟨by omega,rfl,rfl⟩
def aqF(s:ByteArray)(m:s.size<=1100000)(a:Nat)(n:a<=s.size)(b:Int)(h:b=(a:Int)):((b==(s.size:Int))=U/\((oq s a).1:Int)=b/\(oq s a).2=U)\/((b==(s.size:Int))=Ax/\IX s b (aw s a)/\(((aw s a==101)=Ax/\((oq s a).1:Int)=b/\(oq s a).2=U)\/(aw s a=101/\∃d:Int,((¬b+1<(s.size:Int)/\d=b+1)\/(b+1<(s.size:Int)/\IX s (b+1) (aw s (a+1))/\((aw s (a+1)=43/\d=b+1+1)\/(aw s (a+1)=45/\d=b+1+1)\/((aw s (a+1)==43)=Ax/\(aw s (a+1)==45)=Ax/\d=b+1))))/\∃C:Nat,DE s d C/\(oq s a).1=C/\(oq s a).2=decide (d<(C:Int))))):=by
 unfold oq;have j:a+1<s.size->IX s (b+1) (aw s (a+1)):=λi e=>ym _ (a+1) (by omega) i e;by_cases f:aw s a=101
 .have k:=bq f;rw[ab f];refine .inr ⟨by rw[dv];omega,λe=>ym _ a h k e,.inr ⟨f,(nA2 s a:Nat),?_,_,λe=>wu s m _ (nA2 s a) rfl ?_ e,rfl,by rw[Gv];omega⟩⟩
  .unfold nA2;rcases(show ¬a+1<s.size\/(a+1<s.size/\aw s (a+1)=43)\/(a+1<s.size/\aw s (a+1)=45)\/(a+1<s.size/\aw s (a+1)≠43/\aw s (a+1)≠45) by omega) with h2|⟨h2,c⟩|⟨h2,c⟩|⟨h2,c,l⟩
   .rw[aa (by rw[dH h2];omega)];exact .inl ⟨by omega,by omega⟩
   .rw[ab (.inl c)];exact .inr ⟨by omega,j h2,.inl ⟨c,by omega⟩⟩
   .rw[ab (.inr c)];exact .inr ⟨by omega,j h2,.inr (.inl ⟨c,by omega⟩)⟩
   .rw[aa (by omega)];exact .inr ⟨by omega,j h2,.inr (.inr ⟨by simp[c],by simp[l],by omega⟩)⟩
  .unfold nA2;split
   .rename_i i;rcases bC (a+1) s.size with g|g
    .omega
    .rw[dH]at i;omega
   .omega
 .rw[aa f];rcases(show a=s.size\/a<s.size by omega) with h2|h2
  .exact .inl ⟨by rw[jB];omega,h.symm,rfl⟩
  .exact .inr ⟨by rw[dv];omega,λe=>ym _ a h h2 e,.inl ⟨by simp[f],h.symm,rfl⟩⟩
def ED(s:ByteArray)(f:s.size<=1100000)(p:Nat)(k:p<s.size)(l:¬(aw s p=48/\aw s (p+1)=120))(w:A2):A9 M 178 #[Z s,Y A0 p] w λe H=>e= V (B2 #[Y A0 ((oq s (nA1 s (nA0 s p))).1:Int),B4 (oq s (nA1 s (nA0 s p))).2])/\H=w:=by
 have m:=λw=>C4 s p w;rw[aD l]at m;have ao:=λw=>dL k w;obtain⟨r,c,i,o⟩:=aqD s f p k;obtain⟨t,d,j,g⟩:=aqE s f _ i r c;have a:=aqF s f _ j t d;generalize oq s (nA1 s (nA0 s p))=q at a⊢;obtain⟨af,ak⟩:=q;simp only at a⊢;clear l;have u:nA0 s p<=1100000:=by omega
 have v:nA1 s (nA0 s p)<=1100000:=by omega
 generalize nA1 s (nA0 s p)=K at d j g a v;generalize nA0 s p=I at c i o g u;rcases o with⟨x,rfl⟩|⟨x,A,J,rfl,rfl⟩;all_goals
  rcases g with⟨G,rfl,rfl⟩|⟨G,ap,⟨rfl,rfl,y⟩|⟨y,ar,⟨rfl,rfl,n⟩|⟨n,B,L,rfl,rfl⟩⟩⟩;all_goals
   rcases a with⟨E,b,rfl⟩|⟨E,au,⟨z,b,rfl⟩|⟨z,al,⟨F,rfl⟩|⟨F,av,⟨h,rfl⟩|⟨h,rfl⟩|⟨h,an,rfl⟩⟩,ad,C,rfl,rfl⟩⟩;all_goals first|omega|skip
   all_goals
    try rw[b]
    try clear b
    clear c d;go_in;go_wp2_with (first|(go_at_call 55;refine ft (m _) ?_)|(go_at_call 105;refine ft (n _) ?_)|(go_at_call 219;first|(with_reducible refine ft (A _) ?_)|(with_reducible refine ft (B _) ?_)|(with_reducible refine ft (C _) ?_)));all_goals
     go_ret2;exact⟨rfl,rfl⟩
def wv(s:ByteArray)(b:s.size<=1100000)(p:Nat)(c:p<s.size)(w:A2):A9 M 178 #[Z s,Y A0 p] w λe d=>e= V (B2 #[Y A0 ((dJ s p).1:Int),B4 (dJ s p).2])/\d=w:=by
 unfold dJ;by_cases a:aw s p=48/\aw s (p+1)=120
 .rw[ab a];exact EC s b p a.1 a.2 w
 .rw[aa a];exact ED s b p c a w
def sA(s:ByteArray)(p:Nat):Nat->Nat
 |0=>0
 |n+1=>sA s p n*16+(gF (aw s (p+n))).toNat
def aai(s:ByteArray)(p:Nat):∀n,sA s p n<16 ^ n
 |0=>by simp[sA]
 |n+1=>by
  have h:=aai s p n;have b:=oa (aw s (p+n));have a:16 ^ (n+1)=16 ^ n*16:=Nat.pow_succ 16 n;unfold sA;omega
def afq(s:ByteArray)(p n:Nat)(h:n<=15):sA s p n<1152921504606846976:=by
 have a:=aai s p n;have b:16 ^ n<=16 ^ 15:=Nat.pow_le_pow_right (by omega) h;have c:16 ^ 15=1152921504606846976:=by decide
 omega
def aaj(s:ByteArray)(p n:Nat)(h:n<=16):sA s p n<18446744073709551616:=by
 have a:=aai s p n;have b:16 ^ n<=16 ^ 16:=Nat.pow_le_pow_right (by omega) h;have c:16 ^ 16=18446744073709551616:=by decide
 omega
def ai8(c:Int)(a:97<=c)(b:c<=102):bits .or F2 c 32=c:=by
 rcases(show c=97\/c=98\/c=99\/c=100\/c=101\/c=102 by omega) with rfl|rfl|rfl|rfl|rfl|rfl<;>decide+kernel
def afr(s:ByteArray)(j:Nat)(h:j<s.size):((s.data.toList.getD j 0).toNat:Int)=aw s j:=by
 have:s.data.toList[j]?=O s[j]:=by
  rw[uG];exact Bj h
 rw[List.getD,this];unfold aw;rw[mK h];rfl
def aqG(t:ByteArray)(v:1<=t.size)(an:t.size<=16)(y:∀i,i<t.size->ny (aw t i)=U)(w:A2):
  A9 M 243 #[.string t,.int .i64 16,.int .i64 64] w λe q=>e= .returned (.tuple #[.int .u64 (sA t 0 t.size:Int),.nilIface])/\q=Lib.bytesWorld w 5 t:=by
 have ao:t.toList.isEmpty=Ax:=by
  rw[<-decide_eq_emptyBytes];exact aD (λE=>by rw[E]at v;simp at v)
 have H:=Lib.run_convert_string_bytes (P:=M) w 9 22 5 t (u:= .string) Tryz.underlying9 Tryz.underlying22 Tryz.underlying5;have j:∀f,f<t.size->(Lib.bytesWorld w 5 t).cell? ⟨w.heap.size,f,A3⟩=O (.int .u8 (aw t f)):=λf z=>by rw[Lib.bytesWorld_cell w 5 t f z,afr t f z]
 obtain⟨s,x⟩:∃s,s=Lib.bytesWorld w 5 t:=⟨_,rfl⟩;rw[<-x]at H j⊢;clear x;have ar:IntKind.u64.wrap (IntKind.u64.wrap 18446744073709551616-1)=18446744073709551615:=by
  rw[IntKind.wrap_u64,IntKind.wrap_u64];decide
 obtain⟨n,o⟩:∃n:Int,(sA t 0 t.size:Int)=n:=⟨_,rfl⟩;rw[o];have r:=aq o;clear o;go_in;go_wp2;go_loop [12,13,101] (λad L p=>∃(a:Nat) (b:Int),ad= .bool Ax/\L= .int .u64 b/\p= .int .i64 a/\a<=t.size/\E2 (b=(sA t 0 a:Int))) (λ_ _ p=>t.size-(B5 p).toNat)
 case atStart=>exact⟨0,0,rfl,rfl,rfl,by omega,rfl⟩
 case round=>
  obtain⟨a,b,rfl,rfl,rfl,ap,d⟩:=hrel;by_cases A:a<t.size
  .have G:=j a A;have C:=(uh _).1 (y a A);have F:=afq t 0 a (by omega);have af:0<=b:=by rw[d.out];omega
   have ak:b<1152921504606846976:=by rw[d.out];omega
   have g:E2 (∀h:Int,gF (aw t a)=h->0<=h->b*16+h=(sA t 0 (a+1):Int)):=λh I al=>by
    show _=((sA t 0 a*16+(gF (aw t (0+a))).toNat:Nat):Int);rw[iG,I,d.out];omega
   generalize aw t a=c at G C g;clear j F d y;rcases C with⟨k,l⟩|⟨k,l⟩
   .have m:E2 (b*16+(c-48)=(sA t 0 (a+1):Int)):=g.out (c-48) (by unfold gF;rw[ab ⟨k,l⟩]) (by omega);clear g;go_wp2;refine⟨⟨a+1,b*16+(c-48),rfl,(by first|rfl|(congr 1;omega)),(by first|rfl|(congr 1;omega)),by omega,m⟩,by simp[B5];omega⟩
   .have m:E2 (b*16+(c-87)=(sA t 0 (a+1):Int)):=g.out (c-87) (by unfold gF;rw[aa (by omega),ab ⟨k,l⟩]) (by omega);clear g;have B:=ai8 c k l;have K:∀w,A9 M 258 #[.int .u8 c] w λe q=>e= .returned (.int .u8 c)/\q=w:=λw=>by
     have:=Tryz.internal_strconv_lower c w;rw[B]at this;exact this
    clear B;go_wp2_with (go_at_call 258;refine ft (K _) ?_);refine⟨⟨a+1,b*16+(c-87),rfl,(by first|rfl|(congr 1;omega)),(by first|rfl|(congr 1;omega)),by omega,m⟩,by simp[B5];omega⟩
  .obtain rfl:a=t.size:=by omega
   have J:b=n:=by rw[<-r.out,d.out]
   subst J;clear j d r;go_wp2;go_ret2;exact⟨rfl,rfl⟩
structure ou (w:A2):Prop where
 syn:∃te pe,w.cell? ⟨6,0,A3⟩=O (.iface te pe)
 rng:∃te pe,w.cell? ⟨7,0,A3⟩=O (.iface te pe)
def sC{b:A2}(h:B1 B w b){a:Addr}(c:a.block<B):b.cell? a=w.cell? a:=by
 unfold World.cell?;rw[h.block _ c]
def G6{a:A2}(h:B1 B a w)(n:Nat):B1 B a (w.drewN n):=⟨h.os,h.tape,h.output,h.size,h.block⟩
def ou.below{e:A2}(h:ou w)(d:B1 B w e)(c:w.heap.size<=B):ou e:=by
 obtain⟨⟨j,i,a⟩,⟨k,p2,b⟩⟩:=h;have f:=Bp w _ a;have g:=Bp w _ b;exact⟨⟨j,i,(sC d (ip f c)).trans a⟩,⟨k,p2,(sC d (ip g c)).trans b⟩⟩
def sD(s:ByteArray)(i:Nat):aw s i=match s.data.toList[i]? with|some b=>(b.toNat:Int)|none=> -1:=by
 cases h:s.data.toList[i]? with
 |some b=>exact((io s i b).1 h).2
 |none=>
  refine dH λa=>?_;have:s.data.toList[i]?=O s[i]:=by rw[uG];exact Bj a
  rw[this]at h;cases h
def Ft(s:ByteArray)(n:Nat):ByteArray:=⟨(s.data.toList.drop n).toArray⟩
def sE(s:ByteArray)(n:Nat):(Ft s n).size=s.size-n:=by
 show(s.data.toList.drop n).toArray.size=_;rw[ir,ig,fD];rfl
def Fu(s:ByteArray)(n i:Nat):aw (Ft s n) i=aw s (n+i):=by
 rw[sD,sD];show(match (s.data.toList.drop n).toArray.toList[i]? with|some a=>(a.toNat:Int)|none=> -1)=_;rw[List.toList_toArray,sj]
def Jr(s:ByteArray)(a p:Nat):∀n,sA (Ft s a) p n=sA s (a+p) n
 |0=>rfl
 |n+1=>by
  unfold sA;rw[Jr s a p n,Fu,fj]
def ao6(t:ByteArray)(d:1<=t.size)(a:t.size<=16)(f:∀i,i<t.size->ny (aw t i)=U)(w:A2):
  A9 M 221 #[Z t,Y A0 16,Y A0 64] w λe c=>e= V (B2 #[Y .u64 (sA t 0 t.size:Int),F0])/\B1 w.heap.size w c:=by
 have b:=λw=>aqG t d a f w;have g:=aaj t 0 t.size a;generalize (sA t 0 t.size:Int)=h at b;go_in;go_wp2_with (go_at_call 243;refine(b _).mono ?_;rintro e c ⟨rfl,rfl⟩);go_ret2;exact⟨rfl,Lib.bytesWorld_below _ _ _⟩
def Js(s:ByteArray)(x a:UInt8):B6 s.data.toList [x,a]=decide (aw s 0=(x.toNat:Int)/\aw s 1=(a.toNat:Int)):=by
 have:=G5 s 0 x a;rw[jy]at this;exact this
def Fv(q:ByteArray)(j:aw q 0=48)(k:aw q 1=120)(r:3<=q.size)(p:q.size<=18)(d:∀i,2<=i->i<q.size->ny (aw q i)=U)(w:A2):
  A9 M 179 #[Z q] w λe b=>e= V (B2 #[Y A0 (wrap64 (sA q 2 (q.size-2):Int)),B4 U])/\B1 w.heap.size w b:=by
 have f:B6 q.data.toList [48,120]=U:=by rw[Js];simp[j,k]
 have h:∀w,A9 M 220 #[Z q,Z ⟨#[48,120]⟩] w λe b=>e= V (B2 #[Z (Ft q 2),B4 U])/\b=w:=λw=>by
  have:=Tryz.strings_CutPrefix q ⟨#[48,120]⟩ w;rw[show(⟨#[48,120]⟩:ByteArray).data.toList=[48,120] from rfl,Lib.trimPrefix,f]at this;exact this
 have a:=λw=>ao6 (Ft q 2) (by rw[sE];omega) (by rw[sE];omega) (λi n=>by rw[Fu];rw[sE]at n;exact d _ (by omega) (by omega)) w;rw[Jr,sE]at a;have l:=aaj q 2 (q.size-2) (by omega);simp only[gD]at a;obtain⟨c,g⟩:∃c:Int,(sA q 2 (q.size-2):Int)=c:=⟨_,rfl⟩;have s:0<=c:=by omega
 have t:c<18446744073709551616:=by omega
 rw[g]at a⊢;clear g l f d;generalize Ft q 2=o at h a;go_in;go_wp2_with (first|(go_at_call 220;refine(h _).mono ?_;rintro e b ⟨rfl,rfl⟩)|(go_at_call 221;refine(a _).mono ?_;rintro e b ⟨rfl,m⟩));go_quiet (fail)
 go_wp2;go_ret2;exact⟨rfl,G6 m _⟩
def zu(q:ByteArray):Option Int:=match Lib.parseIntB 64 q.data.toList with| .ok a=>O a|_=>A3
def Fw(q:ByteArray)(s:q.size<=1100000)(k:¬(aw q 0=48/\aw q 1=120))(w:A2)(o:ou w):
  A9 M 179 #[Z q] w λe a=>(∃x,e= V (B2 #[Y A0 x,B4 (zu q).isSome])/\∀v,zu q=O v->x=v)/\B1 w.heap.size w a:=by
 have h:B6 q.data.toList [48,120]=Ax:=by rw[Js];simpa using k
 have l:∀w,A9 M 220 #[Z q,Z ⟨#[48,120]⟩] w λe a=>e= V (B2 #[Z ⟨q.data.toList.toArray⟩,B4 Ax])/\a=w:=λw=>by
  have:=Tryz.strings_CutPrefix q ⟨#[48,120]⟩ w;rw[show(⟨#[48,120]⟩:ByteArray).data.toList=[48,120] from rfl,Lib.trimPrefix,h]at this;exact this
 generalize (⟨q.data.toList.toArray⟩:ByteArray)=r at l;obtain⟨⟨z,t,j⟩,⟨A,u,i⟩⟩:=o;unfold zu;cases hp:Lib.parseIntB 64 q.data.toList with
 |ok v=>
  have d:=Tryz.strconv_ParseInt_10_at64_ok q (by omega) v hp w;have f:A9 M 222 #[Z q,Y A0 10,Y A0 64] w λe a=>e= V (B2 #[Y A0 v,F0])/\B1 w.heap.size w a:=d.mono λe a c=>⟨c.1,by
   rcases c.2 with rfl|⟨y,rfl⟩
   .exact ai _ _
   .exact Lib.bytesWorld_below _ _ _⟩
  clear d hp h k j i;go_in;go_wp2_with (first|(go_at_call 220;refine(l _).mono ?_;rintro e a ⟨rfl,rfl⟩)|(go_at_call 222;refine f.mono ?_;rintro e a ⟨rfl,g⟩));go_quiet (fail)
  go_wp2;go_ret2;exact⟨⟨v,rfl,λ_ c=>bc c⟩,G6 g _⟩
 | «syntax» =>
  have d:=Tryz.strconv_ParseInt_10_at64_syntax q (by omega) hp _ w j (.inr ⟨_,_,rfl⟩);have f:A9 M 222 #[Z q,Y A0 10,Y A0 64] w λe a=>∃b,e= V (B2 #[Y A0 0,.iface 278 (B0 (O ⟨b,0,A3⟩))])/\B1 w.heap.size w a:=d.mono λe a ⟨b,m,_,_,n⟩=>⟨b,m,n⟩;clear d hp h k j i;go_in;go_wp2_with (first|(go_at_call 220;refine(l _).mono ?_;rintro e a ⟨rfl,rfl⟩)|(go_at_call 222;refine f.mono ?_;rintro e a ⟨b,rfl,g⟩));go_quiet (fail)
  go_wp2;go_ret2;exact⟨⟨0,rfl,λ_ c=>by cases c⟩,G6 g _⟩
 |range=>
  have d:=Tryz.strconv_ParseInt_10_at64_range q (by omega) hp _ w i (.inr ⟨_,_,rfl⟩);have f:A9 M 222 #[Z q,Y A0 10,Y A0 64] w λe a=>∃b,e= V (B2 #[Y A0 (Lib.intSat 64 q.data.toList),.iface 278 (B0 (O ⟨b,0,A3⟩))])/\B1 w.heap.size w a:=d.mono λe a ⟨b,m,_,_,n⟩=>⟨b,m,n⟩;clear d hp h k j i;generalize Lib.intSat 64 q.data.toList=p at f;go_in;go_wp2_with (first|(go_at_call 220;refine(l _).mono ?_;rintro e a ⟨rfl,rfl⟩)|(go_at_call 222;refine f.mono ?_;rintro e a ⟨b,rfl,g⟩));go_quiet (fail)
  go_wp2;go_ret2;exact⟨⟨p,rfl,λ_ c=>by cases c⟩,G6 g _⟩
def stp(a:Option Nat)(c:UInt8):Option Nat:=match a with|none=>A3|some b=>if b*10+(c.toNat-48)<=9223372036854775807 then O (b*10+(c.toNat-48)) else A3
def Jt:∀l:List UInt8,l.foldl stp A3=A3
 |[]=>rfl
 |c::r=>Jt r
def amf:∀(l:List UInt8)(a:Nat),(∀c∈l,48<=c.toNat/\c.toNat<=57)->9223372036854775808<=a->A5 (2 ^ 64-1) a l= .range\/∃u,A5 (2 ^ 64-1) a l= .ok u/\9223372036854775808<=u
 |[],a,_,h=> .inr ⟨a,rfl,h⟩
 |c::r,a,d,h=>by
  have b:=d c (by simp);unfold A5;rw[ab b,ab (by omega)];exact .inl rfl
def afs:∀(l:List UInt8)(a:Nat),(∀c∈l,48<=c.toNat/\c.toNat<=57)->a<=9223372036854775807->(∀u,l.foldl stp (O a)=O u->A5 (2 ^ 64-1) a l= .ok u/\u<=9223372036854775807)/\(l.foldl stp (O a)=A3->A5 (2 ^ 64-1) a l= .range\/∃u,A5 (2 ^ 64-1) a l= .ok u/\9223372036854775808<=u)
 |[],a,_,h=>by
  refine⟨λu b=>?_,λn=>by simp at n⟩;simp at b;subst b;exact⟨rfl,h⟩
 |c::r,a,j,h=>by
  have i:=j c (by simp);have k:∀d∈r,48<=d.toNat/\d.toNat<=57:=λd o=>j d (by simp[o]);rw[kF,show stp (O a) c=if a*10+(c.toNat-48)<=9223372036854775807 then O (a*10+(c.toNat-48)) else A3 from rfl];by_cases e:a*10+(c.toNat-48)<=9223372036854775807
  .rw[ab e];have p:=afs r (a*10+(c.toNat-48)) k e;have m:A5 (2 ^ 64-1) a (c::r)=A5 (2 ^ 64-1) (a*10+(c.toNat-48)) r:=by
    rw[A5,ab i,aa (by omega),aa (by omega)]
   rw[m];exact p
  .rw[aa e,Jt r];refine⟨λu b=>(by cases b),λ_=>?_⟩;rw[A5,ab i];by_cases f:1844674407370955162<=a
   .rw[ab f];exact .inl rfl
   .rw[aa f];by_cases g:2 ^ 64-1<a*10+(c.toNat-48)
    .rw[ab g];exact .inl rfl
    .rw[aa g];exact amf r _ k (by omega)
def afu:∀(l:List UInt8)(b:Nat),(∃c∈l,¬(48<=c.toNat/\c.toNat<=57))->∀u,A5 (2 ^ 64-1) b l≠ .ok u
 |[],_,h,u=>by obtain⟨c,a,_⟩:=h;simp at a
 |c::f,b,h,u=>by
  rw[A5];by_cases a:48<=c.toNat/\c.toNat<=57
  .rw[ab a];split
   .intro h;cases h
   .split
    .intro h;cases h
    .refine afu f _ ?_ u;obtain⟨e,hd,d⟩:=h;rcases List.mem_cons.1 hd with rfl|hd
     .exact absurd a d
     .exact⟨e,hd,d⟩
  .rw[aa a];intro h;cases h
def qA(s:ByteArray)(p:Nat):Nat->Option Nat
 |0=>O 0
 |n+1=>match qA s p n with|none=>A3|some x=>if x*10+(aw s (p+n)-48).toNat<=9223372036854775807 then O (x*10+(aw s (p+n)-48).toNat) else A3
def Ju(s:ByteArray)(p:Nat):∀n,p+n<=s.size->qA s p n=((s.data.toList.drop p).take n).foldl stp (O 0)
 |0,_=>rfl
 |n+1,h=>by
  have a:p+n<s.data.toList.length:=by rw[fD];exact h
  have b:(s.data.toList.drop p)[n]?=O (s.data.toList[p+n]):=by rw[sj];exact aA a
  have d:aw s (p+n)=((s.data.toList[p+n]).toNat:Int):=((io s (p+n) _).1 (aA a)).2;rw[ie,b,List.foldl_append,<-Ju s p n (by omega),qA,d];simp only[Gs,kF,List.foldl_nil,stp];have c:(((s.data.toList[p+n]).toNat:Int)-48).toNat=(s.data.toList[p+n]).toNat-48:=by omega
  rw[c]
def amg(s:ByteArray)(p:Nat):∀n u,qA s p n=O u->u<=9223372036854775807
 |0,u,h=>by simp[qA]at h;omega
 |n+1,u,h=>by
  unfold qA at h;split at h
  .cases h
  .split at h
   .rename_i a;cases h;exact a
   .cases h
def afv(q:ByteArray)(h:∀i,i<q.size->cD (aw q i)=U):∀c∈q.data.toList,48<=c.toNat/\c.toNat<=57:=by
 intro c a;obtain⟨i,d,rfl⟩:=List.mem_iff_getElem.1 a;have:=(io q i _).1 (aA d);have b:=jw (h i this.1);rw[this.2]at b;omega
def Jv(q:ByteArray)(a:cD (aw q 0)=U):∃c r,q.data.toList=c::r/\48<=c.toNat/\c.toNat<=57:=by
 have d:=re a;cases hq:q.data.toList with
 |nil=>
  have:q.data.toList.length=q.size:=by rw[fD];rfl
  rw[hq]at this;simp at this;omega
 |cons c r=>
  refine⟨c,r,rfl,?_⟩;have:=(io q 0 c).1 (by rw[hq];rfl);have b:=jw a;rw[this.2]at b;omega
def abK(c:UInt8)(r:List UInt8)(b:48<=c.toNat)(d:c.toNat<=57):Lib.parseIntB 64 (c::r)=match A5 (2 ^ 64-1) 0 (c::r) with| .syntax=> .syntax| .range=> .range| .ok u=>if 9223372036854775808<=u then .range else .ok (u:Int):=by
 simp only[Lib.parseIntB,Lib.parseUintB];rw[aa (show ¬(c.toNat=43\/c.toNat=45) by omega),aa (show ¬(c::r=[]) by simp)];have a:¬c.toNat=45:=by omega
 cases A5 (2 ^ 64-1) 0 (c::r) with
 |ok u=>simp[a]
 | «syntax» =>rfl
 |range=>rfl
def Jw(q:ByteArray)(j:0<q.size)(h:∀i,i<q.size->cD (aw q i)=U):zu q=Option.map (λu:Nat=>(u:Int)) (qA q 0 q.size):=by
 obtain⟨a,c,m,k,l⟩:=Jv q (h 0 j);have d:=afv q h;have e:=Ju q 0 q.size (by omega);rw[jC,db (by rw[fD];exact ag _)]at e;unfold zu;rw[e];rw[m]at d⊢;rw[abK a c k l];have f:=afs (a::c) 0 d (by omega);cases hx:(a::c).foldl stp (O 0) with
 |some u=>
  obtain⟨g,o⟩:=f.1 u hx;rw[g];simp only[uL];rw[aa (by omega)]
 |none=>
  rcases f.2 hx with b|⟨u,b,n⟩
  .rw[b];rfl
  .rw[b];simp only[ab n];rfl
def yo(q:ByteArray)(f:cD (aw q 0)=U)(i:Nat)(j:i<q.size)(k:cD (aw q i)=Ax):zu q=A3:=by
 obtain⟨a,b,l,g,h⟩:=Jv q f;have c:∃a∈q.data.toList,¬(48<=a.toNat/\a.toNat<=57):=by
  have d:i<q.data.toList.length:=by rw[fD];exact j
  refine⟨q.data.toList[i],mw d,?_⟩;have:=(io q i _).1 (aA d);have e:¬(48<=aw q i/\aw q i<=57):=by simpa [cD] using k
  rw[this.2]at e;omega
 unfold zu;rw[l]at c⊢;rw[abK a b g h];have:=afu (a::b) 0 c;cases hx:A5 (2 ^ 64-1) 0 (a::b) with
 |ok m=>exact absurd hx (this m)
 | «syntax» =>rfl
 |range=>rfl
def qd(q:ByteArray):Bool:=decide (cD (aw q 0)=U/\dJ q 0=(q.size,U)/\¬(aw q 0=48/\aw q 1=120)/\zu q=A3)
def amh(s:ByteArray)(p:Nat)(h:p<=s.size):p<=hxE s p/\hxE s p<=s.size:=pq ny BG s _ p h
def Jy{p e:Nat}(h:nA s p=(e,U)):p<e/\e<=p+16/\e=hxE s p/\∀i,p<=i->i<e->ny (aw s i)=U:=by
 unfold nA at h;split at h
 .cases h
 .rename_i d;obtain⟨b,a⟩:=xG h;subst b;exact⟨by simpa using a,by omega,rfl,λi c a=>ui ny s _ p i c a⟩
def aak{q:ByteArray}(b:0<q.size):(q.toList==[])=Ax:=by
 have:q.toList.length=q.size:=by rw[gy];simp
 cases hs:q.toList with
 |nil=>rw[hs]at this;simp at this;omega
 |cons a c=>rfl
def Jz{q:ByteArray}(a:¬0<q.size):(q.toList==[])=U:=by
 have:q.toList.length=q.size:=by rw[gy];simp
 have:q.toList=[]:=List.length_eq_zero_iff.1 (by omega);rw[this];rfl
def Fx{b:Bool}(h:cD c=b)(w:A2):A9 M 105 #[Y F2 c] w λe d=>e= V (B4 b)/\d=w:=(lg c w).mono λe d a=>⟨by rw[a.1,h],a.2.symm⟩
def aal(s:ByteArray)(b:s.size<=1100000)(a:0<s.size)(w:A2):A9 M 178 #[Z s,Y A0 0] w λe c=>e= V (B2 #[Y A0 ((dJ s 0).1:Int),B4 (dJ s 0).2])/\c=w:=wv s b 0 a w
def aam(s:ByteArray)(a:Nat)(h:a<=s.size):a<=(oq s a).1/\(oq s a).1<=s.size:=by
 unfold oq;split
 .rename_i c;have d:=bq c;have b:nA2 s a<=s.size/\a<nA2 s a:=by
   unfold nA2;split
   .rename_i hs;rcases hs with hs|hs
    .have:=bq hs;omega
    .have:=bq hs;omega
   .omega
  have:=sy s (nA2 s a) b.1;simp only;omega
 .exact⟨ag _,h⟩
def C5(s:ByteArray)(p:Nat)(h:p<s.size):p<nA0 s p/\nA0 s p<=s.size:=by
 unfold nA0;split
 .omega
 .have:=sy s (p+1) (by omega);omega
def C6(s:ByteArray)(a:Nat)(h:a<=s.size):a<=nA1 s a/\nA1 s a<=s.size:=by
 unfold nA1;split
 .rename_i b;have:=sy s (a+1) (by have:=re b.2;omega);omega
 .omega
def ai9(s:ByteArray)(p:Nat)(h:p<=s.size):p<=(nA s p).1/\(nA s p).1<=s.size:=by
 have:=amh s p h;unfold nA;split
 .simp only;omega
 .exact this
def vD(s:ByteArray)(p:Nat)(h:p<s.size):p<(dJ s p).1/\(dJ s p).1<=s.size:=by
 unfold dJ;split
 .rename_i c;have:=bq c.2;have:=ai9 s (p+2) (by omega);omega
 .have a:=C5 s p h;have b:=C6 s _ a.2;have d:=aam s _ b.2;omega
def JA(q:ByteArray)(v:q.size<=1100000)(w:A2)(A:ou w):A9 M 228 #[Z q] w λe r=>e= V (B4 (qd q))/\B1 w.heap.size w r:=by
 by_cases h:0<q.size
 .have C:=aak h;have k:∀w,(C2 9 (Z q) (Y A0 0)).run M w= .ok (Y F2 (aw q 0)) w:=λw=>dL h w;by_cases f:cD (aw q 0)=U
  .have b:=λw=>Fx f w;have d:=λw=>aal q v h w;have s:=(vD q 0 h).2;by_cases c:(dJ q 0).2=U
   .by_cases i:(dJ q 0).1=q.size
    .have j:dJ q 0=(q.size,U):=Prod.ext i c;rw[j]at d;by_cases g:aw q 0=48/\aw q 1=120
     .have a:qd q=Ax:=by unfold qd;simp[g]
      rw[a];have u:nA q 2=(q.size,U):=by rw[<-j];unfold dJ;rw[ab g]
      obtain⟨F,G,z,t⟩:=Jy u;have l:=λw=>Fv q g.1 g.2 (by omega) (by omega) t w;generalize wrap64 (sA q 2 (q.size-2):Int)=H at l;clear a u z t j c i g f;generalize aw q 0=m at k b;go_in;go_wp2_with (first|(go_at_call 105;refine ft (b _) ?_)|(go_at_call 178;refine ft (d _) ?_)|(go_at_call 179;refine(l _).mono ?_;rintro e r ⟨rfl,o⟩));go_ret;exact⟨rfl,o⟩
     .have l:=Fw q v g w A;have a:qd q=!(zu q).isSome:=by
       unfold qd;cases hdc:zu q<;>simp[f,j,g]
      rw[a];generalize (zu q).isSome=E at l;clear a j c i g f;generalize aw q 0=m at k b;go_in;go_wp2_with (first|(go_at_call 105;refine ft (b _) ?_)|(go_at_call 178;refine ft (d _) ?_)|(go_at_call 179;refine l.mono ?_;rintro e r ⟨⟨I,rfl,_⟩,o⟩));go_ret;exact⟨rfl,o⟩
    .have a:qd q=Ax:=by unfold qd;rw[sf];rintro ⟨_,n,_⟩;rw[n]at i;exact i rfl
     rw[a];have B:((dJ q 0).1:Int)<(q.size:Int):=by omega
     rw[c]at d;generalize (dJ q 0).1=y at d B;clear a c i f s;generalize aw q 0=m at k b;go_in;go_wp2_with (first|(go_at_call 105;refine ft (b _) ?_)|(go_at_call 178;refine ft (d _) ?_));go_ret;exact⟨rfl,ai _ _⟩
   .have x:(dJ q 0).2=Ax:=by simpa using c
    have a:qd q=Ax:=by unfold qd;rw[sf];rintro ⟨_,n,_⟩;rw[n]at c;exact c rfl
    rw[a];rw[x]at d;generalize (dJ q 0).1=y at d s;clear a c x f;generalize aw q 0=m at k b;go_in;go_wp2_with (first|(go_at_call 105;refine ft (b _) ?_)|(go_at_call 178;refine ft (d _) ?_));go_ret;exact⟨rfl,ai _ _⟩
  .have p:cD (aw q 0)=Ax:=by simpa using f
   have b:=λw=>Fx p w;have a:qd q=Ax:=by unfold qd;simp[p]
   rw[a];clear a f p;generalize aw q 0=m at k b;go_in;go_wp2_with (first|(go_at_call 105;refine ft (b _) ?_));go_ret;exact⟨rfl,ai _ _⟩
 .have C:=Jz h;have a:qd q=Ax:=by unfold qd;rw[dH h];simp[yl]
  rw[a];clear a;go_in;go_wp2;go_ret;exact⟨rfl,ai _ _⟩
def fI{b:Bool}(h:cD c=b)(w:A2):A9 M 134 #[Y F2 c] w λe d=>e= V (B4 b)/\d=w:=(Ao c w).mono λe d a=>⟨by rw[a.1,h],a.2.symm⟩
def iC(s:ByteArray)(f:s.size<=1100000)(a:Int)(i:Nat)(d:a=(i:Int))(w:A2):A9 M 131 #[Z s,Y A0 a] w λe c=>e= V (Y F2 (lk s i))/\c=w:=by
 subst d;exact(Cz s f i w).mono λe c b=>⟨b.1,b.2.symm⟩
def zv(c:Int)(i:0<=c)(j:c<256)(w:A2):A9 M 203 #[Y F2 c] w λe h=>e= V (Y A0 (gF c))/\h=w:=by
 unfold gF;by_cases a:cD c=U
 .have b:=λw=>fI a w;have d:=jw a;rw[ab d];clear a;go_in;go_wp2_with (first|(go_at_call 134;refine ft (b _) ?_));go_ret;exact⟨rfl,rfl⟩
 .have f:cD c=Ax:=by simpa using a
  have b:=λw=>fI f w;have d:¬(48<=c/\c<=57):=by simpa [cD] using f
  rw[aa d];clear a f d;rcases(show(97<=c/\c<=102)\/¬97<=c\/(97<=c/\¬c<=102) by omega) with⟨g1,g⟩|g1|⟨g1,g⟩
  .rw[ab ⟨g1,g⟩];go_in;go_wp2_with (first|(go_at_call 134;refine ft (b _) ?_));go_ret;exact⟨by simp;omega,rfl⟩
  .rw[aa (by omega)];go_in;go_wp2_with (first|(go_at_call 134;refine ft (b _) ?_));go_ret;exact⟨rfl,rfl⟩
  .rw[aa (by omega)];go_in;go_wp2_with (first|(go_at_call 134;refine ft (b _) ?_));go_ret;exact⟨rfl,rfl⟩
def abL(s:ByteArray)(i:Nat):gF (lk s i)=gF (aw s i):=by
 unfold lk;split
 .rfl
 .rename_i a;rw[dH a];decide
def sF(h:i<s.size):lk s i=aw s i:=by unfold lk;rw[ab h]
def hxA(s:ByteArray)(p:Nat):B7:=if(nA s (p+2)).2=U then G0 #[Y A0 2,Y A0 p,Y A0 ((nA s (p+2)).1:Int),Y A0 0,Y A0 (wrap64 (sA s (p+2) ((nA s (p+2)).1-(p+2)):Int)),Z ⟨#[]⟩] else G0 #[Y A0 2,Y A0 p,Y A0 0,Y A0 0,Y A0 0,Z ⟨#[]⟩]
def hxF(s:ByteArray)(p:Nat):Int:=if(nA s (p+2)).2=U then -1 else((nA s (p+2)).1:Int)
def JB(s:ByteArray)(a7:s.size<=1100000)(p:Nat)(a9:p+2<=s.size)(w:A2):A9 M 202 #[Z s,G0 #[Y A0 2,Y A0 p,Y A0 0,Y A0 0,Y A0 0,Z ⟨#[]⟩]] w λe bh=>e= V (B2 #[hxA s p,Y A0 (hxF s p)])/\B1 w.heap.size w bh:=by
 obtain⟨bj,l⟩:=aF (hxA s p);obtain⟨ap,hF⟩:=aF (hxF s p);rw[l,hF];unfold hxA at l;unfold hxF at hF;unfold nA at l hF;obtain⟨H,r⟩:=aF (hxE s (p+2));rw[r]at l hF;unfold hxE at r;have u:=aq r;have m:=aq l;have n:=aq hF;clear r l hF;go_in;go_wp2_with fail;generalize ak:(w.alloc _).alloc _=x;obtain⟨b,I,y, -⟩:=Co ak;have a4:fe w.heap.size x 2 p 0 0 0 ⟨#[]⟩:=b;have al:fe (w.heap.size+1) x 0 0 0 0 0 ⟨#[]⟩:=I;clear ak b I;have bs:w.heap.size+1<x.heap.size:=aj al;obtain⟨bt,bv,bw,bx,bA,bD,bE⟩:=bz a4;obtain⟨z0,A,B,C,E,F,b0⟩:=bz al;go_loop [6,7] (λz bf=>∃(a h:Nat) (b:Int),p+2<=a/\a<=p+18/\a<=s.size/\s.size<a+h/\z= Y A0 a/\bf= Y .u64 b/\E2 (iI ny s h a=H)/\E2 (b=(sA s (p+2) (a-(p+2)):Int))) (λz _=>s.size-(B5 z).toNat)
 case atStart=>exact⟨p+2,s.size+1,0,by omega,by omega,a9,by omega,by simp,rfl,u,by show(0:Int)=_;rw[fG];rfl⟩
 case round=>
  obtain⟨a,h,b,br,bo,bn,bl,rfl,rfl,t,g⟩:=hrel;obtain⟨h,rfl⟩:∃a3,h=a3+1:=⟨h-1,by omega⟩;have j:=t.out;unfold iI at j;have k:=λw=>iC s a7 (a:Int) a rfl w;have f:=λw=>zv (lk s a) (abF s a).1 (abF s a).2 w;rw[abL]at f;by_cases i:ny (aw s a)=U
  .have an:a<s.size:=aag BG i;have bd:=λw=>dL an w;rw[sF an]at k f;rw[ab i]at j;have a5:=(pq ny BG s h (a+1) (by omega)).1;rw[j]at a5;have ar:=aq j;have ba:0<=gF (aw s a):=by simpa [ny] using i
   have bb:=oa (aw s a);have af:a≠p+18->sA s (p+2) (a-(p+2))<1152921504606846976:=λK=>afq s (p+2) _ (by omega);have G:E2 (b*16+gF (aw s a)=(sA s (p+2) (a+1-(p+2)):Int)):=by
    show _=_;rw[show a+1-(p+2)=(a-(p+2))+1 by omega,sA,show p+2+(a-(p+2))=a by omega,g.out];omega
   have au:0<=b:=by rw[g.out];omega
   have q:a≠p+18->b<1152921504606846976:=λK=>by have:=af K;rw[g.out];omega
   generalize gF (aw s a)=J at f ba bb G;generalize aw s a=av at k f bd;clear j i af;by_cases L:a=p+18
   .have c:=m.out;have d:=n.out;simp only[ab (show p+2+16<H by omega)]at c d;simp at c d;subst c;have a6:ap=(a:Int):=by omega
    clear d;subst a6;have ax:((a:Int)-(p:Int)==18)=U:=by rw[jB];omega
    clear m n L q;go_wp2_with (first|(go_at_call 131;refine ft (k _) ?_)|(go_at_call 203;refine ft (f _) ?_));refine aH (v:= B2 #[G0 #[Y A0 2,Y A0 p,Y A0 0,Y A0 0,Y A0 0,Z ⟨#[]⟩],Y A0 (a:Int)]) (by simp[results,Tryz.results202,go_sem,z0,A,B,C,E,F]) rfl ⟨rfl,?_⟩
    iterate 6 refine fK ?_ (by simp) _
    exact y
   .have ax:((a:Int)-(p:Int)==18)=Ax:=by rw[dv];omega
    have bk:=q L;clear q;go_wp2_with (first|(go_at_call 131;refine ft (k _) ?_)|(go_at_call 203;refine ft (f _) ?_));go_round
    case rel=>exact⟨a+1,h,b*16+J,by omega,by omega,by omega,by omega,by go_num,by first|rfl|(congr 1;omega),ar,G⟩
    case measure=>simp[B5];omega
  .have ao:gF (aw s a)<0:=by
    have:¬0<=gF (aw s a):=by simpa [ny] using i
    omega
   rw[aa i]at j;subst j;have a8:¬(0:Int)<=gF (aw s a):=by omega
   have au:0<=b:=by rw[g.out];omega
   have q:b<18446744073709551616:=by rw[g.out];have:=aaj s (p+2) (a-(p+2)) (by omega);omega
   generalize gF (aw s a)=J at f a8;generalize lk s a=av at k f;have c:=m.out;have d:=n.out;simp only[aa (show ¬p+2+16<a by omega)]at c d;by_cases ad:a=p+2
   .have o:decide (p+2<a)=Ax:=by rw[sf];omega
    simp only[o]at c d;simp at c d;subst c d;have a2:((a:Int)==(p:Int)+2)=U:=by rw[jB];omega
    clear m n i ao ad o g t u;go_wp2_with (first|(go_at_call 131;refine ft (k _) ?_)|(go_at_call 203;refine ft (f _) ?_));refine aH (v:= B2 #[G0 #[Y A0 2,Y A0 p,Y A0 0,Y A0 0,Y A0 0,Z ⟨#[]⟩],Y A0 (a:Int)]) (by simp[results,Tryz.results202,go_sem,z0,A,B,C,E,F]) rfl ⟨rfl,?_⟩
    iterate 6 refine fK ?_ (by simp) _
    exact y
   .have o:decide (p+2<a)=U:=by rw[pa];omega
    simp only[o]at c d;simp only[jE]at c d;rw[<-g.out]at c;subst c d;have a2:((a:Int)==(p:Int)+2)=Ax:=by rw[dv];omega
    clear m n i ao ad o g t u;go_wp2_with (first|(go_at_call 131;refine ft (k _) ?_)|(go_at_call 203;refine ft (f _) ?_));refine aH (v:= B2 #[G0 #[Y A0 2,Y A0 p,Y A0 (a:Int),Y A0 0,Y A0 (wrap64 b),Z ⟨#[]⟩],Y A0 (-1)]) (by simp[results,Tryz.results202,go_sem,z0,A,B,C,E,F]) rfl ⟨rfl,?_⟩
    iterate 8 refine fK ?_ (by simp) _
    exact y
def aan(s:ByteArray)(af:s.size<=4100)(w:A2):
  A9 M 216 #[Z s] w λe t=>e= V (Z (fy (eE s)))/\B1 w.heap.size w t:=by
 go_in;go_wp2_with fail;go_loopw [4,5] (λA r wr=>∃b g:Nat,b<=s.size/\r= Y A0 b/\wr.ownsRow w.heap.size 5 1 A g (B8 (qt s b))/\B1 w.heap.size w wr) (λ_ r _=>s.size-(B5 r).toNat)
 case atStart=>exact⟨0,1,aI _,rfl,zj w 34,(ai _ _).alloc (ag _) _⟩
 case round=>
  obtain⟨b,g,u,rfl,h,c⟩:=hrel;have x:=xI h;have z:=Gy s b u;have ad:g<=20000:=by omega
  clear x z;by_cases y:b<s.size
  .have i:E2 (qt s (b+1)=qt s b++esc (s[b].toNat:Int)):=vw s b y;obtain⟨a,q⟩:∃a:Int,a=(s[b].toNat:Int):=⟨_,rfl⟩;have J:0<=a:=by omega
   have K:a<256:=by have:=s[b].toNat_lt;omega
   rw[<-q]at i;have L:∀w,(C2 9 (Z s) (Y A0 (b:Int))).run M w= .ok (Y F2 a) w:=by
    intro w;rw[q];go_simp
   clear q;by_cases k:a=10
   .subst k;go_wp2_with (at_builtin;refine mL rfl (.tmp 24) (.tmp 25) rfl w.heap.size _ g (qt s b) rfl h c.size (by omega) [92,110] 2 rfl (by decide) (by decide) _ rfl rfl ?_;intro m j w1 f d);go_roundw
    case rel=>exact⟨b+1,_,by omega,by go_num,by rw[i.out];exact f,c.trans d⟩
    case measure=>simp[B5];omega
   have E:(a==10)=Ax:=by simp[k]
   by_cases l:a=9
   .subst l;go_wp2_with (at_builtin;refine mL rfl (.tmp 30) (.tmp 31) rfl w.heap.size _ g (qt s b) rfl h c.size (by omega) [92,116] 2 rfl (by decide) (by decide) _ rfl rfl ?_;intro m j w1 f d);go_roundw
    case rel=>exact⟨b+1,_,by omega,by go_num,by rw[i.out];exact f,c.trans d⟩
    case measure=>simp[B5];omega
   have F:(a==9)=Ax:=by simp[l]
   by_cases n:a=34
   .subst n;go_wp2_with (at_builtin;refine mL rfl (.tmp 40) (.tmp 42) rfl w.heap.size _ g (qt s b) rfl h c.size (by omega) [92,34] 2 rfl (by decide) (by decide) _ rfl rfl ?_;intro m j w1 f d);go_roundw
    case rel=>exact⟨b+1,_,by omega,by go_num,by rw[i.out];exact f,c.trans d⟩
    case measure=>simp[B5];omega
   have G:(a==34)=Ax:=by simp[n]
   by_cases o:a=92
   .subst o;go_wp2_with (at_builtin;refine mL rfl (.tmp 40) (.tmp 42) rfl w.heap.size _ g (qt s b) rfl h c.size (by omega) [92,92] 2 rfl (by decide) (by decide) _ rfl rfl ?_;intro m j w1 f d);go_roundw
    case rel=>exact⟨b+1,_,by omega,by go_num,by rw[i.out];exact f,c.trans d⟩
    case measure=>simp[B5];omega
   have H:(a==92)=Ax:=by simp[o]
   by_cases e5:a<32\/126<a
   .have p:E2 (esc a=[92,120,qJ (a / 16),qJ (a%16)]):=by unfold esc E2;rw[aa k,aa l,aa (by omega),ab e5]
    clear k l n o;have ak:=ae1 (a / 16) (by omega) (by omega);have al:=ae1 (a%16) (by omega) (by omega);have I:=aqx a (by omega) (by omega);rcases e5 with e5|e5;all_goals
     go_wp2_with fail;go_region_held3 (λt=>True) (trivial) ((refine aby (by rfl) _ _ (by rfl) w.heap.size _ g (qt s b) (by rfl) h c.size (by omega) [92,120,_,_] 4 (by rfl) (by decide) (by decide) _ (by rfl) (by rfl) ?_;intro m j w1 f d))
     all_goals
      go_wp2;go_roundw
      case rel=>exact⟨b+1,_,by omega,by go_num,by rw[i.out,p.out];assumption,c.trans (by assumption)⟩
      case measure=>simp[B5];omega
   .have p:E2 (esc a=[a]):=by unfold esc E2;rw[aa k,aa l,aa (by omega),aa e5]
    have B:¬a<32:=by omega
    have C:¬126<a:=by omega
    clear k l n o e5;go_wp2_with (at_builtin;refine mL rfl (.tmp 17) (.tmp 19) rfl w.heap.size _ g (qt s b) rfl h c.size (by omega) [a] 1 rfl (by decide) (by decide) _ rfl rfl ?_;intro m j w1 f d);go_roundw
    case rel=>exact⟨b+1,_,by omega,by go_num,by rw[i.out,p.out];exact f,c.trans d⟩
    case measure=>simp[B5];omega
  .have v:b=s.size:=by omega
   subst v;go_wp2_with (at_builtin;refine mL rfl (.tmp 62) (.tmp 63) rfl w.heap.size _ g (qt s s.size) rfl h c.size (by omega) [34] 1 rfl (by decide) (by decide) _ rfl rfl ?_;intro m j w1 f d;have an:=oh f);go_ret;exact⟨rfl,c.trans d⟩
def adI(s:ByteArray)(b:s.size<=4000)(w:A2):
  A9 M 216 #[Z s] w λe a=>e= V (Z (fy (eE s)))/\B1 w.heap.size w a:=aan s (by omega) w
def nH(a b:Int):List (List Int):=[[48,1,a],[44,117,45,a],[40,111,41,b]]
def ma(a:Int):List (List Int):=
 if a=100 then [[5,100],[102,101],[]]
 else if a=101 then [[5,100],[]]
 else if a=102 then [[22,1,109,103],[13,1,47,117],[18,1,113],[20,117,108,107],[31,117,108],[19,1,104],[11],[23],[27,111],[30,108,12,1,106,108],[28,117],[14,131],[108],[1,125],[40,117,41,127]]
 else if a=103 then [[47,110],[]]
 else if a=104 then [[47,117,46,117,105,108],[21,117,108],[46,1,109,21,117,108]]
 else if a=105 then [[46,117],[]]
 else if a=106 then [[46,1],[]]
 else if a=107 then [[15,117,108,107],[16,108],[]]
 else if a=108 then [[42,100,43]]
 else if a=109 then [[46,1,109],[]]
 else if a=110 then [[117,112]]
 else if a=111 then [[117,112],[]]
 else if a=112 then [[46,117,112],[]]
 else if a=113 then [[40,114,41,108]]
 else if a=114 then [[115],[]]
 else if a=115 then [[49],[1,116]]
 else if a=116 then [[46,115],[]]
 else if a=117 then [[118,119]]
 else if a=118 then [[25,118],[62,118],[50,118],[69,118],[1,120],[40,117,41,120],[2],[3],[4],[24],[29],[17],[49],[18,113],[121]]
 else if a=119 then []::([26,10,73,74,75,76,77,78,72,68,69,67,70,71,61,62,63,64,65,66].map λb=>[b,118,119])
 else if a=120 then nH 120 120++[[]]
 else if a=121 then [[42,122,43]]
 else if a=122 then [[124,123],[]]
 else if a=123 then [[46,122],[]]
 else if a=124 then [[117],[44,117,45,47,117],[48,1,47,117]]
 else if a=125 then nH 125 126++[[46,128],[47,110]]
 else if a=126 then nH 125 126++[[]]
 else if a=127 then nH 125 126
 else if a=128 then [[1,129],[40,117,41,130]]
 else if a=129 then nH 129 130++[[46,128],[47,110]]
 else if a=130 then nH 129 130
 else if a=131 then [[1,132],[40,117,41,132]]
 else if a=132 then nH 132 133
 else if a=133 then nH 132 133++[[]]
 else []
def Ay:Nat->Int->Int->Bool
 |0,_,_=>Ax
 |f+1,a,t=>if a<100 then decide (a=t) else(ma a).any λr=>match r with|[]=>Ax|h::_=>Ay f h t
def hdI(t:Int)(r:List Int):Bool:=match r with|[]=>Ax|h::_=>Ay 8 h t
def G7(a t:Int):List Int:=((ma a).find? (hdI t)).getD []
def JC(a:Int):Bool:=(ma a).contains []
def tG:List Int->Int->Bool
 |[],_=>Ax
 |a::r,t=>if Ay 9 a t=U then U else if JC a=U then tG r t else Ax
def mh:Nat->List Int->Int->Option (List Int)
 |0,_,_=>A3
 |_+1,[],_=>A3
 |f+1,a::r,t=>if a=t then O r else mh f (G7 a t++r) t
def phi(a:Int):List Int:=
 if a=104 then [106] else if a=105 then [107] else if a=106 then [109] else if a=107 then [105] else if a=108 then [132] else if a=109 then [104] else if a=110 then [120,121,125] else if a=111 then [123] else if a=112 then [125]
 else if a=113 then [133] else if a=114 then [126] else if a=115 then [128] else if a=116 then [127] else if a=117 then [120,121] else if a=118 then [120] else if a=119 then [121] else if a=120 then [122] else if a=122 then [129] else if a=123 then [130] else if a=124 then [131]
 else if a=125 then [110] else if a=126 then [111] else if a=127 then [112] else if a=128 then [113] else if a=129 then [114] else if a=130 then [115] else if a=131 then [116] else if a=132 then [117] else if a=133 then [118] else [a]
def psi(s:Int):List Int:=if s=119 then [120,121] else if s=124 then [120,121,125] else if s=108 then [123] else [s]
def gK(st:List Int):List Int:=st.flatMap psi
def tH(st:List Int):List Int:=st.flatMap phi
def okI(a:Int):Bool:=decide (1<=a/\a<=133/\a≠102/\a≠121)
def rE(a b:List Int):gK (a++b)=gK a++gK b:=by simp[gK]
def afw(a b:List Int):tH (a++b)=tH a++tH b:=by simp[tH]
def zw:∀{f g:Nat}{st:List Int}{t:Int}{n:Nat}{X:List Int×Option Bool×Nat},gj f st t n=O X->f<=g->gj g st t n=O X
 |0,_,_,_,_,_,h,_=>by simp[gj]at h
 |f+1,0,_,_,_,_,_,c=>by omega
 |f+1,g+1,[],t,n,X,h,c=>by rw[gj]at h⊢;exact h
 |f+1,g+1,s::r,t,n,X,h,c=>by
  rw[gj]at h⊢;split
  .rename_i a;rw[ab a]at h;exact h
  .rename_i a;rw[aa a]at h;split
   .rename_i b;rw[ab b]at h;exact zw h (by omega)
   .rename_i b;rw[aa b]at h;exact h
def JD:∀{f:Nat}{a c:List Int}{t:Int}{n:Nat}{lo:List Int}{b:Bool}{m:Nat},gj f a t n=O (lo,O b,m)->gj f (a++c) t n=O (lo++c,O b,m)
 |0,_,_,_,_,_,_,_,h=>by simp[gj]at h
 |f+1,[],_,t,n,lo,b,m,h=>by simp[gj]at h
 |f+1,s::r,c,t,n,lo,b,m,h=>by
  rw[ez];rw[gj]at h⊢;split
  .rename_i d;rw[ab d]at h;simp only[fi,jc]at h;rw[<-h.1,<-h.2.1,<-h.2.2]
  .rename_i d;rw[aa d]at h;split
   .rename_i e;rw[ab e]at h;rw[<-cg];exact JD h
   .rename_i e;rw[aa e]at h;simp only[fi,jc]at h;rw[<-h.1,<-h.2.1,<-h.2.2]
def ov:∀{f:Nat}{st:List Int}{t:Int}{n:Nat}{lo:List Int}{a:Option Bool}{m:Nat},yd st->1<=t->t<=78->gj f st t n=O (lo,a,m)->∀r,(∀b,a=O b->dy (st++r) t=(lo++r,b))/\(a=A3->dy (st++r) t=dy r t)
 |0,_,_,_,_,_,_,_,_,_,h,_=>by simp[gj]at h
 |f+1,[],t,n,lo,a,m,s,w,x,h,r=>by
  simp only[gj,fi,jc]at h;obtain⟨rfl,rfl,rfl⟩:=h;exact⟨λb h=>(by cases h),λ_=>rfl⟩
 |f+1,g::k,t,n,lo,a,m,s,w,x,h,r=>by
  have F:=s g (bg ..);have G:yd k:=λJ H=>s J (dm _ H);rw[ez];by_cases z:g<100
  .obtain⟨rfl,rfl,rfl⟩:=ru h z;refine⟨λb q=>?_,λh=>by cases h⟩;rw[lC z,<-bc q]
  .by_cases i:(xE g t).1=[]/\(xE g t).2=U
   .rcases lD h (by omega) with⟨_,d⟩|⟨d,_⟩
    .rw[i.1,eu]at d;have u:=ov G w x d r;rw[pF (by omega) i];exact u
    .rw[i.2]at d;cases d
   .obtain⟨I,B,j,y,_⟩:=zl (by omega) F w x i;rw[pG (by omega) i y];have l:∃e,gj 8 (g::k) t n=O (I++k,O B,e):=by
     have A:∀{f:Nat}{st:List Int}{j n2 v:Nat}{lo:List Int}{a:Option Bool},gj f st t j=O (lo,a,v)->∃e,gj f st t n2=O (lo,a,e):=by
      intro f
      induction f with
      |zero=>intro st j n2 v lo a h;simp[gj]at h
      |succ f u=>
       intro st j n2 v lo a h;cases st with
       |nil=>
        simp only[gj,fi,jc]at h⊢;exact⟨n2,h.1,h.2.1,rfl⟩
       |cons g r=>
        rw[gj]at h⊢;split
        .rename_i p;rw[ab p]at h;simp only[fi,jc]at h⊢;exact⟨n2,h.1,h.2.1,rfl⟩
        .rename_i p;rw[aa p]at h;split
         .rename_i d;rw[ab d]at h;exact u h
         .rename_i d;rw[aa d]at h;simp only[fi,jc]at h⊢;exact⟨n2,h.1,h.2.1,rfl⟩
     obtain⟨e,C⟩:=A (n2:=n) y;exact⟨e,by have:=JD (c:=k) C;simpa using this⟩
    obtain⟨e,l⟩:=l;have E:=zw h (show f+1<=f+9 by omega);have o:=zw l (show 8<=f+9 by omega);rw[E]at o;simp only[fi,jc]at o;obtain⟨rfl,rfl,_⟩:=o;refine⟨λb q=>?_,λh=>by cases h⟩;rw[bc q,cg]
def ami(s t:Int):Bool:=match gj 12 [s] t 0,gj 12 (psi s) t 0 with
 |some (c,some a,_),some (d,some b,_)=>a==b&&(!a||decide (gK c=gK d))
 |some (_,none,_),some (_,none,_)=>U
 |_,_=>Ax
def afx:((Ce 34).all λs=>(Ce 78).all λt=>ami ((s:Int)+100) ((t:Int)+1))=U:=by decide+kernel
def afy(a t:Int):Bool:=
 if Ay 9 a t=U then(match mh 9 [a] t,gj 12 (phi a) t 0 with
  |some b,some (c,some true,_)=>b.all okI&&decide (gK c=tH b)
  |_,_=>Ax)
 else if JC a=U then(G7 a t).isEmpty&&(match gj 12 (phi a) t 0 with|some (_,none,_)=>U|_=>Ax)
 else(match gj 12 (phi a) t 0 with|some (_,some false,_)=>U|_=>Ax)
def afz:((Ce 133).all λa=>!(okI ((a:Int)+1))||(Ce 78).all λt=>afy ((a:Int)+1) ((t:Int)+1))=U:=by decide+kernel
def aja{s:Int}(e:100<=s)(f:s<=133)(g:1<=t)(h:t<=78):ami s t=U:=by
 have d:=List.all_eq_true.1 afx (s-100).toNat (by rw[mI];omega);have a:=List.all_eq_true.1 d (t-1).toNat (by rw[mI];omega);have b:(((s-100).toNat:Nat):Int)+100=s:=by omega
 have c:(((t-1).toNat:Nat):Int)+1=t:=by omega
 rw[b,c]at a;exact a
def ab0{a:Int}(d:okI a=U)(h:1<=t)(i:t<=78):afy a t=U:=by
 have g:=aE d;have b:=List.all_eq_true.1 afz (a-1).toNat (by rw[mI];omega);have e:(((a-1).toNat:Nat):Int)+1=a:=by omega
 rw[e,d]at b;have c:=List.all_eq_true.1 (by simpa using b:((Ce 78).all λt=>afy a ((t:Int)+1))=U) (t-1).toNat (by rw[mI];omega);have f:(((t-1).toNat:Nat):Int)+1=t:=by omega
 rw[f]at c;exact c
def afA{s:Int}(h:s<=133):yd (psi s):=by
 unfold psi;intro b a;split at a
 .simp at a;omega
 split at a
 .simp at a;omega
 split at a
 .simp at a;omega
 .simp at a;omega
def adJ(s:Int):gK (psi s)=psi s:=by
 unfold psi;split
 .decide
 split
 .decide
 split
 .decide
 .rename_i a b c;simp[gK,psi,a,b,c]
def uj:∀st:List Int,gK (gK st)=gK st
 |[]=>rfl
 |s::r=>by
  show gK (psi s++gK r)=psi s++gK r;rw[rE,adJ,uj r]
def aao(s:Int)(r:List Int):gK (s::r)=psi s++gK r:=rfl
def Fy(s:Int)(r:List Int):tH (s::r)=phi s++tH r:=rfl
def xg:∀{st:List Int}{t:Int},yd st->1<=t->t<=78->(dy (gK st) t).2=(dy st t).2/\((dy st t).2=U->gK (dy (gK st) t).1=gK (dy st t).1)
 |[],t,j,_,_=>⟨rfl,λ_=>rfl⟩
 |s::r,t,j,b,c=>by
  have f:=j s (bg ..);have x:yd r:=λu k=>j u (dm _ k);rw[aao];by_cases p:s<100
  .have v:psi s=[s]:=by unfold psi;rw[aa (by omega),aa (by omega),aa (by omega)]
   rw[v,uI,lC p,lC p];exact⟨rfl,λ_=>uj r⟩
  .have a:=aja (by omega) f b c;unfold ami at a;have q:yd [s]:=λu k=>by obtain rfl:=List.mem_singleton.1 k;exact f
   split at a
   .rename_i l n y m o z g h;have d:=(ov q b c g r).1 n rfl;have i:=(ov (afA f) b c h (gK r)).1 o rfl;rw[uI]at d;rw[d,i];rw[bI]at a;have e:n=o:=by simpa using a.1
    subst e;refine⟨rfl,λe=>?_⟩;simp only at e;subst e;have w:gK l=gK m:=by simpa using a.2
    show gK (m++gK r)=gK (l++r);rw[rE,rE,uj,w]
   .rename_i l y m z g h;have d:=(ov q b c g r).2 rfl;have i:=(ov (afA f) b c h (gK r)).2 rfl;rw[uI]at d;rw[d,i];exact xg x b c
   .cases a
def OkI(st:List Int):Prop:=∀a∈st,okI a=U
def ajb:((Ce 133).all λa=>!(okI ((a:Int)+1))||((phi ((a:Int)+1)).all (λx=>decide (x<=133))&&decide (gK (phi ((a:Int)+1))=phi ((a:Int)+1))))=U:=by decide+kernel
def afB{a:Int}(c:okI a=U):yd (phi a)/\gK (phi a)=phi a:=by
 have g:=aE c;have b:=List.all_eq_true.1 ajb (a-1).toNat (by rw[mI];omega);have d:(((a-1).toNat:Nat):Int)+1=a:=by omega
 rw[d,c,Bool.not_true,xH,bI]at b;exact⟨λf e=>aE (List.all_eq_true.1 b.1 f e),aE b.2⟩
def amj{a:Int}(h:okI a=U):yd (phi a):=(afB h).1
def adK{a:Int}(h:okI a=U):gK (phi a)=phi a:=(afB h).2
def C7:∀{st:List Int},OkI st->gK (tH st)=tH st
 |[],_=>rfl
 |a::r,h=>by
  rw[Fy,rE,adK (h a (bg ..)),C7 (λc b=>h c (dm _ b))]
def zy:∀{f:Nat}{a c lo:List Int}{t:Int},mh f a t=O lo->mh f (a++c) t=O (lo++c)
 |0,_,_,_,_,h=>by simp[mh]at h
 |f+1,[],_,_,_,h=>by simp[mh]at h
 |f+1,a::r,c,lo,t,h=>by
  rw[ez];rw[mh]at h⊢;split
  .rename_i b;rw[ab b]at h;rw[<-bc h]
  .rename_i b;rw[aa b]at h;rw[<-cg];exact zy h
def C8:∀{f g:Nat}{st lo:List Int}{t:Int},mh f st t=O lo->f<=g->mh g st t=O lo
 |0,_,_,_,_,h,_=>by simp[mh]at h
 |f+1,0,_,_,_,_,c=>by omega
 |f+1,g+1,[],_,_,h,_=>by simp[mh]at h
 |f+1,g+1,a::r,lo,t,h,c=>by
  rw[mh]at h⊢;split
  .rename_i b;rw[ab b]at h;exact h
  .rename_i b;rw[aa b]at h;exact C8 h (by omega)
def zA:∀{st:List Int}{t:Int},OkI st->1<=t->t<=78->tG st t=(dy (tH st) t).2/\(tG st t=U->∃f,mh (st.length+9) st t=O f/\OkI f/\gK (dy (tH st) t).1=tH f)
 |[],t,m,_,_=>⟨rfl,λh=>by simp[tG]at h⟩
 |a::r,t,m,g,i=>by
  have p:=m a (bg ..);have o:OkI r:=λk hx=>m k (dm _ hx);have b:=ab0 p g i;have n:=amj p;rw[Fy,tG];unfold afy at b;by_cases l:Ay 9 a t=U
  .rw[ab l]at b⊢;split at b
   .rename_i j C u w d;have e:=(ov n g i d (tH r)).1 U rfl;rw[e];rw[bI]at b;have A:=aE b.2;refine⟨rfl,λ_=>⟨j++r,?_,?_,?_⟩⟩
    .exact C8 (zy (c:=r) w) (by omega)
    .intro k hx;rcases List.mem_append.1 hx with hx|hx
     .exact List.all_eq_true.1 b.1 k hx
     .exact o k hx
    .show gK (C++tH r)=tH (j++r);rw[rE,afw,A]
     congr 1
     exact C7 o
   .cases b
  .rw[aa l]at b⊢;by_cases s:JC a=U
   .rw[ab s]at b⊢;rw[bI]at b;have q:=b.2;split at q
    .rename_i j u d;have e:=(ov n g i d (tH r)).2 rfl;rw[e];obtain⟨x,y⟩:=zA o g i;refine⟨x,λh=>?_⟩;obtain⟨f,E,p2,F⟩:=y h;refine⟨f,?_,p2,F⟩;have z:¬a=t:=λv=>by
      subst v;have:Ay 9 a a=U:=by rw[Ay,ab (by omega)];exact bp rfl
      exact l this
     have B:G7 a t=[]:=by simpa using b.1
     rw[show(a::r).length+9=(r.length+9)+1 from Nat.add_right_comm r.length 1 9,mh,aa z,B,eu];exact E
    .cases q
   .rw[aa s]at b⊢;split at b
    .rename_i j u d;have e:=(ov n g i d (tH r)).1 Ax rfl;rw[e];exact⟨rfl,λh=>by cases h⟩
    .cases b
structure Sim (st stk:List Int):Prop where
 o1:OkI st
 o2:yd stk
 eq:gK stk=tH st
def Sim.may{st a:List Int}(h:Sim st a)(b:1<=t)(c:t<=78):tG st t=(dy a t).2:=by
 rw[(zA h.o1 b c).1,<-h.eq];exact(xg h.o2 b c).1
def Sim.pass{st e:List Int}(h:Sim st e)(b:1<=t)(c:t<=78)(d:tG st t=U):∃a,mh (st.length+9) st t=O a/\Sim a (dy e t).1:=by
 obtain⟨a,f,p2,g⟩:=(zA h.o1 b c).2 d;refine⟨a,f,p2,ry h.o2 b c,?_⟩;rw[<-g,<-h.eq];exact((xg h.o2 b c).2 (by rw[<-h.may b c];exact d)).symm
def adL:Sim [100,6] [100,6]:=⟨by unfold OkI;decide,by unfold yd;decide,by decide⟩
def C9(l:List Int):∀r:ByteArray,(l.foldl (λr n=>r.push (UInt8.ofNat n.toNat)) r).data.toList=r.data.toList++l.map (λn=>UInt8.ofNat n.toNat):=by
 induction l with
 |nil=>intro r;simp
 |cons b l a=>intro r;simp only[kF,dw];rw[a];simp[ByteArray.push]
def Fz(l:List Int):(fy l).data.toList=l.map (λn=>UInt8.ofNat n.toNat):=by
 unfold fy;rw[C9,show ByteArray.empty.data.toList=[] from rfl,eu]
def ad0(s:ByteArray)(i:Nat):aw s i=((s.data.toList[i]?).map (λb=>(b.toNat:Int))).getD (-1):=by
 unfold aw;by_cases a:i<s.size
 .rw[mK a,aA (by simpa using a)];rfl
 .rw[dif_neg a,jr (by simpa using a)];rfl
def yp(l:List Int)(h:∀x∈l,0<=x/\x<256)(i:Nat):aw (fy l) i=(l[i]?).getD (-1):=by
 rw[ad0,Fz,cH,Option.map_map];by_cases a:i<l.length
 .rw[aA a];have:=h _ (mw a);simp only[uL,iu,Function.comp];rw[UInt8.toNat_ofNat'];omega
 .rw[jr (by omega)];rfl
def oG(s:ByteArray):List Int:=s.data.toList.map λa=>(a.toNat:Int)
def aap(s:ByteArray):fy (oG s)=s:=by
 apply jD;apply Array.toList_inj.1;rw[Fz];unfold oG;rw[List.map_map]
 conv=>rhs;rw[<-List.map_id s.data.toList]
 apply List.map_congr_left;intro a _;simp
def Da(s:ByteArray):(oG s).length=s.size:=by simp[oG]
def JE(s:ByteArray)(k:Nat)(h:k<s.size):(oG s).take (k+1)=(oG s).take k++[(s[k].toNat:Int)]:=by
 have a:k<(oG s).length:=by rw[Da];exact h
 rw[List.take_succ_eq_append_getElem a]
 congr 2
 simp[oG];rfl
def G8(d:Int)(a:0<=d)(b:d<16):32<=qJ d/\qJ d<=126:=by unfold qJ;split<;>omega
def amk(c:Int)(e:0<=c)(f:c<256):∀x∈esc c,32<=x/\x<=126:=by
 unfold esc;split
 .simp
 split
 .simp
 split
 .rename_i d;simp;omega
 split
 .have a:=G8 (c / 16) (by omega) (by omega);have b:=G8 (c%16) (by omega) (by omega);simp;omega
 .simp;omega
def G9(s:ByteArray)(k:Nat)(h:k<s.size):0<=(s[k].toNat:Int)/\(s[k].toNat:Int)<256:=by have:=s[k].toNat_lt;omega
def ak2(s:ByteArray):∀k,k<=s.size->∀x∈qt s k,32<=x/\x<=126
 |0,_=>by simp[qt]
 |k+1,h=>by
  intro x hx;rw[vw s k (by omega),By]at hx;rcases hx with hx|hx
  .exact ak2 s k (by omega) x hx
  .exact amk _ (G9 s k (by omega)).1 (G9 s k (by omega)).2 x hx
def Db(s:ByteArray):∀x∈eE s,32<=x/\x<=126:=by
 intro x hx;unfold eE at hx;rw[By]at hx;rcases hx with hx|hx
 .exact ak2 s s.size (ag _) x hx
 .simp at hx;omega
def Dc(s:ByteArray)(k:Nat):∀n,k+n<=s.size->∃tl,qt s (k+n)=qt s k++tl
 |0,_=>⟨[],by simp⟩
 |n+1,h=>by
  obtain⟨tl,ht⟩:=Dc s k n (by omega);exact⟨tl++esc (s[k+n].toNat:Int),by rw[show k+(n+1)=(k+n)+1 by omega,vw s (k+n) (by omega),ht,cg]⟩
def afC(s:ByteArray)(k:Nat)(h:k<s.size):∃tl,eE s=qt s k++(esc (s[k].toNat:Int)++tl):=by
 obtain⟨tl,a⟩:=Dc s (k+1) (s.size-(k+1)) (by omega);rw[show k+1+(s.size-(k+1))=s.size by omega,vw s k h]at a;exact⟨tl++[34],by unfold eE;rw[a];simp⟩
def ad1(s:ByteArray)(k j:Nat)(h:k<s.size)(a:j<(esc (s[k].toNat:Int)).length):aw (fy (eE s)) ((qt s k).length+j)=(esc (s[k].toNat:Int))[j]:=by
 rw[yp _ (λd c=>by have:=Db s d c;omega)];obtain⟨e,b⟩:=afC s k h;rw[b,gh (by omega),show(qt s k).length+j-(qt s k).length=j by omega,iq a,aA a];rfl
def ad2(s:ByteArray):aw (fy (eE s)) (qt s s.size).length=34:=by
 rw[yp _ (λb a=>by have:=Db s b a;omega)];unfold eE;rw[gh (by omega)];simp
def JF(s:ByteArray):aw (fy (eE s)) 0=34:=by
 rw[yp _ (λb a=>by have:=Db s b a;omega)];unfold eE qt;simp
def ad3(s:ByteArray):(eE s).length=(qt s s.size).length+1:=by unfold eE;simp
def ad4:∀d:Fin 16,gF (qJ (d.val:Int))=(d.val:Int):=by decide
def xh(d:Int)(b:0<=d)(c:d<16):gF (qJ d)=d:=by
 have:=ad4 ⟨d.toNat,by omega⟩;have a:((d.toNat:Nat):Int)=d:=by omega
 simp only[a]at this;exact this
def afD(s:ByteArray):∀(n k f:Nat),k+n=s.size->(fy (eE s)).size<(qt s k).length+f->
  gi (fy (eE s)) f (qt s k).length ((oG s).take k)=(U,(fy (eE s)).size,oG s):=by
 have E:(fy (eE s)).size=(qt s s.size).length+1:=by rw[rp,ad3]
 intro n
 induction n with
 |zero=>
  intro k f z w;obtain rfl:k=s.size:=by omega
  obtain⟨f,rfl⟩:∃p,f=p+1:=⟨f-1,by omega⟩;unfold gi;rw[aa (by omega),ad2,ab rfl,E,db (by rw[Da];omega)]
 |succ n H=>
  intro k f z w;have o:k<s.size:=by omega
  have ak:=G9 s k o;have C:=vw s k o;have F:=JE s k o;have b:=λI y=>ad1 s k I o y;have A:(qt s (k+1)).length<=(qt s s.size).length:=by
   obtain⟨an,r⟩:=Dc s (k+1) n (by omega);rw[show k+1+n=s.size by omega]at r;rw[r];simp
  have d:=λv x=>H (k+1) v (by omega) x;rw[F]at d;generalize (s[k].toNat:Int)=a at *;have B:(qt s (k+1)).length=(qt s k).length+(esc a).length:=by rw[C];simp
  generalize al:fy (eE s)=c at *;generalize af:(qt s k).length=P at *;generalize ad:(oG s).take k=L at *;obtain⟨f,rfl⟩:∃p,f=p+1:=⟨f-1,by omega⟩;rw[B]at d A;unfold gi;rw[aa (by omega)];by_cases j:a=10
  .subst j;have e:aw c P=92:=b 0 (by decide);have g:=b 1 (by decide);have h:iH c (P+1)=(10,P+1+1,U):=by unfold iH;rw[g];rfl
   rw[e,aa (by decide),aa (by decide),ab rfl,h,ab rfl];exact d f (by have:(esc 10).length=2:=rfl;omega)
  by_cases l:a=9
  .subst l;have e:aw c P=92:=b 0 (by decide);have g:=b 1 (by decide);have h:iH c (P+1)=(9,P+1+1,U):=by unfold iH;rw[g];rfl
   rw[e,aa (by decide),aa (by decide),ab rfl,h,ab rfl];exact d f (by have:(esc 9).length=2:=rfl;omega)
  by_cases m:a=34\/a=92
  .have i:esc a=[92,a]:=by unfold esc;rw[aa j,aa l,ab m]
   rw[i]at b d;have e:aw c P=92:=b 0 (by simp);have g:aw c (P+1)=a:=b 1 (by simp);have h:iH c (P+1)=(a,P+1+1,U):=by unfold iH;rw[g,aa (by omega),aa (by omega),ab m]
   rw[e,aa (by decide),aa (by decide),ab rfl,h,ab rfl];exact d f (by simp;omega)
  by_cases q:a<32\/126<a
  .have i:esc a=[92,120,qJ (a / 16),qJ (a%16)]:=by unfold esc;rw[aa j,aa l,aa m,ab q]
   rw[i]at b d;have e:aw c P=92:=b 0 (by simp);have g:aw c (P+1)=120:=b 1 (by simp);have t:aw c (P+1+1)=qJ (a / 16):=b 2 (by simp);have u:aw c (P+1+1+1)=qJ (a%16):=b 3 (by simp);have J:=xh (a / 16) (by omega) (by omega);have K:=xh (a%16) (by omega) (by omega);have G:hexI c (P+1+1)=(a,P+1+1+1+1,U):=by
    unfold hexI;rw[t,u,J,K,aa (by omega),aa (by omega)]
    congr 1;omega
   have h:iH c (P+1)=(a,P+1+1+1+1,U):=by unfold iH;rw[g,aa (by decide),aa (by decide),aa (by decide),ab rfl,G]
   rw[e,aa (by decide),aa (by decide),ab rfl,h,ab rfl];exact d f (by simp;omega)
  .have i:esc a=[a]:=by unfold esc;rw[aa j,aa l,aa m,aa q]
   rw[i]at b d;have e:aw c P=a:=b 0 (by simp);rw[e,aa (by omega),aa (by omega),aa (by omega)];exact d f (by simp;omega)
open Go.ChangeShapes Go.WideShapes Go.ChangeAt Go.WideElems Go.Deep
structure ak4 (N:Nd):Prop where
 k: -9223372036854775808<=N.k/\N.k<=9223372036854775807
 f: -9223372036854775808<=N.f/\N.f<=9223372036854775807
 t: -9223372036854775808<=N.t/\N.t<=9223372036854775807
 l: -9223372036854775808<=N.l/\N.l<=9223372036854775807
 op: -9223372036854775808<=N.op/\N.op<=9223372036854775807
 n: -9223372036854775808<=N.n/\N.n<=9223372036854775807
 ks:∀z∈N.ks, -9223372036854775808<=z/\z<=9223372036854775807
end Go.Proofs.YtnoembpaejlaeaaGreatDoor
namespace Go.Proofs.YtnoembpaejlaeaaGreatDoor
variable{B i l n:Nat}{C:Nat->Bool}{K:Act->World->Prop}{Q:Exit->Act->World->Prop}{S S2:World->Prop}{W W' w:World}{a:Act}{c t:Int}{md:Region.Mode}{o:Oper}{ops:Array Oper}{s:ByteArray}
def wpU(P:B3)(d:Region.Mode)(c:Array Oper)(Q:Exit->Act->A2->Prop)(S f:A2->Prop)(C:Nat->Bool):Nat->Array Bool->Act->A2->Prop
 |0,b,a,w=>Region.ready d c b=[]/\Q .normal a w
 |fuel+1,b,a,w=>
  (Region.ready d c b=[]->Q .normal a w)/\
  ∀i∈Region.ready d c b,wpOp P c Q i (λg e=>(f e/\(C i=U->S e))/\wpU P d c Q S f C fuel (b.setIfInBounds i U) g e) a w
def Dd{P:B3}:∀(fuel:Nat)(c:Array Bool)(a:Act)(w:A2),wpU P md ops Q S S2 C fuel c a w->wpAnyH P md ops Q S2 fuel c a w
 |0,_,_,_,h=>h
 |fuel+1,_,_,_,h=>⟨h.1,λi e=>wpOp_mono (λd f b=>⟨b.1.1,Dd fuel _ d f b.2⟩) (h.2 i e)⟩
def rF{P:B3}{l:Oper}{v:B7}(B:ops[i]?=O l)(J:∀(j:Nat) (o:Oper) cs b,ops[j]?=O o->o.op≠ .select cs b)
  (al:∀c a w,Q (.panic c) (a.put l.dst v) w->Q (.panic c) a w) (af:∀(j:Nat) d,ops[j]?=O d->C j=Ax->∃e∈d.after,Region.binds md e=U/\e.on=i):
  ∀(fuel:Nat)(f:Array Bool)(a:Act)(w:A2),
   (∀j d,ops[j]?=O d->j≠i->f.getD j U=Ax->(∀e∈d.after,Region.binds md e=U->e.on≠i)->l.apart ops d=U)->
   i∈Region.ready md ops f->YieldsIf P ops S l v a->S2 w->S w->
   wpU P md ops Q S S2 C fuel (f.setIfInBounds i U) (a.put l.dst v) w->wpAnyH P md ops Q S2 (fuel+1) f a w:=by
 intro fuel
 induction fuel with
 |zero=>
  intro f a w _ k t x hS n;refine⟨λu=>(by rw[u]at k;cases k),λj r=>?_⟩;by_cases g:j=i
  .subst g;exact t.wpOp B hS ⟨x,Dd _ _ _ _ n⟩
  .have:=ready_mono r g;rw[n.1]at this;cases this
 |succ fuel av=>
  intro f a w F k t x hS n;refine⟨λu=>(by rw[u]at k;cases k),λj r=>?_⟩;by_cases g:j=i
  .subst g;exact t.wpOp B hS ⟨x,Dd _ _ _ _ n⟩
  .have h:=n.2 j (ready_mono r g);obtain⟨H,d,s,an⟩:=mem_ready.1 r;have I:∀e∈d.after,Region.binds md e=U->e.on≠i:=λe z y A=>by
    have h:=an e z y;have E:=(mem_ready.1 k).1;rw[A]at h;rcases bC i f.size with h'|h'
    .simp[h']at E h;rw[E]at h;cases h
    .simp[xB h']at h
   have ak:C j=U:=by
    cases hc:C j with
    |true=>rfl
    |false=>
     obtain⟨e,z,y,A⟩:=af j d s hc;exact absurd A (I e z y)
   have ad:=wpOp_putIf s (F j d s g H I) (λcs b=>J i l cs b B) (λcs b=>J j d cs b s) al t h;have ao:∀m q,ops[m]?=O q->m≠i->(f.setIfInBounds j U).getD m U=Ax->
     (∀e∈q.after,Region.binds md e=U->e.on≠i)->l.apart ops q=U:=λm q ap ar K au=>by
    refine F m q ap ar ?_ au;by_cases G:j=m
    .subst G;exact H
    .rw[getD_set_ne U G]at K;exact K
   refine wpOp_mono (λL ax p=>⟨p.2.1.1,av (f.setIfInBounds j U) L ax ao (ready_mono k (dA g)) p.1 p.2.1.1 (p.2.1.2 ak) ?_⟩) ad;rw[Array.setIfInBounds_comm _ _ g];exact p.2.2
def fh{P:B3}{fuel:Nat}{c:Array Bool}(l:Region.ready md ops c=[i])(r:ops[i]?=O o)
  (h:∀d:Act->A2->Prop,Shut (∀a w,S2 w->(C i=U->S w)->wpU P md ops Q S S2 C fuel (c.setIfInBounds i U) a w->d a w)->if Region.wanted o (yielded ops a.tmps)=U then Oper.wp P o a w d Q else d (a.put o.dst undef) w):wpU P md ops Q S S2 C (fuel+1) c a w:=by
 refine⟨λj=>(by rw[l]at j;cases j),λf k=>?_⟩;rw[l]at k;obtain rfl:f=i:=by simpa using k
 have b:=h (λm g=>(S2 g/\(C f=U->S g))/\wpU P md ops Q S S2 C fuel (c.setIfInBounds f U) m g) (λa w n p q=>⟨⟨n,p⟩,q⟩);unfold wpOp;simp only[r];split
 .rename_i e;rw[ab e]at b;exact .inl b
 .rename_i e;rw[aa e]at b;exact b
def uk{P:B3}{c:Array Bool}(b:Region.ready md ops c=[])(h:Q .normal a w):
  ∀fuel,wpU P md ops Q S S2 C fuel c a w
 |0=>⟨b,h⟩
 |_+1=>⟨λ_=>h,by rw[b];simp⟩
open Go.RowKit
def afE(a:Nat)(W:A2)(b X:A2->Prop):Exit->Act->A2->Prop
 | .normal,_,W'=>F1 a W W'/\b W'
 | .ret,_,W'=>F1 a W W'/\X W'
 |_,_,_=>False
def vE{P:B3}{g:Operand}{ps:Array Tmp}{assign body:Go.Code}{gf:Nat}{lb:Array B7}
  (a6:a.eval g= .func (.func gf) #[] lb) (ao:∀args w,(callFunc gf args).run P w= .ok (.enter gf args) w) (enc:Nat->Array B7) (a9:∀x,(enc x).size=ps.size) (u:Nat)
  (f:Nat->A2->Prop) (y:Nat->Act->A2->Prop) (X:A2->Prop)
  (an:∀m W r o,f m W->W.heap[w.heap.size+1]?=O (.loop r)->f m (W.putObj (w.heap.size+1) o))
  (bf:∀m c W r o,y m c W->W.heap[w.heap.size+1]?=O (.loop r)->y m c (W.putObj (w.heap.size+1) o)) (al:∀W r o,X W->W.heap[w.heap.size+1]?=O (.loop r)->X (W.putObj (w.heap.size+1) o))
  (ap:∀b,B1 w.heap.size w b->b.heap.size=w.heap.size+2->f u b)
  (av:∀(l m:Nat) W (K:Act->A2->Prop),m<u->f (m+1) W->(∀c W',y m c W'->F1 w.heap.size W W'->K c W')->
   assign.wpIn (Fence.wide.inRound l) (n-1-1) P (Exit.then K (λ_ _ _=>False)) {tmps:=(ps.zip (enc m)).foldl (λt (p,v)=>t.setIfInBounds p v) a.tmps,defers:=[]} W)
  (a0:∀(l m:Nat) c W,m<u->y m c W->body.wpIn (Fence.wide.inRound l) (n-1-1) P (afE w.heap.size W (f m) X) c W)
  (bd:∀(l:Nat)(j:Nat->A2->Prop)(I:A2->Prop),(∀m W,j m W->f m W)->
   (∀m W,m<u->j (m+1) W->YieldAt Ck (n-1-1) P l (enc m) W λe W'=>(e= V (B4 U)/\j m W')\/(e= V (B4 Ax)/\I W'))->
   ∀W,j u W->CallsIn Ck (n-1) P gf (#[.func (.yield l) #[] #[]]++lb) W λe W'=>(∃v,e= V v)/\(j 0 W'\/I W'))
  (a4:∀W,f 0 W->W.heap[w.heap.size]?=O (.deferred (O []))->Q .normal {a with defers:={target:= .collected w.heap.size,args:=#[]}::a.defers} W)
  (ba:∀W,X W->W.heap[w.heap.size]?=O (.deferred (O []))->Q .ret {a with defers:={target:= .collected w.heap.size,args:=#[]}::a.defers} W):
  (Go.Code.rangeFunc g ps assign body).wpIn Ck n P Q a w:=by
 refine wpIn_rangeFunc ?_;intro fn a5;show ∃l bv bw bo bx br args bA,(Instr.enterLoop fn a.tmps ps assign body A3).run P w=_/\_;obtain⟨rc,d⟩:∃rc:LoopState->Option Go.Code->Loop,rc=λbj bh=>{state:=bj,pending:=bh,fn,tmps:=a.tmps,params:=ps,assign,body,defers:=w.heap.size}:=⟨_,rfl⟩;have C:=run_enterLoop_outer (P:=P) (w:=w) fn a.tmps ps assign body;rw[show({state:= .ready,pending:=A3,fn,tmps:=a.tmps,params:=ps,assign,body,defers:=w.heap.size}:Loop)=rc .ready A3 by rw[d]]at C;obtain⟨b,k⟩:=aF ((w.alloc (.deferred (O []))).alloc (.loop (rc .ready A3)));rw[k]at C;have a7:b.heap[w.heap.size+1]?=O (.loop (rc .ready A3)):=by
  rw[<-k];have:=World.alloc_heap_new (w.alloc (.deferred (O []))) (.loop (rc .ready A3));rwa [de]at this
 have a1:b.heap[w.heap.size]?=O (.deferred (O [])):=by
  rw[<-k];exact(dG _ _ _ (by simp)).trans (World.alloc_heap_new w _)
 have ax:B1 w.heap.size w b:=by rw[<-k];exact((ai _ w).alloc (ag _) _).alloc (by simp) _
 have bb:b.heap.size=w.heap.size+2:=by rw[<-k];simp
 refine⟨w.heap.size+1,[{target:= .collected w.heap.size,args:=#[]}],b,{target:= .fn (.func gf) lb,args:=#[.func (.yield (w.heap.size+1)) #[] #[]]},b,gf,
  #[.func (.yield (w.heap.size+1)) #[] #[]]++lb,b,C,?_,?_,?_,λz=>by simp[Ck]at z,?_⟩
 .simp only[resolve,a6];simp[go_sem]
 .intro bs bt;trivial
 .simp[invoke,go_sem,ao]
 .refine(bd (w.heap.size+1) (λm W=>f m W/\W.heap[w.heap.size+1]?=O (.loop (rc .ready A3))/\W.heap[w.heap.size]?=O (.deferred (O [])))
   (λW=>X W/\W.heap[w.heap.size+1]?=O (.loop (rc .done (O .ret)))/\W.heap[w.heap.size]?=O (.deferred (O []))) (λ_ _ z=>z.1) ?_ b ⟨ap b ax bb,a7,a1⟩).mono ?_
  .rintro m W af ⟨A,h,q⟩;have ak:=run_yield (P:=P) (args:=enc m) h (by rw[d];exact a9 m);rw[d]at ak;refine⟨fn,_,assign,body,ak,roundIn_of_wpIn a5 (av _ m W _ af A λc W' ar L=>?_)⟩;have E:=L.same _ _ (by omega) h rfl;have a2:=L.same _ _ (ag _) q rfl;have a8:w.heap.size+1<W'.heap.size:=(Array.getElem?_eq_some_iff.1 E).1;refine⟨_,run_beginRound E (by rw[d]),?_⟩;have ad:(W'.putObj (w.heap.size+1) (.loop {rc .ready A3 with state:= .busy})).heap[w.heap.size+1]?=O (.loop {rc .ready A3 with state:= .busy}):=World.putObj_heap_same a8;have J:(W'.putObj (w.heap.size+1) (.loop {rc .ready A3 with state:= .busy})).heap[w.heap.size]?=O (.deferred (O [])):=(Br (by omega)).trans a2;refine wpIn_mono (a0 _ m c _ af (bf _ _ _ _ _ ar E)) ?_;rintro e bn bl G;cases e with
   |normal=>
    obtain⟨s,H⟩:=G;have i:=s.same _ _ (by omega) ad rfl;have B:=s.same _ _ (ag _) J rfl;have F:=(Array.getElem?_eq_some_iff.1 i).1;refine⟨_,_,run_endRound (P:=P) A3 i,.inl ⟨rfl,an _ _ _ _ H i,?_,(Br (by omega)).trans B⟩⟩;rw[World.putObj_heap_same F];simp[d]
   |ret=>
    obtain⟨s,H⟩:=G;have i:=s.same _ _ (by omega) ad rfl;have B:=s.same _ _ (ag _) J rfl;have F:=(Array.getElem?_eq_some_iff.1 i).1;refine⟨_,_,run_endRound (P:=P) (O .ret) i,.inr ⟨rfl,al _ _ _ H i,?_,(Br (by omega)).trans B⟩⟩;rw[World.putObj_heap_same F];simp[d]
   |_=>exact G.elim
  .rintro e bk ⟨⟨v,rfl⟩,⟨A,h,q⟩|⟨au,h,q⟩⟩
   .refine⟨A3,_,by have:=run_endLoop (P:=P) h (by rw[d];simp);rw[d]at this;exact this,?_⟩;exact a4 _ (an _ _ _ _ A h) ((Br (by omega)).trans q)
   .refine⟨O .ret,_,by have:=run_endLoop (P:=P) h (by rw[d];simp);rw[d]at this;exact this,?_⟩;exact wpIn_ret (ba _ (al _ _ _ au h) ((Br (by omega)).trans q))
def aaq{P:B3}(r:Result Next)(h:o.upon P a K Q r):o.uponIn (Fence.wide.inRound l) n P a K Q r:=by
 have d:(Fence.wide.inRound l).depth.isSome=U->1<=n:=λh=>by simp[Ck,Fence.inRound]at h
 cases r with
 |ok c i=>
  cases c with
  |value b=>exact h
  |skip=>exact h
  |defer k=>exact h
  |enter m args=>exact⟨d,CallsIn.inRound l (callsIn_wide.2 h)⟩
  |row row args=>exact⟨d,λe f _=>let ⟨b,j,r,g⟩:=h e f;⟨b,j,r,stepsIn_wide.2 g⟩⟩
  |_=>exact h.elim
 |halt c i=>
  cases c with
  |panic b=>exact h
  |_=>exact h.elim
def JG(o:Oper):Bool:=match o.op with| .defer _=>Ax|_=>U
def afF(h:JG o=U):∀c,o.op≠ .defer c:=by
 intro c a;unfold JG at h;rw[a]at h;cases h
def aar{P:B3}(d:∀(j:Nat) (o:Oper),ops[j]?=O o->JG o=U)(e:¬LetsOut Q)(h:wpOp P ops Q i K a w):wpOpIn (Fence.wide.inRound l) n P ops Q i K a w:=by
 unfold wpOp at h;unfold wpOpIn;cases ho:ops[i]? with
 |none=>simpa [ho] using h
 |some o=>
  simp only[ho]at h⊢;split
  .rename_i b;simp only[b,jE]at h;rcases h with h|h
   .refine⟨λc _=>trivial,?_⟩;show o.uponIn _ _ _ _ _ _ ((o.semAt (O l) a.eval).run P w);rw[lu l a.eval o (afF (d i o ho))];exact aaq _ h
   .exact absurd h.2 e
  .rename_i b;simp only[b]at h;exact⟨λc _=>trivial,by simpa using h⟩
def ww{P:B3}(b:∀(j:Nat) (o:Oper),ops[j]?=O o->JG o=U)(c:¬LetsOut Q):
  ∀(fuel:Nat)(d:Array Bool)(a:Act)(w:A2),wpAny P md ops Q fuel d a w->wpAnyIn (Fence.wide.inRound l) n P md ops Q fuel d a w
 |0,_,_,_,h=>h
 |fuel+1,_,_,_,h=>⟨h.1,λi g=>aar b c (wpOp_mono (λe k f=>ww b c fuel _ e k f) (h.2 i g))⟩
def sG{P:B3}{id:Nat}(e:P.follows .mixedOrders=U)(c:ops.all JG=U)(g:¬LetsOut Q)(hS:S w.drew)
  (h:S w.drew->wpAnyH P .any ops Q S ops.size (Array.replicate ops.size Ax) a w.drew):(Go.Code.region id ops U).wpIn (Fence.wide.inRound l) n P Q a w:=
 wpIn_region_any e (ww (λi j f=>by
  obtain⟨d,b⟩:=Array.getElem?_eq_some_iff.1 f;rw[<-b];exact Array.all_eq_true.1 c i d) g _ _ _ _ (wpAny_of_held _ _ _ _ (h hS)))
def Ha{P:B3}(i:Nat)(d:Tmp)(v:B7){e:Oper}{fuel:Nat}{b:Array Bool}(k:ops[i]?=O e)(f:e.dst=O d)
  (m:Region.noSelect ops=U) (j:Region.free md ops b i=U) (l:(Region.ready md ops b).contains i=U)
  (g:∀c a w,Q (.panic c) (a.put (O d) v) w->Q (.panic c) a w) (n:Region.wanted e (yielded ops a.tmps)=U) (hS:S w) (o:∀w,S w->(execOp a.eval e).run P w= .ok (.value v) w)
  (h:wpAnyH P md ops Q S fuel (b.setIfInBounds i U) (a.put (O d) v) w):wpAnyH P md ops Q S (fuel+1) b a w:=
 wpAnyH_take k m j l (by rw[f];exact g) (Or.inl ⟨n,o⟩) hS (by rw[f];exact h)
def ao7(b:Region.Mode)(a:Array Oper)(m:List Bool)(i:Nat)(l:List B7):Bool:=Region.noSelect a&&Region.free b a m.toArray i&&(Region.ready b a m.toArray).contains i&&(match a[i]? with|some o=>Region.wanted o (yielded a l.toArray)|none=>Ax)
def dF{P:B3}(i:Nat)(v:B7){d:Tmp}{f:Oper}{fuel:Nat}{m:List Bool}{l:List B7}{e:List Deferred}(g:ops[i]?=O f)(k:f.dst=O d)(b:ao7 md ops m i l=U)
  (j:∀c a w,Q (.panic c) (a.put (O d) v) w->Q (.panic c) a w) (hS:S w) (n:∀w,S w->(execOp (Act.mk l.toArray e).eval f).run P w= .ok (.value v) w)
  (h:wpAnyH P md ops Q S fuel (m.set i U).toArray ⟨(l.set d v).toArray,e⟩ w):wpAnyH P md ops Q S (fuel+1) m.toArray ⟨l.toArray,e⟩ w:=by
 unfold ao7 at b;rw[g]at b;simp only[bI]at b;refine Ha i d v g k b.1.1.1 b.1.1.2 b.1.2 j b.2 hS n ?_;simp only[Act.put,cm];exact h
def bareN(N:Nd):Nd:={N with f:=0,t:=0,l:=0}
open Go.Maps Go.WideMaps
abbrev BuF(a b:Nat)(c:List B7)(w:A2):Prop:=Lib.IsBuilderF 259 5 a b c w
abbrev BuA(a b:Nat)(c:List B7)(w:A2):Prop:=Lib.BuilderAtF 259 5 a b (B0 (O ⟨b,0,A3⟩)) c w
def tu(b:Nat)(w:A2)(h:w.cell? ⟨b,0,A3⟩=O (.pointer A3))(d:w.shape? b=O (259,2))(i:w.frozen? ⟨b,0,A3⟩=Ax):
  A9 M 252 #[.pointer (O ⟨b,0,A3⟩)] w λe g=>e= .returned (.tuple #[])/\g=w.setCell ⟨b,0,A3⟩ (.pointer (O ⟨b,0,A3⟩)):=by
 obtain⟨j,c,f⟩:=Option.map_eq_some_iff.1 (show(Tryz.prog.info? 259).map (·.size)=O 2 by kernel_rfl);have k:=Lib.run_to_unsafe (P:=M) (w:=w) ⟨b,0,A3⟩ Tryz.underlying257 Tryz.underlying281 c (by rw[f];decide) d (Nat.zero_lt_succ 1);have l:=Lib.run_from_unsafe (P:=M) (w:=w) ⟨b,0,A3⟩ Tryz.underlying281 Tryz.underlying257 c d (by kernel_rfl);have m:∀a,(callFunc 266 #[a]).run M w= .ok (.value a) w:=λa=>by
  rw[abr Tryz.func266 (by kernel_rfl) (by kernel_rfl) (by kernel_rfl) (e:=Extern.AbiNoEscape.same) (by kernel_rfl),Lib.run_noEscape];rfl
 go_in;go_wp2;go_end0
 exact⟨rfl,rfl⟩
def De(b:Nat)(w:A2)(d:w.cell? ⟨b,0,A3⟩=O (.pointer (O ⟨b,0,A3⟩)))(g:w.shape? b=O (259,2)):
  A9 M 252 #[.pointer (O ⟨b,0,A3⟩)] w λe c=>e= .returned (.tuple #[])/\c=w:=by
 obtain⟨h,a,f⟩:=Option.map_eq_some_iff.1 (show(Tryz.prog.info? 259).map (·.size)=O 2 by kernel_rfl);have i:=Lib.run_neq_ptr_same (P:=M) w ⟨b,0,A3⟩ Tryz.underlying257 a;go_in;go_wp2;go_end0
 exact⟨rfl,rfl⟩
def EE(a b:Nat)(d:List B7)(w:A2)(h:BuF a b d w):
  A9 M 252 #[B0 (O ⟨b,0,A3⟩)] w λe c=>e= V (B2 #[])/\BuA a b d c/\B1 a w c:=by
 rcases h with h|h
 .refine(tu b w h.cell0 h.shape h.frozen0).mono ?_;rintro e c ⟨rfl,rfl⟩;exact⟨rfl,h.used _,(ai a w).setCell (p:=⟨b,0,A3⟩) h.1 _⟩
 .refine(De b w h.cell0 h.shape).mono ?_;rintro e c ⟨rfl,rfl⟩;exact⟨rfl,h,ai a _⟩
def A6(a b:Nat)(c:List B7)(s:ByteArray)(w:A2)(h:BuF a b c w)(an:c.length+s.size<=140737488355328)(al:a<=w.heap.size):
  A9 M 231 #[.pointer (O ⟨b,0,A3⟩),.string s] w λe u=>e= .returned (.tuple #[.int .i64 s.size,.nilIface])/\BuA a b (c++Lib.strCells s) u/\B1 a w u:=by
 obtain⟨G,y,C,E,F⟩:=eD (show(Tryz.prog.info? 5).map (λj=>(j.zero,j.size,j.bytes))=O (O (.int .u8 0),1,1) by kernel_rfl);go_in;go_wp2_with (go_at_call 252;refine(EE a b c _ h).mono ?_);rintro e w1 ⟨rfl,x,n⟩;obtain⟨m,k,g,q,B⟩:=x;have J:w1.cell? ⟨b,1,A3⟩=O k:=by rw[Lib.cell_of_heap g];rfl
 have ap:=n.size;go_wp2_with (at_builtin;refine Lib.wpList_append_own_stringF _ rfl _ _ 22 9 rfl a 5 G Tryz.underlying22 Tryz.underlying9 y C E F _ _ _ rfl q s rfl (by unfold maxLen;omega) (by omega) (by omega) ?_);intro I v r o _;have A:=aj g;have f:v.heap[b]?=O (.cells #[.pointer (O ⟨b,0,A3⟩),k] 259 (0,0)):=by
  rw[o.block b A (λe=>B e.symm)];exact g
 have L:v.cell? ⟨b,1,A3⟩=O k:=by rw[Lib.cell_of_heap f];rfl
 have ad:=Lib.frozen_of_heap f 1;obtain⟨l,t,d,rfl⟩:∃l t d,I= .slice l t d:=by
  rcases r.2 with⟨i,_⟩|⟨ak,d,K,af,i,_⟩
  .exact⟨_,_,_,i⟩
  .exact⟨_,_,_,i⟩
 go_wp2;go_ret2;refine⟨rfl,?_,?_⟩
 .exact Lib.BuilderAtF.put (T:=259) (e:=5) m f (bs':=c++Lib.strCells s) (by simpa [Lib.strCells_length] using r) (by decide)
 .exact(n.grown o (by omega) (λH z=>(q.lt H z).1)).setCell (p:=⟨b,1,A3⟩) m _
end Go.Proofs.YtnoembpaejlaeaaGreatDoor
namespace Go.Proofs
open Go.Shelf
def Tryz.lays170_ren:Go.Shelf.Ren:=⟨λ|170=>232|n=>n,λ|70=>257|3=>3|0=>0|72=>259|37=>22|5=>5|n=>n,λ|n=>n⟩
def Tryz.lays170:Go.Proofs.Lays.n170 M Tryz.lays170_ren:={
 mixed:=by kernel_rfl
 f170:=Tryz.func232.trans (congrArg O (by kernel_rfl))
 t0:=Tryz.underlying0
 a0:=Tryz.isAgg0
 z0:=Tryz.sizeOf0
 v0:=Tryz.zeroValue0
 t3:=Tryz.underlying3
 a3:=E1
 z3:=Ex
 v3:=Tryz.zeroValue3
 t37:=Tryz.underlying22
 a37:=Tryz.isAgg22
 z37:=Tryz.sizeOf22
 v37:=Tryz.zeroValue22
 t70:=Tryz.underlying257
 a70:=Tryz.isAgg257
 z70:=Tryz.sizeOf257
 v70:=Tryz.zeroValue257
 t72:=Tryz.underlying259
 a72:=Tryz.isAgg259
 z72:=Tryz.sizeOf259
 v72:=Tryz.zeroValue259}
def Tryz.lays169_ren:Go.Shelf.Ren:=⟨λ|169=>233|n=>n,λ|70=>257|9=>9|0=>0|72=>259|37=>22|127=>264|3=>3|5=>5|n=>n,λ|n=>n⟩
def Tryz.lays169:Go.Proofs.Lays.n169 M Tryz.lays169_ren:={
 mixed:=by kernel_rfl
 f169:=Tryz.func233.trans (congrArg O (by kernel_rfl))
 t0:=Tryz.underlying0
 a0:=Tryz.isAgg0
 z0:=Tryz.sizeOf0
 v0:=Tryz.zeroValue0
 t3:=Tryz.underlying3
 a3:=E1
 z3:=Ex
 v3:=Tryz.zeroValue3
 t9:=Tryz.underlying9
 a9:=Tryz.isAgg9
 z9:=Tryz.sizeOf9
 v9:=Tryz.zeroValue9
 t37:=Tryz.underlying22
 a37:=Tryz.isAgg22
 z37:=Tryz.sizeOf22
 v37:=Tryz.zeroValue22
 t70:=Tryz.underlying257
 a70:=Tryz.isAgg257
 z70:=Tryz.sizeOf257
 v70:=Tryz.zeroValue257
 t72:=Tryz.underlying259
 a72:=Tryz.isAgg259
 z72:=Tryz.sizeOf259
 v72:=Tryz.zeroValue259
 t127:=Tryz.underlying264
 a127:=Tryz.isAgg264
 z127:=Tryz.sizeOf264
 v127:=Tryz.zeroValue264}
def Tryz.Builder_Extra_169:Builder.Extra M Tryz.lays169_ren:={
 sizeBuilder:=by kernel_rfl
 liesBuilder:=by kernel_rfl
 t5:=Tryz.underlying5
 a5:=Tryz.isAgg5
 z5:=Tryz.sizeOf5
 v5:=Tryz.zeroValue5
 infoByte:=by kernel_rfl
 cellsByte:=by kernel_rfl
 sizeByte:=by kernel_rfl
 neB5:=by decide}
def Tryz.lays241_ren:Go.Shelf.Ren:=⟨λ|241=>253|277=>267|n=>n,λ|70=>257|3=>3|0=>0|72=>259|37=>22|5=>5|n=>n,λ|n=>n⟩
def Tryz.lays241:Go.Proofs.Lays.n241 M Tryz.lays241_ren:={
 mixed:=by kernel_rfl
 f241:=Tryz.func253.trans (congrArg O (by kernel_rfl))
 f277:=Tryz.func267.trans (congrArg O (by kernel_rfl))
 t0:=Tryz.underlying0
 a0:=Tryz.isAgg0
 z0:=Tryz.sizeOf0
 v0:=Tryz.zeroValue0
 t3:=Tryz.underlying3
 a3:=E1
 z3:=Ex
 v3:=Tryz.zeroValue3
 t37:=Tryz.underlying22
 a37:=Tryz.isAgg22
 z37:=Tryz.sizeOf22
 v37:=Tryz.zeroValue22
 t70:=Tryz.underlying257
 a70:=Tryz.isAgg257
 z70:=Tryz.sizeOf257
 v70:=Tryz.zeroValue257
 t72:=Tryz.underlying259
 a72:=Tryz.isAgg259
 z72:=Tryz.sizeOf259
 v72:=Tryz.zeroValue259}
def Tryz.Builder_Extra_241:Builder.Extra M Tryz.lays241_ren:={
 sizeBuilder:=by kernel_rfl
 liesBuilder:=by kernel_rfl
 t5:=Tryz.underlying5
 a5:=Tryz.isAgg5
 z5:=Tryz.sizeOf5
 v5:=Tryz.zeroValue5
 infoByte:=by kernel_rfl
 cellsByte:=by kernel_rfl
 sizeByte:=by kernel_rfl
 neB5:=by decide}
open Go.RowKit in
def Tryz.Builder_grow_fresh(a b n:Nat)(w:A2)(d:a<=b)(g:w.heap[b]?=O (.cells #[B0 (O ⟨b,0,A3⟩),Fs A3 0 0] 259 (0,0)))(f:a<=w.heap.size)(h:n<=281474976710656):
  A9 M 253 #[B0 (O ⟨b,0,A3⟩),Y A0 n] w λe c=>e= V (B2 #[])/\(Lib.BuilderAt 259 5 a b (B0 (O ⟨b,0,A3⟩)) [] c/\B1 a w c):=Any.Builder_grow_fresh Tryz.lays241 Tryz.Builder_Extra_241 a b n w d g f h
open Go.RowKit in
def Tryz.Builder_Len_f(c b:Nat)(a:List B7)(w:A2)(h:Lib.IsBuilderF 259 5 c b a w):
  A9 M 232 #[B0 (O ⟨b,0,A3⟩)] w λe d=>e= V (Y A0 a.length)/\d=w:=Any.Builder_Len_f Tryz.lays170 c b a w h
open Go.RowKit in
def Tryz.Builder_String_any_k(a b:Nat)(l:List UInt8)(w:A2)(h:Lib.IsBuilderF 259 5 a b (Lib.byteCells l) w)(d:a<=w.heap.size):
  A9 M 233 #[B0 (O ⟨b,0,A3⟩)] w λe c=>e= V (Z ⟨l.toArray⟩)/\(Lib.IsBuilderF 259 5 a b (Lib.byteCells l) c/\B1 a w c/\Lib.OthersKept 5 (O b) w c):=Any.Builder_String_any_k Tryz.lays169 Tryz.Builder_Extra_169 a b l w h d
end Go.Proofs
namespace Go.Proofs.YtnoembpaejlaeaaGreatDoor
open Go.RowKit Go.Maps Go.WideMaps
variable{B i l n:Nat}{C:Nat->Bool}{K:Act->World->Prop}{Q:Exit->Act->World->Prop}{S S2:World->Prop}{W W' w:World}{a:Act}{c t:Int}{md:Region.Mode}{o:Oper}{ops:Array Oper}{s:ByteArray}
def afG(a b n:Nat)(w:A2)(i:a<=b)(f:w.heap[b]?=O (.cells #[B0 A3,Fs A3 0 0] 259 (0,0)))(t:a<=w.heap.size)(o:n<=281474976710656)(s:0<n):
  A9 M 230 #[B0 (O ⟨b,0,A3⟩),Y A0 n] w λe g=>e= V (B2 #[])/\BuA a b [] g/\B1 a w g:=by
 have h:(w.setCell ⟨b,0,A3⟩ (B0 (O ⟨b,0,A3⟩))).heap[b]?=O (.cells #[B0 (O ⟨b,0,A3⟩),Fs A3 0 0] 259 (0,0)):=aL _ b 0 _ _ _ f;have c:B1 a w (w.setCell ⟨b,0,A3⟩ (B0 (O ⟨b,0,A3⟩))):=(ai a w).setCell (p:=⟨b,0,A3⟩) i _;have j:=tu b w (by rw[Lib.cell_of_heap f];rfl) (by simp[World.shape?,f]) (Lib.frozen_of_heap f 0);go_in;go_wp2_with (go_at_call 252;refine j.mono ?_;rintro e w1 ⟨rfl,rfl⟩);generalize w.setCell ⟨b,0,A3⟩ (B0 (O ⟨b,0,A3⟩))=d at h c⊢;have k:d.cell? ⟨b,1,A3⟩=O (Fs A3 0 0):=by rw[Lib.cell_of_heap h];rfl
 have u:=c.size;clear j;go_region_held3 (λg=>g.cell? ⟨b,1,A3⟩=O (Fs A3 0 0)) (first|go_keep|exact k) (fail)
 have r:=Tryz.Builder_grow_fresh a b n d.drew i h (by simpa using(show a<=d.heap.size by omega)) o;go_wp2_with (go_at_call 253;refine r.mono ?_;rintro e v ⟨rfl,l,m⟩);all_goals first
  |(rename_i q;rw[dt]at q;omega)
  |skip
 go_end0
 exact⟨rfl,Lib.BuilderAtF.of l,(⟨c.os,c.tape,c.output,c.size,c.block⟩:B1 a w d.drew).trans m⟩
def Bu(a b:Nat)(T:ByteArray)(w:A2):Prop:=BuF a b (Lib.strCells T) w
def EF(a b:ByteArray):Lib.strCells (a++b)=Lib.strCells a++Lib.strCells b:=by
 unfold Lib.strCells;rw[kC,Gq,dK]
def FA(a b:Nat)(T s:ByteArray)(w:A2)(h:Bu a b T w)(i:T.size+s.size<=140737488355328)(g:a<=w.heap.size):
  A9 M 231 #[B0 (O ⟨b,0,A3⟩),Z s] w λe c=>e= V (B2 #[Y A0 s.size,F0])/\Bu a b (T++s) c/\B1 a w c:=by
 refine(A6 a b _ s w h (by rw[Lib.strCells_length];exact i) g).mono ?_;rintro e c ⟨rfl,d,f⟩;exact⟨rfl,.inr (by rw[EF];exact d),f⟩
def aas(a b:Nat)(T:ByteArray)(w:A2)(h:Bu a b T w)(g:a<=w.heap.size):
  A9 M 233 #[B0 (O ⟨b,0,A3⟩)] w λe c=>e= V (Z T)/\Bu a b T c/\B1 a w c:=by
 refine(Tryz.Builder_String_any_k a b T.data.toList w h g).mono ?_;rintro e c ⟨rfl,d,f,_⟩;exact⟨rfl,d,f⟩
def zB(b:Nat):Deferred:={target:= .collected b,args:=#[]}
structure tw (B:Nat) (c:List Nat) (W:A2):Prop where
 nd:c.Nodup
 lo:∀b∈c,B<=b
 at_:∀b∈c,W.heap[b]?=O (.deferred (O []))
structure Hb (c:List Nat) (W W':A2):Prop where
 os:W'.os=W.os
 tape:W'.tape=W.tape
 output:W'.output=W.output
 size:W'.heap.size=W.heap.size
 same:∀k,k ∉ c->W'.heap[k]?=W.heap[k]?
def pu{i:Fence}{P:B3}{j:Func}{tmps:Array B7}{R:Ending->A2->Prop}(g:Nat):∀(c:List Nat)(W:A2),tw g c W->(∀W',Hb c W W'->LeavesInM i n P j tmps R [] .returning W')->LeavesInM i n P j tmps R (c.map zB) .returning W
 |[],W,_,h=>h W ⟨rfl,rfl,rfl,rfl,λ_ _=>rfl⟩
 |b::c,W,f,h=>by
  have l:=f.at_ b (by simp);have k:=List.nodup_cons.1 f.nd;refine⟨by simp,.inl ⟨b,_,rfl,run_takeDeferred l,?_⟩⟩;refine pu g c _ ⟨k.2,λe a=>f.lo e (by simp[a]),λe a=>?_⟩ (λW' d=>?_)
  .exact(Br (by rintro rfl;exact k.1 a)).trans (f.at_ e (by simp[a]))
  .refine h W' ⟨d.os,d.tape,d.output,d.size.trans (by simp),λe a=>?_⟩;simp at a;exact(d.same e a.2).trans (Br a.1)
def Hb.below{c:List Nat}(h:Hb c W W')(a:B1 B w W)(e:∀b∈c,B<=b)(i:B<=w.heap.size):B1 B w W':=
 ⟨h.os.trans a.os,h.tape.trans a.tape,h.output.trans a.output,by rw[h.size];exact a.size,λd f=>(h.same d (λg=>by have:=e d g;omega)).trans (a.block d f)⟩
def tw.below{c:List Nat}(h:tw B c W)(d:B1 W.heap.size W W'):tw B c W':=
 ⟨h.nd,h.lo,λa b=>(d.block a (Array.getElem?_eq_some_iff.1 (h.at_ a b)).1).trans (h.at_ a b)⟩
def tw.keeps{c:List Nat}(h:tw B c W)(b:KeepsOthers W W'):tw B c W':=
 ⟨h.nd,h.lo,λa d=>b.same a _ (h.at_ a d) rfl⟩
