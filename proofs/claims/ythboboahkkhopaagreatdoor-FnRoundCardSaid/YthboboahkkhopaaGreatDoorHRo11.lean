import Derived.Test.YthboboahkkhopaaGreatDoorHRo05
import Derived.Test.YthboboahkkhopaaGreatDoorHRo10
import Derived.Test.YthboboahkkhopaaGreatDoorHRo07
set_option linter.all false
set_option maxRecDepth 100000
set_option maxHeartbeats 25600000
open Go.Proofs.Tryz
open Go.Proofs.Tryz renaming prog->M
open Go.Value renaming int->O,string->R,tuple->X,pointer->Ax,bool->A0,nilIface->A9,iface->Br,agg->B0
open Go.IntKind renaming i64->Q,u8->A5
open Go.Lib renaming parseUintM->S,hasPrefix->A2
open Bool renaming false->T,true->U
open Go renaming World->V,Calls->W,TypeId->B1
open Option renaming some->Y,none->Z
namespace Go.Proofs.YthboboahkkhopaaGreatDoor
open Go.RowKit Go.Maps Go.WideMaps
variable{B i:Nat}{c:Int}{s:ByteArray}{w:World}
def ou(c:Int):Bool:=decide (0<=jA c)
def wd(c:Int):ou c=U↔(48<=c/\c<=57)\/(97<=c/\c<=102):=by
 unfold ou jA;rw[Ct];split
 .omega
 .split<;>omega
def D9(c:Int)(w:V):W M 286 #[O A5 c] w λe w'=>e= .returned (A0 (ou c))/\w=w':=by
 have a:=λw=>lD c w;by_cases b:cJ c=U
 .rw[show ou c=U by rw[wd];have:=kF b;omega];rw[b]at a;go_in;go_wp2_with (first|(go_at_call 196;refine(a _).mono ?_;rintro e w' ⟨rfl,rfl⟩));go_ret;exact⟨rfl,rfl⟩
 .have d:cJ c=T:=by simpa using b
  rw[d]at a;have j:¬(48<=c/\c<=57):=by simpa [cJ] using d
  rcases(show(97<=c/\c<=102)\/c<97\/(97<=c/\102<c) by omega) with⟨h,i⟩|g|⟨h,i⟩
  .rw[show ou c=U by rw[wd];omega];go_in;go_wp2_with (first|(go_at_call 196;refine(a _).mono ?_;rintro e w' ⟨rfl,rfl⟩));go_ret;exact⟨rfl,rfl⟩
  .rw[show ou c=T by rw[<-Ib,wd];omega];have f:¬97<=c:=by omega
   go_in;go_wp2_with (first|(go_at_call 196;refine(a _).mono ?_;rintro e w' ⟨rfl,rfl⟩));go_ret;exact⟨rfl,rfl⟩
  .rw[show ou c=T by rw[<-Ib,wd];omega];have f:¬c<=102:=by omega
   go_in;go_wp2_with (first|(go_at_call 196;refine(a _).mono ?_;rintro e w' ⟨rfl,rfl⟩));go_ret;exact⟨by simp;omega,rfl⟩
def jD(a:Int->Bool)(s:ByteArray):Nat->Nat->Nat
 |0,p=>p
 |f+1,p=>if a (aA s p)=U then jD a s f (p+1) else p
def abv{a:Int->Bool}(b:a (-1)=T){p:Nat}(h:a (aA s p)=U):p<s.size:=by
 rcases bI p s.size with h1|h1
 .exact h1
 .rw[dJ,b]at h;cases h
def qi(a:Int->Bool)(b:a (-1)=T)(s:ByteArray):∀(f p:Nat),p<=s.size->p<=jD a s f p/\jD a s f p<=s.size
 |0,p,h=>⟨af _,h⟩
 |f+1,p,h=>by
  unfold jD;split
  .rename_i c;have d:=abv b c;have:=qi a b s f (p+1) (by omega);omega
  .exact⟨af _,h⟩
def we(b:Int->Bool)(s:ByteArray):∀(f p i:Nat),p<=i->i<jD b s f p->b (aA s i)=U
 |0,p,i,c,a=>by simp[jD]at a;omega
 |f+1,p,i,c,a=>by
  unfold jD at a;split at a
  .rename_i d;rcases jz c with rfl|h3
   .exact d
   .exact we b s f (p+1) i h3 a
  .omega
def LA(a:Int->Bool)(b:a (-1)=T)(s:ByteArray):∀(f p:Nat),s.size<p+f->a (aA s (jD a s f p))=T
 |0,p,h=>by
  unfold jD;rw[dJ,b]
 |f+1,p,h=>by
  unfold jD;split
  .exact LA a b s f (p+1) (by omega)
  .rename_i c;simpa using c
def zi:cJ (-1)=T:=by decide
def C5:ou (-1)=T:=by decide
def uo(s:ByteArray)(p:Nat):Nat:=jD cJ s (s.size+1) p
def hxE(s:ByteArray)(p:Nat):Nat:=jD ou s (s.size+1) p
def xz(s:ByteArray)(y:s.size<=1100000)(p:Nat)(r:p<=s.size)(w:V):W M 270 #[R s,O Q p] w (kL w (O Q (uo s p))):=by
 unfold uo;have⟨n,j⟩:=aJ (jD cJ s (s.size+1) p);rw[j];have m:=am j;go_in;go_wp21
 go_loop [1] (λh=>∃(b c:Nat),b<=s.size/\s.size<b+c/\h= O Q b/\Hid (jD cJ s c b=n)) (λh=>s.size-(intOf h).toNat)
 case atStart=>exact⟨p,s.size+1,r,by omega,rfl,m⟩
 case round=>
  obtain⟨b,c,x,v,rfl,l⟩:=hrel;obtain⟨c,rfl⟩:∃q,c=q+1:=⟨c-1,by omega⟩;have a:=l.out;unfold jD at a;by_cases k:b<s.size
  .have t:=λw=>fL k w;generalize aA s b=g at t a;have f:=λw=>lD g w;by_cases d:cJ g=U
   .rw[ae d]at a;have e:=am a;rw[d]at f;clear d;go_wp2_with (go_at_call 196;refine(f _).mono ?_;rintro o u ⟨rfl,rfl⟩);go_round
    case rel=>exact⟨b+1,c,by omega,by omega,by go_num,e⟩
    case measure=>simp[intOf];omega
   .have i:cJ g=T:=by simpa using d
    rw[aa d]at a;have e:=am a;rw[i]at f;clear d i a;go_wp2_with (go_at_call 196;refine(f _).mono ?_;rintro o u ⟨rfl,rfl⟩);go_ret;exact⟨by rw[<-e.out];rfl,rfl⟩
  .rw[aa (by rw[dJ k];decide)]at a;have e:=am a;go_wp2;go_ret;exact⟨by rw[<-e.out];rfl,rfl⟩
def pv(s:ByteArray)(a:Nat):Nat×Bool:=if a+16<hxE s a then(a+16,T) else(hxE s a,decide (a<hxE s a))
def abw(s:ByteArray)(I:s.size<=1100000)(p:Nat)(C:p<=s.size)(w:V):W M 269 #[R s,O Q p] w (kL w (X #[O Q ((pv s p).1:Int),A0 (pv s p).2])):=by
 unfold pv hxE;have⟨h,q⟩:=aJ (jD ou s (s.size+1) p);rw[q];have v:=am q;obtain⟨k,l,o⟩:∃k l,(if p+16<h then(p+16,T) else(h,decide (p<h)))=(k,l):=⟨_,_,rfl⟩;rw[o];have g:=am o;go_in;go_wp21
 go_loop [6] (λj=>∃(a d:Nat),p<=a/\a<=p+16/\a<=s.size/\s.size<a+d/\j= O Q a/\Hid (jD ou s d a=h)) (λj=>s.size-(intOf j).toNat)
 case atStart=>exact⟨p,s.size+1,af _,by omega,C,by omega,rfl,v⟩
 case round=>
  obtain⟨a,d,J,H,G,F,rfl,u⟩:=hrel;obtain⟨d,rfl⟩:∃z,d=z+1:=⟨d-1,by omega⟩;have c:=u.out;unfold jD at c;by_cases r:a<s.size
  .have E:=λw=>fL r w;generalize aA s a=i at E c;have f:=λw=>D9 i w;by_cases e:ou i=U
   .rw[ae e]at c;have B:=(qi ou C5 s d (a+1) (by omega)).1;rw[c]at B;have x:=am c;rw[e]at f;clear e;by_cases n:a=p+16
    .have b:=g.out;rw[ae (by omega),<-n]at b;obtain⟨rfl,rfl⟩:=yC b;have y:((a:Int)-(p:Int)==16)=U:=by rw[mj];omega
     clear b g n;go_wp2_with (go_at_call 286;refine(f _).mono ?_;rintro m t ⟨rfl,rfl⟩);go_ret2;exact⟨rfl,rfl⟩
    .have y:((a:Int)-(p:Int)==16)=T:=by rw[eJ];omega
     go_wp2_with (go_at_call 286;refine(f _).mono ?_;rintro m t ⟨rfl,rfl⟩);go_round
     case rel=>exact⟨a+1,d,by omega,by omega,by omega,by omega,by go_num,x⟩
     case measure=>simp[intOf];omega
   .have A:ou i=T:=by simpa using e
    rw[aa e]at c;subst c;rw[A]at f;have b:=g.out;rw[aa (by omega)]at b;obtain⟨rfl,rfl⟩:=yC b;go_wp2_with (go_at_call 286;refine(f _).mono ?_;rintro m t ⟨rfl,rfl⟩);go_ret2;exact⟨by simp,rfl⟩
  .rw[aa (by rw[dJ r];decide)]at c;subst c;have b:=g.out;rw[aa (by omega)]at b;obtain⟨rfl,rfl⟩:=yC b;go_wp2;go_ret2;exact⟨by simp,rfl⟩
def jl(s:ByteArray)(i:Nat)(b:UInt8):s.data.toList[i]?=Y b↔i<s.size/\aA s i=(b.toNat:Int):=by
 unfold aA;by_cases a:i<s.size
 .rw[pf a];have d:s.data.toList[i]?=Y s[i]:=by
   rw[yv];exact yy a
  rw[d];constructor
  .intro c;injection c with c;exact⟨a,by rw[c]⟩
  .intro ⟨_,c⟩;congr 1;exact UInt8.toNat_inj.1 (by omega)
 .have d:s.data.toList[i]?=Z:=by
   rw[yv];exact yw (Nat.not_lt.1 a)
  rw[d];simp[a]
def IK(s:ByteArray)(p:Nat)(x b:UInt8):A2 (s.extract p s.size).data.toList [x,b]=decide (aA s p=(x.toNat:Int)/\aA s (p+1)=(b.toNat:Int)):=by
 have o:(s.extract p s.size).data.toList=s.data.toList.drop p:=by
  rw[<-ja,Lib.extract_toList,cj];rw[fJ,iG];exact af _
 rw[o];unfold A2;rw[CI,Ho,Ct];constructor
 .rintro ⟨t,h⟩;have d:(s.data.toList.drop p)[0]?=Y x:=by rw[<-h];rfl
  have e:(s.data.toList.drop p)[1]?=Y b:=by rw[<-h];rfl
  rw[rj]at d e;exact⟨((jl s _ x).1 d).2,((jl s _ b).1 e).2⟩
 .rintro ⟨d,e⟩;have f:∀a (c:UInt8),aA s a=(c.toNat:Int)->s.data.toList[a]?=Y c:=λa c g=>by
   refine(jl s a c).2 ⟨?_,g⟩;rcases bI a s.size with h2|h2
   .exact h2
   .rw[dJ]at g;omega
  have q:=f p x d;have r:=f (p+1) b e;refine⟨s.data.toList.drop (p+2),?_⟩;have i:=List.getElem?_eq_some_iff.1 q;have j:=List.getElem?_eq_some_iff.1 r;obtain⟨k,m⟩:=i;obtain⟨l,n⟩:=j;rw[mI k,mI l,m,n];rfl
def nA0(s:ByteArray)(p:Nat):Nat:=if aA s p=48 then p+1 else uo s (p+1)
def nA1(s:ByteArray)(a:Nat):Nat:=if aA s a=46/\cJ (aA s (a+1))=U then uo s (a+1) else a
def nA2(s:ByteArray)(a:Nat):Nat:=if aA s (a+1)=43\/aA s (a+1)=45 then a+1+1 else a+1
def qa(s:ByteArray)(a:Nat):Nat×Bool:=if aA s a=101 then(uo s (nA2 s a),decide (nA2 s a<uo s (nA2 s a))) else(a,U)
def fc(s:ByteArray)(p:Nat):Nat×Bool:=if aA s p=48/\aA s (p+1)=120 then pv s (p+2) else qa s (nA1 s (nA0 s p))
def uq(s:ByteArray)(p:Nat)(h:p<=s.size):p<=uo s p/\uo s p<=s.size:=qi cJ zi s _ p h
def xA(s:ByteArray)(c:s.size<=1100000)(a:Int)(p:Nat)(b:a=(p:Int))(d:p<=s.size)(w:V):W M 270 #[R s,O Q a] w (kL w (O Q (uo s p))):=by
 subst b;exact xz s c p d w
def zj(a:Int)(i:Nat)(b:a=(i:Int))(h:i<s.size)(w:V):(Instr.index 9 (R s) (O Q a)).run M w= .ok (O A5 (aA s i)) w:=by
 subst b;exact fL h w
def co(h:aA s i=c)(a:0<=c:=by omega):i<s.size:=by
 rcases bI i s.size with h2|h2
 .exact h2
 .rw[dJ]at h;omega
def sf(h:cJ (aA s i)=U):i<s.size:=abv zi h
def Ea(s:ByteArray)(p:Nat)(w:V):W M 149 #[R (s.extract p s.size),R ⟨#[48,120]⟩] w (kL w (A0 (decide (aA s p=48/\aA s (p+1)=120)))):=by
 have a:=Tryz.strings_HasPrefix (s.extract p s.size) ⟨#[48,120]⟩ w;rw[show(⟨#[48,120]⟩:ByteArray).data.toList=[48,120] from rfl,IK]at a;exact a
def FK(s:ByteArray)(f:s.size<=1100000)(p:Nat)(c:aA s p=48)(a:aA s (p+1)=120)(w:V):W M 236 #[R s,O Q p] w (kL w (X #[O Q ((pv s (p+2)).1:Int),A0 (pv s (p+2)).2])):=by
 have i:=co a;have d:=λw=>Ea s p w;rw[show decide (aA s p=48/\aA s (p+1)=120)=U by simp[c,a]]at d;have b:∀w,W M 269 #[R s,O Q ((p:Int)+2)] w (kL w (X #[O Q ((pv s (p+2)).1:Int),A0 (pv s (p+2)).2])):=λw=>abw s f (p+2) (by omega) w;generalize pv s (p+2)=e at b;obtain⟨g,h⟩:=e;simp only at b⊢;clear c a;go_in;go_wp2_with (first|(go_at_call 149;refine iI (d _) ?_)|(go_at_call 269;refine iI (b _) ?_));go_ret2;exact⟨rfl,rfl⟩
abbrev IX(s:ByteArray)(a c:Int):Prop:=∀w,(Instr.index 9 (R s) (O Q a)).run M w= .ok (O A5 c) w
abbrev DE(s:ByteArray)(a:Int)(B:Nat):Prop:=∀w,W M 270 #[R s,O Q a] w (kL w (O Q (B:Int)))
abbrev DQ(c:Int)(b:Bool):Prop:=∀w,W M 196 #[O A5 c] w (kL w (A0 b))
def aso(s:ByteArray)(c:s.size<=1100000)(p:Nat)(e:p<s.size):∃a:Int,a=(nA0 s p:Nat)/\nA0 s p<=s.size/\((aA s p=48/\a=(p:Int)+1)\/((aA s p==48)=T/\DE s ((p:Int)+1) (nA0 s p)/\∃A,nA0 s p=A/\a=(A:Int))):=by
 unfold nA0;split
 .rename_i b;exact⟨_,rfl,by omega,.inl ⟨b,by omega⟩⟩
 .rename_i b;exact⟨_,rfl,(uq s (p+1) (by omega)).2,.inr ⟨by simp[b],λd=>xz s c (p+1) (by omega) d,_,rfl,rfl⟩⟩
def asp(s:ByteArray)(m:s.size<=1100000)(A:Nat)(l:A<=s.size)(a:Int)(g:a=(A:Int)):∃b:Int,b=(nA1 s A:Nat)/\nA1 s A<=s.size/\((¬a+1<(s.size:Int)/\b=a/\nA1 s A=A)\/(a+1<(s.size:Int)/\IX s a (aA s A)/\((b=a/\nA1 s A=A/\(aA s A==46)=T)\/(aA s A=46/\IX s (a+1) (aA s (A+1))/\((b=a/\nA1 s A=A/\DQ (aA s (A+1)) T)\/(DQ (aA s (A+1)) U/\DE s (a+1) (nA1 s A)/\∃B,nA1 s A=B/\b=(B:Int))))))):=by
 have j:∀e,DQ e (cJ e):=λe d=>(lD _ d).mono λn o c=>⟨c.1,c.2.symm⟩;have h:A<s.size->IX s a (aA s A):=λc d=>zj _ A g c d;have i:A+1<s.size->IX s (a+1) (aA s (A+1)):=λc d=>zj _ (A+1) (by omega) c d;unfold nA1;split
 .rename_i c;have h1:=sf c.2;exact⟨_,rfl,(uq s (A+1) (by omega)).2,.inr ⟨by omega,h (by omega),.inr ⟨c.1,i h1,.inr ⟨by rw[<-c.2];exact j _,λd=>xA s m _ (A+1) (by omega) (by omega) d,_,rfl,rfl⟩⟩⟩⟩
 .rename_i c;refine⟨a,g,l,?_⟩;rcases bI (A+1) s.size with h1|h1
  .refine .inr ⟨by omega,h (by omega),?_⟩;by_cases f:aA s A=46
   .refine .inr ⟨f,i h1,.inl ⟨rfl,rfl,?_⟩⟩;have k:cJ (aA s (A+1))=T:=by simpa [f] using c
    rw[<-k];exact j _
   .exact .inl ⟨rfl,rfl,by simp[f]⟩
  .exact .inl ⟨by omega,rfl,rfl⟩
def asq(s:ByteArray)(l:s.size<=1100000)(B:Nat)(m:B<=s.size)(b:Int)(f:b=(B:Int)):((b==(s.size:Int))=U/\((qa s B).1:Int)=b/\(qa s B).2=U)\/((b==(s.size:Int))=T/\IX s b (aA s B)/\(((aA s B==101)=T/\((qa s B).1:Int)=b/\(qa s B).2=U)\/(aA s B=101/\∃d:Int,((¬b+1<(s.size:Int)/\d=b+1)\/(b+1<(s.size:Int)/\IX s (b+1) (aA s (B+1))/\((aA s (B+1)=43/\d=b+1+1)\/(aA s (B+1)=45/\d=b+1+1)\/((aA s (B+1)==43)=T/\(aA s (B+1)==45)=T/\d=b+1))))/\∃C:Nat,DE s d C/\(qa s B).1=C/\(qa s B).2=decide (d<(C:Int))))):=by
 unfold qa;have i:B+1<s.size->IX s (b+1) (aA s (B+1)):=λh c=>zj _ (B+1) (by omega) h c;by_cases e:aA s B=101
 .have j:=co e;rw[ae e];refine .inr ⟨by rw[eJ];omega,λc=>zj _ B f j c,.inr ⟨e,(nA2 s B:Nat),?_,_,λc=>xA s l _ (nA2 s B) rfl ?_ c,rfl,by rw[acE];omega⟩⟩
  .unfold nA2;rcases(show ¬B+1<s.size\/(B+1<s.size/\aA s (B+1)=43)\/(B+1<s.size/\aA s (B+1)=45)\/(B+1<s.size/\aA s (B+1)≠43/\aA s (B+1)≠45) by omega) with h2|⟨h2,a⟩|⟨h2,a⟩|⟨h2,a,k⟩
   .rw[aa (by rw[dJ h2];omega)];exact .inl ⟨by omega,by omega⟩
   .rw[ae (.inl a)];exact .inr ⟨by omega,i h2,.inl ⟨a,by omega⟩⟩
   .rw[ae (.inr a)];exact .inr ⟨by omega,i h2,.inr (.inl ⟨a,by omega⟩)⟩
   .rw[aa (by omega)];exact .inr ⟨by omega,i h2,.inr (.inr ⟨by simp[a],by simp[k],by omega⟩)⟩
  .unfold nA2;split
   .rename_i h;rcases bI (B+1) s.size with g|g
    .omega
    .rw[dJ]at h;omega
   .omega
 .rw[aa e];rcases(show B=s.size\/B<s.size by omega) with h2|h2
  .exact .inl ⟨by rw[mj];omega,f.symm,rfl⟩
  .exact .inr ⟨by rw[eJ];omega,λc=>zj _ B f h2 c,.inl ⟨by simp[e],f.symm,rfl⟩⟩
def FL(s:ByteArray)(e:s.size<=1100000)(p:Nat)(j:p<s.size)(k:¬(aA s p=48/\aA s (p+1)=120))(w:V):W M 236 #[R s,O Q p] w (kL w (X #[O Q ((qa s (nA1 s (nA0 s p))).1:Int),A0 (qa s (nA1 s (nA0 s p))).2])):=by
 have l:=λw=>Ea s p w;rw[aE k]at l;have an:=λw=>fL j w;have⟨q,c,h,n⟩:=aso s e p j;obtain⟨r,d,i,f⟩:=asp s e _ h q c;have a:=asq s e _ i r d;generalize qa s (nA1 s (nA0 s p))=o at a⊢;obtain⟨L,ad⟩:=o;simp only at a⊢;clear k;have t:nA0 s p<=1100000:=by omega
 have u:nA1 s (nA0 s p)<=1100000:=by omega
 generalize nA1 s (nA0 s p)=I at d i f a u;generalize nA0 s p=G at c h n f t;rcases n with⟨v,rfl⟩|⟨v,z,H,rfl,rfl⟩;all_goals
  rcases f with⟨F,rfl,rfl⟩|⟨F,ao,⟨rfl,rfl,x⟩|⟨x,ap,⟨rfl,rfl,m⟩|⟨m,A,J,rfl,rfl⟩⟩⟩;all_goals
   rcases a with⟨C,b,rfl⟩|⟨C,ar,⟨y,b,rfl⟩|⟨y,ak,⟨E,rfl⟩|⟨E,au,⟨g,rfl⟩|⟨g,rfl⟩|⟨g,al,rfl⟩⟩,K,B,rfl,rfl⟩⟩;all_goals first|omega|skip
   all_goals
    try rw[b]
    try clear b
    clear c d;go_in;go_wp2_with (first|(go_at_call 149;refine iI (l _) ?_)|(go_at_call 196;refine iI (m _) ?_)|(go_at_call 270;first|(with_reducible refine iI (z _) ?_)|(with_reducible refine iI (A _) ?_)|(with_reducible refine iI (B _) ?_)));all_goals
     go_ret2;exact⟨rfl,rfl⟩
def xB(s:ByteArray)(b:s.size<=1100000)(p:Nat)(c:p<s.size)(w:V):W M 236 #[R s,O Q p] w (kL w (X #[O Q ((fc s p).1:Int),A0 (fc s p).2])):=by
 unfold fc;by_cases a:aA s p=48/\aA s (p+1)=120
 .rw[ae a];exact FK s b p a.1 a.2 w
 .rw[aa a];exact FL s b p c a w
def ur(s:ByteArray)(p:Nat):Nat->Nat
 |0=>0
 |n+1=>ur s p n*16+(jA (aA s (p+n))).toNat
def abx(s:ByteArray)(p:Nat):∀n,ur s p n<16 ^ n
 |0=>by simp[ur]
 |n+1=>by
  have h:=abx s p n;have b:=ru (aA s (p+n));have a:16 ^ (n+1)=16 ^ n*16:=Nat.pow_succ 16 n;unfold ur;omega
def ag3(s:ByteArray)(p n:Nat)(h:n<=15):ur s p n<1152921504606846976:=by
 have a:=abx s p n;have b:16 ^ n<=16 ^ 15:=Nat.pow_le_pow_right (by omega) h;have c:16 ^ 15=1152921504606846976:=by decide
 omega
def aby(s:ByteArray)(p n:Nat)(h:n<=16):ur s p n<18446744073709551616:=by
 have a:=abx s p n;have b:16 ^ n<=16 ^ 16:=Nat.pow_le_pow_right (by omega) h;have c:16 ^ 16=18446744073709551616:=by decide
 omega
def akl(c:Int)(a:97<=c)(b:c<=102):bits .or A5 c 32=c:=by
 rcases(show c=97\/c=98\/c=99\/c=100\/c=101\/c=102 by omega) with rfl|rfl|rfl|rfl|rfl|rfl<;>decide+kernel
def ag4(s:ByteArray)(j:Nat)(h:j<s.size):((s.data.toList.getD j 0).toNat:Int)=aA s j:=by
 have:s.data.toList[j]?=Y s[j]:=by
  rw[yv];exact yy h
 rw[List.getD,this];unfold aA;rw[pf h];rfl
def asr(t:ByteArray)(s:1<=t.size)(an:t.size<=16)(x:∀i,i<t.size->ou (aA t i)=U)(w:V):
  W M 288 #[R t,O Q 16,O Q 64] w λe w'=>e= .returned (X #[O .u64 (ur t 0 t.size:Int),A9])/\w'=Lib.bytesWorld w 5 t:=by
 have ao:t.toList.isEmpty=T:=by
  rw[<-decide_eq_emptyBytes];exact aE (λC=>by rw[C]at s;simp at s)
 have G:=Lib.run_convert_string_bytes (P:=M) w 9 22 5 t (u:= .string) underlying9 underlying22 underlying5;have j:∀f,f<t.size->(Lib.bytesWorld w 5 t).cell? ⟨w.heap.size,f,Z⟩=Y (O A5 (aA t f)):=λf y=>by rw[Lib.bytesWorld_cell w 5 t f y,ag4 t f y]
 obtain⟨r,v⟩:∃r,r=Lib.bytesWorld w 5 t:=⟨_,rfl⟩;rw[<-v]at G j⊢;clear v;have ar:IntKind.u64.wrap (IntKind.u64.wrap 18446744073709551616-1)=18446744073709551615:=by
  rw[IntKind.wrap_u64,IntKind.wrap_u64];decide
 obtain⟨n,o⟩:∃n:Int,(ur t 0 t.size:Int)=n:=⟨_,rfl⟩;rw[o];have q:=am o;clear o;go_in;go_wp2;go_loop [12,13,101] (λL K p=>∃(a:Nat) (b:Int),L= A0 T/\K= O .u64 b/\p= O Q a/\a<=t.size/\Hid (b=(ur t 0 a:Int))) (λ_ _ p=>t.size-(intOf p).toNat)
 case atStart=>exact⟨0,0,rfl,rfl,rfl,by omega,rfl⟩
 case round=>
  obtain⟨a,b,rfl,rfl,rfl,ap,d⟩:=hrel;by_cases z:a<t.size
  .have F:=j a z;have B:=(wd _).1 (x a z);have E:=ag3 t 0 a (by omega);have ad:0<=b:=by rw[d.out];omega
   have ak:b<1152921504606846976:=by rw[d.out];omega
   have g:Hid (∀h:Int,jA (aA t a)=h->0<=h->b*16+h=(ur t 0 (a+1):Int)):=λh H al=>by
    show _=((ur t 0 a*16+(jA (aA t (0+a))).toNat:Nat):Int);rw[gu,H,d.out];omega
   generalize aA t a=c at F B g;clear j E d x;rcases B with⟨k,l⟩|⟨k,l⟩
   .have m:Hid (b*16+(c-48)=(ur t 0 (a+1):Int)):=g.out (c-48) (by unfold jA;rw[ae ⟨k,l⟩]) (by omega);clear g;go_wp2;refine⟨⟨a+1,b*16+(c-48),rfl,(by first|rfl|(congr 1;omega)),(by first|rfl|(congr 1;omega)),by omega,m⟩,by simp[intOf];omega⟩
   .have m:Hid (b*16+(c-87)=(ur t 0 (a+1):Int)):=g.out (c-87) (by unfold jA;rw[aa (by omega),ae ⟨k,l⟩]) (by omega);clear g;have A:=akl c k l;have J:∀w,W M 298 #[O A5 c] w (kL w (O A5 c)):=λw=>by
     have:=Tryz.internal_strconv_lower c w;rw[A]at this;exact this
    clear A;go_wp2_with (go_at_call 298;refine iI (J _) ?_);refine⟨⟨a+1,b*16+(c-87),rfl,(by first|rfl|(congr 1;omega)),(by first|rfl|(congr 1;omega)),by omega,m⟩,by simp[intOf];omega⟩
  .obtain rfl:a=t.size:=by omega
   have I:b=n:=by rw[<-q.out,d.out]
   subst I;clear j d q;go_wp2;go_ret2;exact⟨rfl,rfl⟩
structure pH (w:V):Prop where
 syn:∃te pe,w.cell? ⟨10,0,Z⟩=Y (.iface te pe)
 rng:∃te pe,w.cell? ⟨11,0,Z⟩=Y (.iface te pe)
def qC{w':V}(h:Below B w w'){a:Addr}(b:a.block<B):w'.cell? a=w.cell? a:=by
 unfold World.cell?;rw[h.block _ b]
def IL{a:V}(h:Below B a w)(n:Nat):Below B a (w.drewN n):=⟨h.os,h.tape,h.output,h.size,h.block⟩
def pH.below{w':V}(h:pH w)(d:Below B w w')(c:w.heap.size<=B):pH w':=by
 obtain⟨⟨i,g,a⟩,⟨j,p2,b⟩⟩:=h;have e:=yA w _ a;have f:=yA w _ b;exact⟨⟨i,g,(qC d (iu e c)).trans a⟩,⟨j,p2,(qC d (iu f c)).trans b⟩⟩
def ut(s:ByteArray)(i:Nat):aA s i=match s.data.toList[i]? with|some b=>(b.toNat:Int)|none=> -1:=by
 cases h:s.data.toList[i]? with
 |some b=>exact((jl s i b).1 h).2
 |none=>
  refine dJ λa=>?_;have:s.data.toList[i]?=Y s[i]:=by rw[yv];exact yy a
  rw[this]at h;cases h
def GF(s:ByteArray)(n:Nat):ByteArray:=⟨(s.data.toList.drop n).toArray⟩
def uu(s:ByteArray)(n:Nat):(GF s n).size=s.size-n:=by
 show(s.data.toList.drop n).toArray.size=_;rw[jo,fJ,iG];rfl
def GG(s:ByteArray)(n i:Nat):aA (GF s n) i=aA s (n+i):=by
 rw[ut,ut];show(match (s.data.toList.drop n).toArray.toList[i]? with|some a=>(a.toNat:Int)|none=> -1)=_;rw[List.toList_toArray,rj]
def LB(s:ByteArray)(a p:Nat):∀n,ur (GF s a) p n=ur s (a+p) n
 |0=>rfl
 |n+1=>by
  unfold ur;rw[LB s a p n,GG,fi]
def ap9(t:ByteArray)(c:1<=t.size)(a:t.size<=16)(d:∀i,i<t.size->ou (aA t i)=U)(w:V):
  W M 272 #[R t,O Q 16,O Q 64] w (gy w (X #[O .u64 (ur t 0 t.size:Int),A9])):=by
 have b:=λw=>asr t c a d w;have f:=aby t 0 t.size a;generalize (ur t 0 t.size:Int)=g at b;go_in;go_wp2_with (go_at_call 288;refine(b _).mono ?_;rintro e h ⟨rfl,rfl⟩);go_ret2;exact⟨rfl,Lib.bytesWorld_below _ _ _⟩
def LD(s:ByteArray)(x a:UInt8):A2 s.data.toList [x,a]=decide (aA s 0=(x.toNat:Int)/\aA s 1=(a.toNat:Int)):=by
 have:=IK s 0 x a;rw[nB]at this;exact this
def GH(a:ByteArray)(f:aA a 0=48)(g:aA a 1=120)(q:3<=a.size)(p:a.size<=18)(h:∀i,2<=i->i<a.size->ou (aA a i)=U)(w:V):
  W M 237 #[R a] w (gy w (X #[O Q (wrap64 (ur a 2 (a.size-2):Int)),A0 U])):=by
 have l:A2 a.data.toList [48,120]=U:=by rw[LD];simp[f,g]
 have d:∀w,W M 271 #[R a,R ⟨#[48,120]⟩] w (kL w (X #[R (GF a 2),A0 U])):=λw=>by
  have:=Tryz.strings_CutPrefix a ⟨#[48,120]⟩ w;rw[show(⟨#[48,120]⟩:ByteArray).data.toList=[48,120] from rfl,Lib.trimPrefix,l]at this;exact this
 have b:=λw=>ap9 (GF a 2) (by rw[uu];omega) (by rw[uu];omega) (λi k=>by rw[GG];rw[uu]at k;exact h _ (by omega) (by omega)) w;rw[LB,uu]at b;have r:=aby a 2 (a.size-2) (by omega);simp only[iz]at b;obtain⟨c,m⟩:∃c:Int,(ur a 2 (a.size-2):Int)=c:=⟨_,rfl⟩;have s:0<=c:=by omega
 have t:c<18446744073709551616:=by omega
 rw[m]at b⊢;generalize GF a 2=o at d b;go_in;go_wp2_with (first|(go_at_call 271;refine(d _).mono ?_;rintro e n ⟨rfl,rfl⟩)|(go_at_call 272;refine(b _).mono ?_;rintro e n ⟨rfl,j⟩));go_quiet (fail)
 go_wp2;go_ret2;exact⟨rfl,IL j _⟩
def AE(a:ByteArray):Option Int:=match Lib.parseIntB 64 a.data.toList with| .ok b=>Y b|_=>Z
def GI(a:ByteArray)(r:a.size<=1100000)(o:¬(aA a 0=48/\aA a 1=120))(w:V)(k:pH w):
  W M 237 #[R a] w λe w'=>(∃x,e= .returned (X #[O Q x,A0 (AE a).isSome])/\∀v,AE a=Y v->x=v)/\be w w':=by
 have l:A2 a.data.toList [48,120]=T:=by rw[LD];simpa using o
 have h:∀w,W M 271 #[R a,R ⟨#[48,120]⟩] w (kL w (X #[R ⟨a.data.toList.toArray⟩,A0 T])):=λw=>by
  have:=Tryz.strings_CutPrefix a ⟨#[48,120]⟩ w;rw[show(⟨#[48,120]⟩:ByteArray).data.toList=[48,120] from rfl,Lib.trimPrefix,l]at this;exact this
 generalize (⟨a.data.toList.toArray⟩:ByteArray)=q at h;obtain⟨⟨y,s,n⟩,⟨z,t,m⟩⟩:=k;unfold AE;cases hp:Lib.parseIntB 64 a.data.toList with
 |ok v=>
  have g:=Tryz.strconv_ParseInt_10_at64_ok a (by omega) v hp w;have d:W M 273 #[R a,O Q 10,O Q 64] w (gy w (X #[O Q v,A9])):=g.mono λe w' c=>⟨c.1,by
   rcases c.2 with rfl|⟨u,rfl⟩
   .exact ah _ _
   .exact Lib.bytesWorld_below _ _ _⟩
  go_in;go_wp2_with (first|(go_at_call 271;refine(h _).mono ?_;rintro e w' ⟨rfl,rfl⟩)|(go_at_call 273;refine d.mono ?_;rintro e w' ⟨rfl,f⟩));go_quiet (fail)
  go_wp2;go_ret2;exact⟨⟨v,rfl,λ_ c=>bz c⟩,IL f _⟩
 | «syntax» =>
  have g:=Tryz.strconv_ParseInt_10_at64_syntax a (by omega) hp _ w n (.inr ⟨_,_,rfl⟩);have d:W M 273 #[R a,O Q 10,O Q 64] w λe w'=>∃b,e= .returned (X #[O Q 0,Br 313 (Ax (Y ⟨b,0,Z⟩))])/\be w w':=g.mono λe w' ⟨b,i,_,_,j⟩=>⟨b,i,j⟩;go_in;go_wp2_with (first|(go_at_call 271;refine(h _).mono ?_;rintro e w' ⟨rfl,rfl⟩)|(go_at_call 273;refine d.mono ?_;rintro e w' ⟨b,rfl,f⟩));go_quiet (fail)
  go_wp2;go_ret2;exact⟨⟨0,rfl,λ_ c=>by cases c⟩,IL f _⟩
 |range=>
  have g:=Tryz.strconv_ParseInt_10_at64_range a (by omega) hp _ w m (.inr ⟨_,_,rfl⟩);have d:W M 273 #[R a,O Q 10,O Q 64] w λe w'=>∃b,e= .returned (X #[O Q (Lib.intSat 64 a.data.toList),Br 313 (Ax (Y ⟨b,0,Z⟩))])/\be w w':=g.mono λe w' ⟨b,i,_,_,j⟩=>⟨b,i,j⟩;generalize Lib.intSat 64 a.data.toList=p at d;go_in;go_wp2_with (first|(go_at_call 271;refine(h _).mono ?_;rintro e w' ⟨rfl,rfl⟩)|(go_at_call 273;refine d.mono ?_;rintro e w' ⟨b,rfl,f⟩));go_quiet (fail)
  go_wp2;go_ret2;exact⟨⟨p,rfl,λ_ c=>by cases c⟩,IL f _⟩
def stp(a:Option Nat)(c:UInt8):Option Nat:=match a with|none=>Z|some b=>if b*10+(c.toNat-48)<=9223372036854775807 then Y (b*10+(c.toNat-48)) else Z
def LF:∀l:List UInt8,l.foldl stp Z=Z
 |[]=>rfl
 |c::r=>LF r
def anC:∀(l:List UInt8)(a:Nat),(∀c∈l,48<=c.toNat/\c.toNat<=57)->9223372036854775808<=a->S (2 ^ 64-1) a l= .range\/∃u,S (2 ^ 64-1) a l= .ok u/\9223372036854775808<=u
 |[],a,_,h=> .inr ⟨a,rfl,h⟩
 |c::r,a,d,h=>by
  have b:=d c (by simp);unfold S;rw[ae b,ae (by omega)];exact .inl rfl
def ag5:∀(l:List UInt8)(a:Nat),(∀c∈l,48<=c.toNat/\c.toNat<=57)->a<=9223372036854775807->(∀u,l.foldl stp (Y a)=Y u->S (2 ^ 64-1) a l= .ok u/\u<=9223372036854775807)/\(l.foldl stp (Y a)=Z->S (2 ^ 64-1) a l= .range\/∃u,S (2 ^ 64-1) a l= .ok u/\9223372036854775808<=u)
 |[],a,_,h=>by
  refine⟨λu b=>?_,λn=>by simp at n⟩;simp at b;subst b;exact⟨rfl,h⟩
 |c::r,a,j,h=>by
  have i:=j c (by simp);have k:∀d∈r,48<=d.toNat/\d.toNat<=57:=λd o=>j d (by simp[o]);rw[jd,show stp (Y a) c=if a*10+(c.toNat-48)<=9223372036854775807 then Y (a*10+(c.toNat-48)) else Z from rfl];by_cases e:a*10+(c.toNat-48)<=9223372036854775807
  .rw[ae e];have p:=ag5 r (a*10+(c.toNat-48)) k e;have m:S (2 ^ 64-1) a (c::r)=S (2 ^ 64-1) (a*10+(c.toNat-48)) r:=by
    rw[S,ae i,aa (by omega),aa (by omega)]
   rw[m];exact p
  .rw[aa e,LF r];refine⟨λu b=>(by cases b),λ_=>?_⟩;rw[S,ae i];by_cases f:1844674407370955162<=a
   .rw[ae f];exact .inl rfl
   .rw[aa f];by_cases g:2 ^ 64-1<a*10+(c.toNat-48)
    .rw[ae g];exact .inl rfl
    .rw[aa g];exact anC r _ k (by omega)
def ag6:∀(l:List UInt8)(b:Nat),(∃c∈l,¬(48<=c.toNat/\c.toNat<=57))->∀u,S (2 ^ 64-1) b l≠ .ok u
 |[],_,h,u=>by obtain⟨c,a,_⟩:=h;simp at a
 |c::f,b,h,u=>by
  rw[S];by_cases a:48<=c.toNat/\c.toNat<=57
  .rw[ae a];split
   .intro h;cases h
   .split
    .intro h;cases h
    .refine ag6 f _ ?_ u;obtain⟨e,hd,d⟩:=h;rcases List.mem_cons.1 hd with rfl|hd
     .exact absurd a d
     .exact⟨e,hd,d⟩
  .rw[aa a];intro h;cases h
def si(s:ByteArray)(p:Nat):Nat->Option Nat
 |0=>Y 0
 |n+1=>match si s p n with|none=>Z|some x=>if x*10+(aA s (p+n)-48).toNat<=9223372036854775807 then Y (x*10+(aA s (p+n)-48).toNat) else Z
def LG(s:ByteArray)(p:Nat):∀n,p+n<=s.size->si s p n=((s.data.toList.drop p).take n).foldl stp (Y 0)
 |0,_=>rfl
 |n+1,h=>by
  have a:p+n<s.data.toList.length:=by rw[iG];exact h
  have b:(s.data.toList.drop p)[n]?=Y (s.data.toList[p+n]):=by rw[rj];exact az a
  have d:aA s (p+n)=((s.data.toList[p+n]).toNat:Int):=((jl s (p+n) _).1 (az a)).2;rw[jc,b,List.foldl_append,<-LG s p n (by omega),si,d];simp only[Ia,jd,List.foldl_nil,stp];have c:(((s.data.toList[p+n]).toNat:Int)-48).toNat=(s.data.toList[p+n]).toNat-48:=by omega
  rw[c]
def anD(s:ByteArray)(p:Nat):∀n u,si s p n=Y u->u<=9223372036854775807
 |0,u,h=>by simp[si]at h;omega
 |n+1,u,h=>by
  unfold si at h;split at h
  .cases h
  .split at h
   .rename_i a;cases h;exact a
   .cases h
def ag7(a:ByteArray)(h:∀i,i<a.size->cJ (aA a i)=U):∀c∈a.data.toList,48<=c.toNat/\c.toNat<=57:=by
 intro c b;obtain⟨i,e,rfl⟩:=List.mem_iff_getElem.1 b;have:=(jl a i _).1 (az e);have d:=kF (h i this.1);rw[this.2]at d;omega
def LH(a:ByteArray)(b:cJ (aA a 0)=U):∃c r,a.data.toList=c::r/\48<=c.toNat/\c.toNat<=57:=by
 have e:=sf b;cases hq:a.data.toList with
 |nil=>
  have:a.data.toList.length=a.size:=by rw[iG];rfl
  rw[hq]at this;simp at this;omega
 |cons c r=>
  refine⟨c,r,rfl,?_⟩;have:=(jl a 0 c).1 (by rw[hq];rfl);have d:=kF b;rw[this.2]at d;omega
def adg(c:UInt8)(r:List UInt8)(b:48<=c.toNat)(d:c.toNat<=57):Lib.parseIntB 64 (c::r)=match S (2 ^ 64-1) 0 (c::r) with| .syntax=> .syntax| .range=> .range| .ok u=>if 9223372036854775808<=u then .range else .ok (u:Int):=by
 simp only[Lib.parseIntB,Lib.parseUintB];rw[aa (show ¬(c.toNat=43\/c.toNat=45) by omega),aa (show ¬(c::r=[]) by simp)];have a:¬c.toNat=45:=by omega
 cases S (2 ^ 64-1) 0 (c::r) with
 |ok u=>simp[a]
 | «syntax» =>rfl
 |range=>rfl
def LI(a:ByteArray)(k:0<a.size)(h:∀i,i<a.size->cJ (aA a i)=U):AE a=Option.map (λu:Nat=>(u:Int)) (si a 0 a.size):=by
 have⟨b,d,n,l,m⟩:=LH a (h 0 k);have e:=ag7 a h;have f:=LG a 0 a.size (by omega);rw[ga,cj (by rw[iG];exact af _)]at f;unfold AE;rw[f];rw[n]at e⊢;rw[adg b d l m];have g:=ag5 (b::d) 0 e (by omega);cases hx:(b::d).foldl stp (Y 0) with
 |some u=>
  have⟨j,p⟩:=g.1 u hx;rw[j];simp only[ug];rw[aa (by omega)]
 |none=>
  rcases g.2 hx with c|⟨u,c,o⟩
  .rw[c];rfl
  .rw[c];simp only[ae o];rfl
def zk(a:ByteArray)(g:cJ (aA a 0)=U)(i:Nat)(k:i<a.size)(l:cJ (aA a i)=T):AE a=Z:=by
 have⟨b,c,m,h,j⟩:=LH a g;have d:∃b∈a.data.toList,¬(48<=b.toNat/\b.toNat<=57):=by
  have e:i<a.data.toList.length:=by rw[iG];exact k
  refine⟨a.data.toList[i],iB e,?_⟩;have:=(jl a i _).1 (az e);have f:¬(48<=aA a i/\aA a i<=57):=by simpa [cJ] using l
  rw[this.2]at f;omega
 unfold AE;rw[m]at d⊢;rw[adg b c h j];have:=ag6 (b::c) 0 d;cases hx:S (2 ^ 64-1) 0 (b::c) with
 |ok n=>exact absurd hx (this n)
 | «syntax» =>rfl
 |range=>rfl
def qD(a:ByteArray):Bool:=decide (cJ (aA a 0)=U/\fc a 0=(a.size,U)/\¬(aA a 0=48/\aA a 1=120)/\AE a=Z)
def anE(s:ByteArray)(p:Nat)(h:p<=s.size):p<=hxE s p/\hxE s p<=s.size:=qi ou C5 s _ p h
def LJ{p e:Nat}(h:pv s p=(e,U)):p<e/\e<=p+16/\e=hxE s p/\∀i,p<=i->i<e->ou (aA s i)=U:=by
 unfold pv at h;split at h
 .cases h
 .rename_i d;have⟨b,a⟩:=yC h;subst b;exact⟨by simpa using a,by omega,rfl,λi c a=>we ou s _ p i c a⟩
def abz{a:ByteArray}(c:0<a.size):(a.toList==[])=T:=by
 have:a.toList.length=a.size:=by rw[ja];simp
 cases hs:a.toList with
 |nil=>rw[hs]at this;simp at this;omega
 |cons b d=>rfl
def LK{a:ByteArray}(b:¬0<a.size):(a.toList==[])=U:=by
 have:a.toList.length=a.size:=by rw[ja];simp
 have:a.toList=[]:=List.length_eq_zero_iff.1 (by omega);rw[this];rfl
def GJ{b:Bool}(h:cJ c=b)(w:V):W M 196 #[O A5 c] w (kL w (A0 b)):=(lD c w).mono λd e a=>⟨by rw[a.1,h],a.2.symm⟩
def abA(s:ByteArray)(b:s.size<=1100000)(a:0<s.size)(w:V):W M 236 #[R s,O Q 0] w (kL w (X #[O Q ((fc s 0).1:Int),A0 (fc s 0).2])):=xB s b 0 a w
def abB(s:ByteArray)(a:Nat)(h:a<=s.size):a<=(qa s a).1/\(qa s a).1<=s.size:=by
 unfold qa;split
 .rename_i c;have d:=co c;have b:nA2 s a<=s.size/\a<nA2 s a:=by
   unfold nA2;split
   .rename_i hs;rcases hs with hs|hs
    .have:=co hs;omega
    .have:=co hs;omega
   .omega
  have:=uq s (nA2 s a) b.1;simp only;omega
 .exact⟨af _,h⟩
def Eb(s:ByteArray)(p:Nat)(h:p<s.size):p<nA0 s p/\nA0 s p<=s.size:=by
 unfold nA0;split
 .omega
 .have:=uq s (p+1) (by omega);omega
def Ec(s:ByteArray)(a:Nat)(h:a<=s.size):a<=nA1 s a/\nA1 s a<=s.size:=by
 unfold nA1;split
 .rename_i b;have:=uq s (a+1) (by have:=sf b.2;omega);omega
 .omega
def akm(s:ByteArray)(p:Nat)(h:p<=s.size):p<=(pv s p).1/\(pv s p).1<=s.size:=by
 have:=anE s p h;unfold pv;split
 .simp only;omega
 .exact this
def xd(s:ByteArray)(p:Nat)(h:p<s.size):p<(fc s p).1/\(fc s p).1<=s.size:=by
 unfold fc;split
 .rename_i c;have:=co c.2;have:=akm s (p+2) (by omega);omega
 .have a:=Eb s p h;have b:=Ec s _ a.2;have d:=abB s _ b.2;omega
def LL(a:ByteArray)(q:a.size<=1100000)(w:V)(v:pH w):W M 219 #[R a] w (gy w (A0 (qD a))):=by
 by_cases e:0<a.size
 .have z:=abz e;have h:∀w,(Instr.index 9 (R a) (O Q 0)).run M w= .ok (O A5 (aA a 0)) w:=λw=>fL e w;by_cases n:cJ (aA a 0)=U
  .have c:=λw=>GJ n w;have d:=λw=>abA a q e w;have s:=(xd a 0 e).2;by_cases g:(fc a 0).2=U
   .by_cases o:(fc a 0).1=a.size
    .have l:fc a 0=(a.size,U):=Prod.ext o g;rw[l]at d;by_cases f:aA a 0=48/\aA a 1=120
     .have b:qD a=T:=by unfold qD;simp[f]
      rw[b];have x:pv a 2=(a.size,U):=by rw[<-l];unfold fc;rw[ae f]
      have⟨E,F,G,u⟩:=LJ x;have i:=λw=>GH a f.1 f.2 (by omega) (by omega) u w;generalize wrap64 (ur a 2 (a.size-2):Int)=H at i;generalize aA a 0=j at h c;go_in;go_wp2_with (first|(go_at_call 196;refine iI (c _) ?_)|(go_at_call 236;refine iI (d _) ?_)|(go_at_call 237;refine(i _).mono ?_;rintro t B ⟨rfl,m⟩));go_ret;exact⟨rfl,m⟩
     .have i:=GI a q f w v;have b:qD a=!(AE a).isSome:=by
       unfold qD;cases hdc:AE a<;>simp[n,l,f]
      rw[b];generalize (AE a).isSome=C at i;generalize aA a 0=j at h c;go_in;go_wp2_with (first|(go_at_call 196;refine iI (c _) ?_)|(go_at_call 236;refine iI (d _) ?_)|(go_at_call 237;refine i.mono ?_;rintro t B ⟨⟨I,rfl,_⟩,m⟩));go_ret;exact⟨rfl,m⟩
    .have b:qD a=T:=by unfold qD;rw[ub];rintro ⟨_,k,_⟩;rw[k]at o;exact o rfl
     rw[b];have y:((fc a 0).1:Int)<(a.size:Int):=by omega
     rw[g]at d;generalize (fc a 0).1=r at d y;generalize aA a 0=j at h c;go_in;go_wp2_with (first|(go_at_call 196;refine iI (c _) ?_)|(go_at_call 236;refine iI (d _) ?_));go_ret;exact⟨rfl,ah _ _⟩
   .have A:(fc a 0).2=T:=by simpa using g
    have b:qD a=T:=by unfold qD;rw[ub];rintro ⟨_,k,_⟩;rw[k]at g;exact g rfl
    rw[b];rw[A]at d;generalize (fc a 0).1=r at d s;generalize aA a 0=j at h c;go_in;go_wp2_with (first|(go_at_call 196;refine iI (c _) ?_)|(go_at_call 236;refine iI (d _) ?_));go_ret;exact⟨rfl,ah _ _⟩
  .have p:cJ (aA a 0)=T:=by simpa using n
   have c:=λw=>GJ p w;have b:qD a=T:=by unfold qD;simp[p]
   rw[b];generalize aA a 0=j at h c;go_in;go_wp2_with (first|(go_at_call 196;refine iI (c _) ?_));go_ret;exact⟨rfl,ah _ _⟩
 .have z:=LK e;have b:qD a=T:=by unfold qD;rw[dJ e];simp[zi]
  rw[b];go_in;go_wp2;go_ret;exact⟨rfl,ah _ _⟩
def iq{b:Bool}(h:cJ c=b)(w:V):W M 189 #[O A5 c] w (kL w (A0 b)):=(Bn c w).mono λd e a=>⟨by rw[a.1,h],a.2.symm⟩
def lI(s:ByteArray)(d:s.size<=1100000)(a:Int)(i:Nat)(c:a=(i:Int))(w:V):W M 266 #[R s,O Q a] w (kL w (O A5 (lk s i))):=by
 subst c;exact(Dv s d i w).mono λe f b=>⟨b.1,b.2.symm⟩
def afg(c:Int)(g:0<=c)(h:c<256)(w:V):W M 268 #[O A5 c] w (kL w (O Q (jA c))):=by
 unfold jA;by_cases a:cJ c=U
 .have b:=λw=>iq a w;have d:=kF a;rw[ae d];clear a;go_in;go_wp2_with (first|(go_at_call 189;refine iI (b _) ?_));go_ret;exact⟨rfl,rfl⟩
 .have e:cJ c=T:=by simpa using a
  have b:=λw=>iq e w;have d:¬(48<=c/\c<=57):=by simpa [cJ] using e
  rw[aa d];clear a e d;rcases(show(97<=c/\c<=102)\/¬97<=c\/(97<=c/\¬c<=102) by omega) with⟨g1,f⟩|g1|⟨g1,f⟩
  .rw[ae ⟨g1,f⟩];go_in;go_wp2_with (first|(go_at_call 189;refine iI (b _) ?_));go_ret;exact⟨by simp;omega,rfl⟩
  .rw[aa (by omega)];go_in;go_wp2_with (first|(go_at_call 189;refine iI (b _) ?_));go_ret;exact⟨rfl,rfl⟩
  .rw[aa (by omega)];go_in;go_wp2_with (first|(go_at_call 189;refine iI (b _) ?_));go_ret;exact⟨rfl,rfl⟩
def akn(s:ByteArray)(i:Nat):jA (lk s i)=jA (aA s i):=by
 unfold lk;split
 .rfl
 .rename_i a;rw[dJ a];decide
def ag8(h:i<s.size):lk s i=aA s i:=by unfold lk;rw[ae h]
def hxA(s:ByteArray)(p:Nat):Value:=if(pv s (p+2)).2=U then B0 #[O Q 2,O Q p,O Q ((pv s (p+2)).1:Int),O Q 0,O Q (wrap64 (ur s (p+2) ((pv s (p+2)).1-(p+2)):Int)),R ⟨#[]⟩] else B0 #[O Q 2,O Q p,O Q 0,O Q 0,O Q 0,R ⟨#[]⟩]
def hxF(s:ByteArray)(p:Nat):Int:=if(pv s (p+2)).2=U then -1 else((pv s (p+2)).1:Int)
def L8(s:ByteArray)(a7:s.size<=1100000)(p:Nat)(a9:p+2<=s.size)(w:V):W M 267 #[R s,B0 #[O Q 2,O Q p,O Q 0,O Q 0,O Q 0,R ⟨#[]⟩]] w (gy w (X #[hxA s p,O Q (hxF s p)])):=by
 have⟨bf,k⟩:=aJ (hxA s p);have⟨ap,hF⟩:=aJ (hxF s p);rw[k,hF];unfold hxA at k;unfold hxF at hF;unfold pv at k hF;have⟨G,q⟩:=aJ (hxE s (p+2));rw[q]at k hF;unfold hxE at q;have t:=am q;have l:=am k;have m:=am hF;clear q k hF;go_in;go_wp2_with fail;generalize ak:(w.alloc _).alloc _=u;obtain⟨b,H,x, -⟩:=If ak;have a4:gg w.heap.size u 2 p 0 0 0 ⟨#[]⟩:=b;have al:gg (w.heap.size+1) u 0 0 0 0 0 ⟨#[]⟩:=H;clear ak b H;have bo:w.heap.size+1<u.heap.size:=ai al;have⟨bp,br,bs,bt,bv,bw,bx⟩:=db a4;have⟨z0,z,A,B,C,E,bA⟩:=db al;go_loop [6,7] (λy bd=>∃(a g:Nat) (b:Int),p+2<=a/\a<=p+18/\a<=s.size/\s.size<a+g/\y= O Q a/\bd= O .u64 b/\Hid (jD ou s g a=G)/\Hid (b=(ur s (p+2) (a-(p+2)):Int))) (λy _=>s.size-(intOf y).toNat)
 case atStart=>exact⟨p+2,s.size+1,0,by omega,by omega,a9,by omega,by simp,rfl,t,by show(0:Int)=_;rw[fH];rfl⟩
 case round=>
  obtain⟨a,g,b,bn,bl,bk,bj,rfl,rfl,r,f⟩:=hrel;obtain⟨g,rfl⟩:∃a3,g=a3+1:=⟨g-1,by omega⟩;have i:=r.out;unfold jD at i;have j:=λw=>lI s a7 (a:Int) a rfl w;have e:=λw=>afg (lk s a) (amo s a).1 (amo s a).2 w;rw[akn]at e;by_cases h:ou (aA s a)=U
  .have an:a<s.size:=abv C5 h;have bc:=λw=>fL an w;rw[ag8 an]at j e;rw[ae h]at i;have a5:=(qi ou C5 s g (a+1) (by omega)).1;rw[i]at a5;have ar:=am i;have ba:0<=jA (aA s a):=by simpa [ou] using h
   have bb:=ru (aA s a);have ad:a≠p+18->ur s (p+2) (a-(p+2))<1152921504606846976:=λJ=>ag3 s (p+2) _ (by omega);have F:Hid (b*16+jA (aA s a)=(ur s (p+2) (a+1-(p+2)):Int)):=by
    show _=_;rw[show a+1-(p+2)=(a-(p+2))+1 by omega,ur,show p+2+(a-(p+2))=a by omega,f.out];omega
   have au:0<=b:=by rw[f.out];omega
   have o:a≠p+18->b<1152921504606846976:=λJ=>by have:=ad J;rw[f.out];omega
   generalize jA (aA s a)=I at e ba bb F;generalize aA s a=av at j e bc;clear i h ad;by_cases K:a=p+18
   .have c:=l.out;have d:=m.out;simp only[ae (show p+2+16<G by omega)]at c d;simp at c d;subst c;have a6:ap=(a:Int):=by omega
    clear d;subst a6;have ax:((a:Int)-(p:Int)==18)=U:=by rw[mj];omega
    clear l m K o;go_wp2_with (first|(go_at_call 266;refine iI (j _) ?_)|(go_at_call 268;refine iI (e _) ?_));refine bH (v:= X #[B0 #[O Q 2,O Q p,O Q 0,O Q 0,O Q 0,R ⟨#[]⟩],O Q (a:Int)]) (by simp[results,results267,go_sem,z0,z,A,B,C,E]) rfl ⟨rfl,?_⟩
    iterate 6 refine ll ?_ (by simp) _
    exact x
   .have ax:((a:Int)-(p:Int)==18)=T:=by rw[eJ];omega
    have bh:=o K;clear o;go_wp2_with (first|(go_at_call 266;refine iI (j _) ?_)|(go_at_call 268;refine iI (e _) ?_));go_round
    case rel=>exact⟨a+1,g,b*16+I,by omega,by omega,by omega,by omega,by go_num,by first|rfl|(congr 1;omega),ar,F⟩
    case measure=>simp[intOf];omega
  .have ao:jA (aA s a)<0:=by
    have:¬0<=jA (aA s a):=by simpa [ou] using h
    omega
   rw[aa h]at i;subst i;have a8:¬(0:Int)<=jA (aA s a):=by omega
   have au:0<=b:=by rw[f.out];omega
   have o:b<18446744073709551616:=by rw[f.out];have:=aby s (p+2) (a-(p+2)) (by omega);omega
   generalize jA (aA s a)=I at e a8;generalize lk s a=av at j e;have c:=l.out;have d:=m.out;simp only[aa (show ¬p+2+16<a by omega)]at c d;by_cases L:a=p+2
   .have n:decide (p+2<a)=T:=by rw[ub];omega
    simp only[n]at c d;simp at c d;subst c d;have a2:((a:Int)==(p:Int)+2)=U:=by rw[mj];omega
    clear l m h ao L n f r t;go_wp2_with (first|(go_at_call 266;refine iI (j _) ?_)|(go_at_call 268;refine iI (e _) ?_));refine bH (v:= X #[B0 #[O Q 2,O Q p,O Q 0,O Q 0,O Q 0,R ⟨#[]⟩],O Q (a:Int)]) (by simp[results,results267,go_sem,z0,z,A,B,C,E]) rfl ⟨rfl,?_⟩
    iterate 6 refine ll ?_ (by simp) _
    exact x
   .have n:decide (p+2<a)=U:=by rw[Ct];omega
    simp only[n]at c d;simp only[kJ]at c d;rw[<-f.out]at c;subst c d;have a2:((a:Int)==(p:Int)+2)=T:=by rw[eJ];omega
    clear l m h ao L n f r t;go_wp2_with (first|(go_at_call 266;refine iI (j _) ?_)|(go_at_call 268;refine iI (e _) ?_));refine bH (v:= X #[B0 #[O Q 2,O Q p,O Q (a:Int),O Q 0,O Q (wrap64 b),R ⟨#[]⟩],O Q (-1)]) (by simp[results,results267,go_sem,z0,z,A,B,C,E]) rfl ⟨rfl,?_⟩
    iterate 8 refine ll ?_ (by simp) _
    exact x
def dw(b:Nat)(w:V):W M 330 #[Ax (Y ⟨b,0,Z⟩)] w (kL w (Ax (Y ⟨b,0,Z⟩))):=by
 go_in;go_wp2;go_ret;exact⟨rfl,rfl⟩
def py(N:Nd):Nat->Nd
 |0=>⟨N.k,N.f,N.t,N.l,0,0,⟨#[]⟩,N.nm,[]⟩
 |1=>⟨N.k,N.f,N.t,N.l,0,N.n,⟨#[]⟩,[],[]⟩
 |2=>⟨N.k,N.f,N.t,N.l,0,N.n,⟨#[]⟩,[],[]⟩
 |3=>⟨N.k,N.f,N.t,N.l,0,0,N.x,[],[]⟩
 |4=>⟨N.k,N.f,N.t,N.l,N.op,0,⟨#[]⟩,[],[]⟩
 |5=>⟨N.k,N.f,N.t,N.l,(if N.op=1 then 1 else 0),0,⟨#[]⟩,N.nm,[]⟩
 |_=>⟨N.k,N.f,N.t,N.l,0,0,⟨#[]⟩,[],[]⟩
def vf(a:Value):Nat->Value
 |0=>a
 |5=>a
 |_=> .slice Z 0 0
def amv(b:Nat)(w:V)(d:B1)(h:d=198\/d=150\/d=159\/d=162\/d=169\/d=201\/d=129):(method 438 d (Ax (Y ⟨b,0,Z⟩)) "loop.example/warp/impl.head").run M w= .ok (330,Ax (Y ⟨b,0,Z⟩)) w:=by rcases h with rfl|rfl|rfl|rfl|rfl|rfl|rfl<;>kernel_rfl
def anF(k:Nat):lH k=198\/lH k=150\/lH k=159\/lH k=162\/lH k=169\/lH k=201\/lH k=129:=by
 unfold lH;split<;>decide
def tr(k b:Nat)(w:V):(method 438 (lH k) (Ax (Y ⟨b,0,Z⟩)) "loop.example/warp/impl.head").run M w= .ok (330,Ax (Y ⟨b,0,Z⟩)) w:=amv b w _ (anF k)
def asT(b:Nat)(w:V)(d:B1)(h:d=198\/d=150\/d=159\/d=162\/d=169\/d=201\/d=129):(Instr.typeAssert (Br d (Ax (Y ⟨b,0,Z⟩))) 44 d U).run M w= .ok (X #[Ax (Y ⟨b,0,Z⟩),A0 U]) w:=by rcases h with rfl|rfl|rfl|rfl|rfl|rfl|rfl<;>kernel_rfl
def asF(b:Nat)(w:V)(d e:B1)(h:d=198\/d=150\/d=159\/d=162\/d=169\/d=201\/d=129)(g:e=198\/e=150\/e=159\/e=162\/e=169\/e=201\/e=129)(a:d≠e):(Instr.typeAssert (Br d (Ax (Y ⟨b,0,Z⟩))) 44 e U).run M w= .ok (X #[Ax Z,A0 T]) w:=by
 rcases h with rfl|rfl|rfl|rfl|rfl|rfl|rfl;all_goals
  rcases g with rfl|rfl|rfl|rfl|rfl|rfl|rfl;all_goals first|exact absurd rfl a|kernel_rfl
