import Derived.Test.YtbkolnpplhbdmaaGreatDoorHPl02
import Derived.Test.YtbkolnpplhbdmaaGreatDoorHPl03
set_option linter.all false
set_option maxRecDepth 100000
set_option maxHeartbeats 25600000
open Go.Proofs.Tryz
open Go.Value renaming int->M,string->Q,tuple->W,bool->Y,nilIface->Ax,agg->A0
open Go.Proofs.Tryz renaming prog->N
open Go.IntKind renaming i64->O,u8->Ak
open Go.Lib renaming parseUintM->R,hasPrefix->Z
open Bool renaming false->S,true->T
open Go renaming Calls->U,World->V
open Option renaming some->X,none->Ad
namespace Go.Proofs.YtbkolnpplhbdmaaGreatDoor
open Go.RowKit Go.Maps Go.WideMaps
variable{B i:Nat}{c:Int}{s:ByteArray}{w:World}
def nA(c:Int):Bool:=decide (0<=ic c)
def uw(c:Int):nA c=T↔(48<=c/\c<=57)\/(97<=c/\c<=102):=by
 unfold nA ic;rw[py];split
 .omega
 .split<;>omega
def Dq(c:Int)(w:V):U N 237 #[M Ak c] w λe b=>e= .returned (Y (nA c))/\w=b:=by
 have a:=λw=>lp c w;by_cases d:cm c=T
 .rw[show nA c=T by rw[uw];have:=jG d;omega];rw[d]at a;go_in;go_wp2_with (first|(go_at_call 101;refine(a _).mono ?_;rintro e b ⟨rfl,rfl⟩));go_ret;exact⟨rfl,rfl⟩
 .have f:cm c=S:=by simpa using d
  rw[f]at a;have k:¬(48<=c/\c<=57):=by simpa [cm] using f
  rcases(show(97<=c/\c<=102)\/c<97\/(97<=c/\102<c) by omega) with⟨i,j⟩|g|⟨i,j⟩
  .rw[show nA c=T by rw[uw];omega];go_in;go_wp2_with (first|(go_at_call 101;refine(a _).mono ?_;rintro e b ⟨rfl,rfl⟩));go_ret;exact⟨rfl,rfl⟩
  .rw[show nA c=S by rw[<-acg,uw];omega];have h:¬97<=c:=by omega
   go_in;go_wp2_with (first|(go_at_call 101;refine(a _).mono ?_;rintro e b ⟨rfl,rfl⟩));go_ret;exact⟨rfl,rfl⟩
  .rw[show nA c=S by rw[<-acg,uw];omega];have h:¬c<=102:=by omega
   go_in;go_wp2_with (first|(go_at_call 101;refine(a _).mono ?_;rintro e b ⟨rfl,rfl⟩));go_ret;exact⟨by simp;omega,rfl⟩
def ix(q:Int->Bool)(s:ByteArray):Nat->Nat->Nat
 |0,p=>p
 |f+1,p=>if q (aq s p)=T then ix q s f (p+1) else p
def aax{q:Int->Bool}(a:q (-1)=S){p:Nat}(h:q (aq s p)=T):p<s.size:=by
 rcases bg p s.size with h1|h1
 .exact h1
 .rw[dy,a]at h;cases h
def pH(q:Int->Bool)(a:q (-1)=S)(s:ByteArray):∀(f p:Nat),p<=s.size->p<=ix q s f p/\ix q s f p<=s.size
 |0,p,h=>⟨ag _,h⟩
 |f+1,p,h=>by
  unfold ix;split
  .rename_i b;have c:=aax a b;have:=pH q a s f (p+1) (by omega);omega
  .exact⟨ag _,h⟩
def ql(q:Int->Bool)(s:ByteArray):∀(f p i:Nat),p<=i->i<ix q s f p->q (aq s i)=T
 |0,p,i,b,a=>by simp[ix]at a;omega
 |f+1,p,i,b,a=>by
  unfold ix at a;split at a
  .rename_i c;rcases ie b with rfl|h3
   .exact c
   .exact ql q s f (p+1) i h3 a
  .omega
def J7(q:Int->Bool)(a:q (-1)=S)(s:ByteArray):∀(f p:Nat),s.size<p+f->q (aq s (ix q s f p))=S
 |0,p,h=>by
  unfold ix;rw[dy,a]
 |f+1,p,h=>by
  unfold ix;split
  .exact J7 q a s f (p+1) (by omega)
  .rename_i b;simpa using b
def yz:cm (-1)=S:=by decide
def CE:nA (-1)=S:=by decide
def rL(s:ByteArray)(p:Nat):Nat:=ix cm s (s.size+1) p
def hxE(s:ByteArray)(p:Nat):Nat:=ix nA s (s.size+1) p
def wH(s:ByteArray)(y:s.size<=1100000)(p:Nat)(r:p<=s.size)(w:V):U N 215 #[Q s,M O p] w (jt w (M O (rL s p))):=by
 unfold rL;have⟨n,j⟩:=aC (ix cm s (s.size+1) p);rw[j];have m:=am j;go_in;go_wp21
 go_loop [1] (λh=>∃(b c:Nat),b<=s.size/\s.size<b+c/\h= M O b/\Hid (ix cm s c b=n)) (λh=>s.size-(intOf h).toNat)
 case atStart=>exact⟨p,s.size+1,r,by omega,rfl,m⟩
 case round=>
  obtain⟨b,c,x,v,rfl,l⟩:=hrel;obtain⟨c,rfl⟩:∃q,c=q+1:=⟨c-1,by omega⟩;have a:=l.out;unfold ix at a;by_cases k:b<s.size
  .have t:=λw=>dG k w;generalize aq s b=g at t a;have f:=λw=>lp g w;by_cases d:cm g=T
   .rw[ab d]at a;have e:=am a;rw[d]at f;clear d;go_wp2_with (go_at_call 101;refine(f _).mono ?_;rintro o u ⟨rfl,rfl⟩);go_round
    case rel=>exact⟨b+1,c,by omega,by omega,by go_num,e⟩
    case measure=>simp[intOf];omega
   .have i:cm g=S:=by simpa using d
    rw[aa d]at a;have e:=am a;rw[i]at f;clear d i a;go_wp2_with (go_at_call 101;refine(f _).mono ?_;rintro o u ⟨rfl,rfl⟩);go_ret;exact⟨by rw[<-e.out];rfl,rfl⟩
  .rw[aa (by rw[dy k];decide)]at a;have e:=am a;go_wp2;go_ret;exact⟨by rw[<-e.out];rfl,rfl⟩
def nB(s:ByteArray)(q:Nat):Nat×Bool:=if q+16<hxE s q then(q+16,S) else(hxE s q,decide (q<hxE s q))
def aay(s:ByteArray)(I:s.size<=1100000)(p:Nat)(C:p<=s.size)(w:V):U N 214 #[Q s,M O p] w (jt w (W #[M O ((nB s p).1:Int),Y (nB s p).2])):=by
 unfold nB hxE;have⟨h,q⟩:=aC (ix nA s (s.size+1) p);rw[q];have v:=am q;obtain⟨k,l,o⟩:∃k l,(if p+16<h then(p+16,S) else(h,decide (p<h)))=(k,l):=⟨_,_,rfl⟩;rw[o];have g:=am o;go_in;go_wp21
 go_loop [6] (λj=>∃(a d:Nat),p<=a/\a<=p+16/\a<=s.size/\s.size<a+d/\j= M O a/\Hid (ix nA s d a=h)) (λj=>s.size-(intOf j).toNat)
 case atStart=>exact⟨p,s.size+1,ag _,by omega,C,by omega,rfl,v⟩
 case round=>
  obtain⟨a,d,J,H,G,F,rfl,u⟩:=hrel;obtain⟨d,rfl⟩:∃z,d=z+1:=⟨d-1,by omega⟩;have c:=u.out;unfold ix at c;by_cases r:a<s.size
  .have E:=λw=>dG r w;generalize aq s a=i at E c;have f:=λw=>Dq i w;by_cases e:nA i=T
   .rw[ab e]at c;have B:=(pH nA CE s d (a+1) (by omega)).1;rw[c]at B;have x:=am c;rw[e]at f;clear e;by_cases n:a=p+16
    .have b:=g.out;rw[ab (by omega),<-n]at b;obtain⟨rfl,rfl⟩:=yk b;have y:((a:Int)-(p:Int)==16)=T:=by rw[jD];omega
     clear b g n;go_wp2_with (go_at_call 237;refine(f _).mono ?_;rintro m t ⟨rfl,rfl⟩);go_ret2;exact⟨rfl,rfl⟩
    .have y:((a:Int)-(p:Int)==16)=S:=by rw[du];omega
     go_wp2_with (go_at_call 237;refine(f _).mono ?_;rintro m t ⟨rfl,rfl⟩);go_round
     case rel=>exact⟨a+1,d,by omega,by omega,by omega,by omega,by go_num,x⟩
     case measure=>simp[intOf];omega
   .have A:nA i=S:=by simpa using e
    rw[aa e]at c;subst c;rw[A]at f;have b:=g.out;rw[aa (by omega)]at b;obtain⟨rfl,rfl⟩:=yk b;go_wp2_with (go_at_call 237;refine(f _).mono ?_;rintro m t ⟨rfl,rfl⟩);go_ret2;exact⟨by simp,rfl⟩
  .rw[aa (by rw[dy r];decide)]at c;subst c;have b:=g.out;rw[aa (by omega)]at b;obtain⟨rfl,rfl⟩:=yk b;go_wp2;go_ret2;exact⟨by simp,rfl⟩
def iz(s:ByteArray)(i:Nat)(b:UInt8):s.data.toList[i]?=X b↔i<s.size/\aq s i=(b.toNat:Int):=by
 unfold aq;by_cases a:i<s.size
 .rw[ni a];have d:s.data.toList[i]?=X s[i]:=by
   rw[vy];exact Ci a
  rw[d];constructor
  .intro c;injection c with c;exact⟨a,by rw[c]⟩
  .intro ⟨_,c⟩;congr 1;exact UInt8.toNat_inj.1 (by omega)
 .have d:s.data.toList[i]?=Ad:=by
   rw[vy];exact yc (Nat.not_lt.1 a)
  rw[d];simp[a]
def Hv(s:ByteArray)(p:Nat)(x b:UInt8):Z (s.extract p s.size).data.toList [x,b]=decide (aq s p=(x.toNat:Int)/\aq s (p+1)=(b.toNat:Int)):=by
 have o:(s.extract p s.size).data.toList=s.data.toList.drop p:=by
  rw[<-gH,Lib.extract_toList,dl];rw[ir,fK];exact ag _
 rw[o];unfold Z;rw[vE,yd,py];constructor
 .rintro ⟨t,h⟩;have d:(s.data.toList.drop p)[0]?=X x:=by rw[<-h];rfl
  have e:(s.data.toList.drop p)[1]?=X b:=by rw[<-h];rfl
  rw[pE]at d e;exact⟨((iz s _ x).1 d).2,((iz s _ b).1 e).2⟩
 .rintro ⟨d,e⟩;have f:∀a (c:UInt8),aq s a=(c.toNat:Int)->s.data.toList[a]?=X c:=λa c g=>by
   refine(iz s a c).2 ⟨?_,g⟩;rcases bg a s.size with h2|h2
   .exact h2
   .rw[dy]at g;omega
  have q:=f p x d;have r:=f (p+1) b e;refine⟨s.data.toList.drop (p+2),?_⟩;have i:=List.getElem?_eq_some_iff.1 q;have j:=List.getElem?_eq_some_iff.1 r;obtain⟨k,m⟩:=i;obtain⟨l,n⟩:=j;rw[kL k,kL l,m,n];rfl
def nA0(s:ByteArray)(p:Nat):Nat:=if aq s p=48 then p+1 else rL s (p+1)
def nA1(s:ByteArray)(a:Nat):Nat:=if aq s a=46/\cm (aq s (a+1))=T then rL s (a+1) else a
def nA2(s:ByteArray)(a:Nat):Nat:=if aq s (a+1)=43\/aq s (a+1)=45 then a+1+1 else a+1
def oe(s:ByteArray)(a:Nat):Nat×Bool:=if aq s a=101 then(rL s (nA2 s a),decide (nA2 s a<rL s (nA2 s a))) else(a,T)
def dF(s:ByteArray)(p:Nat):Nat×Bool:=if aq s p=48/\aq s (p+1)=120 then nB s (p+2) else oe s (nA1 s (nA0 s p))
def td(s:ByteArray)(p:Nat)(h:p<=s.size):p<=rL s p/\rL s p<=s.size:=pH cm yz s _ p h
def wI(s:ByteArray)(c:s.size<=1100000)(a:Int)(p:Nat)(b:a=(p:Int))(d:p<=s.size)(w:V):U N 215 #[Q s,M O a] w (jt w (M O (rL s p))):=by
 subst b;exact wH s c p d w
def yC(a:Int)(i:Nat)(b:a=(i:Int))(h:i<s.size)(w:V):(Instr.index 9 (Q s) (M O a)).run N w= .ok (M Ak (aq s i)) w:=by
 subst b;exact dG h w
def aH(h:aq s i=c)(a:0<=c:=by omega):i<s.size:=by
 rcases bg i s.size with h2|h2
 .exact h2
 .rw[dy]at h;omega
def rA(h:cm (aq s i)=T):i<s.size:=aax yz h
def Dr(s:ByteArray)(p:Nat)(w:V):U N 51 #[Q (s.extract p s.size),Q ⟨#[48,120]⟩] w (jt w (Y (decide (aq s p=48/\aq s (p+1)=120)))):=by
 have a:=Tryz.strings_HasPrefix (s.extract p s.size) ⟨#[48,120]⟩ w;rw[show(⟨#[48,120]⟩:ByteArray).data.toList=[48,120] from rfl,Hv]at a;exact a
def Fy(s:ByteArray)(f:s.size<=1100000)(p:Nat)(c:aq s p=48)(a:aq s (p+1)=120)(w:V):U N 174 #[Q s,M O p] w (jt w (W #[M O ((nB s (p+2)).1:Int),Y (nB s (p+2)).2])):=by
 have i:=aH a;have d:=λw=>Dr s p w;rw[show decide (aq s p=48/\aq s (p+1)=120)=T by simp[c,a]]at d;have b:∀w,U N 214 #[Q s,M O ((p:Int)+2)] w (jt w (W #[M O ((nB s (p+2)).1:Int),Y (nB s (p+2)).2])):=λw=>aay s f (p+2) (by omega) w;generalize nB s (p+2)=e at b;obtain⟨g,h⟩:=e;simp only at b⊢;clear c a;go_in;go_wp2_with (first|(go_at_call 51;refine fC (d _) ?_)|(go_at_call 214;refine fC (b _) ?_));go_ret2;exact⟨rfl,rfl⟩
abbrev IX(s:ByteArray)(a c:Int):Prop:=∀w,(Instr.index 9 (Q s) (M O a)).run N w= .ok (M Ak c) w
abbrev DE(s:ByteArray)(a:Int)(B:Nat):Prop:=∀w,U N 215 #[Q s,M O a] w (jt w (M O (B:Int)))
abbrev DQ(c:Int)(b:Bool):Prop:=∀w,U N 101 #[M Ak c] w (jt w (Y b))
def ask(s:ByteArray)(c:s.size<=1100000)(p:Nat)(e:p<s.size):∃a:Int,a=(nA0 s p:Nat)/\nA0 s p<=s.size/\((aq s p=48/\a=(p:Int)+1)\/((aq s p==48)=S/\DE s ((p:Int)+1) (nA0 s p)/\∃A,nA0 s p=A/\a=(A:Int))):=by
 unfold nA0;split
 .rename_i b;exact⟨_,rfl,by omega,.inl ⟨b,by omega⟩⟩
 .rename_i b;exact⟨_,rfl,(td s (p+1) (by omega)).2,.inr ⟨by simp[b],λd=>wH s c (p+1) (by omega) d,_,rfl,rfl⟩⟩
def asl(s:ByteArray)(m:s.size<=1100000)(A:Nat)(l:A<=s.size)(a:Int)(g:a=(A:Int)):∃b:Int,b=(nA1 s A:Nat)/\nA1 s A<=s.size/\((¬a+1<(s.size:Int)/\b=a/\nA1 s A=A)\/(a+1<(s.size:Int)/\IX s a (aq s A)/\((b=a/\nA1 s A=A/\(aq s A==46)=S)\/(aq s A=46/\IX s (a+1) (aq s (A+1))/\((b=a/\nA1 s A=A/\DQ (aq s (A+1)) S)\/(DQ (aq s (A+1)) T/\DE s (a+1) (nA1 s A)/\∃B,nA1 s A=B/\b=(B:Int))))))):=by
 have j:∀e,DQ e (cm e):=λe d=>(lp _ d).mono λn o c=>⟨c.1,c.2.symm⟩;have h:A<s.size->IX s a (aq s A):=λc d=>yC _ A g c d;have i:A+1<s.size->IX s (a+1) (aq s (A+1)):=λc d=>yC _ (A+1) (by omega) c d;unfold nA1;split
 .rename_i c;have h1:=rA c.2;exact⟨_,rfl,(td s (A+1) (by omega)).2,.inr ⟨by omega,h (by omega),.inr ⟨c.1,i h1,.inr ⟨by rw[<-c.2];exact j _,λd=>wI s m _ (A+1) (by omega) (by omega) d,_,rfl,rfl⟩⟩⟩⟩
 .rename_i c;refine⟨a,g,l,?_⟩;rcases bg (A+1) s.size with h1|h1
  .refine .inr ⟨by omega,h (by omega),?_⟩;by_cases f:aq s A=46
   .refine .inr ⟨f,i h1,.inl ⟨rfl,rfl,?_⟩⟩;have k:cm (aq s (A+1))=S:=by simpa [f] using c
    rw[<-k];exact j _
   .exact .inl ⟨rfl,rfl,by simp[f]⟩
  .exact .inl ⟨by omega,rfl,rfl⟩
def asm(s:ByteArray)(l:s.size<=1100000)(B:Nat)(m:B<=s.size)(b:Int)(f:b=(B:Int)):((b==(s.size:Int))=T/\((oe s B).1:Int)=b/\(oe s B).2=T)\/((b==(s.size:Int))=S/\IX s b (aq s B)/\(((aq s B==101)=S/\((oe s B).1:Int)=b/\(oe s B).2=T)\/(aq s B=101/\∃d:Int,((¬b+1<(s.size:Int)/\d=b+1)\/(b+1<(s.size:Int)/\IX s (b+1) (aq s (B+1))/\((aq s (B+1)=43/\d=b+1+1)\/(aq s (B+1)=45/\d=b+1+1)\/((aq s (B+1)==43)=S/\(aq s (B+1)==45)=S/\d=b+1))))/\∃C:Nat,DE s d C/\(oe s B).1=C/\(oe s B).2=decide (d<(C:Int))))):=by
 unfold oe;have i:B+1<s.size->IX s (b+1) (aq s (B+1)):=λh c=>yC _ (B+1) (by omega) h c;by_cases e:aq s B=101
 .have j:=aH e;rw[ab e];refine .inr ⟨by rw[du];omega,λc=>yC _ B f j c,.inr ⟨e,(nA2 s B:Nat),?_,_,λc=>wI s l _ (nA2 s B) rfl ?_ c,rfl,by rw[Hn];omega⟩⟩
  .unfold nA2;rcases(show ¬B+1<s.size\/(B+1<s.size/\aq s (B+1)=43)\/(B+1<s.size/\aq s (B+1)=45)\/(B+1<s.size/\aq s (B+1)≠43/\aq s (B+1)≠45) by omega) with h2|⟨h2,a⟩|⟨h2,a⟩|⟨h2,a,k⟩
   .rw[aa (by rw[dy h2];omega)];exact .inl ⟨by omega,by omega⟩
   .rw[ab (.inl a)];exact .inr ⟨by omega,i h2,.inl ⟨a,by omega⟩⟩
   .rw[ab (.inr a)];exact .inr ⟨by omega,i h2,.inr (.inl ⟨a,by omega⟩)⟩
   .rw[aa (by omega)];exact .inr ⟨by omega,i h2,.inr (.inr ⟨by simp[a],by simp[k],by omega⟩)⟩
  .unfold nA2;split
   .rename_i h;rcases bg (B+1) s.size with g|g
    .omega
    .rw[dy]at h;omega
   .omega
 .rw[aa e];rcases(show B=s.size\/B<s.size by omega) with h2|h2
  .exact .inl ⟨by rw[jD];omega,f.symm,rfl⟩
  .exact .inr ⟨by rw[du];omega,λc=>yC _ B f h2 c,.inl ⟨by simp[e],f.symm,rfl⟩⟩
def Fz(s:ByteArray)(e:s.size<=1100000)(p:Nat)(j:p<s.size)(k:¬(aq s p=48/\aq s (p+1)=120))(w:V):U N 174 #[Q s,M O p] w (jt w (W #[M O ((oe s (nA1 s (nA0 s p))).1:Int),Y (oe s (nA1 s (nA0 s p))).2])):=by
 have l:=λw=>Dr s p w;rw[az k]at l;have al:=λw=>dG j w;have⟨q,c,h,n⟩:=ask s e p j;obtain⟨r,d,i,f⟩:=asl s e _ h q c;have a:=asm s e _ i r d;generalize oe s (nA1 s (nA0 s p))=o at a⊢;obtain⟨L,ad⟩:=o;simp only at a⊢;clear k;have t:nA0 s p<=1100000:=by omega
 have u:nA1 s (nA0 s p)<=1100000:=by omega
 generalize nA1 s (nA0 s p)=I at d i f a u;generalize nA0 s p=G at c h n f t;rcases n with⟨v,rfl⟩|⟨v,z,H,rfl,rfl⟩;all_goals
  rcases f with⟨F,rfl,rfl⟩|⟨F,an,⟨rfl,rfl,x⟩|⟨x,ao,⟨rfl,rfl,m⟩|⟨m,A,J,rfl,rfl⟩⟩⟩;all_goals
   rcases a with⟨C,b,rfl⟩|⟨C,ap,⟨y,b,rfl⟩|⟨y,af,⟨E,rfl⟩|⟨E,ar,⟨g,rfl⟩|⟨g,rfl⟩|⟨g,ak,rfl⟩⟩,K,B,rfl,rfl⟩⟩;all_goals first|omega|skip
   all_goals
    try rw[b]
    try clear b
    clear c d;go_in;go_wp2_with (first|(go_at_call 51;refine fC (l _) ?_)|(go_at_call 101;refine fC (m _) ?_)|(go_at_call 215;first|(with_reducible refine fC (z _) ?_)|(with_reducible refine fC (A _) ?_)|(with_reducible refine fC (B _) ?_)));all_goals
     go_ret2;exact⟨rfl,rfl⟩
def wJ(s:ByteArray)(b:s.size<=1100000)(p:Nat)(c:p<s.size)(w:V):U N 174 #[Q s,M O p] w (jt w (W #[M O ((dF s p).1:Int),Y (dF s p).2])):=by
 unfold dF;by_cases a:aq s p=48/\aq s (p+1)=120
 .rw[ab a];exact Fy s b p a.1 a.2 w
 .rw[aa a];exact Fz s b p c a w
def tg(s:ByteArray)(p:Nat):Nat->Nat
 |0=>0
 |n+1=>tg s p n*16+(ic (aq s (p+n))).toNat
def aaz(s:ByteArray)(p:Nat):∀n,tg s p n<16 ^ n
 |0=>by simp[tg]
 |n+1=>by
  have h:=aaz s p n;have b:=oA (aq s (p+n));have a:16 ^ (n+1)=16 ^ n*16:=Nat.pow_succ 16 n;unfold tg;omega
def af6(s:ByteArray)(p n:Nat)(h:n<=15):tg s p n<1152921504606846976:=by
 have a:=aaz s p n;have b:16 ^ n<=16 ^ 15:=Nat.pow_le_pow_right (by omega) h;have c:16 ^ 15=1152921504606846976:=by decide
 omega
def aaA(s:ByteArray)(p n:Nat)(h:n<=16):tg s p n<18446744073709551616:=by
 have a:=aaz s p n;have b:16 ^ n<=16 ^ 16:=Nat.pow_le_pow_right (by omega) h;have c:16 ^ 16=18446744073709551616:=by decide
 omega
def ajI(c:Int)(a:97<=c)(b:c<=102):bits .or Ak c 32=c:=by
 rcases(show c=97\/c=98\/c=99\/c=100\/c=101\/c=102 by omega) with rfl|rfl|rfl|rfl|rfl|rfl<;>decide+kernel
def af7(s:ByteArray)(j:Nat)(h:j<s.size):((s.data.toList.getD j 0).toNat:Int)=aq s j:=by
 have:s.data.toList[j]?=X s[j]:=by
  rw[vy];exact Ci h
 rw[List.getD,this];unfold aq;rw[ni h];rfl
def asn(t:ByteArray)(s:1<=t.size)(an:t.size<=16)(x:∀i,i<t.size->nA (aq t i)=T)(w:V):
  U N 239 #[Q t,M O 16,M O 64] w λe ad=>e= .returned (W #[M .u64 (tg t 0 t.size:Int),Ax])/\ad=Lib.bytesWorld w 5 t:=by
 have ao:t.toList.isEmpty=S:=by
  rw[<-decide_eq_emptyBytes];exact az (λC=>by rw[C]at s;simp at s)
 have G:=Lib.run_convert_string_bytes (P:=N) w 9 22 5 t (u:= .string) underlying9 underlying22 underlying5;have j:∀f,f<t.size->(Lib.bytesWorld w 5 t).cell? ⟨w.heap.size,f,Ad⟩=X (M Ak (aq t f)):=λf y=>by rw[Lib.bytesWorld_cell w 5 t f y,af7 t f y]
 obtain⟨r,v⟩:∃r,r=Lib.bytesWorld w 5 t:=⟨_,rfl⟩;rw[<-v]at G j⊢;clear v;have ar:IntKind.u64.wrap (IntKind.u64.wrap 18446744073709551616-1)=18446744073709551615:=by
  rw[IntKind.wrap_u64,IntKind.wrap_u64];decide
 obtain⟨n,o⟩:∃n:Int,(tg t 0 t.size:Int)=n:=⟨_,rfl⟩;rw[o];have q:=am o;clear o;go_in;go_wp2;go_loop [12,13,101] (λL K p=>∃(a:Nat) (b:Int),L= Y S/\K= M .u64 b/\p= M O a/\a<=t.size/\Hid (b=(tg t 0 a:Int))) (λ_ _ p=>t.size-(intOf p).toNat)
 case atStart=>exact⟨0,0,rfl,rfl,rfl,by omega,rfl⟩
 case round=>
  obtain⟨a,b,rfl,rfl,rfl,ap,d⟩:=hrel;by_cases z:a<t.size
  .have F:=j a z;have B:=(uw _).1 (x a z);have E:=af6 t 0 a (by omega);have af:0<=b:=by rw[d.out];omega
   have ak:b<1152921504606846976:=by rw[d.out];omega
   have g:Hid (∀h:Int,ic (aq t a)=h->0<=h->b*16+h=(tg t 0 (a+1):Int)):=λh H al=>by
    show _=((tg t 0 a*16+(ic (aq t (0+a))).toNat:Nat):Int);rw[dv,H,d.out];omega
   generalize aq t a=c at F B g;clear j E d x;rcases B with⟨k,l⟩|⟨k,l⟩
   .have m:Hid (b*16+(c-48)=(tg t 0 (a+1):Int)):=g.out (c-48) (by unfold ic;rw[ab ⟨k,l⟩]) (by omega);clear g;go_wp2;refine⟨⟨a+1,b*16+(c-48),rfl,(by first|rfl|(congr 1;omega)),(by first|rfl|(congr 1;omega)),by omega,m⟩,by simp[intOf];omega⟩
   .have m:Hid (b*16+(c-87)=(tg t 0 (a+1):Int)):=g.out (c-87) (by unfold ic;rw[aa (by omega),ab ⟨k,l⟩]) (by omega);clear g;have A:=ajI c k l;have J:∀w,U N 254 #[M Ak c] w (jt w (M Ak c)):=λw=>by
     have:=Tryz.internal_strconv_lower c w;rw[A]at this;exact this
    clear A;go_wp2_with (go_at_call 254;refine fC (J _) ?_);refine⟨⟨a+1,b*16+(c-87),rfl,(by first|rfl|(congr 1;omega)),(by first|rfl|(congr 1;omega)),by omega,m⟩,by simp[intOf];omega⟩
  .obtain rfl:a=t.size:=by omega
   have I:b=n:=by rw[<-q.out,d.out]
   subst I;clear j d q;go_wp2;go_ret2;exact⟨rfl,rfl⟩
structure pf (w:V):Prop where
 syn:∃te pe,w.cell? ⟨6,0,Ad⟩=X (.iface te pe)
 rng:∃te pe,w.cell? ⟨7,0,Ad⟩=X (.iface te pe)
def th{b:V}(h:Below B w b){a:Addr}(c:a.block<B):b.cell? a=w.cell? a:=by
 unfold World.cell?;rw[h.block _ c]
def Hw{a:V}(h:Below B a w)(n:Nat):Below B a (w.drewN n):=⟨h.os,h.tape,h.output,h.size,h.block⟩
def pf.below{e:V}(h:pf w)(d:Below B w e)(c:w.heap.size<=B):pf e:=by
 obtain⟨⟨j,i,a⟩,⟨k,p2,b⟩⟩:=h;have f:=Cp w _ a;have g:=Cp w _ b;exact⟨⟨j,i,(th d (iB f c)).trans a⟩,⟨k,p2,(th d (iB g c)).trans b⟩⟩
def ti(s:ByteArray)(i:Nat):aq s i=match s.data.toList[i]? with|some b=>(b.toNat:Int)|none=> -1:=by
 cases h:s.data.toList[i]? with
 |some b=>exact((iz s i b).1 h).2
 |none=>
  refine dy λa=>?_;have:s.data.toList[i]?=X s[i]:=by rw[vy];exact Ci a
  rw[this]at h;cases h
def Gm(s:ByteArray)(n:Nat):ByteArray:=⟨(s.data.toList.drop n).toArray⟩
def tj(s:ByteArray)(n:Nat):(Gm s n).size=s.size-n:=by
 show(s.data.toList.drop n).toArray.size=_;rw[iD,ir,fK];rfl
def Gn(s:ByteArray)(n i:Nat):aq (Gm s n) i=aq s (n+i):=by
 rw[ti,ti];show(match (s.data.toList.drop n).toArray.toList[i]? with|some a=>(a.toNat:Int)|none=> -1)=_;rw[List.toList_toArray,pE]
def J8(s:ByteArray)(a p:Nat):∀n,tg (Gm s a) p n=tg s (a+p) n
 |0=>rfl
 |n+1=>by
  unfold tg;rw[J8 s a p n,Gn,fi]
def ap9(t:ByteArray)(c:1<=t.size)(a:t.size<=16)(d:∀i,i<t.size->nA (aq t i)=T)(w:V):
  U N 217 #[Q t,M O 16,M O 64] w (jf w (W #[M .u64 (tg t 0 t.size:Int),Ax])):=by
 have b:=λw=>asn t c a d w;have f:=aaA t 0 t.size a;generalize (tg t 0 t.size:Int)=g at b;go_in;go_wp2_with (go_at_call 239;refine(b _).mono ?_;rintro e h ⟨rfl,rfl⟩);go_ret2;exact⟨rfl,Lib.bytesWorld_below _ _ _⟩
def J9(s:ByteArray)(x a:UInt8):Z s.data.toList [x,a]=decide (aq s 0=(x.toNat:Int)/\aq s 1=(a.toNat:Int)):=by
 have:=Hv s 0 x a;rw[jJ]at this;exact this
def Gq(q:ByteArray)(e:aq q 0=48)(f:aq q 1=120)(p:3<=q.size)(o:q.size<=18)(g:∀i,2<=i->i<q.size->nA (aq q i)=T)(w:V):
  U N 175 #[Q q] w (jf w (W #[M O (wrap64 (tg q 2 (q.size-2):Int)),Y T])):=by
 have k:Z q.data.toList [48,120]=T:=by rw[J9];simp[e,f]
 have c:∀w,U N 216 #[Q q,Q ⟨#[48,120]⟩] w (jt w (W #[Q (Gm q 2),Y T])):=λw=>by
  have:=Tryz.strings_CutPrefix q ⟨#[48,120]⟩ w;rw[show(⟨#[48,120]⟩:ByteArray).data.toList=[48,120] from rfl,Lib.trimPrefix,k]at this;exact this
 have a:=λw=>ap9 (Gm q 2) (by rw[tj];omega) (by rw[tj];omega) (λi j=>by rw[Gn];rw[tj]at j;exact g _ (by omega) (by omega)) w;rw[J8,tj]at a;have r:=aaA q 2 (q.size-2) (by omega);simp only[fL]at a;obtain⟨b,l⟩:∃b:Int,(tg q 2 (q.size-2):Int)=b:=⟨_,rfl⟩;have s:0<=b:=by omega
 have t:b<18446744073709551616:=by omega
 rw[l]at a⊢;generalize Gm q 2=n at c a;go_in;go_wp2_with (first|(go_at_call 216;refine(c _).mono ?_;rintro d m ⟨rfl,rfl⟩)|(go_at_call 217;refine(a _).mono ?_;rintro d m ⟨rfl,h⟩));go_quiet (fail)
 go_wp2;go_ret2;exact⟨rfl,Hw h _⟩
def Aa(q:ByteArray):Option Int:=match Lib.parseIntB 64 q.data.toList with| .ok a=>X a|_=>Ad
def Gr(q:ByteArray)(s:q.size<=1100000)(o:¬(aq q 0=48/\aq q 1=120))(w:V)(k:pf w):
  U N 175 #[Q q] w λe a=>(∃x,e= .returned (W #[M O x,Y (Aa q).isSome])/\∀v,Aa q=X v->x=v)/\cg w a:=by
 have l:Z q.data.toList [48,120]=S:=by rw[J9];simpa using o
 have h:∀w,U N 216 #[Q q,Q ⟨#[48,120]⟩] w (jt w (W #[Q ⟨q.data.toList.toArray⟩,Y S])):=λw=>by
  have:=Tryz.strings_CutPrefix q ⟨#[48,120]⟩ w;rw[show(⟨#[48,120]⟩:ByteArray).data.toList=[48,120] from rfl,Lib.trimPrefix,l]at this;exact this
 generalize (⟨q.data.toList.toArray⟩:ByteArray)=r at h;obtain⟨⟨z,t,n⟩,⟨A,u,m⟩⟩:=k;unfold Aa;cases hp:Lib.parseIntB 64 q.data.toList with
 |ok v=>
  have g:=Tryz.strconv_ParseInt_10_at64_ok q (by omega) v hp w;have d:U N 218 #[Q q,M O 10,M O 64] w (jf w (W #[M O v,Ax])):=g.mono λe a c=>⟨c.1,by
   rcases c.2 with rfl|⟨y,rfl⟩
   .exact ah _ _
   .exact Lib.bytesWorld_below _ _ _⟩
  go_in;go_wp2_with (first|(go_at_call 216;refine(h _).mono ?_;rintro e a ⟨rfl,rfl⟩)|(go_at_call 218;refine d.mono ?_;rintro e a ⟨rfl,f⟩));go_quiet (fail)
  go_wp2;go_ret2;exact⟨⟨v,rfl,λ_ c=>aJ c⟩,Hw f _⟩
 | «syntax» =>
  have g:=Tryz.strconv_ParseInt_10_at64_syntax q (by omega) hp _ w n (.inr ⟨_,_,rfl⟩);have d:U N 218 #[Q q,M O 10,M O 64] w λe a=>∃b,e= .returned (W #[M O 0,.iface 275 (.pointer (X ⟨b,0,Ad⟩))])/\cg w a:=g.mono λe a ⟨b,i,_,_,j⟩=>⟨b,i,j⟩;go_in;go_wp2_with (first|(go_at_call 216;refine(h _).mono ?_;rintro e a ⟨rfl,rfl⟩)|(go_at_call 218;refine d.mono ?_;rintro e a ⟨b,rfl,f⟩));go_quiet (fail)
  go_wp2;go_ret2;exact⟨⟨0,rfl,λ_ c=>by cases c⟩,Hw f _⟩
 |range=>
  have g:=Tryz.strconv_ParseInt_10_at64_range q (by omega) hp _ w m (.inr ⟨_,_,rfl⟩);have d:U N 218 #[Q q,M O 10,M O 64] w λe a=>∃b,e= .returned (W #[M O (Lib.intSat 64 q.data.toList),.iface 275 (.pointer (X ⟨b,0,Ad⟩))])/\cg w a:=g.mono λe a ⟨b,i,_,_,j⟩=>⟨b,i,j⟩;generalize Lib.intSat 64 q.data.toList=p at d;go_in;go_wp2_with (first|(go_at_call 216;refine(h _).mono ?_;rintro e a ⟨rfl,rfl⟩)|(go_at_call 218;refine d.mono ?_;rintro e a ⟨b,rfl,f⟩));go_quiet (fail)
  go_wp2;go_ret2;exact⟨⟨p,rfl,λ_ c=>by cases c⟩,Hw f _⟩
def stp(a:Option Nat)(c:UInt8):Option Nat:=match a with|none=>Ad|some b=>if b*10+(c.toNat-48)<=9223372036854775807 then X (b*10+(c.toNat-48)) else Ad
def Ka:∀l:List UInt8,l.foldl stp Ad=Ad
 |[]=>rfl
 |c::r=>Ka r
def anc:∀(l:List UInt8)(a:Nat),(∀c∈l,48<=c.toNat/\c.toNat<=57)->9223372036854775808<=a->R (2 ^ 64-1) a l= .range\/∃u,R (2 ^ 64-1) a l= .ok u/\9223372036854775808<=u
 |[],a,_,h=> .inr ⟨a,rfl,h⟩
 |c::r,a,d,h=>by
  have b:=d c (by simp);unfold R;rw[ab b,ab (by omega)];exact .inl rfl
def af8:∀(l:List UInt8)(a:Nat),(∀c∈l,48<=c.toNat/\c.toNat<=57)->a<=9223372036854775807->(∀u,l.foldl stp (X a)=X u->R (2 ^ 64-1) a l= .ok u/\u<=9223372036854775807)/\(l.foldl stp (X a)=Ad->R (2 ^ 64-1) a l= .range\/∃u,R (2 ^ 64-1) a l= .ok u/\9223372036854775808<=u)
 |[],a,_,h=>by
  refine⟨λu b=>?_,λn=>by simp at n⟩;simp at b;subst b;exact⟨rfl,h⟩
 |c::r,a,j,h=>by
  have i:=j c (by simp);have k:∀d∈r,48<=d.toNat/\d.toNat<=57:=λd o=>j d (by simp[o]);rw[kG,show stp (X a) c=if a*10+(c.toNat-48)<=9223372036854775807 then X (a*10+(c.toNat-48)) else Ad from rfl];by_cases e:a*10+(c.toNat-48)<=9223372036854775807
  .rw[ab e];have p:=af8 r (a*10+(c.toNat-48)) k e;have m:R (2 ^ 64-1) a (c::r)=R (2 ^ 64-1) (a*10+(c.toNat-48)) r:=by
    rw[R,ab i,aa (by omega),aa (by omega)]
   rw[m];exact p
  .rw[aa e,Ka r];refine⟨λu b=>(by cases b),λ_=>?_⟩;rw[R,ab i];by_cases f:1844674407370955162<=a
   .rw[ab f];exact .inl rfl
   .rw[aa f];by_cases g:2 ^ 64-1<a*10+(c.toNat-48)
    .rw[ab g];exact .inl rfl
    .rw[aa g];exact anc r _ k (by omega)
def af9:∀(l:List UInt8)(b:Nat),(∃c∈l,¬(48<=c.toNat/\c.toNat<=57))->∀u,R (2 ^ 64-1) b l≠ .ok u
 |[],_,h,u=>by obtain⟨c,a,_⟩:=h;simp at a
 |c::f,b,h,u=>by
  rw[R];by_cases a:48<=c.toNat/\c.toNat<=57
  .rw[ab a];split
   .intro h;cases h
   .split
    .intro h;cases h
    .refine af9 f _ ?_ u;obtain⟨e,hd,d⟩:=h;rcases List.mem_cons.1 hd with rfl|hd
     .exact absurd a d
     .exact⟨e,hd,d⟩
  .rw[aa a];intro h;cases h
def qL(s:ByteArray)(p:Nat):Nat->Option Nat
 |0=>X 0
 |n+1=>match qL s p n with|none=>Ad|some x=>if x*10+(aq s (p+n)-48).toNat<=9223372036854775807 then X (x*10+(aq s (p+n)-48).toNat) else Ad
def Kb(s:ByteArray)(p:Nat):∀n,p+n<=s.size->qL s p n=((s.data.toList.drop p).take n).foldl stp (X 0)
 |0,_=>rfl
 |n+1,h=>by
  have a:p+n<s.data.toList.length:=by rw[fK];exact h
  have b:(s.data.toList.drop p)[n]?=X (s.data.toList[p+n]):=by rw[pE];exact aw a
  have d:aq s (p+n)=((s.data.toList[p+n]).toNat:Int):=((iz s (p+n) _).1 (aw a)).2;rw[iC,b,List.foldl_append,<-Kb s p n (by omega),qL,d];simp only[Hm,kG,List.foldl_nil,stp];have c:(((s.data.toList[p+n]).toNat:Int)-48).toNat=(s.data.toList[p+n]).toNat-48:=by omega
  rw[c]
def ane(s:ByteArray)(p:Nat):∀n u,qL s p n=X u->u<=9223372036854775807
 |0,u,h=>by simp[qL]at h;omega
 |n+1,u,h=>by
  unfold qL at h;split at h
  .cases h
  .split at h
   .rename_i a;cases h;exact a
   .cases h
def aga(q:ByteArray)(h:∀i,i<q.size->cm (aq q i)=T):∀c∈q.data.toList,48<=c.toNat/\c.toNat<=57:=by
 intro c a;obtain⟨i,d,rfl⟩:=List.mem_iff_getElem.1 a;have:=(iz q i _).1 (aw d);have b:=jG (h i this.1);rw[this.2]at b;omega
def Kc(q:ByteArray)(a:cm (aq q 0)=T):∃c r,q.data.toList=c::r/\48<=c.toNat/\c.toNat<=57:=by
 have d:=rA a;cases hq:q.data.toList with
 |nil=>
  have:q.data.toList.length=q.size:=by rw[fK];rfl
  rw[hq]at this;simp at this;omega
 |cons c r=>
  refine⟨c,r,rfl,?_⟩;have:=(iz q 0 c).1 (by rw[hq];rfl);have b:=jG a;rw[this.2]at b;omega
def act(c:UInt8)(r:List UInt8)(b:48<=c.toNat)(d:c.toNat<=57):Lib.parseIntB 64 (c::r)=match R (2 ^ 64-1) 0 (c::r) with| .syntax=> .syntax| .range=> .range| .ok u=>if 9223372036854775808<=u then .range else .ok (u:Int):=by
 simp only[Lib.parseIntB,Lib.parseUintB];rw[aa (show ¬(c.toNat=43\/c.toNat=45) by omega),aa (show ¬(c::r=[]) by simp)];have a:¬c.toNat=45:=by omega
 cases R (2 ^ 64-1) 0 (c::r) with
 |ok u=>simp[a]
 | «syntax» =>rfl
 |range=>rfl
def Kd(q:ByteArray)(j:0<q.size)(h:∀i,i<q.size->cm (aq q i)=T):Aa q=Option.map (λu:Nat=>(u:Int)) (qL q 0 q.size):=by
 have⟨a,c,m,k,l⟩:=Kc q (h 0 j);have d:=aga q h;have e:=Kb q 0 q.size (by omega);rw[kC,dl (by rw[fK];exact ag _)]at e;unfold Aa;rw[e];rw[m]at d⊢;rw[act a c k l];have f:=af8 (a::c) 0 d (by omega);cases hx:(a::c).foldl stp (X 0) with
 |some u=>
  have⟨g,o⟩:=f.1 u hx;rw[g];simp only[vD];rw[aa (by omega)]
 |none=>
  rcases f.2 hx with b|⟨u,b,n⟩
  .rw[b];rfl
  .rw[b];simp only[ab n];rfl
def yD(q:ByteArray)(f:cm (aq q 0)=T)(i:Nat)(j:i<q.size)(k:cm (aq q i)=S):Aa q=Ad:=by
 have⟨a,b,l,g,h⟩:=Kc q f;have c:∃a∈q.data.toList,¬(48<=a.toNat/\a.toNat<=57):=by
  have d:i<q.data.toList.length:=by rw[fK];exact j
  refine⟨q.data.toList[i],jq d,?_⟩;have:=(iz q i _).1 (aw d);have e:¬(48<=aq q i/\aq q i<=57):=by simpa [cm] using k
  rw[this.2]at e;omega
 unfold Aa;rw[l]at c⊢;rw[act a b g h];have:=af9 (a::b) 0 c;cases hx:R (2 ^ 64-1) 0 (a::b) with
 |ok m=>exact absurd hx (this m)
 | «syntax» =>rfl
 |range=>rfl
def qm(q:ByteArray):Bool:=decide (cm (aq q 0)=T/\dF q 0=(q.size,T)/\¬(aq q 0=48/\aq q 1=120)/\Aa q=Ad)
def anf(s:ByteArray)(p:Nat)(h:p<=s.size):p<=hxE s p/\hxE s p<=s.size:=pH nA CE s _ p h
def Ke{p e:Nat}(h:nB s p=(e,T)):p<e/\e<=p+16/\e=hxE s p/\∀i,p<=i->i<e->nA (aq s i)=T:=by
 unfold nB at h;split at h
 .cases h
 .rename_i d;have⟨b,a⟩:=yk h;subst b;exact⟨by simpa using a,by omega,rfl,λi c a=>ql nA s _ p i c a⟩
def aaB{q:ByteArray}(b:0<q.size):(q.toList==[])=S:=by
 have:q.toList.length=q.size:=by rw[gH];simp
 cases hs:q.toList with
 |nil=>rw[hs]at this;simp at this;omega
 |cons a c=>rfl
def Kf{q:ByteArray}(a:¬0<q.size):(q.toList==[])=T:=by
 have:q.toList.length=q.size:=by rw[gH];simp
 have:q.toList=[]:=List.length_eq_zero_iff.1 (by omega);rw[this];rfl
def Gs{b:Bool}(h:cm c=b)(w:V):U N 101 #[M Ak c] w (jt w (Y b)):=(lp c w).mono λd e a=>⟨by rw[a.1,h],a.2.symm⟩
def aaC(s:ByteArray)(b:s.size<=1100000)(a:0<s.size)(w:V):U N 174 #[Q s,M O 0] w (jt w (W #[M O ((dF s 0).1:Int),Y (dF s 0).2])):=wJ s b 0 a w
def aaD(s:ByteArray)(a:Nat)(h:a<=s.size):a<=(oe s a).1/\(oe s a).1<=s.size:=by
 unfold oe;split
 .rename_i c;have d:=aH c;have b:nA2 s a<=s.size/\a<nA2 s a:=by
   unfold nA2;split
   .rename_i hs;rcases hs with hs|hs
    .have:=aH hs;omega
    .have:=aH hs;omega
   .omega
  have:=td s (nA2 s a) b.1;simp only;omega
 .exact⟨ag _,h⟩
def Ds(s:ByteArray)(p:Nat)(h:p<s.size):p<nA0 s p/\nA0 s p<=s.size:=by
 unfold nA0;split
 .omega
 .have:=td s (p+1) (by omega);omega
def Dt(s:ByteArray)(a:Nat)(h:a<=s.size):a<=nA1 s a/\nA1 s a<=s.size:=by
 unfold nA1;split
 .rename_i b;have:=td s (a+1) (by have:=rA b.2;omega);omega
 .omega
def ajJ(s:ByteArray)(p:Nat)(h:p<=s.size):p<=(nB s p).1/\(nB s p).1<=s.size:=by
 have:=anf s p h;unfold nB;split
 .simp only;omega
 .exact this
def wd(s:ByteArray)(p:Nat)(h:p<s.size):p<(dF s p).1/\(dF s p).1<=s.size:=by
 unfold dF;split
 .rename_i c;have:=aH c.2;have:=ajJ s (p+2) (by omega);omega
 .have a:=Ds s p h;have b:=Dt s _ a.2;have d:=aaD s _ b.2;omega
def Kg(q:ByteArray)(p:q.size<=1100000)(w:V)(v:pf w):U N 224 #[Q q] w (jf w (Y (qm q))):=by
 by_cases d:0<q.size
 .have z:=aaB d;have g:∀w,(Instr.index 9 (Q q) (M O 0)).run N w= .ok (M Ak (aq q 0)) w:=λw=>dG d w;by_cases m:cm (aq q 0)=T
  .have b:=λw=>Gs m w;have c:=λw=>aaC q p d w;have s:=(wd q 0 d).2;by_cases f:(dF q 0).2=T
   .by_cases n:(dF q 0).1=q.size
    .have k:dF q 0=(q.size,T):=Prod.ext n f;rw[k]at c;by_cases e:aq q 0=48/\aq q 1=120
     .have a:qm q=S:=by unfold qm;simp[e]
      rw[a];have x:nB q 2=(q.size,T):=by rw[<-k];unfold dF;rw[ab e]
      have⟨E,F,G,u⟩:=Ke x;have h:=λw=>Gq q e.1 e.2 (by omega) (by omega) u w;generalize wrap64 (tg q 2 (q.size-2):Int)=H at h;generalize aq q 0=i at g b;go_in;go_wp2_with (first|(go_at_call 101;refine fC (b _) ?_)|(go_at_call 174;refine fC (c _) ?_)|(go_at_call 175;refine(h _).mono ?_;rintro t B ⟨rfl,l⟩));go_ret;exact⟨rfl,l⟩
     .have h:=Gr q p e w v;have a:qm q=!(Aa q).isSome:=by
       unfold qm;cases hdc:Aa q<;>simp[m,k,e]
      rw[a];generalize (Aa q).isSome=C at h;generalize aq q 0=i at g b;go_in;go_wp2_with (first|(go_at_call 101;refine fC (b _) ?_)|(go_at_call 174;refine fC (c _) ?_)|(go_at_call 175;refine h.mono ?_;rintro t B ⟨⟨I,rfl,_⟩,l⟩));go_ret;exact⟨rfl,l⟩
    .have a:qm q=S:=by unfold qm;rw[qG];rintro ⟨_,j,_⟩;rw[j]at n;exact n rfl
     rw[a];have y:((dF q 0).1:Int)<(q.size:Int):=by omega
     rw[f]at c;generalize (dF q 0).1=r at c y;generalize aq q 0=i at g b;go_in;go_wp2_with (first|(go_at_call 101;refine fC (b _) ?_)|(go_at_call 174;refine fC (c _) ?_));go_ret;exact⟨rfl,ah _ _⟩
   .have A:(dF q 0).2=S:=by simpa using f
    have a:qm q=S:=by unfold qm;rw[qG];rintro ⟨_,j,_⟩;rw[j]at f;exact f rfl
    rw[a];rw[A]at c;generalize (dF q 0).1=r at c s;generalize aq q 0=i at g b;go_in;go_wp2_with (first|(go_at_call 101;refine fC (b _) ?_)|(go_at_call 174;refine fC (c _) ?_));go_ret;exact⟨rfl,ah _ _⟩
  .have o:cm (aq q 0)=S:=by simpa using m
   have b:=λw=>Gs o w;have a:qm q=S:=by unfold qm;simp[o]
   rw[a];generalize aq q 0=i at g b;go_in;go_wp2_with (first|(go_at_call 101;refine fC (b _) ?_));go_ret;exact⟨rfl,ah _ _⟩
 .have z:=Kf d;have a:qm q=S:=by unfold qm;rw[dy d];simp[yz]
  rw[a];go_in;go_wp2;go_ret;exact⟨rfl,ah _ _⟩
def gh{b:Bool}(h:cm c=b)(w:V):U N 130 #[M Ak c] w (jt w (Y b)):=(Bb c w).mono λd e a=>⟨by rw[a.1,h],a.2.symm⟩
def jb(s:ByteArray)(d:s.size<=1100000)(a:Int)(i:Nat)(c:a=(i:Int))(w:V):U N 127 #[Q s,M O a] w (jt w (M Ak (lk s i))):=by
 subst c;exact(Dl s d i w).mono λe f b=>⟨b.1,b.2.symm⟩
def Ab(c:Int)(g:0<=c)(h:c<256)(w:V):U N 199 #[M Ak c] w (jt w (M O (ic c))):=by
 unfold ic;by_cases a:cm c=T
 .have b:=λw=>gh a w;have d:=jG a;rw[ab d];clear a;go_in;go_wp2_with (first|(go_at_call 130;refine fC (b _) ?_));go_ret;exact⟨rfl,rfl⟩
 .have e:cm c=S:=by simpa using a
  have b:=λw=>gh e w;have d:¬(48<=c/\c<=57):=by simpa [cm] using e
  rw[aa d];clear a e d;rcases(show(97<=c/\c<=102)\/¬97<=c\/(97<=c/\¬c<=102) by omega) with⟨g1,f⟩|g1|⟨g1,f⟩
  .rw[ab ⟨g1,f⟩];go_in;go_wp2_with (first|(go_at_call 130;refine fC (b _) ?_));go_ret;exact⟨by simp;omega,rfl⟩
  .rw[aa (by omega)];go_in;go_wp2_with (first|(go_at_call 130;refine fC (b _) ?_));go_ret;exact⟨rfl,rfl⟩
  .rw[aa (by omega)];go_in;go_wp2_with (first|(go_at_call 130;refine fC (b _) ?_));go_ret;exact⟨rfl,rfl⟩
def acu(s:ByteArray)(i:Nat):ic (lk s i)=ic (aq s i):=by
 unfold lk;split
 .rfl
 .rename_i a;rw[dy a];decide
def tq(h:i<s.size):lk s i=aq s i:=by unfold lk;rw[ab h]
def hxA(s:ByteArray)(p:Nat):Value:=if(nB s (p+2)).2=T then A0 #[M O 2,M O p,M O ((nB s (p+2)).1:Int),M O 0,M O (wrap64 (tg s (p+2) ((nB s (p+2)).1-(p+2)):Int)),Q ⟨#[]⟩] else A0 #[M O 2,M O p,M O 0,M O 0,M O 0,Q ⟨#[]⟩]
def hxF(s:ByteArray)(p:Nat):Int:=if(nB s (p+2)).2=T then -1 else((nB s (p+2)).1:Int)
def Kh(s:ByteArray)(a7:s.size<=1100000)(p:Nat)(a9:p+2<=s.size)(w:V):U N 198 #[Q s,A0 #[M O 2,M O p,M O 0,M O 0,M O 0,Q ⟨#[]⟩]] w (jf w (W #[hxA s p,M O (hxF s p)])):=by
 have⟨bh,k⟩:=aC (hxA s p);have⟨ao,hF⟩:=aC (hxF s p);rw[k,hF];unfold hxA at k;unfold hxF at hF;unfold nB at k hF;have⟨G,q⟩:=aC (hxE s (p+2));rw[q]at k hF;unfold hxE at q;have t:=am q;have l:=am k;have m:=am hF;clear q k hF;go_in;go_wp2_with fail;generalize af:(w.alloc _).alloc _=u;obtain⟨b,H,x, -⟩:=CD af;have a4:fa w.heap.size u 2 p 0 0 0 ⟨#[]⟩:=b;have ak:fa (w.heap.size+1) u 0 0 0 0 0 ⟨#[]⟩:=H;clear af b H;have br:w.heap.size+1<u.heap.size:=ai ak;have⟨bs,bt,bv,bw,bx,bA,bD⟩:=bm a4;have⟨z0,z,A,B,C,E,bE⟩:=bm ak;go_loop [6,7] (λy bf=>∃(a g:Nat) (b:Int),p+2<=a/\a<=p+18/\a<=s.size/\s.size<a+g/\y= M O a/\bf= M .u64 b/\Hid (ix nA s g a=G)/\Hid (b=(tg s (p+2) (a-(p+2)):Int))) (λy _=>s.size-(intOf y).toNat)
 case atStart=>exact⟨p+2,s.size+1,0,by omega,by omega,a9,by omega,by simp,rfl,t,by show(0:Int)=_;rw[fx];rfl⟩
 case round=>
  obtain⟨a,g,b,bo,bn,bl,bk,rfl,rfl,r,f⟩:=hrel;obtain⟨g,rfl⟩:∃a3,g=a3+1:=⟨g-1,by omega⟩;have i:=r.out;unfold ix at i;have j:=λw=>jb s a7 (a:Int) a rfl w;have e:=λw=>Ab (lk s a) (acq s a).1 (acq s a).2 w;rw[acu]at e;by_cases h:nA (aq s a)=T
  .have al:a<s.size:=aax CE h;have bd:=λw=>dG al w;rw[tq al]at j e;rw[ab h]at i;have a5:=(pH nA CE s g (a+1) (by omega)).1;rw[i]at a5;have ap:=am i;have ba:0<=ic (aq s a):=by simpa [nA] using h
   have bb:=oA (aq s a);have ad:a≠p+18->tg s (p+2) (a-(p+2))<1152921504606846976:=λJ=>af6 s (p+2) _ (by omega);have F:Hid (b*16+ic (aq s a)=(tg s (p+2) (a+1-(p+2)):Int)):=by
    show _=_;rw[show a+1-(p+2)=(a-(p+2))+1 by omega,tg,show p+2+(a-(p+2))=a by omega,f.out];omega
   have ar:0<=b:=by rw[f.out];omega
   have o:a≠p+18->b<1152921504606846976:=λJ=>by have:=ad J;rw[f.out];omega
   generalize ic (aq s a)=I at e ba bb F;generalize aq s a=av at j e bd;clear i h ad;by_cases K:a=p+18
   .have c:=l.out;have d:=m.out;simp only[ab (show p+2+16<G by omega)]at c d;simp at c d;subst c;have a6:ao=(a:Int):=by omega
    clear d;subst a6;have aK:((a:Int)-(p:Int)==18)=T:=by rw[jD];omega
    clear l m K o;go_wp2_with (first|(go_at_call 127;refine fC (j _) ?_)|(go_at_call 199;refine fC (e _) ?_));refine aL (v:= W #[A0 #[M O 2,M O p,M O 0,M O 0,M O 0,Q ⟨#[]⟩],M O (a:Int)]) (by simp[results,results198,go_sem,z0,z,A,B,C,E]) rfl ⟨rfl,?_⟩
    iterate 6 refine gx ?_ (by simp) _
    exact x
   .have aK:((a:Int)-(p:Int)==18)=S:=by rw[du];omega
    have bj:=o K;clear o;go_wp2_with (first|(go_at_call 127;refine fC (j _) ?_)|(go_at_call 199;refine fC (e _) ?_));go_round
    case rel=>exact⟨a+1,g,b*16+I,by omega,by omega,by omega,by omega,by go_num,by first|rfl|(congr 1;omega),ap,F⟩
    case measure=>simp[intOf];omega
  .have an:ic (aq s a)<0:=by
    have:¬0<=ic (aq s a):=by simpa [nA] using h
    omega
   rw[aa h]at i;subst i;have a8:¬(0:Int)<=ic (aq s a):=by omega
   have ar:0<=b:=by rw[f.out];omega
   have o:b<18446744073709551616:=by rw[f.out];have:=aaA s (p+2) (a-(p+2)) (by omega);omega
   generalize ic (aq s a)=I at e a8;generalize lk s a=av at j e;have c:=l.out;have d:=m.out;simp only[aa (show ¬p+2+16<a by omega)]at c d;by_cases L:a=p+2
   .have n:decide (p+2<a)=S:=by rw[qG];omega
    simp only[n]at c d;simp at c d;subst c d;have a2:((a:Int)==(p:Int)+2)=T:=by rw[jD];omega
    clear l m h an L n f r t;go_wp2_with (first|(go_at_call 127;refine fC (j _) ?_)|(go_at_call 199;refine fC (e _) ?_));refine aL (v:= W #[A0 #[M O 2,M O p,M O 0,M O 0,M O 0,Q ⟨#[]⟩],M O (a:Int)]) (by simp[results,results198,go_sem,z0,z,A,B,C,E]) rfl ⟨rfl,?_⟩
    iterate 6 refine gx ?_ (by simp) _
    exact x
   .have n:decide (p+2<a)=T:=by rw[py];omega
    simp only[n]at c d;simp only[kF]at c d;rw[<-f.out]at c;subst c d;have a2:((a:Int)==(p:Int)+2)=S:=by rw[du];omega
    clear l m h an L n f r t;go_wp2_with (first|(go_at_call 127;refine fC (j _) ?_)|(go_at_call 199;refine fC (e _) ?_));refine aL (v:= W #[A0 #[M O 2,M O p,M O (a:Int),M O 0,M O (wrap64 b),Q ⟨#[]⟩],M O (-1)]) (by simp[results,results198,go_sem,z0,z,A,B,C,E]) rfl ⟨rfl,?_⟩
    iterate 8 refine gx ?_ (by simp) _
    exact x
