import Derived.Test.YthboboahkkhopaaGreatDoorHRo12
set_option linter.all false
set_option maxRecDepth 100000
set_option maxHeartbeats 6400000
open Go.Proofs.Tryz
open Go.Proofs.Tryz renaming prog->O
open Bool renaming true->Q,false->Y
open Go.Value renaming int->S,string->Ax,pointer->B7,tuple->C2,bool->Ex,agg->E0,slice->E2
open ByteArray renaming empty->T
open Go.Lib renaming decDigits->U,hasPrefix->A9,TabIs->E1
open Go.IntKind renaming i64->W,u64->B6,u8->Ce
open Option renaming none->Z,some->A0
open Go renaming World->A2,Calls->Br,Value->B3
open List renaming range->A5
open Go.Calls renaming quiet_of_same->B0
open Go.Instr renaming index->B1
open Go.RowKit renaming intOf->B2,Hid->Ck
open Go.Ending renaming returned->B4
namespace Go.Proofs.YthboboahkkhopaaGreatDoor
open Go.RowKit Go.Maps Go.WideMaps
variable{fr k t:Int}{m:Value}{s:ByteArray}{w w':World}
def BC(u:Nat)(j:Nat):Int:=mq ((u / 16 ^ j%16:Nat):Int)
def I5(u:Nat):Nat->ByteArray
 |0=>⟨#[48,120]⟩
 |r+1=>I5 u r++eD [BC u (15-r)]
def Nat.pow_mul_two16(k:Nat):(2:Int) ^ (4*k)=(16:Int) ^ k:=by rw[Int.pow_mul];rfl
def tu(u:Nat):∀r,(I5 u r).size=r+2
 |0=>rfl
 |r+1=>by show(I5 u r++eD [BC u (15-r)]).size=_;rw[aq,tu u r];rfl
def ahd(d:Int)(b:0<=d)(c:d<16)(w:A2):(B1 9 (Ax ⟨#[48,49,50,51,52,53,54,55,56,57,97,98,99,100,101,102]⟩) (S B6 d)).run O w= .ok (S Ce (mq d)) w:=by
 have a:d.toNat<DG.size:=by simp only[DG];show d.toNat<16;omega
 have e:=amm d b c a;go_simp;exact e
def amw(c:Int)(a:0<=c)(b:c<18446744073709551616):bits .and B6 c 15=c%16:=by
 have:=bits_mask B6 64 (by decide) (λf d e=>by rw[IntKind.wrap_u64];omega) 4 (by decide) c a b;simpa using this
def afh(n:Int)(y: -9223372036854775808<=n)(z:n<0)(w:A2):Br O 186 #[S W n] w (gy w (Ax (I5 (n+18446744073709551616).toNat 16))):=by
 obtain⟨c,v⟩:∃c:Nat,(c:Int)=n+18446744073709551616:=⟨(n+18446744073709551616).toNat,by omega⟩;rw[show(n+18446744073709551616).toNat=c by omega];obtain⟨d,o⟩:∃d:Int,d=(c:Int):=⟨_,rfl⟩;have L:IntKind.u64.wrap n=d:=by rw[IntKind.wrap_u64];omega
 have J:0<=d:=by omega
 have K:d<18446744073709551616:=by omega
 have k:=am o;have F:¬0<=n:=by omega
 clear o v;go_in;go_wp2;go_loopw [4,5] (λx i wr=>∃b:Nat,b<=16/\i= S W (60-4*(b:Int))/\x= Ax (I5 c b)/\be w wr) (λ_ i _=>(B2 i+4).toNat)
 case atStart=>exact⟨0,by omega,rfl,rfl,ah _ _⟩
 case round=>
  obtain⟨b,G,rfl,rfl,g⟩:=hrel;by_cases A:b<16
  .obtain⟨e,h⟩:∃e:Int,60-4*(b:Int)=e:=⟨_,rfl⟩;have C:0<=e:=by omega
   have E:e<=60:=by omega
   obtain⟨a,q⟩:∃a:Int,d / 2 ^ e.toNat=a:=⟨_,rfl⟩;have f:a=((c / 16 ^ (15-b):Nat):Int):=by
    rw[<-q,k.out,show e.toNat=4*(15-b) by omega,Nat.pow_mul_two16,Int.natCast_ediv];rfl
   have r:0<=a:=by rw[f];exact Int.natCast_nonneg _
   have s:a<18446744073709551616:=by
    rw[f];have:=Nat.div_le_self c (16 ^ (15-b));have:=k.out;omega
   have l:0<=a%16:=by omega
   have m:a%16<16:=by omega
   have t:bits .and B6 a 15=a%16:=amw a r s;have u:=λw=>ahd (a%16) l m w;have j:Ck (eD [mq (a%16)]=eD [BC c (15-b)]):=by
    show _=_;unfold BC;rw[f];rfl
   generalize a%16=D at l m t u j;have B:=λw=>qx (wG w (mq D));have H:=tu c b;have I:(eD [mq D]).size=1:=rfl;have p:=am h;rw[h];clear f h;go_wp2;go_roundw
   case rel=>exact⟨b+1,by omega,by have:=p.out;congr 1;omega,by rw[j.out];rfl,g.alloc g.size _⟩
   case measure=>simp[B2];omega
  .obtain rfl:b=16:=by omega
   go_wp2;go_ret;exact⟨rfl,g⟩
def anI:bits .and B6 16 (IntKind.u64.wrap (-16))=16:=by decide+kernel
def anJ:IntKind.u64.wrap 4573923408821661840=4573923408821661840:=by decide+kernel
def ass(w:A2)(h:w.cell? ⟨9,15,Z⟩=A0 (S Ce 4)):Br O 297 #[S B6 16] w (kL w (S W 4)):=by
 have a:=anI;have b:=anJ;go_in;go_wp2;go_ret;exact⟨rfl,rfl⟩
def tz(w:A2)(h:w.cell? ⟨9,15,Z⟩=A0 (S Ce 4)):Br O 285 #[S B6 16] w (kL w (S W 4)):=by
 go_in;go_wp2_with (go_at_call 297;refine(ass _ h).mono ?_;rintro a b ⟨rfl,rfl⟩);go_ret;exact⟨rfl,rfl⟩
def p2(w:A2):Br O 284 #[S W 16] w (kL w (Ex Q)):=by
 have a:bits .and W 16 15=0:=by decide+kernel
 go_in;go_wp2;go_ret;exact⟨rfl,rfl⟩
def D36:ByteArray:=⟨#[48,49,50,51,52,53,54,55,56,57,97,98,99,100,101,102,103,104,105,106,107,108,109,110,111,112,113,114,115,116,117,118,119,120,121,122]⟩
def akr:∀i:Fin 16,((D36[i.val]'(by have:=i.isLt;show i.val<36;omega)).toNat:Int)=mq (i.val:Int):=by decide
def anK(d:Int)(b:0<=d)(c:d<16)(h:d.toNat<D36.size):((D36[d.toNat]'h).toNat:Int)=mq d:=by
 have:=akr ⟨d.toNat,by omega⟩;have a:((d.toNat:Nat):Int)=d:=by omega
 simp only[a]at this;exact this
def adh(d:Int)(b:0<=d)(c:d<16)(w:A2):(B1 9 (Ax ⟨#[48,49,50,51,52,53,54,55,56,57,97,98,99,100,101,102,103,104,105,106,107,108,109,110,111,112,113,114,115,116,117,118,119,120,121,122]⟩) (S B6 d)).run O w= .ok (S Ce (mq d)) w:=by
 have a:d.toNat<D36.size:=by simp only[D36];show d.toNat<36;omega
 have e:=anK d b c a;have f:d<36:=by omega
 go_simp;exact e
structure Rw (B:Nat) (w:A2) (u r:Nat):Prop where
 ex:∃arr,w.heap[B]?=A0 (.cells arr 295 (0,0))/\arr.size=65/\∀j,j<r->arr[64-j]?=A0 (.int .u8 (BC u j))
def Rw.step{B:Nat}{u r:Nat}(h:Rw B w u r)(j:r<65)(x:Int)(f:x=BC u r):Rw B (w.setCell ⟨B,64-r,Z⟩ (S Ce x)) u (r+1):=by
 have⟨g,c,d,e⟩:=h.ex;refine⟨_,bg w B (64-r) _ _ _ c,by simp[d],λa i=>?_⟩;rw[Array.getElem?_setIfInBounds];by_cases b:a=r
 .subst b;rw[ae rfl,ae (by omega),f]
 .rw[aa (by omega)];exact e a (by omega)
def Rw.conv{B:Nat}{u:Nat}(h:Rw B w u 16):(convert 22 9 (E2 (A0 ⟨B,49,Z⟩) 16 16)).run O w= .ok (Ax (eD ((A5 16).map λj=>BC u (15-j)))) w:=by
 have⟨i,c,k,d⟩:=h.ex;rw[Ic w 22 9 5 _ _ _ underlying22 underlying5 underlying9];refine run_bytesToString w _ 16 16 _ ?_;have:=run_loadCells_list (P:=O) w ⟨B,49,Z⟩ (B8 ((A5 16).map λj=>BC u (15-j))) (λj f a=>by
  have e:j<16:=by
   rcases bI j 16 with g|g
   .exact g
   .rw[jp (by simpa [B8] using g)]at a;cases a
  have b:f= S Ce (BC u (15-j)):=by
   simp[B8,e]at a;exact a.symm
  subst b;rw[show(⟨B,49,Z⟩:Addr).add j=⟨B,49+j,Z⟩ by unfold Addr.add;split<;>simp_all,aj _ _ _ _ _ _ c];have:=d (15-j) (by omega);rw[show 64-(15-j)=49+j by omega]at this;exact this)
 exact this
def aks(u:Nat)(a3:9223372036854775808<=u)(a4:u<18446744073709551616)(w:A2)(h:w.cell? ⟨9,15,Z⟩=A0 (S Ce 4)):Br O 265 #[E2 Z 0 0,S B6 (u:Int),S W 16,Ex Y,Ex Y] w (gy w (C2 #[E2 Z 0 0,Ax (eD ((A5 16).map λj=>BC u (15-j)))])):=by
 have C:=yA w _ h;have ar:∀k,Br O 285 #[S B6 16] (w.alloc k) λp F=>p= B4 (S W 4)/\F=w.alloc k:=λk=>tz _ ((qC (((ah w.heap.size w).alloc (af _) k)) C).trans h);have y:Rw w.heap.size (w.alloc (.cells Tryz.zeroCells295 295)) u 0:=⟨_,aB w _,by kernel_rfl,λj a9=>by omega⟩;have s:be w (w.alloc (.cells Tryz.zeroCells295 295)):=(ah _ w).alloc (af _) _;obtain⟨l,x⟩:∃l,(A5 16).map (λj=>BC u (15-j))=l:=⟨_,rfl⟩;rw[x];have H:Ck ((A5 16).map (λj=>BC u (15-j))=l):=x;go_in;go_wp2_with (first|(go_at_call 284;refine(p2 _).mono ?_;rintro p F ⟨rfl,rfl⟩)|(go_at_call 285;refine iI (ar _) ?_));generalize w.alloc (.cells Tryz.zeroCells295 295)=av at y s;go_loopw [1,13] (λau o wr=>∃(r:Nat) (a:Int),r<=15/\o= S W (65-(r:Int))/\au= S B6 a/\Ck (a=((u / 16 ^ r:Nat):Int))/\Rw w.heap.size wr u r/\be w wr) (λ_ o _=>(B2 o).toNat)
 case atStart=>exact⟨0,(u:Int),by omega,rfl,rfl,by show(u:Int)=_;simp,y,s⟩
 case round=>
  obtain⟨r,a,ba,rfl,rfl,b,m,z⟩:=hrel;have⟨ax,d,a1,a2⟩:=m.ex;have a5:w.heap.size<wr.heap.size:=ai d;have n:0<=a:=by rw[b.out];exact Int.natCast_nonneg _
  have L:a<18446744073709551616:=by
   rw[b.out];have:=Nat.div_le_self u (16 ^ r);omega
  have t:0<=a%16:=by omega
  have v:a%16<16:=by omega
  have f:Ck (mq (a%16)=BC u r):=by show _=_;unfold BC;rw[b.out];rfl
  by_cases C:r<15
  .have ap:16<=a:=by
    rw[b.out];have J:16 ^ (r+1)<=16 ^ 15:=Nat.pow_le_pow_right (by omega) (by omega);have q:16 ^ 15=1152921504606846976:=by decide
    have a0:16<=u / 16 ^ r:=by
     rw[Nat.le_div_iff_mul_le (Nat.pow_pos (by omega))];rw[Nat.pow_succ]at J;omega
    omega
   have I:Ck (a / 16=((u / 16 ^ (r+1):Nat):Int)):=by
    show _=_;rw[b.out,Nat.pow_succ,<-Nat.div_div_eq_div_mul];rfl
   have ad:bits .and B6 a 15=a%16:=amw a n L;have B:=λw=>adh (a%16) t v w;generalize a%16=D at t v ad B f;obtain⟨c,K⟩:∃c:Nat,64-r=c:=⟨_,rfl⟩;have ak:∃e,wr.cell? ⟨w.heap.size,c,Z⟩=A0 e:=by
    rw[aj _ _ _ _ _ _ d];exact⟨_,yy (by omega)⟩
   obtain⟨e,an⟩:=ak;have ao:wr.frozen? ⟨w.heap.size,c,Z⟩=Y:=cC _ _ _ _ _ d;have g:=m.step (by omega) (mq D) f;rw[K]at g;obtain⟨i,A⟩:∃i:Int,65-(r:Int)=i:=⟨_,rfl⟩;have a6:i-1=(c:Int):=by omega
   have a7:i<=65:=by omega
   have a8:c<=64:=by omega
   have G:=am A;rw[A];go_wp2;go_roundw
   case rel=>exact⟨r+1,a / 16,by omega,by have:=G.out;congr 1;omega,rfl,I,g,z.setCell (by simp) _⟩
   case measure=>simp[B2];omega
  .obtain rfl:r=15:=by omega
   have E:a<16:=by
    rw[b.out];have q:16 ^ 15=1152921504606846976:=by decide
    rw[q];omega
   have B:=λw=>adh a n E w;rw[Int.emod_eq_of_lt n E]at f;obtain⟨e,an⟩:∃e,wr.cell? ⟨w.heap.size,49,Z⟩=A0 e:=by
    rw[aj _ _ _ _ _ _ d];exact⟨_,yy (by omega)⟩
   have ao:wr.frozen? ⟨w.heap.size,49,Z⟩=Y:=cC _ _ _ _ _ d;have g:Rw w.heap.size (wr.setCell ⟨w.heap.size,49,Z⟩ (S Ce (mq a))) u 16:=m.step (r:=15) (by omega) (mq a) f;have al:=g.conv;rw[H.out]at al;have ap:¬16<=a:=by omega
   go_wp2;go_ret2;exact⟨rfl,z.setCell (by simp) _⟩
def ahe(u:Nat)(b:9223372036854775808<=u)(c:u<18446744073709551616)(w:A2)(h:w.cell? ⟨9,15,Z⟩=A0 (S Ce 4)):Br O 229 #[S B6 (u:Int),S W 16] w (gy w (Ax (eD ((A5 16).map λj=>BC u (15-j))))):=by
 have a:=aks u b c w h;generalize eD ((A5 16).map λj=>BC u (15-j))=e at a;generalize (u:Int)=f at a;go_in;go_wp2_with (go_at_call 265;refine a.mono ?_;rintro g i ⟨rfl,d⟩);go_ret;exact⟨rfl,d⟩
def akt(u:Nat)(b:9223372036854775808<=u)(c:u<18446744073709551616)(w:A2)(h:w.cell? ⟨9,15,Z⟩=A0 (S Ce 4)):Br O 176 #[S B6 (u:Int),S W 16] w (gy w (Ax (eD ((A5 16).map λj=>BC u (15-j))))):=by
 have a:=ahe u b c w h;generalize eD ((A5 16).map λj=>BC u (15-j))=e at a;generalize (u:Int)=f at a;go_in;go_wp2_with (go_at_call 229;refine a.mono ?_;rintro g i ⟨rfl,d⟩);go_ret;exact⟨rfl,d⟩
def Ed(a b:List Int):eD (a++b)=eD a++eD b:=by
 have h:∀(d:List Int)(c:ByteArray),d.foldl (λe f=>e.push (UInt8.ofNat f.toNat)) c=c++d.foldl (λe f=>e.push (UInt8.ofNat f.toNat)) T:=by
  intro d
  induction d with
  |nil=>intro c;simp
  |cons a e g=>
   intro c;rw[jd,jd,g (c.push _),g (ByteArray.empty.push _)];apply kI;simp[ByteArray.push,lm]
 unfold eD;rw[List.foldl_append];exact h b _
def aku(u:Nat):I5 u 16=⟨#[48,120]⟩++eD ((A5 16).map λj=>BC u (15-j)):=by
 have c:∀a,I5 u a=⟨#[48,120]⟩++eD ((A5 a).map λj=>BC u (15-j)):=by
  intro a
  induction a with
  |zero=>rfl
  |succ a b=>rw[I5,b,List.range_succ,eK,Ed,aK];rfl
 exact c 16
def aad(n:Int)(k: -9223372036854775808<=n)(l:n<0)(w:A2)(h:w.cell? ⟨9,15,Z⟩=A0 (S Ce 4)):Br O 121 #[S W n] w (gy w (Ax (I5 (n+18446744073709551616).toNat 16))):=by
 obtain⟨a,m⟩:∃a:Nat,(a:Int)=n+18446744073709551616:=⟨(n+18446744073709551616).toNat,by omega⟩;rw[show(n+18446744073709551616).toNat=a by omega,aku];have c:=akt a (by omega) (by omega) w h;have f:IntKind.u64.wrap n=(a:Int):=by rw[IntKind.wrap_u64];omega
 have e:(eD ((A5 16).map λb=>BC a (15-b))).size=16:=rfl;generalize eD ((A5 16).map λb=>BC a (15-b))=g at c e;generalize (a:Int)=i at c f;go_in;go_wp2_with (go_at_call 176;refine c.mono ?_;rintro j o ⟨rfl,d⟩);go_ret;exact⟨rfl,d⟩
def AF(d:List UInt8):List Int:=d.map λb=>(b.toNat:Int)
def GK(d:List UInt8):eD (AF d)=⟨d.toArray⟩:=by
 have g:∀(d:List UInt8)(a:ByteArray),(AF d).foldl (λc h=>c.push (UInt8.ofNat h.toNat)) a=⟨a.data++d.toArray⟩:=by
  intro d
  induction d with
  |nil=>intro a;simp[AF]
  |cons b c f=>
   intro a;show(AF c).foldl _ (a.push (UInt8.ofNat ((b.toNat:Int)).toNat))=_;rw[f];have e:UInt8.ofNat ((b.toNat:Int)).toNat=b:=by simp
   rw[e];simp[ByteArray.push]
 have:=g d T;unfold eD;rw[this];simp
def pre(c:Nat):List Int:=if c=0 then [] else AF (U c)
def ahf(c:Nat)(h:c≠0):pre c=pre (c / 10)++[48+((c%10:Nat):Int)]:=by
 have d:∀b,b<10->(((UInt8.ofNat (48+b)).toNat:Nat):Int)=48+(b:Int):=λb e=>by
  rw[UInt8.toNat_ofNat',Nat.mod_eq_of_lt (by omega)];omega
 unfold pre;rw[aa h];by_cases a:c<10
 .rw[ae (by omega),U,pf a,Nat.mod_eq_of_lt a];show [(((UInt8.ofNat (48+c)).toNat:Nat):Int)]=_;rw[d c a];rfl
 .rw[aa (by omega),U,dif_neg a];show List.map _ (_++_)=_;rw[eK];show AF (U (c / 10))++[(((UInt8.ofNat (48+c%10)).toNat:Nat):Int)]=_;rw[d _ (by omega)]
def F4(N:Nat)(av:N≠0)(bo:N<=9223372036854775807)(w:A2):Br O 231 #[S W (N:Int)] w (gy w (Ax ⟨(U N).toArray⟩)):=by
 obtain⟨f,H⟩:∃f:Int,(N:Int)=f:=⟨_,rfl⟩;rw[H];have bF:0<f:=by omega
 have bd:f<=9223372036854775807:=by omega
 have b1:(f==0)=Y:=by rw[eJ];omega
 have b0:¬f<0:=by omega
 have ad:=am H;go_in;go_wp2;go_loopw [0,4,5] (λx bj b2 wr=>∃(c:Int) (a:List Int),x= S W c/\0<=c/\c<=9223372036854775807/\Ck (c.toNat<10 ^ (19-a.length)/\a.length<=19/\AF (U N)=pre c.toNat++a.reverse)/\wr.ownsRow w.heap.size 5 1 bj a.length (B8 a)/\be w wr) (λx _ _ _=>(B2 x).toNat)
 case atStart=>
  refine⟨f,[],rfl,by omega,bd,⟨?_,by simp,?_⟩,fE _ _ _ _,ah _ _⟩
  .have:(10:Nat) ^ (19-([]:List Int).length)=10000000000000000000:=by decide
   rw[this];omega
  .rw[show f.toNat=N by have:=ad.out;omega];unfold pre;rw[aa av];simp
 case round=>
  obtain⟨c,a,rfl,bk,bl,m,t,k⟩:=hrel;by_cases r:c=0
  .subst r;have⟨_,G,a2⟩:=m.out;have E:AF (U N)=a.reverse:=a2;have s:0<a.length:=by
    have o:=congrArg List.length E;rw[Hz]at o;have:0<(AF (U N)).length:=by
     rw[U];split<;>simp[AF]
    omega
   have K:Ck (eD a.reverse=⟨(U N).toArray⟩):=by show _=_;rw[<-E,GK]
   rcases t.2 with⟨h,bb⟩|⟨p,an,bn,J,bw,F,_,bA,I,a9⟩
   .have:a=[]:=by
     have bp:(B8 a).length=a.length:=agb a;have:=t.1;simp at bb;omega
    rw[this]at s;simp at s
   .have C:∀j,j<a.length->wr.cell? ⟨p,j,Z⟩=A0 (S Ce (a.getD j 0)):=λj a5=>by
     rw[aj _ _ _ _ _ _ F];have e:(B8 a)[j]?=A0 (S Ce (a.getD j 0)):=by simp[B8,a5,List.getD]
     rw[<-a9,lp]at e;split at e
     .simpa using e
     .cases e
    have a3:p<wr.heap.size:=ai F;have⟨d,q⟩:=aJ a.length;rw[q]at s G C J;subst J;have a7:∀b,b<d->a.reverse.take (b+1)=a.reverse.take b++[a.getD (d-1-b) 0]:=λb u=>by
     have o:a.reverse[b]?=A0 (a.getD (d-1-b) 0):=by
      rw[List.getElem?_reverse (by omega),List.getD,q,az (by omega)];rfl
     rw[jc,o];rfl
    have I:∀b,b<=d->(eD (a.reverse.take b)).size=b:=λb u=>by
     have:∀i:List Int,(eD i).size=i.length:=by
      intro i
      induction i with
      |nil=>rfl
      |cons A B bc=>rw[show A::B=[A]++B from rfl,Ed,aq,bc,bm];rfl
     rw[this,eE,Hz];omega
    have al:=am a7;have L:=am q;go_wp2;go_loopw [6,7] (λbh v wq=>∃b:Nat,b<=d/\v= S W ((d:Int)-1-(b:Int))/\bh= Ax (eD (a.reverse.take b))/\be wr wq) (λ_ v _=>(B2 v+1).toNat)
    case atStart=>exact⟨0,by omega,by first|rfl|(congr 1;omega),rfl,ah _ _⟩
    case round=>
     obtain⟨b,u,rfl,rfl,l⟩:=hrel;have a8:=I b u;by_cases ba:b<d
     .obtain⟨g,ax⟩:∃g:Nat,d-1-b=g:=⟨_,rfl⟩;have a1:=(qC l a3).trans (C g (by omega));have z:=al.out b ba;rw[ax]at z;have n:Ck (eD (a.reverse.take b)++eD [a.getD g 0]=eD (a.reverse.take (b+1))):=by show _=_;rw[z,Ed]
      generalize a.getD g 0=i at a1 n;have bt:=λw=>qx (wG w i);have bE:(eD [i]).size=1:=rfl;have a4:(d:Int)-1-(b:Int)=(g:Int):=by omega
      have br:g<d:=by omega
      generalize eD (a.reverse.take b)=bf at a8 n⊢;rw[a4];go_wp2;go_roundw
      case rel=>exact⟨b+1,by omega,by first|rfl|(congr 1;omega),by rw[n.out],l.alloc l.size _⟩
      case measure=>simp[B2]
     .obtain rfl:b=d:=by omega
      have bD:¬(0:Int)<=(b:Int)-1-(b:Int):=by omega
      rw[cj (by rw[Hz,L.out];exact af _)];have y:=K.out;generalize eD a.reverse=bf at y⊢;subst y;go_wp2;go_ret;exact⟨rfl,k.trans (l.mono k.size)⟩
  .have bv:(c==0)=Y:=by rw[eJ];exact r
   have bs:(c !=0)=Q:=by rw[CK];exact r
   have bx:¬c%10<0:=by omega
   have G:a.length<=18:=by
    have⟨e,ao,_⟩:=m.out;rcases bI a.length 19 with h|h
    .omega
    .rw[show 19-a.length=0 by omega]at e;simp at e;omega
   have ak:Ck ((c / 10).toNat<10 ^ (19-(a++[48+c%10]).length)/\(a++[48+c%10]).length<=19/\AF (U N)=pre (c / 10).toNat++(a++[48+c%10]).reverse):=by
    have⟨e,ao,ap⟩:=m.out;have au:(a++[48+c%10]).length=a.length+1:=by simp
    refine⟨?_,by omega,?_⟩
    .rw[au];have ar:10 ^ (19-a.length)=10 ^ (19-(a.length+1))*10:=by rw[<-Nat.pow_succ];congr 1;omega
     rw[ar]at e;have:(c / 10).toNat=c.toNat / 10:=by omega
     rw[this];omega
    .rw[ap,ahf c.toNat (by omega),show(c / 10).toNat=c.toNat / 10 by omega,show((c.toNat%10:Nat):Int)=c%10 by omega];simp
   go_wp2_with (at_builtin;refine ng rfl (.tmp 20) (.tmp 24) rfl w.heap.size u4 a.length a rfl t k.size (by omega) [48+c%10] 1 rfl (by decide) (by decide) _ rfl rfl ?_;intro p an w1 a6 a0);go_roundw
   case rel=>exact⟨c / 10,a++[48+c%10],by first|rfl|(congr 1;omega),by omega,by omega,ak,by rw[bm];exact a6,k.trans (a0.mono (by omega))⟩
   case measure=>simp[B2];omega
structure Lay (w:A2):Prop where
 tabs:vD w
 errs:pH w
 pow:E1 O w "internal/strconv.uint64pow10" .u64 Lib.pow10Tab
 brj:w.cell? ⟨9,15,Z⟩=A0 (.int .u8 4)
def tw{P:Program}{B:Nat}{n:String}{cs:Array B3}(h:w.var? P n=A0 cs)(c:Below B w w')(b:w.heap.size<=B):w'.var? P n=A0 cs:=by
 unfold World.var? at h⊢;cases hg:P.globalNamed n with
 |none=>simp[hg]at h
 |some a=>
  simp only[hg,CF]at h⊢;have d:a<w.heap.size:=by
   rcases bI a w.heap.size with h'|h'
   .exact h'
   .simp[yw h']at h
  rw[c.block a (iu d b)];exact h
def Lay.below{B:Nat}(h:Lay w)(b:Below B w w')(a:w.heap.size<=B):Lay w':=
 ⟨h.tabs.below b a,h.errs.below b a,tw h.pow b a,(qC b (iu (yA w _ h.brj) a)).trans h.brj⟩
def ahg(w:A2)(c:Nat)(os:Array Obj):be w (Sort.grow (w.drewN c) os):=
 ⟨rfl,rfl,rfl,by show w.heap.size<=(w.heap++os).size;simp,λb a=>by show(w.heap++os)[b]?=_;rw[Array.getElem?_append_left a]⟩
def tA(n:Int):ByteArray:=if n<0 then I5 (n+18446744073709551616).toNat 16 else⟨(U n.toNat).toArray⟩
def afi(N:Nat)(c:N<=9223372036854775807)(w:A2):Br O 231 #[S W (N:Int)] w (gy w (Ax ⟨(U N).toArray⟩)):=by
 by_cases a:N=0
 .subst a;have b:(⟨(U 0).toArray⟩:ByteArray)=⟨#[48]⟩:=by rw[U,pf (by omega)];rfl
  rw[b];show Br O 231 #[S W 0] w _;go_in;go_wp2;go_ret;exact⟨rfl,ah _ _⟩
 .exact F4 N a c w
def afj(n:Int)(c: -9223372036854775808<=n)(g:n<=9223372036854775807)(w:A2):Br O 186 #[S W n] w (gy w (Ax (tA n))):=by
 unfold tA;by_cases a:n<0
 .rw[ae a];exact afh n c a w
 .rw[aa a];have b:∀w,Br O 231 #[S W n] w (gy w (Ax ⟨(U n.toNat).toArray⟩)):=λw=>by
   have:=afi n.toNat (by omega) w;rw[show((n.toNat:Nat):Int)=n by omega]at this;exact this
  generalize (⟨(U n.toNat).toArray⟩:ByteArray)=e at b;have h:0<=n:=by omega
  go_in;go_wp2_with (go_at_call 231;refine(b _).mono ?_;rintro f i ⟨rfl,d⟩);go_ret;exact⟨rfl,d⟩
def aae(n:Int)(b: -9223372036854775808<=n)(f:n<=9223372036854775807)(w:A2)(c:Lay w):Br O 121 #[S W n] w (gy w (Ax (tA n))):=by
 unfold tA;by_cases a:n<0
 .rw[ae a];exact aad n b a w c.brj
 .rw[aa a];have d:Br O 177 #[S W n,S W 10] w (gy w (Ax ⟨(U n.toNat).toArray⟩)):=by
   refine(Tryz.strconv_FormatInt_10 n b f w c.pow).mono ?_;rintro e h ⟨rfl,k,l,rfl⟩;refine⟨by unfold Lib.itoa;rw[aa a],ahg _ _ _⟩
  generalize (⟨(U n.toNat).toArray⟩:ByteArray)=i at d;have j:¬n<0:=a;go_in;go_wp2_with (go_at_call 177;refine d.mono ?_;rintro e h ⟨rfl,g⟩);go_ret;exact⟨rfl,g⟩
def GL(s:ByteArray)(d:s.size<=1100000)(w:A2):Br O 31 #[Ax s] w (gy w (Ax s)):=by
 have b:=λw=>Tryz.stringslite_Clone s w (by omega);go_in;go_wp2_with (go_at_call 97;refine(b _).mono ?_;rintro c e ⟨rfl,a⟩);go_ret;exact⟨rfl,a⟩
structure Wt where
 k:Int
 n:Int
 x:ByteArray
 w:ByteArray
def sgF(k:Int):Wt:=⟨k,0,z0,dG k⟩
def xk(x:ByteArray):Wt:=⟨1,0,x,x⟩
def nlW:Wt:=⟨7,0,z0,⟨#[10]⟩⟩
def bN(k op n:Int)(x:ByteArray)(nm:List ByteArray):Nd:=⟨k,0,0,0,op,n,x,nm,[]⟩
def Nd.bare(N:Nd):Nd:=bN N.k N.op N.n N.x N.nm
def Fo.bare:Fo->Fo
 | .nil=> .nil
 | .cons N k r=> .cons N.bare k.bare r.bare
def fC:∀(a b:Fo),(a.app b).bare=a.bare.app b.bare
 | .nil,b=>rfl
 | .cons N k r,b=>by simp only[Fo.app,Fo.bare,fC r b]
def aaf:∀(a:Fo),a.bare.len=a.len
 | .nil=>rfl
 | .cons N k r=>by simp only[Fo.bare,Fo.len,aaf r]
def dl(N:Nd)(k:Fo):(one N k).bare=one N.bare k.bare:=rfl
def ahh{X:Fo}{N:Nd}{a:Fo}(h:X.bare=one N a):∃M L,X=one M L/\M.bare=N/\L.bare=a:=by
 cases X with
 |nil=>cases h
 |cons M L b=>
  unfold one at h;simp only[Fo.bare,Fo.cons.injEq]at h;cases b with
  |nil=>exact⟨M,L,rfl,h.1,h.2.1⟩
  |cons _ _ _=>exact absurd h.2.2 (by simp[Fo.bare])
def afk(k:Int):Nd:=if k=10 then bN 28 0 0 z0 [] else if k=26 then bN 29 0 0 z0 [] else bN 31 (k-60) 0 z0 []
def ahi(k:Int)(s:Tk)(e:Int):(As k s e).bare=afk k:=by unfold As afk;split;rfl;split<;>rfl
inductive qc (tk:Nat->Tk) (n:Nat):Nat->List Wt->Nat->Prop where
 |nil {i:Nat}:qc tk n i [] i
 |tok {i j:Nat}{t:Wt}{l:List Wt}:t.k≠7->(tk i).k=t.k->(tk i).n=t.n->(tk i).x=t.x->i<n->qc tk n (i+1) l j->qc tk n i (t::l) j
 |sep {i j:Nat}{t:Wt}{l:List Wt}:t.k=7->(tk i).k=5->i<n->qc tk n (i+1) l j->qc tk n i (t::l) j
 |more {i j:Nat}{t:Wt}{l:List Wt}:t.k=7->(tk i).k=5->i<n->qc tk n (i+1) (t::l) j->qc tk n i (t::l) j
def DD(tk:Nat->Tk)(n:Nat)(st:List Int)(i j:Nat):Prop:=∃m,D tk n m st i j
section
variable {tk : Nat → Tk} {n : Nat}
def qc.split{i j:Nat}{l:List Wt}(h:qc tk n i l j):∀a b,l=a++b->∃k,qc tk n i a k/\qc tk n k b j:=by
 induction h with
 |nil=>
  intro a b c;obtain⟨rfl,rfl⟩:a=[]/\b=[]:=by simpa using c.symm
  exact⟨_,.nil,.nil⟩
 |@tok i j g l d e s t f p q=>
  intro a b c;cases a with
  |nil=>exact⟨i,.nil,by rw[<-(show g::l=b from c)];exact .tok d e s t f p⟩
  |cons u a=>
   obtain⟨rfl,r⟩:=mK c;have⟨k,m,o⟩:=q a b r;exact⟨k,.tok d e s t f m,o⟩
 |@sep i j g l d e f p q=>
  intro a b c;cases a with
  |nil=>exact⟨i,.nil,by rw[<-(show g::l=b from c)];exact .sep d e f p⟩
  |cons u a=>
   obtain⟨rfl,r⟩:=mK c;have⟨k,m,o⟩:=q a b r;exact⟨k,.sep d e f m,o⟩
 |@more i j g l d e f p q=>
  intro a b c;cases a with
  |nil=>exact⟨i,.nil,by rw[<-(show g::l=b from c)];exact .more d e f p⟩
  |cons u a=>
   obtain⟨rfl,r⟩:=mK c;have⟨k,m,o⟩:=q (g::a) b c;exact⟨k,.more d e f m,o⟩
def qc.app{i j:Nat}{a b:List Wt}(h:qc tk n i (a++b) j):∃k,qc tk n i a k/\qc tk n k b j:=h.split a b rfl
def qc.le{i j:Nat}{l:List Wt}(h:qc tk n i l j):i<=j:=by
 induction h with
 |nil=>exact af _
 |tok _ _ _ _ _ _ a=>omega
 |sep _ _ _ _ a=>omega
 |more _ _ _ _ a=>omega
def qc.head{i j:Nat}{t:Wt}{l:List Wt}(h:qc tk n i (t::l) j)(b:t.k≠7:=by simp[sgF,xk]):(tk i).k=t.k/\(tk i).n=t.n/\(tk i).x=t.x/\i<n/\qc tk n (i+1) l j:=by
 cases h with
 |tok a c d e f g=>exact⟨c,d,e,f,g⟩
 |sep a=>exact absurd a b
 |more a=>exact absurd a b
def qc.sg{i j:Nat}{l:List Wt}(h:qc tk n i (sgF k::l) j)(d:k≠7:=by decide):(tk i).k=k/\i<n/\qc tk n (i+1) l j:=by
 have⟨a,_,_,b,c⟩:=h.head d;exact⟨a,b,c⟩
def qc.nl{i j:Nat}{l:List Wt}(h:qc tk n i l j):∀{m},l=nlW::m->∃k,i<k/\qc tk n k m j/\∀q,i<=q->q<k->(tk q).k=5/\q<n:=by
 induction h with
 |nil=>intro m a;cases a
 |tok d=>intro m a;obtain⟨rfl,_⟩:=mK a;exact absurd rfl d
 |@sep i j s l d e f o p=>
  intro m a;obtain⟨rfl,rfl⟩:=mK a;exact⟨i+1,Nat.lt_succ_self _,o,λq c b=>by
   obtain rfl:q=i:=by omega
   exact⟨e,f⟩⟩
 |@more i j s l d e f o p=>
  intro m a;have⟨k,c,b,r⟩:=p a;exact⟨k,by omega,b,λq c b=>by
   rcases jz c with rfl|g
   .exact⟨e,f⟩
   .exact r q g b⟩
def qc.nils{i j:Nat}(h:qc tk n i [] j):i=j:=by cases h;rfl
def DD.tok{s:Int}{r:List Int}{i j:Nat}(h:(tk i).k=s)(a:i<n)(d:DD tk n r (i+1) j)(b:s<100:=by decide):DD tk n (s::r) i j:=by
 obtain⟨c,d⟩:=d;exact⟨c+1,.tok b h a d⟩
def DD.exp{s:Int}{r L:List Int}{i j:Nat}(ht:(tk i).k=t)(e:xE s t=(L,Q))(a:i<n)(d:DD tk n (L++r) i j)(b:100<=s:=by decide):DD tk n (s::r) i j:=by
 obtain⟨c,d⟩:=d;exact⟨c+1,.exp b a (by rw[ht,e]) (by rw[ht,e];exact d)⟩
end
def aqa(t:Int):xE 119 t=([120,121],gJ t):=by simp[xE,apL]
def amx(t:Int):xE 120 t=KB t:=by simp[xE,ap0]
def aqb(h:jx t=Q):xE 121 t=([t,119],Q):=by simp[xE,anq,h]
def xC(h:jx t=Y):xE 121 t=([],Q):=by simp[xE,anq,h]
def aqc(h:yK t=Y):xE 122 t=([],Q):=by
 have:t≠48/\t≠44/\t≠40:=by unfold yK at h;have:=mh h;omega
 simp[xE,ap1,ac4,this.1,this.2.1,this.2.2]
def ahj(t:Int):xE 124 t=([119,125],gJ t):=by simp[xE,ap3]
def aqd(h:t≠46):xE 125 t=([],Q):=by simp[xE,ap4,h]
def aqe(h:t≠46):xE 104 t=([],Q):=by simp[xE,apJ,h]
def lkw(k:Int):Int:=if k=72 then 5 else C0 k
def oG(a k:Int):Prop:=yK k=Y/\(jx k=Q->lkw k<=a)
def oG.mono{a r:Int}(h:oG a k)(c:a<=r):oG r k:=⟨h.1,λb=>Int.le_trans (h.2 b) c⟩
def vh{tk:Nat->Tk}{i:Nat}{d:Int}(h:(tk i).k=k)(b:yK k=Y:=by decide)(c:jx k=Y:=by decide):oG d (tk i).k:=by rw[h];exact⟨b,λa=>by rw[c]at a;cases a⟩
def AG(k:Int):1<=C0 k/\C0 k<=10:=by
 unfold C0
 (repeat' split)
 all_goals omega
def zl(k:Int):C0 k<=lkw k/\lkw k<=10:=by
 have:=AG k;unfold lkw;split
 .rename_i a;subst a;decide
 .omega
def adi(k:Int):C0 k<=rpw k/\rpw k<=11:=by
 have:=AG k;unfold rpw;split
 .rename_i a;subst a;decide
 .omega
def akv(h:lkw t<=C0 k):C0 t<rpw k:=by
 unfold rpw;unfold lkw at h;by_cases a:k=72
 .subst a;rw[ae rfl];have c:C0 72=4:=by decide
  rw[c]at h;split at h
  .omega
  .rename_i b;have:C0 t≠4:=by
    unfold C0
    (repeat' split)
    all_goals omega
   omega
 .rw[aa a];split at h
  .rename_i b;subst b;have:C0 72=4:=by decide
   omega
  .omega
def oe(l:List Wt)(F:Fo)(f:Int):Prop:=∀(tk:Nat->Tk)(n a b:Nat),b<n->qc tk n a l b->oG f (tk b).k->
 ∃e:Fo,e.bare=F/\a<b/\gJ (tk a).k=Q/\(∀p d c,p<=f->P tk n (.more p (tk a) e) b d c->P tk n (.expr p) a d c)/\∀g c,DD tk n (121::g) b c->DD tk n (119::g) a c
def AH(l:List Wt)(F:Fo):Prop:=∀(tk:Nat->Tk)(n b a:Nat),a<n->qc tk n b l a->yK (tk a).k=Y->
 ∃c:Fo,c.bare=F/\b<a/\gJ (tk b).k=Q/\P tk n .unit b c a/\∀e d,DD tk n e a d->DD tk n (120::e) b d
def sta(a:Nat):Int:=if a=0 then 120 else if a=1 then 100 else if a=2 then 113 else 116
def aft(b a:Nat):Int:=if b=0 then 122 else if b=1 then(if a=2 then 111 else if a=3 then 112 else 110) else if b=2 then(if 2<=a then 115 else 114) else(if a=2 then 118 else 117)
def pst(a:Nat):List Int:=if a=1 then [101] else []
def yj(l:List Wt)(F:Fo)(h:Nat):Prop:=∀(tk:Nat->Tk)(n a b:Nat),b<n->qc tk n a l b->
 ∃f:Fo,f.bare=F/\a<b/\((tk a).k=1\/(tk a).k=40)/\(∀e c,P tk n (.post (tk a) f) b e c->P tk n .base a e c)/\
  ∀d g c,d<4->DD tk n (aft d h::(pst d++g)) b c->DD tk n (sta d::g) a c
def ESc(l:List Wt)(F:Fo):Prop:=∀(tk:Nat->Tk)(n b a:Nat),a<n->qc tk n b l a->oG 0 (tk a).k->(tk a).k≠46->
 ∃c:Fo,c.bare=F/\b<a/\gJ (tk b).k=Q/\P tk n .exprs b c a/\∀e d,DD tk n e a d->DD tk n (124::e) b d
def MEc(l:List Wt)(F:Fo):Prop:=∀(tk:Nat->Tk)(n b a:Nat),a<n->qc tk n b l a->oG 0 (tk a).k->(tk a).k≠46->
 ∃c:Fo,c.bare=F/\oG 0 (tk b).k/\P tk n .moreE b c a/\∀e d,DD tk n e a d->DD tk n (125::e) b d
def ahk:∀a:Fin 4,xE (sta a.val) 1=([1,aft a.val 0]++pst a.val,Q)/\xE (sta a.val) 40=([40,119,41,aft a.val 3]++pst a.val,Q)/\100<=sta a.val:=by decide
def I6:∀a:Fin 4,∀kd:Fin 4,xE (aft a.val kd.val) 48=([48,1,aft a.val 1],Q)/\xE (aft a.val kd.val) 44=([44,119,45,aft a.val 1],Q)/\xE (aft a.val kd.val) 40=([40,123,41,aft a.val 2],Q)/\100<=aft a.val kd.val:=by decide
section
variable {l m a b : List Wt} {F G K : Fo} {N : Nd} {q k : Int} {kd : Nat} {w x y z : ByteArray}
def AH.ex(h:AH l F)(s:Int):oe l F s:=λt r o p i n g=>by
 have⟨b,d,j,a,m,f⟩:=h t r o p i n g.1;refine⟨b,d,j,a,λv u q _ k=> .ex (λe=>by rw[e]at a;exact absurd a (by decide)) (by omega) m k,λw q c=>?_⟩;exact DD.exp rfl (by rw[aqa,a]) (by omega) (f _ _ c)
def oe.le{r:Int}(h:oe l F q)(m:r<=q):oe l F r:=λv t o p g n f=>by
 have⟨b,c,i,d,k,e⟩:=h v t o p g n (f.mono m);exact⟨b,c,i,d,λu a s w j=>k u a s (by omega) j,e⟩
def yj.un(h:yj l F kd):AH l F:=λs q n o a m b=>by
 have⟨d,f,j,c,k,i⟩:=h s q n o a m;refine⟨d,f,j,by rcases c with g|g<;>rw[g]<;>decide,.ubas c (by omega) (k _ _ (.pstop a b)),λr p e=>?_⟩;exact i 0 r p (by decide) (DD.exp rfl (aqc b) a e (by decide:(100:Int)<=122))
def oe.bin(h:oe l F (lkw k))(g:oe m G (rpw k))(d:jx k=Q)(E:k<100)(H:k≠7)(L:yK k=Y):oe (l++(sgF k::m)) (one (afk k) (F.app G)) (C0 k):=λc u q f n K j=>by
 have⟨s,ak,al⟩:=K.app;have⟨a,b,an⟩:=al.sg H;obtain⟨w,y,ao,A,I,B⟩:=h c u q s b ak (by rw[a];exact⟨L,λ_=>Int.le_refl _⟩);have⟨i,z,ap,_,J,C⟩:=g c u (s+1) f n an (j.mono (adi k).1);refine⟨one (As k (c q) (c (f-1)).t) (w.app i),by rw[dl,ahi,fC,y,z],by omega,A,λad v r e o=>?_,λar r x=>?_⟩
 .refine I ad v r (Int.le_trans e (zl k).1) ?_;have p:=J (rpw k) i f (Int.le_refl _) (.mstop n λg=>akv (j.2 g));rw[<-a]at e d p o;exact .mgo b d e p o
 .exact B _ _ (DD.exp a (aqb d) b (DD.tok a b (C _ _ x) E))
def AH.pre(h:AH l F)(d:qh k=Q)(r:k≠7)(q:k<100):AH (sgF k::l) (one (bN 30 (aka k) 0 z0 []) F):=λb v e f p u o=>by
 have⟨a,c,w⟩:=u.sg r;have⟨g,j,y,x,s,n⟩:=h b v (e+1) f p w o;have m:gJ k=Q:=by unfold gJ;rw[d];simp
 refine⟨one (nd 30 (b e) (b (f-1)).t (aka (b e).k) 0 z0 []) g,by rw[dl,j,a];rfl,by omega,by rw[a];exact m,.upre (by rw[a];exact d) c s,λA z i=>?_⟩;exact DD.exp a (by rw[amx];unfold KB;rw[ae d]) c (DD.tok a c (n _ _ i) q)
def AH.atom{t:Wt}(o:∀(tk:Nat->Tk) (n i:Nat),(tk i).k=t.k->(tk i).n=t.n->(tk i).x=t.x->i+1<n->∃X:Fo,X.bare=F/\P tk n .unit i X (i+1))(h:t.k≠7:=by simp[sgF])(g:t.k<100:=by simp[sgF])(q:KB t.k=([t.k],Q):=by simp[sgF,KB,qh,gJ])(l:gJ t.k=Q:=by simp[sgF,qh,gJ]):AH [t] F:=λtk n i u m p s=>by
 have⟨a,d,e,b,r⟩:=p.head h;obtain rfl:=r.nils;have⟨X,f,j⟩:=o tk n i a d e m;exact⟨X,f,Nat.lt_succ_self _,by rw[a];exact l,j,λw v c=>DD.exp a (by rw[amx,q]) b (DD.tok a b c g)⟩
def anL{v:Int}:AH [⟨2,v,z,w⟩] (one (bN 23 0 v z0 []) .nil):=AH.atom λe g d a b f c=>⟨_,by rw[dl];show one (bN 23 0 (e d).n z0 []) .nil=_;rw[b],.uint a c⟩
def an0:AH [⟨3,0,x,w⟩] (one (bN 24 0 0 x []) .nil):=AH.atom λe g d a f b c=>⟨_,by rw[dl];show one (bN 24 0 0 (e d).x []) .nil=_;rw[b],.uflt a c⟩
def an1:AH [⟨4,0,x,w⟩] (one (bN 25 0 0 x []) .nil):=AH.atom λe g d a f b c=>⟨_,by rw[dl];show one (bN 25 0 0 (e d).x []) .nil=_;rw[b],.ustr a c⟩
def an2:AH [sgF 24] (one (bN 20 0 0 z0 []) .nil):=AH.atom λg f e a c d b=>⟨_,rfl,.unil a b⟩
def an4:AH [sgF 29] (one (bN 21 0 0 z0 []) .nil):=AH.atom λg f e a c d b=>⟨_,rfl,.utru a b⟩
def an5:AH [sgF 17] (one (bN 22 0 0 z0 []) .nil):=AH.atom λg f e a c d b=>⟨_,rfl,.ufls a b⟩
def an6:AH [sgF 49] (one (bN 27 0 0 z0 []) .nil):=AH.atom λg f e a c d b=>⟨_,rfl,.urst a b⟩
def akw:yj [xk x] (one (bN 26 0 0 x []) .nil) 0:=λd r c q p j=>by
 have⟨a,_,f,b,n⟩:=j.head;obtain rfl:=n.nils;refine⟨one (nd 26 (d c) (d c).t 0 0 (d c).x []) .nil,by rw[dl,f];rfl,Nat.lt_succ_self _,.inl a,λo k i=> .bname a b i,λg s k h e=>?_⟩;have⟨l,_,m⟩:=ahk ⟨g,h⟩;exact DD.exp a l b (DD.tok a b e) m
def yj.field(h:yj l F kd)(s:kd<4):yj (l++[sgF 48,xk x]) (one (bN 33 0 0 x []) F) 1:=λa y j L J w=>by
 have⟨d,B,C⟩:=w.app;have⟨b,c,E⟩:=C.sg;have⟨e,_,o,i,G⟩:=E.head;obtain rfl:=G.nils;have⟨m,p,K,q,v,r⟩:=h a y j d c B;refine⟨one (nd 33 (a j) (a (d+1)).t 0 0 (a (d+1)).x []) m,by rw[dl,p,o];rfl,by omega,q,λI k u=>v _ _ (.pdot b e i u),λf H k g n=>?_⟩;have⟨z,_,_,A⟩:=I6 ⟨f,g⟩ ⟨kd,s⟩;exact r f H k g (DD.exp b z c (DD.tok b c (DD.tok e i n)) A)
def oG.of{c k:Int}(h:yK k=Y)(b:jx k=Y):oG c k:=⟨h,λa=>by rw[b]at a;cases a⟩
def yj.index(h:yj l F kd)(z:kd<4)(g:oe m G 0):yj (l++(sgF 44::(m++[sgF 45]))) (one (bN 32 0 0 z0 []) (F.app G)) 1:=λd q n av ap E=>by
 have⟨p,J,K⟩:=E.app;have⟨e,c,L⟩:=K.sg;have⟨f,ad,ak⟩:=L.app;have⟨a,b,al⟩:=ak.sg;obtain rfl:=al.nils;have⟨r,u,ar,w,B,x⟩:=h d q n p c J;have⟨i,v,au,_,C,y⟩:=g d q (p+1) f b ad (vh a);refine⟨one (mA 32 (d n) (d f).t) (r.app i),by rw[dl,fC,u,v];rfl,by omega,w,λao o A=>B _ _ (.psq e c (C 0 i f (Int.le_refl _) (.mstop b λg=>by rw[a]at g;exact absurd g (by decide))) a b A),λj an o k s=>?_⟩;have⟨_,H,_,I⟩:=I6 ⟨j,k⟩ ⟨kd,z⟩;exact x j an o k (DD.exp e H c (DD.tok e c (y _ _ (DD.exp a (xC (by decide)) b (DD.tok a b s)))) I)
def yj.call0(h:yj l F kd)(r:kd<4):yj (l++[sgF 40,sgF 41]) (one (bN 34 0 0 z0 []) F) 2:=λe w i J H v=>by
 have⟨k,z,A⟩:=v.app;have⟨a,c,B⟩:=A.sg;have⟨b,d,C⟩:=B.sg;obtain rfl:=C.nils;have⟨m,o,I,p,u,q⟩:=h e w i k c z;refine⟨one (mA 34 (e i) (e (k+1)).t) m,by rw[dl,o];rfl,by omega,p,λG j s=>u _ _ (.pcall0 a b d s),λf E j g n=>?_⟩;have⟨_,_,x,y⟩:=I6 ⟨f,g⟩ ⟨kd,r⟩;exact q f E j g (DD.exp a x c (DD.tok a c (DD.exp b (by decide:xE 123 41=([],Q)) d (DD.tok b d n))) y)
def aqf(h:gJ t=Q):xE 123 t=([124],Q):=by simp[xE,ap2,h]
def yj.call(h:yj l F kd)(A:kd<4)(g:ESc m G):yj (l++(sgF 40::(m++[sgF 41]))) (one (bN 34 0 0 z0 []) (F.app G)) 2:=λa q n a0 au I=>by
 have⟨i,L,ad⟩:=I.app;have⟨c,e,ak⟩:=ad.sg;have⟨p,al,an⟩:=ak.app;have⟨b,f,ao⟩:=an.sg;obtain rfl:=ao.nils;have⟨r,v,av,x,E,y⟩:=h a q n i e L;have⟨s,w,ax,d,H,z⟩:=g a q (i+1) p f al (vh b) (by rw[b];decide);have C:(a (i+1)).k≠41:=λg=>by rw[g]at d;exact absurd d (by decide)
 refine⟨one (mA 34 (a n) (a p).t) (r.app s),by rw[dl,fC,v,w];rfl,by omega,x,λar o B=>E _ _ (.pcall c (by omega) C H b f B),λj ap o k u=>?_⟩;have⟨_,_,J,K⟩:=I6 ⟨j,k⟩ ⟨kd,A⟩;exact y j ap o k (DD.exp c J e (DD.tok c e (DD.exp rfl (aqf d) (by omega) (z _ _ (DD.tok b f u)))) K)
def adj(h:oe l (one N K) 0)(tk:Nat->Tk)(n i j:Nat)(I:j<n)(y:qc tk n i (sgF 40::(l++[sgF 41])) j):
  ∃M L k,(tk i).k=40/\M.bare=N/\L.bare=K/\k+1=j/\i+1<k/\(∀R a,P tk n (.post (tk i) (od M L (tk i) (tk k).t)) j R a->P tk n .base i R a)/\∀b st a,b<4->DD tk n (aft b 3::(pst b++st)) j a->DD tk n (sta b::st) i a:=by
 have⟨e,f,B⟩:=y.sg;have⟨g,C,E⟩:=B.app;have⟨c,d,F⟩:=E.sg;obtain rfl:=F.nils;have⟨G,r,v,H,x,s⟩:=h tk n (i+1) g d C (vh c);obtain⟨M,L,rfl,q,p⟩:=ahh r;refine⟨M,L,g,e,q,p,rfl,v,λR a w=> .bopen e f (x 0 _ g (Int.le_refl _) (.mstop d λm=>by rw[c]at m;exact absurd m (by decide))) c d w,λb st a u o=>?_⟩;have⟨_,z,A⟩:=ahk ⟨b,u⟩;exact DD.exp e z f (DD.tok e f (s _ _ (DD.exp c (xC (by decide)) d (DD.tok c d o)))) A
def oe.par(h:oe l (one N K) 0)(s:N.k≠34)(u:N.k≠27):yj (sgF 40::(l++[sgF 41])) (one N K) 3:=λc q f p n o=>by
 obtain⟨a,b,k,g,d,i,rfl,v,e,m⟩:=adj h c q f p n o;have r:a.k=N.k:=by rw[<-d];rfl
 have j:od a b (c f) (c k).t=one a b:=by unfold od;rw[aa (by omega)]
 rw[j]at e;exact⟨one a b,by rw[dl,d,i],by omega,.inr g,e,m⟩
def oe.held(h:oe l (one N K) 0)(n:N.k=34\/N.k=27):yj (sgF 40::(l++[sgF 41])) (one (bN 37 0 0 z0 []) (one N K)) 3:=λa s c r p q=>by
 obtain⟨b,d,k,g,e,i,rfl,u,f,o⟩:=adj h a s c r p q;have m:b.k=N.k:=by rw[<-e];rfl
 have j:od b d (a c) (a k).t=one (mA 37 (a c) (a k).t) (one b d):=by unfold od;rw[ae (by rw[m];exact n)]
 rw[j]at f;exact⟨_,by rw[dl,dl,e,i];rfl,by omega,.inr g,f,o⟩
def MEc.nil:MEc [] .nil:=λk i f g b e d a=>by
 obtain rfl:=e.nils;exact⟨.nil,rfl,d,.estop a b,λj h c=>DD.exp rfl (aqd a) b c⟩
def MEc.cons(h:oe l F 0)(g:MEc m G):MEc (sgF 46::(l++m)) (F.app G):=λb j i A w z u r=>by
 have⟨c,e,B⟩:=z.sg;have⟨a,C,k⟩:=B.app;have⟨n,q,d,y,t⟩:=g b j a A w k u r;have H:=k.le;have⟨f,p,I,E,x,s⟩:=h b j (i+1) a (by omega) C d;have v:oG 0 (b i).k:=vh c;refine⟨f.app n,by rw[fC,p,q],v,.ego c e (x 0 f a (Int.le_refl _) (.mstop (by omega) λg=>by have:=d.2 g;have:=AG (b a).k;have:=zl (b a).k;omega)) y,λK J o=>?_⟩;refine DD.exp c (by decide:xE 125 46=([46,119,125],Q)) e (DD.tok c e (s _ _ ?_));refine DD.exp rfl (xC ?_) (by omega) (t _ _ o);cases hx:jx (b a).k with
 |false=>rfl
 |true=>have:=d.2 hx;have:=AG (b a).k;have:=zl (b a).k;omega
def oG.no{k:Int}(h:oG 0 k):jx k=Y:=by
 cases hx:jx k with
 |false=>rfl
 |true=>have:=h.2 hx;have:=AG k;have:=zl k;omega
def MEc.all(h:oe l F 0)(g:MEc m G):ESc (l++m) (F.app G):=λi e x y t w s p=>by
 have⟨b,z,f⟩:=w.app;have⟨j,o,a,v,r⟩:=g i e b y t f s p;have A:=f.le;have⟨c,n,B,d,u,q⟩:=h i e x b (by omega) z a;refine⟨c.app j,by rw[fC,n,o],by omega,d,.es (u 0 c b (Int.le_refl _) (.mstop (by omega) λg=>by rw[a.no]at g;cases g)) v,λE C k=>?_⟩;exact DD.exp rfl (by rw[ahj,d]) (by omega) (q _ _ (DD.exp rfl (xC a.no) (by omega) (r _ _ k)))
end
def aag(k:Int):Prop:=k=5\/k=6\/k=43
def aag.e(h:aag k):oG 0 k/\k≠46/\k≠47/\k≠15/\k≠16/\gJ k=Y/\yK k=Y/\k≠42:=by
 rcases h with rfl|rfl|rfl<;>exact⟨.of (by decide) (by decide),by decide⟩
def I7(l:List Wt)(F:Fo):Prop:=∀(tk:Nat->Tk)(n a b:Nat),b<n->qc tk n a l b->
 ∃c:Fo,c.bare=F/\a<b/\(tk a).k=42/\P tk n .block a c b/\∀e d,DD tk n e b d->DD tk n (132::e) a d
def BDc(l:List Wt)(F:Fo):Prop:=∀(tk:Nat->Tk)(n a b:Nat)(s:Tk),b<n->qc tk n a l b->
 ∃c:Fo,c.bare=F/\a<b/\(tk a).k=40/\P tk n (.body s) a c b/\∀e d,DD tk n e b d->DD tk n (133::e) a d
def FA(l:List Wt)(F:Fo):Prop:=∀(tk:Nat->Tk)(n b a:Nat),a<n->qc tk n b l a->aag (tk a).k->
 ∃c:Fo,c.bare=F/\b<a/\¬aag (tk b).k/\P tk n .stat b c a/\∀e d,DD tk n (101::e) a d->DD tk n (100::e) b d
def BRc(l:List Wt)(F:Fo):Prop:=∀(tk:Nat->Tk)(n a b:Nat),((tk a).k=20\/(tk a).k=15)->a<n->b<n->qc tk n (a+1) l b->aag (tk b).k->
 ∃c:Fo,c.bare=F/\a+1<b/\P tk n .branch a c b/\∀e d,DD tk n e b d->DD tk n (119::132::105::e) (a+1) d
def ENc(l:List Wt)(F:Fo):Prop:=∀(tk:Nat->Tk)(n a b:Nat),b<n->qc tk n a l b->oG 0 (tk b).k->
 ∃c:Fo,c.bare=F/\a<b/\(gJ (tk a).k=Q\/(tk a).k=48\/(tk a).k=44)/\P tk n .entry a c b/\∀e d,DD tk n e b d->DD tk n (131::e) a d
def TBc(l:List Wt)(F:Fo):Prop:=∀(tk:Nat->Tk)(n b a:Nat),a<n->qc tk n b l a->(tk a).k=43->
 ∃c:Fo,c.bare=F/\b<=a/\P tk n .entries b c a/\∀e d,DD tk n (43::e) a d->DD tk n (129::43::e) b d
def SLc(l:List Wt)(F:Fo):Prop:=∀(tk:Nat->Tk)(n b a:Nat),a<n->qc tk n b l a->((tk a).k=43\/(tk a).k=6)->
 ∃e:Fo,e.bare=F/\(tk b).k=5/\b<a/\P tk n .stats b e a/\∀d c,DD tk n ((tk a).k::d) a c->DD tk n (100::(tk a).k::d) b c/\DD tk n (101::(tk a).k::d) b c
def nmL:List ByteArray->List Wt
 |[]=>[]
 |[x]=>[xk x]
 |x::r=>xk x::sgF 46::nmL r
def Ee:List ByteArray->Bool->List Wt
 |[],false=>[]
 |[],true=>[sgF 49]
 |x::r,t=>xk x::(if r=[]/\t=Y then [] else sgF 46::Ee r t)
section
variable {tk : Nat → Tk} {n : Nat}
def DD.ex{s:Int}{r L:List Int}{b:Bool}{i j:Nat}(ht:(tk i).k=t)(e:xE s t=(L,b))(h:100<=s)(d:DD tk n (s::r) i j):DD tk n (L++r) i j:=by
 obtain⟨l,d⟩:=d;cases d with
 |tok c=>omega
 |exp c f g a=>rw[ht,e]at a;exact⟨_,a⟩
def ahl:∀(r:List ByteArray)(x:ByteArray)(i j:Nat),qc tk n i (nmL (x::r)) j->j<n->(tk j).k≠46->
  (tk i).k=1/\(tk i).x=x/\i<j/\KH tk n (i+1) r j/\∀st b,DD tk n st j b->DD tk n (104::st) (i+1) b
 |[],x,i,j,g,a,h=>by
  have⟨e,_,f,t,l⟩:=g.head;obtain rfl:=l.nils;exact⟨e,f,Nat.lt_succ_self _,.stop h a,λst b d=>DD.exp rfl (aqe h) a d⟩
 |y::r,x,i,j,g,a,h=>by
  have⟨e,_,f,t,l⟩:=g.head;have⟨c,o,u⟩:=l.sg;have⟨m,p,v,q,s⟩:=ahl r y (i+1+1) j u a h;refine⟨e,f,by omega,?_,λst b d=>?_⟩
  .have:=KH.go c (by omega) m q;rw[p]at this;exact this
  .exact DD.exp c (by decide:xE 104 46=([46,1,104],Q)) o (DD.tok c o (DD.tok m (by omega) (s _ _ d)))
def amy:∀(nm:List ByteArray)(t:Bool)(i k:Nat),qc tk n i (Ee nm t) k->(tk k).k=41->k+1<n->
  Prm tk n i nm t (k+1)/\i<=k/\∀st a,DD tk n (41::st) k a->DD tk n (126::41::st) i a/\((nm≠[]\/t=Q)->DD tk n (128::41::st) i a)
 |[],false,i,k,f,h,e=>by
  obtain rfl:=f.nils;exact⟨.close h e,af _,λst a c=>⟨DD.exp h (by decide:xE 126 41=([],Q)) (by omega) c,λs=>by simp at s⟩⟩
 |[],true,i,k,f,h,e=>by
  have⟨b,d,g⟩:=f.sg;obtain rfl:=g.nils;exact⟨.rest b h e,by omega,λst a c=>⟨DD.exp b (by decide:xE 126 49=([49],Q)) d (DD.tok b d c),λ_=>DD.exp b (by decide:xE 128 49=([49],Q)) d (DD.tok b d c)⟩⟩
 |x::l,t,i,k,f,h,e=>by
  rw[Ee]at f;have⟨b,_,o,d,g⟩:=f.head
  change (tk i).x=x at o
  have r:∀st a,DD tk n (127::41::st) (i+1) a->DD tk n (126::41::st) i a/\((x::l≠[]\/t=Q)->DD tk n (128::41::st) i a):=λst a c=>
   ⟨DD.exp b (by decide:xE 126 1=([1,127],Q)) d (DD.tok b d c),λ_=>DD.exp b (by decide:xE 128 1=([1,127],Q)) d (DD.tok b d c)⟩
  by_cases j:l=[]/\t=Y
  .rw[ae j]at g;obtain⟨rfl,rfl⟩:=j;obtain rfl:=g.nils;have:=Prm.last b h e;rw[o]at this;exact⟨this,by omega,λst a c=>r st a (DD.exp h (by decide:xE 127 41=([],Q)) (by omega) c)⟩
  .rw[aa j]at g;have⟨m,p,w⟩:=g.sg;have⟨u,y,v⟩:=amy l t (i+1+1) k w h e;have:=Prm.go b m (by omega) u;rw[o]at this;refine⟨this,by omega,λst a c=>r st a ?_⟩;refine DD.exp m (by decide:xE 127 46=([46,128],Q)) p (DD.tok m p ((v st a c).2 ?_));by_cases q:l=[]
   .right;cases t with
    |true=>rfl
    |false=>exact absurd ⟨q,rfl⟩ j
   .exact .inl q
def aqg{i k:Nat}(h:∀q,i<=q->q<k->(tk q).k=5/\q<n)(o:i<k):(∀R j,P tk n .stats k R j->P tk n .stats i R j)/\∀st b,DD tk n (100::st) k b->DD tk n (100::st) i b/\DD tk n (101::st) i b:=by
 have r:∀a,i+a<=k->(∀R j,P tk n .stats k R j->P tk n .stats (k-a) R j)/\∀st b,DD tk n (100::st) k b->DD tk n (100::st) (k-a) b:=by
  intro a
  induction a with
  |zero=>intro _;exact⟨λR j h=>h,λst b h=>h⟩
  |succ a p=>
   intro m;have⟨f,e⟩:=p (by omega);have⟨c,d⟩:=h (k-(a+1)) (by omega) (by omega);have l:k-(a+1)+1=k-a:=by omega
   refine⟨λR j g=> .ssep c d (by rw[l];exact f R j g),λst b m=>?_⟩;exact DD.exp c (by decide:xE 100 5=([5,100],Q)) d (DD.tok c d (by rw[l];exact e st b m))
 have⟨f,e⟩:=r (k-(i+1)) (by omega);rw[show k-(k-(i+1))=i+1 by omega]at f e;obtain⟨c,d⟩:=h i (af _) o;exact⟨λR j g=> .ssep c d (f R j g),λst b a=>⟨DD.exp c (by decide:xE 100 5=([5,100],Q)) d (DD.tok c d (e st b a)),DD.exp c (by decide:xE 101 5=([5,100],Q)) d (DD.tok c d (e st b a))⟩⟩
end
section
variable {l m a b : List Wt} {F G K : Fo} {N : Nd} {q k : Int} {kd : Nat} {w x y z : ByteArray}
def oe.es(h:oe l F 0):ESc l F:=by
 have:=MEc.all h MEc.nil;rw[dC,Fo.app_nil]at this;exact this
def ESc.cons(h:oe l F 0)(g:ESc m G):ESc (l++(sgF 46::m)) (F.app G):=λi f x y t w s p=>by
 have⟨c,C,E⟩:=w.app;have⟨a,b,H⟩:=E.sg;have⟨j,o,L,J,v,r⟩:=g i f (c+1) y t H s p;have⟨d,n,K,e,u,q⟩:=h i f x c b C (vh a);refine⟨d.app j,by rw[fC,n,o],by omega,e,.es (u 0 d c (Int.le_refl _) (.mstop b λg=>by rw[a]at g;exact absurd g (by decide))) ?_,λI z k=>?_⟩
 .cases v with
  |es A B=>exact .ego a b A B
 .refine DD.exp rfl (by rw[ahj,e]) (by omega) (q _ _ (DD.exp a (xC (by decide)) b (DD.exp a (by decide:xE 125 46=([46,119,125],Q)) b (DD.tok a b ?_))));exact DD.ex rfl (ahj _) (by decide) (r I z k)
def oe.item(h:oe l F 0):ENc l (one (bN 40 0 0 z0 []) F):=λa s b i g r f=>by
 have⟨j,n,p,e,q,o⟩:=h a s b i g r f;have c:(a b).k≠48/\(a b).k≠44/\(a b).k≠6:=by refine⟨?_,?_,?_⟩<;>(intro d;rw[d]at e;exact absurd e (by decide))
 refine⟨one (mA 40 (a b) (a (i-1)).t) j,by rw[dl,n];rfl,p,.inl e,.item c.1 c.2.1 c.2.2 (by omega) (q 0 j i (Int.le_refl _) (.mstop g λd=>by rw[f.no]at d;cases d)),λv u m=>?_⟩;exact DD.exp rfl (by simp[xE,ap6,c.1,c.2.1,e]:xE 131 (a b).k=([119],Q)) (by omega) (o _ _ (DD.exp rfl (xC f.no) g m))
def oe.pair(h:oe l F 0)(g:oe m G 0):ENc (sgF 44::(l++(sgF 45::sgF 47::m))) (one (bN 41 0 0 z0 []) (F.app G)):=λd s r j i B e=>by
 have⟨b,f,C⟩:=B.sg;have⟨k,E,H⟩:=C.app;have⟨a,c,I⟩:=H.sg;have⟨p,q,J⟩:=I.sg;have⟨n,v,ad,K,z,x⟩:=h d s (r+1) k c E (vh a);have⟨o,w,ak,L,A,y⟩:=g d s (k+1+1) j i J e;refine⟨one (mA 41 (d r) (d (j-1)).t) (n.app o),by rw[dl,fC,v,w];rfl,by omega,.inr (.inr b),.pair b f (z 0 n k (Int.le_refl _) (.mstop c λg=>by rw[a]at g;exact absurd g (by decide))) a p q (A 0 o j (Int.le_refl _) (.mstop i λg=>by rw[e.no]at g;cases g)),λan al u=>?_⟩;exact DD.exp b (by decide:xE 131 44=([44,119,45,47,119],Q)) f (DD.tok b f (x _ _ (DD.exp a (xC (by decide)) c (DD.tok a c (DD.tok p q (y _ _ (DD.exp rfl (xC e.no) i u)))))))
def oe.named(h:oe l F 0):ENc (sgF 48::xk x::sgF 47::l) (one (bN 42 0 0 x []) F):=λa y c g f w e=>by
 have⟨b,n,z⟩:=w.sg;have⟨d,_,r,u,A⟩:=z.head;have⟨j,o,B⟩:=A.sg
 change (a (c+1)).k=1 at d
 have⟨i,q,E,C,v,s⟩:=h a y (c+1+1+1) g f B e;refine⟨one (nd 42 (a c) (a (g-1)).t 0 0 (a (c+1)).x []) i,by rw[dl,q,r];rfl,by omega,.inr (.inl b),.named b d j o (v 0 i g (Int.le_refl _) (.mstop f λm=>by rw[e.no]at m;cases m)),λH G p=>?_⟩;exact DD.exp b (by decide:xE 131 48=([48,1,47,119],Q)) n (DD.tok b n (DD.tok d u (DD.tok j o (s _ _ (DD.exp rfl (xC e.no) f p)))))
def amz(h:gJ t=Q\/t=48\/t=44):xE 129 t=([131,130],Q):=by
 rcases h with h|rfl|rfl
 .simp[xE,ap5,h]
 .decide
 .decide
def amB(h:gJ t=Q\/t=48\/t=44):t≠43:=by
 rcases h with h|rfl|rfl
 .intro a;rw[a]at h;exact absurd h (by decide)
 .decide
 .decide
def TBc.nil:TBc [] .nil:=λj h e f b d a=>by
 obtain rfl:=d.nils;exact⟨.nil,rfl,af _,.nstop a b,λi g c=>DD.exp a (by decide:xE 129 43=([],Q)) b c⟩
def ENc.last(h:ENc l F):TBc l F:=λo n k m b j a=>by
 have⟨d,f,p,c,i,g⟩:=h o n k m b j (vh a);refine⟨d,f,by omega,?_,λr q e=>DD.exp rfl (amz c) (by omega) (g _ _ (DD.exp a (by decide:xE 130 43=([],Q)) b e))⟩;have:=P.nlast (amB c) (by omega) i (by rw[a];decide) b (.nstop a b);rw[Fo.app_nil]at this;exact this
def ENc.cons(h:ENc l F)(g:TBc m G):TBc (l++(sgF 46::m)) (F.app G):=λf e w x s v p=>by
 have⟨d,y,z⟩:=v.app;have⟨a,b,A⟩:=z.sg;have⟨j,o,C,u,r⟩:=g f e (d+1) x s A p;have⟨i,n,B,c,t,q⟩:=h f e w d b y (vh a);refine⟨i.app j,by rw[fC,n,o],by omega,.ncom (amB c) (by omega) t a b u,λH E k=>?_⟩;exact DD.exp rfl (amz c) (by omega) (q _ _ (DD.exp a (by decide:xE 130 46=([46,129],Q)) b (DD.tok a b (r _ _ k))))
def TBc.un(h:TBc l F):AH (sgF 42::(l++[sgF 43])) (one (bN 35 0 0 z0 []) F):=λd q f y n p w=>by
 have⟨a,c,r⟩:=p.sg;have⟨g,s,u⟩:=r.app;have⟨b,e,v⟩:=u.sg;obtain rfl:=v.nils;have⟨i,k,x,o,m⟩:=h d q (f+1) g e s b;exact⟨one (mA 35 (d f) (d g).t) i,by rw[dl,k];rfl,by omega,by rw[a];decide,.utab a c o b n,λA z j=>DD.exp a (by decide:xE 120 42=([42,129,43],Q)) c (DD.tok a c (m _ _ (DD.tok b e j)))⟩
def an7:I7 [sgF 42,sgF 43] (one (bN 1 0 0 z0 []) .nil):=λf n e l h i=>by
 have⟨a,c,j⟩:=i.sg;have⟨b,d,k⟩:=j.sg;obtain rfl:=k.nils;exact⟨one (mA 1 (f e) (f (e+1)).t) .nil,rfl,by omega,a,.block a c (.sstop (.inl b) d) b h,λo m g=>DD.exp a (by decide:xE 132 42=([42,100,43],Q)) c (DD.tok a c (DD.exp b (by decide:xE 100 43=([],Q)) d (DD.tok b d g)))⟩
def SLc.bl(h:SLc l F):I7 (sgF 42::(l++[sgF 43])) (one (bN 1 0 0 z0 []) F):=λd q g y n p=>by
 have⟨a,c,r⟩:=p.sg;have⟨i,s,u⟩:=r.app;have⟨b,f,v⟩:=u.sg;obtain rfl:=v.nils;have⟨j,m,w,x,o,e⟩:=h d q (g+1) i f s (.inl b);rw[b]at e;exact⟨one (mA 1 (d g) (d i).t) j,by rw[dl,m];rfl,by omega,a,.block a c o b n,λA z k=>DD.exp a (by decide:xE 132 42=([42,100,43],Q)) c (DD.tok a c (e _ _ (DD.tok b f k)).1)⟩
def aqh(h:t=43\/t=6):xE 100 t=([],Q):=by rcases h with rfl|rfl<;>decide
def SLc.nil:SLc [nlW] .nil:=λp n i k c h b=>by
 have⟨m,a,j,d⟩:=h.nl rfl;obtain rfl:=j.nils;have⟨e,f⟩:=aqg d a;exact⟨.nil,rfl,(d i (af _) a).1,a,e _ _ (.sstop b c),λo l g=>f _ _ (DD.exp rfl (aqh b) c g)⟩
def SLc.cons(h:FA l F)(g:SLc m G):SLc (nlW::(l++m)) (F.app G):=λf e z A v y u=>by
 have⟨B,b,C,c⟩:=y.nl rfl;have⟨d,E,H⟩:=C.app;have⟨k,n⟩:=aqg c b;have⟨j,q,r,J,x,t⟩:=g f e d A v H u;have⟨i,p,I,a,w,s⟩:=h f e B d (by omega) E (.inl r);refine⟨i.app j,by rw[fC,p,q],(c z (af _) b).1,by omega,k _ _ (.sgo (λg=>a (.inl g)) (λg=>a (.inr (.inl g))) (λg=>a (.inr (.inr g))) (by omega) w x),λL K o=>n _ _ (s _ _ (t _ _ o).2)⟩
def an8(h:FA l F)(g:SLc m G):∀(tk:Nat->Tk)(n j:Nat),j<n->qc tk n 0 (l++m) j->(tk j).k=6->∃X:Fo,X.bare=F.app G/\P tk n .stats 0 X j/\DD tk n [100,6] 0 (j+1):=λtk n j d t b=>by
 have⟨e,u,v⟩:=t.app;have⟨f,o,p,x,s,c⟩:=g tk n e j d v (.inr b);have⟨X,i,w,a,r,q⟩:=h tk n 0 e (by omega) u (.inl p);rw[b]at c;exact⟨X.app f,by rw[fC,i,o],.sgo (λg=>a (.inl g)) (λg=>a (.inr (.inl g))) (λg=>a (.inr (.inr g))) (by omega) r s,q _ _ (c _ _ (DD.tok b d ⟨0,.nil⟩)).2⟩
def I7.body(h:I7 l F)(nm:List ByteArray)(r:Bool):BDc (sgF 40::(Ee nm r++(sgF 41::l))) (one (bN 36 (if r=Q then 1 else 0) 0 z0 nm) F):=λf v u d w o s=>by
 have⟨a,b,x⟩:=s.sg;have⟨e,y,z⟩:=x.app;have⟨c,p,A⟩:=z.sg;have⟨g,j,E,C,q,n⟩:=h f v (e+1) d o A;have⟨k,B,m⟩:=amy nm r (u+1) e y c (by omega);refine⟨one (nd 36 w (f (d-1)).t (if r=Q then 1 else 0) 0 z0 nm) g,by rw[dl,j];rfl,by omega,a,.body a b k q,λH G i=>?_⟩;exact DD.exp a (by decide:xE 133 40=([40,126,41,132],Q)) b (DD.tok a b (m _ _ (DD.tok c p (n _ _ i))).1)
def BDc.un(h:BDc l F):AH (sgF 18::l) F:=λd o c n j m r=>by
 have⟨a,b,p⟩:=m.sg;have⟨e,g,s,q,k,i⟩:=h d o (c+1) n (d c) j p;exact⟨e,g,by omega,by rw[a];decide,.ufn a b k,λu t f=>DD.exp a (by decide:xE 120 18=([18,133],Q)) b (DD.tok a b (i _ _ f))⟩
end
def TMc(l:List Wt)(F:Fo):Prop:=∀(tk:Nat->Tk)(n c b:Nat),b<n->qc tk n c l b->(tk b).k=47->
 ∃d:Fo,d.bare=F/\c<=b/\P tk n .moreB c d b/\∀f e a,(a=110\/a=114)->DD tk n (47::124::f) b e->DD tk n (a::f) c e
def xl{tk:Nat->Tk}{i:Nat}(h:(tk i).k=k)(a:¬(k=5\/k=6\/k=43):=by decide):¬aag (tk i).k:=by rw[h];exact a
section
variable {l m p a b : List Wt} {F G H K : Fo} {N : Nd} {q k : Int} {kd : Nat} {w x y z : ByteArray} {r : List ByteArray}
def TMc.nil:TMc [] .nil:=λl j g h b e a=>by
 obtain rfl:=e.nils;exact⟨.nil,rfl,af _,.bstop (by rw[a];decide) b,λk i f d c=>by rcases d with rfl|rfl<;>exact DD.exp (L:=[47,124]) a (by decide) b c⟩
def TMc.cons(h:yj l F kd)(ak:kd<2)(g:TMc m G):TMc (sgF 46::(l++m)) (F.app G):=λd k C E y B f=>by
 have⟨a,b,H⟩:=B.sg;have⟨c,I,J⟩:=H.app;have⟨p,t,an,i,x⟩:=g d k c E y J f;have⟨o,s,al,ad,A,w⟩:=h d k (C+1) c (by omega) I;have u:aft 2 kd=114:=by rcases(show kd=0\/kd=1 by omega) with rfl|rfl<;>rfl
 have z:yK (d c).k=Y:=by
  cases i with
  |bstop e=>rw[f];decide
  |bgo e=>rw[e];decide
 refine⟨o.app p,by rw[fC,s,t],by omega,.bgo a b (A _ _ (.pstop (by omega) z)) i,λn j K v q=>?_⟩;have r:=w 2 n j (by decide) (by rw[u];exact x n j 114 (.inr rfl) q);rcases v with rfl|rfl<;>exact DD.exp (L:=[46,113]) a (by decide) b (DD.tok a b r)
def I7.st(h:I7 l F):FA l F:=λo n k m f j p=>by
 have⟨b,d,g,a,i,e⟩:=h o n k m f j;exact⟨b,d,g,xl a,.tblock a (by omega) i,λst q c=>DD.exp a (by decide:xE 100 42=([132,101],Q)) (by omega) (e _ _ c)⟩
def akx:FA (sgF 22::nmL (x::r)) (one (bN 2 0 0 z0 (x::r)) .nil):=λs w p g f o n=>by
 have⟨a,d,q⟩:=o.sg;have⟨t,i,b,_⟩:=n.e;have⟨c,j,u,l,m⟩:=ahl r x (p+1) g q f i;refine⟨_,?_,by omega,xl a,.tlet0 a (by omega) c l b,λy v h=>?_⟩
 .rw[dl,j];rfl
 .exact DD.exp a (by decide:xE 100 22=([22,1,104,103,101],Q)) d (DD.tok a d (DD.tok c (by omega) (m _ _ (DD.exp rfl (by simp[xE,apI,b]:xE 103 (s g).k=([],Q)) f h))))
def ESc.let_(h:ESc l F):FA (sgF 22::(nmL (x::r)++(sgF 47::l))) (one (bN 2 0 0 z0 (x::r)) F):=λC w u v q t f=>by
 have⟨a,g,y⟩:=t.sg;have⟨i,z,A⟩:=y.app;have⟨b,c,B⟩:=A.sg;have⟨d,m,G,n,o⟩:=ahl r x (u+1) i z c (by rw[b];decide);have⟨E,k,I,H,s,p⟩:=h C w (i+1) v q B f.e.1 f.e.2.1;refine⟨_,?_,by omega,xl a,.tlet a (by omega) d n b s,λK J j=>?_⟩
 .rw[dl,m,k];rfl
 .exact DD.exp a (by decide:xE 100 22=([22,1,104,103,101],Q)) g (DD.tok a g (DD.tok d (by omega) (o _ _ (DD.exp b (by decide:xE 103 47=([47,124],Q)) c (DD.tok b c (p _ _ j))))))
def mst{tk:Nat->Tk}{n j:Nat}{s:Tk}{X:Fo}(b:j<n)(h:oG 0 (tk j).k):P tk n (.more 0 s X) j X j:= .mstop b λa=>by rw[h.no]at a;cases a
def dst{tk:Nat->Tk}{n j a:Nat}{st:List Int}(b:j<n)(h:oG 0 (tk j).k)(d:DD tk n st j a):DD tk n (121::st) j a:=DD.exp rfl (xC h.no) b d
def oe.const(h:oe l F 0):FA (sgF 13::xk x::sgF 47::l) (one (bN 3 0 0 z0 [x]) F):=λn w j m d v c=>by
 have⟨a,g,y⟩:=v.sg;have⟨b,_,r,t,z⟩:=y.head;have⟨f,i,A⟩:=z.sg
 change (n (j+1)).k=1 at b
 have⟨o,q,C,B,u,s⟩:=h n w (j+1+1+1) m d A c.e.1;refine⟨_,?_,by omega,xl a,.tcon a b f i (u 0 o m (Int.le_refl _) (mst d c.e.1)),λG E p=>?_⟩
 .rw[dl,r,q];rfl
 .exact DD.exp a (by decide:xE 100 13=([13,1,47,119,101],Q)) g (DD.tok a g (DD.tok b t (DD.tok f i (s _ _ (dst d c.e.1 p)))))
def BDc.fn(h:BDc l F):FA (sgF 18::xk x::l) (one (bN 4 0 0 z0 [x]) F):=λd s c r n q w=>by
 have⟨a,e,t⟩:=q.sg;have⟨b,_,i,o,u⟩:=t.head
 change (d (c+1)).k=1 at b
 have⟨v,g,y,j,p,m⟩:=h d s (c+1+1) r (d (c+2)) n u;refine⟨_,?_,by omega,xl a,.tfn a b j (by omega) p,λA z f=>?_⟩
 .rw[dl,i,g];rfl
 .exact DD.exp a (by decide:xE 100 18=([18,1,133,101],Q)) e (DD.tok a e (DD.tok b o (m _ _ f)))
def yj.fol{tk:Nat->Tk}{i:Nat}(h:(tk i).k=1\/(tk i).k=40):¬aag (tk i).k:=by rcases h with g|g<;>rw[g]<;>unfold aag<;>decide
def yj.set(h:yj l F kd)(a0:kd<2)(g:TMc m G)(e:ESc p H):FA (l++(m++(sgF 47::p))) (one (bN 5 0 (F.app G).len z0 []) ((F.app G).app H)):=λa j u v J ak r=>by
 have⟨i,an,ao⟩:=ak.app;have⟨w,ap,ar⟩:=ao.app;have⟨b,f,au⟩:=ar.sg;have⟨d,o,a2,s,E⟩:=g a j i w f ap b;have⟨c,n,a1,q,L,C⟩:=h a j u i (by omega) an;have⟨x,A,a3,ax,ad,I⟩:=e a j (w+1) v J au r.e.1 r.e.2.1;have B:aft 1 kd=110:=by rcases(show kd=0\/kd=1 by omega) with rfl|rfl<;>rfl
 have K:yK (a i).k=Y:=by
  cases s with
  |bstop k=>rw[b];decide
  |bgo k=>rw[k];decide
 refine⟨one (nd 5 (a u) (a (v-1)).t 0 ((c.app d).len:Nat) z0 []) ((c.app d).app x),?_,by omega,yj.fol q,.tset q (by omega) (L _ _ (.pstop (by omega) K)) s b f ad,λav al y=>?_⟩
 .have z:(c.app d).len=(F.app G).len:=by rw[<-aaf,fC,n,o]
  rw[dl,fC,fC,n,o,A,z];rfl
 .exact C 1 av al (by decide) (by rw[B];exact E _ _ 110 (.inl rfl) (DD.tok b f (I _ _ y)))
def yj.do_(h:yj l F 2):FA l (one (bN 6 0 0 z0 []) F):=λc u i j a r f=>by
 have⟨k,n,p,d,q,o⟩:=h c u i j a r;have b:=f.e;refine⟨one (mA 6 (c i) (c (j-1)).t) k,by rw[dl,n];rfl,p,yj.fol d,.tdo d (by omega) (q _ _ (.pstop a b.2.2.2.2.2.2.1)) b.2.1 b.2.2.1 a,λv s m=>?_⟩;refine o 1 v s (by decide) (DD.exp (L:=[]) rfl ?_ a m);rcases f with g|g|g<;>rw[g]<;>decide
def yj.defer(h:yj l F 2):FA (sgF 14::l) (one (bN 16 0 0 z0 []) F):=λd s i j c q f=>by
 have⟨a,b,u⟩:=q.sg;have⟨k,n,w,v,p,o⟩:=h d s (i+1) j c u;refine⟨one (mA 16 (d i) (d (j-1)).t) k,by rw[dl,n];rfl,by omega,xl a,.tdefer a b (p _ _ (.pstop c f.e.2.2.2.2.2.2.1)),λx r m=>?_⟩;refine DD.exp a (by decide:xE 100 14=([14,116,101],Q)) b (DD.tok a b (o 3 _ r (by decide) (DD.exp (L:=[]) rfl ?_ c m)));rcases f with g|g|g<;>rw[g]<;>decide
def oe.throw(h:oe l F 0):FA (sgF 28::l) (one (bN 15 0 0 z0 []) F):=λg q j f d p b=>by
 have⟨a,c,r⟩:=p.sg;have⟨i,m,u,s,o,n⟩:=h g q (j+1) f d r b.e.1;exact⟨one (mA 15 (g j) (g (f-1)).t) i,by rw[dl,m];rfl,by omega,xl a,.tthrow a c (o 0 i f (Int.le_refl _) (mst d b.e.1)),λw v k=>DD.exp a (by decide:xE 100 28=([28,119,101],Q)) c (DD.tok a c (n _ _ (dst d b.e.1 k)))⟩
def adk{k:Int}{d:Int}(h:(k=11/\d=11)\/(k=23/\d=12)):FA [sgF k] (one (bN d 0 0 z0 []) .nil):=λj p i o f g n=>by
 rcases h with⟨rfl,rfl⟩|⟨rfl,rfl⟩
 .obtain⟨a,b,e⟩:=g.sg
  change (j i).k=11 at a
  obtain rfl:=e.nils;exact⟨_,rfl,by omega,xl a,.tbreak a f,λm l c=>DD.exp a (by decide:xE 100 11=([11,101],Q)) b (DD.tok a b c)⟩
 .obtain⟨a,b,e⟩:=g.sg
  change (j i).k=23 at a
  obtain rfl:=e.nils;exact⟨_,rfl,by omega,xl a,.tnext a f,λm l c=>DD.exp a (by decide:xE 100 23=([23,101],Q)) b (DD.tok a b c)⟩
def aky:FA [sgF 27] (one (bN 13 0 0 z0 []) .nil):=λj n h l d g b=>by
 have⟨a,c,i⟩:=g.sg;obtain rfl:=i.nils;exact⟨_,rfl,by omega,xl a,.tret0 a d b,λo m f=>DD.exp a (by decide:xE 100 27=([27,108,101],Q)) c (DD.tok a c (DD.exp rfl (by simp[xE,anp,b.e.2.2.2.2.2.1]:xE 108 (j (h+1)).k=([],Q)) d f))⟩
def ESc.ret(h:ESc l F):FA (sgF 27::l) (one (bN 13 0 0 z0 []) F):=λb s c i p r f=>by
 have⟨a,g,u⟩:=r.sg;have⟨j,n,v,d,q,o⟩:=h b s (c+1) i p u f.e.1 f.e.2.1;exact⟨one (mA 13 (b c) (b (i-1)).t) j,by rw[dl,n];rfl,by omega,xl a,.tret a (by omega) d q,λx w m=>DD.exp a (by decide:xE 100 27=([27,108,101],Q)) g (DD.tok a g (DD.exp rfl (by simp[xE,anp,d]:xE 108 (b (c+1)).k=([124],Q)) (by omega) (o _ _ m)))⟩
def oe.while_(h:oe l F 0)(g:I7 m G):FA (sgF 31::(l++m)) (one (bN 8 0 0 z0 []) (F.app G)):=λa k i j v y E=>by
 have⟨b,d,z⟩:=y.sg;have⟨c,A,B⟩:=z.app;have⟨n,q,I,r,x,u⟩:=g a k c j v B;have e:oG 0 (a c).k:=vh r;have⟨f,p,H,C,w,s⟩:=h a k (i+1) c (by omega) A e;exact⟨one (mA 8 (a i) (a (j-1)).t) (f.app n),by rw[dl,fC,p,q];rfl,by omega,xl b,.twhile b d (w 0 f c (Int.le_refl _) (mst (by omega) e)) x,λK J o=>DD.exp b (by decide:xE 100 31=([31,119,132,101],Q)) d (DD.tok b d (s _ _ (dst (by omega) e (u _ _ o))))⟩
def oe.for_(h:oe l F 0)(g:ESc m G)(e:I7 p H)(B:∀(tk:Nat->Tk) (n i j:Nat),j<n->qc tk n i m j->(tk j).k=42->∀st q,DD tk n (132::st) j q->DD tk n (119::107::132::st) i q):
  FA (sgF 19::xk x::sgF 47::((l++(sgF 46::m))++p)) (one (bN 9 0 0 z0 [x]) ((F.app G).app H)):=λtk n i j I ak a5=>by
 have⟨a,t,al⟩:=ak.sg;have⟨c,_,A,J,an⟩:=al.head;have⟨b,o,ao⟩:=an.sg
 change (tk (i+1)).k=1 at c
 have⟨k,v,ap⟩:=ao.app;have⟨a1,z,a8,d,ad,E⟩:=e tk n k j I ap;have K:oG 0 (tk k).k:=vh d;have⟨a0,y,a7,a4,L,_⟩:=(ESc.cons h g) tk n (i+1+1+1) k (by omega) v K (by rw[d];decide);have⟨r,ar,au⟩:=v.app;have⟨s,f,av⟩:=au.sg;have u:oG 0 (tk r).k:=vh s;have⟨ax,a2,a6,a3,a9,C⟩:=h tk n (i+1+1+1) r f ar u;refine⟨_,?_,by omega,xl a,.tfor a (by omega) c (.stop (by rw[b];decide) o) b L ad,λst q w=>?_⟩
 .rw[dl,fC,y,z,A];rfl
 .refine DD.exp a (by decide:xE 100 19=([19,1,106,101],Q)) t (DD.tok a t (DD.tok c J (DD.exp b (by decide:xE 106 47=([47,119,46,119,107,132],Q)) o (DD.tok b o ?_))));exact C _ _ (dst f u (DD.tok s f (B tk n (r+1) k (by omega) av d _ _ (E _ _ w))))
def akz(h:oe l F 0):∀(tk:Nat->Tk)(n i j:Nat),j<n->qc tk n i l j->(tk j).k=42->∀st b,DD tk n (132::st) j b->DD tk n (119::107::132::st) i b:=λtk n i j a g c st b e=>by
 have d:oG 0 (tk j).k:=vh c;have⟨m,o,q,p,r,f⟩:=h tk n i j a g d;exact f _ _ (dst a d (DD.exp c (by decide:xE 107 42=([],Q)) a e))
def afl(h:oe l F 0)(g:oe m G 0):∀(tk:Nat->Tk)(n i j:Nat),j<n->qc tk n i (l++(sgF 46::m)) j->(tk j).k=42->∀st c,DD tk n (132::st) j c->DD tk n (119::107::132::st) i c:=λtk n i j d s p st c o=>by
 have e:oG 0 (tk j).k:=vh p;have⟨k,t,u⟩:=s.app;have⟨b,a,v⟩:=u.sg;have f:oG 0 (tk k).k:=vh b;have⟨w,y,C,A,H,q⟩:=h tk n i k a t f;have⟨x,z,E,B,I,r⟩:=g tk n (k+1) j d v e;exact q _ _ (dst a f (DD.exp b (by decide:xE 107 46=([46,119],Q)) a (DD.tok b a (r _ _ (dst d e o)))))
def oe.each(h:oe l F 0)(g:I7 m G):FA (sgF 19::(nmL (x::r)++(sgF 21::(l++m)))) (one (bN 10 0 0 z0 (x::r)) (F.app G)):=λa q d L E J ax=>by
 have⟨b,n,ad⟩:=J.sg;have⟨p,ak,al⟩:=ad.app;have⟨c,o,an⟩:=al.sg;have⟨e,ao,ap⟩:=an.app;have⟨i,y,au,j,z⟩:=ahl r x (d+1) p ak o (by rw[c];decide);have⟨ar,w,a1,k,I,B⟩:=g a q e L E ap;have f:oG 0 (a e).k:=vh k;have⟨s,v,a0,av,H,A⟩:=h a q (p+1) e (by omega) ao f;refine⟨_,?_,by omega,xl b,.teach b (by omega) i j c (H 0 s e (Int.le_refl _) (mst (by omega) f)) k (by omega) I,λa3 a2 u=>?_⟩
 .rw[dl,fC,y,v,w];rfl
 .have C:(a (d+1+1)).k=46\/(a (d+1+1)).k=21:=by
   cases j with
   |stop=>exact .inr c
   |go t=>exact .inl t
  have K:xE 106 (a (d+1+1)).k=([104,21,119,132],Q):=by rcases C with g|g<;>rw[g]<;>decide
  refine DD.exp b (by decide:xE 100 19=([19,1,106,101],Q)) n (DD.tok b n (DD.tok i (by omega) (DD.exp rfl K (by omega) (z _ _ (DD.tok c o ?_)))));exact A _ _ (dst (by omega) f (B _ _ u))
def I7.try_(h:I7 l F)(g:I7 m G)(I:r.length<=1):FA (sgF 30::(l++(sgF 12::(nmL (x::r)++m)))) (one (bN 14 0 0 z0 (x::r)) (F.app G)):=λq p K L C J a1=>by
 have⟨a,b,ad⟩:=J.sg;have⟨n,ak,al⟩:=ad.app;have⟨e,k,an⟩:=al.sg;have⟨o,ao,ap⟩:=an.app;have⟨au,y,a3,j,H,B⟩:=g q p o L C ap;have⟨f,z,av,i,ax⟩:=ahl r x (n+1) o ao (by omega) (by rw[j];decide);have⟨ar,w,a2,a0,E,A⟩:=h q p (K+1) n k ak;refine⟨_,?_,by omega,xl a,.ttry a b E e (by omega) f i H,λa5 a4 v=>?_⟩
 .rw[dl,fC,z,w,y];rfl
 .refine DD.exp a (by decide:xE 100 30=([30,132,12,1,109,132,101],Q)) b (DD.tok a b (A _ _ (DD.tok e k (DD.tok f (by omega) ?_))));have d:=B _ _ v;cases i with
  |stop=>exact DD.exp j (by decide:xE 109 42=([],Q)) (by omega) d
  |go c s t u=>
   cases u with
   |stop=>exact DD.exp c (by decide:xE 109 46=([46,1],Q)) (by omega) (DD.tok c (by omega) (DD.tok t s d))
   |go=>simp at I
def oe.br0(h:oe l F 0)(g:I7 m G):BRc (l++m) (one (bN 7 0 0 z0 []) (F.app G)):=λa n k i A w d z b=>by
 have⟨c,B,C⟩:=z.app;have⟨o,r,I,s,y,v⟩:=g a n c i d C;have f:oG 0 (a c).k:=vh s;have⟨j,q,H,E,x,u⟩:=h a n (k+1) c (by omega) B f;exact⟨one (mA 7 (a k) (a (i-1)).t) (j.app o),by rw[dl,fC,q,r];rfl,by omega,.bno A w (x 0 j c (Int.le_refl _) (mst (by omega) f)) y b.e.2.2.2.1 b.e.2.2.2.2.1 d,λK J p=>u _ _ (dst (by omega) f (v _ _ (DD.exp rfl (by simp[xE,apK,b.e.2.2.2.1,b.e.2.2.2.2.1]:xE 105 (a i).k=([],Q)) d p)))⟩
def oe.br1(h:oe l F 0)(g:I7 m G)(e:I7 p H):BRc (l++(m++(sgF 16::p))) (one (bN 7 0 0 z0 []) ((F.app G).app H)):=λa i k n L B C K au=>by
 have⟨c,ad,ak⟩:=K.app;have⟨o,al,an⟩:=ak.app;have⟨d,b,ao⟩:=an.sg;have⟨q,v,ax,x,I,z⟩:=g a i c o b al;have f:oG 0 (a c).k:=vh x;have⟨j,u,av,ap,E,y⟩:=h a i (k+1) c (by omega) ad f;have⟨r,w,a0,ar,J,A⟩:=e a i (o+1) n C ao;exact⟨one (mA 7 (a k) (a (n-1)).t) ((j.app q).app r),by rw[dl,fC,fC,u,v,w];rfl,by omega,.belse L B (E 0 j c (Int.le_refl _) (mst (by omega) f)) I d b J,λa2 a1 s=>y _ _ (dst (by omega) f (z _ _ (DD.exp d (by decide:xE 105 16=([16,132],Q)) b (DD.tok d b (A _ _ s)))))⟩
def oe.br2(h:oe l F 0)(g:I7 m G)(e:BRc p H):BRc (l++(m++(sgF 15::p))) (one (bN 7 0 0 z0 []) ((F.app G).app H)):=λa i k n ad C E L B=>by
 have⟨d,ak,al⟩:=L.app;have⟨o,an,ao⟩:=al.app;have⟨c,b,ap⟩:=ao.sg;have⟨q,v,av,x,J,z⟩:=g a i d o b an;have f:oG 0 (a d).k:=vh x;have⟨j,u,au,ar,I,y⟩:=h a i (k+1) d (by omega) ak f;have⟨r,w,ax,K,A⟩:=e a i o n (.inr c) b E ap B;exact⟨one (mA 7 (a k) (a (n-1)).t) ((j.app q).app r),by rw[dl,fC,fC,u,v,w];rfl,by omega,.belif ad C (I 0 j d (Int.le_refl _) (mst (by omega) f)) J c b K,λa1 a0 s=>y _ _ (dst (by omega) f (z _ _ (DD.exp c (by decide:xE 105 15=([15,119,132,105],Q)) b (DD.tok c b (A _ _ s)))))⟩
def BRc.st(h:BRc l F):FA (sgF 20::l) F:=λq o m n i k g=>by
 have⟨a,b,p⟩:=k.sg;have⟨c,e,r,j,f⟩:=h q o m n (.inl a) b i p g;exact⟨c,e,by omega,xl a,.tif a b j,λst s d=>DD.exp a (by decide:xE 100 20=([20,119,132,105,101],Q)) b (DD.tok a b (f _ _ d))⟩
end
def Ka(s:ByteArray)(p:Nat):Int×ByteArray:=match xr gA (s.extract p (rv s (s.size+1) p)) 22 0 with|some k=>(10+(k:Int),⟨#[]⟩)|none=>(1,s.extract p (rv s (s.size+1) p))
def adl{b t mb n:Nat}{D:DataW Unit}(h:w.ownsMap O 9 (plainElem (H:=Unit) O 3) mb n D)(g:tI b t w w')(e:mb≠b)(f:mb≠t):w'.ownsMap O 9 (plainElem (H:=Unit) O 3) mb n D:=by
 obtain⟨d,c,a,i⟩:=h;exact⟨d,c,(g.block mb (ai a) e f).trans a,i⟩
def I8(s:ByteArray)(br:s.size<=70000)(b t mb:Nat)(w:A2)(p:Nat)(l v:Int)(ao:p<s.size)(j:b≠t)(bc:mb≠b)(bf:mb≠t)(hS:je b w s (.map (A0 mb)) fr p l Y)(q:gg t w 0 p 0 v 0 T)(a8:w.ownsMap O 9 (plainElem (H:=Unit) O 3) mb 22 (Ai 22)):
  Br O 195 #[.pointer (A0 ⟨b,0,Z⟩),.pointer (A0 ⟨t,0,Z⟩)] w λe w'=>e= .returned (.tuple #[])/\tI b t w w'/\je b w' s (.map (A0 mb)) fr (rv s (s.size+1) p:Int) l Y/\gg t w' (Ka s p).1 p 0 v 0 (Ka s p).2:=by
 have bp:b<w.heap.size:=ai hS;have bs:t<w.heap.size:=ai q;have a7:=ya s (s.size+1) p (iA ao);have au:=λw=>Bo s (by omega) p (iA ao) w;have⟨A,B,C,F,G,I,J,K⟩:=iC hS;have⟨av,ax,a0,a1,a2,a3,a4⟩:=db q;unfold Ka;generalize rv s (s.size+1) p=a at au a7;have⟨a6,L⟩:=aJ (xr gA (s.extract p a) 22 0);rw[L];have y:=am L;go_in;go_upto_region 0 with fail
 go_cut [16] from 7 (λbo x=>bo= .int .i64 (a:Int)/\tI b t w x/\je b x s (.map (A0 mb)) fr a l Y/\gg t x 0 p 0 v 0 T)
 case first=>
  go_region_with (first|(go_at_call 235;refine(au _).mono ?_;rintro e w' ⟨rfl,bh⟩;obtain rfl:=bh.symm))
  all_goals
   go_wp2_with fail;go_meet
   case rel=>exact⟨rfl,((tI.refl b t w).setB 3 _).drew,hS.setP _,q.other (ez j) _⟩
 case rest=>
  obtain⟨rfl,an,ad,ak⟩:=hcut;have a9:=adl a8 an bc bf;have⟨A,B,C,F,G,I,J,K⟩:=iC ad;have⟨av,ax,a0,a1,a2,a3,a4⟩:=db ak;go_upto_region 1 with fail
  go_quiet (fail)
  have c:=ad.drewN nq;have d:=ak.drewN nq;have k:=an.drewN nq;have o:(wc.drewN nq).ownsMap O 9 (plainElem (H:=Unit) O 3) mb 22 (Ai 22):=a9;generalize wc.drewN nq=z at c d k o⊢;have⟨A,B,C,F,G,I,J,K⟩:=iC c;have⟨av,ax,a0,a1,a2,a3,a4⟩:=db d;have bk:b<z.heap.size:=ai c;have bl:t<z.heap.size:=ai d;have ap:(s.extract p a).size<=70000:=by rw[tK];omega
  have n:keyOf O 9 (.string (s.extract p a))=A0 (.string (s.extract p a).data.toList):=keyOf_string_mk underlying9 (by unfold maxLen;omega);have m:=Kx (H:=Unit) (s.extract p a);have u:=λw=>GL (s.extract p a) (by omega) w;unfold uk at m;rw[y.out]at m;cases a6 with
  |some ar=>
   have al:=aj5 (H:=Unit) (s.extract p a) ar y;have g:Maps.has (Ai (H:=Unit) 22) (.string (s.extract p a).data.toList)=Q:=m;generalize s.extract p a=bn at n al g u ap⊢;go_wp2_with (at_lookup;refine wpList_lookup_own_ok_int _ rfl _ _ 90 rfl 9 3 .i64 ajK underlying90 underlying3 (by kernel_rfl) mb 22 _ rfl o _ _ rfl n ?_;intro E f bj;rw[g];rw[al]at f;obtain rfl:10+(ar:Int)=E:=by injection f with f;injection f);refine bH (fK rfl _ _ _) rfl ?_;exact⟨rfl,k.setT 0 _,c.other j _,d.setKind _⟩
  |none=>
   have g:Maps.has (Ai (H:=Unit) 22) (.string (s.extract p a).data.toList)=Y:=m;obtain⟨bn,r⟩:=aJ (s.extract p a);rw[r]at n g u ap⊢;have a5:=am r;clear r;go_wp2_with (first|(at_lookup;refine wpList_lookup_own_ok_int _ rfl _ _ 90 rfl 9 3 .i64 ajK underlying90 underlying3 (by kernel_rfl) mb 22 _ rfl o _ _ rfl n ?_;intro E f bj;rw[g])|(go_at_call 31;refine(u _).mono ?_;rintro e bt ⟨rfl,i⟩;have ba:=c.below i bk;have h:=d.below i bl;have bb:=k.below (i.mono k.size);have tf3:=(db h).2.2.2.2.2.2;have bv:=(db h).1;have bw:=(db h).2.2.2.2.2.1;clear i));go_end0
   exact⟨rfl,(bb.setT 0 _).setT 5 _,(ba.other j _).other j _,by rw[a5.out];exact(h.setKind _).setText _⟩
def kK(s:ByteArray)(a b i:Nat)(d:b<=s.size)(e:a+i<b:=by omega):aA (s.extract a b) i=aA s (a+i):=by
 rw[ut,ut];have c:(s.extract a b).data.toList=(s.data.toList.drop a).take (b-a):=by rw[<-ja,Lib.extract_toList]
 rw[c,lp,ae (by omega),rj]
def og(s:ByteArray)(a b:Nat)(c:b<=s.size):(s.extract a b).size=b-a:=by rw[tK];omega
def adm(s:ByteArray)(a b p:Nat)(c:b<=s.size):∀n,a+p+n<=b->ur (s.extract a b) p n=ur s (a+p) n
 |0,_=>rfl
 |n+1,h=>by
  rw[ur,ur,adm s a b p c n (by omega),kK s a b (p+n) c,fi]
def adn(s:ByteArray)(a b p:Nat)(c:b<=s.size):∀n,a+p+n<=b->si (s.extract a b) p n=si s (a+p) n
 |0,_=>rfl
 |n+1,h=>by
  rw[si,si,adn s a b p c n (by omega),kK s a b (p+n) c,fi]
def yk(s:ByteArray)(p:Nat):Int×Int×ByteArray:=
 if aA s p=48/\aA s (p+1)=120 then(2,wrap64 (ur s (p+2) ((fc s p).1-(p+2)):Int),⟨#[]⟩)
 else match (if Fz s p=Q then Z else si s p ((fc s p).1-p)) with
  |some a=>(2,(a:Int),⟨#[]⟩)
  |none=>(3,0,s.extract p (fc s p).1)
def afm(s:ByteArray)(p:Nat)(j:p<s.size)(g:cJ (aA s p)=Q)(o:¬(aA s p=48/\aA s (p+1)=120)):AE (s.extract p (fc s p).1)=Option.map (λu:Nat=>(u:Int)) (if Fz s p=Q then Z else si s p ((fc s p).1-p)):=by
 have c:=xd s p j;have q:=og s p (fc s p).1 c.2;have b:∀a,p+a<(fc s p).1->aA (s.extract p (fc s p).1) a=aA s (p+a):=λa i=>kK s p _ a c.2 i;have f:cJ (aA (s.extract p (fc s p).1) 0)=Q:=by rw[b 0 (by omega)];exact g
 have d:fc s p=qa s (nA1 s (nA0 s p)):=by unfold fc;rw[aa o]
 have k:=Eb s p j;have l:=Ec s _ k.2;have r:=abB s _ l.2;cases hk:Fz s p with
 |false=>
  have⟨m,e⟩:=I0 s p g hk;have t:(fc s p).1=nA0 s p:=by rw[d,m]
  rw[LI _ (by omega) (λa i=>by rw[b a (by omega)];exact e _ (by omega) (by omega))];rw[q,adn s p _ 0 c.2 _ (by omega),iz];simp
 |true=>
  simp only[kJ,Option.map_none];unfold Fz at hk;rcases aG hk with h|h
  .have n:nA0 s p<(fc s p).1:=by
    have:nA0 s p<nA1 s (nA0 s p):=by
     unfold nA1;rw[ae h];have:=uq s (nA0 s p+1) (by have:=sf h.2;omega);omega
    rw[d];omega
   exact zk _ f (nA0 s p-p) (by omega) (by rw[b _ (by omega),show p+(nA0 s p-p)=nA0 s p by omega,h.1];decide)
  .have n:nA1 s (nA0 s p)<(fc s p).1:=by
    have e:=ag9 s _ h;have v:=uq s _ e.2;rw[d];unfold qa;rw[ae h];simp only;omega
   exact zk _ f (nA1 s (nA0 s p)-p) (by omega) (by rw[b _ (by omega),show p+(nA1 s (nA0 s p)-p)=nA1 s (nA0 s p) by omega,h];decide)
def aah(s:ByteArray)(E:s.size<=1100000)(p:Nat)(l:p<s.size)(q:cJ (aA s p)=Q)(u:(fc s p).2=Q)(w:A2)(o:pH w):
  Br O 237 #[Ax (s.extract p (fc s p).1)] w λe w'=>(((yk s p).1=2/\e= B4 (C2 #[S W (yk s p).2.1,Ex Q])/\(yk s p).2.2=⟨#[]⟩)\/((yk s p).1=3/\(∃x,e= B4 (C2 #[S W x,Ex Y]))/\(yk s p).2.1=0/\(yk s p).2.2=s.extract p (fc s p).1))/\be w w':=by
 have f:=xd s p l;have y:=og s p (fc s p).1 f.2;have c:∀b,p+b<(fc s p).1->aA (s.extract p (fc s p).1) b=aA s (p+b):=λb t=>kK s p _ b f.2 t;by_cases a:aA s p=48/\aA s (p+1)=120
 .have e:fc s p=pv s (p+2):=by unfold fc;rw[ae a]
  have r:pv s (p+2)=((fc s p).1,Q):=by rw[<-e];exact Prod.ext rfl u
  have⟨z,A,B,n⟩:=LJ r;refine(GH _ (by rw[c 0 (by omega)];exact a.1) (by rw[c 1 (by omega)];exact a.2) (by omega) (by omega) (λb g d=>by rw[c b (by omega)];exact n _ (by omega) (by omega)) w).mono ?_;rintro m w' ⟨rfl,i⟩;rw[y,adm s p _ 2 f.2 _ (by omega)];have h:yk s p=(2,wrap64 (ur s (p+2) ((fc s p).1-(p+2)):Int),⟨#[]⟩):=by unfold yk;rw[ae a]
  rw[h];exact⟨.inl ⟨rfl,by rw[show(fc s p).1-p-2=(fc s p).1-(p+2) by omega],rfl⟩,i⟩
 .have v:¬(aA (s.extract p (fc s p).1) 0=48/\aA (s.extract p (fc s p).1) 1=120):=by
   rintro ⟨g,d⟩;have C:=co d;rw[c 0 (by omega)]at g;rw[c 1 (by omega)]at d;exact a ⟨g,d⟩
  refine(GI _ (by omega) v w o).mono ?_;rintro m w' ⟨⟨x,rfl,j⟩,i⟩;rw[afm s p l q a]at j⊢;refine⟨?_,i⟩;have h:yk s p=match (if Fz s p=Q then Z else si s p ((fc s p).1-p)) with|some k=>(2,(k:Int),⟨#[]⟩)|none=>(3,0,s.extract p (fc s p).1):=by unfold yk;rw[aa a]
  rw[h];cases hc:(if Fz s p=Q then Z else si s p ((fc s p).1-p)) with
  |some k=>
   rw[hc]at j;have:=j k rfl;subst this;exact .inl ⟨rfl,rfl,rfl⟩
  |none=>exact .inr ⟨rfl,⟨x,rfl⟩,rfl,rfl⟩
def Ef(s:ByteArray)(bv:s.size<=70000)(b t:Nat)(w:A2)(m:B3)(p:Nat)(l H:Int)(G:p<s.size)(bc:cJ (aA s p)=Q)(d:b≠t)(hS:je b w s m fr p l Y)(o:gg t w 0 p 0 H 0 T)(E:pH w)(br:12<=b)(bs:12<=t):
  Br O 197 #[B7 (A0 ⟨b,0,Z⟩),B7 (A0 ⟨t,0,Z⟩)] w λe w'=>e= B4 (C2 #[])/\tI b t w w'/\
   (if(fc s p).2=Q then je b w' s m fr ((fc s p).1:Int) l Y/\gg t w' (yk s p).1 p 0 H (yk s p).2.1 (yk s p).2.2 else je b w' s m fr ((fc s p).1:Int) l Q/\gg t w' 0 p 0 H 0 T):=by
 have bt:b<w.heap.size:=ai hS;have bw:t<w.heap.size:=ai o;have J:=xd s p G;have z:=λw=>xB s (by omega) p G w;have y:=λbh w E=>aah s (by omega) p G bc bh w E;have⟨a3,a4,a5,a6,a7,a8,a9,ba⟩:=iC hS;have⟨ap,A,B,ar,au,av,ax⟩:=db o;generalize yk s p=a2 at y;obtain⟨bx,bA,bD⟩:=a2;generalize fc s p=a1 at z J y;obtain⟨c,bo⟩:=a1;simp only at z J y⊢;cases bo with
 |false=>
  simp only[CA,if_false];go_in;go_upto_region 0 with fail
  go_quiet ((go_at_call 236;exact B0 (z _)))
  have g:=(hS.drewN nq).setP (c:Int);have h:=(o.drewN nq).other (a:=⟨b,3,Z⟩) (ez d) (S W (c:Int));have v:=((tI.refl b t w).drewN nq).setB 3 (S W (c:Int));go_wp2;refine bH (fK rfl _ _ _) rfl ?_;exact⟨rfl,v.setB 5 _,g.setK _,h.other (ez d) _⟩
 |true=>
  simp only[kJ];have bn:=y rfl;go_in;go_upto_region 0 with fail
  go_quiet ((go_at_call 236;exact B0 (z _)))
  have g:=(hS.drewN nq).setP (c:Int);have h:=(o.drewN nq).other (a:=⟨b,3,Z⟩) (ez d) (S W (c:Int));have v:=((tI.refl b t w).drewN nq).setB 3 (S W (c:Int));have F:pH ((w.drewN nq).setCell ⟨b,3,Z⟩ (S W (c:Int))):=by
   obtain⟨⟨A,bp,K⟩,⟨B,p2,L⟩⟩:=E;refine⟨⟨A,bp,?_⟩,⟨B,p2,?_⟩⟩
   .unfold World.cell? at K⊢;rw[aC _ _ _ _ (by simp;omega)];exact K
   .unfold World.cell? at L⊢;rw[aC _ _ _ _ (by simp;omega)];exact L
  go_upto_region 4 with fail
  generalize (w.drewN nq).setCell ⟨b,3,Z⟩ (S W (c:Int))=I at g h v F⊢;have⟨a3,a4,a5,a6,a7,a8,a9,ba⟩:=iC g;have⟨ap,A,B,ar,au,av,ax⟩:=db h;go_quiet (fail)
  have k:=g.drewN nq;have q:=h.drewN nq;have j:=v.drewN nq;have ad:pH (I.drewN nq):=⟨F.syn,F.rng⟩;generalize I.drewN nq=C at k q j ad⊢;have ak:b<C.heap.size:=ai k;have al:t<C.heap.size:=ai q;have bl:(s.extract p c).size<=70000:=by rw[tK];omega
  have an:=λw=>GL (s.extract p c) (by omega) w;have ao:=bn C ad;generalize s.extract p c=bE at an ao bl⊢;go_wp2_with fail;refine ao.mono ?_;rintro e a0 ⟨(⟨rfl,rfl,rfl⟩|⟨rfl,⟨b0,rfl⟩,rfl,rfl⟩),f⟩
  .have n:=k.below f ak;have i:=q.below f al;have x:=j.below (f.mono j.size);have⟨ap,A,B,ar,au,av,ax⟩:=db i;go_wp2;refine bH (fK rfl _ _ _) rfl ?_;exact⟨rfl,(x.setT 0 _).setT 4 _,(n.other d _).other d _,(i.setKind _).setNum _⟩
  .have n:=k.below f ak;have i:=q.below f al;have x:=j.below (f.mono j.size);have bj:b<a0.heap.size:=ai n;have bk:t<a0.heap.size:=ai i;go_wp2_with (go_at_call 31;refine(an _).mono ?_;rintro e bF ⟨rfl,u⟩;have bb:=n.below u bj;have r:=i.below u bk;have bf:=x.below (u.mono x.size);have tf4:=(db r).2.2.2.2.2.2;have b1:=(db r).1;have b2:=(db r).2.2.2.2.2.1;clear u);go_end0
   exact⟨rfl,(bf.setT 0 _).setT 5 _,(bb.other d _).other d _,(r.setKind _).setText _⟩
def ast(k:Nat)(a:k<11)(w:A2):(B1 222 (E0 kD) (S W (k:Int))).run O w= .ok (Ax (dD kD k)) w:=by
 iterate 11 (obtain _|k:=k;· kernel_rfl)
 omega
def asu(k:Nat)(a:k<18)(w:A2):(B1 223 (E0 ni) (S W (k:Int))).run O w= .ok (Ax (dD ni k)) w:=by
 iterate 18 (obtain _|k:=k;· kernel_rfl)
 omega
def osz:∀k:Fin 11,(dD kD k.val).size<=3:=by decide
def bsz:∀k:Fin 18,(dD ni k.val).size<=3:=by decide
def zm(V:Array B3)(base:Int)(r:ByteArray):Nat->Nat->Int×Nat->Int×Nat
 |0,_,a=>a
 |f+1,i,a=>zm V base r f (i+1) (if a.2<(dD V i).size/\A9 r.data.toList (dD V i).data.toList=Q then(base+(i:Int),(dD V i).size) else a)
structure F5 (V:Array B3) (base:Int) (r:ByteArray) (f i:Nat) (a R:Int×Nat):Prop where
 out:zm V base r f i a=R
def uv(r:ByteArray):Int:=if aA r 0=59 then 5 else if aA r 0=10 then 7 else(zm ni 61 r 18 0 (zm kD 40 r 11 0 (0,0))).1
def I9(r:ByteArray)(a6:r.size<=70000)(ax:0<r.size)(w:A2)(a0:vD w):Br O 239 #[Ax r] w (kL w (S W (uv r))):=by
 unfold uv;have G:∀w,(B1 9 (Ax r) (S W 0)).run O w= .ok (S Ce (aA r 0)) w:=λw=>fL ax w;by_cases s:aA r 0=59
 .rw[ae s];rw[s]at G;go_in;go_wp2;go_ret;exact⟨rfl,rfl⟩
 rw[aa s];by_cases p:aA r 0=10
 .rw[ae p];rw[p]at G;go_in;go_wp2;go_ret;exact⟨rfl,rfl⟩
 rw[aa p];have av:(aA r 0==59)=Y:=by rw[eJ];exact s
 have au:(aA r 0==10)=Y:=by rw[eJ];exact p
 generalize aA r 0=a5 at G av au;clear s p;obtain⟨-,⟨a1,ap,ak⟩,⟨a2,ar,ad⟩⟩:=a0;have al:=λa t w=>ast a t w;have L:=λa t w=>asu a t w;obtain⟨y,A⟩:∃y:Array B3,kD=y:=⟨_,rfl⟩;obtain⟨x,z⟩:∃x:Array B3,ni=x:=⟨_,rfl⟩;have ao:Ck (∀a:Nat,a<11->∀w,(B1 222 (E0 y) (S W (a:Int))).run O w= .ok (Ax (dD kD a)) w):=by rw[<-A];exact al
 have an:Ck (∀a:Nat,a<18->∀w,(B1 223 (E0 x) (S W (a:Int))).run O w= .ok (Ax (dD ni a)) w):=by rw[<-z];exact L
 rw[A]at ak;rw[z]at ad;have a3:y.size=11:=by rw[<-A];rfl
 have a4:x.size=18:=by rw[<-z];rfl
 clear al L A z;obtain⟨j,C⟩:=aJ (zm kD 40 r 11 0 (0,0));rw[C];obtain⟨n,E⟩:=aJ (zm ni 61 r 18 0 j);rw[E];have J:F5 kD 40 r 11 0 (0,0) j:=⟨C⟩;have K:F5 ni 61 r 18 0 j n:=⟨E⟩;clear C E;go_in;go_wp2_with (refine wD rfl 222 _ rfl 1 rfl a1 _ ap _ ak underlying222 rfl (by rw[a3];kernel_rfl) ?_);go_loop [3,4,16] (λH I l=>∃(a c:Nat) (d:Int),a<=11/\c<=3/\H= S W d/\I= S W c/\l= S W a/\F5 kD 40 r (11-a) a (d,c) j) (λ_ _ l=>11-(B2 l).toNat)
 case atStart=>exact⟨0,0,0,by omega,by omega,rfl,rfl,rfl,J⟩
 case round=>
  obtain⟨a,c,d,t,m,rfl,rfl,rfl,i⟩:=hrel;by_cases u:a<11
  .have F:=ao.out a u;have v:(dD kD a).size<=3:=osz ⟨a,u⟩;have b:=i.out;rw[show 11-a=(11-(a+1))+1 by omega,zm]at b;have h:=λw=>Tryz.strings_HasPrefix r (dD kD a) w;generalize dD kD a=e at F v b h;by_cases o:c<e.size
   .have B:(c:Int)<(e.size:Int):=by omega
    by_cases f:A9 r.data.toList e.data.toList=Q
    .rw[ae ⟨o,f⟩]at b;have g:F5 kD 40 r (11-(a+1)) (a+1) (40+(a:Int),e.size) j:=⟨b⟩;rw[f]at h;clear b f;go_wp2_with (go_at_call 149;refine iI (h _) ?_);go_round
     case rel=>exact⟨a+1,e.size,40+(a:Int),by omega,v,by go_num,rfl,by go_num,g⟩
     case measure=>simp[B2];omega
    .have q:A9 r.data.toList e.data.toList=Y:=by simpa using f
     rw[aa (λk=>f k.2)]at b;have g:F5 kD 40 r (11-(a+1)) (a+1) (d,c) j:=⟨b⟩;rw[q]at h;clear b f q;go_wp2_with (go_at_call 149;refine iI (h _) ?_);go_round
     case rel=>exact⟨a+1,c,d,by omega,m,rfl,rfl,by go_num,g⟩
     case measure=>simp[B2];omega
   .have B:¬(c:Int)<(e.size:Int):=by omega
    rw[aa (λk=>o k.1)]at b;have g:F5 kD 40 r (11-(a+1)) (a+1) (d,c) j:=⟨b⟩;clear b;go_wp2;go_round
    case rel=>exact⟨a+1,c,d,by omega,m,rfl,rfl,by go_num,g⟩
    case measure=>simp[B2];omega
  .obtain rfl:a=11:=by omega
   have b:=i.out;rw[fH,zm]at b;subst b;clear i J;go_wp2_with (refine wD rfl 223 _ rfl 2 rfl a2 _ ar _ ad underlying223 rfl (by rw[a4];kernel_rfl) ?_);go_loop [3,4,35] (λH I l=>∃(a c:Nat) (d:Int),a<=18/\c<=3/\H= S W d/\I= S W c/\l= S W a/\F5 ni 61 r (18-a) a (d,c) n) (λ_ _ l=>18-(B2 l).toNat)
   case atStart=>exact⟨0,c,d,by omega,m,rfl,rfl,rfl,K⟩
   case round=>
    obtain⟨a,c,d,t,m,rfl,rfl,rfl,i⟩:=hrel;by_cases u:a<18
    .have F:=an.out a u;have v:(dD ni a).size<=3:=bsz ⟨a,u⟩;have b:=i.out;rw[show 18-a=(18-(a+1))+1 by omega,zm]at b;have h:=λw=>Tryz.strings_HasPrefix r (dD ni a) w;generalize dD ni a=e at F v b h;by_cases o:c<e.size
     .have B:(c:Int)<(e.size:Int):=by omega
      by_cases f:A9 r.data.toList e.data.toList=Q
      .rw[ae ⟨o,f⟩]at b;have g:F5 ni 61 r (18-(a+1)) (a+1) (61+(a:Int),e.size) n:=⟨b⟩;rw[f]at h;clear b f;go_wp2_with (go_at_call 149;refine iI (h _) ?_);go_round
       case rel=>exact⟨a+1,e.size,61+(a:Int),by omega,v,by go_num,rfl,by go_num,g⟩
       case measure=>simp[B2];omega
      .have q:A9 r.data.toList e.data.toList=Y:=by simpa using f
       rw[aa (λk=>f k.2)]at b;have g:F5 ni 61 r (18-(a+1)) (a+1) (d,c) n:=⟨b⟩;rw[q]at h;clear b f q;go_wp2_with (go_at_call 149;refine iI (h _) ?_);go_round
       case rel=>exact⟨a+1,c,d,by omega,m,rfl,rfl,by go_num,g⟩
       case measure=>simp[B2];omega
     .have B:¬(c:Int)<(e.size:Int):=by omega
      rw[aa (λk=>o k.1)]at b;have g:F5 ni 61 r (18-(a+1)) (a+1) (d,c) n:=⟨b⟩;clear b;go_wp2;go_round
      case rel=>exact⟨a+1,c,d,by omega,m,rfl,rfl,by go_num,g⟩
      case measure=>simp[B2];omega
    .obtain rfl:a=18:=by omega
     have b:=i.out;rw[fH,zm]at b;subst b;clear i K;go_wp2;go_ret;exact⟨rfl,rfl⟩
def vD.setCell(h:vD w){a:Addr}(l:12<=a.block)(v:B3):vD (w.setCell a v):=by
 obtain⟨⟨i,b,e⟩,⟨j,c,f⟩,⟨k,d,g⟩⟩:=h;exact⟨⟨i,b,(aC w a _ v (by omega)).trans e⟩,⟨j,c,(aC w a _ v (by omega)).trans f⟩,⟨k,d,(aC w a _ v (by omega)).trans g⟩⟩
def vD.drewN(h:vD w)(n:Nat):vD (w.drewN n):=⟨h.word,h.mark,h.bin⟩
def Ja:∀k:Fin 79,(dG (k.val:Int)).size<=6:=by decide+kernel
def ahm(k:Int):(dG k).size<=6:=by
 by_cases a:0<=k/\k<=78
 .have:=Ja ⟨k.toNat,by omega⟩;simp only[show((k.toNat:Nat):Int)=k by omega]at this;exact this
 .unfold dG;rw[aa (by omega),aa (by omega),aa (by omega),aa (by omega),aa (by omega)];decide
def abE(V:Array B3)(base:Int)(r:ByteArray)(d:0<=base)(N:Int):∀(f i:Nat)(a:Int×Nat),0<=a.1->a.1<=N->base+((i+f:Nat):Int)<=N+1->0<=(zm V base r f i a).1/\(zm V base r f i a).1<=N
 |0,i,a,b,c,_=>⟨b,c⟩
 |f+1,i,a,b,c,e=>by
  unfold zm;refine abE V base r d N f (i+1) _ ?_ ?_ (by omega)
  .split
   .simp only;omega
   .exact b
  .split
   .simp only;omega
   .exact c
def ahn(r:ByteArray):0<=uv r/\uv r<=78:=by
 unfold uv;split
 .omega
 split
 .omega
 have a:=abE kD 40 r (by omega) 50 11 0 (0,0) (by simp) (by simp) (by simp);exact abE ni 61 r (by omega) 78 18 0 _ a.1 (by omega) (by simp)
def abF(b t:Nat)(w':A2)(s:ByteArray)(m:B3)(fr:Int)(p:Nat)(l a k:Int):Prop:=
 if k=0 then je b w' s m fr p l Q/\gg t w' 0 p 0 a 0 T else je b w' s m fr ((p:Int)+((dG k).size:Int)) (if k=7 then l+1 else l) Y/\gg t w' k p 0 a 0 T
def Jb(s:ByteArray)(av:s.size<=70000)(b t:Nat)(w:A2)(m:B3)(p:Nat)(l J:Int)(ax:p<s.size)(au:0<=l)(ar:l<=100000)(h:b≠t)(hS:je b w s m fr p l Y)(j:gg t w 0 p 0 J 0 T)(d:vD w)(an:12<=b)(ao:12<=t):
  Br O 199 #[B7 (A0 ⟨b,0,Z⟩),B7 (A0 ⟨t,0,Z⟩)] w λe w'=>e= B4 (C2 #[])/\tI b t w w'/\abF b t w' s m fr p l J (uv (s.extract p s.size)):=by
 have ap:b<w.heap.size:=ai hS;have a1:t<w.heap.size:=ai j;have a0:(s.extract p s.size).size=s.size-p:=og s p s.size (af _);have o:=λw d=>I9 (s.extract p s.size) (by omega) (by omega) w d;have ad:=ahn (s.extract p s.size);generalize uv (s.extract p s.size)=c at o ad;have⟨A,B,C,E,F,G,H,I⟩:=iC hS;have⟨a2,a3,a4,a5,a6,a7,a8⟩:=db j;unfold abF;by_cases u:c=0
 .subst u;simp only[kJ];go_in;go_upto_region 0 with fail
  go_quiet ((go_at_call 239;exact B0 (o _ (d.drewN _))))
  go_wp2;refine bH (fK rfl _ _ _) rfl ?_;exact⟨rfl,((tI.refl b t w).drewN _).setB 5 _,(hS.drewN _).setK _,(j.drewN _).other (ez h) _⟩
 have ak:(c==0)=Y:=by rw[eJ];exact u
 have y:=λw d=>xu c (by omega) (by omega) w d;have K:=ahm c;generalize dG c=q at y K;simp only[aa u];by_cases v:c=7
 .subst v;simp only[kJ];go_in;go_upto_region 0 with fail
  go_quiet ((go_at_call 239;exact B0 (o _ (d.drewN _))))
  have g:=((hS.drewN nq).setL (l+1)).other (a:=⟨t,0,Z⟩) h (S W 7);have k:=((j.drewN nq).other (a:=⟨b,4,Z⟩) (ez h) (S W (l+1))).setKind 7;have n:=(((tI.refl b t w).drewN nq).setB 4 (S W (l+1))).setT 0 (S W 7);have f:=((d.drewN nq).setCell (a:=⟨b,4,Z⟩) (by simp;omega) (S W (l+1))).setCell (a:=⟨t,0,Z⟩) (by simp;omega) (S W 7);go_upto_region 6 with fail
  generalize ((w.drewN nq).setCell ⟨b,4,Z⟩ (S W (l+1))).setCell ⟨t,0,Z⟩ (S W 7)=i at g k n f⊢;have⟨A,B,C,E,F,G,H,I⟩:=iC g;have r:vD i.drew:=⟨f.word,f.mark,f.bin⟩;have z:=y i.drew r;have L:IntKind.i64.wrap ((p:Int)+(q.size:Int))=(p:Int)+(q.size:Int):=by rw[fh];omega
  go_region_with (first|(go_at_call 125;refine z.mono ?_;rintro e w' ⟨rfl,x⟩;obtain rfl:=x.symm))
  all_goals
   go_end0
   exact⟨rfl,(n.setB 3 _).drew,g.setP _,k.other (ez h) _⟩
 .have al:(c==7)=Y:=by rw[eJ];exact v
  simp only[aa v];go_in;go_upto_region 0 with fail
  go_quiet ((go_at_call 239;exact B0 (o _ (d.drewN _))))
  have g:=(hS.drewN nq).other (a:=⟨t,0,Z⟩) h (S W c);have k:=(j.drewN nq).setKind c;have n:=((tI.refl b t w).drewN nq).setT 0 (S W c);have f:=(d.drewN nq).setCell (a:=⟨t,0,Z⟩) (by simp;omega) (S W c);go_upto_region 6 with fail
  generalize (w.drewN nq).setCell ⟨t,0,Z⟩ (S W c)=i at g k n f⊢;have⟨A,B,C,E,F,G,H,I⟩:=iC g;have r:vD i.drew:=⟨f.word,f.mark,f.bin⟩;have z:=y i.drew r;have L:IntKind.i64.wrap ((p:Int)+(q.size:Int))=(p:Int)+(q.size:Int):=by rw[fh];omega
  go_region_with (first|(go_at_call 125;refine z.mono ?_;rintro e w' ⟨rfl,x⟩;obtain rfl:=x.symm))
  all_goals
   go_end0
   exact⟨rfl,(n.setB 3 _).drew,g.setP _,k.other (ez h) _⟩
structure Rd where
 ok:Bool
 a:Nat
 d:Int
 k:Int
 n:Int
 x:ByteArray
def du(s:ByteArray)(p:Nat):Rd:=
 if cD (aA s p)=Q then⟨Q,rv s (s.size+1) p,0,(Ka s p).1,0,(Ka s p).2⟩
 else if cJ (aA s p)=Q then(if(fc s p).2=Q then⟨Q,(fc s p).1,0,(yk s p).1,(yk s p).2.1,(yk s p).2.2⟩ else⟨Y,(fc s p).1,0,0,0,T⟩)
 else if aA s p=34 then(if(jv s (s.size+1) (p+1) []).1=Q then⟨Q,(jv s (s.size+1) (p+1) []).2.1,0,4,0,eD (jv s (s.size+1) (p+1) []).2.2⟩ else⟨Y,(jv s (s.size+1) (p+1) []).2.1,0,0,0,T⟩)
 else if uv (s.extract p s.size)=0 then⟨Y,p,0,0,0,T⟩ else⟨Q,p+(dG (uv (s.extract p s.size))).size,if uv (s.extract p s.size)=7 then 1 else 0,uv (s.extract p s.size),0,T⟩
def aqi(b t:Nat)(w w':A2)(s:ByteArray)(m:B3)(fr:Int)(p:Nat)(l:Int)(R:Rd):Prop:=tI b t w w'/\je b w' s m fr (R.a:Int) (l+R.d) (!R.ok)/\gg t w' R.k p 0 l R.n R.x
def Lay.blocks(h:Lay w)(a:∀k,k<12->w'.heap[k]?=w.heap[k]?):Lay w':=by
 obtain⟨⟨⟨p,f,m⟩,⟨q,g,n⟩,⟨r,i,o⟩⟩,⟨⟨s,j,c⟩,⟨t,l,d⟩⟩,b,e⟩:=h;refine⟨⟨⟨p,f,(a _ (by decide)).trans m⟩,⟨q,g,(a _ (by decide)).trans n⟩,⟨r,i,(a _ (by decide)).trans o⟩⟩,⟨⟨s,j,?_⟩,⟨t,l,?_⟩⟩,?_,?_⟩
 .unfold World.cell? at c⊢;rw[a _ (by decide)];exact c
 .unfold World.cell? at d⊢;rw[a _ (by decide)];exact d
 .unfold E1 World.var? at b⊢;rw[show Tryz.prog.globalNamed "internal/strconv.uint64pow10" =A0 6 by kernel_rfl]at b⊢;simp only[CF]at b⊢;rw[a _ (by decide)];exact b
 .unfold World.cell? at e⊢;rw[a _ (by decide)];exact e
def oH{x e z:A2}{b:Option Nat}(h:x.grownBy e b)(k:e.grownBy z b):x.grownBy z b:=
 ⟨k.os.trans h.os,k.tape.trans h.tape,k.output.trans h.output,di h.size k.size,λd a c=>(k.block d (iu a h.size) c).trans (h.block d a c)⟩
def afn(s:ByteArray)(J:s.size<=70000)(b mb:Nat)(w:A2)(p:Nat)(l:Int)(A:p<s.size)(cb:0<=l)(ca:l<=100000)(a3:mb≠b)(b7:12<=b)(hS:je b w s (.map (A0 mb)) fr p l Y)(av:w.ownsMap O 9 (plainElem (H:=Unit) O 3) mb 22 (Ai 22))(a9:Lay w):
  Br O 150 #[B7 (A0 ⟨b,0,Z⟩)] w λe w'=>e= B4 (E0 #[S W (du s p).k,S W p,S W ((du s p).a:Int),S W l,S W (du s p).n,Ax (du s p).x])/\w.grownBy w' (A0 b)/\je b w' s (.map (A0 mb)) (p:Int) ((du s p).a:Int) (l+(du s p).d) (!(du s p).ok):=by
 have a1:b<w.heap.size:=ai hS;have bn:mb<w.heap.size:=av.lt;have cs:=λw=>fL A w;have⟨L,ad,ak,al,an,ao,ap,ar⟩:=iC hS;have⟨bE,b4⟩:=acJ hS;have⟨a5,bd⟩:=aJ (du s p);rw[bd];have bs:=am bd;go_in;go_wp2_with fail;have F:=hS.setF (p:Int);have bb:=adl (t:=b) av ((tI.refl b b w).setB 2 (S W (p:Int))) a3 a3;have ba:Lay (w.setCell ⟨b,2,Z⟩ (S W (p:Int))):=a9.blocks (λk I=>aC _ _ _ _ (by simp only;omega));have a2:w.grownBy (w.setCell ⟨b,2,Z⟩ (S W (p:Int))) (A0 b):=⟨rfl,rfl,rfl,by simp[World.setCell],λk I q=>aC _ _ _ _ (λe=>q (by rw[e]))⟩;have K:(w.setCell ⟨b,2,Z⟩ (S W (p:Int))).heap.size=w.heap.size:=by simp[World.setCell]
 have⟨bv,bw,bx,bA,bD,b1,b2,b3⟩:=iC F;obtain⟨bF,b5⟩:=acJ F;rw[<-K];rw[<-K]at a1 bn;generalize w.setCell ⟨b,2,Z⟩ (S W (p:Int))=wN at F bb ba a2 K a1 bn bv bw bx bA bD b1 b2 b3 bF b5⊢;have br:=am a2;clear hS av a9 a2 K L ad ak al an ao ap ar bE b4;go_region
 generalize bj:(wN.alloc _).alloc _=f;obtain⟨G,a0,au, -⟩:=If bj;replace G:gg wN.heap.size f 0 0 0 0 0 T:=G;replace a0:gg (wN.heap.size+1) f 0 p 0 l 0 T:=a0;have bf:=F.below au a1;have u:=ba.below au (af _);have b8:f.ownsMap O 9 (plainElem (H:=Unit) O 3) mb 22 (Ai 22):=by rw[<-bj];exact(bb.alloc _).alloc _
 have⟨L,ad,ak,al,an,ao,ap,ar⟩:=iC bf;have q:b≠wN.heap.size+1:=by omega
 go_wp2_with fail;go_quiet (fail)
 go_upto_block 0 with fail
 have y:je b (f.drew.drewN nq) s (.map (A0 mb)) p p l Y:=bf;have z:gg (wN.heap.size+1) (f.drew.drewN nq) 0 p 0 l 0 T:=a0;have o:tI b (wN.heap.size+1) f (f.drew.drewN nq):=((tI.refl _ _ _).drew).drewN nq;have bc:(f.drew.drewN nq).ownsMap O 9 (plainElem (H:=Unit) O 3) mb 22 (Ai 22):=b8;have a7:vD (f.drew.drewN nq):=⟨u.tabs.word,u.tabs.mark,u.tabs.bin⟩;have a8:pH (f.drew.drewN nq):=⟨u.errs.syn,u.errs.rng⟩;generalize f.drew.drewN nq=B at y z o bc a7 a8⊢;go_cut [] from 4 (λck=>aqi b (wN.heap.size+1) f ck s (.map (A0 mb)) p p l a5)
 case first=>
  have cd:=I8 s J b (wN.heap.size+1) mb B p l l A q a3 (by omega) y z bc;have ce:=λb9=>Ef s J b (wN.heap.size+1) B (.map (A0 mb)) p l l A b9 q y z a8 (by omega) (by omega);have bo:=Dq s J b (wN.heap.size+1) B (.map (A0 mb)) p l p l A q y z;have bp:=Jb s J b (wN.heap.size+1) B (.map (A0 mb)) p l l A cb ca q y z a7 b7 (by omega);have g:=bs.out;unfold du at g;cases hlt:cD (aA s p) with
  |true=>
   rw[hlt,ae rfl]at g;have m:=am g;have h:=λw=>qf (aA s p) w;rw[hlt]at h;generalize aA s p=a6 at h⊢;go_wp2_with (first|(go_at_call 194;refine(h _).mono ?_;rintro e w' ⟨rfl,rfl⟩)|(go_at_call 195;refine cd.mono ?_;rintro e a4 ⟨rfl,i,c,C⟩));go_meet
   case rel=>rw[<-m.out];exact⟨o.trans i,by simpa using c,C⟩
  |false=>
   rw[hlt,aa (by simp)]at g;have h:=λw=>qf (aA s p) w;rw[hlt]at h;cases hdg:cJ (aA s p) with
   |true=>
    rw[hdg,ae rfl]at g;have j:=λw=>lD (aA s p) w;rw[hdg]at j;have m:=am g;have cc:=ce hdg;generalize aA s p=a6 at h j⊢;go_wp2_with (first|(go_at_call 194;refine(h _).mono ?_;rintro e w' ⟨rfl,rfl⟩)|(go_at_call 196;refine(j _).mono ?_;rintro e w' ⟨rfl,rfl⟩)|(go_at_call 197;refine cc.mono ?_;rintro e a4 ⟨rfl,i,c⟩;have r:Ck _:=c));go_meet
    case rel=>
     rw[<-m.out];have c:=r.out;cases hok:(fc s p).2 with
     |true=>rw[hok]at c;simp only[kJ]at c⊢;exact⟨o.trans i,by simpa using c.1,c.2⟩
     |false=>rw[hok]at c;simp only[CA,if_false]at c⊢;exact⟨o.trans i,by simpa using c.1,c.2⟩
   |false=>
    rw[hdg,aa (by simp)]at g;have j:=λw=>lD (aA s p) w;rw[hdg]at j;by_cases E:aA s p=34
    .rw[ae E]at g;have m:=am g;rw[E]at h j⊢;generalize jv s (s.size+1) (p+1) []=bt at bo m;go_wp2_with (first|(go_at_call 194;refine(h _).mono ?_;rintro e w' ⟨rfl,rfl⟩)|(go_at_call 196;refine(j _).mono ?_;rintro e w' ⟨rfl,rfl⟩)|(go_at_call 198;refine bo.mono ?_;rintro e a4 ⟨rfl,i,c⟩;have r:Ck _:=c));go_meet
     case rel=>
      rw[<-m.out];have c:=r.out;unfold oC at c;obtain⟨cf,cu,cv⟩:=bt;cases cf with
      |true=>simp only[kJ]at c⊢;exact⟨o.trans i,by simpa using c.1,c.2⟩
      |false=>simp only[CA,if_false]at c⊢;exact⟨o.trans i,by simpa using c.1,c.2⟩
    .rw[aa E]at g;have b6:(aA s p==34)=Y:=by rw[eJ];exact E
     generalize uv (s.extract p s.size)=k at bp g;have m:=am g;generalize aA s p=a6 at h j b6⊢;go_wp2_with (first|(go_at_call 194;refine(h _).mono ?_;rintro e w' ⟨rfl,rfl⟩)|(go_at_call 196;refine(j _).mono ?_;rintro e w' ⟨rfl,rfl⟩)|(go_at_call 199;refine bp.mono ?_;rintro e a4 ⟨rfl,i,c⟩;have r:Ck _:=c));go_meet
     case rel=>
      rw[<-m.out];have c:=r.out;unfold abF at c;by_cases I:k=0
      .rw[ae I]at c⊢;exact⟨o.trans i,by simpa using c.1,c.2⟩
      .rw[aa I]at c⊢;refine⟨o.trans i,?_,c.2⟩;have C:=c.1;have b0:(if k=7 then l+1 else l)=l+(if k=7 then 1 else 0):=by split<;>omega
       rw[b0]at C;simpa using C
 case rest=>
  obtain⟨bl,ax,bh⟩:=hcut;have bk:gg wN.heap.size wc 0 0 0 0 0 T:=(bl.block wN.heap.size (ai G) (by omega) (by omega)).trans G;obtain⟨ct,a,d,k,n,x⟩:=a5;simp only at ax bh⊢;have⟨L,ad,ak,al,an,ao,ap,ar⟩:=iC ax;have⟨cw,cx,cy,cz,cB,cI,c6⟩:=db bh;have⟨z0,cl,cm,cn,cp,cq,c7⟩:=db bk;have cr:wN.heap.size<wc.heap.size:=ai bk;go_wp2;refine bH (v:= E0 #[S W k,S W p,S W (a:Int),S W l,S W n,Ax x]) (by simp[results,results150,go_sem,z0,cl,cm,cn,cp,cq]) rfl ⟨rfl,?_,?_⟩
  .refine oH br ?_;exact xK (xK (xK (xK (xK (xK (xK (ank au bl (by omega)) _ (by simp)) _ (by simp)) _ (by simp)) _ (by simp)) _ (by simp)) _ (by simp)) _ (by simp)
  .exact((((((ax.other (by simp;omega) _).other (by simp;omega) _).other (by simp;omega) _).other (by simp;omega) _).other (by simp;omega) _).other (by simp;omega) _).other (by simp;omega) _
def C6(b:Nat)(w:A2)(s:ByteArray)(m:B3)(p l:Int)(k:Bool):Prop:=∃fr,je b w s m fr p l k
def C6.cells{b:Nat}{p l:Int}{k:Bool}(h:C6 b w s m p l k):w.cell? ⟨b,0,Z⟩=A0 (Ax s)/\w.cell? ⟨b,1,Z⟩=A0 m/\w.cell? ⟨b,3,Z⟩=A0 (S W p)/\w.cell? ⟨b,4,Z⟩=A0 (S W l)/\w.cell? ⟨b,5,Z⟩=A0 (Ex k)/\
  w.frozen? ⟨b,3,Z⟩=Y/\w.frozen? ⟨b,4,Z⟩=Y/\w.frozen? ⟨b,5,Z⟩=Y:=by obtain⟨a,h⟩:=h;exact iC h
def C6.pos{b:Nat}{p:Nat}{l:Int}{k:Bool}(h:C6 b w s m p l k):Gr b w=p:=by obtain⟨a,h⟩:=h;exact vB h
def C6.setP{b:Nat}{p l:Int}{k:Bool}(h:C6 b w s m p l k)(x:Int):C6 b (w.setCell ⟨b,3,Z⟩ (S W x)) s m x l k:=by obtain⟨a,h⟩:=h;exact⟨a,h.setP x⟩
def ado(i:Nat)(h:i<11):dG (40+(i:Int))=dD kD i:=by
 unfold dG;rw[aa (by omega),aa (by omega),aa (by omega),ae (by omega)];rw[show(40+(i:Int)-40).toNat=i by omega]
def adp(i:Nat)(h:i<18):dG (61+(i:Int))=dD ni i:=by
 unfold dG;rw[aa (by omega),aa (by omega),aa (by omega),aa (by omega),ae (by omega)];rw[show(61+(i:Int)-61).toNat=i by omega]
def Sgn(r:ByteArray)(k:Int)(n:Nat):Prop:=(k=0/\n=0)\/(n=(dG k).size/\1<=n/\A9 r.data.toList (dG k).data.toList=Q/\k≠0)
def zn(V:Array B3)(base:Int)(r:ByteArray)(N:Nat)(c:0<base)(b:∀i,i<N->dG (base+(i:Int))=dD V i):∀(f i:Nat)(a:Int×Nat),i+f<=N->Sgn r a.1 a.2->Sgn r (zm V base r f i a).1 (zm V base r f i a).2
 |0,i,a,_,h=>h
 |f+1,i,a,e,h=>by
  unfold zm;refine zn V base r N c b f (i+1) _ (by omega) ?_;split
  .rename_i d;refine .inr ⟨?_,?_,?_,?_⟩
   .show(dD V i).size=_;rw[b i (by omega)]
   .show 1<=(dD V i).size;omega
   .show A9 _ (dG (base+(i:Int))).data.toList=Q;rw[b i (by omega)];exact d.2
   .show base+(i:Int)≠0;omega
  .exact h
def akA(r x:ByteArray)(h:A9 r.data.toList x.data.toList=Q):x.size<=r.size:=by
 unfold A9 at h;rw[Ho]at h;have:=h.length_le
 rwa [iG,iG]at this
def akB(r:ByteArray)(h:0<r.size)(a:uv r≠0):1<=(dG (uv r)).size/\(dG (uv r)).size<=r.size:=by
 unfold uv at a⊢;split
 .exact⟨by decide,by show 1<=r.size;omega⟩
 split
 .exact⟨by decide,by show 1<=r.size;omega⟩
 rename_i c d;rw[aa c,aa d]at a;have f:=zn kD 40 r 11 (by omega) ado 11 0 (0,0) (by omega) (.inl ⟨rfl,rfl⟩);have g:=zn ni 61 r 18 (by omega) adp 18 0 _ (by omega) f;rcases g with⟨b,_⟩|⟨b,i,e,_⟩
 .exact absurd b a
 .exact⟨by omega,akA r _ e⟩
def akC(s:ByteArray)(p:Nat)(h:cD (aA s p)=Q):p<rv s (s.size+1) p:=by
 have a:p<s.size:=by
  rcases bI p s.size with h1|h1
  .exact h1
  .exact absurd (.inl h) (Ik (by omega))
 rw[rv,ae (.inl h)];have:=ya s s.size (p+1) (by omega);omega
def uw(s:ByteArray)(p:Nat)(i:p<s.size)(b:(du s p).ok=Q):p<(du s p).a/\(du s p).a<=s.size/\0<=(du s p).d/\(du s p).d<=1:=by
 unfold du at b⊢;split
 .rename_i h;exact⟨akC s p h,(ya s _ p (by omega)).2,by simp,by simp⟩
 split
 .rename_i c e;rw[aa c,ae e]at b;have:=xd s p i;split
  .exact⟨this.1,this.2,by simp,by simp⟩
  .rename_i f;rw[aa f]at b;cases b
 split
 .rename_i c e f;rw[aa c,aa e,ae f]at b;have:=yF s (s.size+1) (p+1) [] (by omega);split
  .exact⟨by simp only;omega,this.2.1,by simp,by simp⟩
  .rename_i g;rw[aa g]at b;cases b
 .rename_i c e f;rw[aa c,aa e,aa f]at b;split
  .rename_i g;rw[ae g]at b;cases b
  .rename_i g;have j:=og s p s.size (af _);have:=akB (s.extract p s.size) (by omega) g;refine⟨by simp only;omega,by simp only;omega,?_,?_⟩
   .simp only;split<;>omega
   .simp only;split<;>omega
def nnB(c:Int):Bool:=decide (c≠10/\c≠ -1)
def aho:nnB (-1)=Y:=by decide
def nlE(s:ByteArray)(p:Nat):Nat:=jD nnB s (s.size+1) p
def blk(s:ByteArray):Nat->Nat->Nat
 |0,p=>p
 |f+1,p=>if s.size<=p then p else if kC (aA s p)=Q then blk s f (p+1) else if aA s p=45/\aA s (p+1)=45 then blk s f (nlE s p) else p
def abG(s:ByteArray)(p:Nat)(h:p<=s.size):p<=nlE s p/\nlE s p<=s.size:=qi nnB aho s _ p h
def zo(s:ByteArray)(p:Nat)(h:aA s p=45):p<nlE s p:=by
 have a:=co h;unfold nlE;rw[jD,ae (by rw[h];decide)];have:=qi nnB aho s s.size (p+1) (by omega);omega
def zq(s:ByteArray):∀(f g p:Nat),p<=s.size->s.size<p+f->s.size<p+g->blk s f p=blk s g p
 |0,g,p,h,a,b=>by omega
 |f+1,0,p,h,a,b=>by omega
 |f+1,g+1,p,h,a,b=>by
  unfold blk;split
  .rfl
  split
  .exact zq s f g (p+1) (by omega) (by omega) (by omega)
  split
  .rename_i d;have e:=zo s p d.1;have c:=abG s p h;exact zq s f g _ c.2 (by omega) (by omega)
  .rfl
def yl(s:ByteArray):∀(f p:Nat),p<=s.size->p<=blk s f p/\blk s f p<=s.size
 |0,p,h=>⟨af _,h⟩
 |f+1,p,h=>by
  unfold blk;split
  .exact⟨af _,h⟩
  split
  .have:=yl s f (p+1) (by omega);omega
  split
  .have a:=abG s p h;have:=yl s f (nlE s p) a.2;omega
  .exact⟨af _,h⟩
def AI(s:ByteArray)(p:Nat)(a:p<s.size)(h:kC (aA s p)=Q):blk s (s.size+1) p=blk s (s.size+1) (p+1):=by
 rw[blk,aa (by omega),ae h];exact zq s _ _ _ (by omega) (by omega) (by omega)
def ahp(c:Int)(h:c=45):¬kC c=Q:=by subst h;decide
def Eg(s:ByteArray)(p:Nat)(h:aA s p=45)(a:aA s (p+1)=45):blk s (s.size+1) p=blk s (s.size+1) (nlE s p):=by
 have d:=co h;have c:=zo s p h;have b:=abG s p (by omega);rw[blk,aa (by omega),aa (ahp _ h),ae ⟨h,a⟩];exact zq s _ _ _ b.2 (by omega) (by omega)
def Jc(s:ByteArray)(p:Nat)(a:¬kC (aA s p)=Q)(b:¬(aA s p=45/\aA s (p+1)=45)):blk s (s.size+1) p=p:=by
 rw[blk,aa a,aa b];split<;>rfl
def adq(s:ByteArray)(p:Nat)(h:s.size<=p):blk s (s.size+1) p=p:=by rw[blk,ae h]
