import Derived.Test.YthkcmkmkapijkaaGreatDoorh10
set_option linter.all false
set_option maxRecDepth 100000
set_option maxHeartbeats 6400000
open Go.Proofs.Tryz
open Go.Proofs.Tryz renaming prog->Y
open ByteArray renaming empty->Ax
open List renaming length->A0,range->B1
open Go.Ending renaming returned->A1
open Option renaming some->A2,none->B7
open Go.Lib renaming decDigits->A3,hasPrefix->B4,TabIs->Fs
open Go renaming World->A5,Calls->B2,Value->C2
open Go.Value renaming string->A9,slice->B6,tuple->D1,int->E0,bool->E2,agg->E3
open Bool renaming false->Br,true->B0
open Go.RowKit renaming Below->B3,intOf->D2,Hid->E1
open Go.Calls renaming quiet_of_same->B5
open Go.Instr renaming index->B9
namespace Go.Proofs.YthkcmkmkapijkaaGreatDoor
open Go.RowKit Go.Maps Go.WideMaps
variable{N:Nd}{T s:Bz}{W w w' w0:World}{fr l t:Int}{k:Bool}{m vk vn vt:Value}
def EF(u:Nat)(j:Nat):Int:=ny ((u / 16 ^ j%16:Nat):Int)
def wC(u:Nat):Nat->Bz|0=>⟨#[48,120]⟩|r+1=>wC u r++dK [EF u<|15-r]
def Nat.pow_mul_two16(k):(2:Int) ^ (4*k)=(16:Int) ^ k:=by rw[Int.pow_mul];rfl
def yk(u):∀r,(wC u r).size=r+2|0=>rfl|r+1=>by show(wC u r++dK [EF u<|15-r]).size=_;rw[az,yk];rfl
def alL(d)(b:0<=d)(c:d<16)(w):(B9 9 (A9 ⟨#[48,49,50,51,52,53,54,55,56,57,97,98,99,100,101,102]⟩)<|E0 .u64 d).run Y w= .ok (zU<|ny d) w:=by
 have a:d.toNat<DG.size:=by simp[DG];show d.toNat<16;omega
 have e:=ast d b c a;go_simp;exact e
theorem asA(c)(a:0<=c)(b:c<18446744073709551616):bits .and .u64 c 15=c%16:=by
 have:=bits_mask .u64 64 Z (λ_ _ _=>by rw[IntKind.wrap_u64];omega) 4 Z c a b;grind
theorem ajj(n)(z: -9223372036854775808<=n)(A:n<0)(w):B2 Y 118 #[zI n] w λe w'=>e=A1 (A9<|wC (n+18446744073709551616).toNat 16)/\B3 w.heap.size w w':=by
 obtain⟨c,x⟩:∃c:Nat,c=n+18446744073709551616:=⟨(n+18446744073709551616).toNat,O⟩;rw[(O:(n+18446744073709551616).toNat=c)];obtain⟨d,m⟩:∃d:Int,d=c:=⟨_,R⟩;have af:IntKind.u64.wrap n=d:=by rw[IntKind.wrap_u64];omega
 have L:0<=d:=O;have ad:d<18446744073709551616:=O;have j:=ah m;have G:¬0<=n:=O;clear m x;go_in;go_wp2;go_loopw [4,5] (λy h wr=>∃a:Nat,a<=16/\h=zI (60-4*a)/\y=A9 (wC c a)/\B3 w.heap.size w wr) (λ_ h _=>(D2 h+4).toNat)
 .exact⟨0,O,R,R,blR⟩
 .
  obtain⟨a,_,rfl,rfl,p⟩:=hrel;by_cases B:a<16
  .obtain⟨f,g⟩:∃f:Int,60-4*a=f:=⟨_,R⟩;have E:0<=f:=O;have F:f<=60:=O;obtain⟨b,r⟩:∃b:Int,d / 2 ^ f.toNat=b:=⟨_,R⟩;have o:b=((c / 16 ^ (15-a):Nat):Int):=by
    rw[<-r,j.out,(O:f.toNat=4*(15-a)),Nat.pow_mul_two16,Int.natCast_ediv];rfl
   have s:0<=b:=U;have t:b<18446744073709551616:=by
    rw[o];have:=Nat.div_le_self c<|16 ^ (15-a);have:=j.out;omega
   have k:0<=b%16:=O;have l:b%16<16:=O;have u:bits .and .u64 b 15=b%16:=asA b s t;have v:=λw=>alL _ k l w;have i:E1 (dK [ny<|b%16]=dK [EF c<|15-a]):=by
    show _=_;unfold EF;grind
   generalize b%16=D at k l u v i;have C:=λw=>lK<|uy w<|ny D;have H:=yk c a;have K:(dK [ny D]).size=1:=rfl;have q:=ah g;rw[g];clear o g;go_wp2;go_roundw
   .exact⟨a+1,O,by have:=q.out;grind,by rw[i.out];rfl,p.alloc p.size _⟩
   simp[D2];omega
  .obtain rfl:a=16:=O;exact gwS
def aub:bits .and .u64 16 (IntKind.u64.wrap (-16))=16:=by rfl
def auc:IntKind.u64.wrap 4573923408821661840=4573923408821661840:=by rfl
def azr(w)(h:w.cell? (aj 11 15)=A2 (zU 4)):B2 Y 369 #[E0 .u64 16] w λe w'=>e=A1 (zI 4)/\w'=w:=by
 have a:=aub;have b:=auc;exact giS
theorem tz(w)(h:w.cell? (aj 11 15)=A2 (zU 4)):B2 Y 348 #[E0 .u64 16] w λe w'=>e=A1 (zI 4)/\w'=w:=by
 go_in;go_wp2_with (go_at_call 369;apply(azr _ h).mono;rintro e w' ⟨rfl,rfl⟩);go_ret
 simp_all
def p2(w):B2 Y 347 #[zI 16] w λe w'=>e=A1 (E2 B0)/\w'=w:=by
 have a:bits .and .i64 16 15=0:=by rfl
 exact giS
def D36:Bz:=⟨#[48,49,50,51,52,53,54,55,56,57,97,98,99,100,101,102,103,104,105,106,107,108,109,110,111,112,113,114,115,116,117,118,119,120,121,122]⟩
def aql:∀i:Fin 16,((D36[i.val]'(by have:=i.isLt;show i.val<36;omega)).toNat:Int)=ny (i.val:Int):=Z
theorem aud(d)(a:0<=d)(b:d<16)(h):((D36[d.toNat]'h).toNat:Int)=ny d:=by
 have:=aql ⟨d.toNat,O⟩;grind
def ag4(d)(b:0<=d)(c:d<16)(w):(B9 9 (A9 ⟨#[48,49,50,51,52,53,54,55,56,57,97,98,99,100,101,102,103,104,105,106,107,108,109,110,111,112,113,114,115,116,117,118,119,120,121,122]⟩)<|E0 .u64 d).run Y w= .ok (zU<|ny d) w:=by
 have a:d.toNat<D36.size:=by simp[D36];show d.toNat<36;omega
 have e:=aud d b c a;have f:d<36:=O;go_simp;exact e
structure Rw (B:Nat) (w:A5) (u r:Nat):Prop where
 ex:∃arr,w.heap[B]?=A2 (.cells arr 337 (0,0))/\arr.size=65/\∀j,j<r->arr[64-j]?=A2 (zU<|EF u j)
theorem Rw.step{B u r}(h:Rw B w u r)(b:r<65)(x)(c:x=EF u r):Rw B (w.setCell (aj B<|64-r)<|zU x) u (r+1):=by
 have⟨_,a,_,_⟩:=h.ex;refine⟨_,aD w B _ _ _ _ a,U,λ_ _=>?_⟩;grind
theorem Rw.conv{B u}(h:Rw B w u 16):(convert 22 9<|B6 (A2 ⟨B,49,B7⟩) 16 16).run Y w= .ok (A9<|dK<|(B1 16).map λj=>EF u<|15-j) w:=by
 have⟨_,c,_,_⟩:=h.ex;rw[Lp w _ 9 5 _ _ _ underlying22 underlying5 underlying9];apply run_bytesToString w _ _ _ _;have:=run_loadCells_list (P:=Y) w _ (B8<|(B1 _).map λj=>EF u<|15-j) (λj e a=>by
  have d:j<16:=by
   obtain g|g:=cG j 16
   .exact g
   .rw[BC (by simpa [B8] using g)]at a;cases a
  have b:e=zU (EF u<|15-j):=by
   simp[B8,d]at a;grind
  subst b;rw[show(⟨B,49,B7⟩:Addr).add j=⟨B,49+j,B7⟩ by unfold Addr.add;grind,oe c];grind)
 exact this
theorem aqm(u:Nat)(ao:9223372036854775808<=u)(ap:u<18446744073709551616)(w)(h:w.cell? (aj 11 15)=A2 (zU 4)):B2 Y 314 #[fe,E0 .u64 (u:Int),zI 16,E2 Br,E2 Br] w λe w'=>e=A1 (D1 #[fe,A9<|dK<|(B1 16).map λj=>EF u<|15-j])/\B3 w.heap.size w w':=by
 have z:=Ca w _ h;have ak:∀m,B2 Y 348 #[E0 .u64 16] (w.alloc m) λe w'=>e=A1 (zI 4)/\w'=w.alloc m:=λm=>tz _<|(ma (((ay _ w).alloc O m)) z).trans h;have F:Rw w.heap.size (w.alloc<|.cells Tryz.zeroCells337 337) u 0:=⟨_,au w _,byR,λj _=>O⟩;have C:B3 w.heap.size w (w.alloc<|.cells Tryz.zeroCells337 337):=(ay _ w).alloc O _;obtain⟨n,t⟩:∃n,(B1 16).map (λj=>EF u<|15-j)=n:=⟨_,R⟩;rw[t];have A:E1 ((B1 16).map (λj=>EF u<|15-j)=n):=t;go_in;go_wp2_with (first|(go_at_call 347;apply(p2 _).mono;rintro e w' ⟨rfl,rfl⟩)|(go_at_call 348;apply ez<|ak _));generalize w.alloc (.cells Tryz.zeroCells337 337)=an at F C;go_loopw [1,13] (λal q wr=>∃(b:Nat) (a:_),b<=15/\q=zI (65-b)/\al=E0 .u64 a/\E1 (a=((u / 16 ^ b:Nat)))/\Rw w.heap.size wr u b/\B3 w.heap.size w wr) (λ_ q _=>(D2 q).toNat)
 .grind
 .
  obtain⟨b,a,_,rfl,rfl,c,o,v⟩:=hrel;have⟨_,i,_,_⟩:=o.ex;have ar:w.heap.size<wr.heap.size:=U;have p:0<=a:=by rw[c.out];grind
  have G:a<18446744073709551616:=by
   rw[c.out];have:=Nat.div_le_self u<|16 ^ b;omega
  have r:0<=a%16:=O;have s:a%16<16:=O;have g:E1 (ny (a%16)=EF u b):=by show _=_;unfold EF;rw[c.out];rfl
  by_cases z:b<15
  .have af:16<=a:=by
    rw[c.out];have d:16 ^ (b+1)<=16 ^ 15:=Nat.pow_le_pow_right O O;have f:16 ^ 15=1152921504606846976:=Z;have k:16<=u / 16 ^ b:=by
     rw[Nat.le_div_iff_mul_le U];omega
    omega
   have B:E1 (a / 16=((u / 16 ^ (b+1):Nat):Int)):=by
    show _=_;rw[c.out,Nat.pow_succ,<-Nat.div_div_eq_div_mul];rfl
   have H:bits .and .u64 a 15=a%16:=asA a p G;have y:=λw=>ag4 _ r s w;generalize a%16=D at r s H y g;obtain⟨d,E⟩:∃d:Nat,64-b=d:=⟨_,R⟩;have K:∃f,wr.cell? (aj w.heap.size d)=A2 f:=by
    rw[oe i];grind
   obtain⟨f,L⟩:=K;have ad:wr.frozen? (aj w.heap.size d)=Br:=frR i;have k:=o.step O _ g;rw[E]at k;obtain⟨l,x⟩:∃l:Int,65-b=l:=⟨_,R⟩;have av:l-1=(d:Int):=O;have ax:l<=65:=O;have a0:d<=64:=O;have am:=ah x;rw[x];go_wp2;go_roundw
   .exact⟨_,_,O,U,R,B,k,v.setCell I _⟩
   simp[D2];omega
  .obtain rfl:b=15:=O;have d:a<16:=by
    rw[c.out];omega
   have y:=λw=>ag4 a p d w;rw[Int.emod_eq_of_lt p d]at g;obtain⟨f,L⟩:∃f,wr.cell? (aj w.heap.size 49)=A2 f:=by
    rw[oe i];grind
   have ad:wr.frozen? (aj w.heap.size 49)=Br:=frR i;have k:Rw w.heap.size (wr.setCell (aj w.heap.size 49)<|zU<|ny a) u 16:=o.step O _ g;have l:=k.conv;rw[A.out]at l;have af:¬16<=a:=O;go_wp2;go_ret2;exact⟨R,v.setCell I _⟩
def al0(u:Nat)(b:9223372036854775808<=u)(c:u<18446744073709551616)(w)(h:w.cell? (aj 11 15)=A2 (zU 4)):B2 Y 328 #[E0 .u64 (u:Int),zI 16] w λe w'=>e=A1 (A9<|dK<|(B1 16).map λj=>EF u<|15-j)/\B3 w.heap.size w w':=by
 have a:=aqm u b c w h;generalize dK ((B1 16).map λj=>EF u<|15-j)=f at a;generalize (u:Int)=g at a;go_in;go_wp2_with (go_at_call 314;apply a.mono;rintro e w' ⟨rfl,d⟩);go_ret;exact⟨R,d⟩
def aqn(u:Nat)(b:9223372036854775808<=u)(c:u<18446744073709551616)(w)(h:w.cell? (aj 11 15)=A2 (zU 4)):B2 Y 271 #[E0 .u64 (u:Int),zI 16] w λe w'=>e=A1 (A9<|dK<|(B1 16).map λj=>EF u<|15-j)/\B3 w.heap.size w w':=by
 have a:=al0 u b c w h;generalize dK ((B1 16).map λj=>EF u<|15-j)=f at a;generalize (u:Int)=g at a;go_in;go_wp2_with (go_at_call 328;apply a.mono;rintro e w' ⟨rfl,d⟩);go_ret;exact⟨R,d⟩
theorem yl(a b):dK (a++b)=dK a++dK b:=by
 have h:∀(c:zLI)(f:Bz),c.foldl (λd e=>d.push<|UInt8.ofNat e.toNat) f=f++c.foldl (λd e=>d.push<|UInt8.ofNat e.toNat) Ax:=by
  intro c
  induction c with
  |nil=>simp_all|cons a d g=>
   intro f;rw[qr,qr,g,g<|ByteArray.empty.push _];apply nK;simp[vJ]
 unfold dK;grind
theorem aqo(u):wC u 16=⟨#[48,120]⟩++dK ((B1 16).map λj=>EF u<|15-j):=by
 have c:∀a,wC u a=⟨#[48,120]⟩++dK ((B1 a).map λj=>EF u<|15-j):=by
  intro a
  induction a with
  |zero=>rfl|succ a b=>rw[wC,b,List.range_succ,ej,yl,aB];rfl
 grind
def acG(n)(k: -9223372036854775808<=n)(l:n<0)(w)(h:w.cell? (aj 11 15)=A2 (zU 4)):B2 Y 181 #[zI n] w λe w'=>e=A1 (A9<|wC (n+18446744073709551616).toNat 16)/\B3 w.heap.size w w':=by
 obtain⟨a,_⟩:∃a:Nat,a=n+18446744073709551616:=⟨(n+18446744073709551616).toNat,O⟩;rw[(O:(n+18446744073709551616).toNat=a),aqo];have c:=aqn a O O w h;have g:IntKind.u64.wrap n=(a:Int):=by rw[IntKind.wrap_u64];omega
 have f:(dK<|(B1 16).map λb=>EF a<|15-b).size=16:=rfl;generalize dK ((B1 16).map λb=>EF a<|15-b)=i at c f;generalize (a:Int)=j at c g;go_in;go_wp2_with (go_at_call 271;apply c.mono;rintro e w' ⟨rfl,d⟩);go_ret;exact⟨R,d⟩
def uH(d:List UInt8):zLI:=d.map λa=>(a.toNat:Int)
theorem uI(d):dK (uH d)=⟨d.toArray⟩:=by
 have e:∀(d:List UInt8)(a:Bz),(uH d).foldl (λb f=>b.push<|UInt8.ofNat f.toNat) a=⟨a.data++d.toArray⟩:=by
  intro d
  induction d with
  |nil=>intro a;rfl|cons c b g=>
   intro a;show(uH b).foldl _ (a.push<|UInt8.ofNat ((c.toNat:Int)).toNat)=_
   simp_all
 have:=e d Ax
 simp_all [dK]
def pre(c:Nat):zLI:=ite (c=0) ([])<|uH<|A3 c
theorem acH(c)(h:c≠0):pre c=pre (c / 10)++[48+((c%10:Nat):Int)]:=by
 have d:∀a,a<10->(((UInt8.ofNat<|48+a).toNat:Nat):Int)=48+(a:Int):=λa _=>by
  grind [UInt8.toNat_ofNat',Nat.mod_eq_of_lt]
 unfold pre;rw[aa h];by_cases b:c<10
 .rw[ae O,A3,pc b,Nat.mod_eq_of_lt b];show [(((UInt8.ofNat<|48+c).toNat:Nat):Int)]=_;grind
 .rw[aa O,A3,dif_neg b];grind [List.map,uH,A3,UInt8.ofNat,Nat,Int]
theorem Ar(N:Nat)(a4:N≠0)(a5:N<=9223372036854775807)(w):B2 Y 30 #[zI (N:Int)] w λe w'=>e=A1 (A9 ⟨(A3 N).toArray⟩)/\B3 w.heap.size w w':=by
 obtain⟨g,x⟩:∃g:Int,N=g:=⟨_,R⟩;rw[x];have a9:0<g:=O;have ar:g<=9223372036854775807:=O;have bb:(g==0)=Br:=U;have ba:¬g<0:=O;have a3:=ah x;go_in;go_wp2;go_loopw [0,4,5] (λr a0 _ wr=>∃c a,r=zI c/\0<=c/\c<=9223372036854775807/\E1 (c.toNat<10 ^ (19-A0 a)/\A0 a<=19/\uH (A3 N)=pre c.toNat++a.reverse)/\wr.ownsRow w.heap.size 5 1 a0 (A0 a) (B8 a)/\B3 w.heap.size w wr) (λr _ _ _=>(D2 r).toNat)
 .
  refine⟨g,[],R,O,ar,⟨?_,I,?_⟩,onN,blR⟩;all_goals (grind [pre])
 .
  obtain⟨c,a,rfl,_,_,l,y,j⟩:=hrel;by_cases H:c=0
  .subst H;have⟨_,v,L⟩:=l.out;have ad:uH (A3 N)=a.reverse:=L;have o:0<A0 a:=by
    have e:=congrArg A0 ad;grind [List.length_reverse,uH,A3]
   have B:E1 (dK a.reverse=⟨(A3 N).toArray⟩):=by grind [uI]
   obtain⟨_,_⟩|⟨n,F,_,A,_,ak,_,_,z,_⟩:=y.2
   .have:a=[]:=by
     omega
    rw[this]at o;simp at o
   .have u:∀i,i<A0 a->wr.cell? (aj n i)=A2 (zU<|a.getD i 0):=λi am=>by
     rw[oe ak];have s:(B8 a)[i]?=A2 (zU<|a.getD i 0):=by simp[B8,am]
     grind
    have af:n<wr.heap.size:=U;have⟨d,t⟩:=aw<|A0 a;rw[t]at o v u A;subst A;have an:∀b,b<d->a.reverse.take (b+1)=a.reverse.take b++[a.getD (d-1-b) 0]:=λb p=>by
     grind [List.take_add_one]
    have z:∀b,b<=d->(dK<|a.reverse.take b).size=b:=λb p=>by
     have:∀h:zLI,(dK h).size=A0 h:=by
      intro h
      induction h with
      |nil=>rfl|cons f k m=>rw[show f::k=[f]++k from rfl,yl,az,m,aG];rfl
     grind
    have C:=ah an;have a2:=ah t;go_wp2;go_loopw [6,7] (λax q a1=>∃b:Nat,b<=d/\q=zI (d-1-b)/\ax=A9 (dK<|a.reverse.take b)/\B3 wr.heap.size wr a1) (λ_ q _=>(D2 q+1).toNat)
    .exact⟨0,O,U,R,blR⟩
    .
     obtain⟨b,p,rfl,rfl,k⟩:=hrel;have ao:=z b p;by_cases ap:b<d
     .obtain⟨f,G⟩:∃f:Nat,d-1-b=f:=⟨_,R⟩;have K:=(ma k af).trans<|u f O;have E:=C.out b ap;rw[G]at E;have m:E1 (dK (a.reverse.take b)++dK [a.getD f 0]=dK (a.reverse.take<|b+1)):=by grind [yl]
      generalize a.getD f 0=h at K m;have a7:=λw=>lK<|uy w h;have a8:(dK [h]).size=1:=rfl;have al:(d:Int)-1-(b:Int)=(f:Int):=O;have a6:f<d:=O;generalize dK (a.reverse.take b)=av at ao m⊢;rw[al];go_wp2;go_roundw
      .exact⟨b+1,O,U,by rw[m.out],k.alloc k.size _⟩
      simp[D2]
     .obtain rfl:b=d:=O;have h:¬(0:Int)<=(b:Int)-1-(b:Int):=O;rw[ci U];have f:=B.out;generalize dK a.reverse=av at f⊢;subst f;exact gwX<|j.trans<|k.mono j.size
  .have m:(c==0)=Br:=U;have k:(c !=0)=B0:=U;have o:¬c%10<0:=O;have v:A0 a<=18:=by
    have⟨s,d,_⟩:=l.out;grind
   have b:E1 ((c / 10).toNat<10 ^ (19-A0 (a++[48+c%10]))/\A0 (a++[48+c%10])<=19/\uH (A3 N)=pre (c / 10).toNat++(a++[48+c%10]).reverse):=by
    have⟨s,d,f⟩:=l.out;have h:A0 (a++[48+c%10])=A0 a+1:=I;refine⟨?_,O,?_⟩
    .rw[h];have i:10 ^ (19-A0 a)=10 ^ (19-(A0 a+1))*10:=by rw[<-Nat.pow_succ];grind
     omega
    .rw[f,acH _ O,(O:(c / 10).toNat=c.toNat / 10),(O:((c.toNat%10:Nat):Int)=c%10)];simp
   go_wp2_with (at_builtin;apply js R _ _ R _ _ _ a R y j.size O [48+c%10] 1 R Z Z _ R R;intro n F w1 _ _);go_roundw
   .exact⟨_,_,U,O,O,b,U,j.trans O⟩
   grind [D2]
structure Kh (w:A5):Prop where
 tabs:uz w
 errs:qy w
 pow:Fs Y w "internal/strconv.uint64pow10" .u64 Lib.pow10Tab
 brj:w.cell? (aj 11 15)=A2 (zU 4)
theorem uJ{P B n}{cs:zAV}(h:w.var? P n=A2 cs)(b:B3 B w w')(c:w.heap.size<=B):w'.var? P n=A2 cs:=by
 unfold World.var? at h⊢;cases hg:P.globalNamed n with
 |none=>grind|some a=>
  simp[hg]at h⊢;have d:a<w.heap.size:=by
   grind
  rw[b.block a O];exact h
def Kh.below{B}(h:Kh w)(b:B3 B w w')(a:w.heap.size<=B):Kh w':=
 ⟨h.tabs.below b a,h.errs.below b a,uJ h.pow b a,(ma b<|jm (Ca w _ h.brj) a).trans h.brj⟩
theorem al4(w q a):B3 w.heap.size w (Sort.grow (w.drewN q) a):=
 ⟨R,R,R,byS,λb _=>by show(w.heap++a)[b]?=_;grind⟩
def Aa(n:Int):Bz:=ite (n<0) (wC (n+18446744073709551616).toNat 16) ⟨(A3 n.toNat).toArray⟩
def ajk(N:Nat)(b:N<=9223372036854775807)(w):B2 Y 30 #[zI (N:Int)] w λe w'=>e=A1 (A9 ⟨(A3 N).toArray⟩)/\B3 w.heap.size w w':=by
 by_cases a:N=0
 .subst a;have e:(⟨(A3 0).toArray⟩:Bz)=⟨#[48]⟩:=by rw[A3,pc O];rfl
  rw[e];show B2 Y 30 #[zI 0] w _;exact giX blR
 .exact Ar N a b w
theorem Ki(n)(c: -9223372036854775808<=n)(f:n<=9223372036854775807)(w):B2 Y 118 #[zI n] w λe w'=>e=A1 (A9<|Aa n)/\B3 w.heap.size w w':=by
 unfold Aa;by_cases a:n<0
 .rw[ae a];exact ajj n c a w
 .rw[aa a];have b:∀w,B2 Y 30 #[zI n] w λe w'=>e=A1 (A9 ⟨(A3 n.toNat).toArray⟩)/\B3 w.heap.size w w':=λw=>by
   have:=ajk n.toNat O w;rw[(O:((n.toNat:Nat):Int)=n)]at this;exact this
  generalize (⟨(A3 n.toNat).toArray⟩:Bz)=d at b;have g:0<=n:=O;go_in;go_wp2_with (go_at_call 30;apply(b _).mono;rintro e w' ⟨rfl,_⟩);go_ret
  simp_all
def acI(n)(b: -9223372036854775808<=n)(f:n<=9223372036854775807)(w)(c:Kh w):B2 Y 181 #[zI n] w λe w'=>e=A1 (A9<|Aa n)/\B3 w.heap.size w w':=by
 unfold Aa;by_cases a:n<0
 .rw[ae a];exact acG n b a w c.brj
 .rw[aa a];have d:B2 Y 158 #[zI n,zI 10] w λe w'=>e=A1 (A9 ⟨(A3 n.toNat).toArray⟩)/\B3 w.heap.size w w':=by
   apply(Tryz.strconv_FormatInt_10 n b f w c.pow).mono;rintro e w' ⟨rfl,_,_,rfl⟩;refine⟨by unfold Lib.itoa;rw[aa a],al4 _ _ _⟩
  generalize (⟨(A3 n.toNat).toArray⟩:Bz)=h at d;have i:¬n<0:=a;go_in;go_wp2_with (go_at_call 158;apply d.mono;rintro e w' ⟨rfl,g⟩);go_ret;exact⟨R,g⟩
def aue:∀k:Fin 30,5<=Ck (bB lE k.val)/\Ck (bB lE k.val)<=78:=by decide+kernel
theorem acJ(kind)(h:kind<5\/78<kind):∀f k,k+f<=30->aem kind f k=LA
 |0,k,_=>rfl|f+1,k,a=>by
  have:=aue ⟨k,O⟩;unfold aem;rw[aa U];exact acJ _ h f _ O
def acK:∀k:Fin 79,k.val≠7->rK (k.val:Int)=di (k.val:Int):=by decide+kernel
theorem ag5(kind)(b:kind≠7):rK kind=di kind:=by
 by_cases a:0<=kind/\kind<=78
 .have:=acK ⟨kind.toNat,O⟩ U;grind
 .unfold rK di;rw[aa O,aa O,aa O,aa O,aa O,aa O,aa O];exact acJ _ O _ 0 O
theorem Kj(s:Bz)(b:s.size<=1100000)(w):B2 Y 295 #[A9 s] w λe w'=>e=A1 (A9 s)/\B3 w.heap.size w w':=by
 have a:=λw=>Tryz.stringslite_Clone s w O;go_in;go_wp2_with (go_at_call 335;apply(a _).mono;rintro e w' ⟨rfl,_⟩);go_ret
 simp_all
def Hj(s:Bz)(p:Nat):Int×Bz:=match Cj iA (s.extract p<|pJ s (s.size+1) p) 22 0 with|some k=>(10+(k:Int),zE0)|none=>(1,s.extract p<|pJ s (s.size+1) p)
theorem axp(s p):wdT s p=E3 #[zI (Hj s p).1,zI p,zI<|pJ s (s.size+1) p,zI 0,zI 0,A9 (Hj s p).2]:=by
 unfold wdT Hj;grind
theorem ag6{b t mb n D}(h:w.ownsMap Y 9 (plainElem (H:=Unit) Y 3) mb n D)(d:vG b t w w')(a:mb≠b)(c:mb≠t):w'.ownsMap Y 9 (plainElem (H:=Unit) Y 3) mb n D:=by
 obtain⟨_,_,e,f⟩:=h;exact⟨_,_,(d.block _ U a c).trans e,f⟩
theorem aai(s:Bz)(bo:s.size<=70000)(b t mb w p l u)(br:p<s.size)(i:b≠t)(bb:mb≠b)(bc:mb≠t)(hS:ja b w s (.map<|A2 mb) fr p l Br)(o:eK t w 0 p 0 u 0 Ax)(a7:w.ownsMap Y 9 (plainElem (H:=Unit) Y 3) mb 22 (Dt 22)):
  B2 Y 235 #[be b 0,be t 0] w λe w'=>e= .returned (.tuple #[])/\vG b t w w'/\ja b w' s (.map<|A2 mb) fr (pJ s (s.size+1) p:Int) l Br/\eK t w' (Hj s p).1 p 0 u 0 (Hj s p).2:=by
 have bn:b<w.heap.size:=ai hS;have bs:t<w.heap.size:=ai o;have a6:=xH s (s.size+1) p O;have ap:=λw=>Ew s O p O w;have⟨z,A,B,E,F,G,K,L⟩:=ie hS;have⟨ar,av,ax,a0,a1,a2,a3⟩:=aJ o;unfold Hj;generalize pJ s (s.size+1) p=a at ap a6;have⟨a5,ad⟩:=aw<|Cj iA (s.extract p a) 22 0;rw[ad];have x:=ah ad;go_in;go_upto_region 0 with fail
 go_cut [16] from 7 (λbl v=>bl=zI (a:Int)/\vG b t w v/\ja b v s (.map<|A2 mb) fr a l Br/\eK t v 0 p 0 u 0 Ax)
 .
  go_region_with (first|(go_at_call 294;apply(ap _).mono;rintro e w' ⟨rfl,c⟩;obtain rfl:=c.symm))
  all_goals
   go_wp2_with fail;go_meet
   exact⟨R,((vG.refl b t w).setB 3 _).drew,hS.setP _,o.other (dG i) _⟩
 .
  obtain⟨rfl,am,af,ak⟩:=hcut;have a8:=ag6 a7 am bb bc;have⟨z,A,B,E,F,G,K,L⟩:=ie af;have⟨ar,av,ax,a0,a1,a2,a3⟩:=aJ ak;go_upto_region 1 with fail
  go_quiet (fail)
  have c:=af.drewN nq;have d:=ak.drewN nq;have j:=am.drewN nq;have n:(wc.drewN nq).ownsMap Y 9 (plainElem (H:=Unit) Y 3) mb 22 (Dt 22):=a8;generalize wc.drewN nq=y at c d j n⊢;have⟨z,A,B,E,F,G,K,L⟩:=ie c;have⟨ar,av,ax,a0,a1,a2,a3⟩:=aJ d;have bh:b<y.heap.size:=ai c;have bj:t<y.heap.size:=ai d;have an:(s.extract p a).size<=70000:=by rw[lh];omega
  have m:keyOf Y 9 (.string<|s.extract p a)=A2 (.string (s.extract p a).data.toList):=keyOf_string_mk underlying9 byM;have k:=ab4 (H:=Unit)<|s.extract p a;have r:=λw=>Kj (s.extract p a) O w;unfold xq at k;rw[x.out]at k;cases a5 with
  |some ao=>
   have g:=apv (H:=Unit) _ ao x;have f:Maps.has (Dt (H:=Unit) 22) (.string (s.extract p a).data.toList)=B0:=k;generalize s.extract p a=bk at m g f r an⊢;go_wp2_with (at_lookup;refine wpList_lookup_own_ok_int _ R _ _ _ R 9 3 _ apq underlying116 underlying3 byR _ _ _ R n _ _ R m ?_;intro C al bf;rw[f];rw[g]at al;obtain rfl:10+ao=C:=by grind);apply aA (fE R _ _ _) R;exact⟨R,j.setT 0 _,c.other i _,d.setKind _⟩
  |none=>
   have f:Maps.has (Dt (H:=Unit) 22) (.string (s.extract p a).data.toList)=Br:=k;have⟨bk,q⟩:=aw<|s.extract p a;rw[q]at m f r an⊢;have a4:=ah q;clear q;go_wp2_with (first|(at_lookup;refine wpList_lookup_own_ok_int _ R _ _ _ R 9 3 _ apq underlying116 underlying3 byR _ _ _ R n _ _ R m ?_;intro C al bf;rw[f])|(go_at_call 295;apply(r _).mono;rintro e _ ⟨rfl,h⟩;have a9:=c.below h bh;have g:=d.below h bj;have ba:=j.below<|h.mono j.size;have tf3:=(aJ g).2.2.2.2.2.2;have bt:=(aJ g).1;have bw:=(aJ g).2.2.2.2.2.1;clear h));go_end0
   exact⟨R,(ba.setT 0 _).setT 5 _,(a9.other i _).other i _,by rw[a4.out];exact(g.setKind _).setText _⟩
theorem gq(s a b i)(d:b<=s.size)(e:a+i<b:=by omega):aq (s.extract a b) i=aq s (a+i):=by
 rw[AG,AG];have c:(s.extract a b).data.toList=(s.data.toList.drop a).take (b-a):=byS;grind
theorem lA(s:Bz)(a b)(c:b<=s.size):(s.extract a b).size=b-a:=byS
theorem ag7(s a b p)(c:b<=s.size):∀n,a+p+n<=b->wj (s.extract a b) p n=wj s (a+p) n
 |0,_=>rfl|n+1,h=>by
  rw[wj,wj,ag7 s a b p c n O,gq s a b _ c,gF]
def ag8(s a b p)(c:b<=s.size):∀n,a+p+n<=b->ux (s.extract a b) p n=ux s (a+p) n
 |0,_=>rfl|n+1,h=>by
  rw[ux,ux,ag8 s a b p c n O,gq s a b _ c,gF]
def xm(s:Bz)(p:Nat):Int×Int×Bz:=
 if aq s p=48/\aq s (p+1)=120 then(2,wrap64 (wj s (p+2) ((eB s p).1-(p+2)):Int),zE0)
 else match (ite (Ju s p=B0) B7<|ux s p<|(eB s p).1-p) with
  |some a=>(2,(a:Int),zE0)|none=>(3,0,s.extract p (eB s p).1)
theorem auf(s p)(a:(eB s p).2=B0):Fj s p=E3 #[zI (xm s p).1,zI p,zI ((eB s p).1:Int),zI 0,zI (xm s p).2.1,A9 (xm s p).2.2]/\DJ s p= -1:=by
 unfold Fj DJ xm;by_cases c:aq s p=48/\aq s (p+1)=120
 .simp_all [eB,pF,hxA,hxF]
 .have b:eB s p=qF s (nA1 s<|nA0 s p):=by grind [eB]
  rw[b]at a⊢;simp[aa c];unfold nmA nmF;rw[ae a,ae a];cases Ju s p with
  |true=>grind|false=>
   simp only[aa (I:¬Br=B0)];cases ux s p ((qF s<|nA1 s<|nA0 s p).1-p)<;>exact⟨R,by trivial⟩
theorem acL(s p)(a:(eB s p).2=Br):DJ s p=((eB s p).1:Int):=by
 unfold DJ;by_cases b:aq s p=48/\aq s (p+1)=120
 .simp_all [eB,pF,hxF]
 simp_all [eB,qF,nA1,nA0,aa,nmF]
theorem ajl(s p)(e:p<s.size)(i:co (aq s p)=B0)(o:¬(aq s p=48/\aq s (p+1)=120)):Dz (s.extract p (eB s p).1)=Option.map (λu:Nat=>(u:Int)) (ite (Ju s p=B0) B7<|ux s p<|(eB s p).1-p):=by
 have b:=wo s p e;have l:=lA s p _ b.2;have d:∀a,p+a<(eB s p).1->aq (s.extract p (eB s p).1) a=aq s (p+a):=λa j=>gq s p _ a b.2 j;have c:co (aq (s.extract p (eB s p).1) 0)=B0:=U;have n:eB s p=qF s (nA1 s<|nA0 s p):=by grind [eB]
 have f:=Ha s p e;have g:=Hb s _ f.2;have m:=aez s _ g.2;cases hk:Ju s p with
 |false=>
  have⟨_,_⟩:=aab s p i hk;have k:(eB s p).1=nA0 s p:=U;rw[acj _ O U];rw[l,ag8 s p _ 0 b.2 _ O,jy];simp|true=>
  simp[Option.map_none];unfold Ju at hk;obtain h|h:=aL hk
  .have k:nA0 s p<(eB s p).1:=by
    have:nA0 s p<nA1 s (nA0 s p):=by
     unfold nA1;rw[ae h];have:=wi s (nA0 s p+1) (by have:=ui h.2;omega);omega
    grind
   exact Cv _ c (nA0 s p-p) O (by rw[d _ O,(O:p+(nA0 s p-p)=nA0 s p),h.1];decide)
  .have k:nA1 s (nA0 s p)<(eB s p).1:=by
    grind [alw,wi,qF]
   exact Cv _ c (nA1 s (nA0 s p)-p) O (by rw[d _ O,(O:p+(nA1 s (nA0 s p)-p)=nA1 s (nA0 s p)),h];decide)
theorem ac0(s)(n:s.size<=1100000)(p)(i:p<s.size)(l:co (aq s p)=B0)(o:(eB s p).2=B0)(w)(f:qy w):
  B2 Y 297 #[A9<|s.extract p (eB s p).1] w λe w'=>(((xm s p).1=2/\e=A1 (D1 #[zI (xm s p).2.1,E2 B0])/\(xm s p).2.2=zE0)\/((xm s p).1=3/\(∃x,e=A1 (D1 #[zI x,E2 Br]))/\(xm s p).2.1=0/\(xm s p).2.2=s.extract p (eB s p).1))/\B3 w.heap.size w w':=by
 have b:=wo s p i;have r:=lA s p _ b.2;have k:∀a,p+a<(eB s p).1->aq (s.extract p (eB s p).1) a=aq s (p+a):=λa h=>gq s p _ a b.2 h;by_cases q:aq s p=48/\aq s (p+1)=120
 .have e:eB s p=pF s (p+2):=by grind [eB]
  have d:pF s (p+2)=((eB s p).1,B0):=U;have⟨_,_,_,_⟩:=ack d;apply(J8 _ U U O O U w).mono;rintro c w' ⟨rfl,g⟩;grind [ag7,xm,wrap64,wj,eB,Int]
 .have j:¬(aq (s.extract p (eB s p).1) 0=48/\aq (s.extract p (eB s p).1) 1=120):=by
   rintro ⟨_,d⟩;have m:=bp d;grind
  apply(J9 _ O j w f).mono;rintro c w' ⟨⟨x,rfl,_⟩,g⟩;grind [ajl,xm,Ju,ux,eB,Int]
theorem Hk(s)(bt:s.size<=70000)(b t w m p l G)(F:p<s.size)(bb:co (aq s p)=B0)(d:b≠t)(hS:ja b w s m fr p l Br)(o:eK t w 0 p 0 G 0 Ax)(C:qy w)(bo:14<=b)(br:14<=t):
  B2 Y 237 #[be b 0,be t 0] w λe w'=>e=A1 (D1 #[])/\vG b t w w'/\
   (if(eB s p).2=B0 then ja b w' s m fr ((eB s p).1:Int) l Br/\eK t w' (xm s p).1 p 0 G (xm s p).2.1 (xm s p).2.2 else ja b w' s m fr ((eB s p).1:Int) l B0/\eK t w' 0 p 0 G 0 Ax):=by
 have bs:b<w.heap.size:=ai hS;have bw:t<w.heap.size:=ai o;have L:=wo s p F;have z:=λw=>An s O p F w;have y:=λbf w C=>ac0 s O p F bb bf w C;have⟨a2,a3,a4,a5,a6,a7,a8,a9⟩:=ie hS;have⟨an,A,B,ao,ap,ar,av⟩:=aJ o;generalize xm s p=a1 at y;obtain⟨_,_,_⟩:=a1;generalize eB s p=a0 at z L y;obtain⟨c,bn⟩:=a0;simp at z L y⊢;cases bn with
 |false=>
  simp[if_false];go_in;go_upto_region 0 with fail
  go_quiet ((go_at_call 296;exact B5<|z _))
  have g:=(hS.drewN nq).setP c;have h:=(o.drewN nq).other (a:=⟨b,3,B7⟩) (dG d)<|zI c;have v:=((vG.refl b t w).drewN nq).setB 3<|zI c;go_wp2;apply aA (fE R _ _ _) R;exact⟨R,v.setB 5 _,g.setK _,h.other (dG d) _⟩
 |true=>
  simp[oL];have bl:=y R;go_in;go_upto_region 0 with fail
  go_quiet ((go_at_call 296;exact B5<|z _))
  have g:=(hS.drewN nq).setP c;have h:=(o.drewN nq).other (a:=⟨b,3,B7⟩) (dG d)<|zI c;have v:=((vG.refl b t w).drewN nq).setB 3<|zI c;have E:qy ((w.drewN nq).setCell ⟨b,3,B7⟩<|zI (c:Int)):=by
   obtain⟨⟨A,j,f⟩,⟨B,p2,i⟩⟩:=C;refine⟨⟨A,j,?_⟩,⟨B,p2,?_⟩⟩
   .unfold World.cell? at f⊢;rw[jg U];exact f
   .unfold World.cell? at i⊢;rw[jg U];exact i
  go_upto_region 4 with fail
  generalize (w.drewN nq).setCell ⟨b,3,B7⟩ (zI (c:Int))=H at g h v E⊢;have⟨a2,a3,a4,a5,a6,a7,a8,a9⟩:=ie g;have⟨an,A,B,ao,ap,ar,av⟩:=aJ h;go_quiet (fail)
  have k:=g.drewN nq;have q:=h.drewN nq;have j:=v.drewN nq;have ad:qy (H.drewN nq):=⟨E.syn,E.rng⟩;generalize H.drewN nq=K at k q j ad⊢;have af:b<K.heap.size:=ai k;have ak:t<K.heap.size:=ai q;have bk:(s.extract p c).size<=70000:=by rw[lh];omega
  have al:=λw=>Kj (s.extract p c) O w;have am:=bl _ ad;generalize s.extract p c=bx at al am bk⊢;go_wp2_with fail;apply am.mono;rintro e ax ⟨(⟨rfl,rfl,rfl⟩|⟨rfl,⟨_,rfl⟩,rfl,rfl⟩),f⟩
  .have n:=k.below f af;have i:=q.below f ak;have x:=j.below<|f.mono j.size;have⟨an,A,B,ao,ap,ar,av⟩:=aJ i;go_wp2;apply aA (fE R _ _ _) R;exact⟨R,(x.setT 0 _).setT 4 _,(n.other d _).other d _,(i.setKind _).setNum _⟩
  .have n:=k.below f af;have i:=q.below f ak;have x:=j.below<|f.mono j.size;have bh:b<ax.heap.size:=ai n;have bj:t<ax.heap.size:=ai i;go_wp2_with (go_at_call 295;apply(al _).mono;rintro e _ ⟨rfl,u⟩;have ba:=n.below u bh;have r:=i.below u bj;have bc:=x.below<|u.mono x.size;have tf4:=(aJ r).2.2.2.2.2.2;have bz:=(aJ r).1;have bA:=(aJ r).2.2.2.2.2.1;clear u);go_end0
   exact⟨R,(bc.setT 0 _).setT 5 _,(ba.other d _).other d _,(r.setKind _).setText _⟩
def azs(k:Nat)(a:k<11)(w):(B9 303 (E3 jH)<|zI (k:Int)).run Y w= .ok (A9<|bB jH k) w:=by
 iterate 11 (obtain _|k:=k;· kernel_rfl)
 omega
def azt(k:Nat)(a:k<18)(w):(B9 304 (E3 oh)<|zI (k:Int)).run Y w= .ok (A9<|bB oh k) w:=by
 iterate 18 (obtain _|k:=k;· kernel_rfl)
 omega
def osz:∀k:Fin 11,(bB jH k.val).size<=3:=Z
def bsz:∀k:Fin 18,(bB oh k.val).size<=3:=Z
def A4(b:zAV)(c:Int)(r:Bz):Nat->Nat->Int×Nat->Int×Nat|0,_,a=>a|f+1,i,a=>A4 b c r f (i+1)<|ite (a.2<(bB b i).size/\B4 r.data.toList (bB b i).data.toList=B0) (c+(i:Int),(bB b i).size) a
structure Jv (V:zAV) (base:Int) (r:Bz) (f i:Nat) (a R1:Int×Nat):Prop where
 out:A4 V base r f i a=R1
def qA(r:Bz):Int:=ite (aq r 0=59) 5<|ite (aq r 0=10) 7<|(A4 oh 61 r 18 0<|A4 jH 40 r 11 0 (0,0)).1
theorem aaj(r:Bz)(a7:r.size<=70000)(ax:0<r.size)(w)(a0:uz w):B2 Y 299 #[A9 r] w λe w'=>e=A1 (zI<|qA r)/\w'=w:=by
 unfold qA;have G:∀w,(B9 9 (A9 r)<|zI 0).run Y w= .ok (zU<|aq r 0) w:=λw=>dy ax w;by_cases x:aq r 0=59
 .rw[ae x];rw[x]at G;exact giS
 rw[aa x];by_cases v:aq r 0=10
 .rw[ae v];rw[v]at G;exact giS
 rw[aa v];have av:(aq r 0==59)=Br:=U;have ar:(aq r 0==10)=Br:=U;generalize aq r 0=a6 at G av ar;clear x v;obtain⟨-,⟨a2,ao,ak⟩,⟨a3,ap,af⟩⟩:=a0;have al:=λa p w=>azs a p w;have a1:=λa p w=>azt a p w;obtain⟨u,y⟩:∃u:Array _,jH=u:=⟨_,R⟩;obtain⟨t,B⟩:∃t:Array _,oh=t:=⟨_,R⟩;have an:E1 (∀a:Nat,a<11->∀w,(B9 303 (E3 u)<|zI (a:Int)).run Y w= .ok (A9<|bB jH a) w):=by rw[<-y];exact al
 have am:E1 (∀a:Nat,a<18->∀w,(B9 304 (E3 t)<|zI (a:Int)).run Y w= .ok (A9<|bB oh a) w):=byS;rw[y]at ak;rw[B]at af;have a4:u.size=11:=by rw[<-y];rfl
 have a5:t.size=18:=by rw[<-B];rfl
 clear al a1 y B;have⟨k,C⟩:=aw<|A4 jH 40 r 11 0 (0,0);rw[C];have⟨n,E⟩:=aw<|A4 oh 61 r 18 0 k;rw[E];have L:Jv jH 40 r 11 0 (0,0) k:=⟨C⟩;have ad:Jv oh 61 r 18 0 k n:=⟨E⟩;clear C E;go_in;go_wp2_with (refine zk R 303 _ R 5 R a2 _ ao _ ak underlying303 R (by rw[a4];rfl) ?_);go_loop [3,4,16] (λH K l=>∃(a c:Nat) (d:_),a<=11/\c<=3/\H=zI d/\K=zI c/\l=zI a/\Jv jH 40 r (11-a) a (d,c) k) (λ_ _ l=>11-(D2 l).toNat)
 .exact⟨0,0,0,O,O,R,R,R,L⟩
 .
  obtain⟨a,c,d,p,m,rfl,rfl,rfl,j⟩:=hrel;by_cases q:a<11
  .have F:=an.out a q;have s:(bB jH a).size<=3:=osz ⟨a,q⟩;have b:=j.out;rw[(O:11-a=(11-(a+1))+1),A4]at b;have h:=λw=>Tryz.strings_HasPrefix r (bB jH a) w;generalize bB jH a=f at F s b h;by_cases z:c<f.size
   .have A:(c:Int)<(f.size:Int):=O;by_cases i:B4 r.data.toList f.data.toList=B0
    .rw[ae ⟨z,i⟩]at b;have g:Jv jH 40 r (11-(a+1)) (a+1) (40+(a:Int),f.size) k:=⟨b⟩;rw[i]at h;clear b i;go_wp2_with (go_at_call 142;apply ez<|h _);go_round
     .exact⟨_,_,_,O,s,by go_num,R,by go_num,g⟩
     grind [D2]
    .have o:B4 r.data.toList f.data.toList=Br:=U;rw[aa U]at b;have g:Jv jH 40 r (11-(a+1)) (a+1) (d,c) k:=⟨b⟩;rw[o]at h;clear b i o;go_wp2_with (go_at_call 142;apply ez<|h _);go_round
     .exact⟨_,c,d,O,m,R,R,by go_num,g⟩
     grind [D2]
   .have A:¬(c:Int)<(f.size:Int):=O;rw[aa O]at b;have g:Jv jH 40 r (11-(a+1)) (a+1) (d,c) k:=⟨b⟩;clear b;go_wp2;go_round
    .exact⟨_,c,d,O,m,R,R,by go_num,g⟩
    grind [D2]
  .obtain rfl:a=11:=O;have b:=j.out;rw[iI,A4]at b;subst b;clear j L;go_wp2_with (refine zk R 304 _ R 6 R a3 _ ap _ af underlying304 R (by rw[a5];rfl) ?_);go_loop [3,4,35] (λH K l=>∃(a c:Nat) (d:_),a<=18/\c<=3/\H=zI d/\K=zI c/\l=zI a/\Jv oh 61 r (18-a) a (d,c) n) (λ_ _ l=>18-(D2 l).toNat)
   .exact⟨0,c,d,O,m,R,R,R,ad⟩
   .
    obtain⟨a,c,d,p,m,rfl,rfl,rfl,j⟩:=hrel;by_cases q:a<18
    .have F:=am.out a q;have s:(bB oh a).size<=3:=bsz ⟨a,q⟩;have b:=j.out;rw[(O:18-a=(18-(a+1))+1),A4]at b;have h:=λw=>Tryz.strings_HasPrefix r (bB oh a) w;generalize bB oh a=f at F s b h;by_cases z:c<f.size
     .have A:(c:Int)<(f.size:Int):=O;by_cases i:B4 r.data.toList f.data.toList=B0
      .rw[ae ⟨z,i⟩]at b;have g:Jv oh 61 r (18-(a+1)) (a+1) (61+(a:Int),f.size) n:=⟨b⟩;rw[i]at h;clear b i;go_wp2_with (go_at_call 142;apply ez<|h _);go_round
       .exact⟨_,_,_,O,s,by go_num,R,by go_num,g⟩
       grind [D2]
      .have o:B4 r.data.toList f.data.toList=Br:=U;rw[aa U]at b;have g:Jv oh 61 r (18-(a+1)) (a+1) (d,c) n:=⟨b⟩;rw[o]at h;clear b i o;go_wp2_with (go_at_call 142;apply ez<|h _);go_round
       .exact⟨_,c,d,O,m,R,R,by go_num,g⟩
       grind [D2]
     .have A:¬(c:Int)<(f.size:Int):=O;rw[aa O]at b;have g:Jv oh 61 r (18-(a+1)) (a+1) (d,c) n:=⟨b⟩;clear b;go_wp2;go_round
      .exact⟨_,c,d,O,m,R,R,by go_num,g⟩
      grind [D2]
    .obtain rfl:a=18:=O;have b:=j.out;rw[iI,A4]at b;subst b;clear j ad;exact gwS
def uz.setCell(h:uz w){a}(e:14<=a.block)(v):uz (w.setCell a v):=by
 obtain⟨⟨_,_,b⟩,⟨_,_,c⟩,⟨_,_,d⟩⟩:=h;exact⟨⟨_,_,(za w a _ v O).trans b⟩,⟨_,_,(za w a _ v O).trans c⟩,⟨_,_,(za w a _ v O).trans d⟩⟩
def uz.drewN(h:uz w)(n):uz (w.drewN n):=⟨h.word,h.mark,h.bin⟩
def aak:∀k:Fin 79,(di (k.val:Int)).size<=6:=by decide+kernel
theorem al5(k):(di k).size<=6:=by
 by_cases a:0<=k/\k<=78
 .have:=aak ⟨k.toNat,O⟩;grind
 .unfold di;rw[aa O,aa O,aa O,aa O,aa O];decide
theorem aeL(c b r)(g:0<=b)(N):∀(f i)(a),0<=a.1->a.1<=N->b+((i+f:Nat):Int)<=N+1->0<=(A4 c b r f i a).1/\(A4 c b r f i a).1<=N
 |0,i,a,d,e,_=>⟨d,e⟩|f+1,i,a,d,e,h=>by
  unfold A4;refine aeL c _ r g N f _ _ ?_ ?_ O;all_goals grind
def al6(r):0<=qA r/\qA r<=78:=by
 unfold qA;split
 .omega
 split
 .omega
 have a:=aeL jH 40 r O 50 11 0 (0,0) I I I;exact aeL _ _ r O _ _ 0 _ a.1 O I
def ae0(b t:Nat)(a:A5)(s:Bz)(m:C2)(fr:Int)(p:Nat)(l c k:Int):Prop:=
 ite (k=0) (ja b a s m fr p l B0/\eK t a 0 p 0 c 0 Ax) (ja b a s m fr ((p:Int)+((di k).size:Int)) (ite (k=7) (l+1) l) Br/\eK t a k p 0 c 0 Ax)
theorem aal(s:Bz)(ax:s.size<=70000)(b t w m p l L)(a0:p<s.size)(av:0<=l)(ar:l<=100000)(h:b≠t)(hS:ja b w s m fr p l Br)(i:eK t w 0 p 0 L 0 Ax)(d:uz w)(an:14<=b)(ao:14<=t):
  B2 Y 239 #[be b 0,be t 0] w λe w'=>e=A1 (D1 #[])/\vG b t w w'/\ae0 b t w' s m fr p l L (qA<|s.extract p s.size):=by
 have ap:b<w.heap.size:=ai hS;have a2:t<w.heap.size:=ai i;have a1:(s.extract p s.size).size=s.size-p:=lA s p _ O;have n:=λw d=>aaj (s.extract p s.size) O O w d;have ak:=al6<|s.extract p s.size;generalize qA (s.extract p s.size)=c at n ak;have⟨y,z,A,B,C,E,F,G⟩:=ie hS;have⟨_,_,_,_,_,_,_⟩:=aJ i;unfold ae0;by_cases H:c=0
 .subst H;simp[oL];go_in;go_upto_region 0 with fail
  go_quiet ((go_at_call 299;exact B5<|n _<|d.drewN _))
  go_wp2;apply aA (fE R _ _ _) R;exact⟨R,((vG.refl b t w).drewN _).setB 5 _,(hS.drewN _).setK _,(i.drewN _).other (dG h) _⟩
 have al:(c==0)=Br:=U;have v:=λw d=>ug c O O w d;have ad:=al5 c;generalize di c=o at v ad;simp[aa H];by_cases K:c=7
 .subst K;simp[oL];go_in;go_upto_region 0 with fail
  go_quiet ((go_at_call 299;exact B5<|n _<|d.drewN _))
  have g:=((hS.drewN nq).setL<|l+1).other (a:=⟨t,0,B7⟩) h<|zI 7;have j:=((i.drewN nq).other (a:=⟨b,4,B7⟩) (dG h)<|zI<|l+1).setKind 7;have k:=(((vG.refl b t w).drewN nq).setB 4<|zI<|l+1).setT 0<|zI 7;have f:=((d.drewN nq).setCell (a:=⟨b,4,B7⟩) O<|zI<|l+1).setCell (a:=⟨t,0,B7⟩) O<|zI 7;go_upto_region 6 with fail
  generalize ((w.drewN nq).setCell ⟨b,4,B7⟩<|zI<|l+1).setCell ⟨t,0,B7⟩ (zI 7)=q at g j k f⊢;have⟨y,z,A,B,C,E,F,G⟩:=ie g;have r:uz q.drew:=⟨f.word,f.mark,f.bin⟩;have x:=v _ r;have af:IntKind.i64.wrap ((p:Int)+(o.size:Int))=(p:Int)+(o.size:Int):=by rw[du];omega
  go_region_with (first|(go_at_call 184;apply x.mono;rintro e w' ⟨rfl,u⟩;obtain rfl:=u.symm))
  all_goals
   go_end0
   exact⟨R,(k.setB 3 _).drew,g.setP _,j.other (dG h) _⟩
 .have am:(c==7)=Br:=U;simp[aa K];go_in;go_upto_region 0 with fail
  go_quiet ((go_at_call 299;exact B5<|n _<|d.drewN _))
  have g:=(hS.drewN nq).other (a:=⟨t,0,B7⟩) h<|zI c;have j:=(i.drewN nq).setKind c;have k:=((vG.refl b t w).drewN nq).setT 0<|zI c;have f:=(d.drewN nq).setCell (a:=⟨t,0,B7⟩) O<|zI c;go_upto_region 6 with fail
  generalize (w.drewN nq).setCell ⟨t,0,B7⟩ (zI c)=q at g j k f⊢;have⟨y,z,A,B,C,E,F,G⟩:=ie g;have r:uz q.drew:=⟨f.word,f.mark,f.bin⟩;have x:=v _ r;have af:IntKind.i64.wrap ((p:Int)+(o.size:Int))=(p:Int)+(o.size:Int):=by rw[du];omega
  go_region_with (first|(go_at_call 184;apply x.mono;rintro e w' ⟨rfl,u⟩;obtain rfl:=u.symm))
  all_goals
   go_end0
   exact⟨R,(k.setB 3 _).drew,g.setP _,j.other (dG h) _⟩
structure Rd where
 ok:Bool
 a:Nat
 d:Int
 k:Int
 n:Int
 x:Bz
def rdI(s:Bz)(p:Nat):Rd:=
 if bi (aq s p)=B0 then⟨B0,pJ s (s.size+1) p,0,(Hj s p).1,0,(Hj s p).2⟩
 else if co (aq s p)=B0 then(ite ((eB s p).2=B0) ⟨B0,(eB s p).1,0,(xm s p).1,(xm s p).2.1,(xm s p).2.2⟩ ⟨Br,(eB s p).1,0,0,0,Ax⟩)
 else if aq s p=34 then(ite ((gy s (s.size+1) (p+1) []).1=B0) ⟨B0,(gy s (s.size+1) (p+1) []).2.1,0,4,0,dK (gy s (s.size+1) (p+1) []).2.2⟩ ⟨Br,(gy s (s.size+1) (p+1) []).2.1,0,0,0,Ax⟩)
 else ite (qA (s.extract p s.size)=0) ⟨Br,p,0,0,0,Ax⟩ ⟨B0,p+(di<|qA<|s.extract p s.size).size,ite (qA (s.extract p s.size)=7) 1 0,qA<|s.extract p s.size,0,Ax⟩
def axq(b t:Nat)(w c:A5)(s:Bz)(m:C2)(fr:Int)(p:Nat)(l:Int)(R1:Rd):Prop:=vG b t w c/\ja b c s m fr (R1.a:Int) (l+R1.d) (!R1.ok)/\eK t c R1.k p 0 l R1.n R1.x
theorem Kh.blocks(h:Kh w)(j:∀k,k<14->w'.heap[k]?=w.heap[k]?):Kh w':=by
 obtain⟨⟨⟨_,_,_⟩,⟨_,_,_⟩,⟨_,_,_⟩⟩,⟨⟨g,b,d⟩,⟨i,c,e⟩⟩,a,f⟩:=h;refine⟨⟨U,U,U⟩,⟨⟨g,b,?_⟩,⟨i,c,?_⟩⟩,?_,?_⟩
 .unfold World.cell? at d⊢;grind
 .unfold World.cell? at e⊢;grind
 .unfold Fs World.var? at a⊢;rw[show Y.globalNamed "internal/strconv.uint64pow10" =A2 7 by rfl]at a⊢;grind
 .unfold World.cell? at f⊢;grind
def qh{x e z:A5}{b:zON}(h:x.grownBy e b)(k:e.grownBy z b):x.grownBy z b:=
 ⟨k.os.trans h.os,k.tape.trans h.tape,k.output.trans h.output,bK h.size k.size,λd a c=>(k.block d (jm a h.size) c).trans<|h.block d a c⟩
theorem ajm(s:Bz)(E:s.size<=70000)(b mb w p l)(z:p<s.size)(b4:0<=l)(b3:l<=100000)(a0:mb≠b)(b0:14<=b)(hS:ja b w s (.map<|A2 mb) fr p l Br)(ap:w.ownsMap Y 9 (plainElem (H:=Unit) Y 3) mb 22 (Dt 22))(a6:Kh w):
  B2 Y 143 #[be b 0] w λe w'=>e=A1 (E3 #[zI (rdI s p).k,zI p,zI ((rdI s p).a:Int),zI l,zI (rdI s p).n,A9 (rdI s p).x])/\w.grownBy w' (A2 b)/\ja b w' s (.map<|A2 mb) (p:Int) ((rdI s p).a:Int) (l+(rdI s p).d) (!(rdI s p).ok):=by
 have av:b<w.heap.size:=ai hS;have bd:mb<w.heap.size:=ap.lt;have ca:=λw=>dy z w;have⟨G,K,L,ad,af,ak,al,am⟩:=ie hS;have⟨bw,bE⟩:=Ly hS;have⟨a2,ba⟩:=aw<|rdI s p;rw[ba];have bk:=ah ba;go_in;go_wp2_with fail;have A:=hS.setF p;have a8:=ag6 ap ((vG.refl b b w).setB 2<|zI p) a0 a0;have a7:Kh (w.setCell (aj b 2)<|zI (p:Int)):=a6.blocks (λk C=>jg U);have ax:w.grownBy (w.setCell (aj b 2)<|zI (p:Int)) (A2 b):=⟨R,R,R,byS,λk C y=>jg U⟩;have F:(w.setCell ⟨b,2,B7⟩<|E0 .i64 (p:Int)).heap.size=w.heap.size:=byS;have⟨bn,bo,br,bs,bt,bz,bA,bD⟩:=ie A;have⟨bx,bF⟩:=Ly A;rw[<-F];rw[<-F]at av bd;generalize w.setCell (aj b 2) (zI (p:Int))=m at A a8 a7 ax F av bd bn bo br bs bt bz bA bD bx bF⊢;have bj:=ah ax;clear hS ap a6 ax F G K L ad af ak al am bw bE;go_region
 generalize bc:(m.alloc _).alloc _=f;obtain⟨B,ar,ao, -⟩:=Eu bc;replace B:eK m.heap.size f 0 0 0 0 0 Ax:=B;replace ar:eK (m.heap.size+1) f 0 p 0 l 0 Ax:=ar;have bb:=A.below ao av;have t:=a7.below ao O;have b1:f.ownsMap Y 9 (plainElem (H:=Unit) Y 3) mb 22 (Dt 22):=by rw[<-bc];exact(a8.alloc _).alloc _
 have⟨G,K,L,ad,af,ak,al,am⟩:=ie bb;have y:b≠m.heap.size+1:=O;go_wp2_with fail;go_quiet (fail)
 go_upto_block 0 with fail
 have u:ja b (f.drew.drewN nq) s (.map<|A2 mb) p p l Br:=bb;have v:eK (m.heap.size+1) (f.drew.drewN nq) 0 p 0 l 0 Ax:=ar;have q:vG b (m.heap.size+1) f (f.drew.drewN nq):=((vG.refl _ _ _).drew).drewN _;have a9:(f.drew.drewN nq).ownsMap Y 9 (plainElem (H:=Unit) Y 3) mb 22 (Dt 22):=b1;have a4:uz (f.drew.drewN nq):=⟨t.tabs.word,t.tabs.mark,t.tabs.bin⟩;have a5:qy (f.drew.drewN nq):=⟨t.errs.syn,t.errs.rng⟩;generalize f.drew.drewN nq=b9 at u v q a9 a4 a5⊢;go_cut [] from 4 (λb8=>axq b (m.heap.size+1) f b8 s (.map<|A2 mb) p p l a2)
 .
  have b5:=aai s E b _ _ _ p l l z y a0 O u v a9;have b6:=λb2=>Hk s E b _ _ _ p l l z b2 y u v a5 O O;have bf:=GF s E b _ _ _ p l p l z y u v;have bh:=aal s E b _ _ _ p l l z b4 b3 y u v a4 b0 O;have g:=bk.out;unfold rdI at g;cases hlt:bi (aq s p) with
  |true=>
   rw[hlt,ae rfl]at g;have o:=ah g;have h:=λw=>pi (aq s p) w;rw[hlt]at h;generalize aq s p=a3 at h⊢;go_wp2_with (first|(go_at_call 234;apply(h _).mono;rintro e w' ⟨rfl,rfl⟩)|(go_at_call 235;apply b5.mono;rintro e a1 ⟨rfl,i,c,j⟩));go_meet
   rw[<-o.out];exact⟨q.trans i,U,j⟩
  |false=>
   rw[hlt,aa I]at g;have h:=λw=>pi (aq s p) w;rw[hlt]at h;cases hdg:co (aq s p) with
   |true=>
    rw[hdg,ae rfl]at g;have j:=λw=>kL (aq s p) w;rw[hdg]at j;have o:=ah g;have an:=b6 hdg;generalize aq s p=a3 at h j⊢;go_wp2_with (first|(go_at_call 234;apply(h _).mono;rintro e w' ⟨rfl,rfl⟩)|(go_at_call 236;apply(j _).mono;rintro e w' ⟨rfl,rfl⟩)|(go_at_call 237;apply an.mono;rintro e a1 ⟨rfl,i,c⟩;have r:E1 _:=c));go_meet
    .
     rw[<-o.out];have c:=r.out;cases hok:(eB s p).2 with
     |true=>rw[hok]at c;simp[oL]at c⊢;exact⟨q.trans i,U,c.2⟩|false=>rw[hok]at c;simp[if_false]at c⊢;exact⟨q.trans i,U,c.2⟩
   |false=>
    rw[hdg,aa I]at g;have j:=λw=>kL (aq s p) w;rw[hdg]at j;by_cases an:aq s p=34
    .rw[ae an]at g;have o:=ah g;rw[an]at h j⊢;generalize gy s (s.size+1) (p+1) []=bl at bf o;go_wp2_with (first|(go_at_call 234;apply(h _).mono;rintro e w' ⟨rfl,rfl⟩)|(go_at_call 236;apply(j _).mono;rintro e w' ⟨rfl,rfl⟩)|(go_at_call 238;apply bf.mono;rintro e a1 ⟨rfl,i,c⟩;have r:E1 _:=c));go_meet
     .
      rw[<-o.out];have c:=r.out;unfold pI at c;obtain⟨b7,_,_⟩:=bl;cases b7 with
      |true=>simp[oL]at c⊢;exact⟨q.trans i,U,c.2⟩|false=>simp[if_false]at c⊢;exact⟨q.trans i,U,c.2⟩
    .rw[aa an]at g;have bl:(aq s p==34)=Br:=U;generalize qA (s.extract p s.size)=k at bh g;have o:=ah g;generalize aq s p=a3 at h j bl⊢;go_wp2_with (first|(go_at_call 234;apply(h _).mono;rintro e w' ⟨rfl,rfl⟩)|(go_at_call 236;apply(j _).mono;rintro e w' ⟨rfl,rfl⟩)|(go_at_call 239;apply bh.mono;rintro e a1 ⟨rfl,i,c⟩;have r:E1 _:=c));go_meet
     .
      rw[<-o.out];have c:=r.out;unfold ae0 at c;by_cases C:k=0
      .rw[ae C]at c⊢;exact⟨q.trans i,U,c.2⟩
      .rw[aa C]at c⊢;refine⟨q.trans i,?_,c.2⟩;grind
 .
  obtain⟨i,c,g⟩:=hcut;have h:eK m.heap.size wc 0 0 0 0 0 Ax:=(i.block _ (ai B) O O).trans B;obtain⟨bf,a,d,k,n,x⟩:=a2;simp at c g⊢;have⟨G,K,L,ad,af,ak,al,am⟩:=ie c;have⟨_,_,_,_,_,_,_⟩:=aJ g;have⟨z0,j,o,r,an,a1,_⟩:=aJ h;have a3:m.heap.size<wc.heap.size:=ai h;go_wp2;refine aA (by simp[results,go_sem,z0,j,o,r,an,a1]) R ⟨R,?_,?_⟩
  .apply qh bj;exact AC (AC (AC (AC (AC (AC (AC (atq ao i O) _ I) _ I) _ I) _ I) _ I) _ I) _ I
  .exact((((((c.other O _).other U _).other U _).other U _).other U _).other U _).other U _
def Gh(b:Nat)(w:A5)(s:Bz)(m:C2)(p l:Int)(k:Bool):Prop:=∃fr,ja b w s m fr p l k
def Gh.cells{b p}(h:Gh b w s m p l k):w.cell? (aj b 0)=A2 (A9 s)/\w.cell? (aj b 1)=A2 m/\w.cell? (aj b 3)=A2 (zI p)/\w.cell? (aj b 4)=A2 (zI l)/\w.cell? (aj b 5)=A2 (E2 k)/\
  w.frozen? (aj b 3)=Br/\w.frozen? (aj b 4)=Br/\w.frozen? (aj b 5)=Br:=by obtain⟨_,h⟩:=h;exact ie h
def Gh.pos{b}{p:Nat}(h:Gh b w s m p l k):J4 b w=p:=by obtain⟨_,h⟩:=h;exact xF h
def Gh.setP{b p}(h:Gh b w s m p l k)(x):Gh b (w.setCell (aj b 3)<|zI x) s m x l k:=by obtain⟨_,h⟩:=h;exact⟨_,h.setP x⟩
theorem ag9(i:Nat)(h:i<11):di (40+(i:Int))=bB jH i:=by
 grind [di]
theorem aha(i:Nat)(h:i<18):di (61+(i:Int))=bB oh i:=by
 grind [di]
def Sgn(r:Bz)(k:Int)(n:Nat):Prop:=(k=0/\n=0)\/(n=(di k).size/\1<=n/\B4 r.data.toList (di k).data.toList=B0/\k≠0)
theorem CF(b c r)(N:Nat)(e:0<c)(d:∀i,i<N->di (c+(i:Int))=bB b i):∀(f i)(a),i+f<=N->Sgn r a.1 a.2->Sgn r (A4 b c r f i a).1 (A4 b c r f i a).2
 |0,i,a,_,h=>h|f+1,i,a,j,h=>by
  unfold A4;apply CF b _ r N e d f _ _ O;split
  .rename_i g;refine .inr ⟨?_,?_,?_,?_⟩;all_goals grind
  omega
theorem aqp(r x:Bz)(h:B4 r.data.toList x.data.toList=B0):x.size<=r.size:=by
 unfold B4 at h;rw[BF]at h;have:=h.length_le
 simp_all
theorem ahb(r)(g:0<r.size)(a:qA r≠0):1<=(di<|qA r).size/\(di<|qA r).size<=r.size:=by
 unfold qA at a⊢;split
 .exact⟨Z,by show 1<=r.size;omega⟩
 split
 .exact⟨Z,by show 1<=r.size;omega⟩
 rename_i c d;rw[aa c,aa d]at a;have e:=CF _ _ r _ O ag9 11 0 (0,0) O<|.inl O;have f:=CF _ _ r _ O aha 18 0 _ O e;obtain⟨b,_⟩|⟨b,h,i,_⟩:=f;all_goals (simp_all [aqp])
theorem aam(s p)(h:bi (aq s p)=B0):p<pJ s (s.size+1) p:=by
 have a:p<s.size:=by
  grind [Nat.lt_or_ge,absurd,GJ]
 rw[pJ,ae<|.inl h];grind [xH]
theorem mH(s p)(h:p<s.size)(e:(rdI s p).ok=B0):p<(rdI s p).a/\(rdI s p).a<=s.size/\0<=(rdI s p).d/\(rdI s p).d<=1:=by
 unfold rdI at e⊢;split
 .grind [aam,xH]
 split
 .rename_i b c;rw[aa b,ae c]at e;grind [wo]
 split
 .rename_i b c f;rw[aa b,aa c,ae f]at e;grind [xD]
 .rename_i b c f;rw[aa b,aa c,aa f]at e;split
  .grind
  .rename_i g;have i:=lA s p _ eE;grind [ahb]
def nnB(c:Int):Bool:=decide (c≠10/\c≠ -1)
theorem al7:nnB (-1)=Br:=Z
def nlE(s:Bz)(p:Nat):Nat:=jp nnB s (s.size+1) p
def blk(s:Bz):Nat->Nat->Nat|0,p=>p|f+1,p=>ite (s.size<=p) p<|ite (jD (aq s p)=B0) (blk s f<|p+1)<|ite (aq s p=45/\aq s (p+1)=45) (blk s f<|nlE s p) p
def aan(s p)(h:p<=s.size):p<=nlE s p/\nlE s p<=s.size:=ru nnB al7 s _ p h
theorem zD(s p)(h:aq s p=45):p<nlE s p:=by
 have a:=bp h;unfold nlE;rw[jp,ae (by rw[h];decide)];grind [ru,nnB,al7]
theorem CG(s):∀f g p,p<=s.size->s.size<p+f->s.size<p+g->blk s f p=blk s g p
 |0,g,p,h,a,b=>O|f+1,0,p,h,a,b=>O|f+1,g+1,p,h,a,b=>by
  unfold blk;split
  .rfl
  split
  .exact CG s f g _ O O O
  split
  .rename_i d;have e:=zD s p d.1;have c:=aan s p h;exact CG s f g _ c.2 O O
  .rfl
def na(s):∀f p,p<=s.size->p<=blk s f p/\blk s f p<=s.size
 |0,p,h=>⟨eE,h⟩|f+1,p,h=>by
  unfold blk;split
  .omega
  split
  .have:=na s f (p+1) O;omega
  split
  .have a:=aan s p h;have:=na s f _ a.2;omega
  omega
theorem D0(s p)(a:p<s.size)(h:jD (aq s p)=B0):blk s (s.size+1) p=blk s (s.size+1) (p+1):=by
 rw[blk,aa O,ae h];grind [CG]
def al8(c)(h:c=45):¬jD c=B0:=by subst h;decide
theorem Hl(s p)(h:aq s p=45)(b:aq s (p+1)=45):blk s (s.size+1) p=blk s (s.size+1) (nlE s p):=by
 have d:=bp h;have a:=zD s p h;have c:=aan s p O;rw[blk,aa O,aa<|al8 _ h,ae O];grind [CG]
theorem aao(s p)(a:¬jD (aq s p)=B0)(b:¬(aq s p=45/\aq s (p+1)=45)):blk s (s.size+1) p=p:=by
 simp_all [blk,aa]
def ahc(s p)(h:s.size<=p):blk s (s.size+1) p=p:=by rw[blk,ae h]
def dA(N:Nd)(j:Nat):Int:=N.ks.getD j 0
def iw(l:zLB):Bz:=l.foldl (· ++·) Ax
def mI(x:Bz):Bz:=⟨#[40]⟩++x++⟨#[41]⟩
def je(a:zLD)(E:Int->Bz)(k least:Int):Bz:=ite (iu (ab a k).k (ab a k).op<least) (mI<|E k)<|E k
def ym(N:Nd)(a:Int):Int:=ite (uj N.k N.op=a) (a+1) a
def D3(a:zLD)(E:Int->Bz)(N:Nd)(sign:Bz)(b:Int):Bz:=je a E (dA N 0) (ym N b)++sign++je a E (dA N 1) (uj N.k N.op)
def yo(N:Nd):Bool:=N.k==30&&N.op==19
def unS(a:zLD)(N:Nd):Bz:=ite (N.op=21) ⟨#[110,111,116,32]⟩<|ite (N.op=22) ⟨#[35]⟩<|ite (N.op=20) ⟨#[126]⟩<|ite (yo (ab a<|dA N 0)=B0) (⟨#[45]⟩++⟨#[32]⟩) ⟨#[45]⟩
def unB(a:zLD)(E:Int->Bz)(N:Nd):Bz:=unS a N++je a E (dA N 0) 11
def Hn(a:zLD)(E:Int->Bz)(k:Int):Bz:=ite (mc (ab a k).k=B0) (E k)<|mI<|E k
def Fk(N:Nd):Bz:=
 if N.k=20 then⟨#[110,105,108]⟩ else if N.k=21 then⟨#[116,114,117,101]⟩ else if N.k=22 then⟨#[102,97,108,115,101]⟩ else if N.k=23 then Aa N.n
 else ite (N.k=24\/N.k=26) N.x (ite (N.k=25) (dK<|eJ N.x)<|ite (N.k=27) ⟨#[46,46,46]⟩ Ax)
def uK(a:zLD)(E:Int->Bz)(X:Nd):Bz:=
 ite (X.k=41) (⟨#[91]⟩++E (dA X 0)++⟨#[93,32,61,32]⟩++E (dA X 1)) (ite (X.k=42) ((⟨#[46]⟩++X.x++⟨#[32,61,32]⟩)++E (dA X 0))<|E<|dA X 0)
def ae1(a:zLD)(E:Int->Bz)(N:Nd):Bz:=⟨#[123]⟩++cD (N.ks.map λk=>uK a E<|ab a k)++⟨#[125]⟩
def Ab(S:Int->Nat->Bz)(ks:zLI)(tab:Nat):Bz:=
 ite (ks=[]) ⟨#[123,125]⟩ (⟨#[123]⟩++iw (ks.map λk=>gA (tab+1)++S k (tab+1))++gA tab++⟨#[125]⟩)
def Fl(N:Nd):Bz:=⟨#[40]⟩++cD N.nm++(ite (N.op=1) (ite (N.nm=[]) ⟨#[46,46,46]⟩<|fj++⟨#[46,46,46]⟩) Ax)++⟨#[41,32]⟩
def CH(a:zLD)(S:Int->Nat->Bz)(N:Nd)(tab:Nat):Bz:=Fl N++Ab S (ab a<|dA N 0).ks tab
def prE(a:zLD)(E:Int->Bz)(S:Int->Nat->Bz)(N:Nd)(tab:Nat):Bz:=
 if N.k=28 then D3 a E N ⟨#[32,97,110,100,32]⟩ (iu N.k N.op)
 else if N.k=29 then D3 a E N ⟨#[32,111,114,32]⟩ (iu N.k N.op)
 else if N.k=31 then D3 a E N (⟨#[32]⟩++rK (60+N.op)++⟨#[32]⟩) (iu N.k N.op)
 else if N.k=30 then unB a E N
 else if N.k=32 then Hn a E (dA N 0)++⟨#[91]⟩++E (dA N 1)++⟨#[93]⟩
 else if N.k=33 then Hn a E (dA N 0)++(⟨#[46]⟩++N.x)
 else if N.k=34 then Hn a E (dA N 0)++⟨#[40]⟩++cD ((N.ks.drop 1).map E)++⟨#[41]⟩
 else if N.k=35 then ae1 a E N
 else if N.k=36 then⟨#[102,110]⟩++CH a S N tab
 else if N.k=37 then mI (E<|dA N 0)
 else Fk N
def yp(a:zLD)(E:Int->Bz)(S:Int->Nat->Bz)(b:Int->Bz->Bz)(N:Nd)(c:Bz)(tab:Nat):Bz:=
 c++E (dA N 0)++⟨#[32]⟩++Ab S (ab a<|dA N 1).ks tab++
  (ite (A0 N.ks<3) Ax<|ite ((ab a<|dA N 2).k=7) (b (dA N 2) ⟨#[32,101,108,105,102,32]⟩)<|⟨#[32,101,108,115,101,32]⟩++Ab S (ab a<|dA N 2).ks tab)
def nm0(N:Nd):Bz:=N.nm.getD 0 Ax
def prS(a:zLD)(E:Int->Bz)(S:Int->Nat->Bz)(b:Int->Bz->Bz)(N:Nd)(tab:Nat):Bz:=
 if N.k=1 then Ab S N.ks tab
 else if N.k=2 then⟨#[108,101,116,32]⟩++cD N.nm++(ite (N.ks=[]) Ax<|⟨#[32,61,32]⟩++cD (N.ks.map E))
 else if N.k=3 then(⟨#[99,111,110,115,116,32]⟩++nm0 N++⟨#[32,61,32]⟩)++E (dA N 0)
 else if N.k=4 then(⟨#[102,110,32]⟩++nm0 N)++CH a S (ab a<|dA N 0) tab
 else if N.k=5 then cD ((N.ks.take N.n.toNat).map E)++⟨#[32,61,32]⟩++cD ((N.ks.drop N.n.toNat).map E)
 else if N.k=6 then E (dA N 0)
 else if N.k=7 then b (-1) ⟨#[105,102,32]⟩
 else if N.k=8 then⟨#[119,104,105,108,101,32]⟩++E (dA N 0)++⟨#[32]⟩++Ab S (ab a<|dA N 1).ks tab
 else if N.k=9\/N.k=10 then⟨#[102,111,114,32]⟩++cD N.nm++(ite (N.k=9) ⟨#[32,61,32]⟩ ⟨#[32,105,110,32]⟩)++cD ((N.ks.take<|A0 N.ks-1).map E)++⟨#[32]⟩++Ab S (ab a<|dA N<|A0 N.ks-1).ks tab
 else if N.k=11 then⟨#[98,114,101,97,107]⟩
 else if N.k=12 then⟨#[110,101,120,116]⟩
 else if N.k=13 then⟨#[114,101,116,117,114,110]⟩++(ite (N.ks=[]) Ax<|⟨#[32]⟩++cD (N.ks.map E))
 else if N.k=14 then⟨#[116,114,121,32]⟩++Ab S (ab a<|dA N 0).ks tab++⟨#[32,99,97,116,99,104,32]⟩++cD N.nm++⟨#[32]⟩++Ab S (ab a<|dA N 1).ks tab
 else if N.k=15 then⟨#[116,104,114,111,119,32]⟩++E (dA N 0)
 else if N.k=16 then⟨#[100,101,102,101,114,32]⟩++E (dA N 0)
 else Ax
mutual
def sI(a:zLD):Nat->Int->Nat->Bz|0,_,_=>Ax|f+1,i,tab=>prE a (λk=>sI a f k tab) (λk t=>ry a f k t) (ab a i) tab
def ry(a:zLD):Nat->Int->Nat->Bz|0,_,_=>Ax|f+1,i,tab=>prS a (λk=>sI a f k tab) (λk t=>ry a f k t) (λ_ w=>yp a (λk=>sI a f k tab) (λk t=>ry a f k t) (λk w=>uL a f k w tab) (ab a i) w tab) (ab a i) tab
def uL(a:zLD):Nat->Int->Bz->Nat->Bz|0,_,_,_=>Ax|f+1,i,w,tab=>yp a (λk=>sI a f k tab) (λk t=>ry a f k t) (λk w=>uL a f k w tab) (ab a i) w tab
end
def fK(a:zLD):Bz:=iw<|(ab a<|(A0 a:Int)-1).ks.map λk=>ry a (A0 a) k 0++⟨#[10]⟩
def yq(a:zLD):Bz:=ite (65536<(fK a).size) Ax<|fK a
def D4{b}(o)(h:Kq b (w.alloc o) w'):Kq b w w':=(Kq.of_below<|(ay _ w).alloc eE o).trans h
theorem ajn(f i E C N A t w)(h:Pr f i A t w)(s:20<=N.k/\N.k<=27)(am: -9223372036854775808<=N.n)(an:N.n<=9223372036854775807)(r:N.k=25->N.x.size<=4000)(q:A.size+(Fk N).size<=140737488355328):
  B2 Y 196 #[be f.heap.size 0,jq N E C] w λe w'=>e=A1 (D1 #[])/\Pr f i (A++Fk N) t w'/\Kq f.heap.size w w':=by
 have F:B3 w.heap.size w (w.alloc<|.cells (Jn N E C) 37):=(ay _ w).alloc O _;have g:E1 (Pr f i A t (w.alloc<|.cells (Jn N E C) 37)/\B3 w.heap.size w (w.alloc<|.cells (Jn N E C) 37)):=⟨h.below F,F⟩;have o:=Ki _ am an;have⟨_,a⟩:=aw<|Fk N;rw[a]at q⊢;unfold Fk at a;clear h F;unfold jq;have c:∀v:Int,N.k=v->(N.k==v)=B0:=λv e=>U;have b:∀v:Int,N.k≠v->(N.k==v)=Br:=λv e=>U;by_cases j:N.k=20
 .have K:=c _ j;rw[ae j]at a;subst a;clear j c b s r o;go_in;go_wp2_with (go_at_call 35;apply(ig f i _ _ _ _ g.1 q).mono;rintro e z ⟨rfl,p2,d⟩);go_end0
  exact⟨R,p2,D4 _ d⟩
 have K:=b _ j;rw[aa j]at a;by_cases l:N.k=21
 .have L:=c _ l;rw[ae l]at a;subst a;clear j l c b s r o;go_in;go_wp2_with (go_at_call 35;apply(ig f i _ _ _ _ g.1 q).mono;rintro e z ⟨rfl,p2,d⟩);go_end0
  exact⟨R,p2,D4 _ d⟩
 have L:=b _ l;rw[aa l]at a;by_cases m:N.k=22
 .have ad:=c _ m;rw[ae m]at a;subst a;clear j l m c b s r o;go_in;go_wp2_with (go_at_call 35;apply(ig f i _ _ _ _ g.1 q).mono;rintro e z ⟨rfl,p2,d⟩);go_end0
  exact⟨R,p2,D4 _ d⟩
 have ad:=b _ m;rw[aa m]at a;by_cases p:N.k=23
 .have af:=c _ p;rw[ae p]at a;rw[a]at o;clear j l m p c b s r a;go_in;go_wp2_with fail;refine dd (o _) λw1 u=>?_;have B:E1 (Pr f i A t w1/\B3 w.heap.size w w1):=⟨g.1.below u,g.2.trans<|u.mono g.2.size⟩;clear u o;go_wp2_with fail;apply(ig f i _ _ _ _ B.1 q).mono;rintro e z ⟨rfl,p2,d⟩;go_wp2_with fail;go_end0
  exact⟨R,p2,(Kq.of_below B.2).trans d⟩
 have af:=b _ p;rw[aa p]at a;by_cases e4:N.k=24\/N.k=26
 .rw[ae e4]at a;obtain e4|e4:=e4
  .have H:=c _ e4;simp only[Jn]at g⊢;rw[a]at g⊢;clear j l m p e4 c b s r o a;go_in;go_wp2_with (go_at_call 35;apply(ig f i _ _ _ _ g.1 q).mono;rintro e z ⟨rfl,p2,d⟩);go_end0
   exact⟨R,p2,D4 _ d⟩
  .have H:(N.k==24)=Br:=b _ O;have ak:=c _ e4;simp only[Jn]at g⊢;rw[a]at g⊢;clear j l m p e4 c b s r o a;go_in;go_wp2_with (go_at_call 35;apply(ig f i _ _ _ _ g.1 q).mono;rintro e z ⟨rfl,p2,d⟩);go_end0
   exact⟨R,p2,D4 _ d⟩
 rw[aa e4]at a;have H:(N.k==24)=Br:=b _ O;have ak:(N.k==26)=Br:=b _ O;by_cases y:N.k=25
 .have al:=c _ y;rw[ae y]at a;have G:=Kb _<|r y;rw[a]at G;clear j l m p e4 y c b s r a o;go_in;go_wp2_with fail;refine dd (G _) λw1 u=>?_;have B:E1 (Pr f i A t w1/\B3 w.heap.size w w1):=⟨g.1.below u,g.2.trans<|u.mono g.2.size⟩;clear u G;go_wp2_with fail;apply(ig f i _ _ _ _ B.1 q).mono;rintro e z ⟨rfl,p2,d⟩;go_wp2_with fail;go_end0
  exact⟨R,p2,(Kq.of_below B.2).trans d⟩
 have al:=b _ y;rw[aa y]at a;have u:N.k=27:=O;have B:=c _ u;rw[ae u]at a;subst a;clear j l m p e4 y u c b s r o;go_in;go_wp2_with (go_at_call 35;apply(ig f i _ _ _ _ g.1 q).mono;rintro e z ⟨rfl,p2,d⟩);go_end0
 exact⟨R,p2,D4 _ d⟩
theorem aqq(a):3<=(tg a).1/\(tg a).1<=10:=by
 unfold tg;grind
def Ho(k a):0<iu k a/\iu k a<=12:=by
 have:=aqq a;unfold iu;omega
def asB(a E k):je a E k 0=E k:=by
 unfold je;rw[aa];have:=Ho (ab a k).k (ab a k).op;omega
theorem zE(x):(mI x).size=x.size+2:=by unfold mI;rw[az,az];show 1+x.size+1=_;omega
theorem aap{a:zLD}{k}(h:k<A0 a):a[k]?=A2 (ab a (k:Int)):=by
 unfold ab;grind
def OkE(b:A5)(d:C2)(c:zLD)(E:Int->Bz)(t:Int)(B:Nat):Prop:=
 ∀(k:Nat)(a:Int)(T:Bz)(W:A5),k<B->gh (ab c k).k=B0->0<=a->a<=100->Pr b d T t W->T.size+(je c E k a).size<=140737488355328->
  B2 Y 110 #[be b.heap.size 0,zI (k:Int),zI a] W λe w'=>e=A1 (D1 #[])/\Pr b d (T++je c E k a) t w'/\Kq b.heap.size W w'
def OkE.zero{b E B}(h:OkE w0 vt b E t B)(k a W)(d:k<B)(c:gh (ab b k).k=B0)(g:Pr w0 vt a t W)(f:a.size+(E k).size<=140737488355328):
  B2 Y 110 #[be w0.heap.size 0,zI (k:Int),zI 0] W λe w'=>e=A1 (D1 #[])/\Pr w0 vt (a++E k) t w'/\Kq w0.heap.size W w':=by
 have:=h k 0 a W d c O O g (by rw[asB];exact f);rw[asB]at this;exact this
def al9(a i b E t B)(H:OkE a i b E t B)(u:dE a i b)(L:A0 b<=1048576)(k)(v:k<B)(x:k<A0 b)(K:gh (ab b k).k=B0)
  (c) (w) (h:Pr a i c t w) (j:c.size+(Hn b E k).size<=140737488355328):
  B2 Y 194 #[be a.heap.size 0,zI (k:Int)] w λe w'=>e=A1 (D1 #[])/\Pr a i (c++Hn b E k) t w'/\Kq a.heap.size w w':=by
 have ad:=aap x;obtain⟨_,r,rfl⟩:=u.form;obtain⟨y,rfl,_,_,G⟩:=(u.below h.bel).get ad;have⟨z0,_,_⟩:=h.cells;have F:=G.c0;have g:=aeE (ab b k).k;have f:=jG h K H;have⟨m,s⟩:=aw<|A0 b;rw[s]at z0 f L x;have ao:(k:Int)<(m:Int):=O;have an:(0:Int)<=(k:Int):=O;have⟨_,d⟩:=aw<|Hn b E k;rw[d]at j⊢;rw[s];unfold Hn at d;generalize (ab b k).k=C at F g d;cases hb:mc C with
 |true=>
  rw[hb]at g d;rw[ae rfl]at d;subst d;go_in;go_wp2_with (go_at_call 275;apply ez<|g _);apply(f.2.2.zero k c w v f.2.1 f.1 j).mono;rintro e z ⟨rfl,p2,l⟩;go_wp2;exact aA (fE R _ _ _) R ⟨R,p2,l⟩
 |false=>
  rw[hb]at g d;rw[aa I]at d;subst d;rw[zE]at j;go_in;go_wp2_with (go_at_call 275;apply ez<|g _);apply(ig a _ c _ t w f.1 (by show c.size+1<=_;omega)).mono;rintro e z ⟨rfl,p2,l⟩;have o:=fs p2 l;go_wp2_with fail;apply(f.2.2.zero k _ z v f.2.1 o.1 (by rw[az];show c.size+1+_<=_;omega)).mono;rintro e n ⟨rfl,al,af⟩;have p:E1 (Pr a (B6 (A2 y) m r) (c++⟨#[40]⟩++E k) t n/\Kq a.heap.size w n):=⟨al,o.2.trans af⟩;go_wp2_with fail;apply(ig a _ _ _ t n p.1 (by rw[az,az];show c.size+1+_+1<=_;omega)).mono;rintro e A ⟨rfl,am,ak⟩;have q:E1 (Pr a (B6 (A2 y) m r) (c++mI (E k)) t A/\Kq a.heap.size w A):=⟨by unfold mI;rw[<-aB,<-aB];exact am,p.2.trans ak⟩;go_wp2_with fail;go_end0
  exact⟨R,q.1,q.2⟩
theorem Kq.box{b k}(h:Kq b w w')(a:nA k w 37 N vn vk)(c:k≠b):nA k w' 37 N vn vk:=by
 refine(h.block k (ai a) c ?_).trans a;intro _ _ _;unfold nA at a;grind
theorem Hp{p:Addr}{i v}(h:W.cell? (p.add i)=A2 v)(a:i≠0):W.cell? (aj p.block<|p.off+i)=A2 v:=by
 unfold Addr.add at h;grind
def Wr(c:A5)(e:C2)(t:Int)(f:FuncId)(args:zAV)(d:Bz):Prop:=
 ∀(a:Bz)(b:A5),Pr c e a t b->a.size+d.size<=140737488355328->B2 Y f args b λg w'=>g=A1 (D1 #[])/\Pr c e (a++d) t w'/\Kq c.heap.size b w'
def Hq(a:Bz):Wr w0 vt t 35 #[be w0.heap.size 0,A9 a] a:=λb c e d=>ig w0 _ b a _ c e d
abbrev pW(a:A5):C2:=be a.heap.size 0
abbrev axr(N:Nd)(b a:C2):Obj:= .cells (Jn N b a) 37
structure NdR (w0:A5) (p1:Addr) (i:Nat) (N:Nd) (an:zOA) (M cn:Nat) (ak:zOA) (L ck:Nat):Prop where
 nm:bv w0 (.slice an M cn) N.nm
 ks:dt w0 (.slice ak L ck) N.ks
 hM:A0 N.nm=M
 hL:A0 N.ks=L
 cap:L<=ck
 rd:∀W,B3 w0.heap.size w0 W->aiG W (p1.add<|i*9) N (.slice an M cn) (.slice ak L ck)
def D5(f:A5)(c:Addr)(e:zLD):Prop:=
 ∀a N d b,e[a]?=A2 N->f.cell? (aj ((c.add<|a*9).block)<|(c.add<|a*9).off+8)=A2 (B6 d (A0 N.ks) b)->A0 N.ks<=b
def CJ{g n k d}(m:dE w0 (B6 (A2 g) n k) d)(p:D5 w0 g d){i}(q:i<A0 d):∃e j f b L c,NdR w0 g i (ab d i) e j f b L c:=by
 have h:=aap q;have⟨_,l,_,_,a⟩:=m.get h;cases l;obtain⟨e,f,rfl⟩:=a.hn.form;obtain⟨b,c,rfl⟩:=a.hk.form;exact⟨e,_,f,b,_,c,a.hn,a.hk,R,R,p i _ b c h a.c8,λ_ o=>a.below o⟩
abbrev NdC(W:A5)(a:Addr)(N:Nd)(c b:C2):Prop:=W.cell? a=A2 (E0 .i64 N.k)/\W.cell? ⟨a.block,a.off+1,B7⟩=A2 (E0 .i64 N.f)/\W.cell? ⟨a.block,a.off+2,B7⟩=A2 (E0 .i64 N.t)/\W.cell? ⟨a.block,a.off+3,B7⟩=A2 (E0 .i64 N.l)/\W.cell? ⟨a.block,a.off+4,B7⟩=A2 (E0 .i64 N.op)/\W.cell? ⟨a.block,a.off+5,B7⟩=A2 (E0 .i64 N.n)/\W.cell? ⟨a.block,a.off+6,B7⟩=A2 (A9 N.x)/\W.cell? ⟨a.block,a.off+7,B7⟩=A2 c/\W.cell? ⟨a.block,a.off+8,B7⟩=A2 b
structure Bx (w0:A5) (vt:C2) (t:Int) (w:A5) (N:Nd) (vn vk:C2) (T:Bz) (W:A5):Prop where
 pr:Pr w0 vt T t W
 kq:Kq w0.heap.size w W
 bx:nA w.heap.size W 37 N vn vk
def Bx.new(h:Pr w0 vt T t w)(N b a):Bx w0 vt t w N b a T (w.alloc<|axr N b a):=by
 have c:B3 w.heap.size w (w.alloc<|axr N b a):=(ay _ w).alloc O _;exact⟨h.below c,Kq.of_below c,au w _⟩
def Bx.next{b a}(h:Bx w0 vt t w N vn vk T W)(c:w0.heap.size<w.heap.size)(p:Pr w0 vt b t a)(k:Kq w0.heap.size W a):Bx w0 vt t w N vn vk b a:=
 ⟨p,h.kq.trans k,k.box h.bx O⟩
def Bx.below{a}(h:Bx w0 vt t w N vn vk T W)(b:B3 W.heap.size W a):Bx w0 vt t w N vn vk T a:=
 ⟨h.pr.below b,h.kq.trans<|Kq.of_below b,h.bx.below b⟩
theorem Bx.cells(h:Bx w0 vt t w N vn vk T W):W.cell? (aj w.heap.size 0)=A2 (zI N.k)/\W.cell? (aj w.heap.size 1)=A2 (zI N.f)/\W.cell? (aj w.heap.size 2)=A2 (zI N.t)/\W.cell? (aj w.heap.size 3)=A2 (zI N.l)/\W.cell? (aj w.heap.size 4)=A2 (zI N.op)/\W.cell? (aj w.heap.size 5)=A2 (zI N.n)/\W.cell? (aj w.heap.size 6)=A2 (A9 N.x)/\W.cell? (aj w.heap.size 7)=A2 vn/\W.cell? (aj w.heap.size 8)=A2 vk:=by
 have⟨_,_,_,_,_,_,_,_,_,_⟩:=aE h.bx;grind
def Bx.kid0{a L b}(h:Bx w0 vt t w N vn (B6 (A2 a) L b) T W)(d:dt w0 (B6 (A2 a) L b) N.ks){q}(e:N.ks[0]?=A2 q):W.cell? a=A2 (zI q):=by
 have⟨_,c,f⟩:=(d.below h.pr.bel).get e;cases c;simpa [Addr.add] using f
def Bx.kid{a L b}(h:Bx w0 vt t w N vn (B6 (A2 a) L b) T W)(e:dt w0 (B6 (A2 a) L b) N.ks){j q}(f:N.ks[j]?=A2 q)(d:j≠0):W.cell? (aj a.block<|a.off+j)=A2 (zI q):=by
 have⟨_,c,g⟩:=(e.below h.pr.bel).get f;cases c;exact Hp g d
def Bx.name0{a b c}(h:Bx w0 vt t w N (B6 (A2 a) b c) vk T W)(e:bv w0 (B6 (A2 a) b c) N.nm)(f:N.nm[0]?=A2 s):W.cell? a=A2 (A9 s):=by
 have⟨_,d,g⟩:=(e.below h.pr.bel).get f;cases d;simpa [Addr.add] using g
theorem dt.ptr{a:zOA}{L b l}(h:dt W (B6 a L b) l)(c:0<A0 l:=by omega):∃d,a=A2 d:=by
 obtain⟨_,_,_⟩:=h.get<|bm c;grind
theorem bv.ptr{a:zOA}{L b l}(h:bv W (B6 a L b) l)(c:0<A0 l:=by omega):∃d,a=A2 d:=by
 obtain⟨_,_,_⟩:=h.get<|bm c;grind
def wF{j q}(h:N.ks[j]?=A2 q):j<A0 N.ks:=(dr.1 h).1
def Bx.stp{b f args Q a}(B:E1 (Bx w0 vt t w N vn vk T a))(e:B3 a.heap.size a W)(S:E1 (Wr w0 vt t f args b))(h:w0.heap.size<w.heap.size)(g:T.size+b.size<=140737488355328)(k:∀d,Bx w0 vt t w N vn vk (T++b) d->Q (A1<|D1 #[]) d):B2 Y f args W Q:=
 (S _ _ (B.below e).pr g).mono λ_ i c=>c.1 ▸ k i ((B.below e).next h c.2.1 c.2.2)
def Bx.fin{a}(B:E1 (Bx w0 vt t w N vn vk a W))(e:a=T):Ending.returned (D1 #[])=A1 (D1 #[])/\Pr w0 vt T t W/\Kq w0.heap.size w W:=⟨R,e ▸ B.pr,B.kq⟩
section
variable (w0 : World) (vt : Value) (t : Nat)
abbrev WE(q:Nat)(a:Bz):Prop:=Wr w0 vt t 110 #[pW w0,zI (q:Int),zI 0] a
abbrev WB(q:Nat)(a:Bz):Prop:=Wr w0 vt t 107 #[pW w0,zI (q:Int)] a
abbrev WD(q:Nat)(a:Bz):Prop:=Wr w0 vt t 111 #[pW w0,zI (q:Int)] a
abbrev WX(l:zLI)(b:Bz):Prop:=∀a,dt w0 a l->Wr w0 vt t 109 #[pW w0,a] b
abbrev WA(q:Nat)(a:Bz):Prop:=Wr w0 vt t 194 #[pW w0,zI (q:Int)] a
end
theorem add_add(a:Addr)(i j):(a.add i).add j=a.add (i+j):=by
 unfold Addr.add;grind
theorem dt.take{a:zOA}{n c l}(h:dt W (B6 a n c) l)(k)(m:k<=A0 l):dt W (B6 a k c) (l.take k):=by
 obtain⟨rfl,b,e,d⟩|⟨b,e,d,g⟩:=h
 .have:k=0:=U;subst this;exact .inl ⟨R,a,c,R⟩
 .cases d;by_cases f:k=0
  .subst f;exact .inl ⟨I,_,_,R⟩
  .refine .inr ⟨b,c,U,λi j _=>g i j ?_⟩;grind
theorem dt.drop{a n c b l}(h:dt W (B6 (A2 a) n c) l)(k m)(j:k<=A0 l)(g:m=A0 l-k):dt W (B6 (A2<|a.add k) m b) (l.drop k):=by
 subst g;obtain⟨rfl,e,f,d⟩|⟨e,f,d,_⟩:=h
 .exact .inl ⟨I,A2<|a.add k,b,I⟩
 .cases d;refine .inr ⟨a.add k,b,U,λ_ _ i=>?_⟩;rw[BD]at i;rw[add_add];grind
