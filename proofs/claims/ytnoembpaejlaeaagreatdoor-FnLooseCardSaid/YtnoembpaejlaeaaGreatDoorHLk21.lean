import Derived.Test.YtnoembpaejlaeaaGreatDoorHLk17
set_option linter.all false
set_option maxRecDepth 100000
set_option maxHeartbeats 25600000
open Option renaming some->M,none->O
open Go renaming undef->Q,wpAnyH_ready->A2,World->B1,Value->B2,grownBy_putObj'->B5,wp_region_held_drew->E1
open List renaming set->T,replicate->B7
open Go.World renaming putObj_heap_other->U,setCell->Ck
open Go.AllReadyH renaming cons->Y,nil->Ax
open Go.KeepsOthers renaming setCell->Z
open Go.Value renaming pointer->A0,slice->B0,int->B6,int->C2,bool->E2,tuple->F0,iface->F1,string->F2,nilIface->G0
open Bool renaming true->A3,false->A5
open ByteArray renaming empty->A9
open Go.Proofs.Tryz renaming prog->B3
open Go.IntKind renaming i64->B4
open Go.RowKit renaming Below->Ce,intOf->Ex,Hid->Fs
namespace Go.Proofs.YtnoembpaejlaeaaGreatDoor
open Go.RowKit Go.Maps Go.WideMaps
variable{B c i j k n:Nat}{Br:Int->ByteArray->ByteArray}{L:List Im}{N:Nd}{S:List Int}{W w:World}{X:Fo}{r:Loop}
def SCl(ns:List Nd)(z:Nat)(x:ByteArray):Prop:=∃a,0<x.size/\iJ ng x a/\FJ a (Sh ns z)/\(cst a:Int)+14<=wN ns z
def KS(ns:List Nd)(S:Int->Nat->ByteArray)(t:Nat)(z:Int):Prop:=∃a:Nat,z=(a:Int)/\SCl ns a (S a t)
def abm(t:Nat):0<(iB t).size/\aw (iB t) 0=10:=by
 unfold iB;exact⟨az,by rw[eH (by decide)];rfl⟩
def rm{x:ByteArray}(h:lh x=A3):0<x.size/\bK (aw x 0)=A3:=by
 unfold lh at h;obtain⟨b,a,c,d⟩:=aE h;have e:=nF a;exact⟨bq rfl,a⟩
def adc:∀(r:List ByteArray)(x:ByteArray),(∀s∈x::r,lh s=A3)->iJ yK (fc (x::r)) (Kh (x::r))/\0<(fc (x::r)).size
 |[],x,h=>by
  have a:=h x bg;rw[qG];exact⟨og a,(rm a).1⟩
 |y::r,x,h=>by
  have a:=h x bg;obtain⟨c,d⟩:=adc r y λs b=>h s (dm _ b);rw[pA];exact⟨(og a).app (mi.app c d rfl) az Bc,az (rm a).1⟩
def alA:∀(r:List ByteArray)(x:ByteArray),(∀s∈x::r,s.size<=3)->cst (Kh (x::r))<=19*(r.length+1)
 |[],x,h=>by
  have:=h x bg;simp only[Kh,cst,wt,lG,Int.reduceLT,reduceIte];simp;omega
 |y::r,x,h=>by
  have:=h x bg;have:=alA r y λs a=>h s (dm _ a);rw[Kh]
  .simp only[cst,wt,lG,sgF,Int.reduceLT,reduceIte,bm];omega
  .simp
def aih:∀(nm:List ByteArray)(t:Bool),(∀s∈nm,s.size<=3)->cst (DA nm t)<=19*nm.length+11
 |[],false,_=>aI _
 |[],true,_=>by decide
 |x::r,t,h=>by
  have:=h x bg;have:=aih r t λs a=>h s (dm _ a);rw[DA];split
  .simp only[cst,wt,lG,Int.reduceLT,reduceIte,bm];omega
  .simp only[cst,wt,lG,sgF,Int.reduceLT,reduceIte,bm];omega
def x19(h:I0 N)(a:N.k≠25):N.x.size<=19:=by
 rcases h.x with g|g
 .exact g.2.1
 .exact absurd g.1 a
def aii{c:Int}(h:bK c=A3):yJ (eC 48) 48 c=A3:=by
 have b:=nF h;have a:bK (aw (eC 48) 0)=A5/\cD (aw (eC 48) 0)=A5/\aw (eC 48) 0≠34/\aw (eC 48) 0≠45:=by decide+kernel
 unfold yJ nxS;rw[aa (by rw[a.1];simp),aa (by rw[a.2.1];simp[a.2.2.1])];simp[a.2.2.2];omega
def prT(nm:List ByteArray)(r:Bool):ByteArray:=fc nm++(if r=A3 then(if nm=[] then⟨#[46,46,46]⟩ else iz++⟨#[46,46,46]⟩) else A9)
def ID:iJ ng ⟨#[46,46,46]⟩ [sgF 49]:=(lit [49]).mono λa b=>by
 have:∀a∈uA,itF [49] a=A3:=by decide+kernel
 exact this a (aE b)
def aij:∀(nm:List ByteArray)(r:Bool),(∀s∈nm,lh s=A3)->(nm≠[]\/r=A3)->iJ ng (prT nm r) (DA nm r)/\0<(prT nm r).size
 |[],false,_,h=>by simp at h
 |[],true,_,_=>by
  have e:prT [] A3=⟨#[46,46,46]⟩:=by decide
  rw[e];exact⟨ID,by decide⟩
 |[x],false,h,_=>by
  have a:=h x bg;have e:prT [x] A5=x:=by unfold prT;rw[qG];exact nh x
  rw[e];exact⟨(og a).mono λj=>Ch,(rm a).1⟩
 |[x],true,h,_=>by
  have a:=h x bg;have e:prT [x] A3=x++(iz++⟨#[46,46,46]⟩):=by unfold prT;rw[qG];rfl
  rw[e];exact⟨(og a).app (mi.app ID) (by decide) (by decide),az (rm a).1⟩
 |x::b::r,c,h,_=>by
  have a:=h x bg;obtain⟨g,i⟩:=aij (b::r) c (λs f=>h s (dm _ f)) (.inl (by simp));have e:prT (x::b::r) c=x++(iz++prT (b::r) c):=by
   unfold prT;rw[pA,aa (show ¬x::b::r=[] by simp),aa (show ¬b::r=[] by simp)];simp only[dh]
  have d:DA (x::b::r) c=lG x::sgF 46::DA (b::r) c:=by rw[DA,aa (by simp)]
  rw[e,d];exact⟨(og a).app (mi.app g i rfl) az Bc,az (rm a).1⟩
def akA(N:Nd)(h:∀s∈N.nm,lh s=A3):iJ pz (EK N) (sgF 40::(DA N.nm (decide (N.op=1))++[sgF 41])):=by
 have c:iJ pz ⟨#[41,32]⟩ [sgF 41]:=lit [41,0];have d:EK N=⟨#[40]⟩++prT N.nm (decide (N.op=1))++⟨#[41,32]⟩:=by
  unfold EK prT;simp only[decide_eq_true_eq,dh]
 rw[d];by_cases b:N.nm≠[]\/decide (N.op=1)=A3
 .obtain⟨i,j⟩:=aij N.nm _ h b;have:=(Ci.app i j rfl).app c;exact this.as
 .have f:N.nm=[]:=by by_cases a:N.nm=[];exact a;exact absurd (.inl a) b
  have g:decide (N.op=1)=A5:=by cases a:decide (N.op=1) with
   |true=>exact absurd (.inr a) b
   |false=>rfl
  rw[f,g];have e:prT [] A5=A9:=by decide
  rw[e,nh];exact Ci.app c
section
variable {ns : List Nd} {E : Int → ByteArray} {S : Int → Nat → ByteArray} {i tab q : Nat}
def ade:∀(ks:List Int),(∀z∈ks,KS ns S (tab+1) z)->∃m,0<(jh (ks.map λk=>iB (tab+1)++S k (tab+1))++iB tab).size/\aw (jh (ks.map λk=>iB (tab+1)++S k (tab+1))++iB tab) 0=10/\iJ pz (jh (ks.map λk=>iB (tab+1)++S k (tab+1))++iB tab) m/\SLc m (ql (Sh ns) ks)/\(cst m:Int)<=wK ns ks+11
 |[],_=>by
  refine⟨[nlW],?_⟩;have e:jh (([]:List Int).map λk=>iB (tab+1)++S k (tab+1))++iB tab=iB tab:=Eb _;rw[e];exact⟨(abm tab).1,(abm tab).2,acI tab,SLc.nil,by show(11:Int)<=0+11;decide⟩
 |z::p,b=>by
  obtain⟨c,rfl,f,g,h,i,q⟩:=b z bg;obtain⟨m,j,l,n,o,r⟩:=ade p λc d=>b c (dm _ d);refine⟨nlW::(f++m),?_⟩;rw[dw,Ec,ql];simp only[dh];have a:=abm (tab+1);refine⟨az a.1,by rw[eH a.1];exact a.2,?_,SLc.cons i o,by simp only[cst,cj,wt,sgF,lG,nlW,Int.reduceLT,reduceIte];rw[wK];omega⟩;exact(acI (tab+1)).app (h.app n j (by rw[l];decide)) (az g) rfl
def aro(ks:List Int)(h:∀z∈ks,KS ns S (tab+1) z):∃l,0<(Az S ks tab).size/\iJ pz (Az S ks tab) l/\Hz l (one (bN 1 0 0 z0 []) (ql (Sh ns) ks))/\(cst l:Int)<=wK ns ks+33:=by
 unfold Az;split
 .rename_i b;subst b;exact⟨[sgF 42,sgF 43],by decide,(lit [42,43]).mono λa _=>(show yJ (eC 43) 43 a=A3 from acJ (by decide) a),am3,by show(22:Int)<=0+33;decide⟩
 .obtain⟨d,e,j,f,g,k⟩:=ade ks h;have b:(⟨#[123]⟩:ByteArray)++jh (ks.map λc=>iB (tab+1)++S c (tab+1))++iB tab++⟨#[125]⟩=⟨#[123]⟩++(jh (ks.map λc=>iB (tab+1)++S c (tab+1))++iB tab)++⟨#[125]⟩:=by simp only[dh]
  rw[b];have i:iJ pz (⟨#[123]⟩:ByteArray) [sgF 42]:=lit1;have a:iJ pz (⟨#[125]⟩:ByteArray) [sgF 43]:=lit1;refine⟨sgF 42::(d++[sgF 43]),az az,?_,SLc.bl g,by simp only[cst,cj,wt,sgF,lG,nlW,Int.reduceLT,reduceIte];omega⟩;have:=(i.app f e rfl).app a;exact this.as
structure JzE (ns:List Nd) (E:Int->ByteArray) (S:Int->Nat->ByteArray) (i:Nat) (tab:Nat):Prop where
 e:∀z:Nat,z<i->z<ns.length->gw (ae ns z).k=A3->Ey ns z (E z)
 s:∀z:Nat,z<i->z<ns.length->jz (ae ns z).k=A3->SCl ns z (S z (tab+1))
 b:∀z:Nat,z<ns.length->I0 (ae ns z)
def JzE.blk(h:JzE ns E S i tab)(d:Wzd ns)(v:q<=i)(a:q<ns.length)(b:(ae ns q).k=1):∃l,0<(Az S (ae ns q).ks tab).size/\iJ pz (Az S (ae ns q).ks tab) l/\Hz l (Sh ns q)/\(cst l:Int)+117<=wN ns q:=by
 have c:=(jJ (d.nb q a)).1;obtain⟨l,o,p,r,w⟩:=aro (ns:=ns) (S:=S) (tab:=tab) (ae ns q).ks λx m=>by
  obtain⟨f,rfl,t,j,n,u,g⟩:=td d a m;have e:=Kw _ 0 (yF c b) n (by omega) (by omega);rw[g]at e;exact⟨f,rfl,h.s f (by omega) j e⟩
 refine⟨l,o,p,?_,by rw[d.at_ q a];have:=wE (ae ns q);omega⟩;rw[tD d a,za c,b];exact r
def JzE.bod(h:JzE ns E S i tab)(d:Wzd ns)(F:q<=i)(c:q<ns.length)(p:(ae ns q).k=36):∃l,(0<(E0 ns S (ae ns q) tab).size/\aw (E0 ns S (ae ns q) tab) 0=40)/\iJ pz (E0 ns S (ae ns q) tab) l/\BDc l (Sh ns q)/\(cst l:Int)+170<=wN ns q:=by
 have e:=(jJ (d.nb q c)).1;obtain⟨m,n,C,v⟩:=ag0 e p;obtain⟨B,a⟩:=jj (d.nb q c) c 0 (by omega);rw[a.id]at n;obtain⟨l,x,y,z,G⟩:=h.blk d (by have:=a.lt;omega) a.len n;have w:=akA (ae ns q) (alk e);unfold E0;rw[a.id];have j:0<(EK (ae ns q)).size/\aw (EK (ae ns q)) 0=40:=by
  unfold EK;have u:∀r:ByteArray,0<(⟨#[40]⟩++r:ByteArray).size:=λr=>az;simp only[dh];exact⟨u _,by rw[eH (by decide)];rfl⟩
 have o:=h.b q c;refine⟨_,⟨az j.1,by rw[eH j.1];exact j.2⟩,w.app y x rfl,?_,by
  rw[d.at_ q c,lI m,a.id];have:=aih (ae ns q).nm (decide ((ae ns q).op=1)) λA e=>(o.s A e).sz;have:=o.nm;have:=wE (ae ns q);simp only[cst,cj,wt,sgF,Int.reduceLT,reduceIte,wK];omega⟩
 have:=Hz.body z (ae ns q).nm (decide ((ae ns q).op=1));rw[tD d c,za e,p,lI m,kI,a.id];have s:(if decide ((ae ns q).op=1)=A3 then(1:Int) else 0)=(ae ns q).op:=by
  rcases v with g|g<;>rw[g]<;>rfl
 rw[s]at this;have t:∀f:List Wt,(sgF 40::(f++[sgF 41]))++l=sgF 40::(f++(sgF 41::l)):=λf=>by simp
 rw[t];exact this
def JzE.ent(h:JzE ns E S i tab)(d:Wzd ns)(af:q<=i)(c:q<ns.length)(ad:40<=(ae ns q).k/\(ae ns q).k<=42):∃l,0<(we ns E (ae ns q)).size/\iJ ng (we ns E (ae ns q)) l/\ENc l (Sh ns q)/\(cst l:Int)+100<=wN ns q:=by
 have n:=(jJ (d.nb q c)).1;have u:=λK J=>jj (d.nb q c) c K J;have w:=λG:Nat=>(oK (ae ns G).k (ae ns G).op).1;have ak:=wE (ae ns q);unfold we;rw[tD d c,za n,d.at_ q c];by_cases p:(ae ns q).k=41
 .obtain⟨t,z,_⟩:=oI n;obtain⟨f,b⟩:=u 0 (by omega);obtain⟨y,g⟩:=u 1 (by omega);have j:=jn 2 0 z 0 (by omega) (by omega);have C:=jn 2 0 z 1 (by omega) (by omega);rw[b.id]at j;rw[g.id]at C;have:=b.lt;have:=g.lt;obtain⟨l,a⟩:=h.e f (by omega) b.len j;obtain⟨L,m⟩:=h.e y (by omega) g.len C;rw[ab p,b.id,g.id,tg t,mz,b.id,g.id,p];have v:iJ pz (⟨#[91]⟩:ByteArray) [sgF 44]:=lit1;have o:iJ pz (⟨#[93,32,61,32]⟩:ByteArray) [sgF 45,sgF 47]:=lit [45,0,47,0];refine⟨sgF 44::(l++(sgF 45::sgF 47::L)),az (az az),?_,ni.pair (a.ex.le (by have:=w f;omega)) (m.ex.le (by have:=w y;omega)),by have:=a.cs;have:=m.cs;simp only[cst,cj,wt,sgF,lG,nlW,Int.reduceLT,reduceIte];simp only[wK];omega⟩;have:=((v.app a.rd a.pos rfl).app o).app m.rd m.pos rfl;exact this.as
 rw[aa p];obtain⟨t,j,_⟩:=qk n;obtain⟨f,b⟩:=u 0 (by omega);rw[b.id]at j;have:=b.lt;obtain⟨l,a⟩:=h.e f (by omega) b.len j;have B:=a.ex.le (r:=0) (by have:=w f;omega);rw[b.id,lI t,kI,b.id];by_cases s:(ae ns q).k=42
 .have A:=(Ip n).1 (by omega);have F:=rm A;rw[ab s,s];have v:iJ (yJ (eC 48) 48) (⟨#[46]⟩:ByteArray) [sgF 48]:=lit [48];have o:iJ pz (⟨#[32,61,32]⟩:ByteArray) [sgF 47]:=lit [0,47,0];have I:yJ (eC 48) 48 (aw (ae ns q).x 0)=A3:=aii F.2;refine⟨sgF 48::lG (ae ns q).x::sgF 47::l,az (az az),?_,ni.named B,by have:=a.cs;have:=x19 (h.b q c) (by omega);simp only[cst,cj,wt,sgF,lG,nlW,Int.reduceLT,reduceIte];simp only[wK];omega⟩;exact((v.app (og A) F.1 I).app o).app a.rd a.pos rfl
 .have H:(ae ns q).k=40:=by omega
  rw[aa s,H];exact⟨l,a.pos,a.rd,ni.item B,by have:=a.cs;simp only[wK];omega⟩
end
def abn{w:ByteArray}{k c:Int}(h:cD (aw w 0)=A3\/aw w 0=34)(a:ng c=A3):yJ w k c=A3:=by
 have b:bK (aw w 0)=A5:=by
  rcases h with g|g
  .have:=jw g;simp[bK];omega
  .rw[g];decide
 unfold yJ;rw[aa (by rw[b];simp),ab h];exact a
def aoc(h:I0 N)(b:N.k=25):((fy (eE N.x)).size:Int)+37<=fW N:=by
 have c:=wE N;rcases h.x with g|⟨_,g|g⟩
 .exact absurd b g.1
 .have:=aci N.x;have:=g.1;omega
 .have:=ajo N.x g.1.dg;have a:bgN N=1:=by unfold bgN;rw[ab (by have:=g.1.lo;omega)]
  unfold fW;rw[a];have:=g.2;omega
def aod(n:Int)(a:n<=9223372036854775807):(yr n).size<=20:=by
 unfold yr;split
 .rw[rG];decide
 .show(oJ n.toNat).size<=20;rw[aep];exact Lib.nDigits_le20 _ (by omega)
def akB(n:Int):cD (aw (yr n) 0)=A3:=by
 unfold yr;split
 .rw[(Cg _ 16).1];decide
 .have:=D6 n.toNat;exact this.2.1 0 this.1
section
variable {ns : List Nd} {E : Int → ByteArray} {S : Int → Nat → ByteArray} {i tab q : Nat}
def JzE.tbl(h:JzE ns E S i tab)(d:Wzd ns):∀(r:List Int)(z:Int),(∀a∈z::r,∃k:Nat,a=(k:Int)/\k<=i/\k<ns.length/\40<=(ae ns k).k/\(ae ns k).k<=42)->∃l,0<(fc ((z::r).map λk=>we ns E (ae ns k))).size/\iJ ng (fc ((z::r).map λk=>we ns E (ae ns k))) l/\TBc l (ql (Sh ns) (z::r))/\(cst l:Int)<=wK ns (z::r)
 |[],z,g=>by
  obtain⟨a,rfl,b,c,e⟩:=g z bg;obtain⟨l,j,m,n,p⟩:=h.ent d b c e;refine⟨l,?_⟩;rw[dw,List.map_nil,qG,kI];exact⟨j,m,n.last,by simp only[wK];omega⟩
 |z2::r,z,g=>by
  obtain⟨a,rfl,b,c,e⟩:=g z bg;obtain⟨l,j,m,n,p⟩:=h.ent d b c e;obtain⟨q,s,t,u,v⟩:=h.tbl d r z2 λa o=>g a (dm _ o);refine⟨l++(sgF 46::q),?_⟩;rw[dw,dw,pA,<-dw (f:=λk=>we ns E (ae ns k)),ql];exact⟨az j,m.app (mi.app t s rfl) az Bc,n.cons u,by simp only[cst,cj,wt,sgF,lG,nlW,Int.reduceLT,reduceIte];rw[wK];omega⟩
def akC(d:Wzd ns)(q:i<ns.length)(m:I0 (ae ns i))(F:20<=(ae ns i).k/\(ae ns i).k<=27):Ey ns i (BJ (ae ns i)):=by
 have p:=(jJ (d.nb i q)).1;have E:=ag1 p F;have u:(ae ns i).ks=[]:=jK E;have f:=tD d q;have c:=f;rw[za p,u,ql]at c;have w:=d.at_ i q;have I:=wE (ae ns i);have x:=x19 m;rw[u]at w;simp only[wK]at w;have r:∀(s:ByteArray)(k:Int),s=itT [k]->itC [k]=A3->k≠0->(∀j∈uA,yJ (eC k) k j=A3)->iJ ng s [sgF k]:=λs k z A B C=>by
  have:=lit [k] z A;simp only[itF,itL,aa B]at this;exact this.mono λj h=>C j (aE h)
 rcases(show(ae ns i).k=20\/(ae ns i).k=21\/(ae ns i).k=22\/(ae ns i).k=23\/(ae ns i).k=24\/(ae ns i).k=25\/(ae ns i).k=26\/(ae ns i).k=27 by omega) with e|e|e|e|e|e|e|e;all_goals (simp only[e]at c)
 .rw[show BJ (ae ns i)=⟨#[110,105,108]⟩ by unfold BJ;simp[e]];exact EL.of_un (l:=[sgF 24]) (by rw[e];decide) (by decide) (by decide) (λa=>absurd a (by decide)) (r _ 24 (by decide+kernel) (by decide+kernel) (by decide) (by decide+kernel)) (by rw[c];exact amL) f (by simp only[cst,cj,wt,sgF,lG,nlW,Int.reduceLT,reduceIte];omega)
 .rw[show BJ (ae ns i)=⟨#[116,114,117,101]⟩ by unfold BJ;simp[e]];exact EL.of_un (l:=[sgF 29]) (by rw[e];decide) (by decide) (by decide) (λa=>absurd a (by decide)) (r _ 29 (by decide+kernel) (by decide+kernel) (by decide) (by decide+kernel)) (by rw[c];exact am0) f (by simp only[cst,cj,wt,sgF,lG,nlW,Int.reduceLT,reduceIte];omega)
 .rw[show BJ (ae ns i)=⟨#[102,97,108,115,101]⟩ by unfold BJ;simp[e]];exact EL.of_un (l:=[sgF 17]) (by rw[e];decide) (by decide) (by decide) (λa=>absurd a (by decide)) (r _ 17 (by decide+kernel) (by decide+kernel) (by decide) (by decide+kernel)) (by rw[c];exact am1) f (by simp only[cst,cj,wt,sgF,lG,nlW,Int.reduceLT,reduceIte];omega)
 .rw[show BJ (ae ns i)=yr (ae ns i).n by unfold BJ;simp[e]];have g:=aj9 (ae ns i).n m.int.n.1 m.int.n.2;have H:=aod (ae ns i).n m.int.n.2;have b:=akB (ae ns i).n;exact EL.of_un (l:=[⟨2,(ae ns i).n,⟨#[]⟩,yr (ae ns i).n⟩]) (by rw[e];decide) g.pos (λa=>by rw[a]at b;exact absurd b (by decide)) (λa=>by rw[a]at b;exact absurd b (by decide)) ((D7 (t:=⟨2,(ae ns i).n,⟨#[]⟩,yr (ae ns i).n⟩) (by simp) (by simp) g).mono λj h=>abn (.inl b) h) (by rw[c];exact amI) f (by simp only[cst,cj,wt,sgF,lG,nlW,Int.reduceLT,reduceIte];omega)
 .rw[show BJ (ae ns i)=(ae ns i).x by unfold BJ;simp[e]];have o:=(Ip p).2 e;have g:=aj5 o;have b:cD (aw (ae ns i).x 0)=A3:=by unfold fok qd at o;rw[bI]at o;exact(aE o.2).1
  exact EL.of_un (l:=[⟨3,0,(ae ns i).x,(ae ns i).x⟩]) (by rw[e];decide) g.pos (λa=>by rw[a]at b;exact absurd b (by decide)) (λa=>by rw[a]at b;exact absurd b (by decide)) ((D7 (t:=⟨3,0,(ae ns i).x,(ae ns i).x⟩) (by simp) (by simp) g).mono λj h=>abn (.inl b) h) (by rw[c];exact amJ) f (by have:=x (by omega);simp only[cst,cj,wt,sgF,lG,nlW,Int.reduceLT,reduceIte];omega)
 .rw[show BJ (ae ns i)=fy (eE (ae ns i).x) by unfold BJ;simp[e]];have g:=aj6 (ae ns i).x;have b:=JF (ae ns i).x;exact EL.of_un (l:=[⟨4,0,(ae ns i).x,fy (eE (ae ns i).x)⟩]) (by rw[e];decide) g.pos (by rw[b];decide) (λa=>by rw[b]at a;cases a) ((D7 (t:=⟨4,0,(ae ns i).x,fy (eE (ae ns i).x)⟩) (by simp) (by simp) g).mono λj h=>abn (.inr b) h) (by rw[c];exact amK) f (by have:=aoc m e;simp only[cst,cj,wt,sgF,lG,nlW,Int.reduceLT,reduceIte];omega)
 .rw[show BJ (ae ns i)=(ae ns i).x by unfold BJ;simp[e]];have v:=(Ip p).1 (by omega);have y:=rm v;have G:=nF y.2;exact EL.of_ba (l:=[lG (ae ns i).x]) (by rw[e];decide) y.1 (by omega) (by omega) (og v) (by rw[c,e];exact ajv) f (by have:=x (by omega);simp only[cst,cj,wt,sgF,lG,nlW,Int.reduceLT,reduceIte];omega)
 .rw[show BJ (ae ns i)=⟨#[46,46,46]⟩ by unfold BJ;simp[e]];exact EL.of_un (l:=[sgF 49]) (by rw[e];decide) (by decide) (by decide) (λa=>absurd a (by decide)) ID (by rw[c];exact am2) f (by simp only[cst,cj,wt,sgF,lG,nlW,Int.reduceLT,reduceIte];omega)
def arp{a:Nat}(d:Wzd ns)(p:i<ns.length)(j:(ae ns i).k=30)(h:dC (ae ns i) 0=(a:Int))(I:Ey ns a (E a)):Ey ns i (unB ns E (ae ns i)):=by
 have u:=(jJ (d.nb i p)).1;obtain⟨r,_,t⟩:=qk u;have t:=t j;have v:=tD d p;have q:=v;rw[za u,lI r,kI,h]at q;simp only[j]at q;obtain⟨l,K,L,ad,af,ak,an⟩:=ake I;have w:=d.at_ i p;have ao:=wE (ae ns i);rw[lI r,h]at w;simp only[wK]at w;have J:qc (ae ns i).k=A5:=by rw[j];decide
 unfold unB;rw[h];have g:∀(k:Int)(f:ByteArray)(o:Int->Bool),unS ns (ae ns i)=f->0<f.size->aw f 0≠61->(aw f 0=45->Dk (ae ns i)=A3)->iJ o f [sgF k]->o (aw (jH ns E a 11) 0)=A3->jt k=A3->k≠7->k<100->LK k=(ae ns i).op->Ey ns i (unS ns (ae ns i)++jH ns E a 11):=λk f o x m z A B C n F G y=>by
  rw[x];refine EL.of_un (l:=sgF k::l) J (az m) (by rw[eH m];exact z) (by rw[eH m];exact A) (B.app L K C) ?_ v (by
   have e:wt (sgF k)=11:=aa (show ¬k<5 from λb=>by unfold jt at n;have:=aE n;omega);simp only[cst,e];omega)
  rw[q,<-y];exact ad.pre n F G
 rcases(show(ae ns i).op=19\/(ae ns i).op=20\/(ae ns i).op=21\/(ae ns i).op=22 by omega) with e|e|e|e
 .have s:Dk (ae ns i)=A3:=by unfold Dk;rw[j,e];rfl
  by_cases b:Dk (ae ns a)=A3
  .refine g 62 (⟨#[45]⟩++⟨#[32]⟩) pz (by unfold unS;rw[e,h,ab b];rfl) (by decide) (by decide) (λ_=>s) (lit [62,0]) rfl (by decide) (by decide) (by decide) (by rw[e];decide)
  .refine g 62 ⟨#[45]⟩ (yJ (eC 62) 62) (by unfold unS;rw[e,h,aa b];rfl) (by decide) (by decide) (λ_=>s) (lit [62]) ?_ (by decide) (by decide) (by decide) (by rw[e];decide);have c:bK (aw (eC 62) 0)=A5/\cD (aw (eC 62) 0)=A5/\aw (eC 62) 0≠34:=by decide+kernel
   have H:aw (jH ns E a 11) 0≠45:=λal=>b (ak al);unfold yJ nxS;rw[aa (by rw[c.1];simp),aa (by rw[c.2.1];simp[c.2.2])];simp[H]
 .refine g 69 ⟨#[126]⟩ (yJ (eC 69) 69) (by unfold unS;rw[e];rfl) (by decide) (by decide) (λb=>absurd b (by decide)) (lit [69]) ?_ (by decide) (by decide) (by decide) (by rw[e];decide);have c:bK (aw (eC 69) 0)=A5/\cD (aw (eC 69) 0)=A5/\aw (eC 69) 0≠34/\aw (eC 69) 0≠45:=by decide+kernel
  unfold yJ nxS;rw[aa (by rw[c.1];simp),aa (by rw[c.2.1];simp[c.2.2.1])];simp[c.2.2.2,af]
 .exact g 25 ⟨#[110,111,116,32]⟩ pz (by unfold unS;rw[e];rfl) (by decide) (by decide) (λb=>absurd b (by decide)) (lit [25,0]) rfl (by decide) (by decide) (by decide) (by rw[e];decide)
 .exact g 50 ⟨#[35]⟩ pz (by unfold unS;rw[e];rfl) (by decide) (by decide) (λb=>absurd b (by decide)) (lit1) rfl (by decide) (by decide) (by decide) (by rw[e];decide)
def aoe(h:JzE ns E S i tab)(d:Wzd ns)(u:i<ns.length)(b0:gw (ae ns i).k=A3):Ey ns i (prE ns E S (ae ns i) tab):=by
 have y:=(jJ (d.nb i u)).1;have b0:=aE b0;have ad:=λa7 bn=>jj (d.nb i u) u a7 bn;have v:=tD d u;have b:=v;rw[za y]at b;have m:=d.at_ i u;have cr:=wE (ae ns i);have bd:∀(bo:(ae ns i).k=28\/(ae ns i).k=29\/(ae ns i).k=31\/(ae ns i).k=32),∃a p:Nat,dC (ae ns i) 0=(a:Int)/\dC (ae ns i) 1=(p:Int)/\(ae ns i).ks=[(a:Int),(p:Int)]/\Ey ns a (E a)/\Ey ns p (E p):=λbo=>by
  obtain⟨au,a5,_⟩:=oI y;obtain⟨a,f⟩:=ad 0 (by omega);obtain⟨p,a6⟩:=ad 1 (by omega);have G:=jn 2 0 a5 0 (by omega) (by omega);have b4:=jn 2 0 a5 1 (by omega) (by omega);rw[f.id]at G;rw[a6.id]at b4;exact⟨a,p,f.id,a6.id,by rw[tg au,f.id,a6.id],h.e a f.lt f.len G,h.e p a6.lt a6.len b4⟩
 have bx:∀(bo:(ae ns i).k=30\/(ae ns i).k=33\/(ae ns i).k=37),∃a:Nat,dC (ae ns i) 0=(a:Int)/\(ae ns i).ks=[(a:Int)]/\Ey ns a (E a):=λbo=>by
  obtain⟨au,G,_⟩:=qk y;obtain⟨a,f⟩:=ad 0 (by omega);rw[f.id]at G;exact⟨a,f.id,by rw[lI au,f.id],h.e a f.lt f.len G⟩
 unfold prE;by_cases an:(ae ns i).k=28
 .obtain⟨a,p,n,K,j,x,B⟩:=bd (by omega);rw[ab an];unfold EJ yw;rw[n,K];simp only[an,j,mz]at b⊢;rw[j]at m;simp only[wK]at m;obtain⟨l,e,q,o,z⟩:=ahp (t:=10) (sign:=⟨#[32,97,110,100,32]⟩) x B (lit [0,10,0]) (by decide) (by decide) rfl rfl (by decide) (by decide) (by decide) (by decide);exact EL.of_ex (l:=l) (by rw[an];decide) e (by rw[an];show(2:Int)<11;decide) q (by rw[b,an];exact o) v (by omega)
 rw[aa an];by_cases ao:(ae ns i).k=29
 .obtain⟨a,p,n,K,j,x,B⟩:=bd (by omega);rw[ab ao];unfold EJ yw;rw[n,K];simp only[ao,j,mz]at b⊢;rw[j]at m;simp only[wK]at m;obtain⟨l,e,q,o,z⟩:=ahp (t:=26) (sign:=⟨#[32,111,114,32]⟩) x B (lit [0,26,0]) (by decide) (by decide) rfl rfl (by decide) (by decide) (by decide) (by decide);exact EL.of_ex (l:=l) (by rw[ao];decide) e (by rw[ao];show(1:Int)<11;decide) q (by rw[b,ao];exact o) v (by omega)
 rw[aa ao];by_cases I:(ae ns i).k=31
 .obtain⟨a,p,n,K,j,x,B⟩:=bd (by omega);obtain⟨_,_,br⟩:=oI y;have br:=br I;rw[ab I];unfold EJ yw;rw[n,K];simp only[I,j,mz]at b⊢;obtain⟨c,bs⟩:∃c,(ae ns i).op=c:=⟨_,rfl⟩;rw[bs]at br b⊢;have cf:((c.toNat:Nat):Int)=c:=by omega
  obtain⟨b7,b8,b9,ca,cb,cc,cd⟩:=akf ⟨c.toNat,by omega⟩ (by simp only;omega);simp only[cf]at b7 b8 b9 ca cb cc cd;have s:tF 31 c=(zr c).2:=rfl;have bk:im 31 c=(zr c).1:=rfl;have cp:iJ pz (⟨#[32]⟩++Cx (60+c)++⟨#[32]⟩) [sgF (60+c)]:=by
   have:=ahj [0,60+c,0] cd;have w:(60+c:Int)≠0:=by omega
   simp only[itT,itL,itF,aa w,jE,nh]at this;rw[cc,dh];exact this
  rw[j]at m;simp only[wK]at m;obtain⟨l,e,q,o,z⟩:=ahp (t:=60+c) (L:=if tF 31 c=im 31 c then im 31 c+1 else im 31 c) (R:=tF 31 c) x B cp (az az) (by rw[eH az,eH (by decide)];decide) (by rw[s,bk,b9]) (by rw[s,b8]) ca (by omega) (by omega) cb;refine EL.of_ex (l:=l) (by rw[I];decide) e (by rw[I,bs,bk];have:=ahl c;have:=Hw (60+c);omega) q ?_ v (by omega);rw[b,I,bs,bk,<-b7];have B:aeh (60+c)=bN 31 c 0 z0 []:=by unfold aeh;rw[aa (by omega),aa (by omega),show 60+c-60=c by omega]
  rw[B]at o;exact o
 rw[aa I];by_cases bj:(ae ns i).k=30
 .obtain⟨a,n,j,x⟩:=bx (by omega);rw[ab bj];exact arp d u bj n x
 rw[aa bj];by_cases a2:(ae ns i).k=32
 .obtain⟨a,p,n,K,j,x,B⟩:=bd (by omega);have F:=Ea y (by omega);rw[n]at F;obtain⟨l,ad,ax,⟨e,z,af⟩,q,o,b5⟩:=aho x F;obtain⟨a9,bb⟩:=B;rw[ab a2,n,K];simp only[a2,j,mz]at b;have H:iJ pz (⟨#[91]⟩:ByteArray) [sgF 44]:=lit1;have ak:iJ pz (⟨#[93]⟩:ByteArray) [sgF 45]:=lit1;have r:=((q.app H).app bb.rd bb.pos rfl).app ak;refine EL.of_ba (l:=l++(sgF 44::(a9++[sgF 45]))) (by rw[a2];decide) (az (az (az e))) (by rw[eH (az (az e)),eH (az e),eH e];exact z) (by rw[eH (az (az e)),eH (az e),eH e];exact af) ?_ ?_ v (by rw[j]at m;simp only[wK]at m;have:=bb.cs;simp only[cst,cj,wt,sgF,lG,nlW,Int.reduceLT,reduceIte];omega)
  .have:=r.tt (g:=yK);exact this.as
  .rw[b,a2];exact o.index ax (bb.ex.le (by have:=oK (ae ns p).k (ae ns p).op;omega))
 rw[aa a2];by_cases a3:(ae ns i).k=33
 .obtain⟨a,n,j,x⟩:=bx (by omega);have F:=Ea y (by omega);rw[n]at F;have b1:=(Ip y).1 (by omega);have b6:=rm b1;obtain⟨l,ad,ax,⟨e,z,af⟩,q,o,b5⟩:=aho x F;rw[ab a3,n];simp only[a3,j,kI]at b;have H:iJ (yJ (eC 48) 48) (⟨#[46]⟩:ByteArray) [sgF 48]:=lit [48];have r:=q.app (H.app (og b1) b6.1 (aii b6.2)) az Bc;refine EL.of_ba (l:=l++[sgF 48,lG (ae ns i).x]) (by rw[a3];decide) (az e) (by rw[eH e];exact z) (by rw[eH e];exact af) r ?_ v (by rw[j]at m;simp only[wK]at m;have:=x19 (h.b i u) (by omega);simp only[cst,cj,wt,sgF,lG,nlW,Int.reduceLT,reduceIte];omega);rw[b,a3];exact o.field ax
 rw[aa a3];by_cases C:(ae ns i).k=34
 .obtain⟨au,a5⟩:=Ih y C;obtain⟨a,f⟩:=ad 0 (by omega);have G:=jn _ 0 a5 0 (by omega) (by omega);have F:=Ea y (by omega);rw[f.id]at G F;obtain⟨l,ad,ax,⟨e,z,af⟩,q,o,b5⟩:=aho (h.e a f.lt f.len G) F;have j:(ae ns i).ks=(a:Int)::(ae ns i).ks.drop 1:=by
   cases al:(ae ns i).ks with
   |nil=>rw[al]at au;simp at au
   |cons ct r=>have:=f.at_;rw[al]at this;simp at this;rw[this];rfl
  have b2:∀w∈(ae ns i).ks.drop 1,KE ns E w:=λw av=>by
   obtain⟨bf,rfl,a0,A,a7,bn,al⟩:=td d u (List.mem_of_mem_drop av);have a8:=jn _ 0 a5 a7 (by omega) (by omega);rw[al]at a8;exact⟨bf,rfl,h.e bf a0 A a8⟩
  rw[ab C,f.id];rw[j,ql]at b;rw[j,wK]at m;simp only[C]at b;have J:∀a0 A a1:ByteArray,0<(IL ns E a++a0++A++a1).size/\aw (IL ns E a++a0++A++a1) 0=aw (IL ns E a) 0:=λa0 A a1=>⟨az (az (az e)),by rw[eH (az (az e)),eH (az e),eH e]⟩;have ce:=q.app Ci;cases s:(ae ns i).ks.drop 1 with
  |nil=>
   rw[s]at b;have bh:fc (([]:List Int).map E)=A9:=rfl;rw[bh];obtain⟨bl,a4⟩:=J ⟨#[40]⟩ A9 ⟨#[41]⟩;refine EL.of_ba (l:=l++[sgF 40,sgF 41]) (by rw[C];decide) bl (by rw[a4];exact z) (by rw[a4];exact af) ?_ ?_ v (by rw[s]at m;simp only[wK]at m;simp only[cst,cj,wt,sgF,lG,nlW,Int.reduceLT,reduceIte];omega)
   .rw[nh];have:=(ce.app Iq).tt (g:=yK);exact this.as
   .rw[b,C,ql,Fo.app_nil];exact o.call0 ax
  |cons w r=>
   rw[s]at b b2;obtain⟨a9,bt,bv,bw,cn⟩:=vL r w b2;obtain⟨bl,a4⟩:=J ⟨#[40]⟩ (fc ((w::r).map E)) ⟨#[41]⟩;refine EL.of_ba (l:=l++(sgF 40::(a9++[sgF 41]))) (by rw[C];decide) bl (by rw[a4];exact z) (by rw[a4];exact af) ?_ ?_ v (by rw[s]at m;simp only[cst,cj,wt,sgF,lG,nlW,Int.reduceLT,reduceIte];omega)
   .have:=((ce.app bv bt rfl).app Iq).tt (g:=yK);exact this.as
   .rw[b,C];exact o.call ax bw
 rw[aa C];by_cases ap:(ae ns i).k=35
 .rw[ab ap];unfold af6;have cl:=DL y ap;simp only[ap]at b;have av:∀w∈(ae ns i).ks,∃k:Nat,w=(k:Int)/\k<=i/\k<ns.length/\40<=(ae ns k).k/\(ae ns k).k<=42:=λw av=>by
   obtain⟨bf,rfl,a0,A,a7,bn,al⟩:=td d u av;have a8:=acB _ 0 cl a7 (by omega) (by omega);rw[al]at a8;exact⟨bf,rfl,by omega,A,a8⟩
  have H:iJ pz (⟨#[123]⟩:ByteArray) [sgF 42]:=lit1;have ak:iJ pz (⟨#[125]⟩:ByteArray) [sgF 43]:=lit1;have J:∀A a1:ByteArray,aw ((⟨#[123]⟩:ByteArray)++A++a1) 0=123:=λA a1=>by rw[eH az,eH (by decide)];decide
  cases s:(ae ns i).ks with
  |nil=>
   rw[s]at b;have bh:fc (([]:List Int).map λk=>we ns E (ae ns k))=A9:=rfl;rw[bh];refine EL.of_un (l:=[sgF 42,sgF 43]) (by rw[ap];decide) (az az) (by rw[J];decide) (λg=>by rw[J]at g;cases g) ?_ ?_ v (by rw[s]at m;simp only[wK]at m;simp only[cst,cj,wt,sgF,lG,nlW,Int.reduceLT,reduceIte];omega)
   .rw[nh];exact(H.app ak).tt
   .rw[b];exact TBc.nil.un
  |cons w r=>
   rw[s]at b av;obtain⟨a9,bt,bv,bw,cn⟩:=h.tbl d r w av;refine EL.of_un (l:=sgF 42::(a9++[sgF 43])) (by rw[ap];decide) (az az) (by rw[J];decide) (λg=>by rw[J]at g;cases g) ?_ ?_ v (by rw[s]at m;simp only[cst,cj,wt,sgF,lG,nlW,Int.reduceLT,reduceIte];omega)
   .have:=((H.app bv bt rfl).app ak).tt (g:=ng);exact this.as
   .rw[b];exact bw.un
 rw[aa ap];by_cases ba:(ae ns i).k=36
 .rw[ab ba];obtain⟨l,⟨e,z⟩,q,o,af⟩:=h.bod d (ag _) u ba;have H:iJ yK (⟨#[102,110]⟩:ByteArray) [sgF 18]:=(lit [18]).mono λak ck=>by
   show yJ (eC 18) 18 ak=A3;unfold yJ;rw[ab (by decide+kernel)];exact ck
  exact EL.of_un (l:=sgF 18::l) (by rw[ba];decide) az (by rw[eH (by decide)];decide) (λg=>by rw[eH (by decide)]at g;exact absurd g (by decide)) (H.app q e (by rw[z];decide)).tt o.un v (by simp only[cst,cj,wt,sgF,lG,nlW,Int.reduceLT,reduceIte];omega)
 rw[aa ba];by_cases ar:(ae ns i).k=37
 .obtain⟨a,n,j,l,f⟩:=bx (by omega);have bE:=akd y ar;rw[n]at bE;rw[ab ar,n];simp only[ar,j,kI]at b;obtain⟨cq,bD⟩:=f.sh;have bA:=Cj (E a);refine EL.of_ba (l:=sgF 40::(l++[sgF 41])) (by rw[ar];decide) bA.1 (by rw[bA.2];decide) (by rw[bA.2];decide) (ahk f.rd f.pos).tt ?_ v (by rw[j]at m;simp only[wK]at m;have:=f.cs;simp only[cst,cj,wt,sgF,lG,nlW,Int.reduceLT,reduceIte];omega);have b3:=f.ex.le (r:=0) (by have:=oK (ae ns a).k (ae ns a).op;omega);rw[bD]at b3;rw[b,ar,bD];exact b3.held bE
 rw[aa ar];exact akC d u (h.b i u) (by omega)
end
def Ld:iJ pz (⟨#[32,61,32]⟩:ByteArray) [sgF 47]:=lit [0,47,0]
section
variable {ns : List Nd} {E : Int → ByteArray} {S : Int → Nat → ByteArray} {i tab q : Nat}
def adf:∀(r:List Int),(∀a∈r,∃k:Nat,a=(k:Int)/\Ey ns k (E k)/\tr (ae ns k).k=A3)->∃l,iJ yK (mBs (r.map E)) l/\(r≠[]->0<(mBs (r.map E)).size/\aw (mBs (r.map E)) 0=44)/\TMc l (ql (Sh ns) r)/\(r=[]->l=[])/\(cst l:Int)<=wK ns r
 |[],_=>⟨[],aa8,λh=>absurd rfl h,TMc.nil,λ_=>rfl,Int.le_refl _⟩
 |z::r,h=>by
  obtain⟨a,rfl,⟨l,b⟩,ht⟩:=h z bg;obtain⟨n,o,p,q,s,u⟩:=adf r λa m=>h a (dm _ m);have ht:=aE ht;have i:qc (ae ns a).k=A3:=by rcases ht with e|e|e<;>rw[e]<;>decide
  have j:kdK (ae ns a).k<2:=by rcases ht with e|e|e<;>rw[e]<;>decide
  obtain⟨c,d⟩:=b.ba i;refine⟨sgF 46::(l++n),?_,λ_=>?_,TMc.cons d j q,λg=>(by cases g),by have:=b.cs;simp only[cst,cj,wt,sgF,lG,nlW,Int.reduceLT,reduceIte];rw[wK];omega⟩
  .rw[dw,mBs];cases r with
   |nil=>
    have e:mBs (([]:List Int).map E)=A9:=rfl;have f:=s rfl;rw[e,nh,f,dr];exact mi.app c b.pos rfl
   |cons v r=>
    obtain⟨t,p2⟩:=p (by simp);exact mi.app (c.app o t (by rw[p2];decide)) (az b.pos) rfl
  .rw[dw,mBs];exact⟨az,by rw[eH (by decide)];rfl⟩
def BCl(ns:List Nd)(z:Nat)(x:ByteArray):Prop:=∃a,0<x.size/\iJ ng x a/\BRc a (Sh ns z)/\(cst a:Int)+25<=wN ns z
def arq(h:JzE ns E S i tab)(d:Wzd ns)(m:i<ns.length)(J:(ae ns i).k=7)
  (af:∀z:Nat,z<i->z<ns.length->(ae ns z).k=7->∃f,BCl ns z f/\∀w,Br z w=w++f):∃f,BCl ns i f/\∀w,Dl ns E S Br (ae ns i) w tab=w++f:=by
 have K:=(jJ (d.nb i m)).1;have u:=λan ak=>jj (d.nb i m) m an ak;obtain⟨au,av,G,H,ad⟩:=ag4 K J;obtain⟨e,b⟩:=u 0 (by omega);obtain⟨o,c⟩:=u 1 (by omega);rw[b.id]at G;rw[c.id]at H;obtain⟨v,j⟩:=h.e e b.lt b.len G;obtain⟨x,ao,ap,y,a1⟩:=h.blk d (fx c.lt) c.len H;have ax:=j.cs;have q:=d.at_ i m;have a0:=wE (ae ns i);have t:=j.ex.le (r:=0) (by have:=oK (ae ns e).k (ae ns e).op;omega);have n:=tD d m;rw[za K]at n;simp only[J]at n;have p:=(j.rd.app yL).app ap ao rfl;rw[dr]at p;unfold Dl;rw[b.id,c.id];rcases bC (ae ns i).ks.length 3 with g|g
 .refine⟨E e++⟨#[32]⟩++Az S (ae ns o).ks tab,⟨v++x,az (az j.pos),p.tt,?_,by rw[tg (by omega),b.id,c.id]at q;simp only[wK]at q;simp only[cj];omega⟩,λw=>?_⟩
  .rw[n,tg (by omega),mz,b.id,c.id];exact ni.br0 t y
  .rw[ab g,nh];simp only[dh]
 .obtain⟨l,a⟩:=u 2 (by omega);rw[a.id]at ad;rw[D8 (by omega),b.id,c.id,a.id]at q;simp only[wK]at q;have I:ql (Sh ns) (ae ns i).ks=((Sh ns e).app (Sh ns o)).app (Sh ns l):=by rw[D8 (by omega),ql,mz,b.id,c.id,a.id,Fo.app_app]
  by_cases s:(ae ns l).k=7
  .obtain⟨f,⟨B,C,F,p2,ar⟩,al⟩:=af l a.lt a.len s;have A:iJ pz (⟨#[32,101,108,105,102,32]⟩:ByteArray) [sgF 15]:=lit [0,15,0];refine⟨(E e++⟨#[32]⟩++Az S (ae ns o).ks tab)++(⟨#[32,101,108,105,102,32]⟩++f),⟨v++(x++(sgF 15::B)),az (az (az j.pos)),?_,?_,by simp only[cst,cj,wt,sgF,lG,nlW,Int.reduceLT,reduceIte];omega⟩,λw=>?_⟩
   .have:=p.app (A.app F C rfl) az rfl;exact this.as
   .rw[n,I];exact ni.br2 t y p2
   .rw[aa (by omega),a.id,ab s,al];simp only[dh]
  .have L:(ae ns l).k=1:=by omega
   obtain⟨B,C,F,p2,ar⟩:=h.blk d (fx a.lt) a.len L;have A:iJ pz (⟨#[32,101,108,115,101,32]⟩:ByteArray) [sgF 16]:=lit [0,16,0];refine⟨(E e++⟨#[32]⟩++Az S (ae ns o).ks tab)++(⟨#[32,101,108,115,101,32]⟩++Az S (ae ns l).ks tab),⟨v++(x++(sgF 16::B)),az (az (az j.pos)),?_,?_,by simp only[cst,cj,wt,sgF,lG,nlW,Int.reduceLT,reduceIte];omega⟩,λw=>?_⟩
   .have:=p.app (A.app F C rfl) az rfl;have:=this.tt (g:=ng);exact this.as
   .rw[n,I];exact ni.br1 t y p2
   .rw[aa (by omega),a.id,aa s];simp only[dh]
def aof(h:JzE ns E S i tab)(d:Wzd ns)(ax:i<ns.length)(a1:jz (ae ns i).k=A3)
  (cy:(ae ns i).k=7->∃w,BCl ns i w/\Br (-1) ⟨#[105,102,32]⟩=⟨#[105,102,32]⟩++w):SCl ns i (prS ns E S Br (ae ns i) tab):=by
 have u:=(jJ (d.nb i ax)).1;have a1:=aE a1;have y:=λH a0=>jj (d.nb i ax) ax H a0;have f:=tD d ax;rw[za u]at f;have m:=d.at_ i ax;have dx:=wE (ae ns i);have cp:=h.b i ax;have ar:∀{n:ByteArray}{r:List ByteArray},(ae ns i).nm=n::r->n.size<=3/\cst (Kh (n::r))<=57:=λ{n r} o=>by
  have x:=cp.nm;have a9:∀cd∈n::r,cd.size<=3:=λcd u=>(cp.s cd (by rw[o];exact u)).sz;have:=alA r n a9;rw[o,bm]at x;exact⟨a9 n bg,by omega⟩
 have a5:∀j:Nat,Kid ns i (ae ns i) 0 j->gw (ae ns j).k=A3->∃b,EL ns j (E j) b/\ni b (Sh ns j) 0:=λj a bA=>by
  obtain⟨b,c⟩:=h.e j a.lt a.len bA;exact⟨b,c,c.ex.le (by have:=oK (ae ns j).k (ae ns j).op;omega)⟩
 have cb:∀{bt H:Nat},lE ns (ae ns i) bt H=A3->∀v,H<=v->v<H+bt->v<(ae ns i).ks.length->KE ns E (dC (ae ns i) v):=λ{bt H} C v dd df dg=>by
  obtain⟨w,G⟩:=y v dg;have:=jn bt H C v dd df;rw[G.id]at this⊢;exact⟨w,rfl,h.e w G.lt G.len this⟩
 have ca:lE ns (ae ns i) (ae ns i).ks.length 0=A3->∀ad∈(ae ns i).ks,KE ns E ad:=λC ad a9=>by
  obtain⟨H,a0,rfl⟩:=qF a9;exact cb C H (by omega) (by omega) a0
 unfold prS;by_cases bd:(ae ns i).k=1
 .rw[ab bd];obtain⟨b,K,L,t,bb⟩:=h.blk d (ag _) ax bd;exact⟨b,K,L.tt,t.st,by omega⟩
 rw[aa bd];by_cases ak:(ae ns i).k=2
 .rw[ab ak];obtain⟨n,r,o,J,_⟩:=D9 u (by omega);obtain⟨ao,ap⟩:=adc r n J;have s:iJ pz (⟨#[108,101,116,32]⟩:ByteArray) [sgF 22]:=lit [22,0];simp only[ak,o]at f⊢;have C:=ca (aa3 u ak).1;cases er:(ae ns i).ks with
  |nil=>
   rw[er]at f;rw[ab rfl,nh];refine⟨sgF 22::Kh (n::r),az,(s.app ao ap rfl).mono λav=>Ch,?_,by have:=(ar o).2;rw[er]at m;simp only[wK]at m;simp only[cst,cj,wt,sgF,lG,nlW,Int.reduceLT,reduceIte];omega⟩;rw[f];exact ajw
  |cons ad v=>
   rw[er]at f C;rw[aa (by simp)];obtain⟨b,K,L,t,bb⟩:=vL v ad C;refine⟨sgF 22::(Kh (n::r)++(sgF 47::b)),az az,?_,?_,by have:=(ar o).2;rw[er]at m;simp only[cst,cj,wt,sgF,lG,nlW,Int.reduceLT,reduceIte];omega⟩
   .have:=(s.app ao ap rfl).app (Ld.app L K rfl) az Bc;exact this.as
   .rw[f];exact t.let_
 rw[aa ak];by_cases a7:(ae ns i).k=3
 .rw[ab a7];obtain⟨p,l,_⟩:=D1 u a7;obtain⟨n,r,o,J,a2,_⟩:=D9 u (by omega);obtain rfl:=a2 (by omega);have C:=J n bg;obtain⟨j,a⟩:=y 0 (by omega);rw[a.id]at l⊢;obtain⟨b,c,t⟩:=a5 j a l;have b9:nm0 (ae ns i)=n:=by unfold nm0;rw[o];rfl
  simp only[a7,o,lI p,kI,a.id]at f;rw[b9];have s:iJ pz (⟨#[99,111,110,115,116,32]⟩:ByteArray) [sgF 13]:=lit [13,0];refine⟨sgF 13::lG n::sgF 47::b,az (az az),?_,?_,by have:=(ar o).1;have:=c.cs;rw[lI p,a.id]at m;simp only[wK]at m;simp only[cst,cj,wt,sgF,lG,nlW,Int.reduceLT,reduceIte];omega⟩
  .exact((s.app (og C) (rm C).1 rfl).app Ld).app c.rd c.pos rfl
  .rw[f];exact t.const
 rw[aa a7];by_cases a8:(ae ns i).k=4
 .rw[ab a8];obtain⟨p,l,_⟩:=aa4 u a8;obtain⟨n,r,o,J,a2,_⟩:=D9 u (by omega);obtain rfl:=a2 (by omega);have C:=J n bg;obtain⟨j,a⟩:=y 0 (by omega);rw[a.id]at l⊢;obtain⟨b,⟨K,bb⟩,L,t,ds⟩:=h.bod d (fx a.lt) a.len l;have b9:nm0 (ae ns i)=n:=by unfold nm0;rw[o];rfl
  simp only[a8,o,lI p,kI,a.id]at f;rw[b9];have s:iJ pz (⟨#[102,110,32]⟩:ByteArray) [sgF 18]:=lit [18,0];refine⟨sgF 18::lG n::b,az az,?_,?_,by have:=(ar o).1;rw[lI p,a.id]at m;simp only[wK]at m;simp only[cst,cj,wt,sgF,lG,nlW,Int.reduceLT,reduceIte];omega⟩
  .exact((s.app (og C) (rm C).1 rfl).app L K (by rw[bb];decide)).tt
  .rw[f];exact t.fn
 rw[aa a8];by_cases br:(ae ns i).k=5
 .rw[ab br];obtain⟨p,l,x,cn⟩:=ag3 u br;obtain⟨B,J⟩:∃B,(ae ns i).n.toNat=B:=⟨_,rfl⟩;rw[J]at x cn;have o:(ae ns i).n=(B:Int):=by omega
  simp only[br,o]at f;rw[J];have an:∀w∈(ae ns i).ks.take B,∃k:Nat,w=(k:Int)/\Ey ns k (E k)/\tr (ae ns k).k=A3:=λw G=>by
   obtain⟨H,a0,e⟩:=gG G;rw[gC]at a0;rw[List.getElem_take]at e;obtain⟨k,a1⟩:=y H (by omega);have:=apH _ 0 x H (by omega) (by omega);have ak:w=(k:Int):=by rw[<-e,yH (by omega),a1.id]
   rw[a1.id]at this;exact⟨k,ak,h.e k a1.lt a1.len (F4 this),this⟩
  have cB:∀ad∈(ae ns i).ks.drop B,KE ns E ad:=λad a9=>by
   obtain⟨H,a0,e⟩:=gG a9;rw[ig]at a0;rw[List.getElem_drop]at e;rw[<-e,yH (by omega)];exact cb cn (B+H) (by omega) (by omega) (by omega)
  have A:ql (Sh ns) (ae ns i).ks=(ql (Sh ns) ((ae ns i).ks.take B)).app (ql (Sh ns) ((ae ns i).ks.drop B)):=by rw[<-Io,uH]
  have cu:((ae ns i).ks.take B).length=B:=by rw[gC];omega
  have c3:((ae ns i).ks.drop B).length=(ae ns i).ks.length-B:=ig;have cl:wK ns (ae ns i).ks=wK ns ((ae ns i).ks.take B)+wK ns ((ae ns i).ks.drop B):=by rw[<-ahb,uH]
  rw[A]at f;rw[cl]at m;clear A cl cb ca;generalize (ae ns i).ks.take B=af at *;generalize (ae ns i).ks.drop B=b0 at *;cases af with
  |nil=>simp at cu;omega
  |cons ad af=>
  cases b0 with
  |nil=>simp at c3;omega
  |cons w b0=>
   obtain⟨k,rfl,⟨b,c⟩,bv⟩:=an ad bg;obtain⟨F,a3,a4,bD,c4,d0⟩:=adf af λw G=>an w (dm _ G);obtain⟨bk,bl,a6,p2,cv⟩:=vL b0 w cB;have bv:=aE bv;have q:qc (ae ns k).k=A3:=by rcases bv with e|e|e<;>rw[e]<;>decide
   have cF:kdK (ae ns k).k<2:=by rcases bv with e|e|e<;>rw[e]<;>decide
   obtain⟨b3,au⟩:=c.ba q;have cI:(((Sh ns k).app (ql (Sh ns) af)).len:Int)=B:=by
    have:∀(b:List Int),(∀w∈b,∃k:Nat,w=(k:Int)/\Ey ns k (E k)/\tr (ae ns k).k=A3)->(ql (Sh ns) b).len=b.length:=by
     intro b
     induction b with
     |nil=>intro _;rfl
     |cons j b c2=>
      intro c;obtain⟨k,rfl,⟨_,c8⟩,_⟩:=c j bg;obtain⟨dq,cz⟩:=c8.sh;rw[ql,Fo.len_app,c2 λw G=>c w (dm _ G),cz,bm];show 1+b.length=_;omega
    have:=this ((k:Int)::af) an;rw[ql]at this;rw[this,cu]
   have c1:iJ ng (fc (((k:Int)::af).map E)) (b++F):=by
    rw[dw,uB];cases af with
    |nil=>
     have e:mBs (([]:List Int).map E)=A9:=rfl;have cx:=c4 rfl;rw[e,nh,cx,dr];exact c.rd
    |cons d3 r=>
     obtain⟨a6,p2⟩:=a4 (by simp);exact(b3.app a3 a6 (by rw[p2];decide)).mono λav=>Ch
   have c0:0<(fc (((k:Int)::af).map E)).size:=by rw[dw,uB];exact az c.pos
   refine⟨b++(F++(sgF 47::bk)),az (az c0),?_,?_,by have:=c.cs;rw[wK]at m;simp only[cst,cj,wt,sgF,lG,nlW,Int.reduceLT,reduceIte];omega⟩
   .have:=(c1.app Ld).app a6 bl rfl;exact this.as
   .rw[f,ql,<-cI];exact au.set cF bD p2
 rw[aa br];by_cases b6:(ae ns i).k=6
 .rw[ab b6];obtain⟨p,l⟩:=F7 u (by omega);obtain⟨j,a⟩:=y 0 (by omega);rw[a.id]at l⊢;obtain⟨b,c,_⟩:=a5 j a (by rw[l];decide);obtain⟨b3,au⟩:=c.ba (by rw[l];decide);simp only[b6,lI p,kI,a.id]at f;rw[l]at au;exact⟨b,c.pos,c.rd,by rw[f];exact au.do_,by have:=c.cs;rw[lI p,a.id]at m;simp only[wK]at m;omega⟩
 rw[aa b6];by_cases b7:(ae ns i).k=7
 .rw[ab b7];obtain⟨w,⟨b,K,L,t,bb⟩,G⟩:=cy b7;rw[G];have s:iJ pz (⟨#[105,102,32]⟩:ByteArray) [sgF 20]:=lit [20,0];exact⟨sgF 20::b,az,s.app L K rfl,t.st,by simp only[cst,cj,wt,sgF,lG,nlW,Int.reduceLT,reduceIte];omega⟩
 rw[aa b7];by_cases bs:(ae ns i).k=8
 .rw[ab bs];obtain⟨p,l,x⟩:=D2 u bs;obtain⟨j,a⟩:=y 0 (by omega);obtain⟨z,q⟩:=y 1 (by omega);rw[a.id]at l⊢;rw[q.id]at x⊢;obtain⟨b,c,t⟩:=a5 j a l;obtain⟨F,bj,a3,a4,bD⟩:=h.blk d (fx q.lt) q.len x;simp only[bs,tg p,mz,a.id,q.id]at f;have s:iJ pz (⟨#[119,104,105,108,101,32]⟩:ByteArray) [sgF 31]:=lit [31,0];refine⟨sgF 31::(b++F),az (az az),?_,by rw[f];exact t.while_ a4,by have:=c.cs;rw[tg p,a.id,q.id]at m;simp only[wK]at m;simp only[cst,cj,wt,sgF,lG,nlW,Int.reduceLT,reduceIte];omega⟩;have:=(((s.app c.rd c.pos rfl).app yL).app a3 bj rfl).tt (g:=ng);exact this.as
 rw[aa bs];by_cases b8:(ae ns i).k=9\/(ae ns i).k=10
 .rw[ab b8];obtain⟨n,r,o,J,a2,_⟩:=D9 u (by omega);obtain⟨ao,ap⟩:=adc r n J;have s:iJ pz (⟨#[102,111,114,32]⟩:ByteArray) [sgF 19]:=lit [19,0];rcases b8 with e|e
  .obtain⟨p,l,x,_⟩:=aa5 u e;obtain rfl:=a2 (by omega);obtain⟨j,a⟩:=y 0 (by omega);obtain⟨z,q⟩:=y 1 (by omega);have bA:=jn _ 0 l 0 (by omega) (by omega);have cr:=jn _ 0 l 1 (by omega) (by omega);rw[a.id]at bA;rw[q.id]at cr;obtain⟨b,c,t⟩:=a5 j a bA;obtain⟨F,al⟩:=h.e z q.lt q.len cr;have bw:=al.ex.le (r:=0) (by have:=oK (ae ns z).k (ae ns z).op;omega);simp only[e,o,jE]at f⊢;rcases p with g|g
   .obtain⟨av,I⟩:=y 2 (by omega);rw[g,I.id]at x;obtain⟨bk,bl,a6,p2,cv⟩:=h.blk d (fx I.lt) I.len x;have A:=D8 g;rw[a.id,q.id,I.id]at A;rw[A,ql,mz,<-Fo.app_app]at f;have bh:(ae ns i).ks.take ((ae ns i).ks.length-1)=[(j:Int),(z:Int)]:=by rw[A];rfl
    rw[bh,g,I.id];obtain⟨d1,dn,d2,_⟩:=vL (ns:=ns) (E:=E) [(z:Int)] j (λw G=>by
     simp at G;rcases G with rfl|rfl
     .exact⟨j,rfl,b,c⟩
     .exact⟨z,rfl,F,al⟩)
    have cc:iJ ng (fc ([(j:Int),(z:Int)].map E)) (b++(sgF 46::F)):=by
     rw[dw,dw,List.map_nil,pA,qG];exact c.rd.app (mi.app al.rd al.pos rfl) az Bc
    refine⟨sgF 19::lG n::sgF 47::((b++(sgF 46::F))++bk),az (az (az (az az))),?_,by rw[f];exact ni.for_ t bw.es p2 (ajy bw),by have:=(ar o).1;have:=c.cs;have:=al.cs;rw[A]at m;simp only[wK]at m;simp only[cst,cj,wt,sgF,lG,nlW,Int.reduceLT,reduceIte];omega⟩;have:=(((((s.app ao ap rfl).app Ld).app cc dn rfl).app yL).app a6 bl rfl).tt (g:=ng);simpa only[cg,ez,eu,Kh] using this
   .obtain⟨v,an⟩:=y 2 (by omega);obtain⟨av,I⟩:=y 3 (by omega);have ct:=jn _ 0 l 2 (by omega) (by omega);rw[an.id]at ct;rw[g,I.id]at x;obtain⟨ce,bx⟩:=h.e v an.lt an.len ct;have cq:=bx.ex.le (r:=0) (by have:=oK (ae ns v).k (ae ns v).op;omega);obtain⟨bk,bl,a6,p2,cv⟩:=h.blk d (fx I.lt) I.len x;have A:=akb g;rw[a.id,q.id,an.id,I.id]at A;rw[A,ql,ql,mz,<-Fo.app_app (Sh ns z),<-Fo.app_app]at f;have bh:(ae ns i).ks.take ((ae ns i).ks.length-1)=[(j:Int),(z:Int),(v:Int)]:=by rw[A];rfl
    rw[bh,g,I.id];have da:iJ ng (fc ([(z:Int),(v:Int)].map E)) (F++(sgF 46::ce)):=by
     rw[dw,dw,List.map_nil,pA,qG];exact al.rd.app (mi.app bx.rd bx.pos rfl) az Bc
    have dc:0<(fc ([(z:Int),(v:Int)].map E)).size:=by rw[dw,dw,List.map_nil,pA];exact az al.pos
    have cc:iJ ng (fc ([(j:Int),(z:Int),(v:Int)].map E)) (b++(sgF 46::(F++(sgF 46::ce)))):=by
     rw[dw,dw,pA,<-dw];exact c.rd.app (mi.app da dc rfl) az Bc
    have c9:0<(fc ([(j:Int),(z:Int),(v:Int)].map E)).size:=by rw[dw,dw,pA];exact az c.pos
    refine⟨sgF 19::lG n::sgF 47::((b++(sgF 46::(F++(sgF 46::ce))))++bk),az (az (az (az az))),?_,by rw[f];exact ni.for_ t (LA.cons bw cq.es) p2 (aei bw cq),by have:=(ar o).1;have:=c.cs;have:=al.cs;have:=bx.cs;rw[A]at m;simp only[wK]at m;simp only[cst,cj,wt,sgF,lG,nlW,Int.reduceLT,reduceIte];omega⟩;have:=(((((s.app ao ap rfl).app Ld).app cc c9 rfl).app yL).app a6 bl rfl).tt (g:=ng);simpa only[cg,ez,eu,Kh] using this
  .obtain⟨p,l,x,_⟩:=Ii u e;obtain⟨j,a⟩:=y 0 (by omega);obtain⟨z,q⟩:=y 1 (by omega);rw[a.id]at l;rw[q.id]at x;obtain⟨b,c,t⟩:=a5 j a l;obtain⟨F,bj,a3,a4,bD⟩:=h.blk d (fx q.lt) q.len x;have A:=tg p;rw[a.id,q.id]at A;simp only[e,o,A,mz]at f;have bh:(ae ns i).ks.take ((ae ns i).ks.length-1)=[(j:Int)]:=by rw[A];rfl
   have cw:dC (ae ns i) ((ae ns i).ks.length-1)=(z:Int):=by rw[p];exact q.id
   rw[bh,cw,aa (by omega),o,dw,List.map_nil,qG];have c7:iJ pz (⟨#[32,105,110,32]⟩:ByteArray) [sgF 21]:=lit [0,21,0];refine⟨sgF 19::(Kh (n::r)++(sgF 21::(b++F))),az (az (az (az az))),?_,by rw[f];exact t.each a4,by have:=(ar o).2;have:=c.cs;rw[A]at m;simp only[wK]at m;simp only[cst,cj,wt,sgF,lG,nlW,Int.reduceLT,reduceIte];omega⟩;have:=(((((s.app ao ap rfl).app c7).app c.rd c.pos rfl).app yL).app a3 bj rfl).tt (g:=ng);exact this.as
 rw[aa b8];have cf:∀(n:ByteArray)(k:Int),n=itT [k]->itC [k]=A3->k≠0->(∀av∈uA,yJ (eC k) k av=A3)->iJ ng n [sgF k]:=λn k bd ak a7 a8=>by
  have:=lit [k] bd ak;simp only[itF,itL,aa a7]at this;exact this.mono λav I=>a8 av (aE I)
 have bE:(ae ns i).k=11\/(ae ns i).k=12->(ae ns i).ks=[]:=λg=>by
  have:=oD u;unfold stB at this;rcases g with e|e<;>simp[e]at this<;>exact this.2
 by_cases b4:(ae ns i).k=11
 .rw[ab b4];simp only[b4,bE (by omega),ql]at f;exact⟨[sgF 11],by decide,cf _ 11 (by decide+kernel) (by decide+kernel) (by decide) (by decide+kernel),by rw[f];exact aco (.inl ⟨rfl,rfl⟩),by rw[bE (by omega)]at m;simp only[wK]at m;simp only[cst,cj,wt,sgF,lG,nlW,Int.reduceLT,reduceIte];omega⟩
 rw[aa b4];by_cases b5:(ae ns i).k=12
 .rw[ab b5];simp only[b5,bE (by omega),ql]at f;exact⟨[sgF 23],by decide,cf _ 23 (by decide+kernel) (by decide+kernel) (by decide) (by decide+kernel),by rw[f];exact aco (.inr ⟨rfl,rfl⟩),by rw[bE (by omega)]at m;simp only[wK]at m;simp only[cst,cj,wt,sgF,lG,nlW,Int.reduceLT,reduceIte];omega⟩
 rw[aa b5];by_cases bn:(ae ns i).k=13
 .rw[ab bn];simp only[bn]at f;have C:=ca (ag5 u bn);have s:=cf (⟨#[114,101,116,117,114,110]⟩:ByteArray) 27 (by decide+kernel) (by decide+kernel) (by decide) (by decide+kernel);cases er:(ae ns i).ks with
  |nil=>
   rw[er]at f;rw[ab rfl,nh];exact⟨[sgF 27],by decide,s,by rw[f];exact ajx,by rw[er]at m;simp only[wK]at m;simp only[cst,cj,wt,sgF,lG,nlW,Int.reduceLT,reduceIte];omega⟩
  |cons ad v=>
   rw[er]at f C;rw[aa (by simp)];obtain⟨b,K,L,t,bb⟩:=vL v ad C;exact⟨sgF 27::b,az,s.app (yL.app L K rfl) az Bc,by rw[f];exact t.ret,by rw[er]at m;simp only[cst,cj,wt,sgF,lG,nlW,Int.reduceLT,reduceIte];omega⟩
 rw[aa bn];by_cases bf:(ae ns i).k=14
 .rw[ab bf];obtain⟨p,l,x,_⟩:=aa6 u bf;obtain⟨n,r,o,J,_,a2⟩:=D9 u (by omega);obtain⟨ao,ap⟩:=adc r n J;obtain⟨j,a⟩:=y 0 (by omega);obtain⟨z,q⟩:=y 1 (by omega);rw[a.id]at l⊢;rw[q.id]at x⊢;obtain⟨b,K,L,t,bb⟩:=h.blk d (fx a.lt) a.len l;obtain⟨F,bj,a3,a4,bD⟩:=h.blk d (fx q.lt) q.len x;simp only[bf,o,tg p,mz,a.id,q.id]at f;rw[o];have s:iJ pz (⟨#[116,114,121,32]⟩:ByteArray) [sgF 30]:=lit [30,0];have c6:iJ pz (⟨#[32,99,97,116,99,104,32]⟩:ByteArray) [sgF 12]:=lit [0,12,0];refine⟨sgF 30::(b++(sgF 12::(Kh (n::r)++F))),az (az (az (az az))),?_,by rw[f];exact t.try_ a4 (a2 bf),by have:=(ar o).2;rw[tg p,a.id,q.id]at m;simp only[wK]at m;simp only[cst,cj,wt,sgF,lG,nlW,Int.reduceLT,reduceIte];omega⟩;have:=(((((s.app L K rfl).app c6).app ao ap rfl).app yL).app a3 bj rfl).tt (g:=ng);exact this.as
 rw[aa bf];by_cases bo:(ae ns i).k=15
 .rw[ab bo];obtain⟨p,l⟩:=D3 u bo;obtain⟨j,a⟩:=y 0 (by omega);rw[a.id]at l⊢;obtain⟨b,c,t⟩:=a5 j a l;simp only[bo,lI p,kI,a.id]at f;have s:iJ pz (⟨#[116,104,114,111,119,32]⟩:ByteArray) [sgF 28]:=lit [28,0];exact⟨sgF 28::b,az,s.app c.rd c.pos rfl,by rw[f];exact t.throw,by have:=c.cs;rw[lI p,a.id]at m;simp only[wK]at m;simp only[cst,cj,wt,sgF,lG,nlW,Int.reduceLT,reduceIte];omega⟩
 rw[aa bo];have ck:(ae ns i).k=16:=by omega
 rw[ab ck];obtain⟨p,l⟩:=F7 u (by omega);obtain⟨j,a⟩:=y 0 (by omega);rw[a.id]at l⊢;obtain⟨b,c,_⟩:=a5 j a (by rw[l];decide);obtain⟨b3,au⟩:=c.ba (by rw[l];decide);rw[l]at au;simp only[ck,lI p,kI,a.id]at f;have s:iJ pz (⟨#[100,101,102,101,114,32]⟩:ByteArray) [sgF 14]:=lit [14,0];exact⟨sgF 14::b,az,s.app c.rd c.pos rfl,by rw[f];exact au.defer,by have:=c.cs;rw[lI p,a.id]at m;simp only[wK]at m;simp only[cst,cj,wt,sgF,lG,nlW,Int.reduceLT,reduceIte];omega⟩
end
def Le(n l Bs b p:Nat)(a:Option Addr)(f:Nat->B2)(K:b<=3000)(I:b<=p)(c:Nat->B1->Prop)(o:B1->Prop)
  (r:∀m W,c m W->W.cell? ⟨Bs,0,O⟩=M (B0 a b p))
  (z:∀m W,c m W->∀j,j<b->∃i,a=M i/\W.cell? (i.add j)=M (f j))
  (y:∀m W,m<b->c (m+1) W->YieldAt Fence.wide (n-1) B3 l #[B6 B4 (m:Int),f m] W λe g=>(e= .returned (E2 A3)/\c m g)\/(e= .returned (E2 A5)/\o g))
  (W:B1) (q:c b W):
  CallsIn Fence.wide n B3 200 #[.func (.yield l) #[] #[],A0 (M ⟨Bs,0,O⟩)] W λe g=>(∃v,e= .returned v)/\(c 0 g\/o g):=by
 have G:=r _ _ q;refine callsIn_of_wp Tryz.func200 rfl trivial ?_ rfl;simp only[Tryz.ntmps200,ir,bm,ej,Nat.reduceAdd,Nat.reduceSub,jb,jp,jq,pc,eu,ez]
 gi_wp2
 gi_loopw [3] (λk wr=>∃d:Nat,d<=b/\k= B6 B4 ((d:Int)-1)/\c d wr) (λk _=>(Ex k+1).toNat)
 case atStart=>exact⟨b,ag _,rfl,q⟩
 case round=>
  obtain⟨d,J,rfl,h⟩:=hrel;have F:=r _ _ h;rcases pi d with rfl|hp
  .gi_wp2
   go_end0
   exact⟨⟨_,rfl⟩,.inl h⟩
  .obtain⟨m,rfl⟩:∃m,d=m+1:=⟨d-1,by omega⟩;obtain⟨i,rfl,H⟩:=z _ _ h m (by omega);obtain⟨E,tmps,B,C,L,x⟩:=y m wr (by omega) h;have s:((m+1:Nat):Int)-1=(m:Int):=by omega
   rw[s];have ad:(m:Int)<(b:Int):=by omega
   have af:(0:Int)<=(m:Int):=by omega
   gi_wp2
   refine⟨λt=>by simp[Fence.wide]at t,x.mono ?_⟩;rintro e A (⟨rfl,u⟩|⟨rfl,w⟩)
   .gi_wp2
    go_roundw
    case rel=>exact⟨m,by omega,by simp,u⟩
    case measure=>simp[Ex]
   .gi_wp2
    refine aH (jd rfl _ _ _) rfl ?_;exact⟨⟨_,rfl⟩,.inr w⟩
def zg(a:Option Addr)(c b:Nat)(w:B1):
  Calls B3 130 #[B0 a c b] w λe d=>e= .returned (.func (.func 200) #[] #[A0 (M ⟨w.heap.size,0,O⟩)])/\d=w.alloc (.cells #[B0 a c b] 88):=by
 refine calls_of_wp Tryz.func130 rfl ?_;simp only[Tryz.ntmps130,ir,bm,ej,Nat.reduceAdd,Nat.reduceSub,jb,jp,jq,pc,eu,ez];go_wp2;go_ret;exact⟨rfl,rfl⟩
attribute [local go_sem] lu
def adg:Option Nat->B2
 |some i=> F0 #[B6 B4 (i:Int),E2 A3]
 |none=> F0 #[B6 B4 0,E2 A5]
structure Er (w:B1) (B:Nat) (vs:B2) (n:Nat) (D:List Int) (W:B1):Prop where
 bl:Ce w.heap.size w W
 row:W.ownsRow w.heap.size 3 1 (.slice (M ⟨w.heap.size,0,O⟩) n n) n (D.map (C2 .i64))
 bx:W.heap[B]?=M (.cells #[.slice (M ⟨w.heap.size,0,O⟩) n n] 60 (0,0))
 bs:W.heap[B+1]?=M (.cells #[vs] 88 (0,0))
 ok:aej n D
def Er.put{a:B2}{D:List Int}(h:Er w B a n D W)(d:w.heap.size<B)(e:B+1<k)(c:W.heap[k]?=M (.loop r))(o:Obj):Er w B a n D (W.putObj k o):=
 ⟨h.bl.grown (B5 W k o) h.bl.size (λf b=>by cases b;omega),ownsRow_putObj h.row o c rfl,(U (by omega)).trans h.bx,(U (by omega)).trans h.bs,h.ok⟩
structure aog (w:B1) (B:Nat) (vs:B2) (n t:Nat) (ks D:List Int) (j:Nat) (E:List Int) (W0 W:B1):Prop where
 st:Er w B vs n E W
 rest:LB t (ks.drop j) E=LB t ks D
 kf:KeepsFrom (B+2) W0 W
def Al{base e size:Nat}{v:B2}{xs:List B2}(h:W.ownsRow base e size v n xs):∃a b,v= B0 a n b:=by
 rcases h.2 with⟨rfl,c⟩|⟨f,b,d,rfl,_⟩
 .exact⟨O,0,by rw[c]⟩
 .exact⟨_,_,rfl⟩
def Lg{base e size m:Nat}{a:Option Addr}{xs:List B2}(h:W.ownsRow base e size (B0 a n c) m xs):n=m:=by
 obtain⟨b,d,e⟩:=Al h;cases e;rfl
def mH.at{base g:Nat}(h:mH W base (B0 (M ⟨g,0,O⟩) n c) L){x:Im}(a:L[i]?=M x):W.cell? ⟨g,i,O⟩=M (F1 (po (fC x.N.k)) (A0 (M ⟨x.b,0,O⟩))):=by
 have e:i<L.length:=(List.getElem?_eq_some_iff.1 a).1;have d:=Lg h.row;subst d;rw[h.row.cellAt i (by omega),cH,a];rfl
def mH.kidAt{base:Nat}{p:B2}(h:mH W base p L){x:Im}(d:L[i]?=M x){g:Nat}(o:x.kv= B0 (M ⟨g,0,O⟩) n c){z:Int}(e:x.N.ks[j]?=M z):
  ∃q f,z=((q:Nat):Int)/\q<i/\L[q]?=M f/\W.cell? ⟨g,j,O⟩=M (F1 (po (fC f.N.k)) (A0 (M ⟨f.b,0,O⟩))):=by
 obtain⟨z0,t⟩:=h.rng i x z d (dz e);obtain⟨q,rfl⟩:=iw z0;have r:i<L.length:=(List.getElem?_eq_some_iff.1 d).1;have s:j<x.N.ks.length:=(List.getElem?_eq_some_iff.1 e).1;have l:q<i:=by omega
 refine⟨q,L[q]'(by omega),rfl,l,aA _,?_⟩;have a:=h.kid i x d;rw[o]at a;have m:=Lg a;subst m;rw[a.cellAt j (by omega)];unfold qm;rw[cH,e];simp only[uL,lA];rw[mJ,ab l,aA (by omega)];rfl
def Fe(w:B1)(base:Nat)(bA:B2)(L:List Im)(ax:mH w base bA L)(ns:List Nd)(cd:L.map Im.N=ns)(n:Nat)(bf:L.length=n)(eg:1<=n)(r:n<=3000)(cc:∀x∈L,x.N.ks.length<=200):
  Calls B3 70 #[bA] w λe o=>e= .returned (adg (ic (jv (Ev ns)) n 0))/\Ce w.heap.size w o:=by
 obtain⟨f,j,rfl⟩:∃f b0,bA= .slice (M ⟨f,0,O⟩) n b0:=by
  rcases bB ax.row with⟨h,_⟩|h
  .omega
  .rw[<-bf];exact h
 have c8:n<=j:=by
  rcases ax.row.2 with⟨r,_⟩|⟨ef,d8,ea,r,_,_,eh,_⟩
  .cases r
  .cases r;omega
 obtain⟨d1,dc,ds,dx,d0⟩:=eD vA;obtain⟨ba,bh⟩:=aF (ic (jv (Ev ns)) n 0);rw[bh];have q:=aeK ax cd bf bh cc;clear ax cd bf bh cc;refine mq (n:=5).1 ?_;refine callsIn_of_wp_marks Tryz.func70 rfl trivial ?_ rfl;simp only[Tryz.ntmps70,ir,bm,ej,Nat.reduceAdd,Nat.reduceSub,jb,jp,jq,pc,eu,ez];refine wpIn_wide.2 ?_;go_wp2_with (first|(at_make;refine Bw _ rfl _ _ 60 rfl w.heap.size 3 d1 (.int .i64 0) 1 Tryz.underlying60 dc ds dx .i64 .i64 _ _ n rfl rfl rfl rfl (by rw[d0];omega) (by unfold maxLen;omega) (ag _) ?_;intro E a5 H)|(go_at_call 130;refine(zg (M ⟨f,0,O⟩) n j _).mono ?_;rintro e eL ⟨rfl,rfl⟩));rename_i d5 b5;have b7:Ce w.heap.size w E:=⟨H.os,H.tape,H.output,H.size,λg df=>H.block g df (by simp)⟩;rw[show(madeCells (C2 .i64 0).cells (n*1)).toList=B7 n (C2 .i64 0) by rw[sn];exact Bl _ n]at a5;have br:w.heap.size<E.heap.size:=(a5.lt w.heap.size rfl).2;obtain⟨c,au⟩:=aF E.heap.size;have I:Er w c (.slice (M ⟨f,0,O⟩) n j) n (B7 n 0) ((E.alloc (.cells #[.slice (M ⟨w.heap.size,0,O⟩) n n] 60)).alloc (.cells #[.slice (M ⟨f,0,O⟩) n j] 88)):=by
  refine⟨(b7.alloc (by omega) _).alloc (by simp;omega) _,?_,?_,?_,?_⟩
  .rw[List.map_replicate];exact(a5.alloc _).alloc _
  .exact(dG _ _ _ (by simp;omega)).trans (by rw[<-au];exact aB E _)
  .have:=aB (E.alloc (.cells #[.slice (M ⟨w.heap.size,0,O⟩) n n] 60)) (.cells #[.slice (M ⟨f,0,O⟩) n j] 88);rw[de,au]at this;exact this
  .refine⟨by simp,λs ap a2=>?_⟩;obtain⟨r,c1⟩:=List.getElem?_eq_some_iff.1 a2;simp at r c1;omega
 have J:((E.alloc (.cells #[.slice (M ⟨w.heap.size,0,O⟩) n n] 60)).alloc (.cells #[.slice (M ⟨f,0,O⟩) n j] 88)).heap.size=c+2:=by simp;omega
 rw[au]at br⊢;generalize (E.alloc (.cells #[.slice (M ⟨w.heap.size,0,O⟩) n n] 60)).alloc (.cells #[.slice (M ⟨f,0,O⟩) n j] 88)=d7 at I J⊢;clear a5 H b7 au;refine(so (n:=5)).1 ?_;refine vE (P:=B3) (gf:=200) (lb:=#[.pointer (M ⟨c+1,0,O⟩)]) rfl (enters_of Tryz.func200 (by kernel_rfl) rfl)
  (λa=>#[.int .i64 (a:Int),match L[a]? with|some x=> .iface (po (fC x.N.k)) (.pointer (M ⟨x.b,0,O⟩))|none=> .nilIface]) (λ_=>rfl) n
  (λa b=>∃D,Er w c (.slice (M ⟨f,0,O⟩) n j) n D b/\dpN ns a D=Ev ns)
  (λa K b=>(∃D,Er w c (.slice (M ⟨f,0,O⟩) n j) n D b/\dpN ns (a+1) D=Ev ns)/\∃x,L[a]?=M x/\
   K={tmps:=#[.slice (M ⟨f,0,O⟩) n j,Q,.int .i64 0,.bool A5,.pointer (M ⟨c,0,O⟩),.int .i64 (a:Int),.iface (po (fC x.N.k)) (.pointer (M ⟨x.b,0,O⟩)),Q,Q,Q,Q,
    .slice (M ⟨f,0,O⟩) n j,.int .i64 (n:Int),.slice (M ⟨w.heap.size,0,O⟩) n n,.slice (M ⟨f,0,O⟩) n j,.func (.func 200) #[] #[.pointer (M ⟨c+1,0,O⟩)],.int .i64 (a:Int),.iface (po (fC x.N.k)) (.pointer (M ⟨x.b,0,O⟩)),
    Q,Q,Q,Q,Q,Q,Q,Q,Q,Q,Q,Q,Q,Q,Q,Q,Q,Q,Q,Q,Q,Q,Q,Q,Q,Q,Q,Q,Q,Q,Q,Q,Q,Q],defers:=[]})
  (λ_=>False)
  ?pZ ?pAx ?pX ?h0 ?assign ?body ?seq ?done ?ret
 case pZ=>
  rintro a b cr a7 ⟨D,h,m⟩ ak;rw[J]at ak⊢;exact⟨D,h.put br (by omega) ak a7,m⟩
 case pAx=>
  rintro a K b cr a7 ⟨⟨D,h,m⟩,x,p,rfl⟩ ak;rw[J]at ak⊢;exact⟨⟨D,h.put br (by omega) ak a7,m⟩,x,p,rfl⟩
 case pX=>intro b cr a7 h;exact h.elim
 case h0=>
  intro cB a0 ex;have c7:Ce w.heap.size w cB:=I.bl.trans (a0.mono (by omega));exact⟨B7 n 0,⟨c7,cJ I.row a0,(a0.block _ (by omega)).trans I.bx,(a0.block _ (by omega)).trans I.bs,I.ok⟩,by rw[Ev,<-q.out.2.1,bi,q.out.2.2.1]⟩
 case assign=>
  rintro a6 a b d6 a3 ⟨D,h,m⟩ b6;obtain⟨x,p⟩:=cA q.2.2.1 a3;rw[p]at⊢;have d4:=λK=>b6 K b;have i:=kJ h m p;clear h m p
  gi_wp2
  exact b6 _ _ ⟨⟨D,i.1,i.2.1⟩,x,i.2.2,rfl⟩ (KeepsFrom.refl _ _)
 case body=>
  rintro a6 a K b a3 ⟨⟨D,h,m⟩,x,p,rfl⟩;rw[J];have bj:=ah h.bl (q.1.box a x p).cells.2.2.2.2.1;have af:=q.1.kid a x p;obtain⟨cF,ec,B⟩:=Al af;rw[B]at bj;have dg:=q.2.2.2.2 x (dz p);obtain⟨an,bo⟩:=aF x.N.ks.length;rw[bo]at bj dg B;have cf:ns[a]?=M x.N:=by rw[<-q.out.2.1,cH,p];rfl
  have b8:dpN ns a (LB a x.N.ks D)=Ev ns:=by
   rw[dpN,aK,cf,iu]at m;exact m
  have i:=Cn p b8 bo B;have bE:Fs (aog w c (.slice (M ⟨f,0,O⟩) n j) n a x.N.ks D 0 D b b):=⟨h,rfl,KeepsFrom.refl _ _⟩;have a4:=λw=>rJ x.N.k x.b w;have er:(a:Int)<(n:Int):=by omega
  have eq:(0:Int)<=(a:Int):=by omega
  have cp:=λ(cI:Nat) w=>CallsIn.inRound a6 (mq (n:=2).2 (fJ cI w));generalize po (fC x.N.k)=eF at a4⊢;clear p m b8 af cf bo B h
  gi_wp2_with (refine⟨trivial,?_⟩;gi_at_call 303;refine(cp _ _).mono ?_;rintro e ao ⟨rfl,cl⟩;subst ao)
  gi_loopw [24] (λF d3=>∃(s:Nat) (v:List Int),s<=an/\F= .int .i64 s/\Fs (aog w c (.slice (M ⟨f,0,O⟩) n j) n a x.N.ks D s v b d3)) (λF _=>an-(Ex F).toNat)
  case atStart=>exact⟨0,D,aI _,rfl,bE⟩
  case round=>
   obtain⟨s,v,a2,rfl,l⟩:=hrel;clear bE bj a4;by_cases dd:s<an
   .have em:(s:Int)<(an:Int):=by omega
    have el:(0:Int)<=(s:Int):=by omega
    obtain⟨ap,C⟩:=cA i.2.2.1 dd;have B:=i.2.2.2;obtain⟨gk,da⟩:∃gk,cF=M ⟨gk,0,O⟩:=by
     have af:=q.1.kid a x i.1;rw[B]at af;rcases bB af with⟨h,_⟩|⟨gk,b0,h⟩
     .rw[i.out.2.2.1]at h;omega
     .cases h;exact⟨_,rfl⟩
    subst da;obtain⟨d,u,rfl,dq,bt,c9⟩:=(q.1.below (l.st.bl)).kidAt i.1 B C;have ce:=ah l.st.bl (q.1.box d u bt).cells.2.2.2.1;obtain⟨k,a1⟩:=cA l.st.ok.1 a3;obtain⟨c0,b9⟩:=cA l.st.ok.1 (show d<n by omega);have ek:=l.st.ok.2 a k a1;have G:Er w c (.slice (M ⟨f,0,O⟩) n j) n v wr.drew:=⟨l.st.bl.drew,l.st.row,l.st.bx,l.st.bs,l.st.ok⟩;have al:=G.row;have b1:wr.drew.cell? ⟨w.heap.size,a,O⟩=M (.int .i64 k):=by rw[al.cellAt a (by omega),cH,a1];rfl
    have d9:wr.drew.cell? ⟨w.heap.size,d,O⟩=M (.int .i64 c0):=by rw[al.cellAt d (by omega),cH,b9];rfl
    have ee:=al.frozenAt d;have bn:v.getD a 0=k:=by rw[aK,a1];rfl
    have bv:=(al.stored d (.int .i64 (k+1))).1;rw[<-List.map_set]at bv;have bw:=l.st.ok.set a d a3 dq;rw[bn]at bw;have ck:LB a (x.N.ks.drop (s+1)) (v.set d (k+1))=LB a x.N.ks D:=by
     have r:=l.rest;have ca:=(List.getElem?_eq_some_iff.1 C);rw[lp ca.1,ca.2,LB,bn]at r;exact r
    have bb:wr.drew.cell? ⟨c,0,O⟩=_:=dI G.bx;have cs:Er w c (.slice (M ⟨f,0,O⟩) n j) n (v.set d (k+1)) (wr.drew.setCell ⟨w.heap.size,d,O⟩ (.int .i64 (k+1))):=
     ⟨G.bl.setCell (ag _) _,bv,(aC _ _ _ _ (by simp;omega)).trans G.bx,(aC _ _ _ _ (by simp;omega)).trans G.bs,bw⟩
    have cu:Fs (aog w c (.slice (M ⟨f,0,O⟩) n j) n a x.N.ks D (s+1) (v.set d (k+1)) b (wr.drew.setCell ⟨w.heap.size,d,O⟩ (.int .i64 (k+1)))):=⟨cs,ck,l.kf.trans (((KeepsOthers.drew wr).from _).trans ((Z _ _ _).from _))⟩;have es:d≠a:=by omega
    have ey:IntKind.i64.wrap (k+1)=k+1:=by rw[dt];omega
    have eA:=aj (q.1.box d u bt);have c3:(wr.drew.setCell ⟨w.heap.size,d,O⟩ (.int .i64 (k+1))).cell? ⟨c,0,O⟩=M (.slice (M ⟨w.heap.size,0,O⟩) n n)/\(wr.drew.setCell ⟨w.heap.size,d,O⟩ (.int .i64 (k+1))).cell? ⟨u.b,4,O⟩=M (.int .i64 (d:Int))/\(wr.drew.setCell ⟨w.heap.size,d,O⟩ (.int .i64 (k+1))).cell? ⟨w.heap.size,a,O⟩=M (.int .i64 k):=
     ⟨(World.cell?_setCell_far _ _ _ _ (by simp;omega)).trans bb,(World.cell?_setCell_far _ _ _ _ (by simp;omega)).trans ce,(World.cell?_setCell_other _ _ _ _ (by simp;try omega)).trans b1⟩
    have ew:(d:Int)<(n:Int):=by omega
    have ev:(0:Int)<=(d:Int):=by omega
    have a4:=λw=>rJ u.N.k u.b w;generalize po (fC u.N.k)=d2 at a4 c9;clear C l bv bw ck cs al a1 b9 bn B bt G
    gi_wp2_with (refine⟨trivial,?_⟩;gi_at_call 303;refine(cp _ _).mono ?_;rintro e ao ⟨rfl,cl⟩;subst ao)
    have c2:wr.drew.cell? ⟨c,0,O⟩=M (.slice (M ⟨w.heap.size,0,O⟩) n n)/\wr.drew.cell? ⟨u.b,4,O⟩=M (.int .i64 (d:Int))/\wr.drew.cell? ⟨w.heap.size,a,O⟩=M (.int .i64 k):=⟨bb,ce,b1⟩;refine sG (S:=λo=>o.cell? ⟨c,0,O⟩=M (.slice (M ⟨w.heap.size,0,O⟩) n n)/\o.cell? ⟨u.b,4,O⟩=M (.int .i64 (d:Int))/\o.cell? ⟨w.heap.size,a,O⟩=M (.int .i64 k)) (by kernel_rfl) (by kernel_rfl) (λ⟨_,_,h⟩=>h) c2 (λhS=>?_);refine dF 0 (.slice (M ⟨w.heap.size,0,O⟩) n n) rfl rfl (by kernel_rfl) (λ_ _ _=>id) hS (λo ⟨y,z,A⟩=>by go_simp) ?_;simp only[T];refine dF 1 (.iface d2 (.pointer (M ⟨u.b,0,O⟩))) rfl rfl (by kernel_rfl) (λ_ _ _=>id) hS (λo ⟨y,z,A⟩=>by go_simp) ?_;simp only[T];refine dF 6 (.slice (M ⟨w.heap.size,0,O⟩) n n) rfl rfl (by kernel_rfl) (λ_ _ _=>id) hS (λo ⟨y,z,A⟩=>by go_simp) ?_;simp only[T];refine dF 7 (.int .i64 (a:Int)) rfl rfl (by kernel_rfl) (λ_ _ _=>id) hS (λo ⟨y,z,A⟩=>by go_simp) ?_;simp only[T];refine dF 8 (.pointer (M ⟨w.heap.size,a,O⟩)) rfl rfl (by kernel_rfl) (λ_ _ _=>id) hS (λo ⟨y,z,A⟩=>by go_simp) ?_;simp only[T];refine dF 9 (.int .i64 k) rfl rfl (by kernel_rfl) (λ_ _ _=>id) hS (λo ⟨y,z,A⟩=>by go_simp) ?_;simp only[T];refine dF 10 (.int .i64 (k+1)) rfl rfl (by kernel_rfl) (λ_ _ _=>id) hS (λo ⟨y,z,A⟩=>by go_simp) ?_;simp only[T];refine A2 (rs:=[2]) (by kernel_rfl) (by simp) (Y rfl (λa9 ad=>?_) Ax);go_simp;refine du (fJ _ _) λao cl=>?_;subst ao;refine ad _ _ hS (λhS=>?_);clear ad a9;try simp only[Act.put,cm,co,cC]
    refine dF 3 (.pointer (M ⟨u.b,0,O⟩)) rfl rfl (by kernel_rfl) (λ_ _ _=>id) hS (λo ⟨y,z,A⟩=>by go_simp) ?_;simp only[T];refine dF 4 (.pointer (M ⟨u.b,4,O⟩)) rfl rfl (by kernel_rfl) (λ_ _ _=>id) hS (λo ⟨y,z,A⟩=>by go_simp) ?_;simp only[T];refine dF 5 (.int .i64 (d:Int)) rfl rfl (by kernel_rfl) (λ_ _ _=>id) hS (λo ⟨y,z,A⟩=>by go_simp) ?_;simp only[T];refine dF 11 (.pointer (M ⟨w.heap.size,d,O⟩)) rfl rfl (by kernel_rfl) (λ_ _ _=>id) hS (λo ⟨y,z,A⟩=>by go_simp) ?_;simp only[T];refine A2 (rs:=[12]) (by kernel_rfl) (by simp) (Y rfl (λa9 ad=>?_) Ax);go_simp;refine ad _ _ c3 (λhS=>?_);clear ad a9;refine wpAnyH_done (by kernel_rfl) ?_ _
    gi_wp2
    exact⟨⟨s+1,_,by omega,by go_num,cu⟩,by simp[Ex];omega⟩
   .obtain rfl:s=an:=by omega
    have bk:Fs (Er w c (.slice (M ⟨f,0,O⟩) n j) n v wr/\dpN ns a v=Ev ns/\KeepsFrom (c+2) b wr):=by
     refine⟨l.st,?_,l.kf⟩;have r:=l.rest;rw[lr (by rw[i.out.2.2.1];exact ag _),LB]at r;rw[r];exact i.2.1
    clear l
    gi_wp2
    exact⟨bk.2.2,v,bk.1,bk.2.1⟩
 case seq=>
  intro a6 cx cy b4 c6 b c4;refine Le 4 a6 (c+1) n j (M ⟨f,0,O⟩) _ r c8 cx cy (λa b h=>?_) (λa b h s a2=>?_) c6 b c4
  .obtain⟨D,m,_⟩:=b4 a b h;exact dI m.bs
  .obtain⟨D,m,_⟩:=b4 a b h;obtain⟨x,p⟩:=cA q.2.2.1 a2;refine⟨_,rfl,?_⟩;rw[uC,p];exact ah m.bl (q.1.at p)
 case ret=>intro b h;exact h.elim
 case done=>
  rintro b ⟨D,h,m⟩ b2;have b3:D=Ev ns:=m;refine b5 _ _ ?_;have bb:=dI h.bx;have i:Fs (Er w c (.slice (M ⟨f,0,O⟩) n j) n D b/\b.heap[c+2]?=M (.deferred (M []))):=⟨h,by rw[<-J];exact b2⟩;have bD:xo (jv D) (n-0) 0 ba:=⟨by rw[b3];exact q.2.2.2.1⟩;have ei:w.heap.size<c+2:=by omega
  rw[J];clear h m b2 b3 b5;go_wp2_with fail;go_loop [43] (λF=>∃g:Nat,g<=n/\F= .int .i64 g/\xo (jv D) (n-g) g ba) (λF=>n-(Ex F).toNat)
  case atStart=>exact⟨0,aI _,rfl,bD⟩
  case round=>
   obtain⟨g,eo,rfl,ar⟩:=hrel;clear bD;have t:=ar.out;by_cases dn:g<n
   .have ep:(g:Int)<(n:Int):=by omega
    have en:(0:Int)<=(g:Int):=by omega
    obtain⟨ap,C⟩:=cA i.1.ok.1 dn;have ed:b.cell? ⟨w.heap.size,g,O⟩=M (.int .i64 ap):=by rw[i.out.1.row.cellAt g (by omega),cH,C];rfl
    rw[show n-g=(n-(g+1))+1 by omega,ic]at t;have bd:jv D g=decide (100<ap):=by unfold jv;rw[aK,C];rfl
    rw[bd]at t;by_cases cn:100<ap
    .rw[ab (bp cn)]at t;have a8:=aq t.symm;clear t bd C ar;go_wp2_with fail;refine⟨by simp,.inl ⟨_,_,rfl,run_takeDeferred i.2,?_⟩⟩;refine⟨_,results_tmp2 rfl _ _ _,by rw[a8.out];rfl,?_⟩;exact i.1.bl.grown (B5 b (c+2) (.deferred O)) i.1.bl.size (λg e=>by cases e;omega)
    .rw[aa (by simpa using cn)]at t;have cw:xo (jv D) (n-(g+1)) (g+1) ba:=⟨t⟩;clear t bd C ar;go_wp2_with fail;go_round
     case rel=>exact⟨g+1,by omega,by go_num,cw⟩
     case measure=>simp[Ex];omega
   .obtain rfl:g=n:=by omega
    rw[fG,ic]at t;have a8:=aq t.symm;clear t ar;go_wp2_with fail;refine⟨by simp,.inl ⟨_,_,rfl,run_takeDeferred i.2,?_⟩⟩;refine⟨_,results_tmp2 rfl _ _ _,by rw[a8.out];rfl,?_⟩;exact i.1.bl.grown (B5 b (c+2) (.deferred O)) i.1.bl.size (λg e=>by cases e;omega)
attribute [local go_sem] lu
def IE(S:List Int)(n:Nat):Option Nat->B2
 |some i=> F0 #[B6 B4 (i:Int),E2 A3]
 |none=> F0 #[B6 B4 ((n:Int)-1),E2 (decide (S.getD (n-1) 0<(n:Int)))]
structure Bg (w:B1) (B n:Nat) (S:List Int) (c:List Nat) (W:B1):Prop where
 bl:Ce w.heap.size w W
 r0:W.heap[w.heap.size]?=M (.cells #[.int .i64 0] 3 (0,0))
 r1:W.heap[w.heap.size+1]?=M (.cells #[.bool A5] 4 (0,0))
 row:W.ownsRow w.heap.size 3 1 (.slice (M ⟨w.heap.size+1+1,0,O⟩) n n) n (S.map (C2 .i64)++B7 (n-S.length) (.int .i64 0))
 bx:W.heap[B]?=M (.cells #[.slice (M ⟨w.heap.size+1+1,0,O⟩) n n] 60 (0,0))
 mks:tw (w.heap.size+1+1+1) c W
def Bg.below{c:List Nat}{b:B1}(h:Bg w B n S c W)(a:Ce W.heap.size W b):Bg w B n S c b:=
 ⟨h.bl.trans (a.mono h.bl.size),(a.block _ (aj h.r0)).trans h.r0,(a.block _ (aj h.r1)).trans h.r1,cJ h.row a,(a.block _ (aj h.bx)).trans h.bx,h.mks.below a⟩
def Bg.put{c:List Nat}(h:Bg w B n S c W)(f:w.heap.size+1<B)(g:B<k)(b:W.heap[k]?=M (.loop r))(o:Obj):Bg w B n S c (W.putObj k o):=
 ⟨h.bl.grown (B5 W k o) h.bl.size (λi e=>by cases e;omega),(U (by omega)).trans h.r0,(U (by omega)).trans h.r1,ownsRow_putObj h.row o b rfl,(U (by omega)).trans h.bx,
  ⟨h.mks.nd,h.mks.lo,λa d=>(U (by rintro rfl;have:=(h.mks.at_ a d).symm.trans b;cases this)).trans (h.mks.at_ a d)⟩⟩
structure IF (w:B1) (B n:Nat) (S:List Int) (c:List Nat) (sz k:Nat) (kv:B2) (a:Int) (W:B1):Prop where
 oo:Bg w B n S c W
 b5:W.heap[sz]?=M (.cells #[.int .i64 (k:Int)] 3 (0,0))
 b7:W.heap[sz+1]?=M (.cells #[.int .i64 (a-1)] 3 (0,0))
 b8:W.heap[sz+1+1]?=M (.cells #[kv] 88 (0,0))
def IF.put{c:List Nat}{b:Nat}{d:B2}{a:Int}(h:IF w B n S c b k d a W)(e:w.heap.size+1<B)(i:B<b)(g:b+1+1<j)(f:W.heap[j]?=M (.loop r))(o:Obj):IF w B n S c b k d a (W.putObj j o):=
 ⟨h.oo.put e (by omega) f o,(U (by omega)).trans h.b5,(U (by omega)).trans h.b7,(U (by omega)).trans h.b8⟩
def wH{c:Func}{p q:Tmp}{t u:TypeId}(h:c.results=#[.cell p t,.cell q u])(tmps:Array B2)(P:Program)(w:B1)(a b:Addr)(v d:B2)(g:tmps.getD p Q= A0 (M a))(j:tmps.getD q Q= A0 (M b))
  (e:(loadVar t a).run P w= .ok v w) (f:(loadVar u b).run P w= .ok d w):(results c tmps).run P w= .ok (F0 #[v,d]) w:=by
 have i:tmps[p]?.getD Q= A0 (M a):=by simpa using g
 have k:tmps[q]?.getD Q= A0 (M b):=by simpa using j
 simp only[results,h];simp[Sem.run_bind,Result.andThen,i,k,asAddr,e,f]
def Lh(w:B1)(a:Addr)(z:Int)(h:w.cell? a=M (B6 B4 z)):(loadVar 3 a).run B3 w= .ok (B6 B4 z) w:=by go_simp
def Ge(w:B1)(a:Addr)(z:Bool)(h:w.cell? a=M (E2 z)):(loadVar 4 a).run B3 w= .ok (E2 z) w:=by go_simp
def akD(a b:List Nd):∃t,il (a++b)=il a++t:=by
 refine yk (p:=λb=>∃t,il (a++b)=il a++t) ⟨[],by simp⟩ (λd e ⟨t,c⟩=>?_) b;rw[<-cg,sw,c];exact⟨t++[_],cg _ _ _⟩
def Li{ns:List Nd}(h:ns[k]?=M N):il (ns.take (k+1))=il (ns.take k)++[qa (il (ns.take k)) k N.ks]:=by
 have a:k<ns.length:=(List.getElem?_eq_some_iff.1 h).1;rw[ie,h];show il (ns.take k++[N])=_;rw[sw,kG,gC,vv (by omega)]
def aoh{ns:List Nd}(h:ns[k]?=M N):(il ns).getD k 0=qa (il (ns.take k)) k N.ks:=by
 have c:k<ns.length:=(List.getElem?_eq_some_iff.1 h).1;obtain⟨d,a⟩:=akD (ns.take (k+1)) (ns.drop (k+1));rw[uH,Li h]at a;have b:(il (ns.take k)).length=k:=by rw[kG,gC,vv (by omega)]
 rw[a,aK,cg,gh (by omega),b];simp
def aik(L:List Im)(ks:List Int)(m:Nat):B2:=match ks[m]? with
 |some c=>(match L[c.toNat]? with|some a=> F1 (po (fC a.N.k)) (A0 (M ⟨a.b,0,O⟩))|none=> G0)
 |none=> G0
def adh{ks:List Int}{m q:Nat}{a:Im}(c:ks[m]?=M (q:Int))(d:L[q]?=M a):aik L ks m= F1 (po (fC a.N.k)) (A0 (M ⟨a.b,0,O⟩)):=by
 unfold aik;rw[c];simp[d]
structure aoi (w:B1) (c:List Nat) (k:Nat) (W:B1):Prop where
 bl:Ce w.heap.size w W
 r0:W.heap[w.heap.size]?=M (.cells #[.int .i64 (k:Int)] 3 (0,0))
 r1:W.heap[w.heap.size+1]?=M (.cells #[.bool A3] 4 (0,0))
 mks:tw (w.heap.size+1+1+1) c W
def Et(w:B1)(base:Nat)(c4:B2)(L:List Im)(a4:mH w base c4 L)(ns:List Nd)(d7:L.map Im.N=ns)(n:Nat)(b1:L.length=n)(g9:1<=n)(y:n<=3000)(d4:∀x∈L,x.N.ks.length<=200):
  Calls B3 69 #[c4] w λe p=>e= .returned (IE (il ns) n (ic (fL (il ns)) n 0))/\Ce w.heap.size w p:=by
 obtain⟨ak,ar,rfl⟩:∃ak k,c4= .slice (M ⟨ak,0,O⟩) n k:=by
  rcases bB a4.row with⟨h,_⟩|h
  .omega
  .rw[<-b1];exact h
 have he:n<=ar:=by
  rcases a4.row.2 with⟨y,_⟩|⟨fm,e4,e6,y,_,_,fn,_⟩
  .cases y
  .cases y;omega
 obtain⟨ge,ca,f9,gb,gd⟩:=eD vA;obtain⟨a7,b2⟩:=aF (ic (fL (il ns)) n 0);rw[b2];have i:=aeK a4 d7 b1 b2 d4;clear a4 d7 b1 b2 d4;refine mq (n:=5).1 ?_;refine callsIn_of_wp_marks Tryz.func69 rfl trivial ?_ rfl;simp only[Tryz.ntmps69,ir,bm,ej,Nat.reduceAdd,Nat.reduceSub,jb,jp,jq,pc,eu,ez];refine wpIn_wide.2 ?_;go_wp2_with (at_make;refine Bw _ rfl _ _ 60 rfl w.heap.size 3 ge (.int .i64 0) 1 Tryz.underlying60 ca f9 gb .i64 .i64 _ _ n rfl rfl rfl rfl (by rw[gd];omega) (by unfold maxLen;omega) (by simp;omega) ?_;intro ap bd a5);rename_i gs fq;have a8:Ce ((w.alloc (.cells #[.int .i64 0] 3)).alloc (.cells #[.bool A5] 4)).heap.size ((w.alloc (.cells #[.int .i64 0] 3)).alloc (.cells #[.bool A5] 4)) ap:=⟨a5.os,a5.tape,a5.output,a5.size,λa d3=>a5.block a d3 (by simp)⟩;rw[show(madeCells (C2 .i64 0).cells (n*1)).toList=B7 n (C2 .i64 0) by rw[sn];exact Bl _ n]at bd;simp only[de]at bd a8;have f6:w.heap.size+1+1<ap.heap.size:=(bd.lt _ rfl).2;have bw:Bg w ap.heap.size n [] [] (ap.alloc (.cells #[.slice (M ⟨w.heap.size+1+1,0,O⟩) n n] 60)):=by
  refine⟨?_,?_,?_,?_,aB ap _,⟨vh,λl hb=>by simp at hb,λl hb=>by simp at hb⟩⟩
  .exact((((ai _ w).alloc (ag _) _).alloc (by simp) _).trans (a8.mono (by omega))).alloc (by omega) _
  .exact(dG _ _ _ (by omega)).trans ((a8.block _ (by omega)).trans ((dG _ _ _ (by simp)).trans (aB w _)))
  .refine(dG _ _ _ (by omega)).trans ((a8.block _ (by omega)).trans ?_);have:=aB (w.alloc (.cells #[.int .i64 0] 3)) (.cells #[.bool A5] 4);rw[de]at this;exact this
  .exact bd.alloc _
 obtain⟨r,dd⟩:=aF ap.heap.size;have df:r<(ap.alloc (.cells #[.slice (M ⟨w.heap.size+1+1,0,O⟩) n n] 60)).heap.size:=by simp;omega
 rw[dd]at bw f6⊢;generalize ap.alloc (.cells #[.slice (M ⟨w.heap.size+1+1,0,O⟩) n n] 60)=e3 at bw df⊢;clear bd a5 a8 dd;have c8:Fs (Bg w r n (il (ns.take 0)) [] e3/\ic (fL (il ns)) (n-0) 0=a7/\∀(H:Nat) q,(il (ns.take 0))[H]?=M q->1<=q):=⟨bw,i.2.2.2.1,λH q h=>by simp[il]at h⟩;clear bw;refine(so (n:=5)).1 (wpIn_loop (λal d=>∃(a:Nat) (k:List Nat),a<=n/\r<d.heap.size/\Fs (Bg w r n (il (ns.take a)) k d/\ic (fL (il ns)) (n-a) a=a7/\∀(H:Nat) q,(il (ns.take a))[H]?=M q->1<=q)/\
  ∃et ev ew ef eg eh ei ek el en eo ep eq er es cu cw cx cy cF cI c0:B2,al={tmps:=#[.slice (M ⟨ak,0,O⟩) n ar,Q,.pointer (M ⟨w.heap.size,0,O⟩),.pointer (M ⟨w.heap.size+1,0,O⟩),.pointer (M ⟨r,0,O⟩),et,ev,ew,Q,Q,Q,.slice (M ⟨ak,0,O⟩) n ar,.int .i64 (n:Int),.slice (M ⟨w.heap.size+1+1,0,O⟩) n n,.slice (M ⟨ak,0,O⟩) n ar,.int .i64 (n:Int),.int .i64 (a:Int),ef,eg,eh,ei,ek,el,en,eo,ep,eq,er,es,Q,Q,Q,Q,Q,Q,Q,Q,Q,Q,Q,Q,Q,Q,Q,Q,cu,cw,cx,cy,cF,cI,c0,Q,Q,Q,Q,Q,Q,Q,Q,Q,Q,Q],defers:=k.map zB}) (λal _=>n-(Ex (al.tmps.getD 16 Q)).toNat) ?start ?round)
 case start=>exact⟨0,[],aI _,df,c8,Q,Q,Q,Q,Q,Q,Q,Q,Q,Q,Q,Q,Q,Q,Q,Q,Q,Q,Q,Q,Q,Q,rfl⟩
 case round=>
  rintro al d ⟨a,k,d3,b0,m,et,ev,ew,ef,eg,eh,ei,ek,el,en,eo,ep,eq,er,es,cu,cw,cx,cy,cF,cI,c0,rfl⟩;clear c8;refine wpIn_wide.2 ?_;by_cases d5:a<n
  .have hf:(a:Int)<(n:Int):=by omega
   have fF:(0:Int)<=(a:Int):=by omega
   obtain⟨x,a1⟩:=cA i.2.2.1 d5;have d1:=ah m.1.bl (i.1.at a1);have b6:=ah m.1.bl (i.1.box a x a1).cells.2.2.2.2.1;have G:=i.1.kid a x a1;obtain⟨v,C,bt⟩:=Al G;have f2:=i.2.2.2.2 x (dz a1);obtain⟨A,cb⟩:=aF x.N.ks.length;rw[bt]at b6;rw[cb]at b6 f2 bt;have s:=kJ a1 bt cb;have bb:=λw=>rJ x.N.k x.b w;have f8:x.b<d.heap.size:=ip (aj (i.1.box a x a1)) m.1.bl.size;generalize po (fC x.N.k)=ct at bb d1;clear a1 G bt cb;go_wp2_with (first|(go_at_call 303;refine(fJ _ _).mono ?_;rintro e bn ⟨rfl,eb⟩;subst bn)|(go_at_call 130;refine(zg v A C _).mono ?_;rintro e gr ⟨rfl,a0⟩;subst gr));rename_i gt dn;obtain⟨S,hS⟩:=aF (il (ns.take a));obtain⟨af,b3⟩:=aF (ua S x.N.ks.reverse (a:Int));rw[hS]at m;obtain⟨g,bh⟩:=aF d.heap.size;have bf:IF w r n S k g a (.slice v A C) (a:Int) (((d.alloc (.cells #[.int .i64 (a:Int)] 3)).alloc (.cells #[.int .i64 ((a:Int)-1)] 3)).alloc (.cells #[.slice v A C] 88)):=by
    refine⟨m.1.below ((((ai _ d).alloc (ag _) _).alloc (by simp) _).alloc (by simp;omega) _),?_,?_,?_⟩
    .exact(dG _ _ _ (by simp;omega)).trans ((dG _ _ _ (by simp;omega)).trans (by rw[<-bh];exact aB d _))
    .refine(dG _ _ _ (by simp;omega)).trans ?_;have:=aB (d.alloc (.cells #[.int .i64 (a:Int)] 3)) (.cells #[.int .i64 ((a:Int)-1)] 3);rw[de,bh]at this;exact this
    .have:=aB ((d.alloc (.cells #[.int .i64 (a:Int)] 3)).alloc (.cells #[.int .i64 ((a:Int)-1)] 3)) (.cells #[.slice v A C] 88);rw[de,de,bh]at this;exact this
   have a2:(((d.alloc (.cells #[.int .i64 (a:Int)] 3)).alloc (.cells #[.int .i64 ((a:Int)-1)] 3)).alloc (.cells #[.slice v A C] 88)).heap.size=g+1+1+1:=by simp;omega
   rw[bh]at b0 f8⊢;generalize ((d.alloc (.cells #[.int .i64 (a:Int)] 3)).alloc (.cells #[.int .i64 ((a:Int)-1)] 3)).alloc (.cells #[.slice v A C] 88)=gv at bf a2⊢;have d0:∀l∈k,l<g:=λl hb=>by rw[<-bh];exact(Array.getElem?_eq_some_iff.1 (m.1.mks.at_ l hb)).1
   have d8:ns[a]?=M x.N:=by rw[<-i.out.2.1,cH,s.out.1];rfl
   have a9:(il ns).getD a 0=qa S a x.N.ks:=by rw[aoh d8,hS]
   clear d1 b6 bb;refine(so (n:=5)).1 ?_;refine vE (P:=B3) (gf:=200) (lb:=#[.pointer (M ⟨g+1+1,0,O⟩)]) rfl (enters_of Tryz.func200 (by kernel_rfl) rfl)
    (λc=>#[.int .i64 (c:Int),aik L x.N.ks c]) (λ_=>rfl) A
    (λc d=>∃b:Int,IF w r n S k g a (.slice v A C) b d/\0<=b/\b<=(a:Int)/\ua S (x.N.ks.take c).reverse b=af)
    (λc al d=>(∃b:Int,IF w r n S k g a (.slice v A C) b d/\0<=b/\b<=(a:Int)/\ua S (x.N.ks.take (c+1)).reverse b=af)/\al={tmps:=#[.slice (M ⟨ak,0,O⟩) n ar,Q,.pointer (M ⟨w.heap.size,0,O⟩),.pointer (M ⟨w.heap.size+1,0,O⟩),.pointer (M ⟨r,0,O⟩),.pointer (M ⟨g,0,O⟩),.iface ct (.pointer (M ⟨x.b,0,O⟩)),.pointer (M ⟨g+1,0,O⟩),Q,aik L x.N.ks c,Q,.slice (M ⟨ak,0,O⟩) n ar,.int .i64 (n:Int),.slice (M ⟨w.heap.size+1+1,0,O⟩) n n,.slice (M ⟨ak,0,O⟩) n ar,.int .i64 (n:Int),.int .i64 (a:Int),.bool A3,.int .i64 (a:Int),.pointer (M ⟨ak,a,O⟩),.iface ct (.pointer (M ⟨x.b,0,O⟩)),.int .i64 (a:Int),.int .i64 ((a:Int)-1),.iface ct (.pointer (M ⟨x.b,0,O⟩)),.pointer (M ⟨x.b,0,O⟩),.pointer (M ⟨x.b,0,O⟩),.pointer (M ⟨x.b,5,O⟩),.slice v A C,.func (.func 200) #[] #[.pointer (M ⟨g+1+1,0,O⟩)],.int .i64 (c:Int),aik L x.N.ks c,Q,Q,Q,Q,Q,Q,Q,Q,Q,Q,Q,Q,Q,Q,cu,cw,cx,cy,cF,cI,c0,Q,Q,Q,Q,Q,Q,Q,Q,Q,Q,Q],defers:=[]})
    (λd=>aoi w k a d/\af=O)
    ?pZ ?pAx ?pX ?h0 ?assign ?body ?seq ?done ?ret
   case pZ=>
    rintro c d ed bk ⟨b,h,ad⟩ an;rw[a2]at an⊢;exact⟨b,h.put (by omega) b0 (by omega) an bk,ad⟩
   case pAx=>
    rintro c al d ed bk ⟨⟨b,h,ad⟩,rfl⟩ an;rw[a2]at an⊢;exact⟨⟨b,h.put (by omega) b0 (by omega) an bk,ad⟩,rfl⟩
   case pX=>
    rintro d ed bk ⟨h,ce⟩ an;rw[a2]at an⊢;exact⟨⟨h.bl.grown (B5 d _ bk) h.bl.size (λH e=>by cases e;omega),(U (by omega)).trans h.r0,(U (by omega)).trans h.r1,
     ⟨h.mks.nd,h.mks.lo,λl t=>(U (by rintro rfl;have:=(h.mks.at_ _ t).symm.trans an;cases this)).trans (h.mks.at_ l t)⟩⟩,ce⟩
   case h0=>
    intro gu hb hp;refine⟨(a:Int),⟨bf.oo.below hb,(hb.block _ (by omega)).trans bf.b5,(hb.block _ (by omega)).trans bf.b7,(hb.block _ (by omega)).trans bf.b8⟩,fF,Int.le_refl _,?_⟩;rw[db (by rw[s.out.2.2];exact ag _)];exact b3
   case assign=>
    rintro cn c d br t ⟨b,h,ad⟩ au;have ex:Fs (∃b:Int,IF w r n S k g a (.slice v A C) b d/\0<=b/\b<=(a:Int)/\ua S (x.N.ks.take (c+1)).reverse b=af):=⟨b,h,ad⟩;clear h ad
    gi_wp2
    exact au _ _ ⟨ex,rfl⟩ (KeepsFrom.refl _ _)
   case seq=>
    intro cn eL e0 dg fv d fu;have f3:A<=C:=by
     have G:=i.1.kid a x s.1;rw[s.out.2.1,s.out.2.2]at G;rcases G.2 with⟨y,dc⟩|⟨fm,e4,e6,y,_,_,fn,_⟩
     .omega
     .cases y;omega
    refine Le 4 cn (g+1+1) A C v _ (by omega) f3 eL e0 (λc d h=>?_) (λc d h H ax=>?_) fv d fu
    .obtain⟨b,ad,_⟩:=dg c d h;exact dI ad.b8
    .obtain⟨b,ad,_⟩:=dg c d h;obtain⟨q,E⟩:=cA s.2.2 ax;obtain⟨gk,a9⟩:∃gk,v=M ⟨gk,0,O⟩:=by
      have G:=i.1.kid a x s.1;rw[s.out.2.1]at G;rcases bB G with⟨h,_⟩|⟨gk,k,h⟩
      .rw[s.out.2.2]at h;omega
      .cases h;exact⟨_,rfl⟩
     obtain⟨f,B,rfl,d9,bj,bs⟩:=i.1.kidAt s.1 (by rw[s.out.2.1,a9]) E;refine⟨_,a9,?_⟩;rw[uC,adh E bj];exact ah ad.oo.bl bs
   case body=>
    rintro cn c al j t ⟨⟨b,h,fz,fA,z⟩,rfl⟩;rw[a2];obtain⟨q,E⟩:=cA s.2.2 t;obtain⟨gk,fB⟩:∃gk,v=M ⟨gk,0,O⟩:=by
     have G:=i.1.kid a x s.1;rw[s.out.2.1]at G;rcases bB G with⟨h,_⟩|⟨gk,k,h⟩
     .rw[s.out.2.2]at h;omega
     .cases h;exact⟨_,rfl⟩
    obtain⟨f,B,rfl,d9,bj,bs⟩:=i.1.kidAt s.1 (by rw[s.out.2.1,fB]) E;rw[adh E bj];have f4:=ah h.oo.bl (i.1.box f B bj).cells.2.2.2.1;have hA:=aj (i.1.box f B bj);have F:S.length=a:=by rw[<-hS,kG,gC,<-i.out.2.1,bi,i.out.2.2.1];omega
    obtain⟨u,a6⟩:=cA F d9;have ht:=m.2.2 f u a6;have hu:u<=(f:Int)+1:=by
     have f5:A4 S:=by
      rw[<-hS];refine xe _ (λN a4 q E=>?_);obtain⟨cl,ca,e⟩:=gG (Bz a4);have ba:(L.map Im.N)[cl]?=M N:=by rw[i.out.2.1,aA ca,e]
      rw[cH]at ba;cases hLi:L[cl]? with
      |none=>rw[hLi]at ba;cases ba
      |some gp=>
       rw[hLi]at ba;obtain rfl:=bc ba;exact(i.1.rng cl gp q hLi E).1
     exact(f5 f u a6).2
    have b9:S.getD f 0=u:=by rw[aK,a6];rfl
    have a0:(if(f:Int)=b-1/\u≠0 then ua S (x.N.ks.take c).reverse (b-u) else O)=af:=by
     rw[ie,E,Gs,List.reverse_append]at z;show _=af;rw[<-z];show _=ua S ((f:Int)::(x.N.ks.take c).reverse) b;rw[ua,lA,b9]
    have c5:=dI h.b5;have bE:=dI h.b7;have c9:=dI h.oo.bx;have ao:=h.oo.row;have e5:j.cell? ⟨w.heap.size+1+1,f,O⟩=M (.int .i64 u):=by
     rw[ao.cellAt f (by omega),iq (by simp;omega),cH,a6];rfl
    have cr:=dI h.oo.r0;have cs:=dI h.oo.r1;have fd:j.frozen? ⟨w.heap.size,0,O⟩=A5:=ch _ _ _ _ _ h.oo.r0;have ff:j.frozen? ⟨w.heap.size+1,0,O⟩=A5:=ch _ _ _ _ _ h.oo.r1;have fg:j.frozen? ⟨g+1,0,O⟩=A5:=ch _ _ _ _ _ h.b7;have bb:=λw=>rJ B.N.k B.b w;have o:j.drew.cell? ⟨g+1,0,O⟩=M (.int .i64 (b-1))/\j.drew.cell? ⟨B.b,4,O⟩=M (.int .i64 (f:Int)):=⟨bE,f4⟩;have c6:=aq h;generalize po (fC B.N.k)=ee at bb⊢;by_cases bv:(f:Int)=b-1
    .rw[ab ⟨bv,by omega⟩]at a0;have bo:=aq a0;clear a0 z E bs h a6 b9 F ao;have fb:b=(f:Int)+1:=by omega
     subst fb;have da:(f:Int)+1-1=(f:Int):=by omega
     rw[da]at bE o;clear bv da;have ho:(f:Int)<(n:Int):=by omega
     have hn:(0:Int)<=(f:Int):=by omega
     gi_wp2
     refine sG (S:=λp=>p.cell? ⟨g+1,0,O⟩=M (.int .i64 (f:Int))/\p.cell? ⟨B.b,4,O⟩=M (.int .i64 (f:Int))) (by kernel_rfl) (by kernel_rfl) (λ⟨_,_,h⟩=>h) o (λo=>?_);refine dF 0 (.iface ee (.pointer (M ⟨B.b,0,O⟩))) rfl rfl (by kernel_rfl) (λ_ _ _=>id) o (λp ⟨I,J⟩=>by go_simp) ?_;simp only[T];refine dF 5 (.int .i64 (f:Int)) rfl rfl (by kernel_rfl) (λ_ _ _=>id) o (λp ⟨I,J⟩=>by go_simp) ?_;simp only[T];refine A2 (rs:=[1]) (by kernel_rfl) (by simp) (Y rfl (λbr au=>?_) Ax);go_simp;refine du (fJ _ _) λbn eb=>?_;subst bn;refine au _ _ o (λo=>?_);clear au br;try simp only[Act.put,cm,co,cC]
     refine dF 2 (.pointer (M ⟨B.b,0,O⟩)) rfl rfl (by kernel_rfl) (λ_ _ _=>id) o (λp ⟨I,J⟩=>by go_simp) ?_;simp only[T];refine dF 3 (.pointer (M ⟨B.b,4,O⟩)) rfl rfl (by kernel_rfl) (λ_ _ _=>id) o (λp ⟨I,J⟩=>by go_simp) ?_;simp only[T];refine dF 4 (.int .i64 (f:Int)) rfl rfl (by kernel_rfl) (λ_ _ _=>id) o (λp ⟨I,J⟩=>by go_simp) ?_;simp only[T];refine dF 6 (.bool A5) rfl rfl (by kernel_rfl) (λ_ _ _=>id) o (λp ⟨I,J⟩=>by go_simp) ?_;simp only[T];refine wpAnyH_done (by kernel_rfl) ?_ _
     gi_wp2
     have hc:j.drew.cell? ⟨g+1,0,O⟩=M (.int .i64 (f:Int))/\j.drew.cell? ⟨w.heap.size+1+1,f,O⟩=M (.int .i64 u)/\j.drew.cell? ⟨r,0,O⟩=M (.slice (M ⟨w.heap.size+1+1,0,O⟩) n n)/\j.drew.frozen? ⟨g+1,0,O⟩=A5:=⟨bE,e5,c9,fg⟩;have hv:IntKind.i64.wrap ((f:Int)-u)=(f:Int)-u:=by rw[dt];omega
     have K:=c6.out;have hg:g+1≠w.heap.size+1+1:=by omega
     have d2:IF w r n S k g a (.slice v A C) ((f:Int)+1-u) (j.setCell ⟨g+1,0,O⟩ (.int .i64 ((f:Int)-u))).drew.drew:=by
      have e9:(f:Int)+1-u-1=(f:Int)-u:=by omega
      refine⟨⟨(K.oo.bl.setCell (by simp;omega) _).drew.drew,(aC _ _ _ _ (by simp;omega)).trans K.oo.r0,(aC _ _ _ _ (by simp;omega)).trans K.oo.r1,?_,(aC _ _ _ _ (by simp;omega)).trans K.oo.bx,(K.oo.mks.keeps (Z _ _ _)).keeps ((KeepsOthers.drew _).trans (KeepsOthers.drew _))⟩,(aC _ _ _ _ (by simp)).trans K.b5,?_,(aC _ _ _ _ (by simp)).trans K.b8⟩
      .exact(show(j.setCell ⟨g+1,0,O⟩ (.int .i64 ((f:Int)-u))).ownsRow _ _ _ _ _ _ from K.oo.row.kept (grownBy_setCell' j (g+1) _) (.inr (by simp[Value.ownBlock];omega)))
      .rw[e9];exact aL _ _ 0 _ _ _ K.b7
     have eF:Fs (afE (g+1+1+1) j (λd=>∃b:Int,IF w r n S k g a (.slice v A C) b d/\0<=b/\b<=(a:Int)/\ua S (x.N.ks.take c).reverse b=af) (λd=>aoi w k a d/\af=O) .normal {tmps:=#[],defers:=[]} (j.setCell ⟨g+1,0,O⟩ (.int .i64 ((f:Int)-u))).drew.drew):=
      ⟨(((Z _ _ _).trans (KeepsOthers.drew _)).trans (KeepsOthers.drew _)).from _,_,d2,by omega,by omega,bo⟩
     clear c6 bo s i m bb o K d2
     gi_region
     all_goals exact eF
    .rw[aa (λe=>bv e.1)]at a0;have bo:=aq a0;have dx:aoi w k a ((j.drew.setCell ⟨w.heap.size,0,O⟩ (.int .i64 (a:Int))).setCell ⟨w.heap.size+1,0,O⟩ (.bool A3)):=
      ⟨((h.oo.bl.drew.setCell (by simp) _).setCell (by simp) _),(aC _ _ _ _ (by simp)).trans (aL _ _ 0 _ _ _ h.oo.r0),aL _ _ 0 _ _ _ ((aC _ _ _ _ (by simp)).trans h.oo.r1),
       ((h.oo.mks.keeps (KeepsOthers.drew j)).keeps (Z _ _ _)).keeps (Z _ _ _)⟩
     have eA:=aq dx;have g6:((f:Int)==b-1)=A5:=by rw[dv];exact bv
     clear a0 z E bs h a6 b9 F ao dx
     gi_wp2
     refine sG (S:=λp=>p.cell? ⟨g+1,0,O⟩=M (.int .i64 (b-1))/\p.cell? ⟨B.b,4,O⟩=M (.int .i64 (f:Int))) (by kernel_rfl) (by kernel_rfl) (λ⟨_,_,h⟩=>h) o (λo=>?_);refine dF 0 (.iface ee (.pointer (M ⟨B.b,0,O⟩))) rfl rfl (by kernel_rfl) (λ_ _ _=>id) o (λp ⟨I,J⟩=>by go_simp) ?_;simp only[T];refine dF 5 (.int .i64 (b-1)) rfl rfl (by kernel_rfl) (λ_ _ _=>id) o (λp ⟨I,J⟩=>by go_simp) ?_;simp only[T];refine A2 (rs:=[1]) (by kernel_rfl) (by simp) (Y rfl (λbr au=>?_) Ax);go_simp;refine du (fJ _ _) λbn eb=>?_;subst bn;refine au _ _ o (λo=>?_);clear au br;try simp only[Act.put,cm,co,cC]
     refine dF 2 (.pointer (M ⟨B.b,0,O⟩)) rfl rfl (by kernel_rfl) (λ_ _ _=>id) o (λp ⟨I,J⟩=>by go_simp) ?_;simp only[T];refine dF 3 (.pointer (M ⟨B.b,4,O⟩)) rfl rfl (by kernel_rfl) (λ_ _ _=>id) o (λp ⟨I,J⟩=>by go_simp) ?_;simp only[T];refine dF 4 (.int .i64 (f:Int)) rfl rfl (by kernel_rfl) (λ_ _ _=>id) o (λp ⟨I,J⟩=>by go_simp) ?_;simp only[T];refine dF 6 (.bool A3) rfl rfl (by kernel_rfl) (λ_ _ _=>id) o (λp ⟨I,J⟩=>by go_simp) ?_;simp only[T];refine wpAnyH_done (by kernel_rfl) ?_ _
     gi_wp2
     exact⟨(((KeepsOthers.drew j).from _).trans ((Z _ _ _).from _)).trans ((Z _ _ _).from _),eA,bo.out.symm⟩
   case ret=>
    rintro j ⟨h,ce⟩ a3;rw[a2]at a3⊢;have fr:a7=M a:=by
     have y:=m.2.1;rw[show n-a=(n-(a+1))+1 by omega,ic,ab]at y
     .exact y.symm
     .unfold fL;rw[a9];unfold qa;rw[b3,ce];rfl
    show LeavesInM _ _ _ _ _ _ (((g+1+1+1)::k).map zB) .returning j;refine pu (w.heap.size+1+1+1) _ j ⟨List.nodup_cons.2 ⟨λt=>by have:=d0 _ t;omega,h.mks.nd⟩,λl hb=>?_,λl hb=>?_⟩ (λbD z=>?_)
    .rcases List.mem_cons.1 hb with rfl|hb
     .omega
     .exact h.mks.lo l hb
    .rcases List.mem_cons.1 hb with rfl|hb
     .exact a3
     .exact h.mks.at_ l hb
    .have cc:∀l∈(g+1+1+1)::k,w.heap.size+1+1+1<=l:=λl hb=>by
      rcases List.mem_cons.1 hb with rfl|hb
      .omega
      .exact h.mks.lo l hb
     have cr:=(z.same w.heap.size (λt=>by have:=cc _ t;omega)).trans h.r0;have cs:=(z.same (w.heap.size+1) (λt=>by have:=cc _ t;omega)).trans h.r1;refine⟨_,wH rfl _ _ _ ⟨w.heap.size,0,O⟩ ⟨w.heap.size+1,0,O⟩ _ _ rfl rfl (Lh _ _ _ (dI cr)) (Ge _ _ _ (dI cs)),?_,z.below h.bl (λl hb=>by have:=cc l hb;omega) (ag _)⟩;rw[fr];rfl
   case done=>
    rintro j ⟨b,h,fz,fA,z⟩ a3;rw[a2]at a3⊢;have dq:af=M b:=by rw[<-z];rfl
    have cf:qa S a x.N.ks=(a:Int)-(b-1):=by unfold qa;rw[b3,dq];show(a:Int)-b+1=_;omega
    have F:S.length=a:=by rw[<-hS,kG,gC,<-i.out.2.1,bi,i.out.2.2.1];omega
    have ao:=h.oo.row;have g4:j.cell? ⟨w.heap.size+1+1,a,O⟩=M (.int .i64 0):=by
     rw[ao.cellAt a (by omega),gh (by simp;omega),bi,F,fG,Gi,ab (by omega)]
    have g8:=ao.frozenAt a;have cp:=(ao.stored a (.int .i64 ((a:Int)-(b-1)))).1;rw[F,Fq S n a ((a:Int)-(b-1)) F d5]at cp;have b4:il (ns.take (a+1))=S++[(a:Int)-(b-1)]:=by rw[Li d8,hS,cf]
    have d6:tw (w.heap.size+1+1+1) ((g+1+1+1)::k) j:=⟨List.nodup_cons.2 ⟨λt=>by have:=d0 _ t;omega,h.oo.mks.nd⟩,λl hb=>by
      rcases List.mem_cons.1 hb with rfl|hb
      .omega
      .exact h.oo.mks.lo l hb,λl hb=>by
      rcases List.mem_cons.1 hb with rfl|hb
      .exact a3
      .exact h.oo.mks.at_ l hb⟩
    have cd:Bg w r n (S++[(a:Int)-(b-1)]) ((g+1+1+1)::k) (j.setCell ⟨w.heap.size+1+1,a,O⟩ (.int .i64 ((a:Int)-(b-1)))):=
     ⟨h.oo.bl.setCell (by simp;omega) _,(aC _ _ _ _ (by simp;omega)).trans h.oo.r0,(aC _ _ _ _ (by simp)).trans h.oo.r1,by rw[aJ,F];exact cp,(aC _ _ _ _ (by simp;omega)).trans h.oo.bx,d6.keeps (Z _ _ _)⟩
    have ey:Fs (Bg w r n (il (ns.take (a+1))) ((g+1+1+1)::k) (j.setCell ⟨w.heap.size+1+1,a,O⟩ (.int .i64 ((a:Int)-(b-1))))/\ic (fL (il ns)) (n-(a+1)) (a+1)=a7/\∀(H:Nat) q,(il (ns.take (a+1)))[H]?=M q->1<=q):=by
     refine⟨by rw[b4];exact cd,?_,λH q ax=>?_⟩
     .have y:=m.2.1;rw[show n-a=(n-(a+1))+1 by omega,ic,aa]at y
      .exact y
      .unfold fL;rw[a9,cf];simp;omega
     .rw[b4]at ax;rcases bC H a with g1|g1
      .rw[iq (by omega)]at ax;exact m.2.2 H q ax
      .rw[gh (by omega)]at ax;obtain⟨y,dc⟩:=List.getElem?_eq_some_iff.1 ax;simp at y dc;omega
    have gz:=dI h.oo.bx;have g0:=dI h.b5;have g3:=dI h.b7;have fo:r<(j.setCell ⟨w.heap.size+1+1,a,O⟩ (.int .i64 ((a:Int)-(b-1)))).heap.size:=aj cd.bx;have ha:((a:Int)-(b-1))<=3001/\1<=((a:Int)-(b-1)):=by omega
    refine dn _ _ ?_;clear dq cf F ao cp b4 d6 cd h z a3 dn fq m;go_wp2_with fail;exact⟨⟨a+1,(g+1+1+1)::k,by omega,fo,ey,_,_,_,_,_,_,_,_,_,_,_,_,_,_,_,_,_,_,_,_,_,_,rfl⟩,by simp[Ex];omega⟩
  .obtain rfl:a=n:=by omega
   have hh:¬(a:Int)<(a:Int):=by omega
   obtain⟨c,rfl⟩:∃c,a=c+1:=⟨a-1,by omega⟩;have hS:il (ns.take (c+1))=il ns:=by rw[db (by rw[<-i.out.2.1,bi,i.out.2.2.1];exact ag _)]
   rw[hS]at m;have F:(il ns).length=c+1:=by rw[kG,<-i.out.2.1,bi,i.out.2.2.1]
   obtain⟨q,E⟩:=cA F (show c<c+1 by omega);have ds:a7=O:=by have:=m.2.1;rw[fG,ic]at this;exact this.symm
   have ec:(il ns).getD c 0=q:=by rw[aK,E];rfl
   have bA:=kJ m.1 ds ec;have g5:d.cell? ⟨w.heap.size+1+1,c,O⟩=M (.int .i64 q):=by
    rw[m.out.1.row.cellAt c (by omega),iq (by simp;omega),cH,E];rfl
   have c9:=dI m.1.bx;have cr:=dI m.1.r0;have cs:=dI m.1.r1;have fd:d.frozen? ⟨w.heap.size,0,O⟩=A5:=ch _ _ _ _ _ m.1.r0;have ff:d.frozen? ⟨w.heap.size+1,0,O⟩=A5:=ch _ _ _ _ _ m.1.r1;have g7:(c:Int)+1-1=(c:Int):=by omega
   have hC:(0:Int)<=(c:Int):=by omega
   have hE:(c:Int)<(c:Int)+1:=by omega
   clear E ec ds hS m i;go_wp2_with fail;have hG:w.heap.size≠r:=by omega
   have hH:w.heap.size+1≠r:=by omega
   have hL:w.heap.size≠w.heap.size+1+1:=by omega
   have h3:w.heap.size+1≠w.heap.size+1+1:=by omega
   go_region_held3 (λp=>p.cell? ⟨r,0,O⟩=M (.slice (M ⟨w.heap.size+1+1,0,O⟩) (c+1) (c+1))/\p.cell? ⟨w.heap.size+1+1,c,O⟩=M (.int .i64 q)) (go_keep) (fail)
   all_goals go_wp2_with fail
   have h:=bA.1;show LeavesInM _ _ _ _ _ _ (k.map zB) .returning _;refine pu (w.heap.size+1+1+1) k _ (((h.mks.keeps (Z _ _ _)).keeps (Z _ _ _)).keeps (KeepsOthers.drew _)) (λbD z=>?_);have gm:bD.heap[w.heap.size]?=M (.cells #[.int .i64 (c:Int)] 3 (0,0)):=(z.same _ (λt=>by have:=h.mks.lo _ t;omega)).trans ((aC _ _ _ _ (by simp)).trans (aL _ _ 0 _ _ _ h.r0));have gn:bD.heap[w.heap.size+1]?=M (.cells #[.bool (decide (q<(c:Int)+1))] 4 (0,0)):=(z.same _ (λt=>by have:=h.mks.lo _ t;omega)).trans (aL _ _ 0 _ _ _ ((aC _ _ _ _ (by simp)).trans h.r1));refine⟨_,wH rfl _ _ _ ⟨w.heap.size,0,O⟩ ⟨w.heap.size+1,0,O⟩ _ _ rfl rfl (Lh _ _ _ (dI gm)) (Ge _ _ _ (dI gn)),?_,z.below (((h.bl.setCell (by simp) _).setCell (by simp) _).drew) (λl hb=>by have:=h.mks.lo l hb;omega) (ag _)⟩;have e8:((c+1:Nat):Int)=(c:Int)+1:=by omega
   rw[bA.out.2.1];simp only[IE,nK,bA.out.2.2,e8,Int.add_sub_cancel]
section
variable (E : Pe)
inductive Ws (i:Nat):FuncId->Array Value->Nat->Fo->Nat->Prop
 |blk {x:Fo}{j:Nat}:(E.tk i).k=42->i<E.n->CK E i x j->Ws i 81 #[pV E] i x j
 |smp {k:Int}{x:Fo}{j:Nat}:k=1\/k=40->(E.tk i).k=k->i<E.n->CI E 146 #[pV E] i x j->Ws i 81 #[pV E] i x j
 |let0 {ns:List ByteArray}{k:Nat}:(E.tk i).k=22->i<E.n->CM E (i+1) ns k->1<=k->k<E.n->(E.tk k).k≠47->Ws i 81 #[pV E] i (one (nd 2 (E.tk i) (E.tk (k-1)).t 0 0 z0 ns) .nil) k
 |let1 {ns:List ByteArray}{k j:Nat}{x:Fo}:(E.tk i).k=22->i<E.n->CM E (i+1) ns k->k<E.n->(E.tk k).k=47->CLx E (k+1) x j->1<=j->j<=E.n->Ws i 81 #[pV E] i (one (nd 2 (E.tk i) (E.tk (j-1)).t 0 0 z0 ns) x) j
 |con {ns:List ByteArray}{k j:Nat}{x:Fo}:(E.tk i).k=13->i<E.n->CM E (i+1) ns k->k<E.n->(E.tk k).k=47->CX E 0 (k+1) x j->1<=j->j<=E.n->Ws i 81 #[pV E] i (one (nd 3 (E.tk i) (E.tk (j-1)).t 0 0 z0 ns) x) j
 |iff {x:Fo}{j:Nat}:(E.tk i).k=20->i<E.n->CBr E 20 i x j->Ws i 81 #[pV E] i x j
 |whl {x y:Fo}{k j:Nat}:(E.tk i).k=31->i<E.n->CX E 0 (i+1) x k->CK E k y j->1<=j->j<=E.n->Ws i 81 #[pV E] i (one (jm 8 (E.tk i) (E.tk (j-1)).t) (x.app y)) j
 |for_ {x:Fo}{j:Nat}:(E.tk i).k=19->i<E.n->CI E 155 #[pV E,tkV 19 (E.tk i)] (i+1) x j->Ws i 81 #[pV E] i x j
 |leaf {k nk:Int}:(k=11/\nk=11)\/(k=23/\nk=12)->(E.tk i).k=k->i+1<E.n->Ws i 81 #[pV E] i (one (jm nk (E.tk i) (E.tk i).t) .nil) (i+1)
 |ret0:(E.tk i).k=27->i+1<E.n->eJ (E.tk (i+1)).k=false->Ws i 81 #[pV E] i (one (jm 13 (E.tk i) (E.tk i).t) .nil) (i+1)
 |ret1 {x:Fo}{j:Nat}:(E.tk i).k=27->i+1<E.n->eJ (E.tk (i+1)).k=true->CLx E (i+1) x j->1<=j->j<=E.n->Ws i 81 #[pV E] i (one (jm 13 (E.tk i) (E.tk (j-1)).t) x) j
 |try_ {ns:List ByteArray}{x y:Fo}{k k1 j:Nat}:(E.tk i).k=30->i<E.n->CK E (i+1) x k->(E.tk k).k=12->k<E.n->CM E (k+1) ns k1->CK E k1 y j->1<=j->j<=E.n->Ws i 81 #[pV E] i (one (nd 14 (E.tk i) (E.tk (j-1)).t 0 0 z0 ns) (x.app y)) j
 |thr {x:Fo}{j:Nat}:(E.tk i).k=28->i<E.n->CX E 0 (i+1) x j->1<=j->j<=E.n->Ws i 81 #[pV E] i (one (jm 15 (E.tk i) (E.tk (j-1)).t) x) j
 |dfr {x:Fo}{j:Nat}:(E.tk i).k=14->i<E.n->CB E (i+1) x j->1<=j->j<=E.n->Ws i 81 #[pV E] i (one (jm 16 (E.tk i) (E.tk (j-1)).t) x) j
 |bno {q:Int}{x y:Fo}{k k1:Nat}:q=20\/q=15->(E.tk i).k=q->i<E.n->CX E 0 (i+1) x k->CK E k y k1->1<=k1->k1<E.n->(E.tk k1).k≠15->(E.tk k1).k≠16->Ws i 154 #[pV E,tkV q (E.tk i)] (i+1) (one (jm 7 (E.tk i) (E.tk (k1-1)).t) (x.app y)) k1
 |belif {q:Int}{x y z:Fo}{k k1 j:Nat}:q=20\/q=15->(E.tk i).k=q->i<E.n->CX E 0 (i+1) x k->CK E k y k1->k1<E.n->(E.tk k1).k=15->CBr E 15 k1 z j->1<=j->j<=E.n->Ws i 154 #[pV E,tkV q (E.tk i)] (i+1) (one (jm 7 (E.tk i) (E.tk (j-1)).t) ((x.app y).app z)) j
 |belse {q:Int}{x y z:Fo}{k k1 j:Nat}:q=20\/q=15->(E.tk i).k=q->i<E.n->CX E 0 (i+1) x k->CK E k y k1->k1<E.n->(E.tk k1).k=16->CK E (k1+1) z j->1<=j->j<=E.n->Ws i 154 #[pV E,tkV q (E.tk i)] (i+1) (one (jm 7 (E.tk i) (E.tk (j-1)).t) ((x.app y).app z)) j
 |lfor {ns:List ByteArray}{x y:Fo}{k k1 j:Nat}:(E.tk i).k=19->i<E.n->CM E (i+1) ns k->k<E.n->(E.tk k).k=47->CLx E (k+1) x k1->CK E k1 y j->1<=j->j<=E.n->Ws i 155 #[pV E,tkV 19 (E.tk i)] (i+1) (one (nd 9 (E.tk i) (E.tk (j-1)).t 0 0 z0 ns) (x.app y)) j
 |leach {ns:List ByteArray}{x y:Fo}{k k1 j:Nat}:(E.tk i).k=19->i<E.n->CM E (i+1) ns k->k<E.n->(E.tk k).k=21->CX E 0 (k+1) x k1->CK E k1 y j->1<=j->j<=E.n->Ws i 155 #[pV E,tkV 19 (E.tk i)] (i+1) (one (nd 10 (E.tk i) (E.tk (j-1)).t 0 0 z0 ns) (x.app y)) j
end
def ja{E:Pe}{d:Nat}{f:FuncId}{args:Array B2}(h:Ws E i f args d X j):CI E f args d X j:=by
 cases h
 case' smp h _ _ _=>rcases h with rfl|rfl
 case' leaf h _ _=>rcases h with⟨rfl,rfl⟩|⟨rfl,rfl⟩
 case' bno h _ _ _ _ _ _ _ _=>rcases h with rfl|rfl
 case' belif h _ _ _ _ _ _ _ _ _=>rcases h with rfl|rfl
 case' belse h _ _ _ _ _ _ _ _ _=>rcases h with rfl|rfl
 all_goals
  intro q o p h l;have a:=aq h;clear h;have t:=aph;try simp only[di,Fo.sz_app,Fo.sz]at l
  try have v:=beq_eq_false_iff_ne.2 (by assumption:(E.tk _).k≠15)
  go_in
  repeat' (go_wp2_with (at_builtin;refine Sq.app a (by have:=Sq.ln a;simp only[Fo.sz_app,Fo.sz]at this;(try simp only[Fo.sz]);omega) rfl _ _ rfl rfl rfl rfl ?_;intro u r b a;have m:=Sq.rd a);(first
   |(go_at_call 79;first|refine du (Sq.kind (by first|exact a|exact Sq.box a|exact Sq.lit2 (Sq.set a)) (by assumption)) λb a=>?_|refine du (Sq.kind (by first|exact a|exact Sq.box a|exact Sq.lit2 (Sq.set a)) rfl) λb a=>?_)
   |(go_at_call 147;refine du (Sq.take (by first|exact a|exact Sq.set a|exact Sq.box a) (by assumption)) λb a=>?_)
   |(go_at_call 80;first|refine du (Sq.isY (by first|exact a|exact Sq.set a) (by assumption)) λb a=>?_|refine du (Sq.isN (by first|exact a|exact Sq.set a) (by assumption)) λb a=>?_)
   |(go_at_call 142;refine ft (aqL (by assumption) _) ?_)
   |(go_at_call 148;refine du (Sq.node (by first|exact a|exact Sq.box a)) λb a=>?_)
   |(go_at_call 151;refine(Sq.add (by first|exact a|exact Sq.set a|exact Sq.lit1 (Sq.box a)|exact Sq.lit2 (Sq.set a)|exact Sq.box a) (by first|exact .inl ⟨rfl,rfl⟩|exact .inr (.head _)|exact .inr (.tail _ (.head _))) (by first|exact .inl ⟨rfl,rfl⟩|exact .inr (.head _)) (by have:=Sq.ln a;simp only[Fo.sz_app,Fo.sz]at this;(try simp only[Fo.sz]);omega)).mono ?_;rintro s b ⟨n,rfl,c,a⟩)
   |(refine Sq.cq (by first|exact a|exact Sq.set a|exact Sq.box a|exact Sq.lit2 (Sq.set a)) (by assumption) (by have:=Sq.ln a;simp only[Fo.sz_app,Fo.sz]at this;(try simp only[Fo.sz]);omega) ?_;(first|rintro b _ c _ _ ⟨n,rfl,rfl,rfl⟩ a|rintro b _ c w _ ⟨e,g,rfl,rfl⟩ a|(rintro b _ c _ _ ⟨e,g,rfl,rfl,rfl⟩ a;rw[Fo.app_nil,dr]at a))));(try have m:=Sq.rd a))
  all_goals
   go_wp2_with fail;go_ret;exact⟨_,_,_,_,rfl,⟨_,rfl,rfl,rfl⟩,Sq.fin a⟩
def Sm(E:Pe)(i:Nat)(x:Fo)(k:Nat)(X:Fo)(j:Nat):Prop:=((E.tk k).k≠46/\(E.tk k).k≠47/\k<E.n/\j=k/\X=one (jm 6 (E.tk i) (E.tk (k-1)).t) x)\/
 ∃b c a d,((E.tk k).k=46\/(E.tk k).k=47)/\Ls E (CB E) d k b a/\(E.tk a).k=47/\a<E.n/\CLx E (a+1) c j/\k<E.n/\j<=E.n/\X=one (nd 5 (E.tk i) (E.tk (j-1)).t 0 ((x.app b).len:Nat) z0 []) ((x.app b).app c)
section
variable {W V w : World}
def bdN(w:B1)(n:Nat):Ce w.heap.size w (w.drewN n):=⟨rfl,rfl,rfl,ag _,λ_ _=>rfl⟩
def adi(h:Ce W.heap.size W V)(k:Ce V.heap.size V w):Ce W.heap.size W w:=h.trans (k.mono h.size)
end
section
variable {E : Pe} {i j k : Nat}
def Ll{q:Int}{x:Fo}(cr:q=1\/q=40)(cu:(E.tk i).k=q)(b4:i<E.n)(cc:CB E i x k)(bj:Sm E i x k X j)(ct:i+1<=j):CI E 146 #[pV E] i X j:=by
 intro e ad H B bb;have S:=aq B;have b2:(E.tk i).k≠6:=by omega
 have ap:=λF (au:Ce e.heap.size e F)=>(Sq.below S au).cells;have t:=λF (au:Ce e.heap.size e F)=>(Sq.below S au).tkw b4 b2;unfold TkW at t;have cB:=S.lo;have af:=aq bj;clear B bj;have a0:(i:Int)<(E.n:Int):=by omega
 have ax:(0:Int)<=(i:Int):=by omega
 have a1:IntKind.i64.wrap (i:Int)=(i:Int):=by rw[dt];omega
 go_in;go_wp2_with fail;refine E1 (S:=λF=>Ce e.heap.size e F) (by kernel_rfl) (bH (ai _ _)) (λa=>?_);simp only[ir,bm,ej,Nat.reduceAdd,jb,jp,jq,eu,ez];refine dF 0 (A0 (M ⟨E.pb,0,O⟩)) rfl rfl (by kernel_rfl) (λ_ _ _=>id) a (λp o=>by go_simp) ?_;simp only[T];refine dF 1 (A0 (M ⟨E.pb,0,O⟩)) rfl rfl (by kernel_rfl) (λ_ _ _=>id) a (λp o=>by go_simp) ?_;simp only[T];refine dF 2 (A0 (M ⟨E.pb,0,O⟩)) rfl rfl (by kernel_rfl) (λ_ _ _=>id) a (λp o=>by go_simp) ?_;simp only[T];refine dF 3 (B0 (M ⟨E.tb,0,O⟩) E.n E.cap) rfl rfl (by kernel_rfl) (λ_ _ _=>id) a (λp o=>by go_simp) ?_;simp only[T];refine dF 4 (A0 (M ⟨E.pb,0,O⟩)) rfl rfl (by kernel_rfl) (λ_ _ _=>id) a (λp o=>by go_simp) ?_;simp only[T];refine dF 5 (A0 (M ⟨E.pb,0,O⟩)) rfl rfl (by kernel_rfl) (λ_ _ _=>id) a (λp o=>by go_simp) ?_;simp only[T];refine dF 6 (A0 (M ⟨E.pb,1,O⟩)) rfl rfl (by kernel_rfl) (λ_ _ _=>id) a (λp o=>by go_simp) ?_;simp only[T];refine dF 7 (B6 B4 (i:Int)) rfl rfl (by kernel_rfl) (λ_ _ _=>id) a (λp o=>by go_simp) ?_;simp only[T];refine dF 8 (A0 (M ⟨E.tb,i*6,O⟩)) rfl rfl (by kernel_rfl) (λ_ _ _=>id) a (λp o=>by go_simp) ?_;simp only[T];refine dF 9 (.agg (pH (E.tk i).k (E.tk i))) rfl rfl (by kernel_rfl) (λ_ _ _=>id) a (λp o=>by go_simp) ?_;simp only[T];refine A2 (rs:=[10,11]) (by kernel_rfl) (by simp) (Y rfl (λg b=>?_) (Y rfl (λg b=>?_) Ax))
 case' refine_1=>
  go_simp;refine du (Ca _ _ (E.tk i) _) λw5 A=>?_;have l:=adi (bH (ai _ _)) A;have z:=Sq.box (cs:=ndA 5 0 0 ⟨#[]⟩ (E.tk i) s0 s0) (t:=62) (Sq.below S l);refine b.out _ _ l (λa=>?_);clear b g;try simp only[cm,co,cC]
  refine A2 (rs:=[11]) (by kernel_rfl) (by simp) (Y rfl (λg b=>?_) Ax);go_simp;refine b.out _ _ (adi l (dE _ _)) (λa=>?_);clear b g;try simp only[cm,co,cC]
  refine A2 (rs:=[12]) (by kernel_rfl) (by simp) (Y rfl (λg b=>?_) Ax);go_simp;refine b.out _ _ (adi l (dE _ _)) (λa=>?_);clear b g;refine wpAnyH_done (by kernel_rfl) ?_ _;clear A a l;generalize w5.alloc _=ck at z⊢;generalize w5.heap.size=ao at z⊢
 case' refine_2=>
  go_simp;have a6:=Sq.below (Sq.box (cs:=#[B6 B4 0,B6 B4 0,B6 B4 0,B6 B4 0,B6 B4 0,B6 B4 0,F2 ⟨#[]⟩,s0,s0]) (t:=62) S) (bH (ai _ _));refine b.out _ _ (bH (dE _ _)) (λa=>?_);clear b g;try simp only[cm,co,cC]
  refine A2 (rs:=[10]) (by kernel_rfl) (by simp) (Y rfl (λg b=>?_) Ax);go_simp;refine du (Ca _ _ (E.tk i) _) λw5 A=>?_;have l:=adi (bH (dE e _)) A;have an:=Sq.below a6 A;refine b.out _ _ l (λa=>?_);clear b g a6 A;try simp only[cm,co,cC]
  have r:=Sq.rd an;refine A2 (rs:=[12]) (by kernel_rfl) (by simp) (Y rfl (λg b=>?_) Ax);go_simp;have z:Fs (Sq E e ad H _ i H .nil [] [(e.heap.size,62,ndA 5 0 0 ⟨#[]⟩ (E.tk i) s0 s0)] []):=Sq.set (q:=8) (u:=s0) (Sq.set (q:=7) (u:=s0) (Sq.set (q:=6) (u:= F2 ⟨#[]⟩) (Sq.set (q:=5) (u:= B6 B4 0) (Sq.set (q:=4) (u:= B6 B4 0) (Sq.set (q:=3) (u:= B6 B4 (E.tk i).l) (Sq.set (q:=2) (u:= B6 B4 0) (Sq.set (q:=1) (u:= B6 B4 (E.tk i).f) (Sq.set (q:=0) (u:= B6 B4 5) an))))))));have d:=ag e.heap.size;refine b.out _ _ (((((((((l.setCell d _).setCell d _).setCell d _).setCell d _).setCell d _).setCell d _).setCell d _).setCell d _).setCell d _) (λa=>?_);clear b g;refine wpAnyH_done (by kernel_rfl) ?_ _;clear a l r d an;generalize Ck _ _ _=ck at z⊢;generalize e.heap.size=ao at z⊢
 all_goals
  clear ap t a0 ax a1 S;go_wp2_with fail;have bf:x.sz<=X.sz/\k<E.n:=by
   rcases af.out with⟨_,_,B,_,rfl⟩|⟨w,L,bn,m,_,_,_,_,_,B,_,rfl⟩
   .exact⟨by rw[di];omega,B⟩
   .exact⟨by rw[di,Fo.sz_app,Fo.sz_app];omega,B⟩
  refine Sq.cq z cc (by omega) ?_;rintro c _ ak _ _ ⟨d,rfl,rfl,rfl⟩ S;have K:=Sq.ln S;rw[show(Fo.nil.app x)=x from rfl]at K;have ap:=S.cells;obtain⟨c6,cz,t⟩:=S.tok bf.2;have a0:(k:Int)<(E.n:Int):=by omega
  have ax:(0:Int)<=(k:Int):=by omega
  have a1:IntKind.i64.wrap (k:Int)=(k:Int):=by rw[dt];omega
  go_wp2_with fail;rcases af.out with⟨b0,J,b7,rfl,rfl⟩|⟨w,L,bn,m,hkk,bh,J,cw,b3,cy,b7,rfl⟩
  .have c7:((E.tk j).k !=46)=A3:=by simp[b0]
   have c8:((E.tk j).k !=47)=A3:=by simp[J]
   rw[di]at bb;go_quiet (fail)
   replace S:=Sq.below S (bdN c nq);generalize c.drewN nq=c at S⊢;have r:=Sq.rd S;go_wp2_with fail;refine(Sq.add (Sq.litm (m:=c.heap.size) (Sq.set (Sq.set S)) (by simp[Ck])) (.inl ⟨rfl,rfl⟩) (.inr (.head _)) (by omega)).mono ?_;rintro bA c ⟨d,rfl,ak,S⟩;go_wp2_with fail;go_ret;exact⟨_,_,_,_,rfl,⟨_,rfl,rfl,rfl⟩,Sq.fin S⟩
  simp only[di,Fo.sz_app]at bb bf;have a4:=aq bh;clear bh af;rcases hkk with hkk|hkk;all_goals
   rw[hkk]at t;go_quiet (fail)
   replace S:=Sq.below S (bdN c nq);generalize c.drewN nq=c at S⊢;have r:=Sq.rd S;clear t ap a0 ax a1;go_wp2_with fail;go_loopg [4] m (λgk cf wr=>∃(k:Nat) (D al:Fo) (bo:Int) (s:Option Addr) (n v:Nat) (bt:List Mb) (y:List Int),cf= B6 B4 bo/\Fs (Ls E (CB E) gk k al bn/\Sq E e ad H wr k bt D y [(ao,62,ndA 5 0 (n:Int) ⟨#[]⟩ (E.tk i) s0 (B0 s n v))] [(3,B0 s n v,y.map iv)]/\D.app al=x.app w))
   case atStart=>exact⟨k,x,w,d,_,1,1,_,_,rfl,a4,Sq.litm (m:=c.heap.size) (xs:=[iv d]) (Sq.set (Sq.set S)) (by simp[Ck]),rfl⟩
   case round=>
    clear S a4 r;obtain⟨c4,D,al,bo,s,n,v,cn,y,rfl,a3⟩:=hrel;obtain⟨bE,S,ar⟩:=a3.out;have bl:=congrArg Fo.sz ar;have ba:=aq ar;rw[Fo.sz_app,Fo.sz_app]at bl;clear ar a3;have K:=Sq.ln S;have ca:=Sq.rn S;rw[bi]at ca;have cb:=congrArg List.length S.tp;rw[Fo.tops_len]at cb;have cI:=D.len_le;cases bE with
    |stop a7 a8=>
     obtain rfl:D=x.app w:=by rw[<-ba.out,Fo.app_nil]
     go_wp2_with fail;refine du (Sq.isN S (by rw[J];decide)) λc S=>?_;go_wp2_with fail;refine du (Sq.take S J) λc S=>?_;go_wp2_with fail;refine Sq.cq S b3 (by omega) ?_;rintro c _ bv h _ ⟨bx,c5,rfl,rfl⟩ S;have b9:=Sq.ln S;rw[Fo.sz_app]at b9;have bd:=congrArg List.length S.tp;have b8:=Fo.len_le ((x.app w).app L);rw[Fo.tops_len,aJ]at bd;rw[Fo.sz_app]at b8;obtain⟨C,b1⟩:=aF h.length;rw[b1]at S bd⊢;go_wp2_with fail;go_loopw [76] (λa2 wr=>∃(q v:Nat) (s:Option Addr),q<=C/\a2= B6 B4 q/\Fs (Sq E e ad H wr j bv ((x.app w).app L) (y++h) [(ao,62,ndA 5 0 (n:Int) ⟨#[]⟩ (E.tk i) s0 (B0 s (n+q) v))] [(3,B0 s (n+q) v,y.map iv++(h.take q).map iv),(3,B0 bx C c5,h.map iv)])) (λa2 _=>C-(Ex a2).toNat)
     case atStart=>exact⟨0,v,s,aI _,rfl,by rw[Bk,List.map_nil,dr];exact Sq.swap S⟩
     case round=>
      clear S;obtain⟨q,v,s,c0,rfl,S⟩:=hrel;by_cases cF:q<C
      .obtain⟨cl,bk⟩:∃x,h[q]?=M x:=⟨h[q]'(by omega),aA _⟩;obtain⟨G,rfl,cp⟩:=Sq.at2 S bk;have c1:(0:Int)<=(q:Int):=by omega
       have c2:(q:Int)<(C:Int):=by omega
       have r:=Sq.rd S;go_wp2_with (at_builtin;refine Sq.apG tI S (by omega) rfl rfl _ _ rfl rfl rfl rfl ?_;intro G I c S;have r:=Sq.rd S);have bs:Fs (y.map iv++(h.take q).map iv++[C2 B4 cl]=y.map iv++(h.take (q+1)).map iv):=by show _=_;rw[ie,bk,dK,cg];rfl
       replace S:=Sq.set (q:=8) (u:= B0 (M ⟨G,0,O⟩) (n+q+1) I) S;rw[bs.out]at S;exact⟨⟨q+1,I,M ⟨G,0,O⟩,by omega,by go_num,S⟩,by simp[Ex];omega⟩
      .obtain rfl:q=C:=by omega
       rw[show h.take q=h from db (by omega),<-dK]at S;replace S:=Sq.less S (show List.Sublist [_] [_,_] from .cons_cons _ (.cons _ .slnil));have r:=Sq.rd S;go_wp2_with fail;refine(Sq.add S (.inl ⟨rfl,rfl⟩) (.inr (.head _)) (by omega)).mono ?_;rintro bA c ⟨d,rfl,ak,S⟩;go_wp2_with fail;go_ret;rw[show n=(x.app w).len by omega]at S;exact⟨_,_,_,_,rfl,⟨_,rfl,rfl,rfl⟩,Sq.fin S⟩
    |@go ce _ cd _ c9 bw a7 a8 bD a9=>
     have br:=aq a9;clear a9;rw[Fo.sz_app]at bl;have c3:IntKind.i64.wrap ((n:Int)+1)=(n:Int)+1:=by rw[dt];omega
     go_wp2_with fail;refine du (Sq.isY S a7 a8) λc S=>?_;go_wp2_with fail;refine Sq.cq S bD (by omega) ?_;rintro c _ ak _ _ ⟨d,rfl,rfl,rfl⟩ S;have K:=Sq.ln S;rw[Fo.sz_app]at K;have r:=Sq.rd S;go_wp2_with (at_builtin;refine Sq.app S (by omega) rfl _ _ rfl rfl rfl rfl ?_;intro G I c S;have r:=Sq.rd S);go_roundg ce
     case measure=>omega
     case rel=>exact⟨cd,_,bw,d,M ⟨G,0,O⟩,n+1,I,_,_,rfl,br,by rw[show((n+1:Nat):Int)=(n:Int)+1 by omega];exact Sq.set (Sq.set S),by rw[Fo.app_app];exact ba⟩
end
inductive Enp (E:Pe) (i:Nat):Fo->Nat->Prop
 |item {x:Fo}{j:Nat}:(E.tk i).k≠48->(E.tk i).k≠44->CX E 0 i x j->1<=j->j<=E.n->Enp E i (one (jm 40 (E.tk i) (E.tk (j-1)).t) x) j
 |named {x:Fo}{j:Nat}:Hid ((E.tk i).k=48)->(E.tk (i+1)).k=1->(E.tk (i+2)).k=47->i+2<E.n->CX E 0 (i+3) x j->1<=j->j<=E.n->Enp E i (one (nd 42 (E.tk i) (E.tk (j-1)).t 0 0 (E.tk (i+1)).x []) x) j
 |pair {x y:Fo}{k j:Nat}:Hid ((E.tk i).k=44)->CX E 0 (i+1) x k->(E.tk k).k=45->(E.tk (k+1)).k=47->k+1<E.n->CX E 0 (k+2) y j->1<=j->j<=E.n->Enp E i (one (jm 41 (E.tk i) (E.tk (j-1)).t) (x.app y)) j
def aqo{o:Obj}(k j:Nat)(h:k<W.heap.size):(W.alloc o).cell? ⟨k,j,O⟩=W.cell? ⟨k,j,O⟩:=World.cell?_alloc_past _ _ _ h
section
variable {E : Pe} {i j : Nat}
def IG(r:(E.tk i).k≠6)(w:i<E.n)(v:Enp E i X j):CI E 238 #[pV E] i X j:=by
 intro o B C q m;have a:=aq q;have u:=a.cells;have t:=a.tkw w r;unfold TkW at t;have H:=a.lo;clear q;have y:(i:Int)<(E.n:Int):=by omega
 have x:(0:Int)<=(i:Int):=by omega
 have z:IntKind.i64.wrap (i:Int)=(i:Int):=by rw[dt];omega
 go_in;go_wp2_with fail;go_region_held3 (λA=>∀k j,k<o.heap.size->A.cell? ⟨k,j,O⟩=o.cell? ⟨k,j,O⟩) (first|exact aqo|exact λ_ _ _=>rfl) (fail)
 replace a:=Sq.below (Sq.box (cs:=pH (E.tk i).k (E.tk i)) (t:=46) a) (bH (ai _ _));generalize World.drew _=b at a⊢;have c:=Sq.rd a;clear u t y x z;go_wp2_with fail;refine du (Sq.node a) λb a=>?_;replace a:=Sq.box (cs:=ndA 40 0 0 ⟨#[]⟩ (E.tk i) s0 s0) (t:=62) a;go_wp2_with fail;cases v
 case item=>
  rw[di]at m;refine du (Sq.isN a (by assumption)) λb a=>?_;go_wp2_with fail;refine du (Sq.isN a (by assumption)) λb a=>?_;go_wp2_with fail;refine Sq.cq a (by assumption) (by omega) ?_;rintro b _ e _ _ ⟨f,rfl,rfl,rfl⟩ a;have d:=Sq.ln a;simp only[Fo.sz_app,Fo.sz]at d;have c:=Sq.rd a;go_wp2_with (at_builtin;refine Sq.apG tI (Sq.nil a) (by simp) rfl rfl _ _ rfl rfl rfl rfl ?_;intro l h b a;have c:=Sq.rd a);refine(Sq.add (Sq.set a) (.inl ⟨rfl,rfl⟩) (.inr (.head _)) (by omega)).mono ?_;rintro p b ⟨f,rfl,e,a⟩;go_wp2_with fail;go_ret;exact⟨_,_,_,_,rfl,⟨_,rfl,rfl,rfl⟩,Sq.fin a⟩
 case named=>
  rw[di]at m;refine du (Sq.isY a (by assumption:Fs ((E.tk i).k=48)).out) λb a=>?_;go_wp2_with fail;refine du (Sq.take a (by assumption)) λb a=>?_;go_wp2_with fail;refine du (Sq.take (Sq.box a) (by assumption)) λb a=>?_;have J:=Sq.rd a;have K:=Sq.rd (Sq.tail a);have I:¬(E.tk i).k=6:=r;have g:=a.bd;simp only[dw,List.nodup_cons,ij,not_or]at g;have F:=g.1.1;have G:=dA g.1.1;clear g;go_wp2_with fail;refine Sq.cq (Sq.set (Sq.set (Sq.swapB a))) (by assumption) (by omega) ?_;rintro b _ e _ _ ⟨f,rfl,rfl,rfl⟩ a;have d:=Sq.ln a;simp only[Fo.sz_app,Fo.sz]at d;have c:=Sq.rd a;go_wp2_with (at_builtin;refine Sq.apG tI (Sq.nil a) (by simp) rfl rfl _ _ rfl rfl rfl rfl ?_;intro l h b a;have c:=Sq.rd a);refine(Sq.add (Sq.set a) (.inl ⟨rfl,rfl⟩) (.inr (.head _)) (by omega)).mono ?_;rintro p b ⟨f,rfl,e,a⟩;go_wp2_with fail;go_ret;exact⟨_,_,_,_,rfl,⟨_,rfl,rfl,rfl⟩,Sq.fin a⟩
 case pair=>
  have s:=(by assumption:Fs ((E.tk i).k=44));rw[di,Fo.sz_app]at m;refine du (Sq.isN a (by rw[s.out];decide)) λb a=>?_;go_wp2_with fail;refine du (Sq.isY a s.out) λb a=>?_;go_wp2_with fail;refine Sq.cq a (by assumption) (by omega) ?_;rintro b _ e _ _ ⟨f,rfl,rfl,rfl⟩ a;have d:=Sq.ln a;simp only[Fo.sz_app,Fo.sz]at d;go_wp2_with fail;refine du (Sq.take a (by assumption)) λb a=>?_;go_wp2_with fail;refine du (Sq.take a (by assumption)) λb a=>?_;have c:=Sq.rd a;go_wp2_with (at_builtin;refine Sq.apG tI (Sq.nil (Sq.set a)) (by simp) rfl rfl _ _ rfl rfl rfl (by simp[Ck]) ?_;intro l h b a;have c:=Sq.rd a);refine Sq.cq (Sq.set a) (by assumption) (by omega) ?_;rintro b _ e _ _ ⟨f,rfl,rfl,rfl⟩ a;have d:=Sq.ln a;simp only[Fo.sz_app,Fo.sz]at d;have c:=Sq.rd a;go_wp2_with (at_builtin;refine Sq.apG tI a (by simp) rfl rfl _ _ rfl rfl rfl rfl ?_;intro l h b a;have c:=Sq.rd a);refine(Sq.add (Sq.set a) (.inl ⟨rfl,rfl⟩) (.inr (.head _)) (by omega)).mono ?_;rintro p b ⟨f,rfl,e,a⟩;go_wp2_with fail;go_ret;exact⟨_,_,_,_,rfl,⟨_,rfl,rfl,rfl⟩,Sq.fin a⟩
def akE{x:Fo}(g:(E.tk i).k=18)(y:(E.tk (i+1)).k=1)(I:(E.tk (i+2)).k=40)(h:i+2<E.n)(A:CBd E (E.tk (i+2)) (i+2) x j)(L:1<=j)(ad:j<=E.n):CI E 81 #[pV E] i (one (nd 4 (E.tk i) (E.tk (j-1)).t 0 0 z0 [(E.tk (i+1)).x]) x) j:=by
 intro G C F p z;have S:=aq p;clear p;rw[di]at z;go_in;go_wp2_with fail;refine du (Sq.kind S g) λd S=>?_;go_wp2_with fail;refine du (Sq.kind S g) λd S=>?_;go_wp2_with fail;refine du (Sq.kind S g) λd S=>?_;go_wp2_with fail;refine du (Sq.take S g) λd S=>?_;go_wp2_with fail;refine du (Sq.node (Sq.box S)) λd S=>?_;replace S:=Sq.box (cs:=ndA 4 0 0 ⟨#[]⟩ (E.tk i) s0 s0) (t:=62) S;go_wp2_with fail;refine du (Sq.take S y) λd S=>?_;have s:=Sq.rd S;go_wp2_with fail;replace S:=Sq.litm (m:=d.heap.size+1) (xs:=[F2 (E.tk (i+1)).x]) (t:=9) (Sq.below (Sq.set (q:=7) (u:= B0 (M ⟨d.heap.size+1,0,O⟩) 1 1) S) (dE _ (.cells (pH 1 (E.tk (i+1))) 46))) (by simp[Ck]);clear s;generalize World.alloc (World.alloc _ _) _=al at S⊢;have o:=S.cells;have t:=S.tkw (q:=i+2) h (by omega);have r:=S.lo.2.2.2;rw[show((i+1+1:Nat):Int)=(i:Int)+2 by omega]at o;have K:(i:Int)+2<(E.n:Int):=by omega
 have J:(0:Int)<=(i:Int)+2:=by omega
 have af:((i:Int)+2).toNat=i+2:=by omega
 have ak:IntKind.i64.wrap ((i:Int)+2)=(i:Int)+2:=by rw[dt];omega
 refine E1 (S:=λl=>l.cell? ⟨E.pb,0,O⟩=M (B0 (M ⟨E.tb,0,O⟩) E.n E.cap)/\TkW E (i+2) l) (by kernel_rfl) ⟨o.1,t⟩ (λa=>?_);unfold TkW at *;simp only[ir,bm,ej,Nat.reduceAdd,jb,jp,jq,eu,ez];refine dF 0 (A0 (M ⟨E.pb,0,O⟩)) rfl rfl (by kernel_rfl) (λ_ _ _=>id) a (λf e=>by go_simp) ?_;simp only[T];refine dF 1 (A0 (M ⟨E.pb,0,O⟩)) rfl rfl (by kernel_rfl) (λ_ _ _=>id) a (λf e=>by go_simp) ?_;simp only[T];refine dF 2 (A0 (M ⟨E.pb,0,O⟩)) rfl rfl (by kernel_rfl) (λ_ _ _=>id) a (λf e=>by go_simp) ?_;simp only[T];refine dF 3 (A0 (M ⟨E.pb,0,O⟩)) rfl rfl (by kernel_rfl) (λ_ _ _=>id) a (λf e=>by go_simp) ?_;simp only[T];refine dF 4 (B0 (M ⟨E.tb,0,O⟩) E.n E.cap) rfl rfl (by kernel_rfl) (λ_ _ _=>id) a (λf e=>by go_simp) ?_;simp only[T];refine dF 5 (A0 (M ⟨E.pb,0,O⟩)) rfl rfl (by kernel_rfl) (λ_ _ _=>id) a (λf e=>by go_simp) ?_;simp only[T];refine dF 6 (A0 (M ⟨E.pb,0,O⟩)) rfl rfl (by kernel_rfl) (λ_ _ _=>id) a (λf e=>by go_simp) ?_;simp only[T];refine dF 7 (A0 (M ⟨E.pb,1,O⟩)) rfl rfl (by kernel_rfl) (λ_ _ _=>id) a (λf e=>by go_simp) ?_;simp only[T];refine A2 (rs:=[8]) (by kernel_rfl) (by simp) (Y rfl (λc b=>?_) Ax);go_simp;refine b.out _ _ a (λa=>?_);clear b c;try simp only[cm,co,cC]
 refine A2 (rs:=[9]) (by kernel_rfl) (by simp) (Y rfl (λc b=>?_) Ax);go_simp;refine b.out _ _ a (λa=>?_);clear b c;try simp only[cm,co,cC]
 refine A2 (rs:=[10]) (by kernel_rfl) (by simp) (Y rfl (λc b=>?_) Ax);go_simp;refine b.out _ _ a (λa=>?_);clear b c;try simp only[cm,co,cC]
 refine A2 (rs:=[11]) (by kernel_rfl) (by simp) (Y rfl (λc b=>?_) Ax);go_simp;refine du (Ca _ _ (E.tk (i+2)) _) λd w=>?_;replace S:=Sq.below (Sq.below S (bH (ai _ _))) w;refine b.out _ _ ⟨S.cells.1,S.tkw h (by omega)⟩ (λa=>?_);clear b c;try simp only[cm,co,cC]
 refine A2 (rs:=[12]) (by kernel_rfl) (by simp) (Y rfl (λc b=>?_) Ax);go_simp;refine Sq.cq S A (by omega) ?_;rintro d _ v _ _ ⟨B,rfl,rfl,rfl⟩ S;refine b.out _ _ ⟨S.cells.1,S.tkw h (by omega)⟩ (λa=>?_);clear b c;try simp only[cm,co,cC]
 refine A2 (rs:=[13]) (by kernel_rfl) (by simp) (Y rfl (λc b=>?_) Ax);go_simp;refine b.out _ _ a (λa=>?_);clear b c;refine wpAnyH_done (by kernel_rfl) ?_ _;have s:=Sq.rd S;have r:=Sq.ln S;simp only[Fo.sz_app,Fo.sz]at r;go_wp2_with fail;refine(Sq.add (Sq.lit2 (Sq.set S)) (nm:=[(E.tk (i+1)).x]) (.inr (.tail _ (.head _))) (.inr (.head _)) (by omega)).mono ?_;rintro H d ⟨B,rfl,v,S⟩;go_wp2_with fail;go_ret;exact⟨_,_,_,_,rfl,⟨_,rfl,rfl,rfl⟩,Sq.fin S⟩
end
