import Derived.Test.YthkcmkmkapijkaaGreatDoorh09
import Derived.Test.YthkcmkmkapijkaaGreatDoorh03
set_option linter.all false
set_option maxRecDepth 100000
set_option maxHeartbeats 6400000
open Go.Proofs.Tryz
open List renaming length->M,range->Ax
open Go.Proofs.Tryz renaming prog->S
open Option renaming some->T,none->A0
open Bool renaming true->V,false->A2
open Go.RowKit renaming Below->Y
open Go renaming Value->A1,World->A3,Calls->A9
open Go.Obj renaming cells->A5
namespace Go.Proofs.YthkcmkmkapijkaaGreatDoor
variable{L:zLL}{Q:Exit->Act->World->Prop}{R1:List (Int×zLL)}{W W' w w0:World}{a s t:Int}{base mb n:Nat}{o:Oper}{ops:Array Oper}{v:Value}
def xy(a b:Int):zLL:=[[48,1,a],[44,117,45,a],[40,111,41,b]]
def mj(a:Int):zLL:=
 if a=100 then [[5,100],[102,101],[]]
 else if a=101 then [[5,100],[]]
 else if a=102 then [[22,1,109,103],[13,1,47,117],[18,1,113],[20,117,108,107],[31,117,108],[19,1,104],[11],[23],[27,111],[30,108,12,1,106,108],[28,117],[14,131],[108],[1,125],[40,117,41,127]]
 else if a=103 then [[47,110],[]]
 else if a=104 then [[47,117,46,117,105,108],[21,117,108],[46,1,109,21,117,108]]
 else if a=105 then [[46,117],[]]
 else if a=106 then [[46,1],[]]
 else if a=107 then [[15,117,108,107],[16,108],[]]
 else if a=108 then [[42,100,43]]
 else if a=109 then [[46,1,109],[]]
 else if a=110 then [[117,112]]
 else if a=111 then [[117,112],[]]
 else if a=112 then [[46,117,112],[]]
 else if a=113 then [[40,114,41,108]]
 else if a=114 then [[115],[]]
 else if a=115 then [[49],[1,116]]
 else if a=116 then [[46,115],[]]
 else if a=117 then [[118,119]]
 else if a=118 then [[25,118],[62,118],[50,118],[69,118],[1,120],[40,117,41,120],[2],[3],[4],[24],[29],[17],[49],[18,113],[121]]
 else if a=119 then []::([26,10,73,74,75,76,77,78,72,68,69,67,70,71,61,62,63,64,65,66].map λb=>[b,118,119])
 else if a=120 then xy 120 120++[[]]
 else if a=121 then [[42,122,43]]
 else if a=122 then [[124,123],[]]
 else if a=123 then [[46,122],[]]
 else if a=124 then [[117],[44,117,45,47,117],[48,1,47,117]]
 else if a=125 then xy 125 126++[[46,128],[47,110]]
 else if a=126 then xy 125 126++[[]]
 else if a=127 then xy 125 126
 else if a=128 then [[1,129],[40,117,41,130]]
 else if a=129 then xy 129 130++[[46,128],[47,110]]
 else if a=130 then xy 129 130
 else if a=131 then [[1,132],[40,117,41,132]]
 else if a=132 then xy 132 133
 else if a=133 then xy 132 133++[[]]
 else []
def EI:Nat->Int->Int->Bool|0,_,_=>A2|f+1,a,t=>if a<100 then decide (a=t) else(mj a).any λr=>match r with|[]=>A2|h::_=>EI f h t
def hdI(t:Int)(r:zLI):Bool:=match r with|[]=>A2|h::_=>EI 8 h t
def rwI(a t:Int):zLI:=((mj a).find?<|hdI t).getD []
def adf(a:Int):Bool:=(mj a).contains []
def kJ:zLI->Int->Bool|[],_=>A2|a::r,t=>ite (EI 9 a t=V) V<|ite (adf a=V) (kJ r t) A2
def nD:Nat->zLI->Int->Option (zLI)|0,_,_=>A0|_+1,[],_=>A0|f+1,a::r,t=>ite (a=t) (T r)<|nD f (rwI a t++r) t
def phi(a:Int):zLI:=
 if a=104 then [106] else if a=105 then [107] else if a=106 then [109] else if a=107 then [105] else if a=108 then [132] else if a=109 then [104] else if a=110 then [120,121,125] else if a=111 then [123] else if a=112 then [125]
 else if a=113 then [133] else if a=114 then [126] else if a=115 then [128] else if a=116 then [127] else if a=117 then [120,121] else if a=118 then [120] else if a=119 then [121] else if a=120 then [122] else if a=122 then [129] else if a=123 then [130] else if a=124 then [131]
 else ite (a=125) ([110]) (ite (a=126) ([111])<|ite (a=127) ([112])<|ite (a=128) ([113])<|ite (a=129) ([114])<|ite (a=130) ([115])<|ite (a=131) ([116])<|ite (a=132) ([117])<|ite (a=133) ([118])<|[a])
def psi(s:Int):zLI:=ite (s=119) ([120,121])<|ite (s=124) ([120,121,125])<|ite (s=108) ([123])<|[s]
def jB(a:zLI):zLI:=a.flatMap psi
def Ad(a:zLI):zLI:=a.flatMap phi
def okI(a:Int):Bool:=decide (1<=a/\a<=133/\a≠102/\a≠121)
theorem zG(a b):jB (a++b)=jB a++jB b:=by simp[jB]
def amt(a b):Ad (a++b)=Ad a++Ad b:=by simp[Ad]
theorem Ks:∀{f g}{b}{t}{n}{X},fJ f b t n=T X->f<=g->fJ g b t n=T X
 |0,_,_,_,_,_,h,_=>by simp[fJ]at h|f+1,0,_,_,_,_,_,a=>O|f+1,g+1,[],t,n,X,h,a=>by grind [fJ]|f+1,g+1,s::r,t,n,X,h,a=>by
  rw[fJ]at h⊢;split
  .grind
  .rename_i c;rw[aa c]at h;split
   .rename_i d;rw[ae d]at h;exact Ks h O
   grind
theorem adg:∀{f}{a c}{t}{n}{d}{b}{m},fJ f a t n=T (d,T b,m)->fJ f (a++c) t n=T (d++c,T b,m)
 |0,_,_,_,_,_,_,_,h=>by simp[fJ]at h|f+1,[],_,t,n,d,b,m,h=>by simp[fJ]at h|f+1,s::r,c,t,n,d,b,m,h=>by
  rw[fh];rw[fJ]at h⊢;split
  .grind
  .rename_i e;rw[aa e]at h;split
   .rename_i g;rw[ae g]at h;rw[<-fL];exact adg h
   grind
theorem qD:∀{f}{d}{t}{n}{e}{a}{m},By d->1<=t->t<=78->fJ f d t n=T (e,a,m)->∀r,(∀b,a=T b->feedL (d++r) t=(e++r,b))/\(a=A0->feedL (d++r) t=feedL r t)
 |0,_,_,_,_,_,_,_,_,_,h,_=>by simp[fJ]at h|f+1,[],t,n,e,a,m,k,w,o,h,r=>by
  grind [fJ,Option.some.injEq,Prod.mk.injEq]|f+1,s::p,t,n,e,a,m,k,w,o,h,r=>by
  rw[fh];by_cases A:s<100
  .obtain⟨rfl,rfl,rfl⟩:=qx h A;grind [iK,Option.some.inj]
  .by_cases j:(xE s t).1=[]/\(xE s t).2=V
   .rcases kF h O with⟨_,g⟩|⟨g,_⟩
    .rw[j.1,ga]at g;have u:=qD (λE G=>k E U) w o g r;grind [kC]
    grind
   .have⟨C,y,l,q,_⟩:=uh O (k s U) O o j;rw[lD O j q];have F:∃i,fJ 8 (s::p) t n=T (C++p,T y,i):=by
     have x:∀{f:Nat}{d:zLI}{l n2 v:Nat}{e:zLI}{a:Option Bool},fJ f d t l=T (e,a,v)->∃i,fJ f d t n2=T (e,a,i):=by
      intro f
      induction f with
      |zero=>grind [fJ]|succ f u=>
       intro d l n2 v e a h;cases d with
       |nil=>
        grind [fJ,Option.some.injEq,Prod.mk.injEq]|cons s r=>
        rw[fJ]at h⊢;split
        .grind
        .rename_i B;rw[aa B]at h;split
         .rename_i g;rw[ae g]at h;exact u h
         grind
     have⟨i,z⟩:=x (n2:=n) q;exact⟨i,by have:=adg (c:=p) z;grind⟩
    grind [Ks]
def auw(s t:Int):Bool:=match fJ 12 [s] t 0,fJ 12 (psi s) t 0 with
 |some (c,some a,_),some (d,some b,_)=>a==b&&(!a||decide (jB c=jB d))|some (_,none,_),some (_,none,_)=>V|_,_=>A2
def amu:((Ax 34).all λs=>(Ax 78).all λt=>auw ((s:Int)+100)<|(t:Int)+1)=V:=by rfl
def amv(a t:Int):Bool:=
 if EI 9 a t=V then(match nD 9 [a] t,fJ 12 (phi a) t 0 with
  |some b,some (c,some true,_)=>b.all okI&&decide (jB c=Ad b)|_,_=>A2)
 else if adf a=V then(rwI a t).isEmpty&&(match fJ 12 (phi a) t 0 with|some (_,none,_)=>V|_=>A2)
 else(match fJ 12 (phi a) t 0 with|some (_,some false,_)=>V|_=>A2)
def amw:((Ax 133).all λa=>!(okI<|(a:Int)+1)||(Ax 78).all λt=>amv ((a:Int)+1)<|(t:Int)+1)=V:=by rfl
theorem aqC(a:100<=s)(b:s<=133)(d:1<=t)(e:t<=78):auw s t=V:=by
 have c:=fH.1 (fH.1 amu (s-100).toNat U) (t-1).toNat U;grind
theorem ahm(b:okI a=V)(g:1<=t)(h:t<=78):amv a t=V:=by
 have f:=aL b;have d:=fH.1 amw (a-1).toNat U;have c:(((a-1).toNat:Nat):Int)+1=a:=O;rw[c,b]at d;have e:=fH.1 (by grind:((Ax 78).all λt=>amv a<|(t:Int)+1)=V) (t-1).toNat U;grind
theorem amx(h:s<=133):By (psi s):=by
 unfold psi;intro _ _;grind
theorem ajt(s):jB (psi s)=psi s:=by
 grind [psi,jB]
theorem yw:∀a:zLI,jB (jB a)=jB a
 |[]=>rfl|s::r=>by
  show jB (psi s++jB r)=psi s++jB r;rw[zG,ajt,yw]
def aff(s)(r:zLI):jB (s::r)=psi s++jB r:=rfl
def Kt(s)(r:zLI):Ad (s::r)=phi s++Ad r:=rfl
theorem Bb:∀{a}{t},By a->1<=t->t<=78->(feedL (jB a) t).2=(feedL a t).2/\((feedL a t).2=V->jB (feedL (jB a) t).1=jB (feedL a t).1)
 |[],t,h,_,_=>⟨R,λ_=>rfl⟩|s::r,t,h,b,c=>by
  have i:=h s U;rw[aff];by_cases k:s<100
  .have p:psi s=[s]:=by grind [psi]
   rw[p,zj,iK k,iK k];simp[yw]
  .have g:=aqC O i b c;unfold auw at g;have m:By [s]:=λn q=>U;split at g
   .rename_i u j w v o x e f;have d:=(qD m b c e r).1 j R;rw[zj]at d;rw[d,(qD (amx i) b c f _).1 _ rfl];rw[dF]at g;have l:j=o:=U;subst l;refine⟨R,λl=>?_⟩;grind [jB,zG,yw]
   .rename_i u w v x e f;have d:=(qD m b c e r).2 R;rw[zj]at d;rw[d,(qD (amx i) b c f _).2 rfl];exact Bb (λn q=>h n U) b c
   grind
def OkI(b:zLI):Prop:=∀a∈b,okI a=V
def aqD:((Ax 133).all λa=>!(okI<|(a:Int)+1)||((phi<|(a:Int)+1).all (λx=>decide (x<=133))&&decide (jB (phi<|(a:Int)+1)=phi ((a:Int)+1))))=V:=by rfl
theorem amy(b:okI a=V):By (phi a)/\jB (phi a)=phi a:=by
 have e:=aL b;have d:=fH.1 aqD (a-1).toNat U;have c:(((a-1).toNat:Nat):Int)+1=a:=O;rw[c,b,Bool.not_true,F9,dF]at d;exact⟨λ_ _=>aL U,U⟩
def auy(h:okI a=V):By (phi a):=(amy h).1
def aju(h:okI a=V):jB (phi a)=phi a:=(amy h).2
theorem Ib:∀{b},OkI b->jB (Ad b)=Ad b
 |[],_=>rfl|a::r,h=>by
  rw[Kt,zG,aju<|h a U,Ib (λc _=>h c U)]
theorem D6:∀{f}{a c b}{t},nD f a t=T b->nD f (a++c) t=T (b++c)
 |0,_,_,_,_,h=>by simp[nD]at h|f+1,[],_,_,_,h=>by simp[nD]at h|f+1,a::r,c,b,t,h=>by
  rw[fh];rw[nD]at h⊢;split
  .grind
  .rename_i d;rw[aa d]at h;rw[<-fL];exact D6 h
theorem Ic:∀{f g}{c b}{t},nD f c t=T b->f<=g->nD g c t=T b
 |0,_,_,_,_,h,_=>by simp[nD]at h|f+1,0,_,_,_,_,e=>O|f+1,g+1,[],_,_,h,_=>by simp[nD]at h|f+1,g+1,a::r,b,t,h,e=>by
  rw[nD]at h⊢;split
  .grind
  .rename_i d;rw[aa d]at h;exact Ic h O
theorem D7:∀{c}{t},OkI c->1<=t->t<=78->kJ c t=(feedL (Ad c) t).2/\(kJ c t=V->∃i,nD (M c+9) c t=T i/\OkI i/\jB (feedL (Ad c) t).1=Ad i)
 |[],t,j,_,_=>⟨R,λh=>by simp[kJ]at h⟩|a::r,t,j,e,f=>by
  have m:=j a U;have p:OkI r:=λl hx=>j l U;have b:=ahm m e f;have k:=auy m;rw[Kt,kJ];unfold amv at b;by_cases n:EI 9 a t=V
  .rw[ae n]at b⊢;split at b
   .rename_i g y q u d;rw[(qD k e f d _).1 _ rfl];rw[dF]at b;refine⟨R,λ_=>⟨g++r,?_,?_,?_⟩⟩
    .exact Ic (D6 u) O
    .intro l hx;obtain hx|hx:=dg.1 hx
     .grind
     .exact p l hx
    .show jB (y++Ad r)=Ad (g++r)
     simp_all [zG,amt,aL,Ib]
   grind
  .rw[aa n]at b⊢;by_cases o:adf a=V
   .rw[ae o]at b⊢;rw[dF]at b;have x:=b.2;split at x
    .rename_i g q d;rw[(qD k e f d _).2 rfl];have⟨v,w⟩:=D7 p e f;refine⟨v,λh=>?_⟩;have⟨i,C,p2,z⟩:=w h;refine⟨_,?_,p2,z⟩;have B:¬a=t:=λs=>by
      subst s;have:EI 9 a a=V:=by rw[EI,ifp];grind
      grind
     simp_all [rwI,nD,ga]
    grind
   .rw[aa o]at b⊢;split at b
    .rename_i g q d;have A:=(qD k e f d<|Ad r).1 _ R;grind
    grind
structure Jz (st stk:zLI):Prop where
 o1:OkI st
 o2:By stk
 eq:jB stk=Ad st
def Jz.may{a b}(h:Jz a b)(c:1<=t)(d:t<=78):kJ a t=(feedL b t).2:=by
 rw[(D7 h.o1 c d).1,<-h.eq];exact(Bb h.o2 c d).1
def Jz.pass{a f}(h:Jz a f)(b:1<=t)(c:t<=78)(e:kJ a t=V):∃d,nD (M a+9) a t=T d/\Jz d (feedL f t).1:=by
 have⟨d,g,p2,i⟩:=(D7 h.o1 b c).2 e;refine⟨_,g,p2,se h.o2 b c,?_⟩;rw[<-i,<-h.eq];exact((Bb h.o2 b c).2 (by rw[<-h.may b c];exact e)).symm
theorem ajv:Jz [100,6] [100,6]:=⟨by unfold OkI;decide,by grind [By],Z⟩
open Go.RowKit Go.Maps Go.WideMaps
def aaw:(S.info? 200).map (λi=>(i.zero,i.size,i.bytes))=T (T<|.agg #[zU 0,zU 0,zU 0,zU 0,zU 0,zU 0],6,6):=J
def rc(r:zLI):zLV:=(r++List.replicate (6-M r) 0).map zU
def wD(L:zLL):zLV:=L.flatMap rc
def ahn(a B):wD (a++B)=wD a++wD B:=by simp[wD]
def EJ(v:A1):Option (DataW A1×List MemPlace):=T (.held v,[])
def Fq(R1:List (Int×zLL))(a:Int):zLL:=((R1.find? (λb=>b.1==a)).map (·.2)).getD []
def vq(a L R1):Fq ((a,L)::R1) a=L:=by simp[Fq]
theorem sw{b}(h:a≠b)(L R1):Fq ((a,L)::R1) b=Fq R1 b:=by
 grind [Fq]
def jC(W:A3)(a:Nat)(v:A1)(L:zLL):Prop:=W.ownsRow a 200 6 v (M L)<|wD L
def amz(f:Int->A1):Prop:=∀a b,0<=a->a<=255->0<=b->b<=255->a≠b->(f a).ownBlock=A0\/(f a).ownBlock≠(f b).ownBlock
structure RM (W:A3) (base mb n:Nat) (R1:List (Int×zLL)):Prop where
 ex:∃(D:DataW A1) (f:Int->A1),W.ownsMap S 115 EJ mb n D/\(∀a,0<=a->a<=255->D.atKey (.int .u8 a) (.held<|.slice A0 0 0)= .held (f a)/\jC W base (f a) (Fq R1 a))/\amz f
 lo:base<=mb
def afg:Keyed S 115:=int_keyed underlying115
def jC.keep(h:jC W base v L)(a:Y W.heap.size W W'):jC W' base v L:=cj h a
def RM.below(h:RM W base mb n R1)(a:Y W.heap.size W W'):RM W' base mb n R1:=by
 have⟨D,f,g,e,i⟩:=h.ex;exact⟨⟨D,f,g.kept (row:=A0) ⟨a.os,a.tape,a.output,a.size,λk j _=>a.block k j⟩ I,λb c d=>⟨(e b c d).1,(e b c d).2.keep a⟩,i⟩,h.lo⟩
theorem RM.congr{b}(h:RM W base mb n R1)(c:∀a,0<=a->a<=255->Fq R1 a=Fq b a):RM W base mb n b:=by
 have⟨D,_,_,_,_⟩:=h.ex;exact⟨U,h.lo⟩
theorem zH{a c}(h:jC W base v L)(f:W.heap[mb]?=T (.map a c))(e:W.grownBy W' (T mb)):jC W' base v L:=by
 apply FH h e;obtain⟨_,rfl⟩|⟨b,_,rfl⟩:=aC h
 .exact .inl R
 .refine .inr ?_;intro _;obtain rfl:b=mb:=by grind [Value.ownBlock]
  obtain⟨d,_⟩|⟨_,_,_,d,_,_,_⟩:=h.2;all_goals grind
def afh(b:0<=a)(c:a<=255):keyOf S 115 (.int .u8 a)=T (.int .u8 a):=keyOf_int_mk underlying115<|WalkArith.wf_u8 ⟨b,c⟩
theorem um{E a}
  (j:o.guard=A0) (m x v) (an:o.op=Op.mapUpdate 107 m x v) (ak:a.eval m= .map (T mb)) (h:RM W base mb n R1) (d:Y W.heap.size W w) (c:n<1000) (s) (s0:0<=s) (ar:s<=255) (ap:a.eval x=zU s)
  (b) (ao:a.eval v=b) (L) (u:jC w W.heap.size b L) (H:Y base w0 W)
  (K:∀i,RM i base mb (n+1) ((s,L)::R1)->Y base w0 i->wpList S ops Q E (a.put o.dst undef) i):wpList S ops Q (o::E) a w:=by
 have⟨D,c,q,r,G⟩:=h.ex;have av:=q.lt;have ad:base<=W.heap.size:=by have:=h.lo;omega
 have A:=q.kept (row:=A0) ⟨d.os,d.tape,d.output,d.size,λC af _=>d.block C af⟩ I;apply wpList_mapUpdate_own w j m x v _ an _ _ afg underlying107 _ _ n D ak A (by grind [maxLen]) _ _ _ ap ao (afh s0 ar) _ _ R;intro i am t;obtain⟨_,_,B,_⟩:=A;refine K _ ⟨⟨_,λa=>ite (a=s) b<|c a,am,λa f g=>?_,?_⟩,h.lo⟩ ?_
 .by_cases l:a=s
  .subst l;rw[vq,atKey_put_same q.isMap (by trivial)];show DataW.held b=DataW.held (ite (a=a) b<|c a)/\jC i base (ite (a=a) b<|c a) L;rw[ae rfl];refine⟨R,zH (h:=?_) B t⟩;refine⟨u.1,?_⟩;obtain h|⟨e,_,_,k,_,p⟩:=u.2
   .grind
   .exact .inr ⟨e,_,_,k,O,p⟩
  .show _=DataW.held (ite (a=s) b<|c a)/\jC i base (ite (a=s) b<|c a) _;rw[sw O,aa l,atKey_put_other U];exact⟨(r a f g).1,zH ((r a f g).2.keep d) B t⟩
 .have a2:=λe j=>(u.lt e j).1;have ax:=λa f g e j=>((r a f g).2.lt e j).2;intro a k f g F p al;show(ite (a=s) b<|c a).ownBlock=A0\/(ite (a=s) b<|c a).ownBlock≠(ite (k=s) b<|c k).ownBlock;by_cases y:a=s
  .rw[ae y,Bw];cases hq:b.ownBlock with
   |none=>grind|some e=>grind
  .rw[aa y];by_cases z:k=s
   .rw[ae z];cases hq:(c a).ownBlock with
    |none=>grind|some e=>grind
   .rw[aa z];exact G a k f g F p al
 .have p:=d.mono ad;apply H.trans;exact p.grown t (by have:=d.size;omega) (λC l=>by cases l;exact h.lo)
theorem Id(w:A3)(cs:zAV)(L:zLL)(n)(a:M L=n)(d:cs.toList=wD L)(e:n<=1000)(f:∀r∈L,M r<=6):jC (w.alloc<|A5 cs 200 (0,0)) w.heap.size (bI w.heap.size n n) L:=by
 have c:∀L:zLL,(∀r∈L,M r<=6)->M (wD L)=M L*6:=by
  intro L
  induction L with
  |nil=>intro _;rfl|cons r L b=>
   simp_all [wD,rc,aG];omega
 have b:cs.size=n*6:=U;refine⟨U,.inr ⟨_,n,_,by rw[a],O,au w _,O,by grind [maxLen],b,?_⟩⟩;grind
def ri(s:Int):Int×zLL:=(s,mj s)
def amA:((Ax 256).all λa=>M (mj a)<=1000&&(mj a).all λr=>M r<=6)=V:=by decide+kernel
theorem Gj{c a k}{cs:zAV}
  (g:o.guard=A0) (m x v) (p:o.op=Op.mapUpdate 107 m x v) (j:a.eval m= .map (T mb)) (h:RM W base mb n R1) (r:a.eval x=zU s) (q:a.eval v=bI W.heap.size k k) (d:Y base w0 W)
  (e:∀b,RM b base mb (n+1) (ri s::R1)->Y base w0 b->wpList S ops Q c (a.put o.dst undef) b) (l:n<1000:=by omega) (s0:0<=s:=by decide) (t:s<=255:=by decide) (i:M (mj s)=k:=by kernel_rfl) (f:cs.toList=wD (mj s):=by kernel_rfl):wpList S ops Q (o::c) a (W.alloc<|A5 cs 200 (0,0)):=by
 have b:=fH.1 amA s.toNat U;rw[(O:((s.toNat:Nat):Int)=s)]at b;simp[fH]at b;exact um g m x v p j h (blR.alloc O _) l s s0 t r _ q _ (Id _ _ _ k i f O b.2) d e
def afi(p c w):
  A9 S 232 #[zU p,zU c] w λe a=>e= .returned (bI w.heap.size 3 3)/\jC a w.heap.size (bI w.heap.size 3 3) (xy p c)/\Y w.heap.size w a:=by
 go_in;go_wp2;go_ret;exact⟨R,Id _ _ _ 3 R R Z (by simp[xy]),blR.alloc O _⟩
def aho:∀u∈wD L,u.oneCell'=V:=by
 intro u b;rw[wD,List.mem_flatMap]at b;obtain⟨_,_,a⟩:=b;rw[rc,rm]at a;obtain⟨_,_,rfl⟩:=a;rfl
theorem ahp:∀{L:zLL},(∀r∈L,M r<=6)->M (wD L)=M L*6:=by
 intro L
 induction L with
 |nil=>intro _;rfl|cons r L b=>
  intro a;have:=a r I;rw[show wD (r::L)=rc r++wD L from rfl,aG,b U];simp[rc];omega
def yx{h a d}(k:o.guard=A0)(s x)
  (n:o.op= .call {callee:= .builtin .append,args:=#[s,x],argTypes:=#[278,278]}) (q:a.eval s=v) (f:jC d W.heap.size v L) (hS:Y W.heap.size W d) (cs:zAV) (m) (t:a.eval x=bI d.heap.size m m) (b:zLL) (g:M b=m) (i:cs.toList=wD b) (p:∀r∈b,M r<=6)
  (l:M L+m<=1000)
  (j:∀e c,jC c W.heap.size e (L++b)->Y W.heap.size W c->wpList S ops Q h (a.put o.dst e) c):wpList S ops Q (o::h) a (d.alloc<|A5 cs 200 (0,0)):=by
 have⟨_,u,w,y,z⟩:=dw aaw;refine nJ _ k s x _ n _ 200 _ _ 6 6 underlying278 u w y z R Z v _ _ q (World.ownsRow.alloc f _) _ m m _ t (by rw[ahp p,g]) ?_ aho byM O (by have:=hS.size;simp;omega) ?_
 .rw[<-i];exact World.news_of_block<|au _ _
 .intro e c b i _;refine j _ _ ?_ ?_
  .rw[jC,ahn,aG,g];exact b
  .exact(hS.alloc hS.size _).grown i (by have:=hS.size;simp;omega) (λA l=>(f.lt A l).1)
theorem adh(w c mb n R1)(H:RM w c mb n R1)(g:n<=100):
  A9 S 139 #[.map<|T mb] w λe a=>e= .returned (.tuple #[])/\RM a c mb (n+10) ((120,xy 120 120++[[]])::(133,xy 132 133++[[]])::(132,xy 132 133)::ri 131::(130,xy 129 130)::(129,xy 129 130++[[46,128],[47,110]])::ri 128::(127,xy 125 126)::(126,xy 125 126++[[]])::(125,xy 125 126++[[46,128],[47,110]])::R1)/\Y c w a:=by
 have b:Y c w w:=blR;go_in;go_wp2_with (first
  |(go_at_call 232;apply(afi _ _ _).mono;rintro e _ ⟨rfl,a,hS⟩)
  |(at_builtin;first
   |(refine yx R _ _ R R a hS _ 2 R [[46,128],[47,110]] rfl R Z Z ?_;clear a hS;intro d f a hS)|(apply yx R _ _ R R a hS _ 1 R [[]] rfl R Z Z;clear a hS;intro d f a hS))
  |(at_mapUpdate;first
   |(refine um R _ _ _ R R H hS O _ Z Z R _ R _ a b ?_;clear H b a hS;intro w1 H b)|(apply Gj R _ _ _ R R H R R b;clear H b;intro w1 H b)))
 go_end0
 grind
def Ie(k:Nat):zLL:=(td.take k).map λa=>[a,118,119]
theorem ajw(k)(a:k<20):Ie (k+1)=Ie k++[[td.getD k 0,118,119]]:=by
 unfold Ie;rw[gD,ej];have b:td[k]?=T (td.getD k 0):=by
  rw[ed];rw[bm (by simpa [td] using a)];rfl
 grind
def amB(k)(a:k<=20):M (Ie k)=k:=by
 rw[Ie,dm,mA];show min k 20=k;omega
def aqE:∀k:Fin 20,0<=td.getD k.val 0/\td.getD k.val 0<=100:=Z
def aH{b o}(h:w.heap[b]?=T o):b<w.heap.size:=(mE.1 h).1
def uo{c a D}(k:o.guard=A0)(m x)(p:o.op=Op.lookup 107 m x A2)(l:a.eval m= .map (T mb))
  (f:W.ownsMap S 115 EJ mb n D) (q:w.heap[mb]?=W.heap[mb]?) (s) (s0:0<=s) (t:s<=255) (r:a.eval x= .int .u8 s) (j:D.atKey (.int .u8 s) (.held<|.slice A0 0 0)= .held v)
  (h:wpList S ops Q c (a.put o.dst v) w):wpList S ops Q (o::c) a w:=by
 refine wpList_plain k λ_ i=>?_;have g:w.ownsMap S 115 EJ mb n D:=by
  obtain⟨_,b,d,e⟩:=f;exact⟨_,b,q.trans d,e⟩
 obtain⟨_,_,d,b⟩:=g.lookup afg underlying107 J (zd:= .held fe) R<|afh s0 t;rw[j]at b;simp only[EJ,mw,oI,DataW.held.injEq]at b;obtain⟨rfl,_⟩:=b;simp[Oper.wp,execOp,p,l,r,d];exact i _ _ h
theorem If{K a w1 D f}
  (u:o.guard=A0) (m x v) (ap:o.op=Op.mapUpdate 107 m x v) (am:a.eval m= .map (T mb))
  (l:W.ownsMap S 115 EJ mb n D) (k:∀a,0<=a->a<=255->D.atKey (.int .u8 a) (.held<|.slice A0 0 0)= .held (f a)/\jC W base (f a) (Fq R1 a)) (p:amz f) (ax:base<=mb) (s) (q:Y W.heap.size W w1) (z:w1.grownBy w (f s).ownBlock) (c:n<1000)
  (s0:0<=s) (h:s<=255) (av:a.eval x=zU s) (b) (ar:a.eval v=b) (L) (r:jC w base b L) (E:b.ownBlock=(f s).ownBlock\/b.ownBlock=T w1.heap.size) (af:Y base w0 W)
  (ak:∀i,RM i base mb (n+1) ((s,L)::R1)->Y base w0 i->wpList S ops Q K (a.put o.dst undef) i):wpList S ops Q (o::K) a w:=by
 have an:=l.lt;obtain⟨_,_,F,H⟩:=l;have al:=(q.block _ an).trans F;have G:∀g,(f s).ownBlock=T g->mb≠g:=by
  intro g c;have t:=(k s s0 h).2;obtain⟨d,_⟩|⟨j,_,_,d,_,_,_⟩:=t.2
  .rw[d]at c;cases c
  .rw[d]at c;obtain rfl:j=g:=by simpa [Value.ownBlock] using c
   grind
 have t:=(z.block _ U U).trans al;have ad:w.ownsMap S 115 EJ mb n D:=⟨_,_,t,H⟩;have l:W.ownsMap S 115 EJ mb n D:=⟨_,_,F,H⟩;apply wpList_mapUpdate_own w u m x v _ ap _ _ afg underlying107 _ _ n D am ad byM _ _ _ av ar (afh s0 h) _ _ R;intro i ao y;refine ak _ ⟨⟨_,λa=>ite (a=s) b<|f a,ao,λa c d=>?_,?_⟩,ax⟩ ?_
 .by_cases e:a=s
  .subst e;rw[vq,atKey_put_same l.isMap (by trivial)];show DataW.held b=DataW.held (ite (a=a) b<|f a)/\jC i base (ite (a=a) b<|f a) L;rw[ae rfl];exact⟨R,zH r t y⟩
  .show _=DataW.held (ite (a=s) b<|f a)/\jC i base (ite (a=s) b<|f a) _;rw[sw O,aa e,atKey_put_other U];exact⟨(k a c d).1,zH (FH ((k a c d).2.keep q) z<|p a s c d s0 h e) t y⟩
 .have a2:=λa c d g u=>((k a c d).2.lt g u).2;have a3:=q.size;intro a j c d A B G;show(ite (a=s) b<|f a).ownBlock=A0\/(ite (a=s) b<|f a).ownBlock≠(ite (j=s) b<|f j).ownBlock;by_cases r:a=s
  .rw[ae r,Bw];obtain e|e:=E
   .rw[e];exact p s j s0 h A B O
   grind
  .rw[aa r];by_cases C:j=s
   .rw[ae C];obtain e|e:=E
    .rw[e];exact p a s c d s0 h r
    grind
   .rw[aa C];exact p a j c d A B G
 .have p:base<=W.heap.size:=O;apply af.trans;have j:=(q.mono p).grown z U (λr e=>((k s s0 h).2.lt r e).1);exact j.grown y U U
def D8{h a b}(n:o.guard=A0)(s x)
  (q:o.op= .call {callee:= .builtin .append,args:=#[s,x],argTypes:=#[278,278]}) (u:a.eval s=v) (i:jC b base v L) (y:base<=b.heap.size) (cs:zAV) (m g) (w:a.eval x=bI g m m) (p:g=b.heap.size) (d:zLL) (f:M d=m) (j:cs.toList=wD d) (t:∀r∈d,M r<=6)
  (k:M L+m<=1000)
  (l:∀c e,jC e base c (L++d)->(b.alloc<|A5 cs 200 (0,0)).grownBy e v.ownBlock->(c.ownBlock=v.ownBlock\/c.ownBlock=T (b.alloc<|A5 cs 200 (0,0)).heap.size)->wpList S ops Q h (a.put o.dst c) e):wpList S ops Q (o::h) a (b.alloc<|A5 cs 200 (0,0)):=by
 subst p;have⟨_,y,z,A,B⟩:=dw aaw;refine wpList_append_own_at _ n s x _ q _ 200 _ _ 6 6 underlying278 y z A B R Z v _ _ u (World.ownsRow.alloc i _) _ m m _ w (by rw[ahp t,f]) ?_ aho byM O lr ?_
 .rw[<-j];exact World.news_of_block<|au _ _
 .intro c e d j _ k;refine l _ _ ?_ j k;rw[jC,ahn,aG,f];exact d
theorem adi(w c mb n R1)(H:RM w c mb n R1)(F:n<=100)(r fr)(u:w.heap[3]?=T (A5 Fg r fr))(v:3<c):
  A9 S 140 #[.map<|T mb] w λe a=>e= .returned (.tuple #[])/\RM a c mb (n+34) ([124,123,122,121].map ri++(119,[]::Ie 20)::([118,117,116,115,114,113,112,111,110].map ri++R1))/\Y c w a:=by
 have b:Y c w w:=blR;have⟨_,_,_,_,_⟩:=dw aaw;go_in;go_wp2_with (first
  |(at_mapUpdate;first
   |(refine um R _ _ _ R R H (blR.alloc eE _) O 119 Z Z R _ R [[]] ?own b ?_;(· exact Id _ _ _ 1 R R Z Z);clear H b;intro w1 H b)|(refine Gj R _ _ _ R R H R R b ?_;clear H b;intro w1 H b))
  |(refine zk R 280 _ R 3 R r _ fr _ ((b.block _ v).trans u) underlying280 R J ?_))
 go_loopw [54] (λj wr=>∃a:Nat,a<=20/\j=zI a/\RM wr c mb (n+10+a) ((119,[]::Ie a)::([118,117,116,115,114,113,112,111,110].map ri++R1))/\Y c w wr) (λj _=>20-(intOf j).toNat)
 .exact⟨0,O,R,H,b⟩
 .
  obtain⟨a,y,rfl,H,b⟩:=hrel;by_cases i:a<20
  .have h:=λw=>atA a i w;have⟨o,p⟩:=aqE ⟨a,i⟩;simp only at o p;have q:=ajw a i;have z:=amB a y;generalize td.getD a 0=k at h o p q;generalize uE (3*a+1)=E at h;generalize uE (3*a+2)=p2 at h;have⟨D,t,d,g,m⟩:=H.ex;have C:=H.lo;have f:=g 119 Z Z;rw[vq]at f;have A:=d.lt;have l:Hid (jC (wr.alloc<|A5 #[zI k,zI E,zI p2] 255) c (t 119) ([]::Ie a)/\Ie (a+1)=Ie a++[[k,118,119]]/\M (Ie a)=a):=⟨f.2.keep<|blR.alloc O _,q,z⟩;go_wp2_with (first
    |(at_lookup;refine uo R _ _ R R d ?blk _ Z Z R f.1 ?_)|(at_builtin;go_loud (refine D8 R _ _ R R l.1 lr _ 1 _ R I [[k,118,119]] rfl R I U ?_;intro _ _ B x s))|(at_mapUpdate;go_loud (refine If R _ _ _ R R d g m C _ ((blR.alloc O _).alloc I _) x O Z Z R _ R _ B s b ?_;clear H b d g m f;intro _ H b)))
   .exact alO A
   go_roundw
   .
    refine⟨a+1,O,by go_num,?_,b⟩;refine RM.congr H (λs _ _=>?_);by_cases e:s=119
    .subst e;rw[vq,vq,l.out.2.1];rfl
    .rw[sw O,sw O,sw O]
   simp[intOf];omega
  .obtain rfl:a=20:=O;go_wp2_with (at_mapUpdate;apply Gj R _ _ _ R R H R R b;clear H b;intro w1 H b);go_end0
   simp_all
def ti(N:Nd):Nd:={N with f:=0,t:=0,l:=0}
theorem adj(w a mb n R1)(H:RM w a mb n R1)(c:n<=100):
  A9 S 138 #[.map<|T mb] w λe b=>e= .returned (.tuple #[])/\RM b a mb (n+10) ([109,108,107,106,105,104,103,102,101,100].map ri++R1)/\Y a w b:=by
 have b:Y a w w:=blR;go_in;go_wp2_with (at_mapUpdate;refine Gj R _ _ _ R R H R R b ?_;clear H b;intro w1 H b);go_end0
 grind
