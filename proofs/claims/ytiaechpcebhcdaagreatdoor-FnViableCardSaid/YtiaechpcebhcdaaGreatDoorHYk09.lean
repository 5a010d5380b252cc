import Derived.Test.YtiaechpcebhcdaaGreatDoorHYk07
import Derived.Test.YtiaechpcebhcdaaGreatDoorHYk03
set_option linter.all false
set_option maxRecDepth 100000
set_option maxHeartbeats 6400000
open Go.Proofs.Tryz
open List renaming length->M,range->A0
open Go.Proofs.Tryz renaming prog->N
open Option renaming some->S,none->Y
open Go.RowKit renaming Below->T
open Bool renaming true->V,false->A5
open Go renaming Value->Ax,World->A2,Calls->A6
open Go.Obj renaming cells->A3
namespace Go.Proofs.YtiaechpcebhcdaaGreatDoor
variable{B base mb n:Nat}{L:List (List Int)}{Q:Exit->Act->World->Prop}{R:List (Int×List (List Int))}{W W' w w0:World}{a s t:Int}{c:List Nat}{o:Oper}{ops:Array Oper}{rest:List Oper}{v:Value}
def uv(a b:Int):List (List Int):=[[48,1,a],[44,117,45,a],[40,111,41,b]]
def lu(a:Int):List (List Int):=
 if a=100 then [[5,100],[102,101],[]]
 else if a=101 then [[5,100],[]]
 else if a=102 then [[22,1,109,103],[13,1,47,117],[18,1,113],[20,117,108,107],[31,117,108],[19,1,104],[11],[23],[27,111],[30,108,12,1,106,108],[28,117],[14,131],[108],[1,125],[40,117,41,127]]
 else if a=103 then [[47,110],[]]
 else if a=104 then [[47,117,46,117,105,108],[21,117,108],[46,1,109,21,117,108]]
 else if a=105 then [[46,117],[]]
 else if a=106 then [[46,1],[]]
 else if a=107 then [[15,117,108,107],[16,108],[]]
 else if a=108 then [[42,100,43]]
 else if a=109 then [[46,1,109],[]]
 else if a=110 then [[117,112]]
 else if a=111 then [[117,112],[]]
 else if a=112 then [[46,117,112],[]]
 else if a=113 then [[40,114,41,108]]
 else if a=114 then [[115],[]]
 else if a=115 then [[49],[1,116]]
 else if a=116 then [[46,115],[]]
 else if a=117 then [[118,119]]
 else if a=118 then [[25,118],[62,118],[50,118],[69,118],[1,120],[40,117,41,120],[2],[3],[4],[24],[29],[17],[49],[18,113],[121]]
 else if a=119 then []::([26,10,73,74,75,76,77,78,72,68,69,67,70,71,61,62,63,64,65,66].map λb=>[b,118,119])
 else if a=120 then uv 120 120++[[]]
 else if a=121 then [[42,122,43]]
 else if a=122 then [[124,123],[]]
 else if a=123 then [[46,122],[]]
 else if a=124 then [[117],[44,117,45,47,117],[48,1,47,117]]
 else if a=125 then uv 125 126++[[46,128],[47,110]]
 else if a=126 then uv 125 126++[[]]
 else if a=127 then uv 125 126
 else if a=128 then [[1,129],[40,117,41,130]]
 else if a=129 then uv 129 130++[[46,128],[47,110]]
 else if a=130 then uv 129 130
 else if a=131 then [[1,132],[40,117,41,132]]
 else if a=132 then uv 132 133
 else if a=133 then uv 132 133++[[]]
 else []
def BL:Nat->Int->Int->Bool
 |0,_,_=>A5
 |f+1,a,t=>if a<100 then decide (a=t) else(lu a).any λr=>match r with|[]=>A5|h::_=>BL f h t
def hdI(t:Int)(r:List Int):Bool:=match r with|[]=>A5|h::_=>BL 8 h t
def I9(a t:Int):List Int:=((lu a).find? (hdI t)).getD []
def LL(a:Int):Bool:=(lu a).contains []
def jg:List Int->Int->Bool
 |[],_=>A5
 |a::r,t=>if BL 9 a t=V then V else if LL a=V then jg r t else A5
def mj:Nat->List Int->Int->Option (List Int)
 |0,_,_=>Y
 |_+1,[],_=>Y
 |f+1,a::r,t=>if a=t then S r else mj f (I9 a t++r) t
def phi(a:Int):List Int:=
 if a=104 then [106] else if a=105 then [107] else if a=106 then [109] else if a=107 then [105] else if a=108 then [132] else if a=109 then [104] else if a=110 then [120,121,125] else if a=111 then [123] else if a=112 then [125]
 else if a=113 then [133] else if a=114 then [126] else if a=115 then [128] else if a=116 then [127] else if a=117 then [120,121] else if a=118 then [120] else if a=119 then [121] else if a=120 then [122] else if a=122 then [129] else if a=123 then [130] else if a=124 then [131]
 else if a=125 then [110] else if a=126 then [111] else if a=127 then [112] else if a=128 then [113] else if a=129 then [114] else if a=130 then [115] else if a=131 then [116] else if a=132 then [117] else if a=133 then [118] else [a]
def psi(s:Int):List Int:=if s=119 then [120,121] else if s=124 then [120,121,125] else if s=108 then [123] else [s]
def ij(st:List Int):List Int:=st.flatMap psi
def vf(st:List Int):List Int:=st.flatMap phi
def okI(a:Int):Bool:=decide (1<=a/\a<=133/\a≠102/\a≠121)
def ti(a b:List Int):ij (a++b)=ij a++ij b:=by simp[ij]
def ah1(a b:List Int):vf (a++b)=vf a++vf b:=by simp[vf]
theorem Ba:∀{f g:Nat}{st:List Int}{t:Int}{n:Nat}{X:List Int×Option Bool×Nat},fi f st t n=S X->f<=g->fi g st t n=S X
 |0,_,_,_,_,_,h,_=>by simp[fi]at h
 |f+1,0,_,_,_,_,_,a=>O
 |f+1,g+1,[],t,n,X,h,a=>by rw[fi]at h⊢;exact h
 |f+1,g+1,s::r,t,n,X,h,a=>by
  rw[fi]at h⊢;split
  .grind
  .rename_i b;rw[aa b]at h;split
   .rename_i c;rw[ab c]at h;exact Ba h O
   grind
theorem L8:∀{f:Nat}{a c:List Int}{t:Int}{n:Nat}{lo:List Int}{b:Bool}{m:Nat},fi f a t n=S (lo,S b,m)->fi f (a++c) t n=S (lo++c,S b,m)
 |0,_,_,_,_,_,_,_,h=>by simp[fi]at h
 |f+1,[],_,t,n,lo,b,m,h=>by simp[fi]at h
 |f+1,s::r,c,t,n,lo,b,m,h=>by
  rw[dt];rw[fi]at h⊢;split
  .grind
  .rename_i d;rw[aa d]at h;split
   .rename_i e;rw[ab e]at h;rw[<-eB];exact L8 h
   grind
theorem oJ:∀{f:Nat}{st:List Int}{t:Int}{n:Nat}{lo:List Int}{a:Option Bool}{m:Nat},yu st->1<=t->t<=78->fi f st t n=S (lo,a,m)->∀r,(∀b,a=S b->feedL (st++r) t=(lo++r,b))/\(a=Y->feedL (st++r) t=feedL r t)
 |0,_,_,_,_,_,_,_,_,_,h,_=>by simp[fi]at h
 |f+1,[],t,n,lo,a,m,k,w,p,h,r=>by
  simp only[fi,iL,pA]at h;grind
 |f+1,s::q,t,n,lo,a,m,k,w,p,h,r=>by
  rw[dt];by_cases v:s<100
  .obtain⟨rfl,rfl,rfl⟩:=sF h v;refine⟨λb B=>?_,λh=>by cases h⟩;rw[jw v,<-cC B]
  .by_cases g:(xE s t).1=[]/\(xE s t).2=V
   .rcases lI h O with⟨_,e⟩|⟨e,_⟩
    .rw[g.1,dI]at e;have l:=oJ (λF C=>k F (dC _ C)) w p e r;rw[mA O g];exact l
    grind
   .have⟨E,y,i,u,_⟩:=vC O (k s (bH ..)) O p g;rw[mC O g u];have j:∃d,fi 8 (s::q) t n=S (E++q,S y,d):=by
     have x:∀{f:Nat}{st:List Int}{i n2 o:Nat}{lo:List Int}{a:Option Bool},fi f st t i=S (lo,a,o)->∃d,fi f st t n2=S (lo,a,d):=by
      intro f
      induction f with
      |zero=>intro st i n2 o lo a h;simp[fi]at h
      |succ f l=>
       intro st i n2 o lo a h;cases st with
       |nil=>
        simp only[fi,iL,pA]at h⊢;grind
       |cons s r=>
        rw[fi]at h⊢;split
        .grind
        .rename_i A;rw[aa A]at h;split
         .rename_i e;rw[ab e]at h;exact l h
         grind
     have⟨d,z⟩:=x (n2:=n) u;exact⟨d,by have:=L8 (c:=q) z;grind⟩
    obtain⟨d,j⟩:=j;have G:=Ba h (O:f+1<=f+9);have H:=Ba j (O:8<=f+9);grind
def ao3(s t:Int):Bool:=match fi 12 [s] t 0,fi 12 (psi s) t 0 with
 |some (c,some a,_),some (d,some b,_)=>a==b&&(!a||decide (ij c=ij d))
 |some (_,none,_),some (_,none,_)=>V
 |_,_=>A5
def ah2:((A0 34).all λs=>(A0 78).all λt=>ao3 ((s:Int)+100) ((t:Int)+1))=V:=by rfl
def ah3(a t:Int):Bool:=
 if BL 9 a t=V then(match mj 9 [a] t,fi 12 (phi a) t 0 with
  |some b,some (c,some true,_)=>b.all okI&&decide (ij c=vf b)
  |_,_=>A5)
 else if LL a=V then(I9 a t).isEmpty&&(match fi 12 (phi a) t 0 with|some (_,none,_)=>V|_=>A5)
 else(match fi 12 (phi a) t 0 with|some (_,some false,_)=>V|_=>A5)
def ah4:((A0 133).all λa=>!(okI ((a:Int)+1))||(A0 78).all λt=>ah3 ((a:Int)+1) ((t:Int)+1))=V:=by rfl
theorem alD(a:100<=s)(b:s<=133)(d:1<=t)(e:t<=78):ao3 s t=V:=by
 have c:=List.all_eq_true.1 (List.all_eq_true.1 ah2 (s-100).toNat U) (t-1).toNat U;grind
theorem ad1(b:okI a=V)(g:1<=t)(h:t<=78):ah3 a t=V:=by
 have f:=be b;have d:=List.all_eq_true.1 ah4 (a-1).toNat U;have c:(((a-1).toNat:Nat):Int)+1=a:=O;rw[c,b]at d;have e:=List.all_eq_true.1 (by grind:((A0 78).all λt=>ah3 a ((t:Int)+1))=V) (t-1).toNat U;grind
theorem ah5(h:s<=133):yu (psi s):=by
 unfold psi;intro b a;grind
def af2(s:Int):ij (psi s)=psi s:=by
 unfold psi;split
 .decide
 split
 .decide
 split
 .decide
 .rename_i a b c;simp[ij,psi,a,b,c]
def wd:∀st:List Int,ij (ij st)=ij st
 |[]=>rfl
 |s::r=>by
  show ij (psi s++ij r)=psi s++ij r;rw[ti,af2,wd r]
def aca(s:Int)(r:List Int):ij (s::r)=psi s++ij r:=rfl
def Hc(s:Int)(r:List Int):vf (s::r)=phi s++vf r:=rfl
theorem yz:∀{st:List Int}{t:Int},yu st->1<=t->t<=78->(feedL (ij st) t).2=(feedL st t).2/\((feedL st t).2=V->ij (feedL (ij st) t).1=ij (feedL st t).1)
 |[],t,h,_,_=>⟨rfl,λ_=>rfl⟩
 |s::r,t,h,a,b=>by
  have i:=h s (bH ..);rw[aca];by_cases n:s<100
  .have u:psi s=[s]:=by unfold psi;grind
   rw[u,zl,jw n,jw n];exact⟨rfl,λ_=>wd r⟩
  .have g:=alD O i a b;unfold ao3 at g;have o:yu [s]:=λq p=>U;split at g
   .rename_i j l w k m x e f;have c:=(oJ o a b e r).1 l rfl;rw[zl]at c;rw[c,(oJ (ah5 i) a b f (ij r)).1 m rfl];rw[cH]at g;have d:l=m:=U;subst d;refine⟨rfl,λd=>?_⟩;simp only at d;subst d;have v:ij j=ij k:=U;show ij (k++ij r)=ij (j++r);rw[ti,ti,wd,v]
   .rename_i j w k x e f;have c:=(oJ o a b e r).2 rfl;rw[zl]at c;rw[c,(oJ (ah5 i) a b f (ij r)).2 rfl];exact yz (λq p=>h q (dC _ p)) a b
   grind
def OkI(st:List Int):Prop:=∀a∈st,okI a=V
def alE:((A0 133).all λa=>!(okI ((a:Int)+1))||((phi ((a:Int)+1)).all (λx=>decide (x<=133))&&decide (ij (phi ((a:Int)+1))=phi ((a:Int)+1))))=V:=by rfl
theorem ah6(c:okI a=V):yu (phi a)/\ij (phi a)=phi a:=by
 have g:=be c;have b:=List.all_eq_true.1 alE (a-1).toNat U;have d:(((a-1).toNat:Nat):Int)+1=a:=O;rw[d,c,Bool.not_true,Bool.false_or,cH]at b;exact⟨λf e=>be (List.all_eq_true.1 b.1 f e),be b.2⟩
def ao4(h:okI a=V):yu (phi a):=(ah6 h).1
def af3(h:okI a=V):ij (phi a)=phi a:=(ah6 h).2
def Eh:∀{st:List Int},OkI st->ij (vf st)=vf st
 |[],_=>rfl
 |a::r,h=>by
  rw[Hc,ti,af3 (h a (bH ..)),Eh (λc b=>h c (dC _ b))]
theorem Bb:∀{f:Nat}{a c lo:List Int}{t:Int},mj f a t=S lo->mj f (a++c) t=S (lo++c)
 |0,_,_,_,_,h=>by simp[mj]at h
 |f+1,[],_,_,_,h=>by simp[mj]at h
 |f+1,a::r,c,lo,t,h=>by
  rw[dt];rw[mj]at h⊢;split
  .grind
  .rename_i b;rw[aa b]at h;rw[<-eB];exact Bb h
theorem Ei:∀{f g:Nat}{st lo:List Int}{t:Int},mj f st t=S lo->f<=g->mj g st t=S lo
 |0,_,_,_,_,h,_=>by simp[mj]at h
 |f+1,0,_,_,_,_,c=>O
 |f+1,g+1,[],_,_,h,_=>by simp[mj]at h
 |f+1,g+1,a::r,lo,t,h,c=>by
  rw[mj]at h⊢;split
  .grind
  .rename_i b;rw[aa b]at h;exact Ei h O
theorem Bc:∀{st:List Int}{t:Int},OkI st->1<=t->t<=78->jg st t=(feedL (vf st) t).2/\(jg st t=V->∃st',mj (M st+9) st t=S st'/\OkI st'/\ij (feedL (vf st) t).1=vf st')
 |[],t,i,_,_=>⟨rfl,λh=>by simp[jg]at h⟩
 |a::r,t,i,e,f=>by
  have m:=i a (bH ..);have k:OkI r:=λl hx=>i l (dC _ hx);have b:=ad1 m e f;have j:=ao4 m;rw[Hc,jg];unfold ah3 at b;by_cases n:BL 9 a t=V
  .rw[ab n]at b⊢;split at b
   .rename_i g z p s d;rw[(oJ j e f d (vf r)).1 V rfl];rw[cH]at b;refine⟨rfl,λ_=>⟨g++r,?_,?_,?_⟩⟩
    .exact Ei (Bb (c:=r) s) O
    .intro l hx;rcases List.mem_append.1 hx with hx|hx
     .grind
     .exact k l hx
    .show ij (z++vf r)=vf (g++r);rw[ti,ah1,be b.2]
     congr 1
     exact Eh k
   grind
  .rw[aa n]at b⊢;by_cases o:LL a=V
   .rw[ab o]at b⊢;rw[cH]at b;have x:=b.2;split at x
    .rename_i g p d;rw[(oJ j e f d (vf r)).2 rfl];have⟨u,v⟩:=Bc k e f;refine⟨u,λh=>?_⟩;have⟨st',A,p2,B⟩:=v h;refine⟨st',?_,p2,B⟩;have w:¬a=t:=λq=>by
      subst q;have:BL 9 a a=V:=by rw[BL,ifp];grind
      grind
     have y:I9 a t=[]:=U;rw[show(a::r).length+9=(M r+9)+1 from Nat.add_right_comm (M r) 1 9,mj,aa w,y,dI];exact A
    grind
   .rw[aa o]at b⊢;split at b
    .rename_i g p d;have C:=(oJ j e f d (vf r)).1 A5 rfl;grind
    grind
structure Gl (st stk:List Int):Prop where
 o1:OkI st
 o2:yu stk
 eq:ij stk=vf st
def Gl.may{st a:List Int}(h:Gl st a)(b:1<=t)(c:t<=78):jg st t=(feedL a t).2:=by
 rw[(Bc h.o1 b c).1,<-h.eq];exact(yz h.o2 b c).1
def Gl.pass{st d:List Int}(h:Gl st d)(a:1<=t)(b:t<=78)(c:jg st t=V):∃st',mj (M st+9) st t=S st'/\Gl st' (feedL d t).1:=by
 have⟨st',e,p2,f⟩:=(Bc h.o1 a b).2 c;refine⟨st',e,p2,nE h.o2 a b,?_⟩;rw[<-f,<-h.eq];exact((yz h.o2 a b).2 (by rw[<-h.may a b];exact c)).symm
def af4:Gl [100,6] [100,6]:=⟨by unfold OkI;decide,by unfold yu;decide,Z⟩
open Go.RowKit Go.Maps Go.WideMaps
def Ja:(Tryz.prog.info? 150).map (λi=>(i.zero,i.size,i.bytes))=S (S (.agg #[.int .u8 0,.int .u8 0,.int .u8 0,.int .u8 0,.int .u8 0,.int .u8 0]),6,6):=J
def rc(r:List Int):List Ax:=(r++List.replicate (6-M r) 0).map (Value.int .u8)
def Dh(L:List (List Int)):List Ax:=L.flatMap rc
def ad2(a B:List (List Int)):Dh (a++B)=Dh a++Dh B:=by simp[Dh]
def yg(v:Ax):Option (DataW Ax×List MemPlace):=S (.held v,[])
def Cq(R:List (Int×List (List Int)))(a:Int):List (List Int):=((R.find? (λb=>b.1==a)).map (·.2)).getD []
def tj(a:Int)(L:List (List Int))(R:List (Int×List (List Int))):Cq ((a,L)::R) a=L:=by simp[Cq]
theorem qy{b:Int}(h:a≠b)(L:List (List Int))(R:List (Int×List (List Int))):Cq ((a,L)::R) b=Cq R b:=by
 unfold Cq;grind
def jh(W:A2)(base:Nat)(v:Ax)(L:List (List Int)):Prop:=W.ownsRow base 150 6 v (M L) (Dh L)
def ah7(f:Int->Ax):Prop:=∀a b,0<=a->a<=255->0<=b->b<=255->a≠b->(f a).ownBlock=Y\/(f a).ownBlock≠(f b).ownBlock
structure RM (W:A2) (base mb n:Nat) (R:List (Int×List (List Int))):Prop where
 ex:∃(D:DataW Ax) (f:Int->Ax),W.ownsMap N 87 yg mb n D/\(∀a,0<=a->a<=255->D.atKey (.int .u8 a) (.held (.slice Y 0 0))= .held (f a)/\jh W base (f a) (Cq R a))/\ah7 f
 lo:base<=mb
def acb:Keyed N 87:=int_keyed underlying87
def jh.keep(h:jh W base v L)(a:T W.heap.size W W'):jh W' base v L:=bz h a
def RM.below(h:RM W base mb n R)(a:T W.heap.size W W'):RM W' base mb n R:=by
 have⟨D,f,g,e,i⟩:=h.ex;exact⟨⟨D,f,g.kept (row:=Y) ⟨a.os,a.tape,a.output,a.size,λk j _=>a.block k j⟩ I,λb c d=>⟨(e b c d).1,(e b c d).2.keep a⟩,i⟩,h.lo⟩
theorem RM.congr{b:List (Int×List (List Int))}(h:RM W base mb n R)(j:∀a,0<=a->a<=255->Cq R a=Cq b a):RM W base mb n b:=by
 have⟨D,c,d,i,e⟩:=h.ex;exact⟨⟨D,c,d,λa f g=>U,e⟩,h.lo⟩
def RM.mono{a:Nat}(h:RM W base mb n R)(hn:n<=a):RM W base mb a R:=by
 have⟨D,b,c,d⟩:=h.ex;exact⟨⟨D,b,c.mono hn,d⟩,h.lo⟩
theorem xu{b:Array MapEntry}{c:Nat}(h:jh W base v L)(m:W.heap[mb]?=S (.map b c))(f:W.grownBy W' (S mb)):jh W' base v L:=by
 apply C4 h f;rcases bm h with⟨_,rfl⟩|⟨d,g,rfl⟩
 .exact .inl rfl
 .refine .inr ?_;intro a;obtain rfl:d=mb:=by simpa [Value.ownBlock] using a
  rcases h.2 with⟨e,_⟩|⟨k,i,j,e,_,l,_⟩;all_goals grind
def acd(b:0<=a)(c:a<=255):keyOf N 87 (.int .u8 a)=S (.int .u8 a):=keyOf_int_mk underlying87 (WalkArith.wf_u8 ⟨b,c⟩)
theorem sh{a:Act}
  (k:o.guard=Y) (m x v:Operand) (ap:o.op=Op.mapUpdate 79 m x v) (am:a.eval m= .map (S mb)) (h:RM W base mb n R) (e:T W.heap.size W w) (hn:n<1000) (s:Int) (s0:0<=s) (aL:s<=255) (av:a.eval x= .int .u8 s)
  (b:Ax) (ar:a.eval v=b) (L:List (List Int)) (u:jh w W.heap.size b L) (af:T base w0 W)
  (ag:∀f,RM f base mb (n+1) ((s,L)::R)->T base w0 f->wpList N ops Q rest (a.put o.dst undef) f):wpList N ops Q (o::rest) a w:=by
 have⟨D,d,q,r,ad⟩:=h.ex;have a5:=q.lt;have ak:base<=W.heap.size:=by have:=h.lo;omega
 have A:=q.kept (row:=Y) ⟨e.os,e.tape,e.output,e.size,λC al _=>e.block C al⟩ I;refine wpList_mapUpdate_own w k m x v 79 ap 87 191 acb underlying79 yg mb n D am A py _ _ _ av ar (acd s0 aL) (.held b) [] rfl ?_;intro f ao t;obtain⟨a4,a2,B,_⟩:=A;refine ag f ⟨⟨_,λa=>if a=s then b else d a,ao,λa g i=>?_,?_⟩,h.lo⟩ ?_
 .by_cases j:a=s
  .subst j;rw[tj,atKey_put_same q.isMap (by trivial)];show DataW.held b=DataW.held (if a=a then b else d a)/\jh f base (if a=a then b else d a) L;rw[ab rfl];refine⟨rfl,xu (h:=?_) B t⟩;refine⟨u.1,?_⟩;rcases u.2 with h|⟨c,F,G,H,a3,K⟩
   .grind
   .exact .inr ⟨c,F,G,H,O,K⟩
  .show _=DataW.held (if a=s then b else d a)/\jh f base (if a=s then b else d a) _;rw[qy (λh=>j h.symm),aa j,atKey_put_other U];exact⟨(r a g i).1,xu ((r a g i).2.keep e) B t⟩
 .have a7:∀c,b.ownBlock=S c->W.heap.size<=c:=λc k=>(u.lt c k).1;have a6:∀a,0<=a->a<=255->∀c,(d a).ownBlock=S c->c<W.heap.size:=λa g i c k=>((r a g i).2.lt c k).2;intro a l g i E p an;show(if a=s then b else d a).ownBlock=Y\/(if a=s then b else d a).ownBlock≠(if l=s then b else d l).ownBlock;by_cases y:a=s
  .rw[ab y,Ga];cases hq:b.ownBlock with
   |none=>grind
   |some c=>grind
  .rw[aa y];by_cases z:l=s
   .rw[ab z];cases hq:(d a).ownBlock with
    |none=>grind
    |some c=>grind
   .rw[aa z];exact ad a l g i E p an
 .have p:=e.mono ak;apply af.trans;exact p.grown t (by have:=e.size;omega) (λC j=>by cases j;exact h.lo)
theorem Ej(w:A2)(cs:Array Ax)(L:List (List Int))(n:Nat)(hn:M L=n)(f:cs.toList=Dh L)(g:n<=1000)(h:∀r∈L,M r<=6):jh (w.alloc (A3 cs 150 (0,0))) w.heap.size (.slice (S ⟨w.heap.size,0,Y⟩) n n) L:=by
 have e:∀L:List (List Int),(∀r∈L,M r<=6)->M (Dh L)=M L*6:=by
  intro L
  induction L with
  |nil=>intro _;rfl
  |cons r L c=>
   intro a;have:=a r I;rw[show Dh (r::L)=rc r++Dh L from rfl,aB,c (λd i=>a d U)];simp[rc];omega
 have b:cs.size=n*6:=U;refine⟨U,.inr ⟨w.heap.size,n,cs,by rw[hn],cJ,ay w _,O,py,b,?_⟩⟩;grind
def ri(s:Int):Int×List (List Int):=(s,lu s)
def ah8:((A0 256).all λa=>M (lu a)<=1000&&(lu a).all λr=>M r<=6)=V:=by decide+kernel
theorem Di{a:Act}{k:Nat}{cs:Array Ax}
  (g:o.guard=Y) (m x v:Operand) (l:o.op=Op.mapUpdate 79 m x v) (j:a.eval m= .map (S mb)) (h:RM W base mb n R) (q:a.eval x= .int .u8 s) (p:a.eval v= .slice (S ⟨W.heap.size,0,Y⟩) k k) (d:T base w0 W)
  (e:∀c,RM c base mb (n+1) (ri s::R)->T base w0 c->wpList N ops Q rest (a.put o.dst undef) c) (hn:n<1000:=by omega) (s0:0<=s:=by decide) (r:s<=255:=by decide) (i:M (lu s)=k:=by kernel_rfl) (f:cs.toList=Dh (lu s):=by kernel_rfl):wpList N ops Q (o::rest) a (W.alloc (A3 cs 150 (0,0))):=by
 have b:=List.all_eq_true.1 ah8 s.toNat U;rw[(O:((s.toNat:Nat):Int)=s)]at b;simp only[cH,decide_eq_true_eq,tK]at b;exact sh g m x v l j h ((ai _ _).alloc cJ _) hn s s0 r q _ p _ (Ej _ _ _ k i f O b.2) d e
def ace(p c:Int)(w:A2):
  A6 N 113 #[.int .u8 p,.int .u8 c] w λe a=>e= .returned (.slice (S ⟨w.heap.size,0,Y⟩) 3 3)/\jh a w.heap.size (.slice (S ⟨w.heap.size,0,Y⟩) 3 3) (uv p c)/\T w.heap.size w a:=by
 go_in;go_wp2;go_ret;exact⟨rfl,Ej _ _ (uv p c) 3 rfl rfl Z (by simp[uv]),(ai _ _).alloc cJ _⟩
def ad3:∀u∈Dh L,u.oneCell'=V:=by
 intro u b;rw[Dh,List.mem_flatMap]at b;obtain⟨c,_,a⟩:=b;rw[rc,List.mem_map]at a;obtain⟨d,_,rfl⟩:=a;rfl
theorem ad4:∀{L:List (List Int)},(∀r∈L,M r<=6)->M (Dh L)=M L*6:=by
 intro L
 induction L with
 |nil=>intro _;rfl
 |cons r L b=>
  intro a;have:=a r I;rw[show Dh (r::L)=rc r++Dh L from rfl,aB,b (λc d=>a c U)];simp[rc];omega
def we{a:Act}{b:A2}(l:o.guard=Y)(s x:Operand)
  (p:o.op= .call {callee:= .builtin .append,args:=#[s,x],argTypes:=#[191,191]}) (t:a.eval s=v) (f:jh b W.heap.size v L) (hS:T W.heap.size W b) (cs:Array Ax) (m:Nat) (u:a.eval x= .slice (S ⟨b.heap.size,0,Y⟩) m m) (c:List (List Int)) (g:M c=m) (k:cs.toList=Dh c) (q:∀r∈c,M r<=6)
  (E:M L+m<=1000)
  (j:∀e d,jh d W.heap.size e (L++c)->T W.heap.size W d->wpList N ops Q rest (a.put o.dst e) d):wpList N ops Q (o::rest) a (b.alloc (A3 cs 150 (0,0))):=by
 have⟨w,y,z,A,B⟩:=eC Ja;refine pF _ l s x 191 p W.heap.size 150 w _ 6 6 underlying191 y z A B rfl Z v (M L) (Dh L) t (World.ownsRow.alloc f _) ⟨b.heap.size,0,Y⟩ m m (Dh c) u (by rw[ad4 q,g]) ?_ ad3 py O (by have:=hS.size;simp;omega) ?_
 .rw[<-k];exact World.news_of_block (cs:=cs) (fr:=(0,0)) (ay b _)
 .intro e d h i _;refine j e d ?_ ?_
  .rw[jh,ad2,aB,g];exact h
  .exact(hS.alloc hS.size _).grown i (by have:=hS.size;simp;omega) (λC n=>(f.lt C n).1)
theorem L9(w:A2)(base mb n:Nat)(R:List (Int×List (List Int)))(H:RM w base mb n R)(hn:n<=100):
  A6 N 72 #[.map (S mb)] w λe c=>e= .returned (.tuple #[])/\RM c base mb (n+10) ((120,uv 120 120++[[]])::(133,uv 132 133++[[]])::(132,uv 132 133)::ri 131::(130,uv 129 130)::(129,uv 129 130++[[46,128],[47,110]])::ri 128::(127,uv 125 126)::(126,uv 125 126++[[]])::(125,uv 125 126++[[46,128],[47,110]])::R)/\T base w c:=by
 have b:T base w w:=ai _ _;go_in;go_wp2_with (first
  |(go_at_call 113;apply(ace _ _ _).mono;rintro e g ⟨rfl,a,hS⟩)
  |(at_builtin;first
   |(refine we rfl _ _ rfl rfl a hS _ 2 rfl [[46,128],[47,110]] rfl rfl Z Z ?_;clear a hS;intro d f a hS)
   |(refine we rfl _ _ rfl rfl a hS _ 1 rfl [[]] rfl rfl Z Z ?_;clear a hS;intro d f a hS))
  |(at_mapUpdate;first
   |(refine sh rfl _ _ _ rfl rfl H hS O _ Z Z rfl _ rfl _ a b ?_;clear H b a hS;intro w1 H b)
   |(refine Di rfl _ _ _ rfl rfl H rfl rfl b ?_;clear H b;intro w1 H b)))
 go_end0
 grind
def Ek(k:Nat):List (List Int):=(sI.take k).map λa=>[a,118,119]
theorem af5(k:Nat)(a:k<20):Ek (k+1)=Ek k++[[sI.getD k 0,118,119]]:=by
 unfold Ek;rw[il,fy];have b:sI[k]?=S (sI.getD k 0):=by
  rw[er];rw[bi (by simpa [sI] using a)];rfl
 grind
def ah9(k:Nat)(a:k<=20):M (Ek k)=k:=by
 rw[Ek,dr,oq];show min k 20=k;omega
def alF:∀k:Fin 20,0<=sI.getD k.val 0/\sI.getD k.val 0<=100:=Z
def aA{b:Nat}{o:Obj}(h:w.heap[b]?=S o):b<w.heap.size:=(Array.getElem?_eq_some_iff.1 h).1
def si{a:Act}{D:DataW Ax}(l:o.guard=Y)(m x:Operand)(q:o.op=Op.lookup 79 m x A5)(p:a.eval m= .map (S mb))
  (g:W.ownsMap N 87 yg mb n D) (t:w.heap[mb]?=W.heap[mb]?) (s:Int) (s0:0<=s) (y:s<=255) (u:a.eval x= .int .u8 s) (k:D.atKey (.int .u8 s) (.held (.slice Y 0 0))= .held v)
  (i:wpList N ops Q rest (a.put o.dst v) w):wpList N ops Q (o::rest) a w:=by
 refine wpList_plain l λz j=>?_;have h:w.ownsMap N 87 yg mb n D:=by
  obtain⟨f,c,d,e⟩:=g;exact⟨f,c,t.trans d,e⟩
 obtain⟨B,A,r,b⟩:=h.lookup acb underlying79 ((J:(zeroValue 191).run N w= .ok (.slice Y 0 0) w)) (zd:= .held (.slice Y 0 0)) (zp:=[]) rfl (acd s0 y);rw[k]at b;simp only[yg,iL,pA,DataW.held.injEq]at b;obtain⟨rfl,_⟩:=b;simp[Oper.wp,execOp,q,p,u,r,Result.andThen];exact j _ _ i
theorem El{a:Act}{w1:A2}{D:DataW Ax}{f:Int->Ax}
  (y:o.guard=Y) (m x v:Operand) (a4:o.op=Op.mapUpdate 79 m x v) (av:a.eval m= .map (S mb))
  (p:W.ownsMap N 87 yg mb n D) (l:∀a,0<=a->a<=255->D.atKey (.int .u8 a) (.held (.slice Y 0 0))= .held (f a)/\jh W base (f a) (Cq R a)) (h3:ah7 f) (lo:base<=mb) (s:Int) (q:T W.heap.size W w1) (A:w1.grownBy w (f s).ownBlock) (hn:n<1000)
  (s0:0<=s) (i:s<=255) (a7:a.eval x= .int .u8 s) (b:Ax) (a6:a.eval v=b) (L:List (List Int)) (a2:jh w base b L) (K:b.ownBlock=(f s).ownBlock\/b.ownBlock=S w1.heap.size) (ao:T base w0 W)
  (ap:∀h,RM h base mb (n+1) ((s,L)::R)->T base w0 h->wpList N ops Q rest (a.put o.dst undef) h):wpList N ops Q (o::rest) a w:=by
 have aL:=p.lt;obtain⟨H,F,ad,ag⟩:=p;have af:=(q.block _ aL).trans ad;have B:∀c,(f s).ownBlock=S c->mb≠c:=by
  intro c r;have a5:=(l s s0 i).2;rcases a5.2 with⟨k,_⟩|⟨am,a8,a9,k,_,ba,_⟩
  .rw[k]at r;cases r
  .rw[k]at r;obtain rfl:am=c:=by simpa [Value.ownBlock] using r
   grind
 have u:=(A.block mb (aA af) (λe=>B mb e.symm rfl)).trans af;have an:w.ownsMap N 87 yg mb n D:=⟨H,F,u,ag⟩;have p:W.ownsMap N 87 yg mb n D:=⟨H,F,ad,ag⟩;refine wpList_mapUpdate_own w y m x v 79 a4 87 191 acb underlying79 yg mb n D av an py _ _ _ a7 a6 (acd s0 i) (.held b) [] rfl ?_;intro h a3 z;refine ap h ⟨⟨_,λa=>if a=s then b else f a,a3,λa d g=>?_,?_⟩,lo⟩ ?_
 .by_cases e:a=s
  .subst e;rw[tj,atKey_put_same p.isMap (by trivial)];show DataW.held b=DataW.held (if a=a then b else f a)/\jh h base (if a=a then b else f a) L;rw[ab rfl];exact⟨rfl,xu a2 u z⟩
  .show _=DataW.held (if a=s then b else f a)/\jh h base (if a=s then b else f a) _;rw[qy (λk=>e k.symm),aa e,atKey_put_other U];exact⟨(l a d g).1,xu (C4 ((l a d g).2.keep q) A (h3 a s d g s0 i e)) u z⟩
 .have bb:∀a,0<=a->a<=255->∀c,(f a).ownBlock=S c->c<W.heap.size:=λa d g c y=>((l a d g).2.lt c y).2;have bc:=q.size;intro a j d g C E B;show(if a=s then b else f a).ownBlock=Y\/(if a=s then b else f a).ownBlock≠(if j=s then b else f j).ownBlock;by_cases t:a=s
  .rw[ab t,Ga];rcases K with e|e
   .rw[e];exact h3 s j s0 i C E O
   grind
  .rw[aa t];by_cases G:j=s
   .rw[ab G];rcases K with e|e
    .rw[e];exact h3 a s d g s0 i t
    grind
   .rw[aa G];exact h3 a j d g C E B
 .have ar:base<=W.heap.size:=O;apply ao.trans;have al:=(q.mono ar).grown A U (λak e=>((l s s0 i).2.lt ak e).1);exact al.grown z U (λak e=>U)
def Be{a:Act}{b:A2}(p:o.guard=Y)(s x:Operand)
  (t:o.op= .call {callee:= .builtin .append,args:=#[s,x],argTypes:=#[191,191]}) (w:a.eval s=v) (h:jh b base v L) (G:base<=b.heap.size) (cs:Array Ax) (m g:Nat) (y:a.eval x= .slice (S ⟨g,0,Y⟩) m m) (q:g=b.heap.size) (d:List (List Int)) (f:M d=m) (n:cs.toList=Dh d) (u:∀r∈d,M r<=6)
  (F:M L+m<=1000)
  (l:∀c e,jh e base c (L++d)->(b.alloc (A3 cs 150 (0,0))).grownBy e v.ownBlock->(c.ownBlock=v.ownBlock\/c.ownBlock=S (b.alloc (A3 cs 150 (0,0))).heap.size)->wpList N ops Q rest (a.put o.dst c) e):wpList N ops Q (o::rest) a (b.alloc (A3 cs 150 (0,0))):=by
 subst q;have⟨z,A,B,C,E⟩:=eC Ja;refine wpList_append_own_at _ p s x 191 t base 150 z _ 6 6 underlying191 A B C E rfl Z v (M L) (Dh L) w (World.ownsRow.alloc h _) ⟨b.heap.size,0,Y⟩ m m (Dh d) y (by rw[ad4 u,f]) ?_ ad3 py O byT ?_
 .rw[<-n];exact World.news_of_block (cs:=cs) (fr:=(0,0)) (ay b _)
 .intro c e i j _ k;refine l c e ?_ j k;rw[jh,ad2,aB,f];exact i
theorem aaa(w:A2)(base mb n:Nat)(R:List (Int×List (List Int)))(H:RM w base mb n R)(hn:n<=100)(r:TypeId)(fr:Nat×Nat)(v:w.heap[1]?=S (A3 DI r fr))(x:1<base):
  A6 N 73 #[.map (S mb)] w λe s=>e= .returned (.tuple #[])/\RM s base mb (n+34) ([124,123,122,121].map ri++(119,[]::Ek 20)::([118,117,116,115,114,113,112,111,110].map ri++R))/\T base w s:=by
 have b:T base w w:=ai _ _;have⟨ad,af,ag,ak,al⟩:=eC Ja;go_in;go_wp2_with (first
  |(at_mapUpdate;first
   |(refine sh rfl _ _ _ rfl rfl H ((ai _ _).alloc cJ _) O 119 Z Z rfl _ rfl [[]] ?own b ?_;(case own=>exact Ej _ _ [[]] 1 rfl rfl Z Z);clear H b;intro w1 H b)
   |(refine Di rfl _ _ _ rfl rfl H rfl rfl b ?_;clear H b;intro w1 H b))
  |(refine wJ rfl 195 _ rfl 1 rfl r _ fr _ ((b.block _ x).trans v) underlying195 rfl J ?_))
 go_loopw [54] (λj wr=>∃a:Nat,a<=20/\j= .int .i64 a/\RM wr base mb (n+10+a) ((119,[]::Ek a)::([118,117,116,115,114,113,112,111,110].map ri++R))/\T base w wr) (λj _=>20-(intOf j).toNat)
 case atStart=>exact⟨0,O,rfl,H,b⟩
 case round=>
  obtain⟨a,A,rfl,H,b⟩:=hrel;by_cases i:a<20
  .have h:=λw=>aoA a i w;have⟨o,p⟩:=alF ⟨a,i⟩;simp only at o p;have q:=af5 a i;have B:=ah9 a A;generalize sI.getD a 0=k at h o p q;generalize zI (3*a+1)=G at h;generalize zI (3*a+2)=p2 at h;have⟨D,u,d,g,m⟩:=H.ex;have F:=H.lo;have f:=g 119 Z Z;rw[tj]at f;have C:=d.lt;have l:Hid (jh (wr.alloc (A3 #[.int .i64 k,.int .i64 G,.int .i64 p2] 194)) base (u 119) ([]::Ek a)/\Ek (a+1)=Ek a++[[k,118,119]]/\M (Ek a)=a):=⟨f.2.keep ((ai _ _).alloc cJ _),q,B⟩;go_wp2_with (first
    |(at_lookup;refine si rfl _ _ rfl rfl d ?blk 119 Z Z rfl f.1 ?_)
    |(at_builtin;go_loud (refine Be rfl _ _ rfl rfl l.1 byT _ 1 (wr.heap.size+1) rfl I [[k,118,119]] rfl rfl I U ?_;intro am an E z y))
    |(at_mapUpdate;go_loud (refine El rfl _ _ _ rfl rfl d g m F 119 (((ai _ _).alloc cJ _).alloc I _) z O Z Z rfl _ rfl _ E y b ?_;clear H b d g m f;intro ao H b)))
   case blk=>exact dG _ _ _ C
   go_roundw
   case rel=>
    refine⟨a+1,O,by go_num,?_,b⟩;refine RM.congr (n:=n+10+(a+1)) H (λt K L=>?_);by_cases e:t=119
    .subst e;rw[tj,tj,l.out.2.1];rfl
    .rw[qy (λc=>e c.symm),qy (λc=>e c.symm),qy (λc=>e c.symm)]
   case measure=>simp[intOf];omega
  .obtain rfl:a=20:=O;go_wp2_with (at_mapUpdate;refine Di rfl _ _ _ rfl rfl H rfl rfl b ?_;clear H b;intro w1 H b);go_end0
   simp_all
def RM.size(h:RM W base mb n R):base<W.heap.size:=by
 have⟨D,b,a,_⟩:=h.ex;have:=a.lt;have:=h.lo;omega
theorem aab(w:A2)(base mb n:Nat)(R:List (Int×List (List Int)))(H:RM w base mb n R)(hn:n<=100):
  A6 N 71 #[.map (S mb)] w λe b=>e= .returned (.tuple #[])/\RM b base mb (n+10) ([109,108,107,106,105,104,103,102,101,100].map ri++R)/\T base w b:=by
 have a:T base w w:=ai _ _;go_in;go_wp2_with (at_mapUpdate;refine Di rfl _ _ _ rfl rfl H rfl rfl a ?_;clear H a;intro w1 H a);go_end0
 grind
def Bf(b:Nat):Deferred:={target:= .collected b,args:=#[]}
structure qz (B:Nat) (c:List Nat) (W:A2):Prop where
 nd:c.Nodup
 lo:∀b∈c,B<=b
 at_:∀b∈c,W.heap[b]?=S (.deferred (S []))
structure Jb (c:List Nat) (W W':A2):Prop where
 os:W'.os=W.os
 tape:W'.tape=W.tape
 output:W'.output=W.output
 size:W'.heap.size=W.heap.size
 same:∀k,k ∉ c->W'.heap[k]?=W.heap[k]?
theorem pJ{g:Fence}{P:Program}{fn:Func}{tmps:Array Ax}{R:Ending->A2->Prop}(B:Nat):∀(c:List Nat)(W:A2),qz B c W->(∀W',Jb c W W'->LeavesInM g n P fn tmps R [] .returning W')->LeavesInM g n P fn tmps R (c.map Bf) .returning W
 |[],W,_,h=>h W ⟨rfl,rfl,rfl,rfl,λ_ _=>rfl⟩
 |b::c,W,f,h=>by
  have i:=f.at_ b I;have j:=List.nodup_cons.1 f.nd;refine⟨I,.inl ⟨b,_,rfl,run_takeDeferred i,?_⟩⟩;refine pJ B c _ ⟨j.2,λe a=>f.lo e U,λe a=>?_⟩ (λW' d=>?_)
  .exact(World.putObj_heap_other U).trans (f.at_ e U)
  .refine h W' ⟨d.os,d.tape,d.output,d.size.trans I,λe a=>?_⟩;simp at a;exact(d.same e a.2).trans (World.putObj_heap_other a.1)
theorem Jb.below(h:Jb c W W')(a:T B w W)(g:∀b∈c,B<=b)(f:B<=w.heap.size):T B w W':=
 ⟨h.os.trans a.os,h.tape.trans a.tape,h.output.trans a.output,by rw[h.size];exact a.size,λd e=>(h.same d (λi=>U)).trans (a.block d e)⟩
def qz.below(h:qz B c W)(d:T W.heap.size W W'):qz B c W':=
 ⟨h.nd,h.lo,λa b=>(d.block a (Array.getElem?_eq_some_iff.1 (h.at_ a b)).1).trans (h.at_ a b)⟩
theorem qz.set(h:qz B c W)(a:Addr)(v:Ax){cs:Array Ax}{t:TypeId}{fr:Nat×Nat}(f:W.heap[a.block]?=S (A3 cs t fr)):qz B c (W.setCell a v):=
 ⟨h.nd,h.lo,λb d=>(az _ _ _ _ (λe=>by
  have:=h.at_ b d;grind)).trans (h.at_ b d)⟩
def qz.keeps(h:qz B c W)(b:KeepsOthers W W'):qz B c W':=
 ⟨h.nd,h.lo,λa d=>b.same a _ (h.at_ a d) rfl⟩
