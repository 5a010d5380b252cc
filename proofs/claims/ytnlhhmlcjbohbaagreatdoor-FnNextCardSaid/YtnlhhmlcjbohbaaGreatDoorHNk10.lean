import Derived.Test.YtnlhhmlcjbohbaaGreatDoorHNk07
import Derived.WalkSmall
set_option linter.all false
set_option maxRecDepth 100000
set_option maxHeartbeats 25600000
open Option renaming some->M,none->T
open Go.Value renaming int->O,ownBlock->V,int->Br,slice->B1,slice->B4,pointer->C6,tuple->C7
open Go.IntKind renaming i64->S,u8->Cr
open Go.Proofs.Tryz renaming prog->U
open Go renaming World->Y,Value->Ax,Calls->B3,ownsRow_succ->B6,maxLen->Ce,TypeId->C4
open Go.RowKit renaming Below->Z,intOf->C2,Hid->C5
open Bool renaming true->A0,false->A9
open Go.World renaming news_of_block->A2,setCell->A5
open List renaming range->B0
open Go.Ending renaming returned->B7
open Go.Obj renaming cells->Ck
namespace Go.Proofs.YtnlhhmlcjbohbaaGreatDoor
variable{C:List (Int×Int)}{L:List (List Int)}{Q:Exit->Act->World->Prop}{R:List (Int×List (List Int))}{W W' w w':World}{a s t:Int}{base gb k mb n:Nat}{o:Oper}{ops:Array Oper}{rest:List Oper}{st:List Int}{v v0:Value}{xs:List Value}
def ni(a b:Int):List (List Int):=[[48,1,a],[44,117,45,a],[40,111,41,b]]
def lr(a:Int):List (List Int):=
 if a=100 then [[5,100],[102,101],[]]
 else if a=101 then [[5,100],[]]
 else if a=102 then [[22,1,109,103],[13,1,47,117],[18,1,113],[20,117,108,107],[31,117,108],[19,1,104],[11],[23],[27,111],[30,108,12,1,106,108],[28,117],[14,131],[108],[1,125],[40,117,41,127]]
 else if a=103 then [[47,110],[]]
 else if a=104 then [[47,117,46,117,105,108],[21,117,108],[46,1,109,21,117,108]]
 else if a=105 then [[46,117],[]]
 else if a=106 then [[46,1],[]]
 else if a=107 then [[15,117,108,107],[16,108],[]]
 else if a=108 then [[42,100,43]]
 else if a=109 then [[46,1,109],[]]
 else if a=110 then [[117,112]]
 else if a=111 then [[117,112],[]]
 else if a=112 then [[46,117,112],[]]
 else if a=113 then [[40,114,41,108]]
 else if a=114 then [[115],[]]
 else if a=115 then [[49],[1,116]]
 else if a=116 then [[46,115],[]]
 else if a=117 then [[118,119]]
 else if a=118 then [[25,118],[62,118],[50,118],[69,118],[1,120],[40,117,41,120],[2],[3],[4],[24],[29],[17],[49],[18,113],[121]]
 else if a=119 then []::([26,10,73,74,75,76,77,78,72,68,69,67,70,71,61,62,63,64,65,66].map fun k=>[k,118,119])
 else if a=120 then ni 120 120++[[]]
 else if a=121 then [[42,122,43]]
 else if a=122 then [[124,123],[]]
 else if a=123 then [[46,122],[]]
 else if a=124 then [[117],[44,117,45,47,117],[48,1,47,117]]
 else if a=125 then ni 125 126++[[46,128],[47,110]]
 else if a=126 then ni 125 126++[[]]
 else if a=127 then ni 125 126
 else if a=128 then [[1,129],[40,117,41,130]]
 else if a=129 then ni 129 130++[[46,128],[47,110]]
 else if a=130 then ni 129 130
 else if a=131 then [[1,132],[40,117,41,132]]
 else if a=132 then ni 132 133
 else if a=133 then ni 132 133++[[]]
 else []
def Ba:Nat->Int->Int->Bool
 |0,_,_=>A9
 |f+1,a,t=>if a<100 then decide (a=t) else(lr a).any fun r=>match r with|[]=>A9|h::_=>Ba f h t
def hdI(t:Int)(r:List Int):Bool:=match r with|[]=>A9|h::_=>Ba 8 h t
def Hp(a t:Int):List Int:=((lr a).find? (hdI t)).getD []
def J5(a:Int):Bool:=(lr a).contains []
def iB:List Int->Int->Bool
 |[],_=>A9
 |a::r,t=>if Ba 9 a t=A0 then A0 else if J5 a=A0 then iB r t else A9
def lu:Nat->List Int->Int->Option (List Int)
 |0,_,_=>T
 |_+1,[],_=>T
 |f+1,a::r,t=>if a=t then M r else lu f (Hp a t++r) t
def phi(a:Int):List Int:=
 if a=104 then [106] else if a=105 then [107] else if a=106 then [109] else if a=107 then [105] else if a=108 then [132] else if a=109 then [104] else if a=110 then [120,121,125] else if a=111 then [123] else if a=112 then [125]
 else if a=113 then [133] else if a=114 then [126] else if a=115 then [128] else if a=116 then [127] else if a=117 then [120,121] else if a=118 then [120] else if a=119 then [121] else if a=120 then [122] else if a=122 then [129] else if a=123 then [130] else if a=124 then [131]
 else if a=125 then [110] else if a=126 then [111] else if a=127 then [112] else if a=128 then [113] else if a=129 then [114] else if a=130 then [115] else if a=131 then [116] else if a=132 then [117] else if a=133 then [118] else [a]
def psi(s:Int):List Int:=if s=119 then [120,121] else if s=124 then [120,121,125] else if s=108 then [123] else [s]
def gx(st:List Int):List Int:=st.flatMap psi
def um(st:List Int):List Int:=st.flatMap phi
def okI(a:Int):Bool:=decide (1<=a/\a<=133/\a≠102/\a≠121)
theorem su(a b:List Int):gx (a++b)=gx a++gx b:=by simp[gx]
theorem agc(a b:List Int):um (a++b)=um a++um b:=by simp[um]
theorem Ak:∀{f g:Nat}{st:List Int}{t:Int}{n:Nat}{X:List Int×Option Bool×Nat},eL f st t n=M X->f<=g->eL g st t n=M X
 |0,_,_,_,_,_,h,_=>by simp[eL]at h
 |f+1,0,_,_,_,_,_,c=>by omega
 |f+1,g+1,[],t,n,X,h,c=>by rw[eL]at h⊢;exact h
 |f+1,g+1,s::r,t,n,X,h,c=>by
  rw[eL]at h⊢;split
  ·rename_i a;rw[ab a]at h;exact h
  ·rename_i a;rw[aa a]at h;split
   ·rename_i b;rw[ab b]at h;exact Ak h (by omega)
   ·rename_i b;rw[aa b]at h;exact h
theorem J6:∀{f:Nat}{a c:List Int}{t:Int}{n:Nat}{lo:List Int}{b:Bool}{m:Nat},eL f a t n=M (lo,M b,m)->eL f (a++c) t n=M (lo++c,M b,m)
 |0,_,_,_,_,_,_,_,h=>by simp[eL]at h
 |f+1,[],_,t,n,lo,b,m,h=>by simp[eL]at h
 |f+1,s::r,c,t,n,lo,b,m,h=>by
  rw[eC];rw[eL]at h⊢;split
  ·rename_i d;rw[ab d]at h;simp only[eA,gD]at h;rw[<-h.1,<-h.2.1,<-h.2.2]
  ·rename_i d;rw[aa d]at h;split
   ·rename_i e;rw[ab e]at h;rw[<-cH];exact J6 h
   ·rename_i e;rw[aa e]at h;simp only[eA,gD]at h;rw[<-h.1,<-h.2.1,<-h.2.2]
theorem oG:∀{f:Nat}{st:List Int}{t:Int}{n:Nat}{lo:List Int}{a:Option Bool}{m:Nat},Cn st->1<=t->t<=78->eL f st t n=M (lo,a,m)->∀r,(∀b,a=M b->feedL (st++r) t=(lo++r,b))/\(a=T->feedL (st++r) t=feedL r t)
 |0,_,_,_,_,_,_,_,_,_,h,_=>by simp[eL]at h
 |f+1,[],t,n,lo,a,m,s,w,x,h,r=>by
  simp only[eL,eA,gD]at h;obtain⟨rfl,rfl,rfl⟩:=h;exact⟨fun b h=>(by cases h),fun _=>rfl⟩
 |f+1,g::k,t,n,lo,a,m,s,w,x,h,r=>by
  have F:=s g (bB ..);have G:Cn k:=fun J H=>s J (cL _ H);rw[eC];by_cases z:g<100
  ·obtain⟨rfl,rfl,rfl⟩:=sj h z;refine⟨fun b q=>?_,fun h=>by cases h⟩;rw[jb z,<-bu q]
  ·by_cases i:(xE g t).1=[]/\(xE g t).2=A0
   ·rcases kL h (by omega) with⟨_,d⟩|⟨d,_⟩
    ·rw[i.1,ep]at d;have u:=oG G w x d r;rw[lH (by omega) i];exact u
    ·rw[i.2]at d;cases d
   ·obtain⟨I,B,j,y,_⟩:=uA (by omega) F w x i;rw[lI (by omega) i y];have l:∃e,eL 8 (g::k) t n=M (I++k,M B,e):=by
     have A:∀{f:Nat}{st:List Int}{j n2 v:Nat}{lo:List Int}{a:Option Bool},eL f st t j=M (lo,a,v)->∃e,eL f st t n2=M (lo,a,e):=by
      intro f
      induction f with
      |zero=>intro st j n2 v lo a h;simp[eL]at h
      |succ f u=>
       intro st j n2 v lo a h;cases st with
       |nil=>
        simp only[eL,eA,gD]at h⊢;exact⟨n2,h.1,h.2.1,rfl⟩
       |cons g r=>
        rw[eL]at h⊢;split
        ·rename_i p;rw[ab p]at h;simp only[eA,gD]at h⊢;exact⟨n2,h.1,h.2.1,rfl⟩
        ·rename_i p;rw[aa p]at h;split
         ·rename_i d;rw[ab d]at h;exact u h
         ·rename_i d;rw[aa d]at h;simp only[eA,gD]at h⊢;exact⟨n2,h.1,h.2.1,rfl⟩
     obtain⟨e,C⟩:=A (n2:=n) y;exact⟨e,by have:=J6 (c:=k) C;simpa using this⟩
    obtain⟨e,l⟩:=l;have E:=Ak h (show f+1<=f+9 by omega);have o:=Ak l (show 8<=f+9 by omega);rw[E]at o;simp only[eA,gD]at o;obtain⟨rfl,rfl,_⟩:=o;refine⟨fun b q=>?_,fun h=>by cases h⟩;rw[bu q,cH]
def anf(s t:Int):Bool:=match eL 12 [s] t 0,eL 12 (psi s) t 0 with
 |some (c,some a,_),some (d,some b,_)=>a==b&&(!a||decide (gx c=gx d))
 |some (_,none,_),some (_,none,_)=>A0
 |_,_=>A9
theorem agd:((B0 34).all fun s=>(B0 78).all fun t=>anf ((s:Int)+100) ((t:Int)+1))=A0:=by decide+kernel
def age(a t:Int):Bool:=
 if Ba 9 a t=A0 then(match lu 9 [a] t,eL 12 (phi a) t 0 with
  |some b,some (c,some true,_)=>b.all okI&&decide (gx c=um b)
  |_,_=>A9)
 else if J5 a=A0 then(Hp a t).isEmpty&&(match eL 12 (phi a) t 0 with|some (_,none,_)=>A0|_=>A9)
 else(match eL 12 (phi a) t 0 with|some (_,some false,_)=>A0|_=>A9)
theorem agf:((B0 133).all fun a=>!(okI ((a:Int)+1))||(B0 78).all fun t=>age ((a:Int)+1) ((t:Int)+1))=A0:=by decide+kernel
theorem akd(e:100<=s)(f:s<=133)(g:1<=t)(h:t<=78):anf s t=A0:=by
 have d:=List.all_eq_true.1 agd (s-100).toNat (by rw[ix];omega);have a:=List.all_eq_true.1 d (t-1).toNat (by rw[ix];omega);have b:(((s-100).toNat:Nat):Int)+100=s:=by omega
 have c:(((t-1).toNat:Nat):Int)+1=t:=by omega
 rw[b,c]at a;exact a
theorem acq(d:okI a=A0)(h:1<=t)(i:t<=78):age a t=A0:=by
 have g:=aG d;have b:=List.all_eq_true.1 agf (a-1).toNat (by rw[ix];omega);have e:(((a-1).toNat:Nat):Int)+1=a:=by omega
 rw[e,d]at b;have c:=List.all_eq_true.1 (by simpa using b:((B0 78).all fun t=>age a ((t:Int)+1))=A0) (t-1).toNat (by rw[ix];omega);have f:(((t-1).toNat:Nat):Int)+1=t:=by omega
 rw[f]at c;exact c
theorem agh(h:s<=133):Cn (psi s):=by
 unfold psi;intro b a;split at a
 ·simp at a;omega
 split at a
 ·simp at a;omega
 split at a
 ·simp at a;omega
 ·simp at a;omega
theorem ad5(s:Int):gx (psi s)=psi s:=by
 unfold psi;split
 ·decide
 split
 ·decide
 split
 ·decide
 ·rename_i a b c;simp[gx,psi,a,b,c]
theorem uD:∀st:List Int,gx (gx st)=gx st
 |[]=>rfl
 |s::r=>by
  show gx (psi s++gx r)=psi s++gx r;rw[su,ad5,uD r]
theorem aaC(s:Int)(r:List Int):gx (s::r)=psi s++gx r:=rfl
theorem FC(s:Int)(r:List Int):um (s::r)=phi s++um r:=rfl
theorem xB:∀{st:List Int}{t:Int},Cn st->1<=t->t<=78->(feedL (gx st) t).2=(feedL st t).2/\((feedL st t).2=A0->gx (feedL (gx st) t).1=gx (feedL st t).1)
 |[],t,j,_,_=>⟨rfl,fun _=>rfl⟩
 |s::r,t,j,b,c=>by
  have f:=j s (bB ..);have x:Cn r:=fun u k=>j u (cL _ k);rw[aaC];by_cases p:s<100
  ·have v:psi s=[s]:=by unfold psi;rw[aa (by omega),aa (by omega),aa (by omega)]
   rw[v,yk,jb p,jb p];exact⟨rfl,fun _=>uD r⟩
  ·have a:=akd (by omega) f b c;unfold anf at a;have q:Cn [s]:=fun u k=>by obtain rfl:=List.mem_singleton.1 k;exact f
   split at a
   ·rename_i l n y m o z g h;have d:=(oG q b c g r).1 n rfl;have i:=(oG (agh f) b c h (gx r)).1 o rfl;rw[yk]at d;rw[d,i];rw[cd]at a;have e:n=o:=by simpa using a.1
    subst e;refine⟨rfl,fun e=>?_⟩;simp only at e;subst e;have w:gx l=gx m:=by simpa using a.2
    show gx (m++gx r)=gx (l++r);rw[su,su,uD,w]
   ·rename_i l y m z g h;have d:=(oG q b c g r).2 rfl;have i:=(oG (agh f) b c h (gx r)).2 rfl;rw[yk]at d;rw[d,i];exact xB x b c
   ·cases a
def OkI(st:List Int):Prop:=∀a∈st,okI a=A0
theorem ake:((B0 133).all fun a=>!(okI ((a:Int)+1))||((phi ((a:Int)+1)).all (fun x=>decide (x<=133))&&decide (gx (phi ((a:Int)+1))=phi ((a:Int)+1))))=A0:=by decide+kernel
theorem agi(c:okI a=A0):Cn (phi a)/\gx (phi a)=phi a:=by
 have g:=aG c;have b:=List.all_eq_true.1 ake (a-1).toNat (by rw[ix];omega);have d:(((a-1).toNat:Nat):Int)+1=a:=by omega
 rw[d,c,Bool.not_true,GH,cd]at b;exact⟨fun f e=>aG (List.all_eq_true.1 b.1 f e),aG b.2⟩
theorem ang(h:okI a=A0):Cn (phi a):=(agi h).1
theorem ad6(h:okI a=A0):gx (phi a)=phi a:=(agi h).2
theorem Dh:∀{st:List Int},OkI st->gx (um st)=um st
 |[],_=>rfl
 |a::r,h=>by
  rw[FC,su,ad6 (h a (bB ..)),Dh (fun y b=>h y (cL _ b))]
theorem Al:∀{f:Nat}{a c lo:List Int}{t:Int},lu f a t=M lo->lu f (a++c) t=M (lo++c)
 |0,_,_,_,_,h=>by simp[lu]at h
 |f+1,[],_,_,_,h=>by simp[lu]at h
 |f+1,a::r,c,lo,t,h=>by
  rw[eC];rw[lu]at h⊢;split
  ·rename_i b;rw[ab b]at h;rw[<-bu h]
  ·rename_i b;rw[aa b]at h;rw[<-cH];exact Al h
theorem Di:∀{f g:Nat}{st lo:List Int}{t:Int},lu f st t=M lo->f<=g->lu g st t=M lo
 |0,_,_,_,_,h,_=>by simp[lu]at h
 |f+1,0,_,_,_,_,c=>by omega
 |f+1,g+1,[],_,_,h,_=>by simp[lu]at h
 |f+1,g+1,a::r,lo,t,h,c=>by
  rw[lu]at h⊢;split
  ·rename_i b;rw[ab b]at h;exact h
  ·rename_i b;rw[aa b]at h;exact Di h (by omega)
theorem Am:∀{st:List Int}{t:Int},OkI st->1<=t->t<=78->iB st t=(feedL (um st) t).2/\(iB st t=A0->∃f,lu (st.length+9) st t=M f/\OkI f/\gx (feedL (um st) t).1=um f)
 |[],t,m,_,_=>⟨rfl,fun h=>by simp[iB]at h⟩
 |a::r,t,m,g,i=>by
  have p:=m a (bB ..);have o:OkI r:=fun k hx=>m k (cL _ hx);have b:=acq p g i;have n:=ang p;rw[FC,iB];unfold age at b;by_cases l:Ba 9 a t=A0
  ·rw[ab l]at b⊢;split at b
   ·rename_i j C u w d;have e:=(oG n g i d (um r)).1 A0 rfl;rw[e];rw[cd]at b;have A:=aG b.2;refine⟨rfl,fun _=>⟨j++r,?_,?_,?_⟩⟩
    ·exact Di (Al (c:=r) w) (by omega)
    ·intro k hx;rcases List.mem_append.1 hx with hx|hx
     ·exact List.all_eq_true.1 b.1 k hx
     ·exact o k hx
    ·show gx (C++um r)=um (j++r);rw[su,agc,A]
     congr 1
     exact Dh o
   ·cases b
  ·rw[aa l]at b⊢;by_cases s:J5 a=A0
   ·rw[ab s]at b⊢;rw[cd]at b;have q:=b.2;split at q
    ·rename_i j u d;have e:=(oG n g i d (um r)).2 rfl;rw[e];obtain⟨x,y⟩:=Am o g i;refine⟨x,fun h=>?_⟩;obtain⟨f,E,p2,F⟩:=y h;refine⟨f,?_,p2,F⟩;have z:¬a=t:=fun v=>by
      subst v;have:Ba 9 a a=A0:=by rw[Ba,ab (by omega)];exact bv rfl
      exact l this
     have B:Hp a t=[]:=by simpa using b.1
     rw[show(a::r).length+9=(r.length+9)+1 from Nat.add_right_comm r.length 1 9,lu,aa z,B,ep];exact E
    ·cases q
   ·rw[aa s]at b⊢;split at b
    ·rename_i j u d;have e:=(oG n g i d (um r)).1 A9 rfl;rw[e];exact⟨rfl,fun h=>by cases h⟩
    ·cases b
structure EJ (st stk:List Int):Prop where
 o1:OkI st
 o2:Cn stk
 eq:gx stk=um st
theorem EJ.may{a:List Int}(h:EJ st a)(b:1<=t)(c:t<=78):iB st t=(feedL a t).2:=by
 rw[(Am h.o1 b c).1,<-h.eq];exact(xB h.o2 b c).1
theorem EJ.pass{e:List Int}(h:EJ st e)(b:1<=t)(c:t<=78)(d:iB st t=A0):∃a,lu (st.length+9) st t=M a/\EJ a (feedL e t).1:=by
 obtain⟨a,f,p2,g⟩:=(Am h.o1 b c).2 d;refine⟨a,f,p2,yG h.o2 b c,?_⟩;rw[<-g,<-h.eq];exact((xB h.o2 b c).2 (by rw[<-h.may b c];exact d)).symm
theorem ad7:EJ [100,6] [100,6]:=⟨by unfold OkI;decide,by unfold Cn;decide,by decide⟩
open Go.RowKit Go.Maps Go.WideMaps
theorem Hq:(Tryz.prog.info? 156).map (fun i=>(i.zero,i.size,i.bytes))=M (M (.agg #[O Cr 0,O Cr 0,O Cr 0,O Cr 0,O Cr 0,O Cr 0]),6,6):=by kernel_rfl
def rc(r:List Int):List Ax:=(r++List.replicate (6-r.length) 0).map (Br Cr)
def Dj(a:List (List Int)):List Ax:=a.flatMap rc
theorem acr(a B:List (List Int)):Dj (a++B)=Dj a++Dj B:=by simp[Dj]
def xd(v:Ax):Option (DataW Ax×List MemPlace):=M (.held v,[])
def An(b:List (Int×List (List Int)))(a:Int):List (List Int):=((b.find? (fun c=>c.1==a)).map (·.2)).getD []
theorem sw(a:Int)(b:List (List Int))(c:List (Int×List (List Int))):An ((a,b)::c) a=b:=by simp[An]
theorem ql{b:Int}(h:a≠b)(d:List (List Int))(c:List (Int×List (List Int))):An ((a,d)::c) b=An c b:=by
 unfold An;rw[List.find?_cons_of_neg (by simpa using h)]
def iC(W:Y)(base:Nat)(v:Ax)(a:List (List Int)):Prop:=W.ownsRow base 156 6 v a.length (Dj a)
def agj(f:Int->Ax):Prop:=∀a b,0<=a->a<=255->0<=b->b<=255->a≠b->(f a).ownBlock=T\/(f a).ownBlock≠(f b).ownBlock
structure RM (W:Y) (base mb n:Nat) (R:List (Int×List (List Int))):Prop where
 ex:∃(D:DataW Ax) (f:Int->Ax),W.ownsMap U 96 xd mb n D/\(∀a,0<=a->a<=255->D.atKey (.int .u8 a) (.held (.slice T 0 0))= .held (f a)/\iC W base (f a) (An R a))/\agj f
 lo:base<=mb
theorem aaD:Keyed U 96:=int_keyed Tryz.underlying96
theorem iC.keep(h:iC W base v L)(a:Z W.heap.size W W'):iC W' base v L:=bJ h a
theorem RM.below(h:RM W base mb n R)(a:Z W.heap.size W W'):RM W' base mb n R:=by
 obtain⟨D,f,g,e,i⟩:=h.ex;exact⟨⟨D,f,g.kept (row:=T) ⟨a.os,a.tape,a.output,a.size,fun k j _=>a.block k j⟩ (by simp),fun b c d=>⟨(e b c d).1,(e b c d).2.keep a⟩,i⟩,h.lo⟩
theorem RM.congr{b:List (Int×List (List Int))}(h:RM W base mb n R)(j:∀a,0<=a->a<=255->An R a=An b a):RM W base mb n b:=by
 obtain⟨D,e,f,g,i⟩:=h.ex;exact⟨⟨D,e,f,fun a c d=>by rw[<-j a c d];exact g a c d,i⟩,h.lo⟩
theorem RM.mono{a:Nat}(h:RM W base mb n R)(e:n<=a):RM W base mb a R:=by
 obtain⟨D,b,c,d⟩:=h.ex;exact⟨⟨D,b,c.mono e,d⟩,h.lo⟩
theorem wt{e:Array MapEntry}{c:Nat}(h:iC W base v L)(i:W.heap[mb]?=M (.map e c))(g:W.grownBy W' (M mb)):iC W' base v L:=by
 refine B9 h g ?_;rcases bq h with⟨_,rfl⟩|⟨f,j,rfl⟩
 ·exact .inl rfl
 ·refine .inr ?_;intro d;obtain rfl:f=mb:=by simpa [V] using d
  rcases h.2 with⟨a,_⟩|⟨m,k,l,a,_,b,_⟩
  ·cases a
  ·cases a;rw[i]at b;cases b
theorem aaE(b:0<=a)(c:a<=255):keyOf U 96 (.int .u8 a)=M (.int .u8 a):=keyOf_int_mk Tryz.underlying96 (WalkArith.wf_u8 ⟨b,c⟩)
theorem bm{a:Act}{H:Y}
  (k:o.guard=T) (m x v:Operand) (ap:o.op=Op.mapUpdate 88 m x v) (am:a.eval m= .map (M mb)) (h:RM W base mb n R) (f:Z W.heap.size W w) (a7:n<1000) (s:Int) (s0:0<=s) (a2:s<=255) (av:a.eval x= .int .u8 s)
  (c:Ax) (ar:a.eval v=c) (p:List (List Int)) (u:iC w W.heap.size c p) (af:Z base H W)
  (ag:∀w',RM w' base mb (n+1) ((s,p)::R)->Z base H w'->wpList U ops Q rest (a.put o.dst undef) w'):wpList U ops Q (o::rest) a w:=by
 obtain⟨D,e,q,r,ad⟩:=h.ex;have a6:=q.lt;have ak:base<=W.heap.size:=by have:=h.lo;omega
 have B:=q.kept (row:=T) ⟨f.os,f.tape,f.output,f.size,fun G al _=>f.block G al⟩ (by simp);refine wpList_mapUpdate_own w k m x v 88 ap 96 193 aaD Tryz.underlying88 xd mb n D am B (by unfold Ce;omega) _ _ _ av ar (aaE s0 a2) (.held c) [] rfl ?_;intro w' ao t;obtain⟨a5,a3,C,_⟩:=B;refine ag w' ⟨⟨_,fun a=>if a=s then c else e a,ao,fun a g i=>?_,?_⟩,h.lo⟩ ?_
 ·by_cases d:a=s
  ·subst d;rw[sw,atKey_put_same q.isMap (by trivial)];show DataW.held c=DataW.held (if a=a then c else e a)/\iC w' base (if a=a then c else e a) p;rw[ab rfl];refine⟨rfl,wt (h:=?_) C t⟩;refine⟨u.1,?_⟩;rcases u.2 with h|⟨b,I,J,K,a4,L⟩
   ·exact .inl h
   ·exact .inr ⟨b,I,J,K,by omega,L⟩
  ·show _=DataW.held (if a=s then c else e a)/\iC w' base (if a=s then c else e a) _;rw[ql (fun h=>d h.symm),aa d,atKey_put_other (by intro h;injection h with _ h;exact d h)];exact⟨(r a g i).1,wt ((r a g i).2.keep f) C t⟩
 ·have F:∀b,c.ownBlock=M b->W.heap.size<=b:=fun b k=>(u.lt b k).1;have E:∀a,0<=a->a<=255->∀b,(e a).ownBlock=M b->b<W.heap.size:=fun a g i b k=>((r a g i).2.lt b k).2;intro a j g i y l an;show(if a=s then c else e a).ownBlock=T\/(if a=s then c else e a).ownBlock≠(if j=s then c else e j).ownBlock;by_cases z:a=s
  ·rw[ab z,aa (by omega)];cases hq:c.ownBlock with
   |none=>exact .inl rfl
   |some b=>exact .inr (fun d=>by have:=F b hq;have:=E j y l b d.symm;omega)
  ·rw[aa z];by_cases A:j=s
   ·rw[ab A];cases hq:(e a).ownBlock with
    |none=>exact .inl rfl
    |some b=>exact .inr (fun d=>by have:=E a g i b hq;have:=F b d.symm;omega)
   ·rw[aa A];exact ad a j g i y l an
 ·have l:=f.mono ak;refine af.trans ?_;exact l.grown t (by have:=f.size;omega) (fun G d=>by cases d;exact h.lo)
theorem dK(w:Y)(cs:Array Ax)(a:List (List Int))(n:Nat)(f:a.length=n)(e:cs.toList=Dj a)(k:n<=1000)(c:∀r∈a,r.length<=6):iC (w.alloc (Ck cs 156 (0,0))) w.heap.size (B4 (M ⟨w.heap.size,0,T⟩) n n) a:=by
 have b:∀a:List (List Int),(∀r∈a,r.length<=6)->(Dj a).length=a.length*6:=by
  intro a
  induction a with
  |nil=>intro _;rfl
  |cons r a i=>
   intro d;have:=d r (by simp);rw[show Dj (r::a)=rc r++Dj a from rfl,aB,i (fun j h=>d j (by simp[h]))];simp[rc];omega
 have g:cs.size=n*6:=by rw[<-eK,e,b a c,f]
 refine⟨by rw[b a c],.inr ⟨w.heap.size,n,cs,by rw[f],ae _,ay w _,by omega,by unfold Ce;omega,g,?_⟩⟩;rw[e,dj (by rw[b a c];exact ae _)]
theorem aaF(p c:Int)(w:Y):
  B3 U 121 #[O Cr p,O Cr c] w fun e w'=>e= B7 (B4 (M ⟨w.heap.size,0,T⟩) 3 3)/\iC w' w.heap.size (B4 (M ⟨w.heap.size,0,T⟩) 3 3) (ni p c)/\Z w.heap.size w w':=by
 go_in;go_wp2;go_ret;exact⟨rfl,dK _ _ (ni p c) 3 rfl rfl (by decide) (by simp[ni]),(ah _ _).alloc (ae _) _⟩
theorem acs:∀u∈Dj L,u.oneCell'=A0:=by
 intro u b;unfold Dj at b;rw[List.mem_flatMap]at b;obtain⟨c,_,a⟩:=b;unfold rc at a;rw[List.mem_map]at a;obtain⟨d,_,rfl⟩:=a;rfl
theorem act:∀{L:List (List Int)},(∀r∈L,r.length<=6)->(Dj L).length=L.length*6:=by
 intro L
 induction L with
 |nil=>intro _;rfl
 |cons r L c=>
  intro a;have:=a r (by simp);rw[show Dj (r::L)=rc r++Dj L from rfl,aB,c (fun d b=>a d (by simp[b]))];simp[rc];omega
theorem uE{a:Act}{b:Y}(k:o.guard=T)(s x:Operand)
  (n:o.op= .call {callee:= .builtin .append,args:=#[s,x],argTypes:=#[193,193]}) (q:a.eval s=v) (e:iC b W.heap.size v L) (hS:Z W.heap.size W b) (cs:Array Ax) (m:Nat) (t:a.eval x= .slice (M ⟨b.heap.size,0,T⟩) m m) (c:List (List Int)) (f:c.length=m) (j:cs.toList=Dj c) (p:∀r∈c,r.length<=6)
  (C:L.length+m<=1000)
  (i:∀d w',iC w' W.heap.size d (L++c)->Z W.heap.size W w'->wpList U ops Q rest (a.put o.dst d) w'):wpList U ops Q (o::rest) a (b.alloc (.cells cs 156 (0,0))):=by
 obtain⟨u,w,y,z,A⟩:=dD Hq;refine mw _ k s x 193 n W.heap.size 156 u _ 6 6 Tryz.underlying193 w y z A rfl (by decide) v L.length (Dj L) q (World.ownsRow.alloc e _) ⟨b.heap.size,0,T⟩ m m (Dj c) t (by rw[act p,f]) ?_ acs (by unfold Ce;omega) (by omega) (by have:=hS.size;simp;omega) ?_
 ·rw[<-j];exact A2 (cs:=cs) (fr:=(0,0)) (ay b _)
 ·intro d w' g h _;refine i d w' ?_ ?_
  ·unfold iC;rw[acr,aB,f];exact g
  ·exact(hS.alloc hS.size _).grown h (by have:=hS.size;simp;omega) (fun B l=>(e.lt B l).1)
theorem J7(w:Y)(base mb n:Nat)(c:List (Int×List (List Int)))(H:RM w base mb n c)(g:n<=100):
  B3 U 77 #[.map (M mb)] w fun e w'=>e= B7 (C7 #[])/\RM w' base mb (n+10) ((120,ni 120 120++[[]])::(133,ni 132 133++[[]])::(132,ni 132 133)::(131,[[1,132],[40,117,41,132]])::(130,ni 129 130)::(129,ni 129 130++[[46,128],[47,110]])::(128,[[1,129],[40,117,41,130]])::(127,ni 125 126)::(126,ni 125 126++[[]])::(125,ni 125 126++[[46,128],[47,110]])::c)/\Z base w w':=by
 have a:Z base w w:=ah _ _;go_in;go_wp2_with (first
  |(go_at_call 121;refine(aaF _ _ _).mono ?_;rintro e h ⟨rfl,b,hS⟩)
  |(at_builtin;first
   |(refine uE rfl _ _ rfl rfl b hS _ 2 rfl [[46,128],[47,110]] rfl rfl (by decide) (by decide) ?_;clear b hS;intro d f b hS)
   |(refine uE rfl _ _ rfl rfl b hS _ 1 rfl [[]] rfl rfl (by decide) (by decide) ?_;clear b hS;intro d f b hS))
  |(at_mapUpdate;first
   |(refine bm rfl _ _ _ rfl rfl H hS (by omega) _ (by decide) (by decide) rfl _ rfl _ b a ?_;clear H a b hS;intro w1 H a)
   |(refine bm rfl _ _ _ rfl rfl H ((ah _ _).alloc (ae _) _) (by omega) 128 (by decide) (by decide) rfl _ rfl [[1,129],[40,117,41,130]] ?own a ?_;(case own=>exact dK _ _ [[1,129],[40,117,41,130]] 2 rfl rfl (by decide) (by decide));clear H a;intro w1 H a)
   |(refine bm rfl _ _ _ rfl rfl H ((ah _ _).alloc (ae _) _) (by omega) 131 (by decide) (by decide) rfl _ rfl [[1,132],[40,117,41,132]] ?own a ?_;(case own=>exact dK _ _ [[1,132],[40,117,41,132]] 2 rfl rfl (by decide) (by decide));clear H a;intro w1 H a)))
 go_end0
 exact⟨rfl,H,a⟩
def Hr:Array Ax:=#[O S 26,O S 1,O S 2,O S 10,O S 2,O S 3,O S 73,O S 3,O S 4,O S 74,O S 3,O S 4,O S 75,O S 3,O S 4,O S 76,O S 3,O S 4,O S 77,O S 3,O S 4,O S 78,O S 3,O S 4,
 O S 72,O S 4,O S 4,O S 68,O S 5,O S 6,O S 69,O S 6,O S 7,O S 67,O S 7,O S 8,O S 70,O S 8,O S 9,O S 71,O S 8,O S 9,O S 61,O S 9,O S 10,O S 62,O S 9,O S 10,
 O S 63,O S 10,O S 11,O S 64,O S 10,O S 11,O S 65,O S 10,O S 11,O S 66,O S 10,O S 11]
def Hs:List Int:=[26,10,73,74,75,76,77,78,72,68,69,67,70,71,61,62,63,64,65,66]
def akf(k:Nat):Int:=match Hr.getD k (O S 0) with| .int _ a=>a|_=>0
theorem arv(k:Nat)(a:k<20)(w:Y):(Instr.index 197 (.agg Hr) (O S (k:Int))).run U w= .ok (.agg #[O S (Hs.getD k 0),O S (akf (3*k+1)),O S (akf (3*k+2))]) w:=by
 rcases(show k=0\/k=1\/k=2\/k=3\/k=4\/k=5\/k=6\/k=7\/k=8\/k=9\/k=10\/k=11\/k=12\/k=13\/k=14\/k=15\/k=16\/k=17\/k=18\/k=19 by omega) with rfl|rfl|rfl|rfl|rfl|rfl|rfl|rfl|rfl|rfl|rfl|rfl|rfl|rfl|rfl|rfl|rfl|rfl|rfl|rfl;all_goals kernel_rfl
def BC(k:Nat):List (List Int):=(Hs.take k).map fun a=>[a,118,119]
theorem ad8(k:Nat)(b:k<20):BC (k+1)=BC k++[[Hs.getD k 0,118,119]]:=by
 unfold BC;rw[iw,eB];have a:Hs[k]?=M (Hs.getD k 0):=by
  rw[aK];rw[aE (by simpa [Hs] using b)];rfl
 rw[a];rfl
theorem agk(k:Nat)(a:k<=20):(BC k).length=k:=by
 unfold BC;rw[cA,jx];show min k 20=k;omega
theorem akg:∀k:Fin 20,0<=Hs.getD k.val 0/\Hs.getD k.val 0<=100:=by decide
theorem az{b:Nat}{o:Obj}(h:w.heap[b]?=M o):b<w.heap.size:=(Array.getElem?_eq_some_iff.1 h).1
theorem rD{a:Act}{D:DataW Ax}(l:o.guard=T)(m x:Operand)(q:o.op=Op.lookup 88 m x A9)(p:a.eval m= .map (M mb))
  (g:W.ownsMap U 96 xd mb n D) (t:w.heap[mb]?=W.heap[mb]?) (s:Int) (s0:0<=s) (y:s<=255) (u:a.eval x= .int .u8 s) (k:D.atKey (.int .u8 s) (.held (.slice T 0 0))= .held v)
  (i:wpList U ops Q rest (a.put o.dst v) w):wpList U ops Q (o::rest) a w:=by
 refine wpList_plain l fun z j=>?_;have h:w.ownsMap U 96 xd mb n D:=by
  obtain⟨f,c,d,e⟩:=g;exact⟨f,c,t.trans d,e⟩
 obtain⟨B,A,r,b⟩:=h.lookup aaD Tryz.underlying88 (show(zeroValue 193).run U w= .ok (.slice T 0 0) w by kernel_rfl) (zd:= .held (.slice T 0 0)) (zp:=[]) rfl (aaE s0 y);rw[k]at b;unfold xd at b;simp only[eA,gD,DataW.held.injEq]at b;obtain⟨rfl,_⟩:=b;unfold Oper.wp;simp[execOp,q,p,u,r,Result.andThen];exact j _ _ i
theorem Dk{a:Act}{an w1:Y}{D:DataW Ax}{f:Int->Ax}
  (E:o.guard=T) (m x v:Operand) (a7:o.op=Op.mapUpdate 88 m x v) (a3:a.eval m= .map (M mb))
  (r:W.ownsMap U 96 xd mb n D) (p:∀a,0<=a->a<=255->D.atKey (.int .u8 a) (.held (.slice T 0 0))= .held (f a)/\iC W base (f a) (An R a)) (t:agj f) (lo:base<=mb) (s:Int) (q:Z W.heap.size W w1) (G:w1.grownBy w (f s).ownBlock) (bf:n<1000)
  (s0:0<=s) (j:s<=255) (bb:a.eval x= .int .u8 s) (b:Ax) (a9:a.eval v=b) (y:List (List Int)) (a5:iC w base b y) (af:b.ownBlock=(f s).ownBlock\/b.ownBlock=M w1.heap.size) (ar:Z base an W)
  (av:∀w',RM w' base mb (n+1) ((s,y)::R)->Z base an w'->wpList U ops Q rest (a.put o.dst undef) w'):wpList U ops Q (o::rest) a w:=by
 have a4:=r.lt;obtain⟨L,J,C,al⟩:=r;have ag:=(q.block _ a4).trans C;have H:∀c,(f s).ownBlock=M c->mb≠c:=by
  intro c u;have a8:=(p s s0 j).2;rcases a8.2 with⟨h,_⟩|⟨ao,bd,be,h,_,ad,_⟩
  ·rw[h]at u;cases u
  ·rw[h]at u;obtain rfl:ao=c:=by simpa [V] using u
   rintro rfl;rw[C]at ad;cases ad
 have B:=(G.block mb (az ag) (fun e=>H mb e.symm rfl)).trans ag;have ap:w.ownsMap U 96 xd mb n D:=⟨L,J,B,al⟩;have r:W.ownsMap U 96 xd mb n D:=⟨L,J,C,al⟩;refine wpList_mapUpdate_own w E m x v 88 a7 96 193 aaD Tryz.underlying88 xd mb n D a3 ap (by unfold Ce;omega) _ _ _ bb a9 (aaE s0 j) (.held b) [] rfl ?_;intro w' a6 F;refine av w' ⟨⟨_,fun a=>if a=s then b else f a,a6,fun a d g=>?_,?_⟩,lo⟩ ?_
 ·by_cases e:a=s
  ·subst e;rw[sw,atKey_put_same r.isMap (by trivial)];show DataW.held b=DataW.held (if a=a then b else f a)/\iC w' base (if a=a then b else f a) y;rw[ab rfl];exact⟨rfl,wt a5 B F⟩
  ·show _=DataW.held (if a=s then b else f a)/\iC w' base (if a=s then b else f a) _;rw[ql (fun h=>e h.symm),aa e,atKey_put_other (by intro h;injection h with _ h;exact e h)];exact⟨(p a d g).1,wt (B9 ((p a d g).2.keep q) G (t a s d g s0 j e)) B F⟩
 ·have ak:∀a,0<=a->a<=255->∀c,(f a).ownBlock=M c->c<W.heap.size:=fun a d g c E=>((p a d g).2.lt c E).2;have bh:=q.size;intro a i d g z k H;show(if a=s then b else f a).ownBlock=T\/(if a=s then b else f a).ownBlock≠(if i=s then b else f i).ownBlock;by_cases A:a=s
  ·rw[ab A,aa (by omega)];rcases af with e|e
   ·rw[e];exact t s i s0 j z k (by omega)
   ·refine .inr (fun l=>?_);rw[e]at l;have:=ak i z k _ l.symm;omega
  ·rw[aa A];by_cases K:i=s
   ·rw[ab K];rcases af with e|e
    ·rw[e];exact t a s d g s0 j A
    ·cases hq:(f a).ownBlock with
     |none=>exact .inl rfl
     |some c=>exact .inr (fun l=>by rw[e]at l;have:=ak a d g c hq;cases l;omega)
   ·rw[aa K];exact t a i d g z k H
 ·have a2:base<=W.heap.size:=by omega
  have k:=q.mono a2;refine ar.trans ?_;have I:=k.grown G (by have:=q.size;omega) (fun am e=>((p s s0 j).2.lt am e).1);exact I.grown F (by have:=I.size;omega) (fun am e=>by cases e;exact lo)
theorem Ao{a:Act}{b:Y}(n:o.guard=T)(s x:Operand)
  (q:o.op= .call {callee:= .builtin .append,args:=#[s,x],argTypes:=#[193,193]}) (u:a.eval s=v) (f:iC b base v L) (F:base<=b.heap.size) (cs:Array Ax) (m g:Nat) (w:a.eval x= .slice (M ⟨g,0,T⟩) m m) (p:g=b.heap.size) (d:List (List Int)) (e:d.length=m) (l:cs.toList=Dj d) (t:∀r∈d,r.length<=6)
  (E:L.length+m<=1000)
  (k:∀c w',iC w' base c (L++d)->(b.alloc (.cells cs 156 (0,0))).grownBy w' v.ownBlock->(c.ownBlock=v.ownBlock\/c.ownBlock=M (b.alloc (.cells cs 156 (0,0))).heap.size)->wpList U ops Q rest (a.put o.dst c) w'):wpList U ops Q (o::rest) a (b.alloc (.cells cs 156 (0,0))):=by
 subst p;obtain⟨y,z,A,B,C⟩:=dD Hq;refine wpList_append_own_at _ n s x 193 q base 156 y _ 6 6 Tryz.underlying193 z A B C rfl (by decide) v L.length (Dj L) u (World.ownsRow.alloc f _) ⟨b.heap.size,0,T⟩ m m (Dj d) w (by rw[act t,e]) ?_ acs (by unfold Ce;omega) (by omega) (by simp;omega) ?_
 ·rw[<-l];exact A2 (cs:=cs) (fr:=(0,0)) (ay b _)
 ·intro c w' h i _ j;refine k c w' ?_ i j;unfold iC;rw[acr,aB,e];exact h
theorem J8(w:Y)(base mb n:Nat)(h:List (Int×List (List Int)))(H:RM w base mb n h)(K:n<=100)(t:C4)(fr:Nat×Nat)(x:w.heap[1]?=M (.cells Hr t fr))(y:1<base):
  B3 U 78 #[.map (M mb)] w fun e w'=>e= .returned (.tuple #[])/\RM w' base mb (n+34) ((124,[[117],[44,117,45,47,117],[48,1,47,117]])::(123,[[46,122],[]])::(122,[[124,123],[]])::(121,[[42,122,43]])::(119,[]::BC 20)::(118,[[25,118],[62,118],[50,118],[69,118],[1,120],[40,117,41,120],[2],[3],[4],[24],[29],[17],[49],[18,113],[121]])::(117,[[118,119]])::(116,[[46,115],[]])::(115,[[49],[1,116]])::(114,[[115],[]])::(113,[[40,114,41,108]])::(112,[[46,117,112],[]])::(111,[[117,112],[]])::(110,[[117,112]])::h)/\Z base w w':=by
 have a:Z base w w:=ah _ _;obtain⟨L,ad,af,ag,ak⟩:=dD Hq;go_in;go_wp2_with (first
  |(at_mapUpdate;first
   |(refine bm rfl _ _ _ rfl rfl H ((ah _ _).alloc (ae _) _) (by omega) 110 (by decide) (by decide) rfl _ rfl [[117,112]] ?own a ?_;(case own=>exact dK _ _ [[117,112]] 1 rfl rfl (by decide) (by decide));clear H a;intro w1 H a)
   |(refine bm rfl _ _ _ rfl rfl H ((ah _ _).alloc (ae _) _) (by omega) 111 (by decide) (by decide) rfl _ rfl [[117,112],[]] ?own a ?_;(case own=>exact dK _ _ [[117,112],[]] 2 rfl rfl (by decide) (by decide));clear H a;intro w1 H a)
   |(refine bm rfl _ _ _ rfl rfl H ((ah _ _).alloc (ae _) _) (by omega) 112 (by decide) (by decide) rfl _ rfl [[46,117,112],[]] ?own a ?_;(case own=>exact dK _ _ [[46,117,112],[]] 2 rfl rfl (by decide) (by decide));clear H a;intro w1 H a)
   |(refine bm rfl _ _ _ rfl rfl H ((ah _ _).alloc (ae _) _) (by omega) 113 (by decide) (by decide) rfl _ rfl [[40,114,41,108]] ?own a ?_;(case own=>exact dK _ _ [[40,114,41,108]] 1 rfl rfl (by decide) (by decide));clear H a;intro w1 H a)
   |(refine bm rfl _ _ _ rfl rfl H ((ah _ _).alloc (ae _) _) (by omega) 114 (by decide) (by decide) rfl _ rfl [[115],[]] ?own a ?_;(case own=>exact dK _ _ [[115],[]] 2 rfl rfl (by decide) (by decide));clear H a;intro w1 H a)
   |(refine bm rfl _ _ _ rfl rfl H ((ah _ _).alloc (ae _) _) (by omega) 115 (by decide) (by decide) rfl _ rfl [[49],[1,116]] ?own a ?_;(case own=>exact dK _ _ [[49],[1,116]] 2 rfl rfl (by decide) (by decide));clear H a;intro w1 H a)
   |(refine bm rfl _ _ _ rfl rfl H ((ah _ _).alloc (ae _) _) (by omega) 116 (by decide) (by decide) rfl _ rfl [[46,115],[]] ?own a ?_;(case own=>exact dK _ _ [[46,115],[]] 2 rfl rfl (by decide) (by decide));clear H a;intro w1 H a)
   |(refine bm rfl _ _ _ rfl rfl H ((ah _ _).alloc (ae _) _) (by omega) 117 (by decide) (by decide) rfl _ rfl [[118,119]] ?own a ?_;(case own=>exact dK _ _ [[118,119]] 1 rfl rfl (by decide) (by decide));clear H a;intro w1 H a)
   |(refine bm rfl _ _ _ rfl rfl H ((ah _ _).alloc (ae _) _) (by omega) 118 (by decide) (by decide) rfl _ rfl [[25,118],[62,118],[50,118],[69,118],[1,120],[40,117,41,120],[2],[3],[4],[24],[29],[17],[49],[18,113],[121]] ?own a ?_;(case own=>exact dK _ _ [[25,118],[62,118],[50,118],[69,118],[1,120],[40,117,41,120],[2],[3],[4],[24],[29],[17],[49],[18,113],[121]] 15 rfl rfl (by decide) (by decide));clear H a;intro w1 H a)
   |(refine bm rfl _ _ _ rfl rfl H ((ah _ _).alloc (ae _) _) (by omega) 119 (by decide) (by decide) rfl _ rfl [[]] ?own a ?_;(case own=>exact dK _ _ [[]] 1 rfl rfl (by decide) (by decide));clear H a;intro w1 H a))
  |(refine vE rfl 197 _ rfl 1 rfl t _ fr _ ((a.block _ y).trans x) Tryz.underlying197 rfl (by kernel_rfl) ?_))
 go_loopw [54] (fun m wr=>∃b:Nat,b<=20/\m= .int .i64 b/\RM wr base mb (n+10+b) ((119,[]::BC b)::(118,[[25,118],[62,118],[50,118],[69,118],[1,120],[40,117,41,120],[2],[3],[4],[24],[29],[17],[49],[18,113],[121]])::(117,[[118,119]])::(116,[[46,115],[]])::(115,[[49],[1,116]])::(114,[[115],[]])::(113,[[40,114,41,108]])::(112,[[46,117,112],[]])::(111,[[117,112],[]])::(110,[[117,112]])::h)/\Z base w wr) (fun m _=>20-(C2 m).toNat)
 case atStart=>exact⟨0,by omega,rfl,H,a⟩
 case round=>
  clear H a;obtain⟨b,B,rfl,H,a⟩:=hrel;by_cases k:b<20
  ·have j:=fun w=>arv b k w;obtain⟨r,s⟩:=akg ⟨b,k⟩;simp only at r s;have l:=ad8 b k;have q:=agk b B;generalize Hs.getD b 0=o at j r s l;generalize akf (3*b+1)=G at j;generalize akf (3*b+2)=p2 at j;obtain⟨D,v,d,i,p⟩:=H.ex;have F:=H.lo;have f:=i 119 (by decide) (by decide);rw[sw]at f;have C:=d.lt;have g:C5 (iC (wr.alloc (.cells #[.int .i64 o,.int .i64 G,.int .i64 p2] 196)) base (v 119) ([]::BC b)/\BC (b+1)=BC b++[[o,118,119]]/\(BC b).length=b):=⟨f.2.keep ((ah _ _).alloc (ae _) _),l,q⟩;clear l q;go_wp2_with (first
    |(at_lookup;refine rD rfl _ _ rfl rfl d ?blk 119 (by decide) (by decide) rfl f.1 ?_)
    |(at_builtin;go_loud (refine Ao rfl _ _ rfl rfl g.1 (by simp;omega) _ 1 (wr.heap.size+1) rfl (by simp) [[o,118,119]] rfl rfl (by simp) (by rw[bi,g.out.2.2];omega) ?_;intro al am E A z))
    |(at_mapUpdate;go_loud (refine Dk rfl _ _ _ rfl rfl d i p F 119 (((ah _ _).alloc (ae _) _).alloc (by simp) _) A (by omega) (by decide) (by decide) rfl _ rfl _ E z a ?_;clear H a d i p f;intro an H a)))
   case blk=>exact cC _ _ _ C
   go_roundw
   case rel=>
    refine⟨b+1,by omega,by go_num,?_,a⟩;refine RM.congr (n:=n+10+(b+1)) H (fun u I J=>?_);by_cases e:u=119
    ·subst e;rw[sw,sw,g.out.2.1];rfl
    ·rw[ql (fun c=>e c.symm),ql (fun c=>e c.symm),ql (fun c=>e c.symm)]
   case measure=>simp[C2];omega
  ·obtain rfl:b=20:=by omega
   go_wp2_with (at_mapUpdate;first
    |(refine bm rfl _ _ _ rfl rfl H ((ah _ _).alloc (ae _) _) (by omega) 121 (by decide) (by decide) rfl _ rfl [[42,122,43]] ?own a ?_;(case own=>exact dK _ _ [[42,122,43]] 1 rfl rfl (by decide) (by decide));clear H a;intro w1 H a)
    |(refine bm rfl _ _ _ rfl rfl H ((ah _ _).alloc (ae _) _) (by omega) 122 (by decide) (by decide) rfl _ rfl [[124,123],[]] ?own a ?_;(case own=>exact dK _ _ [[124,123],[]] 2 rfl rfl (by decide) (by decide));clear H a;intro w1 H a)
    |(refine bm rfl _ _ _ rfl rfl H ((ah _ _).alloc (ae _) _) (by omega) 123 (by decide) (by decide) rfl _ rfl [[46,122],[]] ?own a ?_;(case own=>exact dK _ _ [[46,122],[]] 2 rfl rfl (by decide) (by decide));clear H a;intro w1 H a)
    |(refine bm rfl _ _ _ rfl rfl H ((ah _ _).alloc (ae _) _) (by omega) 124 (by decide) (by decide) rfl _ rfl [[117],[44,117,45,47,117],[48,1,47,117]] ?own a ?_;(case own=>exact dK _ _ [[117],[44,117,45,47,117],[48,1,47,117]] 3 rfl rfl (by decide) (by decide));clear H a;intro w1 H a))
   go_end0
   exact⟨rfl,H.mono (by omega),a⟩
theorem agl:((B0 256).all fun a=>decide (An ((124,[[117],[44,117,45,47,117],[48,1,47,117]])::(123,[[46,122],[]])::(122,[[124,123],[]])::(121,[[42,122,43]])::(119,[]::BC 20)::(118,[[25,118],[62,118],[50,118],[69,118],[1,120],[40,117,41,120],[2],[3],[4],[24],[29],[17],[49],[18,113],[121]])::(117,[[118,119]])::(116,[[46,115],[]])::(115,[[49],[1,116]])::(114,[[115],[]])::(113,[[40,114,41,108]])::(112,[[46,117,112],[]])::(111,[[117,112],[]])::(110,[[117,112]])::(120,ni 120 120++[[]])::(133,ni 132 133++[[]])::(132,ni 132 133)::(131,[[1,132],[40,117,41,132]])::(130,ni 129 130)::(129,ni 129 130++[[46,128],[47,110]])::(128,[[1,129],[40,117,41,130]])::(127,ni 125 126)::(126,ni 125 126++[[]])::(125,ni 125 126++[[46,128],[47,110]])::(109,[[46,1,109],[]])::(108,[[42,100,43]])::(107,[[15,117,108,107],[16,108],[]])::(106,[[46,1],[]])::(105,[[46,117],[]])::(104,[[47,117,46,117,105,108],[21,117,108],[46,1,109,21,117,108]])::(103,[[47,110],[]])::(102,[[22,1,109,103],[13,1,47,117],[18,1,113],[20,117,108,107],[31,117,108],[19,1,104],[11],[23],[27,111],[30,108,12,1,106,108],[28,117],[14,131],[108],[1,125],[40,117,41,127]])::(101,[[5,100],[]])::(100,[[5,100],[102,101],[]])::[]) (a:Int)=lr (a:Int)))=A0:=by decide+kernel
theorem ad9{w1:Y}{r:List Int×Bool}{e:Ending}(a:Z w.heap.size w w1)(h:ld w1 r e w'):ld w r e w':=by
 obtain⟨b,c,rfl,f,d⟩:=h;exact⟨b,c,rfl,mL f a.size,a.trans (d.mono a.size)⟩
theorem akh{p:Prop}[Decidable p] {a b:List Int×Bool}(c:a.1.length<=6) (d:b.1.length<=6):(if p then a else b).1.length<=6:=by split<;>assumption
theorem aea(t:Int):(ja t).1.length<=6:=by
 unfold ja
 repeat' (first|(apply akh<;>skip)|exact Nat.le_of_ble_eq_true rfl)
theorem Dl(w:Y)(t:Int):B3 U 73 #[.int .i64 100,.int .i64 t] w (ld w (adF t)):=by
 unfold adF;by_cases f:t=5
 ·subst f;show B3 _ _ _ _ (ld w ([5,100],A0));go_in;go_wp2_with (go_at_call 116;refine eH (wi _ _) ?_);go_ret2;exact sn w [5,100] A0 (by simp)
 ·rw[aa f];have a:=fun w=>aas w t;have d:=aea t;generalize ja t=y at a d⊢;obtain⟨x,j⟩:=y;simp only at d⊢;obtain⟨C,c⟩:=aA x.length;obtain⟨q,r,s,u,v⟩:=dD tr;cases j with
  |true=>
   rw[ab rfl];unfold ld at a⊢;simp only at a⊢;rw[aB,eB];rw[c]at a d⊢;clear c;go_in;go_wp2_with (first|(go_at_call 117;refine(a _).mono ?_;rintro l w1 ⟨i,k,rfl,e,b⟩;have p:=b.size)|(at_builtin;refine mw _ rfl _ _ 24 rfl w.heap.size 3 q _ 1 8 Tryz.underlying24 r s u v rfl (by decide) _ _ _ rfl (e.alloc _) ⟨w1.heap.size,0,T⟩ 1 1 [.int .i64 101] rfl rfl (A2 (cs:=#[.int .i64 101]) (fr:=(0,0)) (ay w1 _)) (by intro E h;simp at h;subst h;rfl) (by unfold Ce;omega) (by omega) (by simp;omega) ?_;intro F G g o B;obtain⟨A,z,rfl⟩:=B6 g));go_ret2;exact⟨_,_,rfl,g,(b.alloc p _).grown o (by simp;omega) (fun m n=>(e.lt m n).1)⟩
  |false=>
   rw[aa (by decide)];unfold ld at a;simp only at a;rw[c]at a;clear c;go_in;go_wp2_with (go_at_call 117;refine(a _).mono ?_;rintro l w1 ⟨i,k,rfl,e,b⟩);go_ret2;exact ad9 b (Co _ A0)
theorem J9(w:Y)(s t:Int)(b:101<=s)(c:s<=133):B3 U 73 #[O S s,O S t] w (ld w (xE s t)):=by
 have f:=fun w=>yI w t;have g:=fun w=>JH w t;have h:=fun w=>aat w t;obtain rfl|rfl|rfl|rfl|rfl|rfl|rfl|rfl|rfl|rfl|rfl|rfl|rfl|rfl|rfl|rfl|rfl|rfl|rfl|rfl|rfl|rfl|rfl|rfl|rfl|rfl|rfl|rfl|rfl|rfl|rfl|rfl|rfl:s=101\/s=102\/s=103\/s=104\/s=105\/s=106\/s=107\/s=108\/s=109\/s=110\/s=111\/s=112\/s=113\/s=114\/s=115\/s=116\/s=117\/s=118\/s=119\/s=120\/s=121\/s=122\/s=123\/s=124\/s=125\/s=126\/s=127\/s=128\/s=129\/s=130\/s=131\/s=132\/s=133:=by omega
 all_goals
  clear b c;go_in;go_wp2_with (first|(go_at_call 116;refine eH (wi _ _) ?_)|(go_at_call 118;refine eH (f _) ?_)|(go_at_call 168;refine eH (g _) ?_)|(go_at_call 167;refine(h _).mono ?_;rintro a k ⟨i,j,rfl,e,d⟩)|go_in);all_goals
   go_ret2;first
    |exact⟨_,_,rfl,e,d⟩
    |(go_tidy
      simp only[xE,rl,ajz,apJ,ajA,ajB,afv,ajC,ajD,ajE,ajF,afw,am4,am5,afx,afy,am6,afz,am7,am8,ajG,ajH,ajI,ajJ,am9,ajK,afA,ajL,afB,aj0,aj1,afC,afD,aj2,ieq, *];simp[*];first|exact sn w _ _ (by simp)|exact Co w _|(by_cases a:t=21<;>simp_all<;>(try rw[show(t==46||t==21)=A9 by simp[*]])<;>exact sn w _ _ (by simp))|(by_cases a:t=44<;>simp_all<;>exact sn w _ _ (show 2<=100 by decide)))
theorem Ht(w:Y)(s t:Int)(c:100<=s)(b:s<=133):B3 U 73 #[O S s,O S t] w (ld w (xE s t)):=by
 by_cases a:s=100
 ·subst a;exact Dl w t
 ·exact J9 w s t (by omega) b
theorem agm:(Tryz.prog.info? 134).map (fun i=>(i.zero,i.size,i.bytes))=M (M (.agg #[O S 0,O S 0]),2,16):=by kernel_rfl
def cCl(C:List (Int×Int)):List Ax:=C.flatMap fun a=>[O S a.1,O S a.2]
theorem aki(C:List (Int×Int)):(cCl C).length=C.length*2:=by
 induction C with
 |nil=>rfl
 |cons b c a=>simp only[cCl,qH,aB,bi,dH]at a⊢;omega
theorem acu(C D:List (Int×Int)):cCl (C++D)=cCl C++cCl D:=by simp[cCl]
theorem agn:∀(C:List (Int×Int))(i:Nat)(c:Int×Int),C[i]?=M c->(cCl C)[i*2]?=M (O S c.1)/\(cCl C)[i*2+1]?=M (O S c.2)
 |[],i,c,h=>by simp at h
 |a::r,0,c,h=>by
  obtain rfl:a=c:=by simpa using h
  exact⟨rfl,rfl⟩
 |a::r,i+1,c,h=>by
  have e:=agn r i c (by simpa using h);have d:∀b,(cCl (a::r))[b+2]?=(cCl r)[b]?:=fun b=>rfl;rw[show(i+1)*2=i*2+2 by omega,show i*2+2+1=(i*2+1)+2 by omega,d,d];exact e
structure uF (W:Y) (base mb:Nat) (C:List (Int×Int)):Prop where
 ex:∃v,W.heap[mb]?=M (.cells #[v] 60 (0,0))/\W.ownsRow base 134 2 v C.length (cCl C)
 lo:base<=mb
structure Kp (mb:Nat) (w w':Y):Prop where
 os:w'.os=w.os
 tape:w'.tape=w.tape
 output:w'.output=w.output
 size:w.heap.size<=w'.heap.size
 block:∀k,k<w.heap.size->k≠mb->(∀cs fr,w.heap[k]?≠M (.cells cs 134 fr))->w'.heap[k]?=w.heap[k]?
theorem Kp.refl(mb:Nat)(w:Y):Kp mb w w:=⟨rfl,rfl,rfl,ae _,fun _ _ _ _=>rfl⟩
theorem Kp.trans{x y z:Y}(h:Kp mb x y)(k:Kp mb y z):Kp mb x z:=
 ⟨k.os.trans h.os,k.tape.trans h.tape,k.output.trans h.output,bg h.size k.size,fun d b c a=>
  (k.block d (gh b h.size) c (fun e f=>by rw[h.block d b c a];exact a e f)).trans (h.block d b c a)⟩
theorem Kp.of_below(h:Z w.heap.size w w'):Kp mb w w':=⟨h.os,h.tape,h.output,h.size,fun b a _ _=>h.block b a⟩
theorem Kp.blk(h:Kp mb w w'){cs:Array Ax}{t:C4}{fr:Nat×Nat}(a:w.heap[k]?=M (Ck cs t fr))(d:t≠134)(c:k≠mb):w'.heap[k]?=M (Ck cs t fr):=
 (h.block k (ai a) c (fun e f b=>by rw[a]at b;cases b;exact d rfl)).trans a
theorem Kp.row(h:Kp mb w w'){f:Nat×Nat}(j:w.heap[mb]?=M (Ck #[v0] 60 f)){e size:Nat}(o:w.ownsRow base e size v n xs)(k:e≠134)(l:e≠60):w'.ownsRow base e size v n xs:=by
 obtain⟨i,b⟩:=o;refine⟨i,?_⟩;rcases b with b|⟨g,c,d,p,m,a,q⟩
 ·exact .inl b
 ·refine .inr ⟨g,c,d,p,m,h.blk a k ?_,q⟩;rintro rfl;rw[j]at a;simp only[eA,jw]at a;exact l a.2.1.symm
theorem uF.below(h:uF W base mb C)(b:Z W.heap.size W W'):uF W' base mb C:=by
 obtain⟨d,a,c⟩:=h.ex;exact⟨⟨d,(b.block _ (ai a)).trans a,bJ c b⟩,h.lo⟩
def mH(C:List (Int×Int)):Int->List Int->Prop
 |top,[]=>top= -1
 |top,s::r=>∃(i:Nat) (b:Int),top=(i:Int)/\C[i]?=M (s,b)/\mH C b r
theorem mH.app(D:List (Int×Int)):∀{st:List Int}{a:Int},mH C a st->mH (C++D) a st
 |[],a,h=>h
 |s::r,a,⟨i,b,d,c,e⟩=>⟨i,b,d,by rw[ia (List.getElem?_eq_some_iff.1 c).1];exact c,e.app D⟩
theorem mH.push{a:Int}(h:mH C a st)(s:Int):mH (C++[(s,a)]) (C.length:Int) (s::st):=
 ⟨C.length,a,rfl,by rw[fy (ae _),eD];rfl,h.app _⟩
theorem Dm(w:Y)(base mb:Nat)(C:List (Int×Int))(m l:Int)(h:uF w base mb C)(L:C.length<=100000000):
  B3 U 74 #[.pointer (M ⟨mb,0,T⟩),.int .i64 m,.int .i64 l] w fun e w'=>e= .returned (.int .i64 (C.length:Nat))/\uF w' base mb (C++[(l,m)])/\Kp mb w w'/\Z base w w':=by
 obtain⟨a0,f,g⟩:=h.ex;have B:=h.lo;obtain⟨k,u⟩:=aA C.length;rw[u]at g L⊢;obtain⟨o,p,rfl⟩:=cj g;obtain⟨ag,ak,al,am,an⟩:=dD agm;have ad:=ai f;have ao:w.cell? ⟨mb,0,T⟩=M (.slice o k p):=by rw[au _ _ _ _ _ _ f];rfl
 have E:∀c,(B1 o k p).ownBlock=M c->c≠mb/\base<=c:=fun c j=>by
  refine⟨?_,(g.lt c j).1⟩;rintro rfl;rcases g.2 with⟨a,_⟩|⟨r,y,z,a,_,d,_⟩
  ·rw[a]at j;simp[V]at j
  ·rw[a]at j;obtain rfl:r=c:=by simpa [V] using j
   rw[d]at f;cases f
 have n:=iF g f u;clear g f u h;go_in;go_wp2_with (at_builtin;refine mw _ rfl _ _ 58 rfl base 134 ag _ 2 16 Tryz.underlying58 ak al am an rfl (by decide) _ _ _ rfl (n.1.alloc _) ⟨w.heap.size,0,T⟩ 1 1 [.int .i64 l,.int .i64 m] rfl rfl (A2 (cs:=#[.int .i64 l,.int .i64 m]) (fr:=(0,0)) (ay w _)) (by intro av F;simp at F;rcases F with rfl|rfl<;>rfl) (by unfold Ce;omega) (by omega) (by simp;omega) ?_;intro a1 G x b ar;obtain⟨A,I,rfl⟩:=B6 x;have s:=(b.block mb (by simp;omega) (fun e=>(E mb e.symm).1 rfl)).trans ((cC _ _ _ ad).trans n.2.1);have a2:G.cell? ⟨mb,0,T⟩=M (.slice o k p):=(by rw[au _ _ _ _ _ _ s];rfl);have ap:G.frozen? ⟨mb,0,T⟩=A9:=bI _ _ _ _ _ s);go_ret;have af:=b.size;rw[dr]at af;refine⟨by go_num,⟨⟨.slice (M ⟨A,0,T⟩) (k+1) I,aL _ mb 0 _ _ _ s,?_⟩,B⟩,?_,?_⟩
 ·rw[aB,n.out.2.2,acu];refine x.kept (row:=M mb) ⟨rfl,rfl,rfl,by simp[A5],fun i t v=>aC _ _ _ _ (fun e=>v (by rw[e]))⟩ ?_;refine .inr ?_;intro e;obtain rfl:A=mb:=by simpa [V] using e
  rcases x.2 with⟨a,_⟩|⟨r,y,z,a,_,d,_⟩
  ·cases a
  ·cases a;rw[s]at d;cases d
 ·refine⟨b.os,b.tape,b.output,by simp[A5];omega,fun i t v K=>?_⟩;rw[aC _ _ _ _ v];refine(b.block i (by simp;omega) (fun e=>?_)).trans (cC _ _ _ t);have q:(B1 o k p).ownBlock=M i:=e.symm;rcases n.1.2 with⟨a,_⟩|⟨r,y,z,a,_,d,_⟩
  ·rw[a]at q;simp[V]at q
  ·rw[a]at q;obtain rfl:r=i:=by simpa [V] using q
   exact K _ _ d
 ·have J:base<=w.heap.size:=by omega
  have H:Z base w (w.alloc (.cells #[.int .i64 l,.int .i64 m] 134)):=(ah _ w).alloc J _;exact(H.grown b (by simp;omega) (fun i t=>(E i t).2)).setCell B _
theorem Ap:∀{f:Nat}{st:List Int}{t:Int}{n:Nat}{lo:List Int}{b:Option Bool}{m:Nat},eL f st t n=M (lo,b,m)->n<=m
 |0,_,_,_,_,_,_,h=>by simp[eL]at h
 |f+1,[],t,n,lo,b,m,h=>by
  simp only[eL,eA,gD]at h;omega
 |f+1,s::r,t,n,lo,b,m,h=>by
  by_cases c:s<100
  ·have:=(sj h c).2.2;omega
  ·rcases kL h (by omega) with⟨_,a⟩|⟨_,_,_,a⟩
   ·have:=Ap a;omega
   ·omega
structure Dn (w:Y) (base mb:Nat) (C:List (Int×Int)) (t:Int) (Res:List Int×Bool) (k:Nat) (stk:List Int) (top:Int) (D:List (Int×Int)) (W:Y):Prop where
 m:uF W base mb (C++D)
 s:mH (C++D) top stk
 o:Cn stk
 kp:Kp mb w W
 bl:Z base w W
 d:D.length<=20
 ph:(D=[]/\feedL stk t=Res/\stk.length+9<=k)\/∃cur r f lo b m,stk=cur++r/\eL f cur t D.length=M (lo,M b,m)/\(lo++r,b)=Res/\m<=20/\f<=k
theorem Dn.nil{a:List Int×Bool}{i:Int}{D:List (Int×Int)}(h:Dn w base mb C t a k [] i D W):a=([],A9):=by
 rcases h.ph with⟨_,e,_⟩|⟨d,n,c,l,j,m,f,b,_⟩
 ·rw[<-e];rfl
 ·have g:d=[]:=(List.append_eq_nil_iff.1 f.symm).1;subst g;cases c with
  |zero=>simp[eL]at b
  |succ c=>simp[eL]at b
theorem Dn.tok{w:Y}{base mb:Nat}{C:List (Int×Int)}{t:Int}{c:List Int×Bool}{k:Nat}{s:Int}{f:List Int}{m:Int}{D:List (Int×Int)}{W:Y}(h:Dn w base mb C t c k (s::f) m D W)(e:s<100):c=(f,decide (s=t)):=by
 rcases h.ph with⟨_,g,_⟩|⟨d,q,b,o,n,p,i,a,j,_⟩
 ·rw[<-g];exact jb e
 ·cases d with
  |nil=>
   cases b with
   |zero=>simp[eL]at a
   |succ b=>simp[eL]at a
  |cons r d=>
   obtain⟨rfl,rfl⟩:=th i;cases b with
   |zero=>simp[eL]at a
   |succ b=>
    obtain⟨rfl,l,_⟩:=sj a e;rw[<-j,bu l];rfl
theorem Dn.no{i:List Int×Bool}{m:List Int}{y:Int}{D:List (Int×Int)}(h:Dn w base mb C t i k (s::m) y D W)(v:1<=t)(x:t<=78)(d:100<=s)(g:(xE s t).2=A9):i=(m,A9):=by
 rcases h.ph with⟨_,p,_⟩|⟨j,B,c,u,n,z,q,a,r,_⟩
 ·have l:¬((xE s t).1=[]/\(xE s t).2=A0):=by rw[g];simp
  obtain⟨u,n,A,a,_⟩:=uA d (h.o s (bB ..)) v x l;rw[<-p,lI d l a];rcases kL a d with⟨b,_⟩|⟨_,e,f,_⟩
  ·rw[g]at b;cases b
  ·rw[e,bu f];rfl
 ·cases j with
  |nil=>
   cases c with
   |zero=>simp[eL]at a
   |succ c=>simp[eL]at a
  |cons E j=>
   obtain⟨rfl,rfl⟩:=th q;cases c with
   |zero=>simp[eL]at a
   |succ c=>
    rcases kL a d with⟨b,_⟩|⟨_,e,f,_⟩
    ·rw[g]at b;cases b
    ·rw[<-r,e,bu f];rfl
theorem Dn.step{w:Y}{base mb:Nat}{C:List (Int×Int)}{t:Int}{A:List Int×Bool}{k:Nat}{s:Int}{d:List Int}{av:Int}{D:List (Int×Int)}{W:Y}(h:Dn w base mb C t A k (s::d) av D W)(F:1<=t)(G:t<=78)(f:100<=s)(hx:(xE s t).2=A0){b:List (Int×Int)}{z:Int}{g:Y}(r:b.length=(xE s t).1.length)
  (ag:uF g base mb (C++D++b)) (am:mH (C++D++b) z ((xE s t).1++d)) (v:Kp mb w g) (u:Z base w g):D.length+(xE s t).1.length<=20/\∃E,E<k/\Dn w base mb C t A E ((xE s t).1++d) z (D++b) g:=by
 have B:=h.o s (bB ..);have an:=(acj f B F G).1;have m:Cn ((xE s t).1++d):=fun H hx=>by
  rcases List.mem_append.1 hx with hx|hx
  ·exact an H hx
  ·exact h.o H (cL _ hx)
 have x:uF g base mb (C++(D++b)):=by rw[<-cH];exact ag
 have l:mH (C++(D++b)) z ((xE s t).1++d):=by rw[<-cH];exact am
 have i:(D++b).length=D.length+(xE s t).1.length:=by rw[aB,r]
 rcases h.ph with⟨L,q,af⟩|⟨p,ar,e,y,n,ao,I,c,J,K,a0⟩
 ·subst L;by_cases j:(xE s t).1=[]/\(xE s t).2=A0
  ·rw[j.1]at r l m i⊢;have ad:b=[]:=nK (by simpa using r);subst ad;refine⟨by simp,d.length+9,by simp only[bi]at af;omega,x,l,m,v,u,by simp,.inl ⟨rfl,?_,ae _⟩⟩;rw[ep,<-q,lH f j]
  ·obtain⟨y,n,ap,c,al⟩:=uA f B F G j;rw[lI f j c]at q;rcases kL c f with⟨_,a⟩|⟨a,_⟩
   ·rw[eo]at a;have ak:=Ap a;refine⟨by simp only[dH];omega,7,by omega,x,l,m,v,u,by rw[i];simp only[dH];omega,.inr ⟨(xE s t).1,d,7,y,n,ap,rfl,?_,q,al,ae _⟩⟩;rw[i];exact a
   ·rw[hx]at a;cases a
 ·cases p with
  |nil=>
   cases e with
   |zero=>simp[eL]at c
   |succ e=>simp[eL]at c
  |cons a1 p=>
   obtain⟨rfl,rfl⟩:=th I;cases e with
   |zero=>simp[eL]at c
   |succ e=>
    rcases kL c f with⟨_,a⟩|⟨a,_⟩
    ·have ak:=Ap a;refine⟨by omega,e,by omega,x,l,m,v,u,by rw[i];omega,.inr ⟨(xE s t).1++p,ar,e,y,n,ao,by rw[cH];rfl,?_,J,K,ae _⟩⟩;rw[i];exact a
    ·rw[hx]at a;cases a
def uG(w:Y)(base mb:Nat)(C:List (Int×Int))(b:List Int×Bool)(e:Ending)(a:Y):Prop:=
 ∃(c:Int) (D:List (Int×Int)),e= B7 (C7 #[O S c,.bool b.2])/\uF a base mb (C++D)/\mH (C++D) c b.1/\D.length<=20/\Kp mb w a/\Z base w a
theorem ze(w:Y)(base mb:Nat)(C:List (Int×Int))(st:List Int)(K t:Int)(h:uF w base mb C)(bs:mH C K st)(bo:Cn st)(a3:1<=t)(a4:t<=78)(cI:C.length<=50000000):
  B3 U 32 #[C6 (M ⟨mb,0,T⟩),O S K,O S t] w (uG w base mb C (feedL st t)):=by
 obtain⟨A,al⟩:=aA (feedL st t);rw[al];have cl:base<=w.heap.size:=by obtain⟨bD,b7,_⟩:=h.ex;have:=ai b7;have:=h.lo;omega
 have a9:C5 (Dn w base mb C t A (st.length+9) st K [] w):=⟨by rw[eo];exact h,by rw[eo];exact bs,bo,Kp.refl _ _,ah _ _,by simp,.inl ⟨rfl,al,ae _⟩⟩;clear h bs bo al;go_in;go_wp2_with fail;go_loopg [1] (st.length+9) (fun cm a8 wr=>∃(a2:List Int) (s:Int) (D:List (Int×Int)),a8= O S s/\C5 (Dn w base mb C t A cm a2 s D wr))
 case atStart=>exact⟨st,K,[],rfl,a9⟩
 case round=>
  obtain⟨a2,s,D,rfl,a⟩:=hrel;clear a9;cases a2 with
  |nil=>
   have ak:=a.s;subst ak;have k:=aw a.nil;go_wp2_with fail;go_ret2;refine⟨-1,D,?_,a.m,?_,a.d,a.kp,a.bl⟩
   ·rw[k.out];rfl
   ·rw[k.out];exact a.s
  |cons e a5=>
   obtain⟨f,l,cc,am,q⟩:=a.s;subst cc;obtain⟨bD,F,H⟩:=a.m.ex;have ce:=(List.getElem?_eq_some_iff.1 am).1;obtain⟨g,ag,rfl⟩:∃g ag,bD= B4 (M ⟨g,0,T⟩) (C++D).length ag:=by
    rcases bq H with⟨hz,_⟩|hz
    ·omega
    ·exact hz
   have an:=agn _ f _ am;have bd:wr.cell? ⟨g,f*2,T⟩=M (O S e):=by rw[H.cellAt (f*2) (by omega)];exact an.1
   have be:wr.cell? ⟨g,f*2+1,T⟩=M (O S l):=by rw[H.cellAt (f*2+1) (by omega)];exact an.2
   obtain⟨av,G⟩:=aA ((C++D).length);have cv:=a.d;have c2:av<=50000020:=by rw[<-G,aB];omega
   rw[G]at F ce;have bb:wr.cell? ⟨mb,0,T⟩=M (B4 (M ⟨g,0,T⟩) av ag):=by rw[au _ _ _ _ _ _ F];rfl
   obtain⟨u,E⟩:∃u:Addr,(⟨g,0,T⟩:Addr)=u:=⟨_,rfl⟩;have b5:wr.cell? (u.add (f*2))=M (O S e):=by rw[<-E,show((⟨g,0,T⟩:Addr).add (f*2))=⟨g,f*2,T⟩ by unfold Addr.add;split<;>simp_all];exact bd
   have b6:wr.cell? ⟨(u.add (f*2)).block,(u.add (f*2)).off+1,T⟩=M (O S l):=by rw[<-E,show((⟨g,0,T⟩:Addr).add (f*2))=⟨g,f*2,T⟩ by unfold Addr.add;split<;>simp_all];exact be
   rw[E]at bb;have cx:(f:Int)<(av:Int):=by omega
   have cw:(0:Int)<=(f:Int):=by omega
   have ct:base<=wr.heap.size:=bg cl a.bl.size;have z:=iF G F q;clear bd be an H F G E am q;by_cases ch:e<100
   ·have k:C5 (A=(a5,decide (e=t))):=a.tok ch;have ca:∀a0,Z base wr (wr.alloc a0).drew:=fun a0=>dJ ((ah _ wr).alloc (by omega) a0);have cu:(wr.alloc (Ck #[O S e,O S l] 134)).cell? ⟨wr.heap.size,0,T⟩=M (O S e):=by rw[au _ _ _ _ _ _ (ay wr _)];rfl
    go_wp2_with fail;go_region_held3 (fun cq=>cq.cell? ⟨wr.heap.size,0,T⟩=M (O S e)) (go_keep) (fail)
    go_wp2_with fail;go_ret2;have p:Z wr.heap.size wr (wr.alloc (Ck #[O S e,O S l] 134)).drew:=dJ (bG wr _);refine⟨l,D,?_,a.m.below p,?_,a.d,a.kp.trans (Kp.of_below p),a.bl.trans (ca _)⟩
    ·rw[k.out];rfl
    ·rw[k.out];exact z.2.2
   ·have J:100<=e:=by omega
    have bt:e<=133:=a.o e (bB ..);have v:=fun w=>Ht w e t J bt;have bw:=(acj J bt a3 a4).2;obtain⟨r,I⟩:=aA ((xE e t).1);obtain⟨cp,ap⟩:=aA ((xE e t).2);unfold ld at v;rw[I,ap]at v;rw[I]at bw;obtain⟨i,ao⟩:=aA r.length;rw[ao]at v bw;have o:=iF I ap ao;clear I ap ao;have p:=bG wr (Ck #[O S e,O S l] 134);go_wp2_with fail;refine(v _).mono ?_;rintro ak x ⟨a1,rc,rfl,br,bh⟩;have af:Z wr.heap.size wr x:=p.trans (bh.mono p.size);have n:C5 (uF x base mb (C++D)/\Kp mb w x/\Z base w x/\x.ownsRow base 3 1 (B4 a1 i rc) i (r.map (Br S))):=
     ⟨a.m.below af,a.kp.trans (Kp.of_below af),a.bl.trans (af.mono (by omega)),mL br (by simp;omega)⟩
    clear v p br bh bb b5 b6;cases cp with
    |false=>
     have k:C5 (A=(a5,A9)):=a.no a3 a4 J o.2.1;go_wp2_with fail;go_ret2;refine⟨l,D,?_,n.1,?_,a.d,n.2.1,n.2.2.1⟩
     ·rw[k.out];rfl
     ·rw[k.out];exact z.2.2
    |true=>
     have c1:(C++D).length<=50000020:=by rw[z.out.1];omega
     go_wp2_with fail;go_loopw [1,11] (fun a8 a7 L=>∃(b:Nat) (s:Int) (j:List (Int×Int)),b<=i/\a7= O S ((b:Int)-1)/\a8= O S s/\C5 (j.length=i-b/\uF L base mb (C++D++j)/\mH (C++D++j) s (r.drop b++a5)/\Kp mb w L/\Z base w L/\L.ownsRow base 3 1 (B4 a1 i rc) i (r.map (Br S)))) (fun _ a7 _=>(C2 a7+1).toNat)
     case atStart=>
      refine⟨i,l,[],ae _,rfl,rfl,by simp,?_,?_,n.2.1,n.2.2.1,n.2.2.2⟩
      ·rw[eo];exact n.1
      ·rw[eo,ju (by rw[o.out.2.2];exact ae _)];exact z.2.2
     case round=>
      obtain⟨b,a6,j,cy,rfl,rfl,c⟩:=hrel;cases b with
      |zero=>
       have q:=c.2.2.1;rw[jy,<-o.out.1]at q;obtain⟨_,cn,cf,bA⟩:=a.step a3 a4 J o.2.1 (by rw[o.out.1,o.out.2.2];exact c.1) c.2.1 q c.2.2.2.1 c.2.2.2.2.1;have b0:=aw bA;clear bA q;go_wp2_with fail;go_roundg cn
       case measure=>exact cf
       case rel=>exact⟨_,a6,_,rfl,b0⟩
      |succ b=>
       have b4:(((b+1:Nat)):Int)-1=(b:Int):=by omega
       rw[b4];have cB:(0:Int)<=(b:Int):=by omega
       have cF:(b:Int)<(i:Int):=by omega
       obtain⟨y,hz⟩:=co o.2.2 (show b<i by omega);obtain⟨B,cb⟩:∃B,a1=M ⟨B,0,T⟩:=by
        rcases bq c.2.2.2.2.2 with⟨h,_⟩|⟨B,cr,h⟩
        ·omega
        ·cases h;exact⟨_,rfl⟩
       subst cb;have cs:wr.cell? ⟨B,b,T⟩=M (O S y):=by rw[c.out.2.2.2.2.2.cellAt b (by omega),bK,hz];rfl
       have b8:(C++D++j).length<=100000000:=by rw[aB,c.out.1];omega
       have bx:=Dm wr base mb (C++D++j) a6 y c.2.1 b8;have ar:=c.2.2.1.push y;have bj:r.drop b=y::r.drop (b+1):=by
        have bk:=List.getElem?_eq_some_iff.1 hz;rw[iH bk.1,bk.2]
       have bE:=aw bj;obtain⟨ad,bf⟩:∃ad:Int,(((C++D++j).length:Nat):Int)=ad:=⟨_,rfl⟩;rw[bf]at bx ar;have b3:=aw ar;clear ar bj bf hz;go_wp2_with (go_at_call 74;refine bx.mono ?_;rintro ak c4 ⟨rfl,cg,bn,b9⟩);refine⟨⟨b,ad,j++[(y,a6)],by omega,rfl,rfl,?_,?_,?_,c.2.2.2.1.trans bn,c.2.2.2.2.1.trans b9,?_⟩,by simp[C2]⟩
       ·rw[aB,c.out.1];simp;omega
       ·rw[<-cH];exact cg
       ·rw[<-cH,bE.out];exact b3
       ·obtain⟨c3,ck,_⟩:=c.2.1.ex;exact bn.row ck c.2.2.2.2.2 (by decide) (by decide)
theorem acv{e:C4}{size g a d:Nat}{i:List Ax}(f:xs.length=n*size)
  (h:w.ownsRow base e size (B4 (M ⟨g,0,T⟩) (n+d) a) (n+d) (xs++i)):w.ownsRow base e size (B4 (M ⟨g,0,T⟩) n a) n xs:=by
 obtain⟨_,k⟩:=h;rcases k with⟨j,_⟩|⟨t,s,b,r,m,o,u,l,p,q⟩
 ·cases j
 ·cases r;refine⟨f,.inr ⟨g,a,b,rfl,m,o,by omega,l,p,?_⟩⟩;have c:(b.toList.take ((n+d)*size)).take (n*size)=(xs++i).take (n*size):=by rw[q]
  rw[List.take_take,yv (Nat.mul_le_mul_right _ (by omega))]at c;rw[c,<-f];exact take_len _ _
theorem acw{e:C4}{size g a:Nat}(h:w.ownsRow base e size (B4 (M ⟨g,0,T⟩) n a) n xs):n<=a:=by
 rcases h.2 with⟨b,_⟩|⟨j,f,i,d,l,m,c,k,o,p⟩
 ·cases b
 ·cases d;exact c
def jG(st:List Int):Nat->List Int
 |0=>[]
 |j+1=>if(feedL st ((j:Int)+1)).2=A0 then jG st j++[(j:Int)+1] else jG st j
def pu(st:List Int):List Int:=jG st 78
theorem sx(st:List Int):∀j,(jG st j).length<=j
 |0=>ae _
 |j+1=>by
  have:=sx st j;rw[jG];split
  ·rw[aB];simp;omega
  ·omega
theorem uF.put(e:W.heap[mb]?=M (Ck #[v0] 60 (0,0)))(lo:base<=mb)(c:W.ownsRow base 134 2 v C.length (cCl C)):uF (W.setCell ⟨mb,0,T⟩ v) base mb C:=by
 refine⟨⟨v,aL _ mb 0 _ _ _ e,?_⟩,lo⟩;refine c.kept (row:=M mb) ⟨rfl,rfl,rfl,by simp[A5],fun m l g=>aC _ _ _ _ (fun a=>g (by rw[a]))⟩ ?_;rcases bq c with⟨_,rfl⟩|⟨f,h,rfl⟩
 ·exact .inl rfl
 ·refine .inr ?_;intro a;obtain rfl:f=mb:=by simpa [V] using a
  rcases c.2 with⟨b,_⟩|⟨k,i,j,b,_,d,_⟩
  ·cases b
  ·cases b;rw[e]at d;cases d
theorem Kp.put(h:Kp mb w W)(j:Nat)(v:Ax):Kp mb w (W.setCell ⟨mb,j,T⟩ v):=
 h.trans ⟨rfl,rfl,rfl,by simp[A5],fun b _ a _=>aC _ _ _ _ a⟩
theorem aeb(w:Y)(base mb:Nat)(h:uF w base mb []):
  B3 U 49 #[C6 (M ⟨mb,0,T⟩)] w fun e w'=>e= B7 (O S 1)/\uF w' base mb [(6, -1),(100,0)]/\Kp mb w w'/\Z base w w':=by
 have a:=Dm w base mb [] (-1) 6 h (by simp);go_in;go_wp2_with fail;refine a.mono ?_;rintro e w1 ⟨rfl,f,i,c⟩;have b:=Dm w1 base mb [(6, -1)] 0 100 f (by simp);clear a;simp only[dH,Int.natCast_zero];go_wp2_with fail;refine b.mono ?_;rintro e j ⟨rfl,g,p2,d⟩;clear b;simp only[bi,dH,gq,Int.natCast_one];go_wp2_with fail;go_ret;exact⟨rfl,g,i.trans p2,c.trans d⟩
structure akj (w:Y) (base mb:Nat) (C:List (Int×Int)) (st:List Int) (j:Nat) (vo:Ax) (W:Y):Prop where
 m:uF W base mb C
 kp:Kp mb w W
 bl:Z base w W
 row:W.ownsRow w.heap.size 3 1 vo (jG st j).length ((jG st j).map (Br .i64))
theorem Hu(w:Y)(base mb:Nat)(C:List (Int×Int))(st:List Int)(a2:Int)(h:uF w base mb C)(bj:mH C a2 st)(bd:Cn st)(cc:0<C.length)(bb:C.length<=50000000):
  B3 U 20 #[.pointer (M ⟨mb,0,T⟩),.int .i64 a2] w fun e w'=>∃a c,e= .returned (.slice a (pu st).length c)/\w'.ownsRow w.heap.size 3 1 (.slice a (pu st).length c) (pu st).length ((pu st).map (Br .i64))/\uF w' base mb C/\Kp mb w w'/\Z base w w':=by
 obtain⟨cz,al,bf⟩:=h.ex;have c6:base<=w.heap.size:=by have:=ai al;have:=h.lo;omega
 have an:=h.lo;obtain⟨j,E⟩:=aA C.length;obtain⟨t,r,rfl⟩:∃t r,cz= .slice (M ⟨t,0,T⟩) j r:=by
  rcases bq bf with⟨hz,_⟩|hz
  ·omega
  ·rw[<-E];exact hz
 have b8:w.cell? ⟨mb,0,T⟩=M (.slice (M ⟨t,0,T⟩) j r):=by rw[au _ _ _ _ _ _ al];rfl
 have bE:akj w base mb C st 0 (.slice T 0 0) w:=⟨h,Kp.refl _ _,ah _ _,cE _ _ _ _⟩;have n:=iF E bj bd;have a5:=aw bE;rw[E]at cc bb;obtain⟨cp,cq,cr,ct,cu⟩:=dD tr;clear h bf al bE E bj bd;go_in;go_wp21
 go_loopw [5,7] (fun b1 a3 wr=>∃(b:Nat),b<=78/\a3= .int .i64 ((b:Int)+1)/\(∃a c,∃cw:Nat,b1= .slice a cw c)/\C5 (akj w base mb C st b b1 wr)) (fun _ a3 _=>(79-C2 a3).toNat)
 case atStart=>exact⟨0,aF _,rfl,⟨_,_,_,rfl⟩,a5⟩
 case round=>
  obtain⟨b,c4,rfl,⟨y,z,q,rfl⟩,g⟩:=hrel;clear a5 b8;by_cases c5:b<78
  ·have G:((b:Int)+1)<=78:=by omega
   have p:=ze wr base mb C st a2 ((b:Int)+1) g.m n.2.1 n.2.2 (by omega) G (by rw[n.out.1];exact bb);obtain⟨b6,ag⟩:=aA (feedL st ((b:Int)+1));rw[ag]at p;obtain⟨bx,ap⟩:=aA b6.2;unfold uG at p;rw[ap]at p;have a4:C5 ((feedL st ((b:Int)+1)).2=bx):=by show _=_;rw[ag];exact ap
   obtain⟨m,ak⟩:∃m:Int,(b:Int)+1=m:=⟨_,rfl⟩;have J:=aw ak;have c2:m<=78:=by omega
   have c1:1<=m:=by omega
   rw[ak]at p⊢;clear ag ap ak G;go_wp21
   refine p.mono ?_;rintro e l ⟨c7,D,rfl,bs,_,ce,p2,a6⟩;obtain⟨cB,x,F⟩:=bs.ex;rw[aB,n.out.1,acu]at F;obtain⟨u,s,rfl⟩:∃t r,cB= .slice (M ⟨t,0,T⟩) (j+D.length) r:=by
    rcases bq F with⟨hz,_⟩|hz
    ·omega
    ·exact hz
   have hcut:=acv (by rw[aki,n.out.1]) F;have c3:=acw hcut;have z0:l.cell? ⟨mb,0,T⟩=M (.slice (M ⟨u,0,T⟩) (j+D.length) s):=by rw[au _ _ _ _ _ _ x];rfl
   have dd:l.frozen? ⟨mb,0,T⟩=A9:=bI _ _ _ _ _ x;have bt:=uF.put x an (by rw[n.out.1];exact hcut);obtain⟨dc,bn,_⟩:=g.m.ex;have bA:=p2.row bn g.row (by decide) (by decide);have bD:(l.setCell ⟨mb,0,T⟩ (.slice (M ⟨u,0,T⟩) j s)).ownsRow w.heap.size 3 1 (.slice y q z) (jG st b).length ((jG st b).map (Br .i64)):=
    ((Kp.refl mb l).put 0 _).row x bA (by decide) (by decide)
   have f:C5 (akj w base mb C st b (.slice y q z) (l.setCell ⟨mb,0,T⟩ (.slice (M ⟨u,0,T⟩) j s))):=
    ⟨bt,(g.kp.trans p2).put _ _,(g.bl.trans a6).setCell an _,bD⟩
   obtain⟨cI,cf⟩:=aA (j+D.length);rw[cf]at z0;clear p bs F x hcut bt bA bD bn p2 a6 g ce;have ch:=sx st b;cases bx with
   |false=>
    have e:jG st (b+1)=jG st b:=by rw[jG,a4.out,aa (by decide)]
    go_wp21
    refine⟨⟨b+1,by omega,?_,⟨_,_,_,rfl⟩,⟨f.m,f.kp,f.bl,by rw[e];exact f.row⟩⟩,?_⟩
    ·have:=J.out;congr 1;push_cast;omega
    ·simp[C2];omega
   |true=>
    have e:jG st (b+1)=jG st b++[(b:Int)+1]:=by rw[jG,a4.out,ab rfl]
    have b3:C5 (jG st (b+1)=jG st b++[m]):=by show _=_;rw[e,J.out]
    obtain⟨b7,b9,L⟩:=cj f.row;cases L;obtain⟨q,B⟩:=aA ((jG st b).length);have b4:=aw B;rw[B]at ch⊢;have a0:=f.row;rw[B]at a0;have o:=aw a0;clear e B a0;have cm:=f.kp.size;have v:C5 ((l.setCell ⟨mb,0,T⟩ (.slice (M ⟨u,0,T⟩) j s)).heap.size=l.heap.size):=by show _=_;simp[A5]
    go_wp2_with (at_builtin;rw[<-v.out];generalize l.setCell ⟨mb,0,T⟩ (.slice (M ⟨u,0,T⟩) j s)=K at f o cm⊢;refine mw _ rfl _ _ 24 rfl w.heap.size 3 cp _ 1 8 Tryz.underlying24 cq cr ct cu rfl (by decide) _ _ _ rfl (o.alloc _) ⟨K.heap.size,0,T⟩ 1 1 [.int .i64 m] rfl rfl (A2 (cs:=#[.int .i64 m]) (fr:=(0,0)) (ay K _)) (by intro c8 bk;simp at bk;subst bk;rfl) (by unfold Ce;omega) (by omega) (by simp;omega) ?_;intro da I ao k ck;obtain⟨cb,ca,rfl⟩:=B6 ao);obtain⟨cF,bo,bh⟩:=f.m.ex;have be:∀d,(B1 y q z).ownBlock=M d->w.heap.size<=d:=fun d i=>(o.out.lt d i).1;have ar:∀(d:Nat)(cs:Array Ax)(H:C4)(fr:Nat×Nat),K.heap[d]?=M (.cells cs H fr)->H≠3->I.heap[d]?=M (.cells cs H fr):=fun d cs H fr i G=>by
     refine(k.block d (by simp;have:=ai i;omega) (fun e=>?_)).trans ((cC _ _ _ (ai i)).trans i);have A:(B1 y q z).ownBlock=M d:=e.symm;rcases o.2 with⟨af,_⟩|⟨ad,a7,a8,af,_,v,_⟩
     ·rw[af]at A;simp[V]at A
     ·rw[af]at A;obtain rfl:ad=d:=by simpa [V] using A
      rw[i]at v;simp only[eA,jw]at v;exact G v.2.1
    have br:Kp mb w I:=⟨k.os.trans f.kp.os,k.tape.trans f.kp.tape,k.output.trans f.kp.output,by have:=k.size;simp at this;omega,fun d i cl am=>
     (k.block d (by simp;omega) (fun e=>by have:=be d e.symm;omega)).trans ((cC _ _ _ (by omega)).trans (f.kp.block d i cl am))⟩
    have bw:uF I base mb C:=by
     refine⟨⟨cF,ar _ _ _ _ bo (by decide),?_⟩,an⟩;obtain⟨cx,a1⟩:=bh;refine⟨cx,?_⟩;rcases a1 with a1|⟨ad,a7,a8,cn,cg,am,cy⟩
     ·exact .inl a1
     ·exact .inr ⟨ad,a7,a8,cn,cg,ar _ _ _ _ am (by decide),cy⟩
    have b0:akj w base mb C st (b+1) (.slice (M ⟨cb,0,T⟩) (q+1) ca) I:=by
     refine⟨bw,br,?_,?_⟩
     ·exact(f.bl.alloc (by omega) _).grown k (by simp;omega) (fun d i=>by have:=(o.out.lt d i).1;omega)
     ·rw[b3.out,aB,b4.out,eB];exact ao
    have b5:=aw b0;clear b0 bw br bo bh be ar ao k ck f o;refine⟨⟨b+1,by omega,?_,⟨_,_,_,rfl⟩,b5⟩,?_⟩
    ·have:=J.out;congr 1;push_cast;omega
    ·simp[C2];omega
  ·obtain rfl:b=78:=by omega
   obtain⟨b7,b9,L⟩:=cj g.row;cases L;go_wp21
   go_ret;exact⟨_,_,rfl,g.row,g.m,g.kp,g.bl⟩
theorem Ka(w:Y)(base mb n:Nat)(b:List (Int×List (List Int)))(H:RM w base mb n b)(c:n<=100):
  B3 U 76 #[.map (M mb)] w fun e w'=>e= B7 (C7 #[])/\RM w' base mb (n+10) ((109,[[46,1,109],[]])::(108,[[42,100,43]])::(107,[[15,117,108,107],[16,108],[]])::(106,[[46,1],[]])::(105,[[46,117],[]])::(104,[[47,117,46,117,105,108],[21,117,108],[46,1,109,21,117,108]])::(103,[[47,110],[]])::(102,[[22,1,109,103],[13,1,47,117],[18,1,113],[20,117,108,107],[31,117,108],[19,1,104],[11],[23],[27,111],[30,108,12,1,106,108],[28,117],[14,131],[108],[1,125],[40,117,41,127]])::(101,[[5,100],[]])::(100,[[5,100],[102,101],[]])::b)/\Z base w w':=by
 have a:Z base w w:=ah _ _;go_in;go_wp2_with (at_mapUpdate;first
  |(refine bm rfl _ _ _ rfl rfl H ((ah _ _).alloc (ae _) _) (by omega) 100 (by decide) (by decide) rfl _ rfl [[5,100],[102,101],[]] ?own a ?_;(case own=>exact dK _ _ [[5,100],[102,101],[]] 3 rfl rfl (by decide) (by decide));clear H a;intro w1 H a)
  |(refine bm rfl _ _ _ rfl rfl H ((ah _ _).alloc (ae _) _) (by omega) 101 (by decide) (by decide) rfl _ rfl [[5,100],[]] ?own a ?_;(case own=>exact dK _ _ [[5,100],[]] 2 rfl rfl (by decide) (by decide));clear H a;intro w1 H a)
  |(refine bm rfl _ _ _ rfl rfl H ((ah _ _).alloc (ae _) _) (by omega) 102 (by decide) (by decide) rfl _ rfl [[22,1,109,103],[13,1,47,117],[18,1,113],[20,117,108,107],[31,117,108],[19,1,104],[11],[23],[27,111],[30,108,12,1,106,108],[28,117],[14,131],[108],[1,125],[40,117,41,127]] ?own a ?_;(case own=>exact dK _ _ [[22,1,109,103],[13,1,47,117],[18,1,113],[20,117,108,107],[31,117,108],[19,1,104],[11],[23],[27,111],[30,108,12,1,106,108],[28,117],[14,131],[108],[1,125],[40,117,41,127]] 15 rfl rfl (by decide) (by decide));clear H a;intro w1 H a)
  |(refine bm rfl _ _ _ rfl rfl H ((ah _ _).alloc (ae _) _) (by omega) 103 (by decide) (by decide) rfl _ rfl [[47,110],[]] ?own a ?_;(case own=>exact dK _ _ [[47,110],[]] 2 rfl rfl (by decide) (by decide));clear H a;intro w1 H a)
  |(refine bm rfl _ _ _ rfl rfl H ((ah _ _).alloc (ae _) _) (by omega) 104 (by decide) (by decide) rfl _ rfl [[47,117,46,117,105,108],[21,117,108],[46,1,109,21,117,108]] ?own a ?_;(case own=>exact dK _ _ [[47,117,46,117,105,108],[21,117,108],[46,1,109,21,117,108]] 3 rfl rfl (by decide) (by decide));clear H a;intro w1 H a)
  |(refine bm rfl _ _ _ rfl rfl H ((ah _ _).alloc (ae _) _) (by omega) 105 (by decide) (by decide) rfl _ rfl [[46,117],[]] ?own a ?_;(case own=>exact dK _ _ [[46,117],[]] 2 rfl rfl (by decide) (by decide));clear H a;intro w1 H a)
  |(refine bm rfl _ _ _ rfl rfl H ((ah _ _).alloc (ae _) _) (by omega) 106 (by decide) (by decide) rfl _ rfl [[46,1],[]] ?own a ?_;(case own=>exact dK _ _ [[46,1],[]] 2 rfl rfl (by decide) (by decide));clear H a;intro w1 H a)
  |(refine bm rfl _ _ _ rfl rfl H ((ah _ _).alloc (ae _) _) (by omega) 107 (by decide) (by decide) rfl _ rfl [[15,117,108,107],[16,108],[]] ?own a ?_;(case own=>exact dK _ _ [[15,117,108,107],[16,108],[]] 3 rfl rfl (by decide) (by decide));clear H a;intro w1 H a)
  |(refine bm rfl _ _ _ rfl rfl H ((ah _ _).alloc (ae _) _) (by omega) 108 (by decide) (by decide) rfl _ rfl [[42,100,43]] ?own a ?_;(case own=>exact dK _ _ [[42,100,43]] 1 rfl rfl (by decide) (by decide));clear H a;intro w1 H a)
  |(refine bm rfl _ _ _ rfl rfl H ((ah _ _).alloc (ae _) _) (by omega) 109 (by decide) (by decide) rfl _ rfl [[46,1,109],[]] ?own a ?_;(case own=>exact dK _ _ [[46,1,109],[]] 2 rfl rfl (by decide) (by decide));clear H a;intro w1 H a))
 go_end0
 exact⟨rfl,H,a⟩
theorem akk:(Tryz.prog.info? 96).map (fun i=>(i.zero,i.size,i.bytes))=M (M (O Cr 0),1,1):=by kernel_rfl
def cSy(st:List Int):List Ax:=st.reverse.map (Br Cr)
theorem Kc(a:Int)(st:List Int):cSy (a::st)=cSy st++[O Cr a]:=by simp[cSy]
theorem Hv(st:List Int):(cSy st).length=st.length:=by simp[cSy]
structure Hw (W:Y) (base gb:Nat) (mv:Ax) (st:List Int):Prop where
 ex:∃v,W.heap[gb]?=M (.cells #[mv,v] 94 (0,0))/\W.ownsRow base 96 1 v st.length (cSy st)
 lo:base<=gb
theorem Hw.below{c:Ax}(h:Hw W base gb c st)(b:Z W.heap.size W W'):Hw W' base gb c st:=by
 obtain⟨e,a,d⟩:=h.ex;exact⟨⟨e,(b.block _ (ai a)).trans a,bJ d b⟩,h.lo⟩
structure Gp (gb:Nat) (w w':Y):Prop where
 os:w'.os=w.os
 tape:w'.tape=w.tape
 output:w'.output=w.output
 size:w.heap.size<=w'.heap.size
 block:∀k,k<w.heap.size->k≠gb->(∀cs fr,w.heap[k]?≠M (.cells cs 96 fr))->w'.heap[k]?=w.heap[k]?
theorem Gp.trans{x y z:Y}(h:Gp gb x y)(k:Gp gb y z):Gp gb x z:=
 ⟨k.os.trans h.os,k.tape.trans h.tape,k.output.trans h.output,bg h.size k.size,fun d b c a=>
  (k.block d (gh b h.size) c (fun e f=>by rw[h.block d b c a];exact a e f)).trans (h.block d b c a)⟩
theorem Gp.of_below(h:Z w.heap.size w w'):Gp gb w w':=⟨h.os,h.tape,h.output,h.size,fun b a _ _=>h.block b a⟩
theorem Hw.put{f:Ax}(e:W.heap[gb]?=M (Ck #[f,v0] 94 (0,0)))(lo:base<=gb)(c:W.ownsRow base 96 1 v st.length (cSy st)):Hw (W.setCell ⟨gb,1,T⟩ v) base gb f st:=by
 refine⟨⟨v,aL _ gb 1 _ _ _ e,?_⟩,lo⟩;refine c.kept (row:=M gb) ⟨rfl,rfl,rfl,by simp[A5],fun n m h=>aC _ _ _ _ (fun a=>h (by rw[a]))⟩ ?_;rcases bq c with⟨_,rfl⟩|⟨g,i,rfl⟩
 ·exact .inl rfl
 ·refine .inr ?_;intro a;obtain rfl:g=gb:=by simpa [V] using a
  rcases c.2 with⟨b,_⟩|⟨l,j,k,b,_,d,_⟩
  ·cases b
  ·cases b;rw[e]at d;cases d
theorem Aq(w:Y)(base b:Nat)(E:Ax)(st:List Int)(a:Int)(h:Hw w base b E st)(ad:st.length<=100000000):
  B3 U 44 #[.pointer (M ⟨b,1,T⟩),.int .u8 a] w fun e w'=>e= .returned (.tuple #[])/\Hw w' base b E (a::st)/\Gp b w w'/\Z base w w':=by
 obtain⟨a3,g,i⟩:=h.ex;have z:=h.lo;obtain⟨j,v⟩:=aA st.length;rw[v]at i ad;obtain⟨n,o,rfl⟩:=cj i;obtain⟨al,am,an,ao,ap⟩:=dD akk;have af:=ai g;have ar:w.cell? ⟨b,1,T⟩=M (.slice n j o):=by rw[au _ _ _ _ _ _ g];rfl
 have A:∀f,(B1 n j o).ownBlock=M f->f≠b/\base<=f:=fun f k=>by
  refine⟨?_,(i.lt f k).1⟩;rintro rfl;rcases i.2 with⟨c,_⟩|⟨r,G,H,c,_,s,_⟩
  ·rw[c]at k;simp[V]at k
  ·rw[c]at k;obtain rfl:r=f:=by simpa [V] using k
   rw[s]at g;cases g
 have m:=iF i g v;clear i g v h;go_in;go_wp2_with (at_builtin;refine mw _ rfl _ _ 90 rfl base 96 al _ 1 1 Tryz.underlying90 am an ao ap rfl (by decide) _ _ _ rfl (m.1.alloc _) ⟨w.heap.size,0,T⟩ 1 1 [.int .u8 a] rfl rfl (A2 (cs:=#[.int .u8 a]) (fr:=(0,0)) (ay w _)) (by intro a2 C;simp at C;subst C;rfl) (by unfold Ce;omega) (by omega) (by simp;omega) ?_;intro a4 q B d a1;obtain⟨y,x,rfl⟩:=B6 B;have t:=(d.block b (by simp;omega) (fun e=>(A b e.symm).1 rfl)).trans ((cC _ _ _ af).trans m.2.1);have a5:q.cell? ⟨b,1,T⟩=M (.slice n j o):=(by rw[au _ _ _ _ _ _ t];rfl);have a0:q.frozen? ⟨b,1,T⟩=A9:=bI _ _ _ _ _ t);have ak:=d.size;rw[dr]at ak;have K:=Hw.put t z (by rw[bi,m.out.2.2,Kc];exact B);have J:Gp b w (q.setCell ⟨b,1,T⟩ (.slice (M ⟨y,0,T⟩) (j+1) x)):=by
  refine⟨d.os,d.tape,d.output,by simp[A5];omega,fun l u ag L=>?_⟩;rw[aC _ _ _ _ ag];refine(d.block l (by simp;omega) (fun e=>?_)).trans (cC _ _ _ u);have p:(B1 n j o).ownBlock=M l:=e.symm;rcases m.1.2 with⟨c,_⟩|⟨r,G,H,c,_,s,_⟩
  ·rw[c]at p;simp[V]at p
  ·rw[c]at p;obtain rfl:r=l:=by simpa [V] using p
   exact L _ _ s
 have I:Z base w (q.setCell ⟨b,1,T⟩ (.slice (M ⟨y,0,T⟩) (j+1) x)):=by
  have F:Z base w (w.alloc (.cells #[.int .u8 a] 96)):=(ah _ w).alloc (by omega) _;exact(F.grown d (by simp;omega) (fun l u=>(A l u).2)).setCell z _
 go_end0
 exact⟨rfl,K,J,I⟩
theorem Kd(w:Y)(base b:Nat)(l:Ax)(st:List Int)(a:Int)(h:Hw w base b l (a::st))(o:st.length<=100000000):
  B3 U 90 #[C6 (M ⟨b,1,T⟩)] w fun e w'=>e= B7 (O Cr a)/\Hw w' base b l st/\Gp b w w'/\Z base w w':=by
 obtain⟨y,f,d⟩:=h.ex;have k:=h.lo;obtain⟨g,c⟩:=aA st.length;rw[bi,Kc,c]at d;rw[c]at o;obtain⟨j,n,rfl⟩:=B6 d;have hcut:=acv (by rw[Hv,c,ti]) d;have u:=acw d;have q:w.cell? ⟨b,1,T⟩=M (B4 (M ⟨j,0,T⟩) (g+1) n):=by rw[au _ _ _ _ _ _ f];rfl
 have r:w.cell? ⟨j,g,T⟩=M (O Cr a):=by
  rw[d.cellAt g (by omega),fy (by rw[Hv];omega),Hv,c,eD];rfl
 have s:w.frozen? ⟨b,1,T⟩=A9:=bI _ _ _ _ _ f;have i:=Hw.put f k (by rw[c];exact hcut);have m:=aw i;clear h d hcut i f c;go_in;go_wp21
 go_ret;refine⟨rfl,m,⟨rfl,rfl,rfl,by simp[A5],fun x v p t=>aC _ _ _ _ p⟩,(ah _ w).setCell k _⟩
theorem lA{lo c e size:Nat}(o:w.ownsRow lo e size v n xs)(h:∀g,v.ownBlock=M g->lo<=g->g<w.heap.size->w'.heap[g]?=w.heap[g]?/\c<=g):w'.ownsRow c e size v n xs:=by
 obtain⟨j,a⟩:=o;refine⟨j,?_⟩;rcases a with a|⟨g,f,i,rfl,k,b,l⟩
 ·exact .inl a
 ·have d:=h g rfl k (ai b);exact .inr ⟨g,f,i,rfl,d.2,d.1.trans b,l⟩
structure Lw (w:Y) (lo:Nat) (lv:Ax) (L:List Mb):Prop where
 row:w.ownsRow lo 111 9 lv L.length (oF L)
 each:∀x∈L,w.ownsRow lo 9 1 x.vn x.N.nm.length (x.N.nm.map Value.string)/\w.ownsRow lo 3 1 x.vk x.N.ks.length (x.N.ks.map (Br .i64))
theorem Lw.mono{lo:Nat}{e:List Mb}(h:Lw w lo v e)(d:∀k,lo<=k->k<w.heap.size->w'.heap[k]?=w.heap[k]?):Lw w' lo v e:=
 ⟨lA h.row fun b _ a c=>⟨d b a c,a⟩,fun g f=>⟨lA (h.each g f).1 fun b _ a c=>⟨d b a c,a⟩,lA (h.each g f).2 fun b _ a c=>⟨d b a c,a⟩⟩⟩
theorem Lw.nds{lo:Nat}{b:List Mb}(h:Lw w lo v b):gw w v (b.map Mb.N):=by
 rcases bq h.row with⟨r,rfl⟩|⟨c,q,rfl⟩
 ·exact .inl ⟨by rw[nK r];rfl,_,_,rfl⟩
 ·refine .inr ⟨⟨c,0,T⟩,q,by rw[cA],fun d N a=>?_⟩;rw[bK]at a;cases hx:b[d]? with
  |none=>rw[hx]at a;cases a
  |some e=>
   rw[hx]at a;obtain rfl:=bu a;rw[show(⟨c,0,T⟩:Addr).add (d*9)=⟨c,d*9,T⟩ by unfold Addr.add;split<;>simp_all];obtain⟨g,i,j,k,l,m,n,o,p⟩:=wh h.row hx;have f:=h.each e (cG hx);exact⟨e.vn,e.vk,g,i,j,k,l,m,n,o,p,Fw f.1,pE f.2⟩
