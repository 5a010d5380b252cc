import Derived.Test.YthjpdjibdnecoaaGreatDoorHQk26
set_option linter.all false
set_option maxRecDepth 100000
set_option maxHeartbeats 6400000
open Go.Value renaming int->M,ownBlock->A1,slice->A5
open Go.Proofs.Tryz renaming prog->N
open Go.IntKind renaming i64->O,u8->A3
open Option renaming some->S,none->Z
open Go renaming World->T,Value->U,maxLen->A2,Calls->A4
open Bool renaming true->V,false->A0
open Go.RowKit renaming Below->Y
open List renaming range->Ax
namespace Go.Proofs.YthjpdjibdnecoaaGreatDoor
def lJ(a b:Int):List (List Int):=[[48,1,a],[44,117,45,a],[40,111,41,b]]
def jp(a:Int):List (List Int):=
 if a=100 then [[5,100],[102,101],[]]
 else if a=101 then [[5,100],[]]
 else if a=102 then [[22,1,109,103],[13,1,47,117],[18,1,113],[20,117,108,107],[31,117,108],[19,1,104],[11],[23],[27,111],[30,108,12,1,106,108],[28,117],[14,131],[108],[1,125],[40,117,41,127]]
 else if a=103 then [[47,110],[]]
 else if a=104 then [[47,117,46,117,105,108],[21,117,108],[46,1,109,21,117,108]]
 else if a=105 then [[46,117],[]]
 else if a=106 then [[46,1],[]]
 else if a=107 then [[15,117,108,107],[16,108],[]]
 else if a=108 then [[42,100,43]]
 else if a=109 then [[46,1,109],[]]
 else if a=110 then [[117,112]]
 else if a=111 then [[117,112],[]]
 else if a=112 then [[46,117,112],[]]
 else if a=113 then [[40,114,41,108]]
 else if a=114 then [[115],[]]
 else if a=115 then [[49],[1,116]]
 else if a=116 then [[46,115],[]]
 else if a=117 then [[118,119]]
 else if a=118 then [[25,118],[62,118],[50,118],[69,118],[1,120],[40,117,41,120],[2],[3],[4],[24],[29],[17],[49],[18,113],[121]]
 else if a=119 then []::([26,10,73,74,75,76,77,78,72,68,69,67,70,71,61,62,63,64,65,66].map fun b=>[b,118,119])
 else if a=120 then lJ 120 120++[[]]
 else if a=121 then [[42,122,43]]
 else if a=122 then [[124,123],[]]
 else if a=123 then [[46,122],[]]
 else if a=124 then [[117],[44,117,45,47,117],[48,1,47,117]]
 else if a=125 then lJ 125 126++[[46,128],[47,110]]
 else if a=126 then lJ 125 126++[[]]
 else if a=127 then lJ 125 126
 else if a=128 then [[1,129],[40,117,41,130]]
 else if a=129 then lJ 129 130++[[46,128],[47,110]]
 else if a=130 then lJ 129 130
 else if a=131 then [[1,132],[40,117,41,132]]
 else if a=132 then lJ 132 133
 else if a=133 then lJ 132 133++[[]]
 else []
def zo:Nat->Int->Int->Bool
 |0,_,_=>A0
 |f+1,a,t=>if a<100 then decide (a=t) else(jp a).any fun r=>match r with|[]=>A0|h::_=>zo f h t
def hdI(t:Int)(r:List Int):Bool:=match r with|[]=>A0|h::_=>zo 8 h t
def Fg(a t:Int):List Int:=((jp a).find? (hdI t)).getD []
def Hu(a:Int):Bool:=(jp a).contains []
def gH:List Int->Int->Bool
 |[],_=>A0
 |a::r,t=>if zo 9 a t=V then V else if Hu a=V then gH r t else A0
def jq:Nat->List Int->Int->Option (List Int)
 |0,_,_=>Z
 |_+1,[],_=>Z
 |f+1,a::r,t=>if a=t then S r else jq f (Fg a t++r) t
def phi(a:Int):List Int:=
 if a=104 then [106] else if a=105 then [107] else if a=106 then [109] else if a=107 then [105] else if a=108 then [132] else if a=109 then [104] else if a=110 then [120,121,125] else if a=111 then [123] else if a=112 then [125]
 else if a=113 then [133] else if a=114 then [126] else if a=115 then [128] else if a=116 then [127] else if a=117 then [120,121] else if a=118 then [120] else if a=119 then [121] else if a=120 then [122] else if a=122 then [129] else if a=123 then [130] else if a=124 then [131]
 else if a=125 then [110] else if a=126 then [111] else if a=127 then [112] else if a=128 then [113] else if a=129 then [114] else if a=130 then [115] else if a=131 then [116] else if a=132 then [117] else if a=133 then [118] else [a]
def psi(s:Int):List Int:=if s=119 then [120,121] else if s=124 then [120,121,125] else if s=108 then [123] else [s]
def fC(st:List Int):List Int:=st.flatMap psi
def sh(st:List Int):List Int:=st.flatMap phi
def okI(a:Int):Bool:=decide (1<=a/\a<=133/\a≠102/\a≠121)
theorem qA(a b:List Int):fC (a++b)=fC a++fC b:=by simp[fC]
theorem adG(a b:List Int):sh (a++b)=sh a++sh b:=by simp[sh]
theorem yx:∀{f g:Nat}{st:List Int}{t:Int}{n:Nat}{X:List Int×Option Bool×Nat},eD f st t n=S X->f<=g->eD g st t n=S X
 |0,_,_,_,_,_,h,_=>by simp[eD]at h
 |f+1,0,_,_,_,_,_,c=>by omega
 |f+1,g+1,[],t,n,X,h,c=>by rw[eD]at h⊢;exact h
 |f+1,g+1,s::r,t,n,X,h,c=>by
  rw[eD]at h⊢;split
  ·rename_i a;rw[ab a]at h;exact h
  ·rename_i a;rw[aa a]at h;split
   ·rename_i b;rw[ab b]at h;exact yx h (by omega)
   ·rename_i b;rw[aa b]at h;exact h
theorem Hv:∀{f:Nat}{a c:List Int}{t:Int}{n:Nat}{lo:List Int}{b:Bool}{m:Nat},eD f a t n=S (lo,S b,m)->eD f (a++c) t n=S (lo++c,S b,m)
 |0,_,_,_,_,_,_,_,h=>by simp[eD]at h
 |f+1,[],_,t,n,lo,b,m,h=>by simp[eD]at h
 |f+1,s::r,c,t,n,lo,b,m,h=>by
  rw[ej];rw[eD]at h⊢;split
  ·rename_i d;rw[ab d]at h;simp only[dr,gw]at h;rw[<-h.1,<-h.2.1,<-h.2.2]
  ·rename_i d;rw[aa d]at h;split
   ·rename_i e;rw[ab e]at h;rw[<-dh];exact Hv h
   ·rename_i e;rw[aa e]at h;simp only[dr,gw]at h;rw[<-h.1,<-h.2.1,<-h.2.2]
theorem mD:∀{f:Nat}{st:List Int}{t:Int}{n:Nat}{lo:List Int}{a:Option Bool}{m:Nat},Be st->1<=t->t<=78->eD f st t n=S (lo,a,m)->∀r,(∀b,a=S b->feedL (st++r) t=(lo++r,b))/\(a=Z->feedL (st++r) t=feedL r t)
 |0,_,_,_,_,_,_,_,_,_,h,_=>by simp[eD]at h
 |f+1,[],t,n,lo,a,m,s,w,x,h,r=>by
  simp only[eD,dr,gw]at h;obtain⟨rfl,rfl,rfl⟩:=h;exact⟨fun b h=>(by cases h),fun _=>rfl⟩
 |f+1,g::k,t,n,lo,a,m,s,w,x,h,r=>by
  have F:=s g (bK ..);have G:Be k:=fun J H=>s J (dC _ H);rw[ej];by_cases z:g<100
  ·obtain⟨rfl,rfl,rfl⟩:=qw h z;refine⟨fun b q=>?_,fun h=>by cases h⟩;rw[il z,<-bu q]
  ·by_cases i:(xE g t).1=[]/\(xE g t).2=V
   ·rcases jl h (by omega) with⟨_,d⟩|⟨d,_⟩
    ·rw[i.1,de]at d;have u:=mD G w x d r;rw[jF (by omega) i];exact u
    ·rw[i.2]at d;cases d
   ·obtain⟨I,B,j,y,_⟩:=sF (by omega) F w x i;rw[jG (by omega) i y];have l:∃e,eD 8 (g::k) t n=S (I++k,S B,e):=by
     have A:∀{f:Nat}{st:List Int}{j n2 v:Nat}{lo:List Int}{a:Option Bool},eD f st t j=S (lo,a,v)->∃e,eD f st t n2=S (lo,a,e):=by
      intro f
      induction f with
      |zero=>intro st j n2 v lo a h;simp[eD]at h
      |succ f u=>
       intro st j n2 v lo a h;cases st with
       |nil=>
        simp only[eD,dr,gw]at h⊢;exact⟨n2,h.1,h.2.1,rfl⟩
       |cons g r=>
        rw[eD]at h⊢;split
        ·rename_i p;rw[ab p]at h;simp only[dr,gw]at h⊢;exact⟨n2,h.1,h.2.1,rfl⟩
        ·rename_i p;rw[aa p]at h;split
         ·rename_i d;rw[ab d]at h;exact u h
         ·rename_i d;rw[aa d]at h;simp only[dr,gw]at h⊢;exact⟨n2,h.1,h.2.1,rfl⟩
     obtain⟨e,C⟩:=A (n2:=n) y;exact⟨e,by have:=Hv (c:=k) C;simpa using this⟩
    obtain⟨e,l⟩:=l;have E:=yx h (show f+1<=f+9 by omega);have o:=yx l (show 8<=f+9 by omega);rw[E]at o;simp only[dr,gw]at o;obtain⟨rfl,rfl,_⟩:=o;refine⟨fun b q=>?_,fun h=>by cases h⟩;rw[bu q,dh]
def ai9(s t:Int):Bool:=match eD 12 [s] t 0,eD 12 (psi s) t 0 with
 |some (c,some a,_),some (d,some b,_)=>a==b&&(!a||decide (fC c=fC d))
 |some (_,none,_),some (_,none,_)=>V
 |_,_=>A0
theorem adH:((Ax 34).all fun s=>(Ax 78).all fun t=>ai9 ((s:Int)+100) ((t:Int)+1))=V:=by decide+kernel
def adI(a t:Int):Bool:=
 if zo 9 a t=V then(match jq 9 [a] t,eD 12 (phi a) t 0 with
  |some b,some (c,some true,_)=>b.all okI&&decide (fC c=sh b)
  |_,_=>A0)
 else if Hu a=V then(Fg a t).isEmpty&&(match eD 12 (phi a) t 0 with|some (_,none,_)=>V|_=>A0)
 else(match eD 12 (phi a) t 0 with|some (_,some false,_)=>V|_=>A0)
theorem adJ:((Ax 133).all fun a=>!(okI ((a:Int)+1))||(Ax 78).all fun t=>adI ((a:Int)+1) ((t:Int)+1))=V:=by decide+kernel
theorem ag3{s t:Int}(e:100<=s)(f:s<=133)(g:1<=t)(h:t<=78):ai9 s t=V:=by
 have d:=List.all_eq_true.1 adH (s-100).toNat (by rw[iF];omega);have a:=List.all_eq_true.1 d (t-1).toNat (by rw[iF];omega);have b:(((s-100).toNat:Nat):Int)+100=s:=by omega
 have c:(((t-1).toNat:Nat):Int)+1=t:=by omega
 rw[b,c]at a;exact a
theorem aaa{a t:Int}(d:okI a=V)(h:1<=t)(i:t<=78):adI a t=V:=by
 have g:=aC d;have b:=List.all_eq_true.1 adJ (a-1).toNat (by rw[iF];omega);have e:(((a-1).toNat:Nat):Int)+1=a:=by omega
 rw[e,d]at b;have c:=List.all_eq_true.1 (by simpa using b:((Ax 78).all fun t=>adI a ((t:Int)+1))=V) (t-1).toNat (by rw[iF];omega);have f:(((t-1).toNat:Nat):Int)+1=t:=by omega
 rw[f]at c;exact c
theorem adK{s:Int}(h:s<=133):Be (psi s):=by
 unfold psi;intro b a;split at a
 ·simp at a;omega
 split at a
 ·simp at a;omega
 split at a
 ·simp at a;omega
 ·simp at a;omega
theorem abx(s:Int):fC (psi s)=psi s:=by
 unfold psi;split
 ·decide
 split
 ·decide
 split
 ·decide
 ·rename_i a b c;simp[fC,psi,a,b,c]
theorem sI:∀st:List Int,fC (fC st)=fC st
 |[]=>rfl
 |s::r=>by
  show fC (psi s++fC r)=psi s++fC r;rw[qA,abx,sI r]
theorem J5(s:Int)(r:List Int):fC (s::r)=psi s++fC r:=rfl
theorem DH(s:Int)(r:List Int):sh (s::r)=phi s++sh r:=rfl
theorem vL:∀{st:List Int}{t:Int},Be st->1<=t->t<=78->(feedL (fC st) t).2=(feedL st t).2/\((feedL st t).2=V->fC (feedL (fC st) t).1=fC (feedL st t).1)
 |[],t,j,_,_=>⟨rfl,fun _=>rfl⟩
 |s::r,t,j,b,c=>by
  have f:=j s (bK ..);have x:Be r:=fun u k=>j u (dC _ k);rw[J5];by_cases p:s<100
  ·have v:psi s=[s]:=by unfold psi;rw[aa (by omega),aa (by omega),aa (by omega)]
   rw[v,wI,il p,il p];exact⟨rfl,fun _=>sI r⟩
  ·have a:=ag3 (by omega) f b c;unfold ai9 at a;have q:Be [s]:=fun u k=>by obtain rfl:=List.mem_singleton.1 k;exact f
   split at a
   ·rename_i l n y m o z g h;have d:=(mD q b c g r).1 n rfl;have i:=(mD (adK f) b c h (fC r)).1 o rfl;rw[wI]at d;rw[d,i];rw[be]at a;have e:n=o:=by simpa using a.1
    subst e;refine⟨rfl,fun e=>?_⟩;simp only at e;subst e;have w:fC l=fC m:=by simpa using a.2
    show fC (m++fC r)=fC (l++r);rw[qA,qA,sI,w]
   ·rename_i l y m z g h;have d:=(mD q b c g r).2 rfl;have i:=(mD (adK f) b c h (fC r)).2 rfl;rw[wI]at d;rw[d,i];exact vL x b c
   ·cases a
def OkI(st:List Int):Prop:=∀a∈st,okI a=V
theorem ag4:((Ax 133).all fun a=>!(okI ((a:Int)+1))||((phi ((a:Int)+1)).all (fun x=>decide (x<=133))&&decide (fC (phi ((a:Int)+1))=phi ((a:Int)+1))))=V:=by decide+kernel
theorem adL{a:Int}(c:okI a=V):Be (phi a)/\fC (phi a)=phi a:=by
 have g:=aC c;have b:=List.all_eq_true.1 ag4 (a-1).toNat (by rw[iF];omega);have d:(((a-1).toNat:Nat):Int)+1=a:=by omega
 rw[d,c,Bool.not_true,Ew,be]at b;exact⟨fun f e=>aC (List.all_eq_true.1 b.1 f e),aC b.2⟩
theorem aja{a:Int}(h:okI a=V):Be (phi a):=(adL h).1
theorem aby{a:Int}(h:okI a=V):fC (phi a)=phi a:=(adL h).2
theorem BJ:∀{st:List Int},OkI st->fC (sh st)=sh st
 |[],_=>rfl
 |a::r,h=>by
  rw[DH,qA,aby (h a (bK ..)),BJ (fun c b=>h c (dC _ b))]
theorem yA:∀{f:Nat}{a c lo:List Int}{t:Int},jq f a t=S lo->jq f (a++c) t=S (lo++c)
 |0,_,_,_,_,h=>by simp[jq]at h
 |f+1,[],_,_,_,h=>by simp[jq]at h
 |f+1,a::r,c,lo,t,h=>by
  rw[ej];rw[jq]at h⊢;split
  ·rename_i b;rw[ab b]at h;rw[<-bu h]
  ·rename_i b;rw[aa b]at h;rw[<-dh];exact yA h
theorem BL:∀{f g:Nat}{st lo:List Int}{t:Int},jq f st t=S lo->f<=g->jq g st t=S lo
 |0,_,_,_,_,h,_=>by simp[jq]at h
 |f+1,0,_,_,_,_,c=>by omega
 |f+1,g+1,[],_,_,h,_=>by simp[jq]at h
 |f+1,g+1,a::r,lo,t,h,c=>by
  rw[jq]at h⊢;split
  ·rename_i b;rw[ab b]at h;exact h
  ·rename_i b;rw[aa b]at h;exact BL h (by omega)
theorem yB:∀{st:List Int}{t:Int},OkI st->1<=t->t<=78->gH st t=(feedL (sh st) t).2/\(gH st t=V->∃f,jq (st.length+9) st t=S f/\OkI f/\fC (feedL (sh st) t).1=sh f)
 |[],t,n,_,_=>⟨rfl,fun h=>by simp[gH]at h⟩
 |a::r,t,n,g,i=>by
  have l:=n a (bK ..);have p:OkI r:=fun k hx=>n k (dC _ hx);have b:=aaa l g i;have o:=aja l;rw[DH,gH];unfold adI at b;by_cases m:zo 9 a t=V
  ·rw[ab m]at b⊢;split at b
   ·rename_i j C u w d;have e:=(mD o g i d (sh r)).1 V rfl;rw[e];rw[be]at b;have A:=aC b.2;refine⟨rfl,fun _=>⟨j++r,?_,?_,?_⟩⟩
    ·exact BL (yA (c:=r) w) (by omega)
    ·intro k hx;rcases List.mem_append.1 hx with hx|hx
     ·exact List.all_eq_true.1 b.1 k hx
     ·exact p k hx
    ·show fC (C++sh r)=sh (j++r);rw[qA,adG,A]
     congr 1
     exact BJ p
   ·cases b
  ·rw[aa m]at b⊢;by_cases s:Hu a=V
   ·rw[ab s]at b⊢;rw[be]at b;have q:=b.2;split at q
    ·rename_i j u d;have e:=(mD o g i d (sh r)).2 rfl;rw[e];obtain⟨x,y⟩:=yB p g i;refine⟨x,fun h=>?_⟩;obtain⟨f,E,p2,F⟩:=y h;refine⟨f,?_,p2,F⟩;have z:¬a=t:=fun v=>by
      subst v;have G:=aC l;have:zo 9 a a=V:=by rw[zo,ab (by omega)];exact bC rfl
      exact m this
     have B:Fg a t=[]:=by simpa using b.1
     rw[show(a::r).length+9=(r.length+9)+1 from Nat.add_right_comm r.length 1 9,jq,aa z,B,de];exact E
    ·cases q
   ·rw[aa s]at b⊢;split at b
    ·rename_i j u d;have e:=(mD o g i d (sh r)).1 A0 rfl;rw[e];exact⟨rfl,fun h=>by cases h⟩
    ·cases b
structure Da (st stk:List Int):Prop where
 o1:OkI st
 o2:Be stk
 eq:fC stk=sh st
theorem Da.may{st a:List Int}(h:Da st a){t:Int}(b:1<=t)(c:t<=78):gH st t=(feedL a t).2:=by
 rw[(yB h.o1 b c).1,<-h.eq];exact(vL h.o2 b c).1
theorem Da.pass{st e:List Int}(h:Da st e){t:Int}(b:1<=t)(c:t<=78)(d:gH st t=V):∃a,jq (st.length+9) st t=S a/\Da a (feedL e t).1:=by
 obtain⟨a,f,p2,g⟩:=(yB h.o1 b c).2 d;refine⟨a,f,p2,xD h.o2 b c,?_⟩;rw[<-g,<-h.eq];exact((vL h.o2 b c).2 (by rw[<-h.may b c];exact d)).symm
theorem abz:Da [100,6] [100,6]:=⟨by unfold OkI;decide,by unfold Be;decide,by decide⟩
open Go.RowKit Go.Maps Go.WideMaps
theorem Fh:(Tryz.prog.info? 204).map (fun i=>(i.zero,i.size,i.bytes))=S (S (.agg #[M A3 0,M A3 0,M A3 0,M A3 0,M A3 0,M A3 0]),6,6):=by kernel_rfl
def rc(r:List Int):List U:=(r++List.replicate (6-r.length) 0).map (Value.int A3)
def B5(a:List (List Int)):List U:=a.flatMap rc
theorem aab(a B:List (List Int)):B5 (a++B)=B5 a++B5 B:=by simp[B5]
def sJ(v:U):Option (DataW U×List MemPlace):=S (.held v,[])
def yC(R:List (Int×List (List Int)))(a:Int):List (List Int):=((R.find? (fun b=>b.1==a)).map (·.2)).getD []
theorem qB(a:Int)(b:List (List Int))(R:List (Int×List (List Int))):yC ((a,b)::R) a=b:=by simp[yC]
theorem oF{a b:Int}(h:a≠b)(c:List (List Int))(R:List (Int×List (List Int))):yC ((a,c)::R) b=yC R b:=by
 unfold yC;rw[List.find?_cons_of_neg (by simpa using h)]
def gI(W:T)(base:Nat)(v:U)(a:List (List Int)):Prop:=W.ownsRow base 204 6 v a.length (B5 a)
def ad0(f:Int->U):Prop:=∀a b,0<=a->a<=255->0<=b->b<=255->a≠b->(f a).ownBlock=Z\/(f a).ownBlock≠(f b).ownBlock
structure RM (W:T) (base mb n:Nat) (R:List (Int×List (List Int))):Prop where
 ex:∃(D:DataW U) (f:Int->U),W.ownsMap N 146 sJ mb n D/\(∀a,0<=a->a<=255->D.atKey (.int .u8 a) (.held (.slice Z 0 0))= .held (f a)/\gI W base (f a) (yC R a))/\ad0 f
 lo:base<=mb
theorem J6:Keyed N 146:=int_keyed Tryz.underlying146
theorem gI.keep{W b:T}{base:Nat}{v:U}{a:List (List Int)}(h:gI W base v a)(c:Y W.heap.size W b):gI b base v a:=aE h c
theorem RM.below{W b:T}{base mb n:Nat}{R:List (Int×List (List Int))}(h:RM W base mb n R)(a:Y W.heap.size W b):RM b base mb n R:=by
 obtain⟨D,g,i,f,j⟩:=h.ex;exact⟨⟨D,g,i.kept (row:=Z) ⟨a.os,a.tape,a.output,a.size,fun l k _=>a.block l k⟩ (by simp),fun c d e=>⟨(f c d e).1,(f c d e).2.keep a⟩,j⟩,h.lo⟩
theorem RM.congr{W:T}{base mb n:Nat}{R b:List (Int×List (List Int))}(h:RM W base mb n R)(j:∀a,0<=a->a<=255->yC R a=yC b a):RM W base mb n b:=by
 obtain⟨D,e,f,g,i⟩:=h.ex;exact⟨⟨D,e,f,fun a c d=>by rw[<-j a c d];exact g a c d,i⟩,h.lo⟩
theorem RM.mono{W:T}{base mb n a:Nat}{R:List (Int×List (List Int))}(h:RM W base mb n R)(e:n<=a):RM W base mb a R:=by
 obtain⟨D,b,c,d⟩:=h.ex;exact⟨⟨D,b,c.mono e,d⟩,h.lo⟩
theorem uo{W d:T}{base mb:Nat}{v:U}{b:List (List Int)}{g:Array MapEntry}{c:Nat}(h:gI W base v b)(k:W.heap[mb]?=S (.map g c))(j:W.grownBy d (S mb)):gI d base v b:=by
 refine As h j ?_;rcases bp h with⟨_,rfl⟩|⟨i,l,rfl⟩
 ·exact .inl rfl
 ·refine .inr ?_;intro f;obtain rfl:i=mb:=by simpa [A1] using f
  rcases h.2 with⟨a,_⟩|⟨o,m,n,a,_,e,_⟩
  ·cases a
  ·cases a;rw[k]at e;cases e
theorem J7{a:Int}(b:0<=a)(c:a<=255):keyOf N 146 (.int .u8 a)=S (.int .u8 a):=keyOf_int_mk Tryz.underlying146 (WalkArith.wf_u8 ⟨b,c⟩)
theorem bj{I:Array Oper}{J:List Oper}{o:Oper}{a:Act}{Q:Exit->Act->T->Prop}{K W w:T}{base mb n:Nat}{R:List (Int×List (List Int))}
  (l:o.guard=Z) (m x v:Operand) (a3:o.op=Op.mapUpdate 138 m x v) (ar:a.eval m= .map (S mb)) (h:RM W base mb n R) (f:Y W.heap.size W w) (bh:n<1000) (s:Int) (s0:0<=s) (a6:s<=255) (a5:a.eval x= .int .u8 s)
  (c:U) (a4:a.eval v=c) (q:List (List Int)) (y:gI w W.heap.size c q) (am:Y base K W)
  (an:∀j,RM j base mb (n+1) ((s,q)::R)->Y base K j->wpList N I Q J (a.put o.dst undef) j):wpList N I Q (o::J) a w:=by
 have bb:=h.below f;obtain⟨D,e,r,t,al⟩:=h.ex;have bd:=r.lt;have ao:base<=W.heap.size:=by have:=h.lo;omega
 have C:w.ownsMap N 146 sJ mb n D:=r.kept (row:=Z) ⟨f.os,f.tape,f.output,f.size,fun H ap _=>f.block H ap⟩ (by simp);refine wpList_mapUpdate_own w l m x v 138 a3 146 242 J6 Tryz.underlying138 sJ mb n D ar C (by unfold A2;omega) _ _ _ a5 a4 (J7 s0 a6) (.held c) [] rfl ?_;intro j a2 u;obtain⟨a9,a7,E,_⟩:=C;refine an j ⟨⟨_,fun a=>if a=s then c else e a,a2,fun a g i=>?_,?_⟩,h.lo⟩ ?_
 ·by_cases d:a=s
  ·subst d;rw[qB,atKey_put_same r.isMap (by trivial)];show DataW.held c=DataW.held (if a=a then c else e a)/\gI j base (if a=a then c else e a) q;rw[ab rfl];refine⟨rfl,uo (h:=?_) E u⟩;refine⟨y.1,?_⟩;rcases y.2 with h|⟨b,L,ad,af,a8,ak⟩
   ·exact .inl h
   ·exact .inr ⟨b,L,ad,af,by omega,ak⟩
  ·show _=DataW.held (if a=s then c else e a)/\gI j base (if a=s then c else e a) _;rw[oF (fun h=>d h.symm),aa d,atKey_put_other (by intro h;injection h with _ h;exact d h)];exact⟨(t a g i).1,uo ((t a g i).2.keep f) E u⟩
 ·have G:∀b,c.ownBlock=S b->W.heap.size<=b:=fun b l=>(y.lt b l).1;have F:∀a,0<=a->a<=255->∀b,(e a).ownBlock=S b->b<W.heap.size:=fun a g i b l=>((t a g i).2.lt b l).2;intro a k g i z p av;show(if a=s then c else e a).ownBlock=Z\/(if a=s then c else e a).ownBlock≠(if k=s then c else e k).ownBlock;by_cases A:a=s
  ·rw[ab A,aa (by omega)];cases hq:c.ownBlock with
   |none=>exact .inl rfl
   |some b=>exact .inr (fun d=>by have:=G b hq;have:=F k z p b d.symm;omega)
  ·rw[aa A];by_cases B:k=s
   ·rw[ab B];cases hq:(e a).ownBlock with
    |none=>exact .inl rfl
    |some b=>exact .inr (fun d=>by have:=F a g i b hq;have:=G b d.symm;omega)
   ·rw[aa B];exact al a k g i z p av
 ·have p:Y base W w:=f.mono ao;refine am.trans ?_;exact p.grown u (by have:=f.size;omega) (fun H d=>by cases d;exact h.lo)
theorem dm(w:T)(cs:Array U)(a:List (List Int))(n:Nat)(f:a.length=n)(e:cs.toList=B5 a)(k:n<=1000)(c:∀r∈a,r.length<=6):gI (w.alloc (.cells cs 204 (0,0))) w.heap.size (A5 (S ⟨w.heap.size,0,Z⟩) n n) a:=by
 have b:∀a:List (List Int),(∀r∈a,r.length<=6)->(B5 a).length=a.length*6:=by
  intro a
  induction a with
  |nil=>intro _;rfl
  |cons r a i=>
   intro d;have:=d r (by simp);rw[show B5 (r::a)=rc r++B5 a from rfl,aH,i (fun j h=>d j (by simp[h]))];simp[rc];omega
 have g:cs.size=n*6:=by rw[<-iv,e,b a c,f]
 refine⟨by rw[b a c],.inr ⟨w.heap.size,n,cs,by rw[f],ae _,aj w _,by omega,by unfold A2;omega,g,?_⟩⟩;rw[e,fs (by rw[b a c];exact ae _)]
theorem J8(p c:Int)(w:T):
  A4 N 162 #[M A3 p,M A3 c] w fun e a=>e= .returned (A5 (S ⟨w.heap.size,0,Z⟩) 3 3)/\gI a w.heap.size (A5 (S ⟨w.heap.size,0,Z⟩) 3 3) (lJ p c)/\Y w.heap.size w a:=by
 go_in;go_wp2;go_ret;exact⟨rfl,dm _ _ (lJ p c) 3 rfl rfl (by decide) (by simp[lJ]),(ag _ _).alloc (ae _) _⟩
theorem aac{c:List (List Int)}:∀u∈B5 c,u.oneCell'=V:=by
 intro u b;unfold B5 at b;rw[List.mem_flatMap]at b;obtain⟨d,_,a⟩:=b;unfold rc at a;rw[List.mem_map]at a;obtain⟨e,_,rfl⟩:=a;rfl
theorem aad:∀{a:List (List Int)},(∀r∈a,r.length<=6)->(B5 a).length=a.length*6:=by
 intro a
 induction a with
 |nil=>intro _;rfl
 |cons r a d=>
  intro b;have:=b r (by simp);rw[show B5 (r::a)=rc r++B5 a from rfl,aH,d (fun e c=>b e (by simp[c]))];simp[rc];omega
theorem sK{i:Array Oper}{j:List Oper}{o:Oper}{a:Act}{Q:Exit->Act->T->Prop}{W b:T}{v:U}{c:List (List Int)}(q:o.guard=Z)(s x:Operand)
  (u:o.op= .call {callee:= .builtin .append,args:=#[s,x],argTypes:=#[242,242]}) (y:a.eval s=v) (g:gI b W.heap.size v c) (hS:Y W.heap.size W b) (cs:Array U) (m:Nat) (z:a.eval x= .slice (S ⟨b.heap.size,0,Z⟩) m m) (d:List (List Int)) (h:d.length=m) (p:cs.toList=B5 d) (w:∀r∈d,r.length<=6)
  (H:c.length+m<=1000)
  (n:∀f e,gI e W.heap.size f (c++d)->Y W.heap.size W e->wpList N i Q j (a.put o.dst f) e):wpList N i Q (o::j) a (b.alloc (.cells cs 204 (0,0))):=by
 obtain⟨A,B,C,E,F⟩:=dt Fh;refine ng _ q s x 242 u W.heap.size 204 A _ 6 6 Tryz.underlying242 B C E F rfl (by decide) v c.length (B5 c) y (World.ownsRow.alloc g _) ⟨b.heap.size,0,Z⟩ m m (B5 d) z (by rw[aad w,h]) ?_ aac (by unfold A2;omega) (by omega) (by have:=hS.size;simp;omega) ?_
 ·rw[<-p];exact World.news_of_block (cs:=cs) (fr:=(0,0)) (aj b _)
 ·intro f e k l _;refine n f e ?_ ?_
  ·unfold gI;rw[aab,aH,h];exact k
  ·exact(hS.alloc hS.size _).grown l (by have:=hS.size;simp;omega) (fun G t=>(g.lt G t).1)
theorem Hw(w:T)(base mb n:Nat)(R:List (Int×List (List Int)))(H:RM w base mb n R)(h:n<=100):
  A4 N 121 #[.map (S mb)] w fun e c=>e= .returned (.tuple #[])/\RM c base mb (n+10) ((120,lJ 120 120++[[]])::(133,lJ 132 133++[[]])::(132,lJ 132 133)::(131,[[1,132],[40,117,41,132]])::(130,lJ 129 130)::(129,lJ 129 130++[[46,128],[47,110]])::(128,[[1,129],[40,117,41,130]])::(127,lJ 125 126)::(126,lJ 125 126++[[]])::(125,lJ 125 126++[[46,128],[47,110]])::R)/\Y base w c:=by
 have a:Y base w w:=ag _ _;go_in;go_wp2_with (first
  |(go_at_call 162;refine(J8 _ _ _).mono ?_;rintro e i ⟨rfl,b,hS⟩)
  |(at_builtin;first
   |(refine sK rfl _ _ rfl rfl b hS _ 2 rfl [[46,128],[47,110]] rfl rfl (by decide) (by decide) ?_;clear b hS;intro f g b hS)
   |(refine sK rfl _ _ rfl rfl b hS _ 1 rfl [[]] rfl rfl (by decide) (by decide) ?_;clear b hS;intro f g b hS))
  |(at_mapUpdate;first
   |(refine bj rfl _ _ _ rfl rfl H hS (by omega) _ (by decide) (by decide) rfl _ rfl _ b a ?_;clear H a b hS;intro d H a)
   |(refine bj rfl _ _ _ rfl rfl H ((ag _ _).alloc (ae _) _) (by omega) 128 (by decide) (by decide) rfl _ rfl [[1,129],[40,117,41,130]] ?own a ?_;(case own=>exact dm _ _ [[1,129],[40,117,41,130]] 2 rfl rfl (by decide) (by decide));clear H a;intro d H a)
   |(refine bj rfl _ _ _ rfl rfl H ((ag _ _).alloc (ae _) _) (by omega) 131 (by decide) (by decide) rfl _ rfl [[1,132],[40,117,41,132]] ?own a ?_;(case own=>exact dm _ _ [[1,132],[40,117,41,132]] 2 rfl rfl (by decide) (by decide));clear H a;intro d H a)))
 go_end0
 exact⟨rfl,H,a⟩
def Hx:Array U:=#[M O 26,M O 1,M O 2,M O 10,M O 2,M O 3,M O 73,M O 3,M O 4,M O 74,M O 3,M O 4,M O 75,M O 3,M O 4,M O 76,M O 3,M O 4,M O 77,M O 3,M O 4,M O 78,M O 3,M O 4,
 M O 72,M O 4,M O 4,M O 68,M O 5,M O 6,M O 69,M O 6,M O 7,M O 67,M O 7,M O 8,M O 70,M O 8,M O 9,M O 71,M O 8,M O 9,M O 61,M O 9,M O 10,M O 62,M O 9,M O 10,
 M O 63,M O 10,M O 11,M O 64,M O 10,M O 11,M O 65,M O 10,M O 11,M O 66,M O 10,M O 11]
def Fi:List Int:=[26,10,73,74,75,76,77,78,72,68,69,67,70,71,61,62,63,64,65,66]
def ag5(k:Nat):Int:=match Hx.getD k (M O 0) with| .int _ a=>a|_=>0
theorem amA(k:Nat)(a:k<20)(w:T):(Instr.index 246 (.agg Hx) (M O (k:Int))).run N w= .ok (.agg #[M O (Fi.getD k 0),M O (ag5 (3*k+1)),M O (ag5 (3*k+2))]) w:=by
 rcases(show k=0\/k=1\/k=2\/k=3\/k=4\/k=5\/k=6\/k=7\/k=8\/k=9\/k=10\/k=11\/k=12\/k=13\/k=14\/k=15\/k=16\/k=17\/k=18\/k=19 by omega) with rfl|rfl|rfl|rfl|rfl|rfl|rfl|rfl|rfl|rfl|rfl|rfl|rfl|rfl|rfl|rfl|rfl|rfl|rfl|rfl;all_goals kernel_rfl
def Af(k:Nat):List (List Int):=(Fi.take k).map fun a=>[a,118,119]
theorem abA(k:Nat)(b:k<20):Af (k+1)=Af k++[[Fi.getD k 0,118,119]]:=by
 unfold Af;rw[fK,ee];have a:Fi[k]?=S (Fi.getD k 0):=by
  rw[cp];rw[bJ (by simpa [Fi] using b)];rfl
 rw[a];rfl
theorem ad1(k:Nat)(a:k<=20):(Af k).length=k:=by
 unfold Af;rw[dc,jy];show min k 20=k;omega
theorem ag6:∀k:Fin 20,0<=Fi.getD k.val 0/\Fi.getD k.val 0<=100:=by decide
theorem aG{w:T}{b:Nat}{o:Obj}(h:w.heap[b]?=S o):b<w.heap.size:=(Array.getElem?_eq_some_iff.1 h).1
theorem qe{c:Array Oper}{d:List Oper}{o:Oper}{a:Act}{Q:Exit->Act->T->Prop}{W w:T}{mb n:Nat}{D:DataW U}{v:U}(q:o.guard=Z)(m x:Operand)(t:o.op=Op.lookup 138 m x A0)(r:a.eval m= .map (S mb))
  (i:W.ownsMap N 146 sJ mb n D) (y:w.heap[mb]?=W.heap[mb]?) (s:Int) (s0:0<=s) (A:s<=255) (z:a.eval x= .int .u8 s) (p:D.atKey (.int .u8 s) (.held (.slice Z 0 0))= .held v)
  (k:wpList N c Q d (a.put o.dst v) w):wpList N c Q (o::d) a w:=by
 refine wpList_plain q fun B l=>?_;have j:w.ownsMap N 146 sJ mb n D:=by
  obtain⟨h,e,f,g⟩:=i;exact⟨h,e,y.trans f,g⟩
 obtain⟨E,C,u,b⟩:=j.lookup J6 Tryz.underlying138 (show(zeroValue 242).run N w= .ok (.slice Z 0 0) w by kernel_rfl) (zd:= .held (.slice Z 0 0)) (zp:=[]) rfl (J7 s0 A);rw[p]at b;unfold sJ at b;simp only[dr,gw,DataW.held.injEq]at b;obtain⟨rfl,_⟩:=b;unfold Oper.wp;simp[execOp,t,r,z,u,Result.andThen];exact l _ _ k
theorem B6{ar:Array Oper}{av:List Oper}{o:Oper}{a:Act}{Q:Exit->Act->T->Prop}{a2 W t w:T}{base mb n:Nat}{R:List (Int×List (List Int))}{D:DataW U}{f:Int->U}
  (I:o.guard=Z) (m x v:Operand) (bh:o.op=Op.mapUpdate 138 m x v) (a8:a.eval m= .map (S mb))
  (z:W.ownsMap N 146 sJ mb n D) (q:∀a,0<=a->a<=255->D.atKey (.int .u8 a) (.held (.slice Z 0 0))= .held (f a)/\gI W base (f a) (yC R a)) (A:ad0 f) (lo:base<=mb) (s:Int) (r:Y W.heap.size W t) (K:t.grownBy w (f s).ownBlock) (bs:n<1000)
  (s0:0<=s) (k:s<=255) (bn:a.eval x= .int .u8 s) (b:U) (bl:a.eval v=b) (C:List (List Int)) (bb:gI w base b C) (al:b.ownBlock=(f s).ownBlock\/b.ownBlock=S t.heap.size) (a5:Y base a2 W)
  (a6:∀i,RM i base mb (n+1) ((s,C)::R)->Y base a2 i->wpList N ar Q av (a.put o.dst undef) i):wpList N ar Q (o::av) a w:=by
 have a9:=z.lt;obtain⟨y,u,H,ao⟩:=z;have am:t.heap[mb]?=S (.map y u):=(r.block _ a9).trans H;have L:∀c,(f s).ownBlock=S c->mb≠c:=by
  intro c B;have bk:=(q s s0 k).2;rcases bk.2 with⟨h,_⟩|⟨a3,bo,br,h,_,ak,_⟩
  ·rw[h]at B;cases B
  ·rw[h]at B;obtain rfl:a3=c:=by simpa [A1] using B
   rintro rfl;rw[H]at ak;cases ak
 have G:w.heap[mb]?=S (.map y u):=(K.block mb (aG am) (fun e=>L mb e.symm rfl)).trans am;have a4:w.ownsMap N 146 sJ mb n D:=⟨y,u,G,ao⟩;have z:W.ownsMap N 146 sJ mb n D:=⟨y,u,H,ao⟩;refine wpList_mapUpdate_own w I m x v 138 bh 146 242 J6 Tryz.underlying138 sJ mb n D a8 a4 (by unfold A2;omega) _ _ _ bn bl (J7 s0 k) (.held b) [] rfl ?_;intro i bd J;refine a6 i ⟨⟨_,fun a=>if a=s then b else f a,bd,fun a d g=>?_,?_⟩,lo⟩ ?_
 ·by_cases e:a=s
  ·subst e;rw[qB,atKey_put_same z.isMap (by trivial)];show DataW.held b=DataW.held (if a=a then b else f a)/\gI i base (if a=a then b else f a) C;rw[ab rfl];exact⟨rfl,uo bb G J⟩
  ·show _=DataW.held (if a=s then b else f a)/\gI i base (if a=s then b else f a) _;rw[oF (fun h=>e h.symm),aa e,atKey_put_other (by intro h;injection h with _ h;exact e h)];exact⟨(q a d g).1,uo (As ((q a d g).2.keep r) K (A a s d g s0 k e)) G J⟩
 ·have an:∀a,0<=a->a<=255->∀c,(f a).ownBlock=S c->c<W.heap.size:=fun a d g c I=>((q a d g).2.lt c I).2;have bt:=r.size;intro a j d g E l L;show(if a=s then b else f a).ownBlock=Z\/(if a=s then b else f a).ownBlock≠(if j=s then b else f j).ownBlock;by_cases F:a=s
  ·rw[ab F,aa (by omega)];rcases al with e|e
   ·rw[e];exact A s j s0 k E l (by omega)
   ·refine .inr (fun p=>?_);rw[e]at p;have:=an j E l _ p.symm;omega
  ·rw[aa F];by_cases af:j=s
   ·rw[ab af];rcases al with e|e
    ·rw[e];exact A a s d g s0 k F
    ·cases hq:(f a).ownBlock with
     |none=>exact .inl rfl
     |some c=>exact .inr (fun p=>by rw[e]at p;have:=an a d g c hq;cases p;omega)
   ·rw[aa af];exact A a j d g E l L
 ·have a7:base<=W.heap.size:=by omega
  have l:Y base W t:=r.mono a7;refine a5.trans ?_;have ad:Y base W w:=l.grown K (by have:=r.size;omega) (fun ap e=>((q s s0 k).2.lt ap e).1);exact ad.grown J (by have:=ad.size;omega) (fun ap e=>by cases e;exact lo)
theorem yD{i:Array Oper}{j:List Oper}{o:Oper}{a:Act}{Q:Exit->Act->T->Prop}{b:T}{base:Nat}{v:U}{d:List (List Int)}(u:o.guard=Z)(s x:Operand)
  (y:o.op= .call {callee:= .builtin .append,args:=#[s,x],argTypes:=#[242,242]}) (A:a.eval s=v) (k:gI b base v d) (J:base<=b.heap.size) (cs:Array U) (m g:Nat) (B:a.eval x= .slice (S ⟨g,0,Z⟩) m m) (w:g=b.heap.size) (e:List (List Int)) (h:e.length=m) (t:cs.toList=B5 e) (z:∀r∈e,r.length<=6)
  (I:d.length+m<=1000)
  (q:∀c f,gI f base c (d++e)->(b.alloc (.cells cs 204 (0,0))).grownBy f v.ownBlock->(c.ownBlock=v.ownBlock\/c.ownBlock=S (b.alloc (.cells cs 204 (0,0))).heap.size)->wpList N i Q j (a.put o.dst c) f):wpList N i Q (o::j) a (b.alloc (.cells cs 204 (0,0))):=by
 subst w;obtain⟨C,E,F,G,H⟩:=dt Fh;refine wpList_append_own_at _ u s x 242 y base 204 C _ 6 6 Tryz.underlying242 E F G H rfl (by decide) v d.length (B5 d) A (World.ownsRow.alloc k _) ⟨b.heap.size,0,Z⟩ m m (B5 e) B (by rw[aad z,h]) ?_ aac (by unfold A2;omega) (by omega) (by simp;omega) ?_
 ·rw[<-t];exact World.news_of_block (cs:=cs) (fr:=(0,0)) (aj b _)
 ·intro c f l n _ p;refine q c f ?_ n p;unfold gI;rw[aab,aH,h];exact l
theorem Hy(w:T)(base mb n:Nat)(R:List (Int×List (List Int)))(H:RM w base mb n R)(ak:n<=100)(t:TypeId)(fr:Nat×Nat)(y:w.heap[4]?=S (.cells Hx t fr))(z:4<base):
  A4 N 122 #[.map (S mb)] w fun e u=>e= .returned (.tuple #[])/\RM u base mb (n+34) ((124,[[117],[44,117,45,47,117],[48,1,47,117]])::(123,[[46,122],[]])::(122,[[124,123],[]])::(121,[[42,122,43]])::(119,[]::Af 20)::(118,[[25,118],[62,118],[50,118],[69,118],[1,120],[40,117,41,120],[2],[3],[4],[24],[29],[17],[49],[18,113],[121]])::(117,[[118,119]])::(116,[[46,115],[]])::(115,[[49],[1,116]])::(114,[[115],[]])::(113,[[40,114,41,108]])::(112,[[46,117,112],[]])::(111,[[117,112],[]])::(110,[[117,112]])::R)/\Y base w u:=by
 have a:Y base w w:=ag _ _;obtain⟨al,am,an,ao,ap⟩:=dt Fh;go_in;go_wp2_with (first
  |(at_mapUpdate;first
   |(refine bj rfl _ _ _ rfl rfl H ((ag _ _).alloc (ae _) _) (by omega) 110 (by decide) (by decide) rfl _ rfl [[117,112]] ?own a ?_;(case own=>exact dm _ _ [[117,112]] 1 rfl rfl (by decide) (by decide));clear H a;intro c H a)
   |(refine bj rfl _ _ _ rfl rfl H ((ag _ _).alloc (ae _) _) (by omega) 111 (by decide) (by decide) rfl _ rfl [[117,112],[]] ?own a ?_;(case own=>exact dm _ _ [[117,112],[]] 2 rfl rfl (by decide) (by decide));clear H a;intro c H a)
   |(refine bj rfl _ _ _ rfl rfl H ((ag _ _).alloc (ae _) _) (by omega) 112 (by decide) (by decide) rfl _ rfl [[46,117,112],[]] ?own a ?_;(case own=>exact dm _ _ [[46,117,112],[]] 2 rfl rfl (by decide) (by decide));clear H a;intro c H a)
   |(refine bj rfl _ _ _ rfl rfl H ((ag _ _).alloc (ae _) _) (by omega) 113 (by decide) (by decide) rfl _ rfl [[40,114,41,108]] ?own a ?_;(case own=>exact dm _ _ [[40,114,41,108]] 1 rfl rfl (by decide) (by decide));clear H a;intro c H a)
   |(refine bj rfl _ _ _ rfl rfl H ((ag _ _).alloc (ae _) _) (by omega) 114 (by decide) (by decide) rfl _ rfl [[115],[]] ?own a ?_;(case own=>exact dm _ _ [[115],[]] 2 rfl rfl (by decide) (by decide));clear H a;intro c H a)
   |(refine bj rfl _ _ _ rfl rfl H ((ag _ _).alloc (ae _) _) (by omega) 115 (by decide) (by decide) rfl _ rfl [[49],[1,116]] ?own a ?_;(case own=>exact dm _ _ [[49],[1,116]] 2 rfl rfl (by decide) (by decide));clear H a;intro c H a)
   |(refine bj rfl _ _ _ rfl rfl H ((ag _ _).alloc (ae _) _) (by omega) 116 (by decide) (by decide) rfl _ rfl [[46,115],[]] ?own a ?_;(case own=>exact dm _ _ [[46,115],[]] 2 rfl rfl (by decide) (by decide));clear H a;intro c H a)
   |(refine bj rfl _ _ _ rfl rfl H ((ag _ _).alloc (ae _) _) (by omega) 117 (by decide) (by decide) rfl _ rfl [[118,119]] ?own a ?_;(case own=>exact dm _ _ [[118,119]] 1 rfl rfl (by decide) (by decide));clear H a;intro c H a)
   |(refine bj rfl _ _ _ rfl rfl H ((ag _ _).alloc (ae _) _) (by omega) 118 (by decide) (by decide) rfl _ rfl [[25,118],[62,118],[50,118],[69,118],[1,120],[40,117,41,120],[2],[3],[4],[24],[29],[17],[49],[18,113],[121]] ?own a ?_;(case own=>exact dm _ _ [[25,118],[62,118],[50,118],[69,118],[1,120],[40,117,41,120],[2],[3],[4],[24],[29],[17],[49],[18,113],[121]] 15 rfl rfl (by decide) (by decide));clear H a;intro c H a)
   |(refine bj rfl _ _ _ rfl rfl H ((ag _ _).alloc (ae _) _) (by omega) 119 (by decide) (by decide) rfl _ rfl [[]] ?own a ?_;(case own=>exact dm _ _ [[]] 1 rfl rfl (by decide) (by decide));clear H a;intro c H a))
  |(refine tL rfl 246 _ rfl 4 rfl t _ fr _ ((a.block _ z).trans y) Tryz.underlying246 rfl (by kernel_rfl) ?_))
 go_loopw [54] (fun o wr=>∃b:Nat,b<=20/\o= .int .i64 b/\RM wr base mb (n+10+b) ((119,[]::Af b)::(118,[[25,118],[62,118],[50,118],[69,118],[1,120],[40,117,41,120],[2],[3],[4],[24],[29],[17],[49],[18,113],[121]])::(117,[[118,119]])::(116,[[46,115],[]])::(115,[[49],[1,116]])::(114,[[115],[]])::(113,[[40,114,41,108]])::(112,[[46,117,112],[]])::(111,[[117,112],[]])::(110,[[117,112]])::R)/\Y base w wr) (fun o _=>20-(intOf o).toNat)
 case atStart=>exact⟨0,by omega,rfl,H,a⟩
 case round=>
  clear H a;obtain⟨b,C,rfl,H,a⟩:=hrel;by_cases l:b<20
  ·have k:=fun w=>amA b l w;obtain⟨r,s⟩:=ag6 ⟨b,l⟩;simp only at r s;have m:=abA b l;have q:=ad1 b C;generalize Fi.getD b 0=f at k r s m;generalize ag5 (3*b+1)=I at k;generalize ag5 (3*b+2)=p2 at k;have ad:IntKind.u8.wrap f=f:=by rw[Er];omega
   obtain⟨D,x,g,j,p⟩:=H.ex;have G:=H.lo;have h:=j 119 (by decide) (by decide);rw[qB]at h;have af:(b:Int)<20:=by omega
   have E:=g.lt;have L:base<=wr.heap.size:=by omega
   have i:Hid (gI (wr.alloc (.cells #[.int .i64 f,.int .i64 I,.int .i64 p2] 245)) base (x 119) ([]::Af b)/\Af (b+1)=Af b++[[f,118,119]]/\(Af b).length=b):=⟨h.2.keep ((ag _ _).alloc (ae _) _),m,q⟩;clear m q;go_wp2_with (first
    |(at_lookup;refine qe rfl _ _ rfl rfl g ?blk 119 (by decide) (by decide) rfl h.1 ?_)
    |(at_builtin;go_loud (refine yD rfl _ _ rfl rfl i.out.1 (by simp;omega) _ 1 (wr.heap.size+1) rfl (by simp) [[f,118,119]] rfl rfl (by simp) (by rw[bv,i.out.2.2];omega) ?_;intro ar av F B A))
    |(at_mapUpdate;go_loud (refine B6 rfl _ _ _ rfl rfl g j p G 119 (((ag _ _).alloc (ae _) _).alloc (by simp) _) B (by omega) (by decide) (by decide) rfl _ rfl _ F A a ?_;clear H a g j p h;intro a2 H a)))
   case blk=>exact bm _ _ _ E
   go_roundw
   case rel=>
    refine⟨b+1,by omega,by go_num,?_,a⟩;refine RM.congr (n:=n+10+(b+1)) H (fun v J K=>?_);by_cases e:v=119
    ·subst e;rw[qB,qB,i.out.2.1];rfl
    ·rw[oF (fun d=>e d.symm),oF (fun d=>e d.symm),oF (fun d=>e d.symm)]
   case measure=>simp[intOf];omega
  ·obtain rfl:b=20:=by omega
   go_wp2_with (at_mapUpdate;first
    |(refine bj rfl _ _ _ rfl rfl H ((ag _ _).alloc (ae _) _) (by omega) 121 (by decide) (by decide) rfl _ rfl [[42,122,43]] ?own a ?_;(case own=>exact dm _ _ [[42,122,43]] 1 rfl rfl (by decide) (by decide));clear H a;intro c H a)
    |(refine bj rfl _ _ _ rfl rfl H ((ag _ _).alloc (ae _) _) (by omega) 122 (by decide) (by decide) rfl _ rfl [[124,123],[]] ?own a ?_;(case own=>exact dm _ _ [[124,123],[]] 2 rfl rfl (by decide) (by decide));clear H a;intro c H a)
    |(refine bj rfl _ _ _ rfl rfl H ((ag _ _).alloc (ae _) _) (by omega) 123 (by decide) (by decide) rfl _ rfl [[46,122],[]] ?own a ?_;(case own=>exact dm _ _ [[46,122],[]] 2 rfl rfl (by decide) (by decide));clear H a;intro c H a)
    |(refine bj rfl _ _ _ rfl rfl H ((ag _ _).alloc (ae _) _) (by omega) 124 (by decide) (by decide) rfl _ rfl [[117],[44,117,45,47,117],[48,1,47,117]] ?own a ?_;(case own=>exact dm _ _ [[117],[44,117,45,47,117],[48,1,47,117]] 3 rfl rfl (by decide) (by decide));clear H a;intro c H a))
   go_end0
   exact⟨rfl,H.mono (by omega),a⟩
theorem ad2:((Ax 256).all fun a=>decide (yC ((124,[[117],[44,117,45,47,117],[48,1,47,117]])::(123,[[46,122],[]])::(122,[[124,123],[]])::(121,[[42,122,43]])::(119,[]::Af 20)::(118,[[25,118],[62,118],[50,118],[69,118],[1,120],[40,117,41,120],[2],[3],[4],[24],[29],[17],[49],[18,113],[121]])::(117,[[118,119]])::(116,[[46,115],[]])::(115,[[49],[1,116]])::(114,[[115],[]])::(113,[[40,114,41,108]])::(112,[[46,117,112],[]])::(111,[[117,112],[]])::(110,[[117,112]])::(120,lJ 120 120++[[]])::(133,lJ 132 133++[[]])::(132,lJ 132 133)::(131,[[1,132],[40,117,41,132]])::(130,lJ 129 130)::(129,lJ 129 130++[[46,128],[47,110]])::(128,[[1,129],[40,117,41,130]])::(127,lJ 125 126)::(126,lJ 125 126++[[]])::(125,lJ 125 126++[[46,128],[47,110]])::(109,[[46,1,109],[]])::(108,[[42,100,43]])::(107,[[15,117,108,107],[16,108],[]])::(106,[[46,1],[]])::(105,[[46,117],[]])::(104,[[47,117,46,117,105,108],[21,117,108],[46,1,109,21,117,108]])::(103,[[47,110],[]])::(102,[[22,1,109,103],[13,1,47,117],[18,1,113],[20,117,108,107],[31,117,108],[19,1,104],[11],[23],[27,111],[30,108,12,1,106,108],[28,117],[14,131],[108],[1,125],[40,117,41,127]])::(101,[[5,100],[]])::(100,[[5,100],[102,101],[]])::[]) (a:Int)=jp (a:Int)))=V:=by decide+kernel
theorem RM.size{W:T}{base mb n:Nat}{R:List (Int×List (List Int))}(h:RM W base mb n R):base<W.heap.size:=by
 obtain⟨D,b,a,_⟩:=h.ex;have:=a.lt;have:=h.lo;omega
theorem Hz(w:T)(base mb n:Nat)(R:List (Int×List (List Int)))(H:RM w base mb n R)(d:n<=100):
  A4 N 120 #[.map (S mb)] w fun e c=>e= .returned (.tuple #[])/\RM c base mb (n+10) ((109,[[46,1,109],[]])::(108,[[42,100,43]])::(107,[[15,117,108,107],[16,108],[]])::(106,[[46,1],[]])::(105,[[46,117],[]])::(104,[[47,117,46,117,105,108],[21,117,108],[46,1,109,21,117,108]])::(103,[[47,110],[]])::(102,[[22,1,109,103],[13,1,47,117],[18,1,113],[20,117,108,107],[31,117,108],[19,1,104],[11],[23],[27,111],[30,108,12,1,106,108],[28,117],[14,131],[108],[1,125],[40,117,41,127]])::(101,[[5,100],[]])::(100,[[5,100],[102,101],[]])::R)/\Y base w c:=by
 have a:Y base w w:=ag _ _;go_in;go_wp2_with (at_mapUpdate;first
  |(refine bj rfl _ _ _ rfl rfl H ((ag _ _).alloc (ae _) _) (by omega) 100 (by decide) (by decide) rfl _ rfl [[5,100],[102,101],[]] ?own a ?_;(case own=>exact dm _ _ [[5,100],[102,101],[]] 3 rfl rfl (by decide) (by decide));clear H a;intro b H a)
  |(refine bj rfl _ _ _ rfl rfl H ((ag _ _).alloc (ae _) _) (by omega) 101 (by decide) (by decide) rfl _ rfl [[5,100],[]] ?own a ?_;(case own=>exact dm _ _ [[5,100],[]] 2 rfl rfl (by decide) (by decide));clear H a;intro b H a)
  |(refine bj rfl _ _ _ rfl rfl H ((ag _ _).alloc (ae _) _) (by omega) 102 (by decide) (by decide) rfl _ rfl [[22,1,109,103],[13,1,47,117],[18,1,113],[20,117,108,107],[31,117,108],[19,1,104],[11],[23],[27,111],[30,108,12,1,106,108],[28,117],[14,131],[108],[1,125],[40,117,41,127]] ?own a ?_;(case own=>exact dm _ _ [[22,1,109,103],[13,1,47,117],[18,1,113],[20,117,108,107],[31,117,108],[19,1,104],[11],[23],[27,111],[30,108,12,1,106,108],[28,117],[14,131],[108],[1,125],[40,117,41,127]] 15 rfl rfl (by decide) (by decide));clear H a;intro b H a)
  |(refine bj rfl _ _ _ rfl rfl H ((ag _ _).alloc (ae _) _) (by omega) 103 (by decide) (by decide) rfl _ rfl [[47,110],[]] ?own a ?_;(case own=>exact dm _ _ [[47,110],[]] 2 rfl rfl (by decide) (by decide));clear H a;intro b H a)
  |(refine bj rfl _ _ _ rfl rfl H ((ag _ _).alloc (ae _) _) (by omega) 104 (by decide) (by decide) rfl _ rfl [[47,117,46,117,105,108],[21,117,108],[46,1,109,21,117,108]] ?own a ?_;(case own=>exact dm _ _ [[47,117,46,117,105,108],[21,117,108],[46,1,109,21,117,108]] 3 rfl rfl (by decide) (by decide));clear H a;intro b H a)
  |(refine bj rfl _ _ _ rfl rfl H ((ag _ _).alloc (ae _) _) (by omega) 105 (by decide) (by decide) rfl _ rfl [[46,117],[]] ?own a ?_;(case own=>exact dm _ _ [[46,117],[]] 2 rfl rfl (by decide) (by decide));clear H a;intro b H a)
  |(refine bj rfl _ _ _ rfl rfl H ((ag _ _).alloc (ae _) _) (by omega) 106 (by decide) (by decide) rfl _ rfl [[46,1],[]] ?own a ?_;(case own=>exact dm _ _ [[46,1],[]] 2 rfl rfl (by decide) (by decide));clear H a;intro b H a)
  |(refine bj rfl _ _ _ rfl rfl H ((ag _ _).alloc (ae _) _) (by omega) 107 (by decide) (by decide) rfl _ rfl [[15,117,108,107],[16,108],[]] ?own a ?_;(case own=>exact dm _ _ [[15,117,108,107],[16,108],[]] 3 rfl rfl (by decide) (by decide));clear H a;intro b H a)
  |(refine bj rfl _ _ _ rfl rfl H ((ag _ _).alloc (ae _) _) (by omega) 108 (by decide) (by decide) rfl _ rfl [[42,100,43]] ?own a ?_;(case own=>exact dm _ _ [[42,100,43]] 1 rfl rfl (by decide) (by decide));clear H a;intro b H a)
  |(refine bj rfl _ _ _ rfl rfl H ((ag _ _).alloc (ae _) _) (by omega) 109 (by decide) (by decide) rfl _ rfl [[46,1,109],[]] ?own a ?_;(case own=>exact dm _ _ [[46,1,109],[]] 2 rfl rfl (by decide) (by decide));clear H a;intro b H a))
 go_end0
 exact⟨rfl,H,a⟩
