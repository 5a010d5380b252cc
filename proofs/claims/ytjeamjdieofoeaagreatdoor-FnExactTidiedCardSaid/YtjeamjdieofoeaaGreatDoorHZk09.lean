import Derived.Test.YtjeamjdieofoeaaGreatDoorHZk06
import Derived.Test.YtjeamjdieofoeaaGreatDoorHZk08
import Derived.Lib.Join
import Derived.Sort.LoopGhostIn
set_option linter.all false
set_option maxRecDepth 100000
set_option maxHeartbeats 3200000
open Option renaming some->M,none->V
open Go.Proofs.Tryz renaming prog->O
open Go.Ending renaming returned->U
open Bool renaming true->Y,false->A5
open Go renaming World->Ax,Calls->A9,Value->B6,Program->Er,KeepsFrom->E0,TypeId->E2
open Go.Value renaming int->A0,string->Br,bool->B1,pointer->B3,slice->B7,tuple->E1
open Go.IntKind renaming i64->A2
open Go.World renaming putObj_heap_other->Bs
open Go.RowKit renaming Below->B0,intOf->Fs
open List renaming range->B4
open Go.Lib renaming repeatL->Cb
open Go.Fence renaming wide->C2
namespace Go.Proofs.YtjeamjdieofoeaaGreatDoor
variable{K:Act->World->Prop}{Q:Exit->Act->World->Prop}{S:World->Prop}{a:Act}{l n:Nat}{lo r:List Int}{md:Region.Mode}{ops:Array Oper}{s t:Int}{w:World}
def eF:Nat->List Int->Int->Nat->Option (List Int×Option Bool×Nat)
 |0,_,_,_=>V
 |_+1,[],_,n=>M ([],V,n)
 |f+1,s::r,t,n=>if s<100 then M (r,M (decide (s=t)),n) else if(xE s t).2=Y then eF f ((xE s t).1++r) t (n+(xE s t).1.length) else M (r,M A5,n)
def feedL:List Int->Int->List Int×Bool
 |[],_=>([],A5)
 |s::r,t=>if s<100 then(r,decide (s=t)) else if(xE s t).1=[]/\(xE s t).2=Y then feedL r t else match eF 8 [s] t 0 with|some (lo,some b,_)=>(lo++r,b)|_=>([],A5)
def aip(s t:Int):Bool:=
 (xE s t).1.all (fun a=>decide (a<=133))&&(decide ((xE s t).1.length<=7)&&
 (if(xE s t).1=[]/\(xE s t).2=Y then Y else match eF 8 [s] t 0 with|some (_,some _,n)=>decide (n<=20)|_=>A5))
theorem aiq:((B4 34).all fun s=>(B4 78).all fun t=>aip ((s:Int)+100) ((t:Int)+1))=Y:=by decide+kernel
theorem aeL(e:100<=s)(f:s<=133)(g:1<=t)(h:t<=78):aip s t=Y:=by
 have d:=List.all_eq_true.1 aiq (s-100).toNat (by rw[jp];omega);have a:=List.all_eq_true.1 d (t-1).toNat (by rw[jp];omega);have b:(((s-100).toNat:Nat):Int)+100=s:=by omega
 have c:(((t-1).toNat:Nat):Int)+1=t:=by omega
 rw[b,c]at a;exact a
theorem abf(b:100<=s)(c:s<=133)(e:1<=t)(f:t<=78):(∀x∈(xE s t).1,x<=133)/\(xE s t).1.length<=7:=by
 have a:=aeL b c e f;unfold aip at a;rw[ci,ci]at a;exact⟨fun x d=>aH (List.all_eq_true.1 a.1 x d),aH a.2.1⟩
theorem ud(e:100<=s)(f:s<=133)(h:1<=t)(i:t<=78)(g:¬((xE s t).1=[]/\(xE s t).2=Y)):∃lo b n,eF 8 [s] t 0=M (lo,M b,n)/\n<=20:=by
 have a:=aeL e f h i;unfold aip at a;rw[ci,ci,aa g]at a;have c:=a.2.2;split at c
 ·rename_i lo b n d;exact⟨lo,b,n,d,aH c⟩
 ·cases c
theorem lp(b:100<=s)(a:(xE s t).1=[]/\(xE s t).2=Y):feedL (s::r) t=feedL r t:=by
 rw[feedL,aa (by omega),ab a]
theorem lr{b:Bool}(d:100<=s)(a:¬((xE s t).1=[]/\(xE s t).2=Y))(c:eF 8 [s] t 0=M (lo,M b,n)):feedL (s::r) t=(lo++r,b):=by
 rw[feedL,aa (by omega),aa a,c]
theorem iE(a:s<100):feedL (s::r) t=(r,decide (s=t)):=by
 rw[feedL,ab a]
theorem jJ{b:Option Bool}{f m:Nat}(h:eF (f+1) (s::r) t n=M (lo,b,m))(c:100<=s):((xE s t).2=Y/\eF f ((xE s t).1++r) t (n+(xE s t).1.length)=M (lo,b,m))\/((xE s t).2=A5/\lo=r/\b=M A5/\m=n):=by
 rw[eF,aa (by omega)]at h;split at h
 ·rename_i a;exact .inl ⟨a,h⟩
 ·rename_i a;simp only[ee,ic]at h;exact .inr ⟨by simpa using a,h.1.symm,h.2.1.symm,h.2.2.symm⟩
theorem rh{b:Option Bool}{f m:Nat}(h:eF (f+1) (s::r) t n=M (lo,b,m))(a:s<100):lo=r/\b=M (decide (s=t))/\m=n:=by
 rw[eF,ab a]at h;simp only[ee,ic]at h;exact⟨h.1.symm,h.2.1.symm,h.2.2.symm⟩
def Bg(st:List Int):Prop:=∀a∈st,a<=133
theorem abg:∀{f:Nat}{st:List Int}{t:Int}{n:Nat}{lo:List Int}{b:Option Bool}{m:Nat},Bg st->1<=t->t<=78->eF f st t n=M (lo,b,m)->Bg lo
 |0,_,_,_,_,_,_,_,_,_,h=>by simp[eF]at h
 |f+1,[],t,n,lo,b,m,a,_,_,h=>by
  simp only[eF,ee,ic]at h;rw[<-h.1];exact a
 |f+1,s::r,t,n,lo,b,m,a,g,i,h=>by
  have e:Bg r:=fun c hx=>a c (dI _ hx);by_cases j:s<100
  ·rw[(rh h j).1];exact e
  ·rcases jJ h (by omega) with⟨_,d⟩|⟨_,d,_⟩
   ·refine abg (fun c hx=>?_) g i d;rcases List.mem_append.1 hx with hx|hx
    ·exact(abf (by omega) (a s (cE ..)) g i).1 c hx
    ·exact e c hx
   ·rw[d];exact e
theorem ye:∀{st:List Int}{t:Int},Bg st->1<=t->t<=78->Bg (feedL st t).1
 |[],t,a,_,_=>by rw[feedL];exact a
 |s::r,t,a,e,f=>by
  have d:Bg r:=fun b hx=>a b (dI _ hx);by_cases i:s<100
  ·rw[iE i];exact d
  ·have h:=a s (cE ..);by_cases c:(xE s t).1=[]/\(xE s t).2=Y
   ·rw[lp (by omega) c];exact ye d e f
   ·obtain⟨l,k,m,g,_⟩:=ud (by omega) h e f c;rw[lr (by omega) c g];intro b hx;rcases List.mem_append.1 hx with hx|hx
    ·refine abg (st:=[s]) ?_ e f g b hx;intro n j;obtain rfl:=List.mem_singleton.1 j;exact h
    ·exact d b hx
def my(a b:Int):List (List Int):=[[48,1,a],[44,117,45,a],[40,111,41,b]]
def kF(a:Int):List (List Int):=
 if a=100 then [[5,100],[102,101],[]]
 else if a=101 then [[5,100],[]]
 else if a=102 then [[22,1,109,103],[13,1,47,117],[18,1,113],[20,117,108,107],[31,117,108],[19,1,104],[11],[23],[27,111],[30,108,12,1,106,108],[28,117],[14,131],[108],[1,125],[40,117,41,127]]
 else if a=103 then [[47,110],[]]
 else if a=104 then [[47,117,46,117,105,108],[21,117,108],[46,1,109,21,117,108]]
 else if a=105 then [[46,117],[]]
 else if a=106 then [[46,1],[]]
 else if a=107 then [[15,117,108,107],[16,108],[]]
 else if a=108 then [[42,100,43]]
 else if a=109 then [[46,1,109],[]]
 else if a=110 then [[117,112]]
 else if a=111 then [[117,112],[]]
 else if a=112 then [[46,117,112],[]]
 else if a=113 then [[40,114,41,108]]
 else if a=114 then [[115],[]]
 else if a=115 then [[49],[1,116]]
 else if a=116 then [[46,115],[]]
 else if a=117 then [[118,119]]
 else if a=118 then [[25,118],[62,118],[50,118],[69,118],[1,120],[40,117,41,120],[2],[3],[4],[24],[29],[17],[49],[18,113],[121]]
 else if a=119 then []::([26,10,73,74,75,76,77,78,72,68,69,67,70,71,61,62,63,64,65,66].map fun b=>[b,118,119])
 else if a=120 then my 120 120++[[]]
 else if a=121 then [[42,122,43]]
 else if a=122 then [[124,123],[]]
 else if a=123 then [[46,122],[]]
 else if a=124 then [[117],[44,117,45,47,117],[48,1,47,117]]
 else if a=125 then my 125 126++[[46,128],[47,110]]
 else if a=126 then my 125 126++[[]]
 else if a=127 then my 125 126
 else if a=128 then [[1,129],[40,117,41,130]]
 else if a=129 then my 129 130++[[46,128],[47,110]]
 else if a=130 then my 129 130
 else if a=131 then [[1,132],[40,117,41,132]]
 else if a=132 then my 132 133
 else if a=133 then my 132 133++[[]]
 else []
def zI:Nat->Int->Int->Bool
 |0,_,_=>A5
 |f+1,a,t=>if a<100 then decide (a=t) else(kF a).any fun r=>match r with|[]=>A5|h::_=>zI f h t
def hdI(t:Int)(r:List Int):Bool:=match r with|[]=>A5|h::_=>zI 8 h t
def Gc(a t:Int):List Int:=((kF a).find? (hdI t)).getD []
def I6(a:Int):Bool:=(kF a).contains []
def ij:List Int->Int->Bool
 |[],_=>A5
 |a::r,t=>if zI 9 a t=Y then Y else if I6 a=Y then ij r t else A5
def kG:Nat->List Int->Int->Option (List Int)
 |0,_,_=>V
 |_+1,[],_=>V
 |f+1,a::r,t=>if a=t then M r else kG f (Gc a t++r) t
def phi(a:Int):List Int:=
 if a=104 then [106] else if a=105 then [107] else if a=106 then [109] else if a=107 then [105] else if a=108 then [132] else if a=109 then [104] else if a=110 then [120,121,125] else if a=111 then [123] else if a=112 then [125]
 else if a=113 then [133] else if a=114 then [126] else if a=115 then [128] else if a=116 then [127] else if a=117 then [120,121] else if a=118 then [120] else if a=119 then [121] else if a=120 then [122] else if a=122 then [129] else if a=123 then [130] else if a=124 then [131]
 else if a=125 then [110] else if a=126 then [111] else if a=127 then [112] else if a=128 then [113] else if a=129 then [114] else if a=130 then [115] else if a=131 then [116] else if a=132 then [117] else if a=133 then [118] else [a]
def psi(s:Int):List Int:=if s=119 then [120,121] else if s=124 then [120,121,125] else if s=108 then [123] else [s]
def fH(st:List Int):List Int:=st.flatMap psi
def tm(st:List Int):List Int:=st.flatMap phi
def okI(a:Int):Bool:=decide (1<=a/\a<=133/\a≠102/\a≠121)
theorem rj(a b:List Int):fH (a++b)=fH a++fH b:=by simp[fH]
theorem ae0(a b:List Int):tm (a++b)=tm a++tm b:=by simp[tm]
theorem yJ:∀{f g:Nat}{st:List Int}{t:Int}{n:Nat}{X:List Int×Option Bool×Nat},eF f st t n=M X->f<=g->eF g st t n=M X
 |0,_,_,_,_,_,h,_=>by simp[eF]at h
 |f+1,0,_,_,_,_,_,c=>by omega
 |f+1,g+1,[],t,n,X,h,c=>by rw[eF]at h⊢;exact h
 |f+1,g+1,s::r,t,n,X,h,c=>by
  rw[eF]at h⊢;split
  ·rename_i a;rw[ab a]at h;exact h
  ·rename_i a;rw[aa a]at h;split
   ·rename_i b;rw[ab b]at h;exact yJ h (by omega)
   ·rename_i b;rw[aa b]at h;exact h
theorem I7:∀{f:Nat}{a c:List Int}{t:Int}{n:Nat}{lo:List Int}{b:Bool}{m:Nat},eF f a t n=M (lo,M b,m)->eF f (a++c) t n=M (lo++c,M b,m)
 |0,_,_,_,_,_,_,_,h=>by simp[eF]at h
 |f+1,[],_,t,n,lo,b,m,h=>by simp[eF]at h
 |f+1,s::r,c,t,n,lo,b,m,h=>by
  rw[ej];rw[eF]at h⊢;split
  ·rename_i d;rw[ab d]at h;simp only[ee,ic]at h;rw[<-h.1,<-h.2.1,<-h.2.2]
  ·rename_i d;rw[aa d]at h;split
   ·rename_i e;rw[ab e]at h;rw[<-dy];exact I7 h
   ·rename_i e;rw[aa e]at h;simp only[ee,ic]at h;rw[<-h.1,<-h.2.1,<-h.2.2]
theorem nC:∀{f:Nat}{st:List Int}{t:Int}{n:Nat}{lo:List Int}{a:Option Bool}{m:Nat},Bg st->1<=t->t<=78->eF f st t n=M (lo,a,m)->∀r,(∀b,a=M b->feedL (st++r) t=(lo++r,b))/\(a=V->feedL (st++r) t=feedL r t)
 |0,_,_,_,_,_,_,_,_,_,h,_=>by simp[eF]at h
 |f+1,[],t,n,lo,a,m,s,w,x,h,r=>by
  simp only[eF,ee,ic]at h;obtain⟨rfl,rfl,rfl⟩:=h;exact⟨fun b h=>(by cases h),fun _=>rfl⟩
 |f+1,g::k,t,n,lo,a,m,s,w,x,h,r=>by
  have F:=s g (cE ..);have G:Bg k:=fun J H=>s J (dI _ H);rw[ej];by_cases z:g<100
  ·obtain⟨rfl,rfl,rfl⟩:=rh h z;refine⟨fun b q=>?_,fun h=>by cases h⟩;rw[iE z,<-bp q]
  ·by_cases i:(xE g t).1=[]/\(xE g t).2=Y
   ·rcases jJ h (by omega) with⟨_,d⟩|⟨d,_⟩
    ·rw[i.1,dt]at d;have u:=nC G w x d r;rw[lp (by omega) i];exact u
    ·rw[i.2]at d;cases d
   ·obtain⟨I,B,j,y,_⟩:=ud (by omega) F w x i;rw[lr (by omega) i y];have l:∃e,eF 8 (g::k) t n=M (I++k,M B,e):=by
     have A:∀{f:Nat}{st:List Int}{j n2 v:Nat}{lo:List Int}{a:Option Bool},eF f st t j=M (lo,a,v)->∃e,eF f st t n2=M (lo,a,e):=by
      intro f
      induction f with
      |zero=>intro st j n2 v lo a h;simp[eF]at h
      |succ f u=>
       intro st j n2 v lo a h;cases st with
       |nil=>
        simp only[eF,ee,ic]at h⊢;exact⟨n2,h.1,h.2.1,rfl⟩
       |cons g r=>
        rw[eF]at h⊢;split
        ·rename_i p;rw[ab p]at h;simp only[ee,ic]at h⊢;exact⟨n2,h.1,h.2.1,rfl⟩
        ·rename_i p;rw[aa p]at h;split
         ·rename_i d;rw[ab d]at h;exact u h
         ·rename_i d;rw[aa d]at h;simp only[ee,ic]at h⊢;exact⟨n2,h.1,h.2.1,rfl⟩
     obtain⟨e,C⟩:=A (n2:=n) y;exact⟨e,by have:=I7 (c:=k) C;simpa using this⟩
    obtain⟨e,l⟩:=l;have E:=yJ h (show f+1<=f+9 by omega);have o:=yJ l (show 8<=f+9 by omega);rw[E]at o;simp only[ee,ic]at o;obtain⟨rfl,rfl,_⟩:=o;refine⟨fun b q=>?_,fun h=>by cases h⟩;rw[bp q,dy]
def ak2(s t:Int):Bool:=match eF 12 [s] t 0,eF 12 (psi s) t 0 with
 |some (lo,some a,_),some (c,some b,_)=>a==b&&(!a||decide (fH lo=fH c))
 |some (_,none,_),some (_,none,_)=>Y
 |_,_=>A5
theorem ae1:((B4 34).all fun s=>(B4 78).all fun t=>ak2 ((s:Int)+100) ((t:Int)+1))=Y:=by decide+kernel
def ae2(a t:Int):Bool:=
 if zI 9 a t=Y then(match kG 9 [a] t,eF 12 (phi a) t 0 with
  |some lo,some (b,some true,_)=>lo.all okI&&decide (fH b=tm lo)
  |_,_=>A5)
 else if I6 a=Y then(Gc a t).isEmpty&&(match eF 12 (phi a) t 0 with|some (_,none,_)=>Y|_=>A5)
 else(match eF 12 (phi a) t 0 with|some (_,some false,_)=>Y|_=>A5)
theorem ae3:((B4 133).all fun a=>!(okI ((a:Int)+1))||(B4 78).all fun t=>ae2 ((a:Int)+1) ((t:Int)+1))=Y:=by decide+kernel
theorem air(e:100<=s)(f:s<=133)(g:1<=t)(h:t<=78):ak2 s t=Y:=by
 have d:=List.all_eq_true.1 ae1 (s-100).toNat (by rw[jp];omega);have a:=List.all_eq_true.1 d (t-1).toNat (by rw[jp];omega);have b:(((s-100).toNat:Nat):Int)+100=s:=by omega
 have c:(((t-1).toNat:Nat):Int)+1=t:=by omega
 rw[b,c]at a;exact a
theorem abh{a:Int}(d:okI a=Y)(h:1<=t)(i:t<=78):ae2 a t=Y:=by
 have g:=aH d;have b:=List.all_eq_true.1 ae3 (a-1).toNat (by rw[jp];omega);have e:(((a-1).toNat:Nat):Int)+1=a:=by omega
 rw[e,d]at b;have c:=List.all_eq_true.1 (by simpa using b:((B4 78).all fun t=>ae2 a ((t:Int)+1))=Y) (t-1).toNat (by rw[jp];omega);have f:(((t-1).toNat:Nat):Int)+1=t:=by omega
 rw[f]at c;exact c
theorem ae4(h:s<=133):Bg (psi s):=by
 unfold psi;intro b a;split at a
 ·simp at a;omega
 split at a
 ·simp at a;omega
 split at a
 ·simp at a;omega
 ·simp at a;omega
theorem acK(s:Int):fH (psi s)=psi s:=by
 unfold psi;split
 ·decide
 split
 ·decide
 split
 ·decide
 ·rename_i a b c;simp[fH,psi,a,b,c]
theorem ue:∀st:List Int,fH (fH st)=fH st
 |[]=>rfl
 |s::r=>by
  show fH (psi s++fH r)=psi s++fH r;rw[rj,acK,ue r]
theorem Lp(s:Int)(r:List Int):fH (s::r)=psi s++fH r:=rfl
theorem Ew(s:Int)(r:List Int):tm (s::r)=phi s++tm r:=rfl
theorem ww:∀{st:List Int}{t:Int},Bg st->1<=t->t<=78->(feedL (fH st) t).2=(feedL st t).2/\((feedL st t).2=Y->fH (feedL (fH st) t).1=fH (feedL st t).1)
 |[],t,j,_,_=>⟨rfl,fun _=>rfl⟩
 |s::r,t,j,b,c=>by
  have f:=j s (cE ..);have x:Bg r:=fun u k=>j u (dI _ k);rw[Lp];by_cases p:s<100
  ·have v:psi s=[s]:=by unfold psi;rw[aa (by omega),aa (by omega),aa (by omega)]
   rw[v,xl,iE p,iE p];exact⟨rfl,fun _=>ue r⟩
  ·have a:=air (by omega) f b c;unfold ak2 at a;have q:Bg [s]:=fun u k=>by obtain rfl:=List.mem_singleton.1 k;exact f
   split at a
   ·rename_i l n y m o z g h;have d:=(nC q b c g r).1 n rfl;have i:=(nC (ae4 f) b c h (fH r)).1 o rfl;rw[xl]at d;rw[d,i];rw[ci]at a;have e:n=o:=by simpa using a.1
    subst e;refine⟨rfl,fun e=>?_⟩;simp only at e;subst e;have w:fH l=fH m:=by simpa using a.2
    show fH (m++fH r)=fH (l++r);rw[rj,rj,ue,w]
   ·rename_i l y m z g h;have d:=(nC q b c g r).2 rfl;have i:=(nC (ae4 f) b c h (fH r)).2 rfl;rw[xl]at d;rw[d,i];exact ww x b c
   ·cases a
def OkI(st:List Int):Prop:=∀a∈st,okI a=Y
theorem ais:((B4 133).all fun a=>!(okI ((a:Int)+1))||((phi ((a:Int)+1)).all (fun x=>decide (x<=133))&&decide (fH (phi ((a:Int)+1))=phi ((a:Int)+1))))=Y:=by decide+kernel
theorem ae5{a:Int}(c:okI a=Y):Bg (phi a)/\fH (phi a)=phi a:=by
 have g:=aH c;have b:=List.all_eq_true.1 ais (a-1).toNat (by rw[jp];omega);have d:(((a-1).toNat:Nat):Int)+1=a:=by omega
 rw[d,c,Bool.not_true,FI,ci]at b;exact⟨fun f e=>aH (List.all_eq_true.1 b.1 f e),aH b.2⟩
theorem ak4{a:Int}(h:okI a=Y):Bg (phi a):=(ae5 h).1
theorem acL{a:Int}(h:okI a=Y):fH (phi a)=phi a:=(ae5 h).2
theorem Ce:∀{st:List Int},OkI st->fH (tm st)=tm st
 |[],_=>rfl
 |a::r,h=>by
  rw[Ew,rj,acL (h a (cE ..)),Ce (fun c b=>h c (dI _ b))]
theorem yK:∀{f:Nat}{a c lo:List Int}{t:Int},kG f a t=M lo->kG f (a++c) t=M (lo++c)
 |0,_,_,_,_,h=>by simp[kG]at h
 |f+1,[],_,_,_,h=>by simp[kG]at h
 |f+1,a::r,c,lo,t,h=>by
  rw[ej];rw[kG]at h⊢;split
  ·rename_i b;rw[ab b]at h;rw[<-bp h]
  ·rename_i b;rw[aa b]at h;rw[<-dy];exact yK h
theorem Cf:∀{f g:Nat}{st lo:List Int}{t:Int},kG f st t=M lo->f<=g->kG g st t=M lo
 |0,_,_,_,_,h,_=>by simp[kG]at h
 |f+1,0,_,_,_,_,c=>by omega
 |f+1,g+1,[],_,_,h,_=>by simp[kG]at h
 |f+1,g+1,a::r,lo,t,h,c=>by
  rw[kG]at h⊢;split
  ·rename_i b;rw[ab b]at h;exact h
  ·rename_i b;rw[aa b]at h;exact Cf h (by omega)
theorem yL:∀{st:List Int}{t:Int},OkI st->1<=t->t<=78->ij st t=(feedL (tm st) t).2/\(ij st t=Y->∃f,kG (st.length+9) st t=M f/\OkI f/\fH (feedL (tm st) t).1=tm f)
 |[],t,m,_,_=>⟨rfl,fun h=>by simp[ij]at h⟩
 |a::r,t,m,g,i=>by
  have p:=m a (cE ..);have o:OkI r:=fun k hx=>m k (dI _ hx);have b:=abh p g i;have n:=ak4 p;rw[Ew,ij];unfold ae2 at b;by_cases l:zI 9 a t=Y
  ·rw[ab l]at b⊢;split at b
   ·rename_i j C u w d;have e:=(nC n g i d (tm r)).1 Y rfl;rw[e];rw[ci]at b;have A:=aH b.2;refine⟨rfl,fun _=>⟨j++r,?_,?_,?_⟩⟩
    ·exact Cf (yK (c:=r) w) (by omega)
    ·intro k hx;rcases List.mem_append.1 hx with hx|hx
     ·exact List.all_eq_true.1 b.1 k hx
     ·exact o k hx
    ·show fH (C++tm r)=tm (j++r);rw[rj,ae0,A]
     congr 1
     exact Ce o
   ·cases b
  ·rw[aa l]at b⊢;by_cases s:I6 a=Y
   ·rw[ab s]at b⊢;rw[ci]at b;have q:=b.2;split at q
    ·rename_i j u d;have e:=(nC n g i d (tm r)).2 rfl;rw[e];obtain⟨x,y⟩:=yL o g i;refine⟨x,fun h=>?_⟩;obtain⟨f,E,p2,F⟩:=y h;refine⟨f,?_,p2,F⟩;have z:¬a=t:=fun v=>by
      subst v;have:zI 9 a a=Y:=by rw[zI,ab (by omega)];exact bH rfl
      exact l this
     have B:Gc a t=[]:=by simpa using b.1
     rw[show(a::r).length+9=(r.length+9)+1 from Nat.add_right_comm r.length 1 9,kG,aa z,B,dt];exact E
    ·cases q
   ·rw[aa s]at b⊢;split at b
    ·rename_i j u d;have e:=(nC n g i d (tm r)).1 A5 rfl;rw[e];exact⟨rfl,fun h=>by cases h⟩
    ·cases b
structure DL (st stk:List Int):Prop where
 o1:OkI st
 o2:Bg stk
 eq:fH stk=tm st
theorem DL.may{st a:List Int}(h:DL st a)(b:1<=t)(c:t<=78):ij st t=(feedL a t).2:=by
 rw[(yL h.o1 b c).1,<-h.eq];exact(ww h.o2 b c).1
theorem DL.pass{st e:List Int}(h:DL st e)(b:1<=t)(c:t<=78)(d:ij st t=Y):∃a,kG (st.length+9) st t=M a/\DL a (feedL e t).1:=by
 obtain⟨a,f,p2,g⟩:=(yL h.o1 b c).2 d;refine⟨a,f,p2,ye h.o2 b c,?_⟩;rw[<-g,<-h.eq];exact((ww h.o2 b c).2 (by rw[<-h.may b c];exact d)).symm
theorem ac0:DL [100,6] [100,6]:=⟨by unfold OkI;decide,by unfold Bg;decide,by decide⟩
open Go.RowKit
def fe(k:Int):Bool:=decide (20<=k/\k<=37)
def jj(k:Int):Bool:=decide (1<=k/\k<=16)
def zJ(k:Int):Bool:=decide (k=26\/k=32\/k=33)
theorem Lq(k:Int)(w:Ax):A9 O 227 #[A0 A2 k] w fun e w'=>e= U (B1 (fe k))/\w'=w:=by
 unfold fe;rcases(show(20<=k/\k<=37)\/(20<=k/\¬k<=37)\/¬20<=k by omega) with⟨h1,b⟩|⟨h1,b⟩|h1
 ·rw[bH ⟨h1,b⟩];go_in;go_wp2;go_ret;exact⟨rfl,rfl⟩
 ·rw[aC (fun a=>b a.2)];go_in;go_wp2;go_ret;exact⟨rfl,rfl⟩
 ·rw[aC (fun a=>h1 a.1)];go_in;go_wp2;go_ret;exact⟨rfl,rfl⟩
theorem Cg(k:Int)(w:Ax):A9 O 95 #[A0 A2 k] w fun e w'=>e= U (B1 (jj k))/\w'=w:=by
 unfold jj;rcases(show(1<=k/\k<=16)\/(1<=k/\¬k<=16)\/¬1<=k by omega) with⟨h1,b⟩|⟨h1,b⟩|h1
 ·rw[bH ⟨h1,b⟩];go_in;go_wp2;go_ret;exact⟨rfl,rfl⟩
 ·rw[aC (fun a=>b a.2)];go_in;go_wp2;go_ret;exact⟨rfl,rfl⟩
 ·rw[aC (fun a=>h1 a.1)];go_in;go_wp2;go_ret;exact⟨rfl,rfl⟩
theorem Ge(k:Int)(w:Ax):A9 O 173 #[A0 A2 k] w fun e w'=>e= U (B1 (zJ k))/\w'=w:=by
 unfold zJ;by_cases a:k=26
 ·subst a;go_in;go_wp2;go_ret;exact⟨rfl,rfl⟩
 have d:(k==26)=A5:=by rw[cG];exact a
 by_cases b:k=32
 ·subst b;go_in;go_wp2;go_ret;exact⟨rfl,rfl⟩
 have f:(k==32)=A5:=by rw[cG];exact b
 by_cases c:k=33
 ·subst c;go_in;go_wp2;go_ret;exact⟨rfl,rfl⟩
 have g:(k==33)=A5:=by rw[cG];exact c
 rw[aC (by omega)];go_in;go_wp2;go_ret;exact⟨rfl,rfl⟩
theorem ac1(w:Ax)(p:B6)(a:List Nd)(N d:Nd)(vn vk:B6)(i:Nat)(z:Nat)(g:fs w p a)(o:cu w vn N.nm)(f:dw w vk N.ks)(c:N.ks[i]?=M (z:Int))(b:a[z]?=M d)(s:a.length<=1048576)(t:N.ks.length<=1048576):
  A9 O 169 #[.agg #[p],jf N vn vk,A0 A2 i] w fun e w'=>e= U (A0 A2 d.k)/\B0 w.heap.size w w':=by
 have r:∀j l,B0 w.heap.size w ((w.alloc j).alloc l):=fun j l=>((ah _ w).alloc (ag _) j).alloc (by simp) l;obtain⟨B,F,rfl⟩:=g.form;obtain⟨C,G,rfl⟩:=o.form;obtain⟨E,H,rfl⟩:=f.form;obtain⟨ar,rfl,a4,a0,n⟩:=g.get b;obtain⟨av,rfl,q⟩:=f.get c;have v:z<a.length:=by rcases bj z a.length with h|h;exact h;rw[jG h]at b;cases b
 have u:i<N.ks.length:=by rcases bj i N.ks.length with h|h;exact h;rw[jG h]at c;cases c
 have m:=n.c0;have I:=xI q;have J:=xI m;unfold jf;generalize a.length=K at s v;generalize N.ks.length=y at t u;generalize N.nm.length=x;generalize d.k=A at m;clear g o f c b n;obtain⟨ad,L,ao,ak,an,al,ap,am,af⟩:=N;simp only;go_in;go_wp21
 go_quiet (fail)
 go_wp21
 go_ret;exact⟨rfl,nB (r _ _) _⟩
def fh(a:List Nd)(N:Nd)(j:Nat):Int:=(a.getD ((N.ks.getD j 0).toNat) Iv).k
def lg(a:List Nd)(N:Nd):Nat->Nat->Bool
 |0,_=>Y
 |f+1,j=>fe (fh a N j)&&lg a N f (j+1)
structure ak5 (ns:List Nd) (N:Nd) (f j:Nat) (R:Bool):Prop where
 out:lg ns N f j=R
structure za (ns:List Nd) (N:Nd):Prop where
 ok:∀z∈N.ks,0<=z/\z<(ns.length:Int)
theorem za.get{a:List Nd}{N:Nd}(h:za a N){j:Nat}(e:j<N.ks.length):∃(z:Nat) (c:Nd),N.ks[j]?=M (z:Int)/\a[z]?=M c/\fh a N j=c.k/\z<a.length:=by
 have d:N.ks[j]?=M N.ks[j]:=aJ e;obtain⟨g,i⟩:=h.ok N.ks[j] (A6 e);obtain⟨z,f⟩:∃z:Nat,N.ks[j]=(z:Int):=⟨N.ks[j].toNat,by omega⟩;have b:z<a.length:=by omega
 refine⟨z,a[z],by rw[d,f],aJ b,?_,b⟩;unfold fh;rw[be,be,d,f];simp[b]
theorem lu(w:Ax)(K:B6)(b:List Nd)(N:Nd)(vn vk:B6)(i k:Nat)(t:fs w K b)(c:cu w vn N.nm)(s:dw w vk N.ks)(ar:za b N)(a6:k<=N.ks.length)(a0:b.length<=1048576)(a4:N.ks.length<=1048576):
  A9 O 172 #[.agg #[K],jf N vn vk,A0 A2 i,A0 A2 k] w fun e w'=>e= U (B1 (lg b N (k-i) i))/\B0 w.heap.size w w':=by
 obtain⟨n,r⟩:=az (lg b N (k-i) i);rw[r];have ad:ak5 b N (k-i) i n:=⟨r⟩;clear r;have av:∀u v,B0 w.heap.size w ((w.alloc u).alloc v):=fun u v=>((ah _ w).alloc (ag _) u).alloc (by simp) v;have g:=gI t s;obtain⟨af,al,rfl⟩:=t.form;obtain⟨a9,ba,rfl⟩:=c.form;obtain⟨ak,am,rfl⟩:=s.form;clear t c s;unfold jf;obtain⟨J,c⟩:=az b.length;obtain⟨A,q⟩:=az N.ks.length;have z:=gI c q;rw[c]at g a0⊢;rw[q]at g a4 a6⊢;clear c q;generalize N.nm.length=a8;go_in;go_wp2_with fail;generalize I:(w.alloc _).alloc _=h;obtain⟨o,p,H, -⟩:=DB I;replace o:h.cell? ⟨w.heap.size,0,V⟩=M (B7 af J al):=(au _ _ _ _ _ _ o).trans rfl;replace p:h.cell? ⟨w.heap.size+1,8,V⟩=M (B7 ak A am):=(au _ _ _ _ _ _ p).trans rfl;clear I av;go_loopw [9] (fun x wr=>∃(j:Nat),x= A0 A2 j/\i<=j/\(i<=k->j<=k)/\ak5 b N (k-j) j n/\B0 h.heap.size h wr) (fun x _=>k-(Fs x).toNat)
 case atStart=>exact⟨i,rfl,ag _,fun ap=>ap,ad,ah _ _⟩
 case round=>
  obtain⟨j,rfl,bf,bk,y,l⟩:=hrel;have m:=H.trans (l.mono H.size);by_cases bn:j<k
  ·obtain⟨L,B,C,E,F,an⟩:=ar.get (j:=j) (by rw[z.out.2];omega);rw[z.out.1]at an;obtain⟨bs,rfl,bx,bw,G⟩:=(g.1.below m).get E;obtain⟨bt,rfl,bd⟩:=(g.2.below m).get C;have bb:=aj l o;have bc:=aj l p;have ao:=G.c0;have a:=y.out;rw[show k-j=(k-(j+1))+1 by omega,lg,F]at a;have a5:(j:Int)<(k:Int):=by omega
   have bl:(j:Int)<(A:Int):=by omega
   have br:(L:Int)<(J:Int):=by omega
   have bo:(0:Int)<=(L:Int):=by omega
   have bh:(0:Int)<=(j:Int):=by omega
   have f:=fun w=>Lq B.k w;generalize B.k=a7 at ao a f;clear C E F G;cases hx:fe a7 with
   |true=>
    rw[hx,eI]at a;rw[hx]at f;have d:ak5 b N (k-(j+1)) (j+1) n:=⟨a⟩;clear a hx;go_wp2_with fail;go_quiet ((go_at_call 227;exact Calls.quiet_of_same (f _)))
    go_wp2_with fail;exact⟨⟨j+1,by go_num,by omega,fun _=>by omega,d,nB l _⟩,by simp[Fs];omega⟩
   |false=>
    rw[hx,eo]at a;rw[hx]at f;have d:=aq a;clear a hx;go_wp2_with fail;go_quiet ((go_at_call 227;exact Calls.quiet_of_same (f _)))
    go_wp2_with fail;go_ret;exact⟨by rw[<-d.out];rfl,nB m _⟩
  ·have a:=y.out;rw[show k-j=0 by omega,lg]at a;have d:=aq a;have a5:¬(j:Int)<(k:Int):=by omega
   clear a;go_wp2_with fail;go_ret;exact⟨by rw[<-d.out];rfl,m⟩
open Go.Maps Go.WideMaps
def uf(l:List ByteArray):Nat->Nat->Bool
 |0,_=>Y
 |f+1,j=>oL (l.getD j ByteArray.empty)&&uf l f (j+1)
structure Ey (l:List ByteArray) (f j:Nat) (R:Bool):Prop where
 out:uf l f j=R
def eG(N:Nd)(a b:Int):Bool:=decide (a<=(N.nm.length:Int)/\(N.nm.length:Int)<=b)&&uf N.nm N.nm.length 0
theorem I8(w:Ax)(N:Nd)(vn vk:B6)(q r:Int)(B:cu w vn N.nm)(L:dw w vk N.ks)(am:N.nm.length<=1048576)(ad:∀s∈N.nm,s.size<=1048576):
  A9 O 171 #[jf N vn vk,A0 A2 q,A0 A2 r] w fun e w'=>e= U (B1 (eG N q r))/\B0 w.heap.size w w':=by
 have j:∀C,B0 w.heap.size w (w.alloc C):=fun C=>(ah _ w).alloc (ag _) C;have u:=gI B ad;obtain⟨H,J,rfl⟩:=B.form;obtain⟨I,K,rfl⟩:=L.form;clear B L ad;obtain⟨i,c⟩:=az (eG N q r);rw[c];unfold eG at c;unfold jf;obtain⟨a,y⟩:=az N.nm.length;have ak:=aq y;rw[y]at u am c⊢;clear y;generalize N.ks.length=F;by_cases ap:(a:Int)<q
 ·have g:Hid (A5=i):=by rw[aC (by omega)]at c;exact c
  clear c;go_in;go_wp2;go_ret;exact⟨by rw[<-g.out];rfl,j _⟩
 by_cases ar:r<(a:Int)
 ·have g:Hid (A5=i):=by rw[aC (by omega)]at c;exact c
  clear c;go_in;go_wp2;go_ret;exact⟨by rw[<-g.out];rfl,j _⟩
 have g:Ey N.nm a 0 i:=⟨by rw[bH (by omega)]at c;simpa using c⟩;clear c;go_in;go_wp21
 have v:=j (.cells #[A0 A2 N.k,A0 A2 N.f,A0 A2 N.t,A0 A2 N.l,A0 A2 N.op,A0 A2 N.n,Br N.x,B7 H a J,B7 I F K] 45);generalize w.alloc (.cells #[A0 A2 N.k,A0 A2 N.f,A0 A2 N.t,A0 A2 N.l,A0 A2 N.op,A0 A2 N.n,Br N.x,B7 H a J,B7 I F K] 45)=G at v⊢;clear j;go_loopw [24,8] (fun E _ wr=>∃(b:Nat),E= A0 A2 b/\b<=a/\Ey N.nm (a-b) b i/\B0 G.heap.size G wr) (fun E _ _=>a-(Fs E).toNat)
 case atStart=>exact⟨0,rfl,by omega,g,ah _ _⟩
 case round=>
  obtain⟨b,rfl,a0,af,z⟩:=hrel;have m:=v.trans (z.mono v.size);have d:=af.out;by_cases an:b<a
  ·obtain⟨s,o⟩:=cy ak.out an;have a1:=u.2 s (cH o);obtain⟨a4,rfl,av⟩:=(u.1.below m).get o;rw[show a-b=(a-(b+1))+1 by omega,uf,be,o,gl]at d;have al:(b:Int)<(a:Int):=by omega
   have p:=xH s (by omega) wr;clear o;cases hx:oL s with
   |true=>
    rw[hx,eI]at d;rw[hx]at p;have h:Ey N.nm (a-(b+1)) (b+1) i:=⟨d⟩;clear d hx;go_wp2_with (go_at_call 175;refine p.mono ?_;rintro e ao ⟨rfl,A⟩);exact⟨⟨b+1,by go_num,by omega,h,z.trans (A.mono z.size)⟩,by simp[Fs];omega⟩
   |false=>
    rw[hx,eo]at d;rw[hx]at p;have h:=aq d;clear d hx;go_wp2_with (go_at_call 175;refine p.mono ?_;rintro e ao ⟨rfl,A⟩);go_ret;exact⟨by rw[<-h.out];rfl,m.trans (A.mono m.size)⟩
  ·rw[show a-b=0 by omega,uf]at d;have h:=aq d;have al:¬(b:Int)<(a:Int):=by omega
   clear d;go_wp21
   go_ret;exact⟨by rw[<-h.out];rfl,m⟩
def ae6(B:Nat)(W:Ax)(Z X:Ax->Prop):Exit->Act->Ax->Prop
 | .normal,_,a=>E0 B W a/\Z a
 | .ret,_,a=>E0 B W a/\X a
 |_,_,_=>False
theorem uK{P:Er}{g:Operand}{ps:Array Tmp}{assign body:Go.Code}{gf:Nat}{lb:Array B6}
  (a7:a.eval g= .func (.func gf) #[] lb) (an:∀args w,(callFunc gf args).run P w= .ok (.enter gf args) w) (enc:Nat->Array B6) (ba:∀x,(enc x).size=ps.size) (u:Nat)
  (Z:Nat->Ax->Prop) (y:Nat->Act->Ax->Prop) (X:Ax->Prop)
  (am:∀m W r o,Z m W->W.heap[w.heap.size+1]?=M (.loop r)->Z m (W.putObj (w.heap.size+1) o))
  (bf:∀m d W r o,y m d W->W.heap[w.heap.size+1]?=M (.loop r)->y m d (W.putObj (w.heap.size+1) o)) (al:∀W r o,X W->W.heap[w.heap.size+1]?=M (.loop r)->X (W.putObj (w.heap.size+1) o))
  (ao:∀c,B0 w.heap.size w c->c.heap.size=w.heap.size+2->Z u c)
  (av:∀(l m:Nat) W (K:Act->Ax->Prop),m<u->Z (m+1) W->(∀d b,y m d b->E0 w.heap.size W b->K d b)->
   assign.wpIn (Fence.wide.inRound l) (n-1-1) P (Exit.then K (fun _ _ _=>False)) {tmps:=(ps.zip (enc m)).foldl (fun t (p,v)=>t.setIfInBounds p v) a.tmps,defers:=[]} W)
  (a1:∀(l m:Nat) d W,m<u->y m d W->body.wpIn (Fence.wide.inRound l) (n-1-1) P (ae6 w.heap.size W (Z m) X) d W)
  (bd:∀(l:Nat)(j:Nat->Ax->Prop)(I:Ax->Prop),(∀m W,j m W->Z m W)->
   (∀m W,m<u->j (m+1) W->YieldAt C2 (n-1-1) P l (enc m) W fun e b=>(e= U (B1 Y)/\j m b)\/(e= U (B1 A5)/\I b))->
   ∀W,j u W->CallsIn C2 (n-1) P gf (#[.func (.yield l) #[] #[]]++lb) W fun e b=>(∃v,e= U v)/\(j 0 b\/I b))
  (a5:∀W,Z 0 W->W.heap[w.heap.size]?=M (.deferred (M []))->Q .normal {a with defers:={target:= .collected w.heap.size,args:=#[]}::a.defers} W)
  (bb:∀W,X W->W.heap[w.heap.size]?=M (.deferred (M []))->Q .ret {a with defers:={target:= .collected w.heap.size,args:=#[]}::a.defers} W):
  (Go.Code.rangeFunc g ps assign body).wpIn C2 n P Q a w:=by
 refine wpIn_rangeFunc ?_;intro fn a6;show ∃l bx bA br bD bs args bE,(Instr.enterLoop fn a.tmps ps assign body V).run P w=_/\_;obtain⟨rc,f⟩:∃rc:LoopState->Option Go.Code->Loop,rc=fun bk bh=>{state:=bk,pending:=bh,fn,tmps:=a.tmps,params:=ps,assign,body,defers:=w.heap.size}:=⟨_,rfl⟩;have C:=run_enterLoop_outer (P:=P) (w:=w) fn a.tmps ps assign body;rw[show({state:= .ready,pending:=V,fn,tmps:=a.tmps,params:=ps,assign,body,defers:=w.heap.size}:Loop)=rc .ready V by rw[f]]at C;obtain⟨c,k⟩:=az ((w.alloc (.deferred (M []))).alloc (.loop (rc .ready V)));rw[k]at C;have a8:c.heap[w.heap.size+1]?=M (.loop (rc .ready V)):=by
  rw[<-k];have:=World.alloc_heap_new (w.alloc (.deferred (M []))) (.loop (rc .ready V));rwa [cD]at this
 have a2:c.heap[w.heap.size]?=M (.deferred (M [])):=by
  rw[<-k];exact(dg _ _ _ (by simp)).trans (World.alloc_heap_new w _)
 have a0:B0 w.heap.size w c:=by rw[<-k];exact((ah _ w).alloc (ag _) _).alloc (by simp) _
 have bc:c.heap.size=w.heap.size+2:=by rw[<-k];simp
 refine⟨w.heap.size+1,[{target:= .collected w.heap.size,args:=#[]}],c,{target:= .fn (.func gf) lb,args:=#[.func (.yield (w.heap.size+1)) #[] #[]]},c,gf,
  #[.func (.yield (w.heap.size+1)) #[] #[]]++lb,c,C,?_,?_,?_,fun z=>by simp[C2]at z,?_⟩
 ·simp only[resolve,a7];simp[go_sem]
 ·intro bt bw;trivial
 ·simp[invoke,go_sem,an]
 ·refine(bd (w.heap.size+1) (fun m W=>Z m W/\W.heap[w.heap.size+1]?=M (.loop (rc .ready V))/\W.heap[w.heap.size]?=M (.deferred (M [])))
   (fun W=>X W/\W.heap[w.heap.size+1]?=M (.loop (rc .done (M .ret)))/\W.heap[w.heap.size]?=M (.deferred (M []))) (fun _ _ z=>z.1) ?_ c ⟨ao c a0 bc,a8,a2⟩).mono ?_
  ·rintro m W af ⟨A,h,q⟩;have ak:=run_yield (P:=P) (args:=enc m) h (by rw[f];exact ba m);rw[f]at ak;refine⟨fn,_,assign,body,ak,roundIn_of_wpIn a6 (av _ m W _ af A fun d b ap L=>?_)⟩;have E:=L.same _ _ (by omega) h rfl;have a4:=L.same _ _ (ag _) q rfl;have a9:w.heap.size+1<b.heap.size:=(Array.getElem?_eq_some_iff.1 E).1;refine⟨_,run_beginRound E (by rw[f]),?_⟩;have ad:(b.putObj (w.heap.size+1) (.loop {rc .ready V with state:= .busy})).heap[w.heap.size+1]?=M (.loop {rc .ready V with state:= .busy}):=World.putObj_heap_same a9;have J:(b.putObj (w.heap.size+1) (.loop {rc .ready V with state:= .busy})).heap[w.heap.size]?=M (.deferred (M [])):=(Bs (by omega)).trans a4;refine wpIn_mono (a1 _ m d _ af (bf _ _ _ _ _ ap E)) ?_;rintro e bo bn G;cases e with
   |normal=>
    obtain⟨s,H⟩:=G;have i:=s.same _ _ (by omega) ad rfl;have B:=s.same _ _ (ag _) J rfl;have F:=(Array.getElem?_eq_some_iff.1 i).1;refine⟨_,_,run_endRound (P:=P) V i,.inl ⟨rfl,am _ _ _ _ H i,?_,(Bs (by omega)).trans B⟩⟩;rw[World.putObj_heap_same F];simp[f]
   |ret=>
    obtain⟨s,H⟩:=G;have i:=s.same _ _ (by omega) ad rfl;have B:=s.same _ _ (ag _) J rfl;have F:=(Array.getElem?_eq_some_iff.1 i).1;refine⟨_,_,run_endRound (P:=P) (M .ret) i,.inr ⟨rfl,al _ _ _ H i,?_,(Bs (by omega)).trans B⟩⟩;rw[World.putObj_heap_same F];simp[f]
   |_=>exact G.elim
  ·rintro e bl ⟨⟨v,rfl⟩,⟨A,h,q⟩|⟨ar,h,q⟩⟩
   ·refine⟨V,_,by have:=run_endLoop (P:=P) h (by rw[f];simp);rw[f]at this;exact this,?_⟩;exact a5 _ (am _ _ _ _ A h) ((Bs (by omega)).trans q)
   ·refine⟨M .ret,_,by have:=run_endLoop (P:=P) h (by rw[f];simp);rw[f]at this;exact this,?_⟩;exact wpIn_ret (bb _ (al _ _ _ ar h) ((Bs (by omega)).trans q))
theorem Lr{P:Er}{o:Oper}(r:Result Next)(h:o.upon P a K Q r):o.uponIn (Fence.wide.inRound l) n P a K Q r:=by
 have d:(Fence.wide.inRound l).depth.isSome=Y->1<=n:=fun h=>by simp[C2,Fence.inRound]at h
 cases r with
 |ok c i=>
  cases c with
  |value b=>exact h
  |skip=>exact h
  |defer k=>exact h
  |enter m args=>exact⟨d,CallsIn.inRound l (callsIn_wide.2 h)⟩
  |row row args=>exact⟨d,fun e f _=>let ⟨b,j,r,g⟩:=h e f;⟨b,j,r,stepsIn_wide.2 g⟩⟩
  |_=>exact h.elim
 |halt c i=>
  cases c with
  |panic b=>exact h
  |_=>exact h.elim
def I9(o:Oper):Bool:=match o.op with| .defer _=>A5|_=>Y
theorem ae7{o:Oper}(h:I9 o=Y):∀c,o.op≠ .defer c:=by
 intro c a;unfold I9 at h;rw[a]at h;cases h
theorem Lt{P:Er}{i:Nat}(d:∀(j:Nat) (o:Oper),ops[j]?=M o->I9 o=Y)(e:¬LetsOut Q)(h:wpOp P ops Q i K a w):wpOpIn (Fence.wide.inRound l) n P ops Q i K a w:=by
 unfold wpOp at h;unfold wpOpIn;cases ho:ops[i]? with
 |none=>simpa [ho] using h
 |some o=>
  simp only[ho]at h⊢;split
  ·rename_i b;simp only[b,jq]at h;rcases h with h|h
   ·refine⟨fun c _=>trivial,?_⟩;show o.uponIn _ _ _ _ _ _ ((o.semAt (M l) a.eval).run P w);rw[lE l a.eval o (ae7 (d i o ho))];exact Lr _ h
   ·exact absurd h.2 e
  ·rename_i b;simp only[b]at h;exact⟨fun c _=>trivial,by simpa using h⟩
theorem wd{P:Er}(b:∀(j:Nat) (o:Oper),ops[j]?=M o->I9 o=Y)(c:¬LetsOut Q):
  ∀(fuel:Nat)(d:Array Bool)(a:Act)(w:Ax),wpAny P md ops Q fuel d a w->wpAnyIn (Fence.wide.inRound l) n P md ops Q fuel d a w
 |0,_,_,_,h=>h
 |fuel+1,_,_,_,h=>⟨h.1,fun i g=>Lt b c (wpOp_mono (fun e w' f=>wd b c fuel _ e w' f) (h.2 i g))⟩
theorem sw{P:Er}{id:Nat}(e:P.follows .mixedOrders=Y)(c:ops.all I9=Y)(g:¬LetsOut Q)(hS:S w.drew)
  (h:S w.drew->wpAnyH P .any ops Q S ops.size (Array.replicate ops.size A5) a w.drew):(Go.Code.region id ops Y).wpIn (Fence.wide.inRound l) n P Q a w:=
 wpIn_region_any e (wd (fun i j f=>by
  obtain⟨d,b⟩:=Array.getElem?_eq_some_iff.1 f;rw[<-b];exact Array.all_eq_true.1 c i d) g _ _ _ _ (wpAny_of_held _ _ _ _ (h hS)))
theorem fC{P:Er}(i:Nat)(e:Tmp)(v:B6){d:Oper}{fuel:Nat}{b:Array Bool}(k:ops[i]?=M d)(f:d.dst=M e)
  (m:Region.noSelect ops=Y) (j:Region.free md ops b i=Y) (l:(Region.ready md ops b).contains i=Y)
  (g:∀c a w,Q (.panic c) (a.put (M e) v) w->Q (.panic c) a w) (n:Region.wanted d (yielded ops a.tmps)=Y) (hS:S w) (o:∀w,S w->(execOp a.eval d).run P w= .ok (.value v) w)
  (h:wpAnyH P md ops Q S fuel (b.setIfInBounds i Y) (a.put (M e) v) w):wpAnyH P md ops Q S (fuel+1) b a w:=
 wpAnyH_take k m j l (by rw[f];exact g) (Or.inl ⟨n,o⟩) hS (by rw[f];exact h)
def am9(b:Region.Mode)(a:Array Oper)(m:List Bool)(i:Nat)(l:List B6):Bool:=Region.noSelect a&&Region.free b a m.toArray i&&(Region.ready b a m.toArray).contains i&&(match a[i]? with|some c=>Region.wanted c (yielded a l.toArray)|none=>A5)
theorem bG{P:Er}(i:Nat)(v:B6){d:Tmp}{f:Oper}{fuel:Nat}{m:List Bool}{l:List B6}{e:List Deferred}(g:ops[i]?=M f)(k:f.dst=M d)(b:am9 md ops m i l=Y)
  (j:∀c a w,Q (.panic c) (a.put (M d) v) w->Q (.panic c) a w) (hS:S w) (n:∀w,S w->(execOp (Act.mk l.toArray e).eval f).run P w= .ok (.value v) w)
  (h:wpAnyH P md ops Q S fuel (m.set i Y).toArray ⟨(l.set d v).toArray,e⟩ w):wpAnyH P md ops Q S (fuel+1) m.toArray ⟨l.toArray,e⟩ w:=by
 unfold am9 at b;rw[g]at b;simp only[ci]at b;refine fC i d v g k b.1.1.1 b.1.1.2 b.1.2 j b.2 hS n ?_;simp only[Act.put,aD];exact h
def wB:Nat->ByteArray
 |0=>⟨#[115,116,97,116]⟩
 |1=>⟨#[98,108,111,99,107]⟩
 |2=>⟨#[101,108,115,101]⟩
 |3=>⟨#[101,120,112,114]⟩
 |4=>⟨#[98,97,115,101]⟩
 |5=>⟨#[116,97,114,103,101,116]⟩
 |6=>⟨#[99,97,108,108]⟩
 |7=>⟨#[109,97,110,121]⟩
 |8=>⟨#[102,110]⟩
 |_=>⟨#[101,110,116,114,121]⟩
def ms:Nat->Int->Bool
 |0,k=>jj k
 |1,k=>k==1
 |2,k=>k==1||k==7
 |3,k=>fe k
 |4,k=>fe k&&k !=27
 |5,k=>k==26||k==32||k==33
 |6,k=>k==34
 |7,k=>k==34||k==27
 |8,k=>k==36
 |_,k=>decide (40<=k/\k<=42)
theorem Ch(k:Int)(w:Ax):A9 O 269 #[A0 A2 k] w fun e w'=>e= U (B1 (fe k))/\w'=w:=by
 unfold fe;rcases(show(20<=k/\k<=37)\/(20<=k/\¬k<=37)\/¬20<=k by omega) with⟨h1,b⟩|⟨h1,b⟩|h1
 ·rw[bH ⟨h1,b⟩];go_in;go_wp2;go_ret;exact⟨rfl,rfl⟩
 ·rw[aC (fun a=>b a.2)];go_in;go_wp2;go_ret;exact⟨rfl,rfl⟩
 ·rw[aC (fun a=>h1 a.1)];go_in;go_wp2;go_ret;exact⟨rfl,rfl⟩
theorem ac2(k:Int)(w:Ax):A9 O 238 #[Br ⟨#[115,116,97,116]⟩,A0 A2 k] w fun e w'=>e= U (B1 (ms 0 k))/\w'=w:=by
 rcases(show(1<=k/\k<=16)\/(1<=k/\¬k<=16)\/(¬1<=k) by omega) with⟨h0,a⟩|⟨h0,a⟩|h0
 ·rw[show ms 0 k=Y from bH (by omega)];go_in;go_wp2;go_ret;exact⟨rfl,rfl⟩
 ·rw[show ms 0 k=A5 from aC (by omega)];go_in;go_wp2;go_ret;exact⟨rfl,rfl⟩
 ·rw[show ms 0 k=A5 from aC (by omega)];go_in;go_wp2;go_ret;exact⟨rfl,rfl⟩
theorem ac3(k:Int)(w:Ax):A9 O 238 #[Br ⟨#[98,108,111,99,107]⟩,A0 A2 k] w fun e w'=>e= U (B1 (ms 1 k))/\w'=w:=by
 unfold ms;go_in;go_wp2;go_ret;exact⟨rfl,rfl⟩
theorem ac4(k:Int)(w:Ax):A9 O 238 #[Br ⟨#[101,108,115,101]⟩,A0 A2 k] w fun e w'=>e= U (B1 (ms 2 k))/\w'=w:=by
 unfold ms;rcases(show(k=1)\/(k=7)\/(¬k=1/\¬k=7) by omega) with rfl|rfl|⟨a,b⟩
 ·go_in;go_wp2;go_ret;exact⟨rfl,rfl⟩
 ·go_in;go_wp2;go_ret;exact⟨rfl,rfl⟩
 ·go_in;go_wp2;go_ret;exact⟨rfl,rfl⟩
theorem ac5(k:Int)(w:Ax):A9 O 238 #[Br ⟨#[101,120,112,114]⟩,A0 A2 k] w fun e w'=>e= U (B1 (ms 3 k))/\w'=w:=by
 have b:=fun w=>Ch k w;obtain⟨c,a⟩:=az (fe k);show A9 _ _ _ _ fun e w'=>e= U (B1 (fe k))/\w'=w;rw[a]at b⊢;clear a;go_in;go_wp2_with (go_at_call 269;refine dB (b _) ?_);go_ret;exact⟨rfl,rfl⟩
theorem ac6(k:Int)(w:Ax):A9 O 238 #[Br ⟨#[98,97,115,101]⟩,A0 A2 k] w fun e w'=>e= U (B1 (ms 4 k))/\w'=w:=by
 have a:=fun w=>Ch k w;obtain⟨c,b⟩:=az (fe k);show A9 _ _ _ _ fun e w'=>e= U (B1 (fe k&&k !=27))/\w'=w;rw[b]at a⊢;clear b;cases c
 ·rw[eo];go_in;go_wp2_with (go_at_call 269;refine dB (a _) ?_);go_ret;exact⟨rfl,rfl⟩
 ·rw[eI];go_in;go_wp2_with (go_at_call 269;refine dB (a _) ?_);go_ret;exact⟨rfl,rfl⟩
theorem ac7(k:Int)(w:Ax):A9 O 238 #[Br ⟨#[116,97,114,103,101,116]⟩,A0 A2 k] w fun e w'=>e= U (B1 (ms 5 k))/\w'=w:=by
 unfold ms;rcases(show(k=26)\/(k=32)\/(k=33)\/(¬k=26/\¬k=32/\¬k=33) by omega) with rfl|rfl|rfl|⟨a,b,c⟩
 ·go_in;go_wp2;go_ret;exact⟨rfl,rfl⟩
 ·go_in;go_wp2;go_ret;exact⟨rfl,rfl⟩
 ·go_in;go_wp2;go_ret;exact⟨rfl,rfl⟩
 ·go_in;go_wp2;go_ret;exact⟨rfl,rfl⟩
theorem ac8(k:Int)(w:Ax):A9 O 238 #[Br ⟨#[99,97,108,108]⟩,A0 A2 k] w fun e w'=>e= U (B1 (ms 6 k))/\w'=w:=by
 unfold ms;go_in;go_wp2;go_ret;exact⟨rfl,rfl⟩
theorem ac9(k:Int)(w:Ax):A9 O 238 #[Br ⟨#[109,97,110,121]⟩,A0 A2 k] w fun e w'=>e= U (B1 (ms 7 k))/\w'=w:=by
 unfold ms;rcases(show(k=34)\/(k=27)\/(¬k=34/\¬k=27) by omega) with rfl|rfl|⟨a,b⟩
 ·go_in;go_wp2;go_ret;exact⟨rfl,rfl⟩
 ·go_in;go_wp2;go_ret;exact⟨rfl,rfl⟩
 ·go_in;go_wp2;go_ret;exact⟨rfl,rfl⟩
theorem ada(k:Int)(w:Ax):A9 O 238 #[Br ⟨#[102,110]⟩,A0 A2 k] w fun e w'=>e= U (B1 (ms 8 k))/\w'=w:=by
 unfold ms;go_in;go_wp2;go_ret;exact⟨rfl,rfl⟩
theorem adb(k:Int)(w:Ax):A9 O 238 #[Br ⟨#[101,110,116,114,121]⟩,A0 A2 k] w fun e w'=>e= U (B1 (ms 9 k))/\w'=w:=by
 rcases(show(40<=k/\k<=42)\/(40<=k/\¬k<=42)\/(¬40<=k) by omega) with⟨h0,a⟩|⟨h0,a⟩|h0
 ·rw[show ms 9 k=Y from bH (by omega)];go_in;go_wp2;go_ret;exact⟨rfl,rfl⟩
 ·rw[show ms 9 k=A5 from aC (by omega)];go_in;go_wp2;go_ret;exact⟨rfl,rfl⟩
 ·rw[show ms 9 k=A5 from aC (by omega)];go_in;go_wp2;go_ret;exact⟨rfl,rfl⟩
theorem Gf(i:Nat)(a:i<10)(k:Int)(w:Ax):A9 O 238 #[Br (wB i),A0 A2 k] w fun e w'=>e= U (B1 (ms i k))/\w'=w:=by
 match i,a with
 |0,_=>exact ac2 k w
 |1,_=>exact ac3 k w
 |2,_=>exact ac4 k w
 |3,_=>exact ac5 k w
 |4,_=>exact ac6 k w
 |5,_=>exact ac7 k w
 |6,_=>exact ac8 k w
 |7,_=>exact ac9 k w
 |8,_=>exact ada k w
 |9,_=>exact adb k w
abbrev BuF(B b:Nat)(a:List B6)(w:Ax):Prop:=Lib.IsBuilderF 248 5 B b a w
abbrev BuA(B b:Nat)(a:List B6)(w:Ax):Prop:=Lib.BuilderAtF 248 5 B b (B3 (M ⟨b,0,V⟩)) a w
theorem tg(b:Nat)(w:Ax)(g:w.cell? ⟨b,0,V⟩=M (.pointer V))(d:w.shape? b=M (248,2))(h:w.frozen? ⟨b,0,V⟩=A5):
  A9 O 264 #[.pointer (M ⟨b,0,V⟩)] w fun e w'=>e= .returned (.tuple #[])/\w'=w.setCell ⟨b,0,V⟩ (.pointer (M ⟨b,0,V⟩)):=by
 obtain⟨i,c,f⟩:=Option.map_eq_some_iff.1 (show(Tryz.prog.info? 248).map (·.size)=M 2 by kernel_rfl);have j:=Lib.run_to_unsafe (P:=O) (w:=w) ⟨b,0,V⟩ Tryz.underlying246 Tryz.underlying290 c (by rw[f];decide) d (Nat.zero_lt_succ 1);have k:=Lib.run_from_unsafe (P:=O) (w:=w) ⟨b,0,V⟩ Tryz.underlying290 Tryz.underlying246 c d (by kernel_rfl);have l:∀a,(callFunc 284 #[a]).run O w= .ok (.value a) w:=fun a=>by
  rw[aa0 Tryz.func284 (by kernel_rfl) (by kernel_rfl) (by kernel_rfl) (e:=Extern.AbiNoEscape.same) (by kernel_rfl),Lib.run_noEscape];rfl
 go_in;go_wp2;go_end0
 exact⟨rfl,rfl⟩
theorem Ci(b:Nat)(w:Ax)(c:w.cell? ⟨b,0,V⟩=M (.pointer (M ⟨b,0,V⟩)))(f:w.shape? b=M (248,2)):
  A9 O 264 #[.pointer (M ⟨b,0,V⟩)] w fun e w'=>e= .returned (.tuple #[])/\w'=w:=by
 obtain⟨g,a,d⟩:=Option.map_eq_some_iff.1 (show(Tryz.prog.info? 248).map (·.size)=M 2 by kernel_rfl);have h:=Lib.run_neq_ptr_same (P:=O) w ⟨b,0,V⟩ Tryz.underlying246 a;go_in;go_wp2;go_end0
 exact⟨rfl,rfl⟩
theorem D0(B b:Nat)(a:List B6)(w:Ax)(h:BuF B b a w):
  A9 O 264 #[B3 (M ⟨b,0,V⟩)] w fun e w'=>e= U (E1 #[])/\BuA B b a w'/\B0 B w w':=by
 rcases h with h|h
 ·refine(tg b w h.cell0 h.shape h.frozen0).mono ?_;rintro e w' ⟨rfl,rfl⟩;exact⟨rfl,h.used _,(ah B w).setCell (p:=⟨b,0,V⟩) h.1 _⟩
 ·refine(Ci b w h.cell0 h.shape).mono ?_;rintro e w' ⟨rfl,rfl⟩;exact⟨rfl,h,ah B _⟩
theorem At(B b:Nat)(a:List B6)(s:ByteArray)(w:Ax)(h:BuF B b a w)(am:a.length+s.size<=140737488355328)(al:B<=w.heap.size):
  A9 O 233 #[.pointer (M ⟨b,0,V⟩),.string s] w fun e w'=>e= .returned (.tuple #[.int .i64 s.size,.nilIface])/\BuA B b (a++Lib.strCells s) w'/\B0 B w w':=by
 obtain⟨F,v,A,C,E⟩:=du (show(Tryz.prog.info? 5).map (fun i=>(i.zero,i.size,i.bytes))=M (M (.int .u8 0),1,1) by kernel_rfl);go_in;go_wp2_with (go_at_call 264;refine(D0 B b a _ h).mono ?_);rintro e I ⟨rfl,u,m⟩;obtain⟨l,j,f,o,z⟩:=u;have J:I.cell? ⟨b,1,V⟩=M j:=by rw[Lib.cell_of_heap f];rfl
 have an:=m.size;go_wp2_with (at_builtin;refine Lib.wpList_append_own_stringF _ rfl _ _ 39 9 rfl B 5 F Tryz.underlying39 Tryz.underlying9 v A C E _ _ _ rfl o s rfl (by unfold maxLen;omega) (by omega) (by omega) ?_);intro H t q n _;have y:=ai f;have d:t.heap[b]?=M (.cells #[.pointer (M ⟨b,0,V⟩),j] 248 (0,0)):=by
  rw[n.block b y (fun e=>z e.symm)];exact f
 have L:t.cell? ⟨b,1,V⟩=M j:=by rw[Lib.cell_of_heap d];rfl
 have ad:=Lib.frozen_of_heap d 1;obtain⟨k,r,c,rfl⟩:∃k r c,H= .slice k r c:=by
  rcases q.2 with⟨g,_⟩|⟨ak,c,K,af,g,_⟩
  ·exact⟨_,_,_,g⟩
  ·exact⟨_,_,_,g⟩
 go_wp2;go_ret2;refine⟨rfl,?_,?_⟩
 ·exact Lib.BuilderAtF.put (T:=248) (e:=5) l d (bs':=a++Lib.strCells s) (by simpa [Lib.strCells_length] using q) (by decide)
 ·exact(m.grown n (by omega) (fun G x=>(o.lt G x).1)).setCell (p:=⟨b,1,V⟩) l _
theorem ae8(B b n:Nat)(w:Ax)(g:B<=b)(d:w.heap[b]?=M (.cells #[B3 V,B7 V 0 0] 248 (0,0)))(r:B<=w.heap.size)(l:n<=281474976710656)(q:0<n):
  A9 O 232 #[B3 (M ⟨b,0,V⟩),A0 A2 n] w fun e w'=>e= U (E1 #[])/\BuA B b [] w'/\B0 B w w':=by
 have f:(w.setCell ⟨b,0,V⟩ (B3 (M ⟨b,0,V⟩))).heap[b]?=M (.cells #[B3 (M ⟨b,0,V⟩),B7 V 0 0] 248 (0,0)):=bz _ b 0 _ _ _ d;have a:B0 B w (w.setCell ⟨b,0,V⟩ (B3 (M ⟨b,0,V⟩))):=(ah B w).setCell (p:=⟨b,0,V⟩) g _;have h:=tg b w (by rw[Lib.cell_of_heap d];rfl) (by simp[World.shape?,d]) (Lib.frozen_of_heap d 0);go_in;go_wp2_with (go_at_call 264;refine h.mono ?_;rintro e t ⟨rfl,rfl⟩);generalize w.setCell ⟨b,0,V⟩ (B3 (M ⟨b,0,V⟩))=c at f a⊢;have i:c.cell? ⟨b,1,V⟩=M (B7 V 0 0):=by rw[Lib.cell_of_heap f];rfl
 have s:=a.size;clear h;go_region_held3 (fun w'=>w'.cell? ⟨b,1,V⟩=M (B7 V 0 0)) (first|go_keep|exact i) (fail)
 have o:=Tryz.Builder_grow_fresh B b n c.drew g f (by simpa using(show B<=c.heap.size by omega)) l;go_wp2_with (go_at_call 265;refine o.mono ?_;rintro e u ⟨rfl,j,k⟩);all_goals first
  |(rename_i m;rw[ed]at m;omega)
  |skip
 go_end0
 exact⟨rfl,Lib.BuilderAtF.of j,(⟨a.os,a.tape,a.output,a.size,a.block⟩:B0 B w c.drew).trans k⟩
def Bu(B b:Nat)(T:ByteArray)(w:Ax):Prop:=BuF B b (Lib.strCells T) w
theorem D1(a b:ByteArray):Lib.strCells (a++b)=Lib.strCells a++Lib.strCells b:=by
 unfold Lib.strCells;rw[oc,Array.toList_append,dF]
theorem Ez(B b:Nat)(T s:ByteArray)(w:Ax)(h:Bu B b T w)(f:T.size+s.size<=140737488355328)(d:B<=w.heap.size):
  A9 O 233 #[B3 (M ⟨b,0,V⟩),Br s] w fun e w'=>e= U (E1 #[A0 A2 s.size,.nilIface])/\Bu B b (T++s) w'/\B0 B w w':=by
 refine(At B b _ s w h (by rw[Lib.strCells_length];exact f) d).mono ?_;rintro e w' ⟨rfl,a,c⟩;exact⟨rfl,.inr (by rw[D1];exact a),c⟩
theorem Lu(B b:Nat)(T:ByteArray)(w:Ax)(h:Bu B b T w)(d:B<=w.heap.size):
  A9 O 235 #[B3 (M ⟨b,0,V⟩)] w fun e w'=>e= U (Br T)/\Bu B b T w'/\B0 B w w':=by
 refine(Tryz.Builder_String_any_k B b T.data.toList w h d).mono ?_;rintro e w' ⟨rfl,a,c,_⟩;exact⟨rfl,a,c⟩
end Go.Proofs.YtjeamjdieofoeaaGreatDoor
namespace Go.Proofs
open Go.Shelf
def Tryz.lays212_ren:Go.Shelf.Ren:=⟨fun|212=>231|263=>262|264=>263|n=>n,fun|46=>243|51=>269|146=>270|53=>226|148=>272|n=>n,fun|n=>n⟩
theorem Tryz.lays212:Go.Proofs.Lays.n212 O Tryz.lays212_ren:={
 mixed:=by kernel_rfl
 f212:=Tryz.func231.trans (congrArg M (by kernel_rfl))
 f263:=Tryz.func262.trans (congrArg M (by kernel_rfl))
 f264:=Tryz.func263.trans (congrArg M (by kernel_rfl))
 t46:=Tryz.underlying243
 a46:=Tryz.isAgg243
 z46:=Tryz.sizeOf243
 v46:=Tryz.zeroValue243
 t51:=Tryz.underlying269
 a51:=Tryz.isAgg269
 z51:=Tryz.sizeOf269
 v51:=Tryz.zeroValue269
 t53:=Tryz.underlying226
 a53:=Tryz.isAgg226
 z53:=Tryz.sizeOf226
 v53:=Tryz.zeroValue226
 t146:=Tryz.underlying270
 a146:=Tryz.isAgg270
 z146:=Tryz.sizeOf270
 v146:=Tryz.zeroValue270
 t148:=Tryz.underlying272
 a148:=Tryz.isAgg272
 z148:=Tryz.sizeOf272
 v148:=Tryz.zeroValue272}
open Go.RowKit Go.Lib in
theorem Tryz.bits_Mul(x a:Nat)(b:x<18446744073709551616)(c:a<18446744073709551616)(w:Ax):
  A9 O 231 #[A0 .u64 x,A0 .u64 a] w fun e w'=>e= U (E1 #[A0 .u64 ((x*a / 18446744073709551616:Nat):Int),A0 .u64 ((x*a%18446744073709551616:Nat):Int)])/\w'=w:=Any.bits_Mul Tryz.lays212 x a b c w
end Go.Proofs
namespace Go.Proofs.YtjeamjdieofoeaaGreatDoor
open Go.RowKit Go.Maps Go.WideMaps
variable{K:Act->World->Prop}{Q:Exit->Act->World->Prop}{S:World->Prop}{a:Act}{l n:Nat}{lo r:List Int}{md:Region.Mode}{ops:Array Oper}{s t:Int}{w:World}
def ana:ByteArray:=⟨#[116,97,114,103,101,116,32]⟩
def ug(q:Nat):ByteArray:=⟨(Cb [116,97,114,103,101,116,32] q).toArray⟩
theorem uL(q:Nat):(ug q).size=7*q:=by
 have a:(ug q).size=(Cb [116,97,114,103,101,116,32] q).length:=by simp[ug,ByteArray.size]
 rw[a,Lib.repeatL_length];simp;omega
theorem Ja(a b:Nat):ug (a+b)=ug a++ug b:=by
 apply pK;rw[oc];show(Cb _ (a+b)).toArray=(Cb _ a).toArray++(Cb _ b).toArray;rw[Lib.repeatL_add];simp
theorem adc(q a:Nat)(h:a<=q):(ug q).extract 0 (7*a)=ug a:=by
 obtain⟨c,rfl⟩:=Nat.exists_eq_add_of_le h;rw[Ja];apply pK;rw[ByteArray.data_extract,oc];have b:(ug a).data.size=7*a:=uL a;rw[<-b];apply Array.ext';simp;apply cA;rw[ib];exact ag _
theorem aox(ts:Array E2)(t:E2)(x a z c:Int)(W:Ax)(h:(if z<(if a<x then a else x) then z else(if a<x then a else x))=c):
  (Builtin.min_ ts t #[A0 A2 x,A0 A2 a,A0 A2 z]).run O W= .ok (A0 A2 c) W:=by
 rw[<-h];simp[Builtin.min_,Builtin.min2]
theorem Jb(m:Nat)(w:Ax)(ba:m+2<=200):
  A9 O 186 #[Br ⟨#[116,97,114,103,101,116,32]⟩,A0 A2 ((m+2:Nat):Int)] w fun e w'=>e= U (Br (ug (m+2)))/\B0 w.heap.size w w':=by
 have l:=Tryz.bits_Mul 7 (m+2) (by omega) (by omega) w;rw[Nat.div_eq_of_lt (by omega:7*(m+2)<18446744073709551616),Nat.mod_eq_of_lt (by omega:7*(m+2)<18446744073709551616)]at l;obtain⟨d,y⟩:=az (7*(m+2));rw[y]at l;have p:=aq y;have bd:(d:Int)<=1400:=by omega
 have bf:14<=d:=by omega
 clear y;go_in;go_wp2_with (go_at_call 231;refine l.mono ?_;rintro e w' ⟨rfl,rfl⟩);obtain⟨a,rfl⟩:∃a,a=w':=⟨_,rfl⟩;have ak:=ae8 a.heap.size a.heap.size d (a.alloc (.cells #[B3 V,B7 V 0 0] 248)) (ag _) (aA a _) (by simp) (by omega) (by omega);refine ak.mono ?_;rintro e al ⟨rfl,J,K⟩;have af:B0 a.heap.size a (a.alloc (.cells #[B3 V,B7 V 0 0] 248)):=(ah _ a).alloc (ag _) _;have t:=af.trans K;have F:Bu a.heap.size a.heap.size ⟨#[]⟩ al:= .inr J;have A:=Ez a.heap.size a.heap.size ⟨#[]⟩ ana al F (by decide) t.size;rw[show(⟨#[]⟩:ByteArray)++ana=ug 1 from rfl]at A;have a0:=aq t;clear ak J K af F t l;go_wp21
 refine A.mono ?_;rintro e am ⟨rfl,G,L⟩;have ar:Hid (Bu a.heap.size a.heap.size (ug 1) am/\B0 a.heap.size a am):=⟨G,a0.out.trans L⟩;clear A G L;go_wp21
 go_loopg [] (m+1) (fun I ap=>∃b:Nat,1<=b/\b+I=m+2/\Hid (Bu a.heap.size a.heap.size (ug b) ap/\B0 a.heap.size a ap))
 case atStart=>exact⟨1,ag _,by omega,ar⟩
 case round=>
  obtain⟨b,bb,bc,g⟩:=hrel;have k:=Tryz.Builder_Len_f a.heap.size a.heap.size _ wr g.1;rw[Lib.strCells_length,uL]at k;have v:=Lu a.heap.size a.heap.size _ wr g.1 g.2.size;obtain⟨f,n⟩:=az (7*b);have i:=aq n;rw[n]at k;obtain⟨r,hS⟩:=az (ug b);have q:=aq hS;have a2:r.size=f:=by rw[<-hS,uL,n]
  rw[hS]at v;clear n hS;cases gk with
  |zero=>
   obtain rfl:b=m+2:=by omega
   have a1:¬((f:Int)<(d:Int)):=by have:=p.out;have:=i.out;omega
   go_wp2_with (first|(go_at_call 234;refine k.mono ?_;rintro e a5 ⟨rfl,z⟩;rw[z])|(go_at_call 235;refine v.mono ?_;rintro e an ⟨rfl,s,o⟩));go_ret;exact⟨by rw[q.out];rfl,g.2.trans o⟩
  |succ I=>
   obtain⟨c,a3⟩:=az (min (m+2-b) b);have a7:1<=c:=by omega
   have a4:c<=b:=by omega
   have a8:b+c<=m+2:=by omega
   obtain⟨h,x⟩:=az (7*c);have a1:(f:Int)<(d:Int):=by have:=p.out;have:=i.out;omega
   have a6:h<=f:=by have:=i.out;omega
   have a9:∀(C:Array E2)(B:E2)(j:Ax),(Builtin.min_ C B #[A0 A2 ((d:Int)-(f:Int)),A0 A2 (f:Int),A0 A2 (d:Int)]).run O j= .ok (A0 A2 (h:Int)) j:=fun C B j=>aox C B _ _ _ _ j (by
    have:=p.out;have:=i.out;split<;>split<;>omega)
   have E:Hid (7*c=h/\r.extract 0 h=ug c):=⟨x,by rw[<-x,<-q.out];exact adc b c a4⟩;clear a3 x;go_wp2_with (first|(go_at_call 234;refine k.mono ?_;rintro e a5 ⟨rfl,z⟩;rw[z])|(go_at_call 235;refine v.mono ?_;rintro e an ⟨rfl,s,o⟩));rw[E.out.2];have u:=g.2.trans o;refine(Ez a.heap.size a.heap.size r (ug c) an s (by rw[a2,uL,E.out.1];omega) u.size).mono ?_;rintro e ao ⟨rfl,H,ad⟩;have av:Hid (Bu a.heap.size a.heap.size (ug (b+c)) ao/\B0 a.heap.size a ao):=⟨by rw[Ja,q.out];exact H,u.trans ad⟩;clear s o H ad u;go_wp21
   go_roundg (m+2-(b+c))
   case measure=>omega
   case rel=>exact⟨b+c,by omega,by omega,av⟩
theorem Lv(n:Nat)(w:Ax)(a:n<=200):
  A9 O 186 #[Br ⟨#[116,97,114,103,101,116,32]⟩,A0 A2 (n:Int)] w fun e w'=>e= U (Br ⟨(Cb [116,97,114,103,101,116,32] n).toArray⟩)/\B0 w.heap.size w w':=by
 match n,a with
 |0,_=>
  go_in;go_wp2_with fail;go_ret;exact⟨rfl,ah _ _⟩
 |1,_=>
  go_in;go_wp2_with fail;go_ret;exact⟨rfl,ah _ _⟩
 |m+2,a=>exact Jb m w a
