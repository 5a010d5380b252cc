import Derived.Test.YtcbmoiabehpliaaGreatDoorProg
set_option linter.unusedVariables false
set_option maxRecDepth 100000
namespace Go.Proofs.YtcbmoiabehpliaaGreatDoor
def dM(t:Int):Bool:=decide (t=25\/t=50\/t=62\/t=69)
def cu(t:Int):Bool:=decide (t=10\/t=26\/60<t)
def aZ(t:Int):Bool:=decide (t=1\/t=2\/t=3\/t=4\/t=24\/t=29\/t=17\/t=49\/t=18\/t=40\/t=42)||dM t
def cC(t:Int):List Int×Bool:=if t=22 then([t,1,104,103],true) else if t=13 then([t,1,47,119],true) else if t=18 then([t,1,133],true) else if t=20 then([t,119,132,105],true) else if t=31 then([t,119,132],true) else if t=19 then([t,1,106],true) else if t=11 then([t],true) else if t=23 then([t],true) else if t=27 then([t,108],true) else if t=30 then([t,132,12,1,109,132],true) else if t=28 then([t,119],true) else if t=14 then([t,116],true) else if t=42 then([132],true) else if t=1 then([t,110],true) else if t=40 then([t,119,41,112],true) else([],false)
def fy(t a c:Int):List Int:=if t=48 then [t,1,a] else if t=44 then [t,119,45,a] else if t=40 then [t,123,41,c] else []
def tq(t:Int):List Int×Bool:=if dM t=true then([t,120],true) else if t=1 then([t,122],true) else if t=40 then([t,119,41,122],true) else if t=42 then([t,129,43],true) else if t=18 then([t,133],true) else([t],aZ t)
def yV(t:Int):List Int×Bool:=if t=5 then([t,100],true) else if(cC t).2=true then((cC t).1++[101],true) else([],true)
def DP(t:Int):List Int×Bool:=if t=5 then([t,100],true) else([],true)
def II(t:Int):List Int×Bool:=([40,126,41,132],decide (t=40))
def DR(t:Int):List Int×Bool:=if t=47 then([t,124],true) else([],true)
def DS(t:Int):List Int×Bool:=if t=46 then([t,1,104],true) else([],true)
def Aw(t:Int):List Int×Bool:=if t=15 then([t,119,132,105],true) else if t=16 then([t,132],true) else([],true)
def DT(t:Int):List Int×Bool:=if t=47 then([t,119,46,119,107,132],true) else([104,21,119,132],decide (t=46\/t=21))
def DU(t:Int):List Int×Bool:=if t=46 then([t,119],true) else([],true)
def DV(t:Int):List Int×Bool:=if aZ t=true then([124],true) else([],true)
def DW(t:Int):List Int×Bool:=if t=46 then([t,1],true) else([],true)
def Ay(t:Int):List Int×Bool:=if t=48 then([t,1,110],true) else if t=44 then([t,119,45,110],true) else if t=40 then([t,123,41,111],true) else if t=46 then([t,113],true) else if t=47 then([t,124],true) else([],false)
def Gk(t:Int):List Int×Bool:=if t=48 then([t,1,110],true) else if t=44 then([t,119,45,110],true) else if t=40 then([t,123,41,111],true) else([],true)
def Gl(t:Int):List Int×Bool:=if t=48 then([t,1,110],true) else if t=44 then([t,119,45,110],true) else if t=40 then([t,123,41,111],true) else([],false)
def Az(t:Int):List Int×Bool:=if t=1 then([t,114],true) else if t=40 then([t,119,41,115],true) else([],false)
def AB(t:Int):List Int×Bool:=if t=48 then([t,1,114],true) else if t=44 then([t,119,45,114],true) else if t=40 then([t,123,41,115],true) else if t=46 then([t,113],true) else if t=47 then([t,124],true) else([],false)
def Gm(t:Int):List Int×Bool:=if t=48 then([t,1,114],true) else if t=44 then([t,119,45,114],true) else if t=40 then([t,123,41,115],true) else([],false)
def AC(t:Int):List Int×Bool:=if t=1 then([t,117],true) else if t=40 then([t,119,41,117],true) else([],false)
def Gn(t:Int):List Int×Bool:=if t=48 then([t,1,117],true) else if t=44 then([t,119,45,117],true) else if t=40 then([t,123,41,118],true) else([],false)
def Gq(t:Int):List Int×Bool:=if t=48 then([t,1,117],true) else if t=44 then([t,119,45,117],true) else if t=40 then([t,123,41,118],true) else([],true)
def DX(t:Int):List Int×Bool:=([120,121],aZ t)
def IJ(t:Int):List Int×Bool:=tq t
def DY(t:Int):List Int×Bool:=if cu t=true then([t,119],true) else([],true)
def DZ(t:Int):List Int×Bool:=(fy t 122 122,true)
def D0(t:Int):List Int×Bool:=if aZ t=true then([124],true) else([],true)
def Gr(t:Int):List Int×Bool:=([119,125],aZ t)
def D1(t:Int):List Int×Bool:=if t=46 then([t,119,125],true) else([],true)
def AD(t:Int):List Int×Bool:=if t=1 then([t,127],true) else if t=49 then([t],true) else([],true)
def D2(t:Int):List Int×Bool:=if t=46 then([t,128],true) else([],true)
def AE(t:Int):List Int×Bool:=if t=1 then([t,127],true) else if t=49 then([t],true) else([],false)
def D3(t:Int):List Int×Bool:=if aZ t=true then([131,130],true) else if t=48 then([131,130],true) else if t=44 then([131,130],true) else([],true)
def D4(t:Int):List Int×Bool:=if t=46 then([t,129],true) else([],true)
def AF(t:Int):List Int×Bool:=if t=48 then([t,1,47,119],true) else if t=44 then([t,119,45,47,119],true) else([119],aZ t)
def AG(t:Int):List Int×Bool:=([42,100,43],decide (t=42))
def D5(t:Int):List Int×Bool:=([40,126,41,132],decide (t=40))
def xE(s t:Int):List Int×Bool:=
 if s=100 then yV t else if s=101 then DP t else if s=102 then II t else if s=103 then DR t else if s=104 then DS t else if s=105 then Aw t else if s=106 then DT t else if s=107 then DU t else if s=108 then DV t else if s=109 then DW t else if s=110 then Ay t else if s=111 then Gk t else if s=112 then Gl t else if s=113 then Az t else if s=114 then AB t else if s=115 then Gm t else if s=116 then AC t else if s=117 then Gn t else if s=118 then Gq t else if s=119 then DX t else if s=120 then IJ t else if s=121 then DY t else if s=122 then DZ t else if s=123 then D0 t else if s=124 then Gr t else if s=125 then D1 t else if s=126 then AD t else if s=127 then D2 t else if s=128 then AE t else if s=129 then D3 t else if s=130 then D4 t else if s=131 then AF t else if s=132 then AG t else D5 t
def bp:Nat->List Int->Int->Nat->Option (List Int×Option Bool×Nat)
 |0,_,_,_=>none
 |_+1,[],_,n=>some ([],none,n)
 |f+1,s::r,t,n=>if s<100 then some (r,some (decide (s=t)),n) else if(xE s t).2=true then bp f ((xE s t).1++r) t (n+(xE s t).1.length) else some (r,some false,n)
def feedL:List Int->Int->List Int×Bool
 |[],_=>([],false)
 |s::r,t=>if s<100 then(r,decide (s=t)) else if(xE s t).1=[]/\(xE s t).2=true then feedL r t else match bp 8 [s] t 0 with|some (lo,some b,_)=>(lo++r,b)|_=>([],false)
def D6(s t:Int):Bool:=
 (xE s t).1.all (fun b=>decide (b<=133))&&(decide ((xE s t).1.length<=7)&&
 (if(xE s t).1=[]/\(xE s t).2=true then true else match bp 8 [s] t 0 with|some (_,some _,a)=>decide (a<=20)|_=>false))
theorem D7:((List.range 34).all fun s=>(List.range 78).all fun t=>D6 ((s:Int)+100) ((t:Int)+1))=true:=by decide+kernel
theorem AH{s t:Int}(g:100<=s)(h:s<=133)(f:1<=t)(e:t<=78):D6 s t=true:=by
 have c:=List.all_eq_true.1 D7 (s-100).toNat (by rw[List.mem_range];omega);have a:=List.all_eq_true.1 c (t-1).toNat (by rw[List.mem_range];omega);have b:(((s-100).toNat:Nat):Int)+100=s:=by omega
 have d:(((t-1).toNat:Nat):Int)+1=t:=by omega
 rw[b,d]at a;exact a
theorem xH{s t:Int}(d:100<=s)(e:s<=133)(c:1<=t)(b:t<=78):(∀x∈(xE s t).1,x<=133)/\(xE s t).1.length<=7:=by
 have a:=AH d e c b;unfold D6 at a;rw[Bool.and_eq_true,Bool.and_eq_true]at a;exact⟨fun x f=>of_decide_eq_true (List.all_eq_true.1 a.1 x f),of_decide_eq_true a.2.1⟩
theorem ij{s t:Int}(f:100<=s)(i:s<=133)(e:1<=t)(d:t<=78)(g:¬((xE s t).1=[]/\(xE s t).2=true)):∃lo b n,bp 8 [s] t 0=some (lo,some b,n)/\n<=20:=by
 have a:=AH f i e d;unfold D6 at a;rw[Bool.and_eq_true,Bool.and_eq_true,if_neg g]at a;have c:=a.2.2;split at c
 ·rename_i lo b n h;exact⟨lo,b,n,h,of_decide_eq_true c⟩
 ·cases c
theorem dB{s t:Int}{r:List Int}(b:100<=s)(a:(xE s t).1=[]/\(xE s t).2=true):feedL (s::r) t=feedL r t:=by
 rw[feedL,if_neg (by omega),if_pos a]
theorem dC{s t:Int}{r lo:List Int}{b:Bool}{n:Nat}(d:100<=s)(a:¬((xE s t).1=[]/\(xE s t).2=true))(c:bp 8 [s] t 0=some (lo,some b,n)):feedL (s::r) t=(lo++r,b):=by
 rw[feedL,if_neg (by omega),if_neg a,c]
theorem cD{s t:Int}{r:List Int}(a:s<100):feedL (s::r) t=(r,decide (s=t)):=by
 rw[feedL,if_pos a]
theorem dg{s t:Int}{r lo:List Int}{b:Option Bool}{f n m:Nat}(h:bp (f+1) (s::r) t n=some (lo,b,m))(c:100<=s):((xE s t).2=true/\bp f ((xE s t).1++r) t (n+(xE s t).1.length)=some (lo,b,m))\/((xE s t).2=false/\lo=r/\b=some false/\m=n):=by
 rw[bp,if_neg (by omega)]at h;split at h
 ·rename_i a;exact .inl ⟨a,h⟩
 ·rename_i a;simp only[Option.some.injEq,Prod.mk.injEq]at h;exact .inr ⟨by simpa using a,h.1.symm,h.2.1.symm,h.2.2.symm⟩
theorem fW{s t:Int}{r lo:List Int}{b:Option Bool}{f n m:Nat}(h:bp (f+1) (s::r) t n=some (lo,b,m))(a:s<100):lo=r/\b=some (decide (s=t))/\m=n:=by
 rw[bp,if_pos a]at h;simp only[Option.some.injEq,Prod.mk.injEq]at h;exact⟨h.1.symm,h.2.1.symm,h.2.2.symm⟩
def mR(st:List Int):Prop:=∀a∈st,a<=133
theorem xI:∀{f:Nat}{st:List Int}{t:Int}{n:Nat}{lo:List Int}{b:Option Bool}{m:Nat},mR st->1<=t->t<=78->bp f st t n=some (lo,b,m)->mR lo
 |0,_,_,_,_,_,_,_,_,_,h=>by simp[bp]at h
 |f+1,[],t,n,lo,b,m,a,_,_,h=>by
  simp only[bp,Option.some.injEq,Prod.mk.injEq]at h;rw[<-h.1];exact a
 |f+1,s::r,t,n,lo,b,m,a,i,g,h=>by
  have d:mR r:=fun c hx=>a c (List.mem_cons_of_mem _ hx);by_cases j:s<100
  ·rw[(fW h j).1];exact d
  ·rcases dg h (by omega) with⟨_,e⟩|⟨_,e,_⟩
   ·refine xI (fun c hx=>?_) i g e;rcases List.mem_append.1 hx with hx|hx
    ·exact(xH (by omega) (a s (List.mem_cons_self ..)) i g).1 c hx
    ·exact d c hx
   ·rw[e];exact d
theorem jV:∀{st:List Int}{t:Int},mR st->1<=t->t<=78->mR (feedL st t).1
 |[],t,a,_,_=>by rw[feedL];exact a
 |s::r,t,a,f,d=>by
  have e:mR r:=fun b hx=>a b (List.mem_cons_of_mem _ hx);by_cases i:s<100
  ·rw[cD i];exact e
  ·have h:=a s (List.mem_cons_self ..);by_cases c:(xE s t).1=[]/\(xE s t).2=true
   ·rw[dB (by omega) c];exact jV e f d
   ·obtain⟨m,n,k,g,_⟩:=ij (by omega) h f d c;rw[dC (by omega) c g];intro b hx;rcases List.mem_append.1 hx with hx|hx
    ·refine xI (st:=[s]) ?_ f d g b hx;intro l j;obtain rfl:=List.mem_singleton.1 j;exact h
    ·exact e b hx
def dW(a b:Int):List (List Int):=[[48,1,a],[44,117,45,a],[40,111,41,b]]
def dl(a:Int):List (List Int):=
 if a=100 then [[5,100],[102,101],[]]
 else if a=101 then [[5,100],[]]
 else if a=102 then [[22,1,109,103],[13,1,47,117],[18,1,113],[20,117,108,107],[31,117,108],[19,1,104],[11],[23],[27,111],[30,108,12,1,106,108],[28,117],[14,131],[108],[1,125],[40,117,41,127]]
 else if a=103 then [[47,110],[]]
 else if a=104 then [[47,117,46,117,105,108],[21,117,108],[46,1,109,21,117,108]]
 else if a=105 then [[46,117],[]]
 else if a=106 then [[46,1],[]]
 else if a=107 then [[15,117,108,107],[16,108],[]]
 else if a=108 then [[42,100,43]]
 else if a=109 then [[46,1,109],[]]
 else if a=110 then [[117,112]]
 else if a=111 then [[117,112],[]]
 else if a=112 then [[46,117,112],[]]
 else if a=113 then [[40,114,41,108]]
 else if a=114 then [[115],[]]
 else if a=115 then [[49],[1,116]]
 else if a=116 then [[46,115],[]]
 else if a=117 then [[118,119]]
 else if a=118 then [[25,118],[62,118],[50,118],[69,118],[1,120],[40,117,41,120],[2],[3],[4],[24],[29],[17],[49],[18,113],[121]]
 else if a=119 then []::([26,10,73,74,75,76,77,78,72,68,69,67,70,71,61,62,63,64,65,66].map fun b=>[b,118,119])
 else if a=120 then dW 120 120++[[]]
 else if a=121 then [[42,122,43]]
 else if a=122 then [[124,123],[]]
 else if a=123 then [[46,122],[]]
 else if a=124 then [[117],[44,117,45,47,117],[48,1,47,117]]
 else if a=125 then dW 125 126++[[46,128],[47,110]]
 else if a=126 then dW 125 126++[[]]
 else if a=127 then dW 125 126
 else if a=128 then [[1,129],[40,117,41,130]]
 else if a=129 then dW 129 130++[[46,128],[47,110]]
 else if a=130 then dW 129 130
 else if a=131 then [[1,132],[40,117,41,132]]
 else if a=132 then dW 132 133
 else if a=133 then dW 132 133++[[]]
 else []
def lW:Nat->Int->Int->Bool
 |0,_,_=>false
 |f+1,a,t=>if a<100 then decide (a=t) else(dl a).any fun r=>match r with|[]=>false|h::_=>lW f h t
def KB(t:Int)(r:List Int):Bool:=match r with|[]=>false|h::_=>lW 8 h t
def qW(a t:Int):List Int:=((dl a).find? (KB t)).getD []
def tr(a:Int):Bool:=(dl a).contains []
def ce:List Int->Int->Bool
 |[],_=>false
 |a::r,t=>if lW 9 a t=true then true else if tr a=true then ce r t else false
def dm:Nat->List Int->Int->Option (List Int)
 |0,_,_=>none
 |_+1,[],_=>none
 |f+1,a::r,t=>if a=t then some r else dm f (qW a t++r) t
def xJ(a:Int):List Int:=
 if a=104 then [106] else if a=105 then [107] else if a=106 then [109] else if a=107 then [105] else if a=108 then [132] else if a=109 then [104] else if a=110 then [120,121,125] else if a=111 then [123] else if a=112 then [125]
 else if a=113 then [133] else if a=114 then [126] else if a=115 then [128] else if a=116 then [127] else if a=117 then [120,121] else if a=118 then [120] else if a=119 then [121] else if a=120 then [122] else if a=122 then [129] else if a=123 then [130] else if a=124 then [131]
 else if a=125 then [110] else if a=126 then [111] else if a=127 then [112] else if a=128 then [113] else if a=129 then [114] else if a=130 then [115] else if a=131 then [116] else if a=132 then [117] else if a=133 then [118] else [a]
def yW(s:Int):List Int:=if s=119 then [120,121] else if s=124 then [120,121,125] else if s=108 then [123] else [s]
def bI(st:List Int):List Int:=st.flatMap yW
def gT(st:List Int):List Int:=st.flatMap xJ
def FE(a:Int):Bool:=decide (1<=a/\a<=133/\a≠102/\a≠121)
theorem fX(a b:List Int):bI (a++b)=bI a++bI b:=by simp[bI]
theorem AI(a b:List Int):gT (a++b)=gT a++gT b:=by simp[gT]
theorem lh:∀{f g:Nat}{st:List Int}{t:Int}{n:Nat}{X:List Int×Option Bool×Nat},bp f st t n=some X->f<=g->bp g st t n=some X
 |0,_,_,_,_,_,h,_=>by simp[bp]at h
 |f+1,0,_,_,_,_,_,c=>by omega
 |f+1,g+1,[],t,n,X,h,c=>by rw[bp]at h⊢;exact h
 |f+1,g+1,s::r,t,n,X,h,c=>by
  rw[bp]at h⊢;split
  ·rename_i b;rw[if_pos b]at h;exact h
  ·rename_i b;rw[if_neg b]at h;split
   ·rename_i a;rw[if_pos a]at h;exact lh h (by omega)
   ·rename_i a;rw[if_neg a]at h;exact h
theorem tu:∀{f:Nat}{a c:List Int}{t:Int}{n:Nat}{lo:List Int}{b:Bool}{m:Nat},bp f a t n=some (lo,some b,m)->bp f (a++c) t n=some (lo++c,some b,m)
 |0,_,_,_,_,_,_,_,h=>by simp[bp]at h
 |f+1,[],_,t,n,lo,b,m,h=>by simp[bp]at h
 |f+1,s::r,c,t,n,lo,b,m,h=>by
  rw[List.cons_append];rw[bp]at h⊢;split
  ·rename_i e;rw[if_pos e]at h;simp only[Option.some.injEq,Prod.mk.injEq]at h;rw[<-h.1,<-h.2.1,<-h.2.2]
  ·rename_i e;rw[if_neg e]at h;split
   ·rename_i d;rw[if_pos d]at h;rw[<-List.append_assoc];exact tu h
   ·rename_i d;rw[if_neg d]at h;simp only[Option.some.injEq,Prod.mk.injEq]at h;rw[<-h.1,<-h.2.1,<-h.2.2]
theorem ew:∀{f:Nat}{st:List Int}{t:Int}{n:Nat}{lo:List Int}{a:Option Bool}{m:Nat},mR st->1<=t->t<=78->bp f st t n=some (lo,a,m)->∀r,(∀b,a=some b->feedL (st++r) t=(lo++r,b))/\(a=none->feedL (st++r) t=feedL r t)
 |0,_,_,_,_,_,_,_,_,_,h,_=>by simp[bp]at h
 |f+1,[],t,n,lo,a,m,u,q,o,h,r=>by
  simp only[bp,Option.some.injEq,Prod.mk.injEq]at h;obtain⟨rfl,rfl,rfl⟩:=h;exact⟨fun b h=>(by cases h),fun _=>rfl⟩
 |f+1,e::j,t,n,lo,a,m,u,q,o,h,r=>by
  have H:=u e (List.mem_cons_self ..);have C:mR j:=fun J I=>u J (List.mem_cons_of_mem _ I);rw[List.cons_append];by_cases z:e<100
  ·obtain⟨rfl,rfl,rfl⟩:=fW h z;refine⟨fun b x=>?_,fun h=>by cases h⟩;rw[cD z,<-Option.some.inj x]
  ·by_cases i:(xE e t).1=[]/\(xE e t).2=true
   ·rcases dg h (by omega) with⟨_,d⟩|⟨d,_⟩
    ·rw[i.1,List.nil_append]at d;have w:=ew C q o d r;rw[dB (by omega) i];exact w
    ·rw[i.2]at d;cases d
   ·obtain⟨E,F,k,y,_⟩:=ij (by omega) H q o i;rw[dC (by omega) i y];have s:∃g,bp 8 (e::j) t n=some (E++j,some F,g):=by
     have A:∀{f:Nat}{st:List Int}{k n2 p:Nat}{lo:List Int}{a:Option Bool},bp f st t k=some (lo,a,p)->∃g,bp f st t n2=some (lo,a,g):=by
      intro f
      induction f with
      |zero=>intro st k n2 p lo a h;simp[bp]at h
      |succ f w=>
       intro st k n2 p lo a h;cases st with
       |nil=>
        simp only[bp,Option.some.injEq,Prod.mk.injEq]at h⊢;exact⟨n2,h.1,h.2.1,rfl⟩
       |cons e r=>
        rw[bp]at h⊢;split
        ·rename_i v;rw[if_pos v]at h;simp only[Option.some.injEq,Prod.mk.injEq]at h⊢;exact⟨n2,h.1,h.2.1,rfl⟩
        ·rename_i v;rw[if_neg v]at h;split
         ·rename_i d;rw[if_pos d]at h;exact w h
         ·rename_i d;rw[if_neg d]at h;simp only[Option.some.injEq,Prod.mk.injEq]at h⊢;exact⟨n2,h.1,h.2.1,rfl⟩
     obtain⟨g,G⟩:=A (n2:=n) y;exact⟨g,by have:=tu (c:=j) G;simpa using this⟩
    obtain⟨g,s⟩:=s;have B:=lh h (show f+1<=f+9 by omega);have l:=lh s (show 8<=f+9 by omega);rw[B]at l;simp only[Option.some.injEq,Prod.mk.injEq]at l;obtain⟨rfl,rfl,_⟩:=l;refine⟨fun b x=>?_,fun h=>by cases h⟩;rw[Option.some.inj x,List.append_assoc]
def Gs(s t:Int):Bool:=match bp 12 [s] t 0,bp 12 (yW s) t 0 with
 |some (c,some a,_),some (b,some d,_)=>a==d&&(!a||decide (bI c=bI b))
 |some (_,none,_),some (_,none,_)=>true
 |_,_=>false
theorem AJ:((List.range 34).all fun s=>(List.range 78).all fun t=>Gs ((s:Int)+100) ((t:Int)+1))=true:=by decide+kernel
def AK(a t:Int):Bool:=
 if lW 9 a t=true then(match dm 9 [a] t,bp 12 (xJ a) t 0 with
  |some b,some (c,some true,_)=>b.all FE&&decide (bI c=gT b)
  |_,_=>false)
 else if tr a=true then(qW a t).isEmpty&&(match bp 12 (xJ a) t 0 with|some (_,none,_)=>true|_=>false)
 else(match bp 12 (xJ a) t 0 with|some (_,some false,_)=>true|_=>false)
theorem AL:((List.range 133).all fun a=>!(FE ((a:Int)+1))||(List.range 78).all fun t=>AK ((a:Int)+1) ((t:Int)+1))=true:=by decide+kernel
theorem D8{s t:Int}(g:100<=s)(h:s<=133)(f:1<=t)(e:t<=78):Gs s t=true:=by
 have c:=List.all_eq_true.1 AJ (s-100).toNat (by rw[List.mem_range];omega);have a:=List.all_eq_true.1 c (t-1).toNat (by rw[List.mem_range];omega);have b:(((s-100).toNat:Nat):Int)+100=s:=by omega
 have d:(((t-1).toNat:Nat):Int)+1=t:=by omega
 rw[b,d]at a;exact a
theorem xK{a t:Int}(c:FE a=true)(h:1<=t)(g:t<=78):AK a t=true:=by
 have i:=of_decide_eq_true c;have b:=List.all_eq_true.1 AL (a-1).toNat (by rw[List.mem_range];omega);have e:(((a-1).toNat:Nat):Int)+1=a:=by omega
 rw[e,c]at b;have d:=List.all_eq_true.1 (by simpa using b:((List.range 78).all fun t=>AK a ((t:Int)+1))=true) (t-1).toNat (by rw[List.mem_range];omega);have f:(((t-1).toNat:Nat):Int)+1=t:=by omega
 rw[f]at d;exact d
theorem AM{s:Int}(h:s<=133):mR (yW s):=by
 unfold yW;intro b a;split at a
 ·simp at a;omega
 split at a
 ·simp at a;omega
 split at a
 ·simp at a;omega
 ·simp at a;omega
theorem yX(s:Int):bI (yW s)=yW s:=by
 unfold yW;split
 ·decide
 split
 ·decide
 split
 ·decide
 ·rename_i b a c;simp[bI,yW,b,a,c]
theorem ik:∀st:List Int,bI (bI st)=bI st
 |[]=>rfl
 |s::r=>by
  show bI (yW s++bI r)=yW s++bI r;rw[fX,yX,ik r]
theorem vS(s:Int)(r:List Int):bI (s::r)=yW s++bI r:=rfl
theorem qs(s:Int)(r:List Int):gT (s::r)=xJ s++gT r:=rfl
theorem jx:∀{st:List Int}{t:Int},mR st->1<=t->t<=78->(feedL (bI st) t).2=(feedL st t).2/\((feedL st t).2=true->bI (feedL (bI st) t).1=bI (feedL st t).1)
 |[],t,i,_,_=>⟨rfl,fun _=>rfl⟩
 |s::r,t,i,a,c=>by
  have e:=i s (List.mem_cons_self ..);have v:mR r:=fun u l=>i u (List.mem_cons_of_mem _ l);rw[vS];by_cases n:s<100
  ·have w:yW s=[s]:=by unfold yW;rw[if_neg (by omega),if_neg (by omega),if_neg (by omega)]
   rw[w,List.singleton_append,cD n,cD n];exact⟨rfl,fun _=>ik r⟩
  ·have b:=D8 (by omega) e a c;unfold Gs at b;have o:mR [s]:=fun u l=>by obtain rfl:=List.mem_singleton.1 l;exact e
   split at b
   ·rename_i m p y j q z g h;have d:=(ew o a c g r).1 p rfl;have k:=(ew (AM e) a c h (bI r)).1 q rfl;rw[List.singleton_append]at d;rw[d,k];rw[Bool.and_eq_true]at b;have f:p=q:=by simpa using b.1
    subst f;refine⟨rfl,fun f=>?_⟩;simp only at f;subst f;have x:bI m=bI j:=by simpa using b.2
    show bI (j++bI r)=bI (m++r);rw[fX,fX,ik,x]
   ·rename_i m y j z g h;have d:=(ew o a c g r).2 rfl;have k:=(ew (AM e) a c h (bI r)).2 rfl;rw[List.singleton_append]at d;rw[d,k];exact jx v a c
   ·cases b
def FG(st:List Int):Prop:=∀a∈st,FE a=true
theorem D9:((List.range 133).all fun a=>!(FE ((a:Int)+1))||((xJ ((a:Int)+1)).all (fun x=>decide (x<=133))&&decide (bI (xJ ((a:Int)+1))=xJ ((a:Int)+1))))=true:=by decide+kernel
theorem AN{a:Int}(c:FE a=true):mR (xJ a)/\bI (xJ a)=xJ a:=by
 have g:=of_decide_eq_true c;have b:=List.all_eq_true.1 D9 (a-1).toNat (by rw[List.mem_range];omega);have d:(((a-1).toNat:Nat):Int)+1=a:=by omega
 rw[d,c,Bool.not_true,Bool.false_or,Bool.and_eq_true]at b;exact⟨fun f e=>of_decide_eq_true (List.all_eq_true.1 b.1 f e),of_decide_eq_true b.2⟩
theorem Gt{a:Int}(h:FE a=true):mR (xJ a):=(AN h).1
theorem yY{a:Int}(h:FE a=true):bI (xJ a)=xJ a:=(AN h).2
theorem nJ:∀{st:List Int},FG st->bI (gT st)=gT st
 |[],_=>rfl
 |a::r,h=>by
  rw[qs,fX,yY (h a (List.mem_cons_self ..)),nJ (fun c b=>h c (List.mem_cons_of_mem _ b))]
theorem li:∀{f:Nat}{a c lo:List Int}{t:Int},dm f a t=some lo->dm f (a++c) t=some (lo++c)
 |0,_,_,_,_,h=>by simp[dm]at h
 |f+1,[],_,_,_,h=>by simp[dm]at h
 |f+1,a::r,c,lo,t,h=>by
  rw[List.cons_append];rw[dm]at h⊢;split
  ·rename_i b;rw[if_pos b]at h;rw[<-Option.some.inj h]
  ·rename_i b;rw[if_neg b]at h;rw[<-List.append_assoc];exact li h
theorem nO:∀{f g:Nat}{st lo:List Int}{t:Int},dm f st t=some lo->f<=g->dm g st t=some lo
 |0,_,_,_,_,h,_=>by simp[dm]at h
 |f+1,0,_,_,_,_,c=>by omega
 |f+1,g+1,[],_,_,h,_=>by simp[dm]at h
 |f+1,g+1,a::r,lo,t,h,c=>by
  rw[dm]at h⊢;split
  ·rename_i b;rw[if_pos b]at h;exact h
  ·rename_i b;rw[if_neg b]at h;exact nO h (by omega)
theorem lj:∀{st:List Int}{t:Int},FG st->1<=t->t<=78->ce st t=(feedL (gT st) t).2/\(ce st t=true->∃g,dm (st.length+9) st t=some g/\FG g/\bI (feedL (gT st) t).1=gT g)
 |[],t,n,_,_=>⟨rfl,fun h=>by simp[ce]at h⟩
 |a::r,t,n,d,f=>by
  have m:=n a (List.mem_cons_self ..);have l:FG r:=fun k hx=>n k (List.mem_cons_of_mem _ hx);have b:=xK m d f;have o:=Gt m;rw[qs,ce];unfold AK at b;by_cases p:lW 9 a t=true
  ·rw[if_pos p]at b⊢;split at b
   ·rename_i j A u v e;have i:=(ew o d f e (gT r)).1 true rfl;rw[i];rw[Bool.and_eq_true]at b;have B:=of_decide_eq_true b.2;refine⟨rfl,fun _=>⟨j++r,?_,?_,?_⟩⟩
    ·exact nO (li (c:=r) v) (by omega)
    ·intro k hx;rcases List.mem_append.1 hx with hx|hx
     ·exact List.all_eq_true.1 b.1 k hx
     ·exact l k hx
    ·show bI (A++gT r)=gT (j++r);rw[fX,AI,B]
     congr 1
     exact nJ l
   ·cases b
  ·rw[if_neg p]at b⊢;by_cases s:tr a=true
   ·rw[if_pos s]at b⊢;rw[Bool.and_eq_true]at b;have q:=b.2;split at q
    ·rename_i j u e;have i:=(ew o d f e (gT r)).2 rfl;rw[i];obtain⟨x,w⟩:=lj l d f;refine⟨x,fun h=>?_⟩;obtain⟨g,C,p2,y⟩:=w h;refine⟨g,?_,p2,y⟩;have E:¬a=t:=fun z=>by
      subst z;have G:=of_decide_eq_true m;have:lW 9 a a=true:=by rw[lW,if_pos (by omega)];exact decide_eq_true rfl
      exact p this
     have F:qW a t=[]:=by simpa using b.1
     rw[show(a::r).length+9=(r.length+9)+1 from Nat.add_right_comm r.length 1 9,dm,if_neg E,F,List.nil_append];exact C
    ·cases q
   ·rw[if_neg s]at b⊢;split at b
    ·rename_i j u e;have i:=(ew o d f e (gT r)).1 false rfl;rw[i];exact⟨rfl,fun h=>by cases h⟩
    ·cases b
structure pH (st stk:List Int):Prop where
 o1:FG st
 o2:mR stk
 eq:bI stk=gT st
theorem pH.may{st a:List Int}(h:pH st a){t:Int}(b:1<=t)(c:t<=78):ce st t=(feedL a t).2:=by
 rw[(lj h.o1 b c).1,<-h.eq];exact(jx h.o2 b c).1
theorem pH.pass{st d:List Int}(h:pH st d){t:Int}(c:1<=t)(a:t<=78)(e:ce st t=true):∃b,dm (st.length+9) st t=some b/\pH b (feedL d t).1:=by
 obtain⟨b,g,p2,f⟩:=(lj h.o1 c a).2 e;refine⟨b,g,p2,jV h.o2 c a,?_⟩;rw[<-f,<-h.eq];exact((jx h.o2 c a).2 (by rw[<-h.may c a];exact e)).symm
theorem yZ:pH [100,6] [100,6]:=⟨by unfold FG;decide,by unfold mR;decide,by decide⟩
def N23(st:List Int):Prop:=∀a∈st,a≠2/\a≠3
def KC(s t:Int):Bool:=match bp 8 [s] t 0 with|some (b,_,_)=>b.all (fun a=>decide (a≠2/\a≠3))|none=>true
theorem Ea:((List.range 34).all fun s=>(List.range 78).all fun t=>KC ((s:Int)+100) ((t:Int)+1))=true:=by decide+kernel
def KD(s:Int):Bool:=decide (((xE s 2).1=[]/\(xE s 2).2=true)↔((xE s 3).1=[]/\(xE s 3).2=true))&&match bp 8 [s] 2 0,bp 8 [s] 3 0 with|some (_,some a,_),some (_,some b,_)=>a==b|_,_=>true
theorem Eb:((List.range 34).all fun s=>KD ((s:Int)+100))=true:=by decide+kernel
theorem vT{t:Int}(g:1<=t)(e:t<=78):∀(st:List Int),mR st->N23 st->N23 (feedL st t).1
 |[],_,h=>by rw[feedL];exact h
 |s::r,o,h=>by
  have d:N23 r:=fun a hx=>h a (List.mem_cons_of_mem _ hx);have j:=o s List.mem_cons_self;by_cases i:s<100
  ·rw[cD i];exact d
  by_cases c:(xE s t).1=[]/\(xE s t).2=true
  ·rw[dB (by omega) c];exact vT g e r (fun a hx=>o a (List.mem_cons_of_mem _ hx)) d
  ·obtain⟨l,m,k,f,_⟩:=ij (by omega) j g e c;have b:=List.all_eq_true.1 (List.all_eq_true.1 Ea (s-100).toNat (by rw[List.mem_range];omega)) (t-1).toNat (by rw[List.mem_range];omega);rw[show(((s-100).toNat:Nat):Int)+100=s by omega,show(((t-1).toNat:Nat):Int)+1=t by omega]at b;unfold KC at b;rw[dC (by omega) c f];rw[f]at b;intro a hx;rcases List.mem_append.1 hx with hx|hx
   ·exact of_decide_eq_true (List.all_eq_true.1 b a hx)
   ·exact d a hx
theorem FH:∀(st:List Int),mR st->N23 st->(feedL st 2).2=(feedL st 3).2
 |[],_,h=>by rw[feedL,feedL]
 |s::r,o,h=>by
  have k:=o s List.mem_cons_self;by_cases g:s<100
  ·have:=h s List.mem_cons_self;rw[cD g,cD g,decide_eq_false this.1,decide_eq_false this.2]
  have b:=List.all_eq_true.1 Eb (s-100).toNat (by rw[List.mem_range];omega);rw[show(((s-100).toNat:Nat):Int)+100=s by omega]at b;unfold KD at b;rw[Bool.and_eq_true]at b;have c:=of_decide_eq_true b.1;by_cases a:(xE s 2).1=[]/\(xE s 2).2=true
  ·rw[dB (by omega) a,dB (by omega) (c.1 a)];exact FH r (fun f e=>o f (List.mem_cons_of_mem _ e)) (fun f e=>h f (List.mem_cons_of_mem _ e))
  ·obtain⟨v,n,u,j,_⟩:=ij (by omega) k (by omega) (by omega) a;obtain⟨q,p,m,l,_⟩:=ij (t:=3) (by omega) k (by omega) (by omega) (fun d=>a (c.2 d));rw[dC (by omega) a j,dC (by omega) (fun d=>a (c.2 d)) l];have i:=b.2;rw[j,l]at i;exact beq_iff_eq.1 i
end Go.Proofs.YtcbmoiabehpliaaGreatDoor
