import Derived.Test.YtbkolnpplhbdmaaGreatDoorHPl03
import Derived.Deep.Strs
import Derived.OpenShut
import Derived.Test.YtbkolnpplhbdmaaGreatDoorHPl10
set_option linter.all false
set_option maxRecDepth 100000
set_option maxHeartbeats 6400000
open Bool renaming true->M,false->V
open Option renaming some->O,none->Ax
open Go.World renaming putObj_heap_other->U
open List renaming range->Z
open Go renaming Value->Ad,World->Ak,Program->A2,KeepsFrom->A5,TypeId->Bc
open Go.Value renaming int->A0,string->A9,slice->Bk
open Go.IntKind renaming i64->A1
open Go.Fence renaming wide->A3
namespace Go.Proofs.YtbkolnpplhbdmaaGreatDoor
variable{B l n:Nat}{K:Act->World->Prop}{Q:Exit->Act->World->Prop}{S:World->Prop}{W W' w:World}{a:Act}{c:List Nat}{lo r:List Int}{md:Region.Mode}{ops:Array Oper}{s t:Int}
def jE(t:Int):Bool:=decide (t=25\/t=50\/t=62\/t=69)
def gG(t:Int):Bool:=decide (t=10\/t=26\/60<t)
def eE(t:Int):Bool:=decide (t=1\/t=2\/t=3\/t=4\/t=24\/t=29\/t=17\/t=49\/t=18\/t=40\/t=42)||jE t
def DH(t:Int):List Int×Bool:=if t=22 then([t,1,104,103],M) else if t=13 then([t,1,47,119],M) else if t=18 then([t,1,133],M) else if t=20 then([t,119,132,105],M) else if t=31 then([t,119,132],M) else if t=19 then([t,1,106],M) else if t=11 then([t],M) else if t=23 then([t],M) else if t=27 then([t,108],M) else if t=30 then([t,132,12,1,109,132],M) else if t=28 then([t,119],M) else if t=14 then([t,116],M) else if t=42 then([132],M) else if t=1 then([t,110],M) else if t=40 then([t,119,41,112],M) else([],V)
def If(t a c:Int):List Int:=if t=48 then [t,1,a] else if t=44 then [t,119,45,a] else if t=40 then [t,123,41,c] else []
def DI(t:Int):List Int×Bool:=if jE t=M then([t,120],M) else if t=1 then([t,122],M) else if t=40 then([t,119,41,122],M) else if t=42 then([t,129,43],M) else if t=18 then([t,133],M) else([t],eE t)
def ann(t:Int):List Int×Bool:=if t=5 then([t,100],M) else if(DH t).2=M then((DH t).1++[101],M) else([],M)
def aqa(t:Int):List Int×Bool:=if t=5 then([t,100],M) else([],M)
def aqb(t:Int):List Int×Bool:=([40,126,41,132],decide (t=40))
def ano(t:Int):List Int×Bool:=if t=47 then([t,124],M) else([],M)
def anp(t:Int):List Int×Bool:=if t=46 then([t,1,104],M) else([],M)
def anq(t:Int):List Int×Bool:=if t=15 then([t,119,132,105],M) else if t=16 then([t,132],M) else([],M)
def aqc(t:Int):List Int×Bool:=if t=47 then([t,119,46,119,107,132],M) else([104,21,119,132],decide (t=46\/t=21))
def aqd(t:Int):List Int×Bool:=if t=46 then([t,119],M) else([],M)
def aj2(t:Int):List Int×Bool:=if eE t=M then([124],M) else([],M)
def aqe(t:Int):List Int×Bool:=if t=46 then([t,1],M) else([],M)
def aqf(t:Int):List Int×Bool:=if t=48 then([t,1,110],M) else if t=44 then([t,119,45,110],M) else if t=40 then([t,123,41,111],M) else if t=46 then([t,113],M) else if t=47 then([t,124],M) else([],V)
def aqg(t:Int):List Int×Bool:=if t=48 then([t,1,110],M) else if t=44 then([t,119,45,110],M) else if t=40 then([t,123,41,111],M) else([],M)
def aqh(t:Int):List Int×Bool:=if t=48 then([t,1,110],M) else if t=44 then([t,119,45,110],M) else if t=40 then([t,123,41,111],M) else([],V)
def aqi(t:Int):List Int×Bool:=if t=1 then([t,114],M) else if t=40 then([t,119,41,115],M) else([],V)
def aqj(t:Int):List Int×Bool:=if t=48 then([t,1,114],M) else if t=44 then([t,119,45,114],M) else if t=40 then([t,123,41,115],M) else if t=46 then([t,113],M) else if t=47 then([t,124],M) else([],V)
def aqk(t:Int):List Int×Bool:=if t=48 then([t,1,114],M) else if t=44 then([t,119,45,114],M) else if t=40 then([t,123,41,115],M) else([],V)
def aql(t:Int):List Int×Bool:=if t=1 then([t,117],M) else if t=40 then([t,119,41,117],M) else([],V)
def aqm(t:Int):List Int×Bool:=if t=48 then([t,1,117],M) else if t=44 then([t,119,45,117],M) else if t=40 then([t,123,41,118],M) else([],V)
def aqn(t:Int):List Int×Bool:=if t=48 then([t,1,117],M) else if t=44 then([t,119,45,117],M) else if t=40 then([t,123,41,118],M) else([],M)
def anr(t:Int):List Int×Bool:=([120,121],eE t)
def aqo(t:Int):List Int×Bool:=DI t
def aj3(t:Int):List Int×Bool:=if gG t=M then([t,119],M) else([],M)
def ant(t:Int):List Int×Bool:=(If t 122 122,M)
def anu(t:Int):List Int×Bool:=if eE t=M then([124],M) else([],M)
def anv(t:Int):List Int×Bool:=([119,125],eE t)
def anw(t:Int):List Int×Bool:=if t=46 then([t,119,125],M) else([],M)
def aqp(t:Int):List Int×Bool:=if t=1 then([t,127],M) else if t=49 then([t],M) else([],M)
def aqq(t:Int):List Int×Bool:=if t=46 then([t,128],M) else([],M)
def aqr(t:Int):List Int×Bool:=if t=1 then([t,127],M) else if t=49 then([t],M) else([],V)
def anx(t:Int):List Int×Bool:=if eE t=M then([131,130],M) else if t=48 then([131,130],M) else if t=44 then([131,130],M) else([],M)
def aqs(t:Int):List Int×Bool:=if t=46 then([t,129],M) else([],M)
def anz(t:Int):List Int×Bool:=if t=48 then([t,1,47,119],M) else if t=44 then([t,119,45,47,119],M) else([119],eE t)
def aqt(t:Int):List Int×Bool:=([42,100,43],decide (t=42))
def aqu(t:Int):List Int×Bool:=([40,126,41,132],decide (t=40))
def xE(s t:Int):List Int×Bool:=
 if s=100 then ann t else if s=101 then aqa t else if s=102 then aqb t else if s=103 then ano t else if s=104 then anp t else if s=105 then anq t else if s=106 then aqc t else if s=107 then aqd t else if s=108 then aj2 t else if s=109 then aqe t else if s=110 then aqf t else if s=111 then aqg t else if s=112 then aqh t else if s=113 then aqi t else if s=114 then aqj t else if s=115 then aqk t else if s=116 then aql t else if s=117 then aqm t else if s=118 then aqn t else if s=119 then anr t else if s=120 then aqo t else if s=121 then aj3 t else if s=122 then ant t else if s=123 then anu t else if s=124 then anv t else if s=125 then anw t else if s=126 then aqp t else if s=127 then aqq t else if s=128 then aqr t else if s=129 then anx t else if s=130 then aqs t else if s=131 then anz t else if s=132 then aqt t else aqu t
def gB:Nat->List Int->Int->Nat->Option (List Int×Option Bool×Nat)
 |0,_,_,_=>Ax
 |_+1,[],_,n=>O ([],Ax,n)
 |f+1,s::r,t,n=>if s<100 then O (r,O (decide (s=t)),n) else if(xE s t).2=M then gB f ((xE s t).1++r) t (n+(xE s t).1.length) else O (r,O V,n)
def dm:List Int->Int->List Int×Bool
 |[],_=>([],V)
 |s::r,t=>if s<100 then(r,decide (s=t)) else if(xE s t).1=[]/\(xE s t).2=M then dm r t else match gB 8 [s] t 0 with|some (lo,some b,_)=>(lo++r,b)|_=>([],V)
def aj4(s t:Int):Bool:=
 (xE s t).1.all (λa=>decide (a<=133))&&(decide ((xE s t).1.length<=7)&&
 (if(xE s t).1=[]/\(xE s t).2=M then M else match gB 8 [s] t 0 with|some (_,some _,n)=>decide (n<=20)|_=>V))
def aj5:((Z 34).all λs=>(Z 78).all λt=>aj4 ((s:Int)+100) ((t:Int)+1))=M:=by decide+kernel
def agp(e:100<=s)(f:s<=133)(g:1<=t)(h:t<=78):aj4 s t=M:=by
 have d:=List.all_eq_true.1 aj5 (s-100).toNat (by rw[ng];omega);have a:=List.all_eq_true.1 d (t-1).toNat (by rw[ng];omega);have b:(((s-100).toNat:Nat):Int)+100=s:=by omega
 have c:(((t-1).toNat:Nat):Int)+1=t:=by omega
 rw[b,c]at a;exact a
def acx(b:100<=s)(c:s<=133)(e:1<=t)(f:t<=78):(∀x∈(xE s t).1,x<=133)/\(xE s t).1.length<=7:=by
 have a:=agp b c e f;unfold aj4 at a;rw[bB,bB]at a;exact⟨λx d=>aB (List.all_eq_true.1 a.1 x d),aB a.2.1⟩
def Ah(e:100<=s)(f:s<=133)(h:1<=t)(i:t<=78)(g:¬((xE s t).1=[]/\(xE s t).2=M)):∃lo b n,gB 8 [s] t 0=O (lo,O b,n)/\n<=20:=by
 have a:=agp e f h i;unfold aj4 at a;rw[bB,bB,aa g]at a;have c:=a.2.2;split at c
 .rename_i lo b n d;exact⟨lo,b,n,d,aB c⟩
 .cases c
def qe(b:100<=s)(a:(xE s t).1=[]/\(xE s t).2=M):dm (s::r) t=dm r t:=by
 rw[dm,aa (by omega),ab a]
def qg{b:Bool}(d:100<=s)(a:¬((xE s t).1=[]/\(xE s t).2=M))(c:gB 8 [s] t 0=O (lo,O b,n)):dm (s::r) t=(lo++r,b):=by
 rw[dm,aa (by omega),aa a,c]
def lI(a:s<100):dm (s::r) t=(r,decide (s=t)):=by
 rw[dm,ab a]
def lJ{b:Option Bool}{f m:Nat}(h:gB (f+1) (s::r) t n=O (lo,b,m))(c:100<=s):((xE s t).2=M/\gB f ((xE s t).1++r) t (n+(xE s t).1.length)=O (lo,b,m))\/((xE s t).2=V/\lo=r/\b=O V/\m=n):=by
 rw[gB,aa (by omega)]at h;split at h
 .rename_i a;exact .inl ⟨a,h⟩
 .rename_i a;simp only[fw,jo]at h;exact .inr ⟨by simpa using a,h.1.symm,h.2.1.symm,h.2.2.symm⟩
def sf{b:Option Bool}{f m:Nat}(h:gB (f+1) (s::r) t n=O (lo,b,m))(a:s<100):lo=r/\b=O (decide (s=t))/\m=n:=by
 rw[gB,ab a]at h;simp only[fw,jo]at h;exact⟨h.1.symm,h.2.1.symm,h.2.2.symm⟩
def yG(st:List Int):Prop:=∀a∈st,a<=133
def acy:∀{f:Nat}{st:List Int}{t:Int}{n:Nat}{lo:List Int}{b:Option Bool}{m:Nat},yG st->1<=t->t<=78->gB f st t n=O (lo,b,m)->yG lo
 |0,_,_,_,_,_,_,_,_,_,h=>by simp[gB]at h
 |f+1,[],t,n,lo,b,m,a,_,_,h=>by
  simp only[gB,fw,jo]at h;rw[<-h.1];exact a
 |f+1,s::r,t,n,lo,b,m,a,g,i,h=>by
  have e:yG r:=λc hx=>a c (cG _ hx);by_cases j:s<100
  .rw[(sf h j).1];exact e
  .rcases lJ h (by omega) with⟨_,d⟩|⟨_,d,_⟩
   .refine acy (λc hx=>?_) g i d;rcases List.mem_append.1 hx with hx|hx
    .exact(acx (by omega) (a s (aI ..)) g i).1 c hx
    .exact e c hx
   .rw[d];exact e
def si:∀{st:List Int}{t:Int},yG st->1<=t->t<=78->yG (dm st t).1
 |[],t,a,_,_=>by rw[dm];exact a
 |s::r,t,a,e,f=>by
  have d:yG r:=λb hx=>a b (cG _ hx);by_cases i:s<100
  .rw[lI i];exact d
  .have h:=a s (aI ..);by_cases c:(xE s t).1=[]/\(xE s t).2=M
   .rw[qe (by omega) c];exact si d e f
   .have⟨l,k,m,g,_⟩:=Ah (by omega) h e f c;rw[qg (by omega) c g];intro b hx;rcases List.mem_append.1 hx with hx|hx
    .refine acy (st:=[s]) ?_ e f g b hx;intro n j;obtain rfl:=List.mem_singleton.1 j;exact h
    .exact d b hx
def oh(a b:Int):List (List Int):=[[48,1,a],[44,117,45,a],[40,111,41,b]]
def mu(a:Int):List (List Int):=
 if a=100 then [[5,100],[102,101],[]]
 else if a=101 then [[5,100],[]]
 else if a=102 then [[22,1,109,103],[13,1,47,117],[18,1,113],[20,117,108,107],[31,117,108],[19,1,104],[11],[23],[27,111],[30,108,12,1,106,108],[28,117],[14,131],[108],[1,125],[40,117,41,127]]
 else if a=103 then [[47,110],[]]
 else if a=104 then [[47,117,46,117,105,108],[21,117,108],[46,1,109,21,117,108]]
 else if a=105 then [[46,117],[]]
 else if a=106 then [[46,1],[]]
 else if a=107 then [[15,117,108,107],[16,108],[]]
 else if a=108 then [[42,100,43]]
 else if a=109 then [[46,1,109],[]]
 else if a=110 then [[117,112]]
 else if a=111 then [[117,112],[]]
 else if a=112 then [[46,117,112],[]]
 else if a=113 then [[40,114,41,108]]
 else if a=114 then [[115],[]]
 else if a=115 then [[49],[1,116]]
 else if a=116 then [[46,115],[]]
 else if a=117 then [[118,119]]
 else if a=118 then [[25,118],[62,118],[50,118],[69,118],[1,120],[40,117,41,120],[2],[3],[4],[24],[29],[17],[49],[18,113],[121]]
 else if a=119 then []::([26,10,73,74,75,76,77,78,72,68,69,67,70,71,61,62,63,64,65,66].map λb=>[b,118,119])
 else if a=120 then oh 120 120++[[]]
 else if a=121 then [[42,122,43]]
 else if a=122 then [[124,123],[]]
 else if a=123 then [[46,122],[]]
 else if a=124 then [[117],[44,117,45,47,117],[48,1,47,117]]
 else if a=125 then oh 125 126++[[46,128],[47,110]]
 else if a=126 then oh 125 126++[[]]
 else if a=127 then oh 125 126
 else if a=128 then [[1,129],[40,117,41,130]]
 else if a=129 then oh 129 130++[[46,128],[47,110]]
 else if a=130 then oh 129 130
 else if a=131 then [[1,132],[40,117,41,132]]
 else if a=132 then oh 132 133
 else if a=133 then oh 132 133++[[]]
 else []
def Bi:Nat->Int->Int->Bool
 |0,_,_=>V
 |f+1,a,t=>if a<100 then decide (a=t) else(mu a).any λr=>match r with|[]=>V|h::_=>Bi f h t
def hdI(t:Int)(r:List Int):Bool:=match r with|[]=>V|h::_=>Bi 8 h t
def Ig(a t:Int):List Int:=((mu a).find? (hdI t)).getD []
def Ku(a:Int):Bool:=(mu a).contains []
def uj:List Int->Int->Bool
 |[],_=>V
 |a::r,t=>if Bi 9 a t=M then M else if Ku a=M then uj r t else V
def mw:Nat->List Int->Int->Option (List Int)
 |0,_,_=>Ax
 |_+1,[],_=>Ax
 |f+1,a::r,t=>if a=t then O r else mw f (Ig a t++r) t
def phi(a:Int):List Int:=
 if a=104 then [106] else if a=105 then [107] else if a=106 then [109] else if a=107 then [105] else if a=108 then [132] else if a=109 then [104] else if a=110 then [120,121,125] else if a=111 then [123] else if a=112 then [125]
 else if a=113 then [133] else if a=114 then [126] else if a=115 then [128] else if a=116 then [127] else if a=117 then [120,121] else if a=118 then [120] else if a=119 then [121] else if a=120 then [122] else if a=122 then [129] else if a=123 then [130] else if a=124 then [131]
 else if a=125 then [110] else if a=126 then [111] else if a=127 then [112] else if a=128 then [113] else if a=129 then [114] else if a=130 then [115] else if a=131 then [116] else if a=132 then [117] else if a=133 then [118] else [a]
def psi(s:Int):List Int:=if s=119 then [120,121] else if s=124 then [120,121,125] else if s=108 then [123] else [s]
def ik(st:List Int):List Int:=st.flatMap psi
def uk(st:List Int):List Int:=st.flatMap phi
def okI(a:Int):Bool:=decide (1<=a/\a<=133/\a≠102/\a≠121)
def sj(a b:List Int):ik (a++b)=ik a++ik b:=by simp[ik]
def agq(a b:List Int):uk (a++b)=uk a++uk b:=by simp[uk]
def Ai:∀{f g:Nat}{st:List Int}{t:Int}{n:Nat}{X:List Int×Option Bool×Nat},gB f st t n=O X->f<=g->gB g st t n=O X
 |0,_,_,_,_,_,h,_=>by simp[gB]at h
 |f+1,0,_,_,_,_,_,c=>by omega
 |f+1,g+1,[],t,n,X,h,c=>by rw[gB]at h⊢;exact h
 |f+1,g+1,s::r,t,n,X,h,c=>by
  rw[gB]at h⊢;split
  .rename_i a;rw[ab a]at h;exact h
  .rename_i a;rw[aa a]at h;split
   .rename_i b;rw[ab b]at h;exact Ai h (by omega)
   .rename_i b;rw[aa b]at h;exact h
def Kv:∀{f:Nat}{a c:List Int}{t:Int}{n:Nat}{lo:List Int}{b:Bool}{m:Nat},gB f a t n=O (lo,O b,m)->gB f (a++c) t n=O (lo++c,O b,m)
 |0,_,_,_,_,_,_,_,h=>by simp[gB]at h
 |f+1,[],_,t,n,lo,b,m,h=>by simp[gB]at h
 |f+1,s::r,c,t,n,lo,b,m,h=>by
  rw[dJ];rw[gB]at h⊢;split
  .rename_i d;rw[ab d]at h;simp only[fw,jo]at h;rw[<-h.1,<-h.2.1,<-h.2.2]
  .rename_i d;rw[aa d]at h;split
   .rename_i e;rw[ab e]at h;rw[<-bC];exact Kv h
   .rename_i e;rw[aa e]at h;simp only[fw,jo]at h;rw[<-h.1,<-h.2.1,<-h.2.2]
def oF:∀{f:Nat}{st:List Int}{t:Int}{n:Nat}{lo:List Int}{a:Option Bool}{m:Nat},yG st->1<=t->t<=78->gB f st t n=O (lo,a,m)->∀r,(∀b,a=O b->dm (st++r) t=(lo++r,b))/\(a=Ax->dm (st++r) t=dm r t)
 |0,_,_,_,_,_,_,_,_,_,h,_=>by simp[gB]at h
 |f+1,[],t,n,lo,a,m,s,w,x,h,r=>by
  simp only[gB,fw,jo]at h;obtain⟨rfl,rfl,rfl⟩:=h;exact⟨λb h=>(by cases h),λ_=>rfl⟩
 |f+1,g::k,t,n,lo,a,m,s,w,x,h,r=>by
  have F:=s g (aI ..);have G:yG k:=λJ H=>s J (cG _ H);rw[dJ];by_cases z:g<100
  .obtain⟨rfl,rfl,rfl⟩:=sf h z;refine⟨λb q=>?_,λh=>by cases h⟩;rw[lI z,<-aJ q]
  .by_cases i:(xE g t).1=[]/\(xE g t).2=M
   .rcases lJ h (by omega) with⟨_,d⟩|⟨d,_⟩
    .rw[i.1,dI]at d;have u:=oF G w x d r;rw[qe (by omega) i];exact u
    .rw[i.2]at d;cases d
   .have⟨I,B,j,y,_⟩:=Ah (by omega) F w x i;rw[qg (by omega) i y];have l:∃e,gB 8 (g::k) t n=O (I++k,O B,e):=by
     have A:∀{f:Nat}{st:List Int}{j n2 v:Nat}{lo:List Int}{a:Option Bool},gB f st t j=O (lo,a,v)->∃e,gB f st t n2=O (lo,a,e):=by
      intro f
      induction f with
      |zero=>intro st j n2 v lo a h;simp[gB]at h
      |succ f u=>
       intro st j n2 v lo a h;cases st with
       |nil=>
        simp only[gB,fw,jo]at h⊢;exact⟨n2,h.1,h.2.1,rfl⟩
       |cons g r=>
        rw[gB]at h⊢;split
        .rename_i p;rw[ab p]at h;simp only[fw,jo]at h⊢;exact⟨n2,h.1,h.2.1,rfl⟩
        .rename_i p;rw[aa p]at h;split
         .rename_i d;rw[ab d]at h;exact u h
         .rename_i d;rw[aa d]at h;simp only[fw,jo]at h⊢;exact⟨n2,h.1,h.2.1,rfl⟩
     have⟨e,C⟩:=A (n2:=n) y;exact⟨e,by have:=Kv (c:=k) C;simpa using this⟩
    obtain⟨e,l⟩:=l;have E:=Ai h (show f+1<=f+9 by omega);have o:=Ai l (show 8<=f+9 by omega);rw[E]at o;simp only[fw,jo]at o;obtain⟨rfl,rfl,_⟩:=o;refine⟨λb q=>?_,λh=>by cases h⟩;rw[aJ q,bC]
def anA(s t:Int):Bool:=match gB 12 [s] t 0,gB 12 (psi s) t 0 with
 |some (lo,some a,_),some (c,some b,_)=>a==b&&(!a||decide (ik lo=ik c))
 |some (_,none,_),some (_,none,_)=>M
 |_,_=>V
def agr:((Z 34).all λs=>(Z 78).all λt=>anA ((s:Int)+100) ((t:Int)+1))=M:=by decide+kernel
def ags(a t:Int):Bool:=
 if Bi 9 a t=M then(match mw 9 [a] t,gB 12 (phi a) t 0 with
  |some lo,some (b,some true,_)=>lo.all okI&&decide (ik b=uk lo)
  |_,_=>V)
 else if Ku a=M then(Ig a t).isEmpty&&(match gB 12 (phi a) t 0 with|some (_,none,_)=>M|_=>V)
 else(match gB 12 (phi a) t 0 with|some (_,some false,_)=>M|_=>V)
def agt:((Z 133).all λa=>!(okI ((a:Int)+1))||(Z 78).all λt=>ags ((a:Int)+1) ((t:Int)+1))=M:=by decide+kernel
def aj6(e:100<=s)(f:s<=133)(g:1<=t)(h:t<=78):anA s t=M:=by
 have d:=List.all_eq_true.1 agr (s-100).toNat (by rw[ng];omega);have a:=List.all_eq_true.1 d (t-1).toNat (by rw[ng];omega);have b:(((s-100).toNat:Nat):Int)+100=s:=by omega
 have c:(((t-1).toNat:Nat):Int)+1=t:=by omega
 rw[b,c]at a;exact a
def acz{a:Int}(d:okI a=M)(h:1<=t)(i:t<=78):ags a t=M:=by
 have g:=aB d;have b:=List.all_eq_true.1 agt (a-1).toNat (by rw[ng];omega);have e:(((a-1).toNat:Nat):Int)+1=a:=by omega
 rw[e,d]at b;have c:=List.all_eq_true.1 (by simpa using b:((Z 78).all λt=>ags a ((t:Int)+1))=M) (t-1).toNat (by rw[ng];omega);have f:(((t-1).toNat:Nat):Int)+1=t:=by omega
 rw[f]at c;exact c
def agu(h:s<=133):yG (psi s):=by
 unfold psi;intro b a;split at a
 .simp at a;omega
 split at a
 .simp at a;omega
 split at a
 .simp at a;omega
 .simp at a;omega
def aeE(s:Int):ik (psi s)=psi s:=by
 unfold psi;split
 .decide
 split
 .decide
 split
 .decide
 .rename_i a b c;simp[ik,psi,a,b,c]
def uC:∀st:List Int,ik (ik st)=ik st
 |[]=>rfl
 |s::r=>by
  show ik (psi s++ik r)=psi s++ik r;rw[sj,aeE,uC r]
def aa0(s:Int)(r:List Int):ik (s::r)=psi s++ik r:=rfl
def Gy(s:Int)(r:List Int):uk (s::r)=phi s++uk r:=rfl
def xw:∀{st:List Int}{t:Int},yG st->1<=t->t<=78->(dm (ik st) t).2=(dm st t).2/\((dm st t).2=M->ik (dm (ik st) t).1=ik (dm st t).1)
 |[],t,j,_,_=>⟨rfl,λ_=>rfl⟩
 |s::r,t,j,b,c=>by
  have f:=j s (aI ..);have x:yG r:=λu k=>j u (cG _ k);rw[aa0];by_cases p:s<100
  .have v:psi s=[s]:=by unfold psi;rw[aa (by omega),aa (by omega),aa (by omega)]
   rw[v,sG,lI p,lI p];exact⟨rfl,λ_=>uC r⟩
  .have a:=aj6 (by omega) f b c;unfold anA at a;have q:yG [s]:=λu k=>by obtain rfl:=List.mem_singleton.1 k;exact f
   split at a
   .rename_i l n y m o z g h;have d:=(oF q b c g r).1 n rfl;have i:=(oF (agu f) b c h (ik r)).1 o rfl;rw[sG]at d;rw[d,i];rw[bB]at a;have e:n=o:=by simpa using a.1
    subst e;refine⟨rfl,λe=>?_⟩;simp only at e;subst e;have w:ik l=ik m:=by simpa using a.2
    show ik (m++ik r)=ik (l++r);rw[sj,sj,uC,w]
   .rename_i l y m z g h;have d:=(oF q b c g r).2 rfl;have i:=(oF (agu f) b c h (ik r)).2 rfl;rw[sG]at d;rw[d,i];exact xw x b c
   .cases a
def OkI(st:List Int):Prop:=∀a∈st,okI a=M
def aj7:((Z 133).all λa=>!(okI ((a:Int)+1))||((phi ((a:Int)+1)).all (λx=>decide (x<=133))&&decide (ik (phi ((a:Int)+1))=phi ((a:Int)+1))))=M:=by decide+kernel
def agv{a:Int}(c:okI a=M):yG (phi a)/\ik (phi a)=phi a:=by
 have g:=aB c;have b:=List.all_eq_true.1 aj7 (a-1).toNat (by rw[ng];omega);have d:(((a-1).toNat:Nat):Int)+1=a:=by omega
 rw[d,c,Bool.not_true,ym,bB]at b;exact⟨λf e=>aB (List.all_eq_true.1 b.1 f e),aB b.2⟩
def anB{a:Int}(h:okI a=M):yG (phi a):=(agv h).1
def aeF{a:Int}(h:okI a=M):ik (phi a)=phi a:=(agv h).2
def DJ:∀{st:List Int},OkI st->ik (uk st)=uk st
 |[],_=>rfl
 |a::r,h=>by
  rw[Gy,sj,aeF (h a (aI ..)),DJ (λc b=>h c (cG _ b))]
def Aj:∀{f:Nat}{a c lo:List Int}{t:Int},mw f a t=O lo->mw f (a++c) t=O (lo++c)
 |0,_,_,_,_,h=>by simp[mw]at h
 |f+1,[],_,_,_,h=>by simp[mw]at h
 |f+1,a::r,c,lo,t,h=>by
  rw[dJ];rw[mw]at h⊢;split
  .rename_i b;rw[ab b]at h;rw[<-aJ h]
  .rename_i b;rw[aa b]at h;rw[<-bC];exact Aj h
def DK:∀{f g:Nat}{st lo:List Int}{t:Int},mw f st t=O lo->f<=g->mw g st t=O lo
 |0,_,_,_,_,h,_=>by simp[mw]at h
 |f+1,0,_,_,_,_,c=>by omega
 |f+1,g+1,[],_,_,h,_=>by simp[mw]at h
 |f+1,g+1,a::r,lo,t,h,c=>by
  rw[mw]at h⊢;split
  .rename_i b;rw[ab b]at h;exact h
  .rename_i b;rw[aa b]at h;exact DK h (by omega)
def Al:∀{st:List Int}{t:Int},OkI st->1<=t->t<=78->uj st t=(dm (uk st) t).2/\(uj st t=M->∃f,mw (st.length+9) st t=O f/\OkI f/\ik (dm (uk st) t).1=uk f)
 |[],t,m,_,_=>⟨rfl,λh=>by simp[uj]at h⟩
 |a::r,t,m,g,i=>by
  have p:=m a (aI ..);have o:OkI r:=λk hx=>m k (cG _ hx);have b:=acz p g i;have n:=anB p;rw[Gy,uj];unfold ags at b;by_cases l:Bi 9 a t=M
  .rw[ab l]at b⊢;split at b
   .rename_i j C u w d;have e:=(oF n g i d (uk r)).1 M rfl;rw[e];rw[bB]at b;have A:=aB b.2;refine⟨rfl,λ_=>⟨j++r,?_,?_,?_⟩⟩
    .exact DK (Aj (c:=r) w) (by omega)
    .intro k hx;rcases List.mem_append.1 hx with hx|hx
     .exact List.all_eq_true.1 b.1 k hx
     .exact o k hx
    .show ik (C++uk r)=uk (j++r);rw[sj,agq,A]
     congr 1
     exact DJ o
   .cases b
  .rw[aa l]at b⊢;by_cases s:Ku a=M
   .rw[ab s]at b⊢;rw[bB]at b;have q:=b.2;split at q
    .rename_i j u d;have e:=(oF n g i d (uk r)).2 rfl;rw[e];have⟨x,y⟩:=Al o g i;refine⟨x,λh=>?_⟩;have⟨f,E,p2,F⟩:=y h;refine⟨f,?_,p2,F⟩;have z:¬a=t:=λv=>by
      subst v;have:Bi 9 a a=M:=by rw[Bi,ab (by omega)];exact be rfl
      exact l this
     have B:Ig a t=[]:=by simpa using b.1
     rw[show(a::r).length+9=(r.length+9)+1 from Nat.add_right_comm r.length 1 9,mw,aa z,B,dI];exact E
    .cases q
   .rw[aa s]at b⊢;split at b
    .rename_i j u d;have e:=(oF n g i d (uk r)).1 V rfl;rw[e];exact⟨rfl,λh=>by cases h⟩
    .cases b
structure Sim (st stk:List Int):Prop where
 o1:OkI st
 o2:yG stk
 eq:ik stk=uk st
def Sim.may{st a:List Int}(h:Sim st a)(b:1<=t)(c:t<=78):uj st t=(dm a t).2:=by
 rw[(Al h.o1 b c).1,<-h.eq];exact(xw h.o2 b c).1
def Sim.pass{st e:List Int}(h:Sim st e)(b:1<=t)(c:t<=78)(d:uj st t=M):∃a,mw (st.length+9) st t=O a/\Sim a (dm e t).1:=by
 have⟨a,f,p2,g⟩:=(Al h.o1 b c).2 d;refine⟨a,f,p2,si h.o2 b c,?_⟩;rw[<-g,<-h.eq];exact((xw h.o2 b c).2 (by rw[<-h.may b c];exact d)).symm
def aeG:Sim [100,6] [100,6]:=⟨by unfold OkI;decide,by unfold yG;decide,by decide⟩
open Go.ChangeShapes Go.WideShapes Go.ChangeAt Go.WideMaps Go.WideElems Go.RowKit Go.Deep
structure ami (N:Nd):Prop where
 k: -9223372036854775808<=N.k/\N.k<=9223372036854775807
 f: -9223372036854775808<=N.f/\N.f<=9223372036854775807
 t: -9223372036854775808<=N.t/\N.t<=9223372036854775807
 l: -9223372036854775808<=N.l/\N.l<=9223372036854775807
 op: -9223372036854775808<=N.op/\N.op<=9223372036854775807
 n: -9223372036854775808<=N.n/\N.n<=9223372036854775807
 ks:∀z∈N.ks, -9223372036854775808<=z/\z<=9223372036854775807
end Go.Proofs.YtbkolnpplhbdmaaGreatDoor
namespace Go.Proofs.YtbkolnpplhbdmaaGreatDoor
open Go.RowKit
variable{B l n:Nat}{K:Act->World->Prop}{Q:Exit->Act->World->Prop}{S:World->Prop}{W W' w:World}{a:Act}{c:List Nat}{lo r:List Int}{md:Region.Mode}{ops:Array Oper}{s t:Int}
def agw(B:Nat)(W:Ak)(a X:Ak->Prop):Exit->Act->Ak->Prop
 | .normal,_,W'=>A5 B W W'/\a W'
 | .ret,_,W'=>A5 B W W'/\X W'
 |_,_,_=>False
def wh{P:A2}{g:Operand}{ps:Array Tmp}{assign body:Go.Code}{gf:Nat}{lb:Array Ad}
  (a7:a.eval g= .func (.func gf) #[] lb) (ao:∀args w,(callFunc gf args).run P w= .ok (.enter gf args) w) (enc:Nat->Array Ad) (ba:∀x,(enc x).size=ps.size) (u:Nat)
  (f:Nat->Ak->Prop) (y:Nat->Act->Ak->Prop) (X:Ak->Prop)
  (an:∀m W r o,f m W->W.heap[w.heap.size+1]?=O (.loop r)->f m (W.putObj (w.heap.size+1) o))
  (bh:∀m c W r o,y m c W->W.heap[w.heap.size+1]?=O (.loop r)->y m c (W.putObj (w.heap.size+1) o)) (al:∀W r o,X W->W.heap[w.heap.size+1]?=O (.loop r)->X (W.putObj (w.heap.size+1) o))
  (ap:∀b,cg w b->b.heap.size=w.heap.size+2->f u b)
  (aK:∀(l m:Nat) W (K:Act->Ak->Prop),m<u->f (m+1) W->(∀c W',y m c W'->A5 w.heap.size W W'->K c W')->
   assign.wpIn (Fence.wide.inRound l) (n-1-1) P (Exit.then K (λ_ _ _=>False)) {tmps:=(ps.zip (enc m)).foldl (λt (p,v)=>t.setIfInBounds p v) a.tmps,defers:=[]} W)
  (a1:∀(l m:Nat) c W,m<u->y m c W->body.wpIn (Fence.wide.inRound l) (n-1-1) P (agw w.heap.size W (f m) X) c W)
  (bf:∀(l:Nat)(j:Nat->Ak->Prop)(I:Ak->Prop),(∀m W,j m W->f m W)->
   (∀m W,m<u->j (m+1) W->YieldAt A3 (n-1-1) P l (enc m) W λe W'=>(e= .returned (.bool M)/\j m W')\/(e= .returned (.bool V)/\I W'))->
   ∀W,j u W->CallsIn A3 (n-1) P gf (#[.func (.yield l) #[] #[]]++lb) W λe W'=>(∃v,e= .returned v)/\(j 0 W'\/I W'))
  (a5:∀W,f 0 W->W.heap[w.heap.size]?=O (.deferred (O []))->Q .normal {a with defers:={target:= .collected w.heap.size,args:=#[]}::a.defers} W)
  (bb:∀W,X W->W.heap[w.heap.size]?=O (.deferred (O []))->Q .ret {a with defers:={target:= .collected w.heap.size,args:=#[]}::a.defers} W):
  (Go.Code.rangeFunc g ps assign body).wpIn A3 n P Q a w:=by
 refine wpIn_rangeFunc ?_;intro fn a6;show ∃l bw bx br bA bs args bD,(Instr.enterLoop fn a.tmps ps assign body Ax).run P w=_/\_;obtain⟨rc,d⟩:∃rc:LoopState->Option Go.Code->Loop,rc=λbk bj=>{state:=bk,pending:=bj,fn,tmps:=a.tmps,params:=ps,assign,body,defers:=w.heap.size}:=⟨_,rfl⟩;have C:=run_enterLoop_outer (P:=P) (w:=w) fn a.tmps ps assign body;rw[show({state:= .ready,pending:=Ax,fn,tmps:=a.tmps,params:=ps,assign,body,defers:=w.heap.size}:Loop)=rc .ready Ax by rw[d]]at C;have⟨b,k⟩:=aC ((w.alloc (.deferred (O []))).alloc (.loop (rc .ready Ax)));rw[k]at C;have a8:b.heap[w.heap.size+1]?=O (.loop (rc .ready Ax)):=by
  rw[<-k];have:=World.alloc_heap_new (w.alloc (.deferred (O []))) (.loop (rc .ready Ax));rwa [fe]at this
 have a2:b.heap[w.heap.size]?=O (.deferred (O [])):=by
  rw[<-k];exact(eI _ _ _ (by simp)).trans (World.alloc_heap_new w _)
 have a0:cg w b:=by rw[<-k];exact((ah _ w).alloc (ag _) _).alloc (by simp) _
 have bd:b.heap.size=w.heap.size+2:=by rw[<-k];simp
 refine⟨w.heap.size+1,[{target:= .collected w.heap.size,args:=#[]}],b,{target:= .fn (.func gf) lb,args:=#[.func (.yield (w.heap.size+1)) #[] #[]]},b,gf,
  #[.func (.yield (w.heap.size+1)) #[] #[]]++lb,b,C,?_,?_,?_,λz=>by simp[A3]at z,?_⟩
 .simp only[resolve,a7];simp[go_sem]
 .intro bt bv;trivial
 .simp[invoke,go_sem,ao]
 .refine(bf (w.heap.size+1) (λm W=>f m W/\W.heap[w.heap.size+1]?=O (.loop (rc .ready Ax))/\W.heap[w.heap.size]?=O (.deferred (O [])))
   (λW=>X W/\W.heap[w.heap.size+1]?=O (.loop (rc .done (O .ret)))/\W.heap[w.heap.size]?=O (.deferred (O []))) (λ_ _ z=>z.1) ?_ b ⟨ap b a0 bd,a8,a2⟩).mono ?_
  .rintro m W af ⟨A,h,q⟩;have ak:=run_yield (P:=P) (args:=enc m) h (by rw[d];exact ba m);rw[d]at ak;refine⟨fn,_,assign,body,ak,roundIn_of_wpIn a6 (aK _ m W _ af A λc W' ar L=>?_)⟩;have E:=L.same _ _ (by omega) h rfl;have a4:=L.same _ _ (ag _) q rfl;have a9:w.heap.size+1<W'.heap.size:=(Array.getElem?_eq_some_iff.1 E).1;refine⟨_,run_beginRound E (by rw[d]),?_⟩;have ad:(W'.putObj (w.heap.size+1) (.loop {rc .ready Ax with state:= .busy})).heap[w.heap.size+1]?=O (.loop {rc .ready Ax with state:= .busy}):=World.putObj_heap_same a9;have J:(W'.putObj (w.heap.size+1) (.loop {rc .ready Ax with state:= .busy})).heap[w.heap.size]?=O (.deferred (O [])):=(U (by omega)).trans a4;refine wpIn_mono (a1 _ m c _ af (bh _ _ _ _ _ ar E)) ?_;rintro e bo bn G;cases e with
   |normal=>
    obtain⟨s,H⟩:=G;have i:=s.same _ _ (by omega) ad rfl;have B:=s.same _ _ (ag _) J rfl;have F:=(Array.getElem?_eq_some_iff.1 i).1;refine⟨_,_,run_endRound (P:=P) Ax i,.inl ⟨rfl,an _ _ _ _ H i,?_,(U (by omega)).trans B⟩⟩;rw[World.putObj_heap_same F];simp[d]
   |ret=>
    obtain⟨s,H⟩:=G;have i:=s.same _ _ (by omega) ad rfl;have B:=s.same _ _ (ag _) J rfl;have F:=(Array.getElem?_eq_some_iff.1 i).1;refine⟨_,_,run_endRound (P:=P) (O .ret) i,.inr ⟨rfl,al _ _ _ H i,?_,(U (by omega)).trans B⟩⟩;rw[World.putObj_heap_same F];simp[d]
   |_=>exact G.elim
  .rintro e bl ⟨⟨v,rfl⟩,⟨A,h,q⟩|⟨av,h,q⟩⟩
   .refine⟨Ax,_,by have:=run_endLoop (P:=P) h (by rw[d];simp);rw[d]at this;exact this,?_⟩;exact a5 _ (an _ _ _ _ A h) ((U (by omega)).trans q)
   .refine⟨O .ret,_,by have:=run_endLoop (P:=P) h (by rw[d];simp);rw[d]at this;exact this,?_⟩;exact wpIn_ret (bb _ (al _ _ _ av h) ((U (by omega)).trans q))
def aa1{P:A2}{o:Oper}(r:Result Next)(h:o.upon P a K Q r):o.uponIn (Fence.wide.inRound l) n P a K Q r:=by
 have d:(Fence.wide.inRound l).depth.isSome=M->1<=n:=λh=>by simp[A3,Fence.inRound]at h
 cases r with
 |ok c i=>
  cases c with
  |value b=>exact h
  |skip=>exact h
  |defer k=>exact h
  |enter m args=>exact⟨d,CallsIn.inRound l (callsIn_wide.2 h)⟩
  |row row args=>exact⟨d,λe f _=>let ⟨b,j,r,g⟩:=h e f;⟨b,j,r,stepsIn_wide.2 g⟩⟩
  |_=>exact h.elim
 |halt c i=>
  cases c with
  |panic b=>exact h
  |_=>exact h.elim
def Kw(o:Oper):Bool:=match o.op with| .defer _=>V|_=>M
def agx{o:Oper}(h:Kw o=M):∀c,o.op≠ .defer c:=by
 intro c a;unfold Kw at h;rw[a]at h;cases h
def aa2{P:A2}{i:Nat}(d:∀(j:Nat) (o:Oper),ops[j]?=O o->Kw o=M)(e:¬LetsOut Q)(h:wpOp P ops Q i K a w):wpOpIn (Fence.wide.inRound l) n P ops Q i K a w:=by
 unfold wpOp at h;unfold wpOpIn;cases ho:ops[i]? with
 |none=>simpa [ho] using h
 |some o=>
  simp only[ho]at h⊢;split
  .rename_i b;simp only[b,kF]at h;rcases h with h|h
   .refine⟨λc _=>trivial,?_⟩;show o.uponIn _ _ _ _ _ _ ((o.semAt (O l) a.eval).run P w);rw[lG l a.eval o (agx (d i o ho))];exact aa1 _ h
   .exact absurd h.2 e
  .rename_i b;simp only[b]at h;exact⟨λc _=>trivial,by simpa using h⟩
def wL{P:A2}(b:∀(j:Nat) (o:Oper),ops[j]?=O o->Kw o=M)(c:¬LetsOut Q):
  ∀(fuel:Nat)(d:Array Bool)(a:Act)(w:Ak),wpAny P md ops Q fuel d a w->wpAnyIn (Fence.wide.inRound l) n P md ops Q fuel d a w
 |0,_,_,_,h=>h
 |fuel+1,_,_,_,h=>⟨h.1,λi g=>aa2 b c (wpOp_mono (λe k f=>wL b c fuel _ e k f) (h.2 i g))⟩
def yH{P:A2}{id:Nat}(e:P.follows .mixedOrders=M)(c:ops.all Kw=M)(g:¬LetsOut Q)(hS:S w.drew)
  (h:S w.drew->wpAnyH P .any ops Q S ops.size (Array.replicate ops.size V) a w.drew):(Go.Code.region id ops M).wpIn (Fence.wide.inRound l) n P Q a w:=
 wpIn_region_any e (wL (λi j f=>by
  obtain⟨d,b⟩:=Array.getElem?_eq_some_iff.1 f;rw[<-b];exact Array.all_eq_true.1 c i d) g _ _ _ _ (wpAny_of_held _ _ _ _ (h hS)))
def Ih{P:A2}(i:Nat)(d:Tmp)(v:Ad){e:Oper}{fuel:Nat}{b:Array Bool}(k:ops[i]?=O e)(f:e.dst=O d)
  (m:Region.noSelect ops=M) (j:Region.free md ops b i=M) (l:(Region.ready md ops b).contains i=M)
  (g:∀c a w,Q (.panic c) (a.put (O d) v) w->Q (.panic c) a w) (n:Region.wanted e (yielded ops a.tmps)=M) (hS:S w) (o:∀w,S w->(execOp a.eval e).run P w= .ok (.value v) w)
  (h:wpAnyH P md ops Q S fuel (b.setIfInBounds i M) (a.put (O d) v) w):wpAnyH P md ops Q S (fuel+1) b a w:=
 wpAnyH_take k m j l (by rw[f];exact g) (Or.inl ⟨n,o⟩) hS (by rw[f];exact h)
def aqv(b:Region.Mode)(a:Array Oper)(m:List Bool)(i:Nat)(l:List Ad):Bool:=Region.noSelect a&&Region.free b a m.toArray i&&(Region.ready b a m.toArray).contains i&&(match a[i]? with|some c=>Region.wanted c (yielded a l.toArray)|none=>V)
def dL{P:A2}(i:Nat)(v:Ad){d:Tmp}{f:Oper}{fuel:Nat}{m:List Bool}{l:List Ad}{e:List Deferred}(g:ops[i]?=O f)(k:f.dst=O d)
  (hS:S w) (n:∀w,S w->(execOp (Act.mk l.toArray e).eval f).run P w= .ok (.value v) w)
  (h:wpAnyH P md ops Q S fuel (m.set i M).toArray ⟨(l.set d v).toArray,e⟩ w) (b:aqv md ops m i l=M:=by kernel_rfl) (j:∀c a w,Q (.panic c) (a.put (O d) v) w->Q (.panic c) a w:=by exact λ_ _ _=>id):wpAnyH P md ops Q S (fuel+1) m.toArray ⟨l.toArray,e⟩ w:=by
 unfold aqv at b;rw[g]at b;simp only[bB]at b;refine Ih i d v g k b.1.1.1 b.1.1.2 b.1.2 j b.2 hS n ?_;simp only[Act.put,co];exact h
structure Tk where
 k:Int
 f:Int
 t:Int
 l:Int
 n:Int
 x:ByteArray
def vTk(T:Tk):Ad:= .agg #[A0 A1 T.k,A0 A1 T.f,A0 A1 T.t,A0 A1 T.l,A0 A1 T.n,A9 T.x]
def cTk(T:Tk):List Ad:=[A0 A1 T.k,A0 A1 T.f,A0 A1 T.t,A0 A1 T.l,A0 A1 T.n,A9 T.x]
def Am(ts:List Tk):List Ad:=ts.flatMap cTk
def yI(a:List Tk)(T:Tk):Am (a++[T])=Am a++cTk T:=by simp[Am]
inductive Fo where
 |nil:Fo
 |cons:Nd->Fo->Fo->Fo
def Fo.sz:Fo->Nat
 | .nil=>0
 | .cons _ k r=>k.sz+1+r.sz
def Fo.len:Fo->Nat
 | .nil=>0
 | .cons _ _ r=>r.len+1
def Fo.tops:Fo->Nat->List Int
 | .nil,_=>[]
 | .cons _ k r,b=>((b+k.sz:Nat):Int)::r.tops (b+k.sz+1)
def Fo.flat:Fo->Nat->List Nd
 | .nil,_=>[]
 | .cons N k r,b=>k.flat b++({N with ks:=k.tops b}::r.flat (b+k.sz+1))
def Fo.app:Fo->Fo->Fo
 | .nil,c=>c
 | .cons N k r,c=> .cons N k (r.app c)
def one(N:Nd)(k:Fo):Fo:= .cons N k .nil
def Fo.app_nil:∀(a:Fo),a.app .nil=a
 | .nil=>rfl
 | .cons N k r=>by rw[Fo.app,r.app_nil]
def Fo.app_app:∀(a b c:Fo),(a.app b).app c=a.app (b.app c)
 | .nil,_,_=>rfl
 | .cons N k r,b,c=>by simp only[Fo.app];rw[r.app_app b c]
def Fo.sz_app:∀(a c:Fo),(a.app c).sz=a.sz+c.sz
 | .nil,c=>by simp[Fo.app,Fo.sz]
 | .cons N k r,c=>by simp only[Fo.app,Fo.sz,r.sz_app c];omega
def Fo.len_app:∀(a c:Fo),(a.app c).len=a.len+c.len
 | .nil,c=>by simp[Fo.app,Fo.len]
 | .cons N k r,c=>by simp only[Fo.app,Fo.len,r.len_app c];omega
def Fo.tops_app:∀(a c:Fo)(b:Nat),(a.app c).tops b=a.tops b++c.tops (b+a.sz)
 | .nil,c,b=>by simp[Fo.app,Fo.sz,Fo.tops]
 | .cons N k r,c,b=>by simp only[Fo.app,Fo.tops,Fo.sz,r.tops_app c,dJ];rw[show b+k.sz+1+r.sz=b+(k.sz+1+r.sz) by omega]
def Fo.flat_app:∀(a c:Fo)(b:Nat),(a.app c).flat b=a.flat b++c.flat (b+a.sz)
 | .nil,c,b=>by simp[Fo.app,Fo.sz,Fo.flat]
 | .cons N k r,c,b=>by simp only[Fo.app,Fo.flat,Fo.sz,r.flat_app c,dJ,bC];rw[show b+k.sz+1+r.sz=b+(k.sz+1+r.sz) by omega]
def Fo.flat_len:∀(a:Fo)(b:Nat),(a.flat b).length=a.sz
 | .nil,_=>rfl
 | .cons N k r,b=>by simp only[Fo.flat,Fo.sz,aG,bc,k.flat_len,r.flat_len];omega
def Fo.tops_len:∀(a:Fo)(b:Nat),(a.tops b).length=a.len
 | .nil,_=>rfl
 | .cons N k r,b=>by simp only[Fo.tops,Fo.len,bc,r.tops_len]
def bz(N:Nd)(k:Fo):(one N k).sz=k.sz+1:=rfl
def Kx(N:Nd)(k:Fo)(b:Nat):(one N k).tops b=[((b+k.sz:Nat):Int)]:=rfl
def uD(N:Nd)(k:Fo)(b:Nat):(one N k).flat b=k.flat b++[{N with ks:=k.tops b}]:=rfl
def Fo.len_le:∀(a:Fo),a.len<=a.sz
 | .nil=>ag _
 | .cons N k r=>by have:=r.len_le;simp only[Fo.len,Fo.sz];omega
def z0:ByteArray:=⟨#[]⟩
def nd(k:Int)(s:Tk)(e op n:Int)(x:ByteArray)(nm:List ByteArray):Nd:=⟨k,s.f,e,s.l,op,n,x,nm,[]⟩
def jx(k:Int)(s:Tk)(e:Int):Nd:=nd k s e 0 0 z0 []
def sn(k:Int)(s:Tk)(e:Int):Nd:=if k=10 then jx 28 s e else if k=26 then jx 29 s e else nd 31 s e (k-60) 0 z0 []
def aa3(k:Int):Int:=if k=25 then 21 else if k=50 then 22 else if k=69 then 20 else 19
def Bj(k:Int):Int:=if k=26 then 1 else if k=10 then 2 else if 73<=k then 3 else if k=72 then 4 else if k=68 then 5 else if k=69 then 6 else if k=67 then 7 else if k=70\/k=71 then 8 else if k=61\/k=62 then 9 else 10
def Ky(k:Int):Int:=if k=72 then 4 else Bj k+1
def yJ(k:Int):Bool:=decide (k=48\/k=44\/k=40)
def mh(N:Nd)(ks:Fo)(s:Tk)(e:Int):Fo:=if N.k=34\/N.k=27 then one (jx 37 s e) (one N ks) else one N ks
inductive FE (tk:Nat->Tk) (n:Nat):Nat->List ByteArray->Nat->Prop where
 |stop {k:Nat}:(tk k).k≠46->k<n->FE tk n k [] k
 |go {k j:Nat}{ns:List ByteArray}:(tk k).k=46->k+1<n->(tk (k+1)).k=1->FE tk n (k+2) ns j->FE tk n k ((tk (k+1)).x::ns) j
inductive Prm (tk:Nat->Tk) (n:Nat):Nat->List ByteArray->Bool->Nat->Prop where
 |close {k:Nat}:(tk k).k=41->k+1<n->Prm tk n k [] false (k+1)
 |rest {k:Nat}:(tk k).k=49->(tk (k+1)).k=41->k+2<n->Prm tk n k [] true (k+2)
 |last {k:Nat}:(tk k).k=1->(tk (k+1)).k=41->k+2<n->Prm tk n k [(tk k).x] false (k+2)
 |go {k j:Nat}{ns:List ByteArray}{r:Bool}:(tk k).k=1->(tk (k+1)).k=46->k+2<n->Prm tk n (k+2) ns r j->Prm tk n k ((tk k).x::ns) r j
inductive uE where
 |unit:uE
 |expr:Int->uE
 |more:Int->Tk->Fo->uE
 |base:uE
 |post:Tk->Fo->uE
 |exprs:uE
 |moreE:uE
 |moreB:uE
 |stat:uE
 |stats:uE
 |block:uE
 |body:Tk->uE
 |entry:uE
 |entries:uE
 |branch:uE
inductive P (tk:Nat->Tk) (n:Nat):uE->Nat->Fo->Nat->Prop where
 |upre {i j:Nat}{x:Fo}:jE (tk i).k=true->i<n->P tk n .unit (i+1) x j->P tk n .unit i (one (nd 30 (tk i) (tk (j-1)).t (aa3 (tk i).k) 0 z0 []) x) j
 |uint {i:Nat}:(tk i).k=2->i+1<n->P tk n .unit i (one (nd 23 (tk i) (tk i).t 0 (tk i).n z0 []) .nil) (i+1)
 |uflt {i:Nat}:(tk i).k=3->i+1<n->P tk n .unit i (one (nd 24 (tk i) (tk i).t 0 0 (tk i).x []) .nil) (i+1)
 |ustr {i:Nat}:(tk i).k=4->i+1<n->P tk n .unit i (one (nd 25 (tk i) (tk i).t 0 0 (tk i).x []) .nil) (i+1)
 |unil {i:Nat}:(tk i).k=24->i+1<n->P tk n .unit i (one (jx 20 (tk i) (tk i).t) .nil) (i+1)
 |utru {i:Nat}:(tk i).k=29->i+1<n->P tk n .unit i (one (jx 21 (tk i) (tk i).t) .nil) (i+1)
 |ufls {i:Nat}:(tk i).k=17->i+1<n->P tk n .unit i (one (jx 22 (tk i) (tk i).t) .nil) (i+1)
 |urst {i:Nat}:(tk i).k=49->i+1<n->P tk n .unit i (one (jx 27 (tk i) (tk i).t) .nil) (i+1)
 |ufn {i j:Nat}{R:Fo}:(tk i).k=18->i<n->P tk n (.body (tk i)) (i+1) R j->P tk n .unit i R j
 |utab {i j:Nat}{E:Fo}:(tk i).k=42->i<n->P tk n .entries (i+1) E j->(tk j).k=43->j+1<n->P tk n .unit i (one (jx 35 (tk i) (tk j).t) E) (j+1)
 |ubas {i j:Nat}{R:Fo}:(tk i).k=1\/(tk i).k=40->i<n->P tk n .base i R j->P tk n .unit i R j
 |ex {p:Int}{i k j:Nat}{x R:Fo}:(tk i).k≠6->i<n->P tk n .unit i x k->P tk n (.more p (tk i) x) k R j->P tk n (.expr p) i R j
 |mstop {p:Int}{s:Tk}{x:Fo}{k:Nat}:k<n->(gG (tk k).k=true->Bj (tk k).k<p)->P tk n (.more p s x) k x k
 |mgo {p:Int}{s:Tk}{x y R:Fo}{k k1 j:Nat}:k<n->gG (tk k).k=true->p<=Bj (tk k).k->P tk n (.expr (Ky (tk k).k)) (k+1) y k1->P tk n (.more p s (one (sn (tk k).k s (tk (k1-1)).t) (x.app y))) k1 R j->P tk n (.more p s x) k R j
 |bname {i j:Nat}{R:Fo}:(tk i).k=1->i<n->P tk n (.post (tk i) (one (nd 26 (tk i) (tk i).t 0 0 (tk i).x []) .nil)) (i+1) R j->P tk n .base i R j
 |bopen {i k j:Nat}{N:Nd}{ks R:Fo}:(tk i).k=40->i<n->P tk n (.expr 0) (i+1) (one N ks) k->(tk k).k=41->k<n->P tk n (.post (tk i) (mh N ks (tk i) (tk k).t)) (k+1) R j->P tk n .base i R j
 |pstop {s:Tk}{B:Fo}{k:Nat}:k<n->yJ (tk k).k=false->P tk n (.post s B) k B k
 |pdot {s:Tk}{B R:Fo}{k j:Nat}:(tk k).k=48->(tk (k+1)).k=1->k+1<n->P tk n (.post s (one (nd 33 s (tk (k+1)).t 0 0 (tk (k+1)).x []) B)) (k+2) R j->P tk n (.post s B) k R j
 |psq {s:Tk}{B Y R:Fo}{k k1 j:Nat}:(tk k).k=44->k<n->P tk n (.expr 0) (k+1) Y k1->(tk k1).k=45->k1<n->P tk n (.post s (one (jx 32 s (tk k1).t) (B.app Y))) (k1+1) R j->P tk n (.post s B) k R j
 |pcall0 {s:Tk}{B R:Fo}{k j:Nat}:(tk k).k=40->(tk (k+1)).k=41->k+1<n->P tk n (.post s (one (jx 34 s (tk (k+1)).t) B)) (k+2) R j->P tk n (.post s B) k R j
 |pcall {s:Tk}{B Y R:Fo}{k k1 j:Nat}:(tk k).k=40->k+1<n->(tk (k+1)).k≠41->P tk n .exprs (k+1) Y k1->(tk k1).k=41->k1<n->P tk n (.post s (one (jx 34 s (tk k1).t) (B.app Y))) (k1+1) R j->P tk n (.post s B) k R j
 |es {i k j:Nat}{x R:Fo}:P tk n (.expr 0) i x k->P tk n .moreE k R j->P tk n .exprs i (x.app R) j
 |estop {k:Nat}:(tk k).k≠46->k<n->P tk n .moreE k .nil k
 |ego {k k1 j:Nat}{x R:Fo}:(tk k).k=46->k<n->P tk n (.expr 0) (k+1) x k1->P tk n .moreE k1 R j->P tk n .moreE k (x.app R) j
 |bstop {k:Nat}:(tk k).k≠46->k<n->P tk n .moreB k .nil k
 |bgo {k k1 j:Nat}{x R:Fo}:(tk k).k=46->k<n->P tk n .base (k+1) x k1->P tk n .moreB k1 R j->P tk n .moreB k (x.app R) j
 |body {i k j:Nat}{s:Tk}{nm:List ByteArray}{r:Bool}{B:Fo}:(tk i).k=40->i<n->Prm tk n (i+1) nm r k->P tk n .block k B j->P tk n (.body s) i (one (nd 36 s (tk (j-1)).t (if r=true then 1 else 0) 0 z0 nm) B) j
 |block {i k:Nat}{S:Fo}:(tk i).k=42->i<n->P tk n .stats (i+1) S k->(tk k).k=43->k+1<n->P tk n .block i (one (jx 1 (tk i) (tk k).t) S) (k+1)
 |sstop {k:Nat}:(tk k).k=43\/(tk k).k=6->k<n->P tk n .stats k .nil k
 |ssep {k j:Nat}{R:Fo}:(tk k).k=5->k<n->P tk n .stats (k+1) R j->P tk n .stats k R j
 |sgo {k k1 j:Nat}{x R:Fo}:(tk k).k≠5->(tk k).k≠6->(tk k).k≠43->k<n->P tk n .stat k x k1->P tk n .stats k1 R j->P tk n .stats k (x.app R) j
 |nstop {k:Nat}:(tk k).k=43->k<n->P tk n .entries k .nil k
 |ncom {k k1 j:Nat}{x R:Fo}:(tk k).k≠43->k<n->P tk n .entry k x k1->(tk k1).k=46->k1<n->P tk n .entries (k1+1) R j->P tk n .entries k (x.app R) j
 |nlast {k k1 j:Nat}{x R:Fo}:(tk k).k≠43->k<n->P tk n .entry k x k1->(tk k1).k≠46->k1<n->P tk n .entries k1 R j->P tk n .entries k (x.app R) j
 |item {i j:Nat}{x:Fo}:(tk i).k≠48->(tk i).k≠44->(tk i).k≠6->i<n->P tk n (.expr 0) i x j->P tk n .entry i (one (jx 40 (tk i) (tk (j-1)).t) x) j
 |pair {i k j:Nat}{x y:Fo}:(tk i).k=44->i<n->P tk n (.expr 0) (i+1) x k->(tk k).k=45->(tk (k+1)).k=47->k+1<n->P tk n (.expr 0) (k+2) y j->P tk n .entry i (one (jx 41 (tk i) (tk (j-1)).t) (x.app y)) j
 |named {i j:Nat}{y:Fo}:(tk i).k=48->(tk (i+1)).k=1->(tk (i+2)).k=47->i+2<n->P tk n (.expr 0) (i+3) y j->P tk n .entry i (one (nd 42 (tk i) (tk (j-1)).t 0 0 (tk (i+1)).x []) y) j
 |belif {i k k1 j:Nat}{x b z:Fo}:(tk i).k=20\/(tk i).k=15->i<n->P tk n (.expr 0) (i+1) x k->P tk n .block k b k1->(tk k1).k=15->k1<n->P tk n .branch k1 z j->P tk n .branch i (one (jx 7 (tk i) (tk (j-1)).t) ((x.app b).app z)) j
 |belse {i k k1 j:Nat}{x b z:Fo}:(tk i).k=20\/(tk i).k=15->i<n->P tk n (.expr 0) (i+1) x k->P tk n .block k b k1->(tk k1).k=16->k1<n->P tk n .block (k1+1) z j->P tk n .branch i (one (jx 7 (tk i) (tk (j-1)).t) ((x.app b).app z)) j
 |bno {i k k1:Nat}{x b:Fo}:(tk i).k=20\/(tk i).k=15->i<n->P tk n (.expr 0) (i+1) x k->P tk n .block k b k1->(tk k1).k≠15->(tk k1).k≠16->k1<n->P tk n .branch i (one (jx 7 (tk i) (tk (k1-1)).t) (x.app b)) k1
 |tlet0 {i k:Nat}{ns:List ByteArray}:(tk i).k=22->i+1<n->(tk (i+1)).k=1->FE tk n (i+2) ns k->(tk k).k≠47->P tk n .stat i (one (nd 2 (tk i) (tk (k-1)).t 0 0 z0 ((tk (i+1)).x::ns)) .nil) k
 |tlet {i k j:Nat}{ns:List ByteArray}{E:Fo}:(tk i).k=22->i+1<n->(tk (i+1)).k=1->FE tk n (i+2) ns k->(tk k).k=47->P tk n .exprs (k+1) E j->P tk n .stat i (one (nd 2 (tk i) (tk (j-1)).t 0 0 z0 ((tk (i+1)).x::ns)) E) j
 |tcon {i j:Nat}{x:Fo}:(tk i).k=13->(tk (i+1)).k=1->(tk (i+2)).k=47->i+2<n->P tk n (.expr 0) (i+3) x j->P tk n .stat i (one (nd 3 (tk i) (tk (j-1)).t 0 0 z0 [(tk (i+1)).x]) x) j
 |tfn {i j:Nat}{B:Fo}:(tk i).k=18->(tk (i+1)).k=1->(tk (i+2)).k=40->i+2<n->P tk n (.body (tk (i+2))) (i+2) B j->P tk n .stat i (one (nd 4 (tk i) (tk (j-1)).t 0 0 z0 [(tk (i+1)).x]) B) j
 |tif {i j:Nat}{R:Fo}:(tk i).k=20->i<n->P tk n .branch i R j->P tk n .stat i R j
 |twhile {i k j:Nat}{x b:Fo}:(tk i).k=31->i<n->P tk n (.expr 0) (i+1) x k->P tk n .block k b j->P tk n .stat i (one (jx 8 (tk i) (tk (j-1)).t) (x.app b)) j
 |tfor {i k k1 j:Nat}{ns:List ByteArray}{E b:Fo}:(tk i).k=19->i+1<n->(tk (i+1)).k=1->FE tk n (i+2) ns k->(tk k).k=47->P tk n .exprs (k+1) E k1->P tk n .block k1 b j->P tk n .stat i (one (nd 9 (tk i) (tk (j-1)).t 0 0 z0 ((tk (i+1)).x::ns)) (E.app b)) j
 |teach {i k k1 j:Nat}{ns:List ByteArray}{x b:Fo}:(tk i).k=19->i+1<n->(tk (i+1)).k=1->FE tk n (i+2) ns k->(tk k).k=21->P tk n (.expr 0) (k+1) x k1->(tk k1).k=42->k1<n->P tk n .block k1 b j->P tk n .stat i (one (nd 10 (tk i) (tk (j-1)).t 0 0 z0 ((tk (i+1)).x::ns)) (x.app b)) j
 |tbreak {i:Nat}:(tk i).k=11->i+1<n->P tk n .stat i (one (jx 11 (tk i) (tk i).t) .nil) (i+1)
 |tnext {i:Nat}:(tk i).k=23->i+1<n->P tk n .stat i (one (jx 12 (tk i) (tk i).t) .nil) (i+1)
 |tret0 {i:Nat}:(tk i).k=27->i+1<n->(tk (i+1)).k=5\/(tk (i+1)).k=6\/(tk (i+1)).k=43->P tk n .stat i (one (jx 13 (tk i) (tk i).t) .nil) (i+1)
 |tret {i j:Nat}{E:Fo}:(tk i).k=27->i+1<n->eE (tk (i+1)).k=true->P tk n .exprs (i+1) E j->P tk n .stat i (one (jx 13 (tk i) (tk (j-1)).t) E) j
 |ttry {i k k1 j:Nat}{ns:List ByteArray}{a b:Fo}:(tk i).k=30->i<n->P tk n .block (i+1) a k->(tk k).k=12->k+1<n->(tk (k+1)).k=1->FE tk n (k+2) ns k1->P tk n .block k1 b j->P tk n .stat i (one (nd 14 (tk i) (tk (j-1)).t 0 0 z0 ((tk (k+1)).x::ns)) (a.app b)) j
 |tthrow {i j:Nat}{x:Fo}:(tk i).k=28->i<n->P tk n (.expr 0) (i+1) x j->P tk n .stat i (one (jx 15 (tk i) (tk (j-1)).t) x) j
 |tdefer {i j:Nat}{x:Fo}:(tk i).k=14->i<n->P tk n .base (i+1) x j->P tk n .stat i (one (jx 16 (tk i) (tk (j-1)).t) x) j
 |tblock {i j:Nat}{R:Fo}:(tk i).k=42->i<n->P tk n .block i R j->P tk n .stat i R j
 |tdo {i j:Nat}{x:Fo}:(tk i).k=1\/(tk i).k=40->i<n->P tk n .base i x j->(tk j).k≠46->(tk j).k≠47->j<n->P tk n .stat i (one (jx 6 (tk i) (tk (j-1)).t) x) j
 |tset {i k k1 j:Nat}{x R E:Fo}:(tk i).k=1\/(tk i).k=40->i<n->P tk n .base i x k->P tk n .moreB k R k1->(tk k1).k=47->k1<n->P tk n .exprs (k1+1) E j->P tk n .stat i (one (nd 5 (tk i) (tk (j-1)).t 0 ((x.app R).len:Nat) z0 []) ((x.app R).app E)) j
def fJ(k:Int):Nat:=
 if k=2\/k=3\/k=4\/k=9\/k=10\/k=14 then 0
 else if k=5 then 1
 else if k=23 then 2
 else if k=24\/k=25\/k=26\/k=33\/k=42 then 3
 else if k=30\/k=31 then 4
 else if k=36 then 5
 else 6
def pI:Nat->Bc
 |0=>142
 |1=>145
 |2=>148
 |3=>151
 |4=>154
 |5=>157
 |_=>91
def xx:Nat->Bc
 |0=>144
 |1=>147
 |2=>150
 |3=>153
 |4=>156
 |5=>159
 |_=>94
def exT(N:Nd)(vn:Ad):Nat->List Ad
 |0=>[vn]
 |1=>[A0 A1 N.n]
 |2=>[A0 A1 N.n]
 |3=>[A9 N.x]
 |4=>[A0 A1 N.op]
 |5=>[vn,.bool (decide (N.op=1))]
 |_=>[]
def il(W:Ak)(b:Nat)(N:Nd)(vn:Ad)(c:Int)(a:Ad):Prop:=
 W.heap[b]?=O (.cells ([A0 A1 N.k,A0 A1 N.f,A0 A1 N.t,A0 A1 N.l,A0 A1 c,a]++exT N vn (fJ N.k)).toArray (xx (fJ N.k)) (0,0))
def gq(k:Int)(b:Nat):Ad:= .iface (pI (fJ k)) (.pointer (O ⟨b,0,Ax⟩))
def aa4(w:Ak)(N:Nd)(vn vk:Ad)(r:∃a n c,vn= Bk a n c)(q:∃a n c,vk= Bk a n c):
  Calls Tryz.prog 122 #[jI N vn vk] w λe o=>e= .returned (gq N.k (w.heap.size+1+1))/\il o (w.heap.size+1+1) N vn 0 (Bk Ax 0 0)/\cg w o:=by
 obtain⟨s,x,u,rfl⟩:=r;obtain⟨t,y,v,rfl⟩:=q;unfold jI;obtain⟨b,z,G,B,F,C,H,E,A⟩:=N;have l:∀d f j,cg w (((w.alloc d).alloc f).alloc j):=λd f j=>(((ah _ w).alloc (ag _) d).alloc (by simp) f).alloc (by simp;omega) j;have m:∀d f (g:Array Ad) (h:Bc),(((w.alloc d).alloc f).alloc (.cells g h)).heap[w.heap.size+1+1]?=O (.cells g h (0,0)):=λd f g h=>by
  have:=aA ((w.alloc d).alloc f) (.cells g h);rw[fe,fe]at this;exact this
 unfold il gq;simp only;by_cases i:b=2\/b=3\/b=4\/b=9\/b=10\/b=14\/b=5\/b=23\/b=24\/b=25\/b=26\/b=33\/b=42\/b=30\/b=31\/b=36
 .rcases i with rfl|rfl|rfl|rfl|rfl|rfl|rfl|rfl|rfl|rfl|rfl|rfl|rfl|rfl|rfl|rfl;all_goals
   go_in;go_wp2;go_ret;exact⟨rfl,m _ _ _ _,l _ _ _⟩
 .have p:fJ b=6:=by unfold fJ;rw[aa (by omega),aa (by omega),aa (by omega),aa (by omega),aa (by omega),aa (by omega)]
  simp only[not_or]at i;obtain⟨_,_,_,_,_,_,_,_,_,_,_,_,_,_,_,_⟩:=i;rw[p];go_in;go_wp2;go_ret;exact⟨rfl,m _ _ _ _,l _ _ _⟩
def DL(b:Nat):Deferred:={target:= .collected b,args:=#[]}
structure uF (B:Nat) (c:List Nat) (W:Ak):Prop where
 nd:c.Nodup
 lo:∀b∈c,B<=b
 at_:∀b∈c,W.heap[b]?=O (.deferred (O []))
structure Ii (c:List Nat) (W W':Ak):Prop where
 os:W'.os=W.os
 tape:W'.tape=W.tape
 output:W'.output=W.output
 size:W'.heap.size=W.heap.size
 same:∀k,k ∉ c->W'.heap[k]?=W.heap[k]?
def tr{g:Fence}{P:A2}{i:Func}{tmps:Array Ad}{R:Ending->Ak->Prop}(B:Nat):∀(c:List Nat)(W:Ak),uF B c W->(∀W',Ii c W W'->LeavesInM g n P i tmps R [] .returning W')->LeavesInM g n P i tmps R (c.map DL) .returning W
 |[],W,_,h=>h W ⟨rfl,rfl,rfl,rfl,λ_ _=>rfl⟩
 |b::c,W,f,h=>by
  have k:=f.at_ b (by simp);have j:=List.nodup_cons.1 f.nd;refine⟨by simp,.inl ⟨b,_,rfl,run_takeDeferred k,?_⟩⟩;refine tr B c _ ⟨j.2,λe a=>f.lo e (by simp[a]),λe a=>?_⟩ (λW' d=>?_)
  .exact(U (by rintro rfl;exact j.1 a)).trans (f.at_ e (by simp[a]))
  .refine h W' ⟨d.os,d.tape,d.output,d.size.trans (by simp),λe a=>?_⟩;simp at a;exact(d.same e a.2).trans (U a.1)
def Ii.below(h:Ii c W W')(a:Below B w W)(e:∀b∈c,B<=b)(i:B<=w.heap.size):Below B w W':=
 ⟨h.os.trans a.os,h.tape.trans a.tape,h.output.trans a.output,by rw[h.size];exact a.size,λd f=>(h.same d (λg=>by have:=e d g;omega)).trans (a.block d f)⟩
def uF.below(h:uF B c W)(d:cg W W'):uF B c W':=
 ⟨h.nd,h.lo,λa b=>(d.block a (Array.getElem?_eq_some_iff.1 (h.at_ a b)).1).trans (h.at_ a b)⟩
def uF.keeps(h:uF B c W)(b:KeepsOthers W W'):uF B c W':=
 ⟨h.nd,h.lo,λa d=>b.same a _ (h.at_ a d) rfl⟩
