import Derived.Test.YtnoojdbdapljoaaGreatDoorHOk04
set_option linter.all false
set_option maxRecDepth 100000
open Bool renaming true->A,false->C
open Option renaming some->F
namespace Go.Proofs.YtnoojdbdapljoaaGreatDoor
def lj(t:Int):Bool:=decide (t=25\/t=50\/t=62\/t=69)
def ja(t:Int):Bool:=decide (t=10\/t=26\/60<t)
def dH(t:Int):Bool:=decide (t=1\/t=2\/t=3\/t=4\/t=24\/t=29\/t=17\/t=49\/t=18\/t=40\/t=42)||lj t
def gL(t:Int):List Int×Bool:=if t=22 then([t,1,104,103],A) else if t=13 then([t,1,47,119],A) else if t=18 then([t,1,133],A) else if t=20 then([t,119,132,105],A) else if t=31 then([t,119,132],A) else if t=19 then([t,1,106],A) else if t=11 then([t],A) else if t=23 then([t],A) else if t=27 then([t,108],A) else if t=30 then([t,132,12,1,109,132],A) else if t=28 then([t,119],A) else if t=14 then([t,116],A) else if t=42 then([132],A) else if t=1 then([t,110],A) else if t=40 then([t,119,41,112],A) else([],C)
def oh(t a c:Int):List Int:=if t=48 then [t,1,a] else if t=44 then [t,119,45,a] else if t=40 then [t,123,41,c] else []
def EG(t:Int):List Int×Bool:=if lj t=A then([t,120],A) else if t=1 then([t,122],A) else if t=40 then([t,119,41,122],A) else if t=42 then([t,129,43],A) else if t=18 then([t,133],A) else([t],dH t)
def Kz(t:Int):List Int×Bool:=if t=5 then([t,100],A) else if(gL t).2=A then((gL t).1++[101],A) else([],A)
def ae1(t:Int):List Int×Bool:=if t=5 then([t,100],A) else([],A)
def ajt(t:Int):List Int×Bool:=([40,126,41,132],decide (t=40))
def ae2(t:Int):List Int×Bool:=if t=47 then([t,124],A) else([],A)
def ae3(t:Int):List Int×Bool:=if t=46 then([t,1,104],A) else([],A)
def abj(t:Int):List Int×Bool:=if t=15 then([t,119,132,105],A) else if t=16 then([t,132],A) else([],A)
def ae4(t:Int):List Int×Bool:=if t=47 then([t,119,46,119,107,132],A) else([104,21,119,132],decide (t=46\/t=21))
def ae5(t:Int):List Int×Bool:=if t=46 then([t,119],A) else([],A)
def ae6(t:Int):List Int×Bool:=if dH t=A then([124],A) else([],A)
def ae7(t:Int):List Int×Bool:=if t=46 then([t,1],A) else([],A)
def abk(t:Int):List Int×Bool:=if t=48 then([t,1,110],A) else if t=44 then([t,119,45,110],A) else if t=40 then([t,123,41,111],A) else if t=46 then([t,113],A) else if t=47 then([t,124],A) else([],C)
def ahD(t:Int):List Int×Bool:=if t=48 then([t,1,110],A) else if t=44 then([t,119,45,110],A) else if t=40 then([t,123,41,111],A) else([],A)
def ahE(t:Int):List Int×Bool:=if t=48 then([t,1,110],A) else if t=44 then([t,119,45,110],A) else if t=40 then([t,123,41,111],A) else([],C)
def abl(t:Int):List Int×Bool:=if t=1 then([t,114],A) else if t=40 then([t,119,41,115],A) else([],C)
def abm(t:Int):List Int×Bool:=if t=48 then([t,1,114],A) else if t=44 then([t,119,45,114],A) else if t=40 then([t,123,41,115],A) else if t=46 then([t,113],A) else if t=47 then([t,124],A) else([],C)
def ahF(t:Int):List Int×Bool:=if t=48 then([t,1,114],A) else if t=44 then([t,119,45,114],A) else if t=40 then([t,123,41,115],A) else([],C)
def abn(t:Int):List Int×Bool:=if t=1 then([t,117],A) else if t=40 then([t,119,41,117],A) else([],C)
def ahG(t:Int):List Int×Bool:=if t=48 then([t,1,117],A) else if t=44 then([t,119,45,117],A) else if t=40 then([t,123,41,118],A) else([],C)
def ahH(t:Int):List Int×Bool:=if t=48 then([t,1,117],A) else if t=44 then([t,119,45,117],A) else if t=40 then([t,123,41,118],A) else([],A)
def ae8(t:Int):List Int×Bool:=([120,121],dH t)
def aju(t:Int):List Int×Bool:=EG t
def ae9(t:Int):List Int×Bool:=if ja t=A then([t,119],A) else([],A)
def afa(t:Int):List Int×Bool:=(oh t 122 122,A)
def afb(t:Int):List Int×Bool:=if dH t=A then([124],A) else([],A)
def ahI(t:Int):List Int×Bool:=([119,125],dH t)
def afc(t:Int):List Int×Bool:=if t=46 then([t,119,125],A) else([],A)
def abo(t:Int):List Int×Bool:=if t=1 then([t,127],A) else if t=49 then([t],A) else([],A)
def afd(t:Int):List Int×Bool:=if t=46 then([t,128],A) else([],A)
def abp(t:Int):List Int×Bool:=if t=1 then([t,127],A) else if t=49 then([t],A) else([],C)
def afe(t:Int):List Int×Bool:=if dH t=A then([131,130],A) else if t=48 then([131,130],A) else if t=44 then([131,130],A) else([],A)
def aff(t:Int):List Int×Bool:=if t=46 then([t,129],A) else([],A)
def abq(t:Int):List Int×Bool:=if t=48 then([t,1,47,119],A) else if t=44 then([t,119,45,47,119],A) else([119],dH t)
def abr(t:Int):List Int×Bool:=([42,100,43],decide (t=42))
def afg(t:Int):List Int×Bool:=([40,126,41,132],decide (t=40))
def xE(s t:Int):List Int×Bool:=
 if s=100 then Kz t else if s=101 then ae1 t else if s=102 then ajt t else if s=103 then ae2 t else if s=104 then ae3 t else if s=105 then abj t else if s=106 then ae4 t else if s=107 then ae5 t else if s=108 then ae6 t else if s=109 then ae7 t else if s=110 then abk t else if s=111 then ahD t else if s=112 then ahE t else if s=113 then abl t else if s=114 then abm t else if s=115 then ahF t else if s=116 then abn t else if s=117 then ahG t else if s=118 then ahH t else if s=119 then ae8 t else if s=120 then aju t else if s=121 then ae9 t else if s=122 then afa t else if s=123 then afb t else if s=124 then ahI t else if s=125 then afc t else if s=126 then abo t else if s=127 then afd t else if s=128 then abp t else if s=129 then afe t else if s=130 then aff t else if s=131 then abq t else if s=132 then abr t else afg t
open Go.RowKit
structure Tk where
 k:Int
 f:Int
 t:Int
 l:Int
 n:Int
 x:ByteArray
def vTk(T:Tk):Value:= .agg #[.int .i64 T.k,.int .i64 T.f,.int .i64 T.t,.int .i64 T.l,.int .i64 T.n,.string T.x]
def cTk(T:Tk):List Value:=[.int .i64 T.k,.int .i64 T.f,.int .i64 T.t,.int .i64 T.l,.int .i64 T.n,.string T.x]
def zn(a:List Tk):List Value:=a.flatMap cTk
theorem zo(a:List Tk)(T:Tk):zn (a++[T])=zn a++cTk T:=by simp[zn]
inductive Fo where
 |nil:Fo
 |cons:Nd->Fo->Fo->Fo
def Fo.sz:Fo->Nat
 | .nil=>0
 | .cons _ k r=>k.sz+1+r.sz
def Fo.len:Fo->Nat
 | .nil=>0
 | .cons _ _ r=>r.len+1
def Fo.tops:Fo->Nat->List Int
 | .nil,_=>[]
 | .cons _ k r,b=>((b+k.sz:Nat):Int)::r.tops (b+k.sz+1)
def Fo.flat:Fo->Nat->List Nd
 | .nil,_=>[]
 | .cons N k r,b=>k.flat b++({N with ks:=k.tops b}::r.flat (b+k.sz+1))
def Fo.app:Fo->Fo->Fo
 | .nil,c=>c
 | .cons N k r,c=> .cons N k (r.app c)
def one(N:Nd)(k:Fo):Fo:= .cons N k .nil
theorem Fo.app_nil:∀(a:Fo),a.app .nil=a
 | .nil=>rfl
 | .cons N k r=>by rw[Fo.app,r.app_nil]
theorem Fo.app_app:∀(a b c:Fo),(a.app b).app c=a.app (b.app c)
 | .nil,_,_=>rfl
 | .cons N k r,b,c=>by simp only[Fo.app];rw[r.app_app b c]
theorem Fo.sz_app:∀(a c:Fo),(a.app c).sz=a.sz+c.sz
 | .nil,c=>by simp[Fo.app,Fo.sz]
 | .cons N k r,c=>by simp only[Fo.app,Fo.sz,r.sz_app c];omega
theorem Fo.len_app:∀(a c:Fo),(a.app c).len=a.len+c.len
 | .nil,c=>by simp[Fo.app,Fo.len]
 | .cons N k r,c=>by simp only[Fo.app,Fo.len,r.len_app c];omega
theorem Fo.tops_app:∀(a c:Fo)(b:Nat),(a.app c).tops b=a.tops b++c.tops (b+a.sz)
 | .nil,c,b=>by simp[Fo.app,Fo.sz,Fo.tops]
 | .cons N k r,c,b=>by simp only[Fo.app,Fo.tops,Fo.sz,r.tops_app c,fF];rw[show b+k.sz+1+r.sz=b+(k.sz+1+r.sz) by omega]
theorem Fo.flat_app:∀(a c:Fo)(b:Nat),(a.app c).flat b=a.flat b++c.flat (b+a.sz)
 | .nil,c,b=>by simp[Fo.app,Fo.sz,Fo.flat]
 | .cons N k r,c,b=>by simp only[Fo.app,Fo.flat,Fo.sz,r.flat_app c,fF,cI];rw[show b+k.sz+1+r.sz=b+(k.sz+1+r.sz) by omega]
theorem Fo.flat_len:∀(a:Fo)(b:Nat),(a.flat b).length=a.sz
 | .nil,_=>rfl
 | .cons N k r,b=>by simp only[Fo.flat,Fo.sz,aC,di,k.flat_len,r.flat_len];omega
theorem Fo.tops_len:∀(a:Fo)(b:Nat),(a.tops b).length=a.len
 | .nil,_=>rfl
 | .cons N k r,b=>by simp only[Fo.tops,Fo.len,di,r.tops_len]
theorem aJ(N:Nd)(k:Fo):(one N k).sz=k.sz+1:=rfl
theorem qy(N:Nd)(k:Fo)(b:Nat):(one N k).tops b=[((b+k.sz:Nat):Int)]:=rfl
theorem abt(N:Nd)(k:Fo)(b:Nat):(one N k).flat b=k.flat b++[{N with ks:=k.tops b}]:=rfl
theorem Fo.len_le:∀(a:Fo),a.len<=a.sz
 | .nil=>ah _
 | .cons N k r=>by have:=r.len_le;simp only[Fo.len,Fo.sz];omega
def z0:ByteArray:=⟨#[]⟩
def nd(k:Int)(s:Tk)(e op n:Int)(x:ByteArray)(nm:List ByteArray):Nd:=⟨k,s.f,e,s.l,op,n,x,nm,[]⟩
def im(k:Int)(s:Tk)(e:Int):Nd:=nd k s e 0 0 z0 []
def pd(k:Int)(s:Tk)(e:Int):Nd:=if k=10 then im 28 s e else if k=26 then im 29 s e else nd 31 s e (k-60) 0 z0 []
def KA(k:Int):Int:=if k=25 then 21 else if k=50 then 22 else if k=69 then 20 else 19
def KB(k:Int):Int:=if k=26 then 1 else if k=10 then 2 else if 73<=k then 3 else if k=72 then 4 else if k=68 then 5 else if k=69 then 6 else if k=67 then 7 else if k=70\/k=71 then 8 else if k=61\/k=62 then 9 else 10
def rpw(k:Int):Int:=if k=72 then 4 else KB k+1
def G5(k:Int):Bool:=decide (k=48\/k=44\/k=40)
def jG(N:Nd)(ks:Fo)(s:Tk)(e:Int):Fo:=if N.k=34\/N.k=27 then one (im 37 s e) (one N ks) else one N ks
inductive GA (tk:Nat->Tk) (n:Nat):Nat->List ByteArray->Nat->Prop where
 |stop {k:Nat}:(tk k).k≠46->k<n->GA tk n k [] k
 |go {k j:Nat}{ns:List ByteArray}:(tk k).k=46->k+1<n->(tk (k+1)).k=1->GA tk n (k+2) ns j->GA tk n k ((tk (k+1)).x::ns) j
inductive Prm (tk:Nat->Tk) (n:Nat):Nat->List ByteArray->Bool->Nat->Prop where
 |close {k:Nat}:(tk k).k=41->k+1<n->Prm tk n k [] false (k+1)
 |rest {k:Nat}:(tk k).k=49->(tk (k+1)).k=41->k+2<n->Prm tk n k [] true (k+2)
 |last {k:Nat}:(tk k).k=1->(tk (k+1)).k=41->k+2<n->Prm tk n k [(tk k).x] false (k+2)
 |go {k j:Nat}{ns:List ByteArray}{r:Bool}:(tk k).k=1->(tk (k+1)).k=46->k+2<n->Prm tk n (k+2) ns r j->Prm tk n k ((tk k).x::ns) r j
inductive tq where
 |unit:tq
 |expr:Int->tq
 |more:Int->Tk->Fo->tq
 |base:tq
 |post:Tk->Fo->tq
 |exprs:tq
 |moreE:tq
 |moreB:tq
 |stat:tq
 |stats:tq
 |block:tq
 |body:Tk->tq
 |entry:tq
 |entries:tq
 |branch:tq
inductive P (tk:Nat->Tk) (n:Nat):tq->Nat->Fo->Nat->Prop where
 |upre {i j:Nat}{x:Fo}:lj (tk i).k=true->i<n->P tk n .unit (i+1) x j->P tk n .unit i (one (nd 30 (tk i) (tk (j-1)).t (KA (tk i).k) 0 z0 []) x) j
 |uint {i:Nat}:(tk i).k=2->i+1<n->P tk n .unit i (one (nd 23 (tk i) (tk i).t 0 (tk i).n z0 []) .nil) (i+1)
 |uflt {i:Nat}:(tk i).k=3->i+1<n->P tk n .unit i (one (nd 24 (tk i) (tk i).t 0 0 (tk i).x []) .nil) (i+1)
 |ustr {i:Nat}:(tk i).k=4->i+1<n->P tk n .unit i (one (nd 25 (tk i) (tk i).t 0 0 (tk i).x []) .nil) (i+1)
 |unil {i:Nat}:(tk i).k=24->i+1<n->P tk n .unit i (one (im 20 (tk i) (tk i).t) .nil) (i+1)
 |utru {i:Nat}:(tk i).k=29->i+1<n->P tk n .unit i (one (im 21 (tk i) (tk i).t) .nil) (i+1)
 |ufls {i:Nat}:(tk i).k=17->i+1<n->P tk n .unit i (one (im 22 (tk i) (tk i).t) .nil) (i+1)
 |urst {i:Nat}:(tk i).k=49->i+1<n->P tk n .unit i (one (im 27 (tk i) (tk i).t) .nil) (i+1)
 |ufn {i j:Nat}{R:Fo}:(tk i).k=18->i<n->P tk n (.body (tk i)) (i+1) R j->P tk n .unit i R j
 |utab {i j:Nat}{E:Fo}:(tk i).k=42->i<n->P tk n .entries (i+1) E j->(tk j).k=43->j+1<n->P tk n .unit i (one (im 35 (tk i) (tk j).t) E) (j+1)
 |ubas {i j:Nat}{R:Fo}:(tk i).k=1\/(tk i).k=40->i<n->P tk n .base i R j->P tk n .unit i R j
 |ex {p:Int}{i k j:Nat}{x R:Fo}:(tk i).k≠6->i<n->P tk n .unit i x k->P tk n (.more p (tk i) x) k R j->P tk n (.expr p) i R j
 |mstop {p:Int}{s:Tk}{x:Fo}{k:Nat}:k<n->(ja (tk k).k=true->KB (tk k).k<p)->P tk n (.more p s x) k x k
 |mgo {p:Int}{s:Tk}{x y R:Fo}{k k1 j:Nat}:k<n->ja (tk k).k=true->p<=KB (tk k).k->P tk n (.expr (rpw (tk k).k)) (k+1) y k1->P tk n (.more p s (one (pd (tk k).k s (tk (k1-1)).t) (x.app y))) k1 R j->P tk n (.more p s x) k R j
 |bname {i j:Nat}{R:Fo}:(tk i).k=1->i<n->P tk n (.post (tk i) (one (nd 26 (tk i) (tk i).t 0 0 (tk i).x []) .nil)) (i+1) R j->P tk n .base i R j
 |bopen {i k j:Nat}{N:Nd}{ks R:Fo}:(tk i).k=40->i<n->P tk n (.expr 0) (i+1) (one N ks) k->(tk k).k=41->k<n->P tk n (.post (tk i) (jG N ks (tk i) (tk k).t)) (k+1) R j->P tk n .base i R j
 |pstop {s:Tk}{B:Fo}{k:Nat}:k<n->G5 (tk k).k=false->P tk n (.post s B) k B k
 |pdot {s:Tk}{B R:Fo}{k j:Nat}:(tk k).k=48->(tk (k+1)).k=1->k+1<n->P tk n (.post s (one (nd 33 s (tk (k+1)).t 0 0 (tk (k+1)).x []) B)) (k+2) R j->P tk n (.post s B) k R j
 |psq {s:Tk}{B Y R:Fo}{k k1 j:Nat}:(tk k).k=44->k<n->P tk n (.expr 0) (k+1) Y k1->(tk k1).k=45->k1<n->P tk n (.post s (one (im 32 s (tk k1).t) (B.app Y))) (k1+1) R j->P tk n (.post s B) k R j
 |pcall0 {s:Tk}{B R:Fo}{k j:Nat}:(tk k).k=40->(tk (k+1)).k=41->k+1<n->P tk n (.post s (one (im 34 s (tk (k+1)).t) B)) (k+2) R j->P tk n (.post s B) k R j
 |pcall {s:Tk}{B Y R:Fo}{k k1 j:Nat}:(tk k).k=40->k+1<n->(tk (k+1)).k≠41->P tk n .exprs (k+1) Y k1->(tk k1).k=41->k1<n->P tk n (.post s (one (im 34 s (tk k1).t) (B.app Y))) (k1+1) R j->P tk n (.post s B) k R j
 |es {i k j:Nat}{x R:Fo}:P tk n (.expr 0) i x k->P tk n .moreE k R j->P tk n .exprs i (x.app R) j
 |estop {k:Nat}:(tk k).k≠46->k<n->P tk n .moreE k .nil k
 |ego {k k1 j:Nat}{x R:Fo}:(tk k).k=46->k<n->P tk n (.expr 0) (k+1) x k1->P tk n .moreE k1 R j->P tk n .moreE k (x.app R) j
 |bstop {k:Nat}:(tk k).k≠46->k<n->P tk n .moreB k .nil k
 |bgo {k k1 j:Nat}{x R:Fo}:(tk k).k=46->k<n->P tk n .base (k+1) x k1->P tk n .moreB k1 R j->P tk n .moreB k (x.app R) j
 |body {i k j:Nat}{s:Tk}{nm:List ByteArray}{r:Bool}{B:Fo}:(tk i).k=40->i<n->Prm tk n (i+1) nm r k->P tk n .block k B j->P tk n (.body s) i (one (nd 36 s (tk (j-1)).t (if r=true then 1 else 0) 0 z0 nm) B) j
 |block {i k:Nat}{S:Fo}:(tk i).k=42->i<n->P tk n .stats (i+1) S k->(tk k).k=43->k+1<n->P tk n .block i (one (im 1 (tk i) (tk k).t) S) (k+1)
 |sstop {k:Nat}:(tk k).k=43\/(tk k).k=6->k<n->P tk n .stats k .nil k
 |ssep {k j:Nat}{R:Fo}:(tk k).k=5->k<n->P tk n .stats (k+1) R j->P tk n .stats k R j
 |sgo {k k1 j:Nat}{x R:Fo}:(tk k).k≠5->(tk k).k≠6->(tk k).k≠43->k<n->P tk n .stat k x k1->P tk n .stats k1 R j->P tk n .stats k (x.app R) j
 |nstop {k:Nat}:(tk k).k=43->k<n->P tk n .entries k .nil k
 |ncom {k k1 j:Nat}{x R:Fo}:(tk k).k≠43->k<n->P tk n .entry k x k1->(tk k1).k=46->k1<n->P tk n .entries (k1+1) R j->P tk n .entries k (x.app R) j
 |nlast {k k1 j:Nat}{x R:Fo}:(tk k).k≠43->k<n->P tk n .entry k x k1->(tk k1).k≠46->k1<n->P tk n .entries k1 R j->P tk n .entries k (x.app R) j
 |item {i j:Nat}{x:Fo}:(tk i).k≠48->(tk i).k≠44->(tk i).k≠6->i<n->P tk n (.expr 0) i x j->P tk n .entry i (one (im 40 (tk i) (tk (j-1)).t) x) j
 |pair {i k j:Nat}{x y:Fo}:(tk i).k=44->i<n->P tk n (.expr 0) (i+1) x k->(tk k).k=45->(tk (k+1)).k=47->k+1<n->P tk n (.expr 0) (k+2) y j->P tk n .entry i (one (im 41 (tk i) (tk (j-1)).t) (x.app y)) j
 |named {i j:Nat}{y:Fo}:(tk i).k=48->(tk (i+1)).k=1->(tk (i+2)).k=47->i+2<n->P tk n (.expr 0) (i+3) y j->P tk n .entry i (one (nd 42 (tk i) (tk (j-1)).t 0 0 (tk (i+1)).x []) y) j
 |belif {i k k1 j:Nat}{x b z:Fo}:(tk i).k=20\/(tk i).k=15->i<n->P tk n (.expr 0) (i+1) x k->P tk n .block k b k1->(tk k1).k=15->k1<n->P tk n .branch k1 z j->P tk n .branch i (one (im 7 (tk i) (tk (j-1)).t) ((x.app b).app z)) j
 |belse {i k k1 j:Nat}{x b z:Fo}:(tk i).k=20\/(tk i).k=15->i<n->P tk n (.expr 0) (i+1) x k->P tk n .block k b k1->(tk k1).k=16->k1<n->P tk n .block (k1+1) z j->P tk n .branch i (one (im 7 (tk i) (tk (j-1)).t) ((x.app b).app z)) j
 |bno {i k k1:Nat}{x b:Fo}:(tk i).k=20\/(tk i).k=15->i<n->P tk n (.expr 0) (i+1) x k->P tk n .block k b k1->(tk k1).k≠15->(tk k1).k≠16->k1<n->P tk n .branch i (one (im 7 (tk i) (tk (k1-1)).t) (x.app b)) k1
 |tlet0 {i k:Nat}{ns:List ByteArray}:(tk i).k=22->i+1<n->(tk (i+1)).k=1->GA tk n (i+2) ns k->(tk k).k≠47->P tk n .stat i (one (nd 2 (tk i) (tk (k-1)).t 0 0 z0 ((tk (i+1)).x::ns)) .nil) k
 |tlet {i k j:Nat}{ns:List ByteArray}{E:Fo}:(tk i).k=22->i+1<n->(tk (i+1)).k=1->GA tk n (i+2) ns k->(tk k).k=47->P tk n .exprs (k+1) E j->P tk n .stat i (one (nd 2 (tk i) (tk (j-1)).t 0 0 z0 ((tk (i+1)).x::ns)) E) j
 |tcon {i j:Nat}{x:Fo}:(tk i).k=13->(tk (i+1)).k=1->(tk (i+2)).k=47->i+2<n->P tk n (.expr 0) (i+3) x j->P tk n .stat i (one (nd 3 (tk i) (tk (j-1)).t 0 0 z0 [(tk (i+1)).x]) x) j
 |tfn {i j:Nat}{B:Fo}:(tk i).k=18->(tk (i+1)).k=1->(tk (i+2)).k=40->i+2<n->P tk n (.body (tk (i+2))) (i+2) B j->P tk n .stat i (one (nd 4 (tk i) (tk (j-1)).t 0 0 z0 [(tk (i+1)).x]) B) j
 |tif {i j:Nat}{R:Fo}:(tk i).k=20->i<n->P tk n .branch i R j->P tk n .stat i R j
 |twhile {i k j:Nat}{x b:Fo}:(tk i).k=31->i<n->P tk n (.expr 0) (i+1) x k->P tk n .block k b j->P tk n .stat i (one (im 8 (tk i) (tk (j-1)).t) (x.app b)) j
 |tfor {i k k1 j:Nat}{ns:List ByteArray}{E b:Fo}:(tk i).k=19->i+1<n->(tk (i+1)).k=1->GA tk n (i+2) ns k->(tk k).k=47->P tk n .exprs (k+1) E k1->P tk n .block k1 b j->P tk n .stat i (one (nd 9 (tk i) (tk (j-1)).t 0 0 z0 ((tk (i+1)).x::ns)) (E.app b)) j
 |teach {i k k1 j:Nat}{ns:List ByteArray}{x b:Fo}:(tk i).k=19->i+1<n->(tk (i+1)).k=1->GA tk n (i+2) ns k->(tk k).k=21->P tk n (.expr 0) (k+1) x k1->(tk k1).k=42->k1<n->P tk n .block k1 b j->P tk n .stat i (one (nd 10 (tk i) (tk (j-1)).t 0 0 z0 ((tk (i+1)).x::ns)) (x.app b)) j
 |tbreak {i:Nat}:(tk i).k=11->i+1<n->P tk n .stat i (one (im 11 (tk i) (tk i).t) .nil) (i+1)
 |tnext {i:Nat}:(tk i).k=23->i+1<n->P tk n .stat i (one (im 12 (tk i) (tk i).t) .nil) (i+1)
 |tret0 {i:Nat}:(tk i).k=27->i+1<n->(tk (i+1)).k=5\/(tk (i+1)).k=6\/(tk (i+1)).k=43->P tk n .stat i (one (im 13 (tk i) (tk i).t) .nil) (i+1)
 |tret {i j:Nat}{E:Fo}:(tk i).k=27->i+1<n->dH (tk (i+1)).k=true->P tk n .exprs (i+1) E j->P tk n .stat i (one (im 13 (tk i) (tk (j-1)).t) E) j
 |ttry {i k k1 j:Nat}{ns:List ByteArray}{a b:Fo}:(tk i).k=30->i<n->P tk n .block (i+1) a k->(tk k).k=12->k+1<n->(tk (k+1)).k=1->GA tk n (k+2) ns k1->P tk n .block k1 b j->P tk n .stat i (one (nd 14 (tk i) (tk (j-1)).t 0 0 z0 ((tk (k+1)).x::ns)) (a.app b)) j
 |tthrow {i j:Nat}{x:Fo}:(tk i).k=28->i<n->P tk n (.expr 0) (i+1) x j->P tk n .stat i (one (im 15 (tk i) (tk (j-1)).t) x) j
 |tdefer {i j:Nat}{x:Fo}:(tk i).k=14->i<n->P tk n .base (i+1) x j->P tk n .stat i (one (im 16 (tk i) (tk (j-1)).t) x) j
 |tblock {i j:Nat}{R:Fo}:(tk i).k=42->i<n->P tk n .block i R j->P tk n .stat i R j
 |tdo {i j:Nat}{x:Fo}:(tk i).k=1\/(tk i).k=40->i<n->P tk n .base i x j->(tk j).k≠46->(tk j).k≠47->j<n->P tk n .stat i (one (im 6 (tk i) (tk (j-1)).t) x) j
 |tset {i k k1 j:Nat}{x R E:Fo}:(tk i).k=1\/(tk i).k=40->i<n->P tk n .base i x k->P tk n .moreB k R k1->(tk k1).k=47->k1<n->P tk n .exprs (k1+1) E j->P tk n .stat i (one (nd 5 (tk i) (tk (j-1)).t 0 ((x.app R).len:Nat) z0 []) ((x.app R).app E)) j
def iH:Nat->List Int->Int->Nat->Option (List Int×Option Bool×Nat)
 |0,_,_,_=>none
 |_+1,[],_,n=>F ([],none,n)
 |f+1,s::r,t,n=>if s<100 then F (r,F (decide (s=t)),n) else if(xE s t).2=A then iH f ((xE s t).1++r) t (n+(xE s t).1.length) else F (r,F C,n)
def ed:List Int->Int->List Int×Bool
 |[],_=>([],C)
 |s::r,t=>if s<100 then(r,decide (s=t)) else if(xE s t).1=[]/\(xE s t).2=A then ed r t else match iH 8 [s] t 0 with|some (a,some b,_)=>(a++r,b)|_=>([],C)
def afh(s t:Int):Bool:=
 (xE s t).1.all (fun b=>decide (b<=133))&&(decide ((xE s t).1.length<=7)&&
 (if(xE s t).1=[]/\(xE s t).2=A then A else match iH 8 [s] t 0 with|some (_,some _,a)=>decide (a<=20)|_=>C))
theorem afi:((List.range 34).all fun s=>(List.range 78).all fun t=>afh ((s:Int)+100) ((t:Int)+1))=A:=by decide+kernel
theorem abu{s t:Int}(e:100<=s)(f:s<=133)(g:1<=t)(h:t<=78):afh s t=A:=by
 have d:=List.all_eq_true.1 afi (s-100).toNat (by rw[xH];omega);have a:=List.all_eq_true.1 d (t-1).toNat (by rw[xH];omega);have b:(((s-100).toNat:Nat):Int)+100=s:=by omega
 have c:(((t-1).toNat:Nat):Int)+1=t:=by omega
 rw[b,c]at a;exact a
theorem Jb{s t:Int}(b:100<=s)(c:s<=133)(e:1<=t)(f:t<=78):(∀x∈(xE s t).1,x<=133)/\(xE s t).1.length<=7:=by
 have a:=abu b c e f;unfold afh at a;rw[aB,aB]at a;exact⟨fun x d=>bc (List.all_eq_true.1 a.1 x d),bc a.2.1⟩
theorem C7{s t:Int}(f:100<=s)(g:s<=133)(i:1<=t)(j:t<=78)(h:¬((xE s t).1=[]/\(xE s t).2=A)):∃d b n,iH 8 [s] t 0=F (d,F b,n)/\n<=20:=by
 have a:=abu f g i j;unfold afh at a;rw[aB,aB,aa h]at a;have c:=a.2.2;split at c
 ·rename_i d b n e;exact⟨d,b,n,e,bc c⟩
 ·cases c
theorem rA{s t:Int}{r:List Int}(b:100<=s)(a:(xE s t).1=[]/\(xE s t).2=A):ed (s::r) t=ed r t:=by
 rw[ed,aa (by omega),ab a]
theorem rB{s t:Int}{r a:List Int}{b:Bool}{n:Nat}(e:100<=s)(c:¬((xE s t).1=[]/\(xE s t).2=A))(d:iH 8 [s] t 0=F (a,F b,n)):ed (s::r) t=(a++r,b):=by
 rw[ed,aa (by omega),aa c,d]
theorem pf{s t:Int}{r:List Int}(a:s<100):ed (s::r) t=(r,decide (s=t)):=by
 rw[ed,ab a]
theorem jo{s t:Int}{r c:List Int}{b:Option Bool}{d n m:Nat}(h:iH (d+1) (s::r) t n=F (c,b,m))(e:100<=s):((xE s t).2=A/\iH d ((xE s t).1++r) t (n+(xE s t).1.length)=F (c,b,m))\/((xE s t).2=C/\c=r/\b=F C/\m=n):=by
 rw[iH,aa (by omega)]at h;split at h
 ·rename_i a;exact .inl ⟨a,h⟩
 ·rename_i a;simp only[gg,oc]at h;exact .inr ⟨by simpa using a,h.1.symm,h.2.1.symm,h.2.2.symm⟩
theorem qz{s t:Int}{r a:List Int}{b:Option Bool}{c n m:Nat}(h:iH (c+1) (s::r) t n=F (a,b,m))(d:s<100):a=r/\b=F (decide (s=t))/\m=n:=by
 rw[iH,ab d]at h;simp only[gg,oc]at h;exact⟨h.1.symm,h.2.1.symm,h.2.2.symm⟩
def OkS(st:List Int):Prop:=∀a∈st,a<=133
theorem Jc:∀{f:Nat}{st:List Int}{t:Int}{n:Nat}{c:List Int}{b:Option Bool}{m:Nat},OkS st->1<=t->t<=78->iH f st t n=F (c,b,m)->OkS c
 |0,_,_,_,_,_,_,_,_,_,h=>by simp[iH]at h
 |f+1,[],t,n,c,b,m,a,_,_,h=>by
  simp only[iH,gg,oc]at h;rw[<-h.1];exact a
 |f+1,s::r,t,n,c,b,m,a,i,j,h=>by
  have g:OkS r:=fun d hx=>a d (dJ _ hx);by_cases k:s<100
  ·rw[(qz h k).1];exact g
  ·rcases jo h (by omega) with⟨_,e⟩|⟨_,e,_⟩
   ·refine Jc (fun d hx=>?_) i j e;rcases List.mem_append.1 hx with hx|hx
    ·exact(Jb (by omega) (a s (cH ..)) i j).1 d hx
    ·exact g d hx
   ·rw[e];exact g
theorem zp:∀{st:List Int}{t:Int},OkS st->1<=t->t<=78->OkS (ed st t).1
 |[],t,a,_,_=>by rw[ed];exact a
 |s::r,t,a,e,f=>by
  have d:OkS r:=fun b hx=>a b (dJ _ hx);by_cases i:s<100
  ·rw[pf i];exact d
  ·have h:=a s (cH ..);by_cases c:(xE s t).1=[]/\(xE s t).2=A
   ·rw[rA (by omega) c];exact zp d e f
   ·obtain⟨l,k,m,g,_⟩:=C7 (by omega) h e f c;rw[rB (by omega) c g];intro b hx;rcases List.mem_append.1 hx with hx|hx
    ·refine Jc (st:=[s]) ?_ e f g b hx;intro n j;obtain rfl:=List.mem_singleton.1 j;exact h
    ·exact d b hx
