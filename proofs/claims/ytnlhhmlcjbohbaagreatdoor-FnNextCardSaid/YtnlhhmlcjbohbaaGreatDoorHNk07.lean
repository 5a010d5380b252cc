import Derived.Test.YtnlhhmlcjbohbaaGreatDoorHNk02
import Derived.Test.YtnlhhmlcjbohbaaGreatDoorHNk06
import Derived.Shelf.Strings.BuilderK
import Derived.Shelf.Strings.Builder2
import Derived.Laws.AppendOwnNone
set_option linter.all false
set_option maxRecDepth 100000
set_option maxHeartbeats 12800000
open Bool renaming true->M,false->Ax
open Option renaming some->O,none->U
open Go renaming World->V,Value->A9,Program->B1,Calls->B7,KeepsFrom->Cr
open Go.Proofs.Tryz renaming prog->A0
open Go.World renaming putObj_heap_other->A2
open Go.IntKind renaming i64->A5
open Go.Ending renaming returned->Br
open Go.Value renaming int->B0,int->B3,slice->B4,bool->Ce,string->Ck,string->C2,tuple->C4
open Go.Fence renaming wide->B6
namespace Go.Proofs.YtnlhhmlcjbohbaaGreatDoor
variable{C:Nat->Bool}{K:Act->World->Prop}{Q:Exit->Act->World->Prop}{S S2:World->Prop}{W w:World}{a:Act}{i l n:Nat}{lo r:List Int}{md:Region.Mode}{o:Oper}{ops:Array Oper}{s t:Int}{v:Value}
def po(t:Int):Bool:=decide (t=25\/t=50\/t=62\/t=69)
def jr(t:Int):Bool:=decide (t=10\/t=26\/60<t)
def fD(t:Int):Bool:=decide (t=1\/t=2\/t=3\/t=4\/t=24\/t=29\/t=17\/t=49\/t=18\/t=40\/t=42)||po t
def ja(t:Int):List Int×Bool:=if t=22 then([t,1,104,103],M) else if t=13 then([t,1,47,119],M) else if t=18 then([t,1,133],M) else if t=20 then([t,119,132,105],M) else if t=31 then([t,119,132],M) else if t=19 then([t,1,106],M) else if t=11 then([t],M) else if t=23 then([t],M) else if t=27 then([t,108],M) else if t=30 then([t,132,12,1,109,132],M) else if t=28 then([t,119],M) else if t=14 then([t,116],M) else if t=42 then([132],M) else if t=1 then([t,110],M) else if t=40 then([t,119,41,112],M) else([],Ax)
def rl(t a c:Int):List Int:=if t=48 then [t,1,a] else if t=44 then [t,119,45,a] else if t=40 then [t,123,41,c] else []
def JF(t:Int):List Int×Bool:=if po t=M then([t,120],M) else if t=1 then([t,122],M) else if t=40 then([t,119,41,122],M) else if t=42 then([t,129,43],M) else if t=18 then([t,133],M) else([t],fD t)
def adF(t:Int):List Int×Bool:=if t=5 then([t,100],M) else if(ja t).2=M then((ja t).1++[101],M) else([],M)
def ajz(t:Int):List Int×Bool:=if t=5 then([t,100],M) else([],M)
def apJ(t:Int):List Int×Bool:=([40,126,41,132],decide (t=40))
def ajA(t:Int):List Int×Bool:=if t=47 then([t,124],M) else([],M)
def ajB(t:Int):List Int×Bool:=if t=46 then([t,1,104],M) else([],M)
def afv(t:Int):List Int×Bool:=if t=15 then([t,119,132,105],M) else if t=16 then([t,132],M) else([],M)
def ajC(t:Int):List Int×Bool:=if t=47 then([t,119,46,119,107,132],M) else([104,21,119,132],decide (t=46\/t=21))
def ajD(t:Int):List Int×Bool:=if t=46 then([t,119],M) else([],M)
def ajE(t:Int):List Int×Bool:=if fD t=M then([124],M) else([],M)
def ajF(t:Int):List Int×Bool:=if t=46 then([t,1],M) else([],M)
def afw(t:Int):List Int×Bool:=if t=48 then([t,1,110],M) else if t=44 then([t,119,45,110],M) else if t=40 then([t,123,41,111],M) else if t=46 then([t,113],M) else if t=47 then([t,124],M) else([],Ax)
def am4(t:Int):List Int×Bool:=if t=48 then([t,1,110],M) else if t=44 then([t,119,45,110],M) else if t=40 then([t,123,41,111],M) else([],M)
def am5(t:Int):List Int×Bool:=if t=48 then([t,1,110],M) else if t=44 then([t,119,45,110],M) else if t=40 then([t,123,41,111],M) else([],Ax)
def afx(t:Int):List Int×Bool:=if t=1 then([t,114],M) else if t=40 then([t,119,41,115],M) else([],Ax)
def afy(t:Int):List Int×Bool:=if t=48 then([t,1,114],M) else if t=44 then([t,119,45,114],M) else if t=40 then([t,123,41,115],M) else if t=46 then([t,113],M) else if t=47 then([t,124],M) else([],Ax)
def am6(t:Int):List Int×Bool:=if t=48 then([t,1,114],M) else if t=44 then([t,119,45,114],M) else if t=40 then([t,123,41,115],M) else([],Ax)
def afz(t:Int):List Int×Bool:=if t=1 then([t,117],M) else if t=40 then([t,119,41,117],M) else([],Ax)
def am7(t:Int):List Int×Bool:=if t=48 then([t,1,117],M) else if t=44 then([t,119,45,117],M) else if t=40 then([t,123,41,118],M) else([],Ax)
def am8(t:Int):List Int×Bool:=if t=48 then([t,1,117],M) else if t=44 then([t,119,45,117],M) else if t=40 then([t,123,41,118],M) else([],M)
def ajG(t:Int):List Int×Bool:=([120,121],fD t)
def apK(t:Int):List Int×Bool:=JF t
def ajH(t:Int):List Int×Bool:=if jr t=M then([t,119],M) else([],M)
def ajI(t:Int):List Int×Bool:=(rl t 122 122,M)
def ajJ(t:Int):List Int×Bool:=if fD t=M then([124],M) else([],M)
def am9(t:Int):List Int×Bool:=([119,125],fD t)
def ajK(t:Int):List Int×Bool:=if t=46 then([t,119,125],M) else([],M)
def afA(t:Int):List Int×Bool:=if t=1 then([t,127],M) else if t=49 then([t],M) else([],M)
def ajL(t:Int):List Int×Bool:=if t=46 then([t,128],M) else([],M)
def afB(t:Int):List Int×Bool:=if t=1 then([t,127],M) else if t=49 then([t],M) else([],Ax)
def aj0(t:Int):List Int×Bool:=if fD t=M then([131,130],M) else if t=48 then([131,130],M) else if t=44 then([131,130],M) else([],M)
def aj1(t:Int):List Int×Bool:=if t=46 then([t,129],M) else([],M)
def afC(t:Int):List Int×Bool:=if t=48 then([t,1,47,119],M) else if t=44 then([t,119,45,47,119],M) else([119],fD t)
def afD(t:Int):List Int×Bool:=([42,100,43],decide (t=42))
def aj2(t:Int):List Int×Bool:=([40,126,41,132],decide (t=40))
def xE(s t:Int):List Int×Bool:=
 if s=100 then adF t else if s=101 then ajz t else if s=102 then apJ t else if s=103 then ajA t else if s=104 then ajB t else if s=105 then afv t else if s=106 then ajC t else if s=107 then ajD t else if s=108 then ajE t else if s=109 then ajF t else if s=110 then afw t else if s=111 then am4 t else if s=112 then am5 t else if s=113 then afx t else if s=114 then afy t else if s=115 then am6 t else if s=116 then afz t else if s=117 then am7 t else if s=118 then am8 t else if s=119 then ajG t else if s=120 then apK t else if s=121 then ajH t else if s=122 then ajI t else if s=123 then ajJ t else if s=124 then am9 t else if s=125 then ajK t else if s=126 then afA t else if s=127 then ajL t else if s=128 then afB t else if s=129 then aj0 t else if s=130 then aj1 t else if s=131 then afC t else if s=132 then afD t else aj2 t
def eL:Nat->List Int->Int->Nat->Option (List Int×Option Bool×Nat)
 |0,_,_,_=>U
 |_+1,[],_,n=>O ([],U,n)
 |f+1,s::r,t,n=>if s<100 then O (r,O (decide (s=t)),n) else if(xE s t).2=M then eL f ((xE s t).1++r) t (n+(xE s t).1.length) else O (r,O Ax,n)
def feedL:List Int->Int->List Int×Bool
 |[],_=>([],Ax)
 |s::r,t=>if s<100 then(r,decide (s=t)) else if(xE s t).1=[]/\(xE s t).2=M then feedL r t else match eL 8 [s] t 0 with|some (lo,some b,_)=>(lo++r,b)|_=>([],Ax)
def aj3(s t:Int):Bool:=
 (xE s t).1.all (fun a=>decide (a<=133))&&(decide ((xE s t).1.length<=7)&&
 (if(xE s t).1=[]/\(xE s t).2=M then M else match eL 8 [s] t 0 with|some (_,some _,n)=>decide (n<=20)|_=>Ax))
theorem aj4:((List.range 34).all fun s=>(List.range 78).all fun t=>aj3 ((s:Int)+100) ((t:Int)+1))=M:=by decide+kernel
theorem afE(e:100<=s)(f:s<=133)(g:1<=t)(h:t<=78):aj3 s t=M:=by
 have d:=List.all_eq_true.1 aj4 (s-100).toNat (by rw[ix];omega);have a:=List.all_eq_true.1 d (t-1).toNat (by rw[ix];omega);have b:(((s-100).toNat:Nat):Int)+100=s:=by omega
 have c:(((t-1).toNat:Nat):Int)+1=t:=by omega
 rw[b,c]at a;exact a
theorem acj(b:100<=s)(c:s<=133)(e:1<=t)(f:t<=78):(∀x∈(xE s t).1,x<=133)/\(xE s t).1.length<=7:=by
 have a:=afE b c e f;unfold aj3 at a;rw[cd,cd]at a;exact⟨fun x d=>aG (List.all_eq_true.1 a.1 x d),aG a.2.1⟩
theorem uA(e:100<=s)(f:s<=133)(h:1<=t)(i:t<=78)(g:¬((xE s t).1=[]/\(xE s t).2=M)):∃lo b n,eL 8 [s] t 0=O (lo,O b,n)/\n<=20:=by
 have a:=afE e f h i;unfold aj3 at a;rw[cd,cd,aa g]at a;have c:=a.2.2;split at c
 ·rename_i lo b n d;exact⟨lo,b,n,d,aG c⟩
 ·cases c
theorem lH(b:100<=s)(a:(xE s t).1=[]/\(xE s t).2=M):feedL (s::r) t=feedL r t:=by
 rw[feedL,aa (by omega),ab a]
theorem lI{b:Bool}(d:100<=s)(a:¬((xE s t).1=[]/\(xE s t).2=M))(c:eL 8 [s] t 0=O (lo,O b,n)):feedL (s::r) t=(lo++r,b):=by
 rw[feedL,aa (by omega),aa a,c]
theorem jb(a:s<100):feedL (s::r) t=(r,decide (s=t)):=by
 rw[feedL,ab a]
theorem kL{b:Option Bool}{f m:Nat}(h:eL (f+1) (s::r) t n=O (lo,b,m))(c:100<=s):((xE s t).2=M/\eL f ((xE s t).1++r) t (n+(xE s t).1.length)=O (lo,b,m))\/((xE s t).2=Ax/\lo=r/\b=O Ax/\m=n):=by
 rw[eL,aa (by omega)]at h;split at h
 ·rename_i a;exact .inl ⟨a,h⟩
 ·rename_i a;simp only[eA,gD]at h;exact .inr ⟨by simpa using a,h.1.symm,h.2.1.symm,h.2.2.symm⟩
theorem sj{b:Option Bool}{f m:Nat}(h:eL (f+1) (s::r) t n=O (lo,b,m))(a:s<100):lo=r/\b=O (decide (s=t))/\m=n:=by
 rw[eL,ab a]at h;simp only[eA,gD]at h;exact⟨h.1.symm,h.2.1.symm,h.2.2.symm⟩
def Cn(st:List Int):Prop:=∀a∈st,a<=133
theorem ack:∀{f:Nat}{st:List Int}{t:Int}{n:Nat}{lo:List Int}{b:Option Bool}{m:Nat},Cn st->1<=t->t<=78->eL f st t n=O (lo,b,m)->Cn lo
 |0,_,_,_,_,_,_,_,_,_,h=>by simp[eL]at h
 |f+1,[],t,n,lo,b,m,a,_,_,h=>by
  simp only[eL,eA,gD]at h;rw[<-h.1];exact a
 |f+1,s::r,t,n,lo,b,m,a,g,i,h=>by
  have e:Cn r:=fun c hx=>a c (cL _ hx);by_cases j:s<100
  ·rw[(sj h j).1];exact e
  ·rcases kL h (by omega) with⟨_,d⟩|⟨_,d,_⟩
   ·refine ack (fun c hx=>?_) g i d;rcases List.mem_append.1 hx with hx|hx
    ·exact(acj (by omega) (a s (bB ..)) g i).1 c hx
    ·exact e c hx
   ·rw[d];exact e
theorem yG:∀{st:List Int}{t:Int},Cn st->1<=t->t<=78->Cn (feedL st t).1
 |[],t,a,_,_=>by rw[feedL];exact a
 |s::r,t,a,e,f=>by
  have d:Cn r:=fun b hx=>a b (cL _ hx);by_cases i:s<100
  ·rw[jb i];exact d
  ·have h:=a s (bB ..);by_cases c:(xE s t).1=[]/\(xE s t).2=M
   ·rw[lH (by omega) c];exact yG d e f
   ·obtain⟨l,k,m,g,_⟩:=uA (by omega) h e f c;rw[lI (by omega) c g];intro b hx;rcases List.mem_append.1 hx with hx|hx
    ·refine ack (st:=[s]) ?_ e f g b hx;intro n j;obtain rfl:=List.mem_singleton.1 j;exact h
    ·exact d b hx
open Go.RowKit
theorem mE{B:Nat}{a:V}(h:Below B a w)(n:Nat):Below B a (w.drewN n):=⟨h.os,h.tape,h.output,h.size,h.block⟩
theorem dJ{B:Nat}{a:V}(h:Below B a w):Below B a w.drew:=⟨h.os,h.tape,h.output,h.size,h.block⟩
theorem cj{base e size:Nat}{d:List A9}(h:W.ownsRow base e size v n d):∃a b,v= B4 a n b:=by
 rcases h.2 with⟨rfl,c⟩|⟨g,b,f,rfl,_⟩
 ·exact⟨U,0,by rw[c]⟩
 ·exact⟨_,_,rfl⟩
theorem uB(w:V)(b:Option Nat):w.grownBy w b:=⟨rfl,rfl,rfl,ae _,fun _ _ _=>rfl⟩
theorem rm{c:V}{b:Nat}(h:c.grownBy w (O b))(i:Nat)(v:A9):c.grownBy (w.setCell ⟨b,i,U⟩ v) (O b):=
 ⟨h.os,h.tape,h.output,by simpa [World.setCell] using h.size,fun f e a=>by rw[aC _ _ _ _ (fun d=>a (by rw[d]))];exact h.block f e a⟩
theorem bq{base e size:Nat}{c:List A9}(h:W.ownsRow base e size v n c):(n=0/\v= B4 U 0 0)\/∃g a,v= B4 (O ⟨g,0,U⟩) n a:=by
 rcases h.2 with⟨rfl,b⟩|⟨g,a,d,rfl,_⟩
 ·exact .inl ⟨b,rfl⟩
 ·exact .inr ⟨_,_,rfl⟩
structure Mb where
 N:Nd
 vn:A9
 vk:A9
def cMb(x:Mb):List A9:=[B0 A5 x.N.k,B0 A5 x.N.f,B0 A5 x.N.t,B0 A5 x.N.l,B0 A5 x.N.op,B0 A5 x.N.n,Ck x.N.x,x.vn,x.vk]
def oF(l:List Mb):List A9:=l.flatMap cMb
theorem Fu(a:Mb)(r:List Mb):oF (a::r)=cMb a++oF r:=by simp[oF]
theorem C9(a b:List Mb):oF (a++b)=oF a++oF b:=by simp[oF]
theorem afF(l:List Mb):(oF l).length=l.length*9:=by
 induction l with
 |nil=>rfl
 |cons a d b=>
  have c:(cMb a).length=9:=rfl;rw[Fu,aB,b,c,bi];omega
theorem aj6(ts:List Mb)(i j:Nat)(T:Mb)(a:ts[i]?=O T)(e:j<9):(oF ts)[i*9+j]?=(cMb T)[j]?:=by
 induction ts generalizing i with
 |nil=>simp at a
 |cons b f c=>
  have d:(cMb b).length=9:=rfl;rw[Fu];cases i with
  |zero=>simp at a;subst a;rw[ia (by omega)];congr 1;omega
  |succ i=>
   rw[fy (by omega),d,show(i+1)*9+j-9=i*9+j by omega];exact c i (by simpa using a)
def afG(d:List A9):Prop:=∀(i c:Nat)(a b:A9),i≠c->d[i]?=O a->d[c]?=O b->a.ownBlock=U\/a.ownBlock≠b.ownBlock
structure Fv (W:V) (lo hi:Nat) (x:Mb):Prop where
 on:W.ownsRow lo 9 1 x.vn x.N.nm.length (x.N.nm.map C2)
 ok:W.ownsRow lo 3 1 x.vk x.N.ks.length (x.N.ks.map (B3 .i64))
 hn:∀g,x.vn.ownBlock=O g->g<hi
 hk:∀g,x.vk.ownBlock=O g->g<hi
structure qg (W:V) (lo hi:Nat) (v:A9) (L:List Mb):Prop where
 row:W.ownsRow lo 111 9 v L.length (oF L)
 hh:∀g,v.ownBlock=O g->g<hi
 each:∀x∈L,Fv W lo hi x
 dn:afG (L.map Mb.vn)
 dk:afG (L.map Mb.vk)
theorem Fw{base:Nat}{l:List ByteArray}(h:W.ownsRow base 9 1 v l.length (l.map C2)):dA W v l:=by
 rcases bq h with⟨a,rfl⟩|⟨c,b,rfl⟩
 ·exact .inl ⟨nK a,_,_,rfl⟩
 ·exact Jo h rfl
theorem pE{base:Nat}{l:List Int}(h:W.ownsRow base 3 1 v l.length (l.map (B3 A5))):dm W v l:=by
 rcases bq h with⟨a,rfl⟩|⟨c,b,rfl⟩
 ·exact .inl ⟨nK a,_,_,rfl⟩
 ·exact Jp h rfl
theorem wh{lo g e:Nat}{b:List Mb}(h:W.ownsRow lo 111 9 (B4 (O ⟨g,0,U⟩) n e) n (oF b)){x:Mb}(d:b[i]?=O x):
  W.cell? ⟨g,i*9,U⟩=O (B0 A5 x.N.k)/\W.cell? ⟨g,i*9+1,U⟩=O (B0 A5 x.N.f)/\W.cell? ⟨g,i*9+2,U⟩=O (B0 A5 x.N.t)/\W.cell? ⟨g,i*9+3,U⟩=O (B0 A5 x.N.l)/\W.cell? ⟨g,i*9+4,U⟩=O (B0 A5 x.N.op)/\W.cell? ⟨g,i*9+5,U⟩=O (B0 A5 x.N.n)/\W.cell? ⟨g,i*9+6,U⟩=O (Ck x.N.x)/\W.cell? ⟨g,i*9+7,U⟩=O x.vn/\W.cell? ⟨g,i*9+8,U⟩=O x.vk:=by
 have o:n*9=b.length*9:=by have:=h.1;rw[afF]at this;omega
 have m:i<b.length:=by rcases aH i b.length with g|g;exact g;rw[gE g]at d;cases d
 have a:∀c,c<9->W.cell? ⟨g,i*9+c,U⟩=(cMb x)[c]?:=fun c j=>by
  rw[h.cellAt (i*9+c) (by omega),aj6 b i c x d j]
 exact⟨a 0 (by omega),a 1 (by omega),a 2 (by omega),a 3 (by omega),a 4 (by omega),a 5 (by omega),a 6 (by omega),a 7 (by omega),a 8 (by omega)⟩
def nxt(K:Nat)(N:Nd):Nat:=K+7+N.nm.length+N.ks.length
def cnt:Nat->List Nd->Nat
 |K,[]=>K
 |K,N::r=>cnt (nxt K N) r
theorem afH(a B:List Nd):∀K,cnt K (a++B)=cnt (cnt K a) B:=by
 induction a with
 |nil=>intro K;rfl
 |cons d c b=>intro K;simp[cnt,b]
structure Tk where
 k:Int
 f:Int
 t:Int
 l:Int
 n:Int
 x:ByteArray
def vTk(T:Tk):A9:= .agg #[B0 A5 T.k,B0 A5 T.f,B0 A5 T.t,B0 A5 T.l,B0 A5 T.n,Ck T.x]
def cTk(T:Tk):List A9:=[B0 A5 T.k,B0 A5 T.f,B0 A5 T.t,B0 A5 T.l,B0 A5 T.n,Ck T.x]
def ul(ts:List Tk):List A9:=ts.flatMap cTk
theorem qh(a:List Tk)(T:Tk):ul (a++[T])=ul a++cTk T:=by simp[ul]
def ld(w:V)(r:List Int×Bool)(e:Ending)(c:V):Prop:=
 ∃a b,e= Br (C4 #[B4 a r.1.length b,Ce r.2])/\c.ownsRow w.heap.size 3 1 (B4 a r.1.length b) r.1.length (r.1.map (B3 A5))/\Below w.heap.size w c
theorem afI(w:V)(l:List Int)(n:Nat)(a:l.length=n)(b:n<=100):(w.alloc (.cells (l.map (B3 A5)).toArray 3)).ownsRow w.heap.size 3 1 (B4 (O ⟨w.heap.size,0,U⟩) n n) n (l.map (B3 A5)):=by
 have:=lC (base:=w.heap.size) (e:=3) (size:=1) w (l.map (B3 A5)).toArray n (ae _) (by unfold maxLen;omega) (by simp[a]);simpa using this
theorem sn(w:V)(l:List Int)(b:Bool)(a:l.length<=100):ld w (l,b) (Br (C4 #[B4 (O ⟨w.heap.size,0,U⟩) l.length l.length,Ce b])) (w.alloc (.cells (l.map (B3 A5)).toArray 3)):=
 ⟨_,_,rfl,afI w l _ rfl a,bG w _⟩
theorem Co(w:V)(b:Bool):ld w ([],b) (Br (C4 #[B4 U 0 0,Ce b])) w:=⟨_,_,rfl,cE _ _ _ _,ah _ w⟩
theorem wi(v:A9)(w:V):B7 A0 116 #[v] w fun e a=>e= Br v/\a=w:=by
 go_in;go_wp2;go_ret;exact⟨rfl,rfl⟩
theorem yH(w:V)(t:Int):B7 A0 165 #[B0 A5 t] w fun e g=>e= Br (Ce (po t))/\g=w:=by
 by_cases a:t=25\/t=50\/t=62\/t=69
 ·have e:po t=M:=bv a;rw[e];rcases a with rfl|rfl|rfl|rfl;all_goals
   go_in;go_wp2;go_ret;exact⟨rfl,rfl⟩
 ·have e:po t=Ax:=aD a;rw[e];have b:¬t=25:=by omega
  have c:¬t=50:=by omega
  have d:¬t=62:=by omega
  have f:¬t=69:=by omega
  have h:(t==25)=Ax:=beq_eq_false_iff_ne.2 b;have i:(t==50)=Ax:=beq_eq_false_iff_ne.2 c;have j:(t==62)=Ax:=beq_eq_false_iff_ne.2 d;have k:(t==69)=Ax:=beq_eq_false_iff_ne.2 f;clear a e;go_in;go_wp2;go_ret;exact⟨rfl,rfl⟩
theorem JH(w:V)(t:Int):B7 A0 168 #[B0 A5 t] w fun e d=>e= Br (Ce (jr t))/\d=w:=by
 by_cases a:t=10\/t=26
 ·have e:jr t=M:=bv (by omega);rw[e];rcases a with rfl|rfl;all_goals
   go_in;go_wp2;go_ret;exact⟨rfl,rfl⟩
 ·have b:¬t=10:=by omega
  have c:¬t=26:=by omega
  have f:(t==10)=Ax:=beq_eq_false_iff_ne.2 b;have g:(t==26)=Ax:=beq_eq_false_iff_ne.2 c;by_cases h:60<t
  ·have e:jr t=M:=bv (by omega);rw[e];clear a e;go_in;go_wp2;go_ret;exact⟨rfl,rfl⟩
  ·have e:jr t=Ax:=aD (by omega);rw[e];clear a e;go_in;go_wp2;go_ret;exact⟨rfl,rfl⟩
theorem yI(w:V)(t:Int):B7 A0 118 #[B0 A5 t] w fun e c=>e= Br (Ce (fD t))/\c=w:=by
 by_cases a:t=1\/t=2\/t=3\/t=4\/t=24\/t=29\/t=17\/t=49\/t=18\/t=40\/t=42
 ·have e:fD t=M:=by unfold fD;rw[bv a];rfl
  rw[e];rcases a with rfl|rfl|rfl|rfl|rfl|rfl|rfl|rfl|rfl|rfl|rfl;all_goals
   go_in;go_wp2;go_ret;exact⟨rfl,rfl⟩
 ·have e:fD t=po t:=by unfold fD;rw[aD a];rfl
  rw[e];simp only[not_or]at a;obtain⟨_,_,_,_,_,_,_,_,_,_,_⟩:=a;have b:=fun w=>yH w t;clear e;generalize po t=d at b⊢;go_in;go_wp2_with (go_at_call 165;refine eH (b _) ?_);go_ret;exact⟨rfl,rfl⟩
theorem ieq(t c:Int):(t=c)=((t==c)=M):=by simp
theorem aas(w:V)(t:Int):B7 A0 117 #[B0 A5 t] w (ld w (ja t)):=by
 go_in;go_wp2_with (go_at_call 116;refine eH (wi _ _) ?_);all_goals
  go_ret2;go_tidy
  simp only[ja,ieq, *];simp[*];first|exact sn w _ _ (by simp)|exact Co w _
theorem aat(w:V)(t:Int):B7 A0 167 #[B0 A5 t] w (ld w (JF t)):=by
 have b:=fun w=>yH w t;have a:=fun w=>yI w t;go_in;go_wp2_with (first|(go_at_call 116;refine eH (wi _ _) ?_)|(go_at_call 165;refine eH (b _) ?_)|(go_at_call 118;refine eH (a _) ?_));all_goals
  go_ret2;go_tidy
  simp only[JF,ieq, *];simp[*];first|exact sn w _ _ (by simp)|exact Co w _
theorem Da(l:List Int):∀r:ByteArray,(l.foldl (fun r n=>r.push (UInt8.ofNat n.toNat)) r).data.toList=r.data.toList++l.map (fun n=>UInt8.ofNat n.toNat):=by
 induction l with
 |nil=>intro r;simp
 |cons b l a=>intro r;simp only[tq,kJ];rw[a];simp[ByteArray.push]
theorem Ae(l:List Int):(ey l).data.toList=l.map (fun n=>UInt8.ofNat n.toNat):=by
 unfold ey;rw[Da,show ByteArray.empty.data.toList=[] from rfl,ep]
theorem adG(s:ByteArray)(i:Nat):aq s i=((s.data.toList[i]?).map (fun b=>(b.toNat:Int))).getD (-1):=by
 unfold aq;by_cases a:i<s.size
 ·rw[lD a,aE (by simpa using a)];rfl
 ·rw[dif_neg a,gE (by simpa using a)];rfl
theorem uC(l:List Int)(h:∀x∈l,0<=x/\x<256)(i:Nat):aq (ey l) i=(l[i]?).getD (-1):=by
 rw[adG,Ae,bK,Option.map_map];by_cases a:i<l.length
 ·rw[aE a];have:=h _ (oe a);simp only[tj,gj,Function.comp];rw[UInt8.toNat_ofNat'];omega
 ·rw[gE (by omega)];rfl
def dF(s:ByteArray):List Int:=s.data.toList.map fun a=>(a.toNat:Int)
theorem aau(s:ByteArray):ey (dF s)=s:=by
 apply oc;apply Array.toList_inj.1;rw[Ae];unfold dF;rw[List.map_map]
 conv=>rhs;rw[<-List.map_id s.data.toList]
 apply List.map_congr_left;intro a _;simp
theorem xu(s:ByteArray):(dF s).length=s.size:=by simp[dF]
theorem JI(s:ByteArray)(k:Nat)(h:k<s.size):(dF s).take (k+1)=(dF s).take k++[(s[k].toNat:Int)]:=by
 have a:k<(dF s).length:=by rw[xu];exact h
 rw[List.take_succ_eq_append_getElem a]
 congr 2
 simp[dF];rfl
theorem Hc(d:Int)(a:0<=d)(b:d<16):32<=qA d/\qA d<=126:=by unfold qA;split<;>omega
theorem ana(c:Int)(e:0<=c)(f:c<256):∀x∈esc c,32<=x/\x<=126:=by
 unfold esc;split
 ·simp
 split
 ·simp
 split
 ·rename_i d;simp;omega
 split
 ·have a:=Hc (c / 16) (by omega) (by omega);have b:=Hc (c%16) (by omega) (by omega);simp;omega
 ·simp;omega
theorem Hd(s:ByteArray)(k:Nat)(h:k<s.size):0<=(s[k].toNat:Int)/\(s[k].toNat:Int)<256:=by have:=s[k].toNat_lt;omega
theorem al9(s:ByteArray):∀k,k<=s.size->∀x∈qt s k,32<=x/\x<=126
 |0,_=>by simp[qt]
 |k+1,h=>by
  intro x hx;rw[vL s k (by omega),vG]at hx;rcases hx with hx|hx
  ·exact al9 s k (by omega) x hx
  ·exact ana _ (Hd s k (by omega)).1 (Hd s k (by omega)).2 x hx
theorem so(s:ByteArray):∀x∈cD s,32<=x/\x<=126:=by
 intro x hx;unfold cD at hx;rw[vG]at hx;rcases hx with hx|hx
 ·exact al9 s s.size (ae _) x hx
 ·simp at hx;omega
theorem Db(s:ByteArray)(k:Nat):∀n,k+n<=s.size->∃a,qt s (k+n)=qt s k++a
 |0,_=>⟨[],by simp⟩
 |n+1,h=>by
  obtain⟨a,b⟩:=Db s k n (by omega);exact⟨a++esc (s[k+n].toNat:Int),by rw[show k+(n+1)=(k+n)+1 by omega,vL s (k+n) (by omega),b,cH]⟩
theorem afJ(s:ByteArray)(k:Nat)(h:k<s.size):∃a,cD s=qt s k++(esc (s[k].toNat:Int)++a):=by
 obtain⟨a,b⟩:=Db s (k+1) (s.size-(k+1)) (by omega);rw[show k+1+(s.size-(k+1))=s.size by omega,vL s k h]at b;exact⟨a++[34],by unfold cD;rw[b];simp⟩
theorem adH(s:ByteArray)(k j:Nat)(h:k<s.size)(a:j<(esc (s[k].toNat:Int)).length):aq (ey (cD s)) ((qt s k).length+j)=(esc (s[k].toNat:Int))[j]:=by
 rw[uC _ (fun d c=>by have:=so s d c;omega)];obtain⟨e,b⟩:=afJ s k h;rw[b,fy (by omega),show(qt s k).length+j-(qt s k).length=j by omega,ia a,aE a];rfl
theorem adI(s:ByteArray):aq (ey (cD s)) (qt s s.size).length=34:=by
 rw[uC _ (fun b a=>by have:=so s b a;omega)];unfold cD;rw[fy (by omega)];simp
theorem afK(s:ByteArray):aq (ey (cD s)) 0=34:=by
 rw[uC _ (fun b a=>by have:=so s b a;omega)];unfold cD qt;simp
theorem adJ(s:ByteArray):(cD s).length=(qt s s.size).length+1:=by unfold cD;simp
theorem adK:∀d:Fin 16,gg (qA (d.val:Int))=(d.val:Int):=by decide
theorem xw(d:Int)(b:0<=d)(c:d<16):gg (qA d)=d:=by
 have:=adK ⟨d.toNat,by omega⟩;have a:((d.toNat:Nat):Int)=d:=by omega
 simp only[a]at this;exact this
theorem afL(s:ByteArray):∀(n k f:Nat),k+n=s.size->(ey (cD s)).size<(qt s k).length+f->
  dI (ey (cD s)) f (qt s k).length ((dF s).take k)=(M,(ey (cD s)).size,dF s):=by
 have E:(ey (cD s)).size=(qt s s.size).length+1:=by rw[rL,adJ]
 intro n
 induction n with
 |zero=>
  intro k f z w;obtain rfl:k=s.size:=by omega
  obtain⟨f,rfl⟩:∃p,f=p+1:=⟨f-1,by omega⟩;unfold dI;rw[aa (by omega),adI,ab rfl,E,dj (by rw[xu];omega)]
 |succ n H=>
  intro k f z w;have o:k<s.size:=by omega
  have ag:=Hd s k o;have C:=vL s k o;have F:=JI s k o;have b:=fun I y=>adH s k I o y;have A:(qt s (k+1)).length<=(qt s s.size).length:=by
   obtain⟨al,r⟩:=Db s (k+1) n (by omega);rw[show k+1+n=s.size by omega]at r;rw[r];simp
  have d:=fun v x=>H (k+1) v (by omega) x;rw[F]at d;generalize (s[k].toNat:Int)=a at *;have B:(qt s (k+1)).length=(qt s k).length+(esc a).length:=by rw[C];simp
  generalize ak:ey (cD s)=c at *;generalize af:(qt s k).length=P at *;generalize ad:(dF s).take k=L at *;obtain⟨f,rfl⟩:∃p,f=p+1:=⟨f-1,by omega⟩;rw[B]at d A;unfold dI;rw[aa (by omega)];by_cases j:a=10
  ·subst j;have e:aq c P=92:=b 0 (by decide);have g:=b 1 (by decide);have h:gJ c (P+1)=(10,P+1+1,M):=by unfold gJ;rw[g];rfl
   rw[e,aa (by decide),aa (by decide),ab rfl,h,ab rfl];exact d f (by have:(esc 10).length=2:=rfl;omega)
  by_cases l:a=9
  ·subst l;have e:aq c P=92:=b 0 (by decide);have g:=b 1 (by decide);have h:gJ c (P+1)=(9,P+1+1,M):=by unfold gJ;rw[g];rfl
   rw[e,aa (by decide),aa (by decide),ab rfl,h,ab rfl];exact d f (by have:(esc 9).length=2:=rfl;omega)
  by_cases m:a=34\/a=92
  ·have i:esc a=[92,a]:=by unfold esc;rw[aa j,aa l,ab m]
   rw[i]at b d;have e:aq c P=92:=b 0 (by simp);have g:aq c (P+1)=a:=b 1 (by simp);have h:gJ c (P+1)=(a,P+1+1,M):=by unfold gJ;rw[g,aa (by omega),aa (by omega),ab m]
   rw[e,aa (by decide),aa (by decide),ab rfl,h,ab rfl];exact d f (by simp;omega)
  by_cases q:a<32\/126<a
  ·have i:esc a=[92,120,qA (a / 16),qA (a%16)]:=by unfold esc;rw[aa j,aa l,aa m,ab q]
   rw[i]at b d;have e:aq c P=92:=b 0 (by simp);have g:aq c (P+1)=120:=b 1 (by simp);have t:aq c (P+1+1)=qA (a / 16):=b 2 (by simp);have u:aq c (P+1+1+1)=qA (a%16):=b 3 (by simp);have J:=xw (a / 16) (by omega) (by omega);have K:=xw (a%16) (by omega) (by omega);have G:hexI c (P+1+1)=(a,P+1+1+1+1,M):=by
    unfold hexI;rw[t,u,J,K,aa (by omega),aa (by omega)]
    congr 1;omega
   have h:gJ c (P+1)=(a,P+1+1+1+1,M):=by unfold gJ;rw[g,aa (by decide),aa (by decide),aa (by decide),ab rfl,G]
   rw[e,aa (by decide),aa (by decide),ab rfl,h,ab rfl];exact d f (by simp;omega)
  ·have i:esc a=[a]:=by unfold esc;rw[aa j,aa l,aa m,aa q]
   rw[i]at b d;have e:aq c P=a:=b 0 (by simp);rw[e,aa (by omega),aa (by omega),aa (by omega)];exact d f (by simp;omega)
inductive Fo where
 |nil:Fo
 |cons:Nd->Fo->Fo->Fo
def Fo.sz:Fo->Nat
 | .nil=>0
 | .cons _ k r=>k.sz+1+r.sz
def Fo.len:Fo->Nat
 | .nil=>0
 | .cons _ _ r=>r.len+1
def Fo.tops:Fo->Nat->List Int
 | .nil,_=>[]
 | .cons _ k r,b=>((b+k.sz:Nat):Int)::r.tops (b+k.sz+1)
def Fo.flat:Fo->Nat->List Nd
 | .nil,_=>[]
 | .cons N k r,b=>k.flat b++({N with ks:=k.tops b}::r.flat (b+k.sz+1))
def Fo.app:Fo->Fo->Fo
 | .nil,c=>c
 | .cons N k r,c=> .cons N k (r.app c)
def one(N:Nd)(k:Fo):Fo:= .cons N k .nil
theorem Fo.app_nil:∀(a:Fo),a.app .nil=a
 | .nil=>rfl
 | .cons N k r=>by rw[Fo.app,r.app_nil]
theorem Fo.app_app:∀(a b c:Fo),(a.app b).app c=a.app (b.app c)
 | .nil,_,_=>rfl
 | .cons N k r,b,c=>by simp only[Fo.app];rw[r.app_app b c]
theorem Fo.sz_app:∀(a c:Fo),(a.app c).sz=a.sz+c.sz
 | .nil,c=>by simp[Fo.app,Fo.sz]
 | .cons N k r,c=>by simp only[Fo.app,Fo.sz,r.sz_app c];omega
theorem Fo.len_app:∀(a c:Fo),(a.app c).len=a.len+c.len
 | .nil,c=>by simp[Fo.app,Fo.len]
 | .cons N k r,c=>by simp only[Fo.app,Fo.len,r.len_app c];omega
theorem Fo.tops_app:∀(a c:Fo)(b:Nat),(a.app c).tops b=a.tops b++c.tops (b+a.sz)
 | .nil,c,b=>by simp[Fo.app,Fo.sz,Fo.tops]
 | .cons N k r,c,b=>by simp only[Fo.app,Fo.tops,Fo.sz,r.tops_app c,eC];rw[show b+k.sz+1+r.sz=b+(k.sz+1+r.sz) by omega]
theorem Fo.flat_app:∀(a c:Fo)(b:Nat),(a.app c).flat b=a.flat b++c.flat (b+a.sz)
 | .nil,c,b=>by simp[Fo.app,Fo.sz,Fo.flat]
 | .cons N k r,c,b=>by simp only[Fo.app,Fo.flat,Fo.sz,r.flat_app c,eC,cH];rw[show b+k.sz+1+r.sz=b+(k.sz+1+r.sz) by omega]
theorem Fo.flat_len:∀(a:Fo)(b:Nat),(a.flat b).length=a.sz
 | .nil,_=>rfl
 | .cons N k r,b=>by simp only[Fo.flat,Fo.sz,aB,bi,k.flat_len,r.flat_len];omega
theorem Fo.tops_len:∀(a:Fo)(b:Nat),(a.tops b).length=a.len
 | .nil,_=>rfl
 | .cons N k r,b=>by simp only[Fo.tops,Fo.len,bi,r.tops_len]
theorem de(N:Nd)(k:Fo):(one N k).sz=k.sz+1:=rfl
theorem JJ(N:Nd)(k:Fo)(b:Nat):(one N k).flat b=k.flat b++[{N with ks:=k.tops b}]:=rfl
theorem Fo.len_le:∀(a:Fo),a.len<=a.sz
 | .nil=>ae _
 | .cons N k r=>by have:=r.len_le;simp only[Fo.len,Fo.sz];omega
def z0:ByteArray:=⟨#[]⟩
def nd(k:Int)(s:Tk)(e op n:Int)(x:ByteArray)(nm:List ByteArray):Nd:=⟨k,s.f,e,s.l,op,n,x,nm,[]⟩
def lg(k:Int)(s:Tk)(e:Int):Nd:=nd k s e 0 0 z0 []
def He(k:Int)(s:Tk)(e:Int):Nd:=if k=10 then lg 28 s e else if k=26 then lg 29 s e else nd 31 s e (k-60) 0 z0 []
def ars(k:Int):Int:=if k=25 then 21 else if k=50 then 22 else if k=69 then 20 else 19
def lpw(k:Int):Int:=if k=26 then 1 else if k=10 then 2 else if 73<=k then 3 else if k=72 then 4 else if k=68 then 5 else if k=69 then 6 else if k=67 then 7 else if k=70\/k=71 then 8 else if k=61\/k=62 then 9 else 10
def rpw(k:Int):Int:=if k=72 then 4 else lpw k+1
def aav(k:Int):Bool:=decide (k=48\/k=44\/k=40)
def qi(N:Nd)(ks:Fo)(s:Tk)(e:Int):Fo:=if N.k=34\/N.k=27 then one (lg 37 s e) (one N ks) else one N ks
inductive ej (tk:Nat->Tk) (n:Nat):Nat->List ByteArray->Nat->Prop where
 |stop {k:Nat}:(tk k).k≠46->k<n->ej tk n k [] k
 |go {k j:Nat}{ns:List ByteArray}:(tk k).k=46->k+1<n->(tk (k+1)).k=1->ej tk n (k+2) ns j->ej tk n k ((tk (k+1)).x::ns) j
inductive Prm (tk:Nat->Tk) (n:Nat):Nat->List ByteArray->Bool->Nat->Prop where
 |close {k:Nat}:(tk k).k=41->k+1<n->Prm tk n k [] false (k+1)
 |rest {k:Nat}:(tk k).k=49->(tk (k+1)).k=41->k+2<n->Prm tk n k [] true (k+2)
 |last {k:Nat}:(tk k).k=1->(tk (k+1)).k=41->k+2<n->Prm tk n k [(tk k).x] false (k+2)
 |go {k j:Nat}{ns:List ByteArray}{r:Bool}:(tk k).k=1->(tk (k+1)).k=46->k+2<n->Prm tk n (k+2) ns r j->Prm tk n k ((tk k).x::ns) r j
inductive A8 where
 |unit:A8
 |expr:Int->A8
 |more:Int->Tk->Fo->A8
 |base:A8
 |post:Tk->Fo->A8
 |exprs:A8
 |moreE:A8
 |moreB:A8
 |stat:A8
 |stats:A8
 |block:A8
 |body:Tk->A8
 |entry:A8
 |entries:A8
 |branch:A8
inductive P (tk:Nat->Tk) (n:Nat):A8->Nat->Fo->Nat->Prop where
 |upre {i j:Nat}{x:Fo}:po (tk i).k=true->i<n->P tk n .unit (i+1) x j->P tk n .unit i (one (nd 30 (tk i) (tk (j-1)).t (ars (tk i).k) 0 z0 []) x) j
 |uint {i:Nat}:(tk i).k=2->i+1<n->P tk n .unit i (one (nd 23 (tk i) (tk i).t 0 (tk i).n z0 []) .nil) (i+1)
 |uflt {i:Nat}:(tk i).k=3->i+1<n->P tk n .unit i (one (nd 24 (tk i) (tk i).t 0 0 (tk i).x []) .nil) (i+1)
 |ustr {i:Nat}:(tk i).k=4->i+1<n->P tk n .unit i (one (nd 25 (tk i) (tk i).t 0 0 (tk i).x []) .nil) (i+1)
 |unil {i:Nat}:(tk i).k=24->i+1<n->P tk n .unit i (one (lg 20 (tk i) (tk i).t) .nil) (i+1)
 |utru {i:Nat}:(tk i).k=29->i+1<n->P tk n .unit i (one (lg 21 (tk i) (tk i).t) .nil) (i+1)
 |ufls {i:Nat}:(tk i).k=17->i+1<n->P tk n .unit i (one (lg 22 (tk i) (tk i).t) .nil) (i+1)
 |urst {i:Nat}:(tk i).k=49->i+1<n->P tk n .unit i (one (lg 27 (tk i) (tk i).t) .nil) (i+1)
 |ufn {i j:Nat}{R:Fo}:(tk i).k=18->i<n->P tk n (.body (tk i)) (i+1) R j->P tk n .unit i R j
 |utab {i j:Nat}{E:Fo}:(tk i).k=42->i<n->P tk n .entries (i+1) E j->(tk j).k=43->j+1<n->P tk n .unit i (one (lg 35 (tk i) (tk j).t) E) (j+1)
 |ubas {i j:Nat}{R:Fo}:(tk i).k=1\/(tk i).k=40->i<n->P tk n .base i R j->P tk n .unit i R j
 |ex {p:Int}{i k j:Nat}{x R:Fo}:(tk i).k≠6->i<n->P tk n .unit i x k->P tk n (.more p (tk i) x) k R j->P tk n (.expr p) i R j
 |mstop {p:Int}{s:Tk}{x:Fo}{k:Nat}:k<n->(jr (tk k).k=true->lpw (tk k).k<p)->P tk n (.more p s x) k x k
 |mgo {p:Int}{s:Tk}{x y R:Fo}{k k1 j:Nat}:k<n->jr (tk k).k=true->p<=lpw (tk k).k->P tk n (.expr (rpw (tk k).k)) (k+1) y k1->P tk n (.more p s (one (He (tk k).k s (tk (k1-1)).t) (x.app y))) k1 R j->P tk n (.more p s x) k R j
 |bname {i j:Nat}{R:Fo}:(tk i).k=1->i<n->P tk n (.post (tk i) (one (nd 26 (tk i) (tk i).t 0 0 (tk i).x []) .nil)) (i+1) R j->P tk n .base i R j
 |bopen {i k j:Nat}{N:Nd}{ks R:Fo}:(tk i).k=40->i<n->P tk n (.expr 0) (i+1) (one N ks) k->(tk k).k=41->k<n->P tk n (.post (tk i) (qi N ks (tk i) (tk k).t)) (k+1) R j->P tk n .base i R j
 |pstop {s:Tk}{B:Fo}{k:Nat}:k<n->aav (tk k).k=false->P tk n (.post s B) k B k
 |pdot {s:Tk}{B R:Fo}{k j:Nat}:(tk k).k=48->(tk (k+1)).k=1->k+1<n->P tk n (.post s (one (nd 33 s (tk (k+1)).t 0 0 (tk (k+1)).x []) B)) (k+2) R j->P tk n (.post s B) k R j
 |psq {s:Tk}{B Y R:Fo}{k k1 j:Nat}:(tk k).k=44->k<n->P tk n (.expr 0) (k+1) Y k1->(tk k1).k=45->k1<n->P tk n (.post s (one (lg 32 s (tk k1).t) (B.app Y))) (k1+1) R j->P tk n (.post s B) k R j
 |pcall0 {s:Tk}{B R:Fo}{k j:Nat}:(tk k).k=40->(tk (k+1)).k=41->k+1<n->P tk n (.post s (one (lg 34 s (tk (k+1)).t) B)) (k+2) R j->P tk n (.post s B) k R j
 |pcall {s:Tk}{B Y R:Fo}{k k1 j:Nat}:(tk k).k=40->k+1<n->(tk (k+1)).k≠41->P tk n .exprs (k+1) Y k1->(tk k1).k=41->k1<n->P tk n (.post s (one (lg 34 s (tk k1).t) (B.app Y))) (k1+1) R j->P tk n (.post s B) k R j
 |es {i k j:Nat}{x R:Fo}:P tk n (.expr 0) i x k->P tk n .moreE k R j->P tk n .exprs i (x.app R) j
 |estop {k:Nat}:(tk k).k≠46->k<n->P tk n .moreE k .nil k
 |ego {k k1 j:Nat}{x R:Fo}:(tk k).k=46->k<n->P tk n (.expr 0) (k+1) x k1->P tk n .moreE k1 R j->P tk n .moreE k (x.app R) j
 |bstop {k:Nat}:(tk k).k≠46->k<n->P tk n .moreB k .nil k
 |bgo {k k1 j:Nat}{x R:Fo}:(tk k).k=46->k<n->P tk n .base (k+1) x k1->P tk n .moreB k1 R j->P tk n .moreB k (x.app R) j
 |body {i k j:Nat}{s:Tk}{nm:List ByteArray}{r:Bool}{B:Fo}:(tk i).k=40->i<n->Prm tk n (i+1) nm r k->P tk n .block k B j->P tk n (.body s) i (one (nd 36 s (tk (j-1)).t (if r=true then 1 else 0) 0 z0 nm) B) j
 |block {i k:Nat}{S:Fo}:(tk i).k=42->i<n->P tk n .stats (i+1) S k->(tk k).k=43->k+1<n->P tk n .block i (one (lg 1 (tk i) (tk k).t) S) (k+1)
 |sstop {k:Nat}:(tk k).k=43\/(tk k).k=6->k<n->P tk n .stats k .nil k
 |ssep {k j:Nat}{R:Fo}:(tk k).k=5->k<n->P tk n .stats (k+1) R j->P tk n .stats k R j
 |sgo {k k1 j:Nat}{x R:Fo}:(tk k).k≠5->(tk k).k≠6->(tk k).k≠43->k<n->P tk n .stat k x k1->P tk n .stats k1 R j->P tk n .stats k (x.app R) j
 |nstop {k:Nat}:(tk k).k=43->k<n->P tk n .entries k .nil k
 |ncom {k k1 j:Nat}{x R:Fo}:(tk k).k≠43->k<n->P tk n .entry k x k1->(tk k1).k=46->k1<n->P tk n .entries (k1+1) R j->P tk n .entries k (x.app R) j
 |nlast {k k1 j:Nat}{x R:Fo}:(tk k).k≠43->k<n->P tk n .entry k x k1->(tk k1).k≠46->k1<n->P tk n .entries k1 R j->P tk n .entries k (x.app R) j
 |item {i j:Nat}{x:Fo}:(tk i).k≠48->(tk i).k≠44->(tk i).k≠6->i<n->P tk n (.expr 0) i x j->P tk n .entry i (one (lg 40 (tk i) (tk (j-1)).t) x) j
 |pair {i k j:Nat}{x y:Fo}:(tk i).k=44->i<n->P tk n (.expr 0) (i+1) x k->(tk k).k=45->(tk (k+1)).k=47->k+1<n->P tk n (.expr 0) (k+2) y j->P tk n .entry i (one (lg 41 (tk i) (tk (j-1)).t) (x.app y)) j
 |named {i j:Nat}{y:Fo}:(tk i).k=48->(tk (i+1)).k=1->(tk (i+2)).k=47->i+2<n->P tk n (.expr 0) (i+3) y j->P tk n .entry i (one (nd 42 (tk i) (tk (j-1)).t 0 0 (tk (i+1)).x []) y) j
 |belif {i k k1 j:Nat}{x b z:Fo}:(tk i).k=20\/(tk i).k=15->i<n->P tk n (.expr 0) (i+1) x k->P tk n .block k b k1->(tk k1).k=15->k1<n->P tk n .branch k1 z j->P tk n .branch i (one (lg 7 (tk i) (tk (j-1)).t) ((x.app b).app z)) j
 |belse {i k k1 j:Nat}{x b z:Fo}:(tk i).k=20\/(tk i).k=15->i<n->P tk n (.expr 0) (i+1) x k->P tk n .block k b k1->(tk k1).k=16->k1<n->P tk n .block (k1+1) z j->P tk n .branch i (one (lg 7 (tk i) (tk (j-1)).t) ((x.app b).app z)) j
 |bno {i k k1:Nat}{x b:Fo}:(tk i).k=20\/(tk i).k=15->i<n->P tk n (.expr 0) (i+1) x k->P tk n .block k b k1->(tk k1).k≠15->(tk k1).k≠16->k1<n->P tk n .branch i (one (lg 7 (tk i) (tk (k1-1)).t) (x.app b)) k1
 |tlet0 {i k:Nat}{ns:List ByteArray}:(tk i).k=22->i+1<n->(tk (i+1)).k=1->ej tk n (i+2) ns k->(tk k).k≠47->P tk n .stat i (one (nd 2 (tk i) (tk (k-1)).t 0 0 z0 ((tk (i+1)).x::ns)) .nil) k
 |tlet {i k j:Nat}{ns:List ByteArray}{E:Fo}:(tk i).k=22->i+1<n->(tk (i+1)).k=1->ej tk n (i+2) ns k->(tk k).k=47->P tk n .exprs (k+1) E j->P tk n .stat i (one (nd 2 (tk i) (tk (j-1)).t 0 0 z0 ((tk (i+1)).x::ns)) E) j
 |tcon {i j:Nat}{x:Fo}:(tk i).k=13->(tk (i+1)).k=1->(tk (i+2)).k=47->i+2<n->P tk n (.expr 0) (i+3) x j->P tk n .stat i (one (nd 3 (tk i) (tk (j-1)).t 0 0 z0 [(tk (i+1)).x]) x) j
 |tfn {i j:Nat}{B:Fo}:(tk i).k=18->(tk (i+1)).k=1->(tk (i+2)).k=40->i+2<n->P tk n (.body (tk (i+2))) (i+2) B j->P tk n .stat i (one (nd 4 (tk i) (tk (j-1)).t 0 0 z0 [(tk (i+1)).x]) B) j
 |tif {i j:Nat}{R:Fo}:(tk i).k=20->i<n->P tk n .branch i R j->P tk n .stat i R j
 |twhile {i k j:Nat}{x b:Fo}:(tk i).k=31->i<n->P tk n (.expr 0) (i+1) x k->P tk n .block k b j->P tk n .stat i (one (lg 8 (tk i) (tk (j-1)).t) (x.app b)) j
 |tfor {i k k1 j:Nat}{ns:List ByteArray}{E b:Fo}:(tk i).k=19->i+1<n->(tk (i+1)).k=1->ej tk n (i+2) ns k->(tk k).k=47->P tk n .exprs (k+1) E k1->P tk n .block k1 b j->P tk n .stat i (one (nd 9 (tk i) (tk (j-1)).t 0 0 z0 ((tk (i+1)).x::ns)) (E.app b)) j
 |teach {i k k1 j:Nat}{ns:List ByteArray}{x b:Fo}:(tk i).k=19->i+1<n->(tk (i+1)).k=1->ej tk n (i+2) ns k->(tk k).k=21->P tk n (.expr 0) (k+1) x k1->(tk k1).k=42->k1<n->P tk n .block k1 b j->P tk n .stat i (one (nd 10 (tk i) (tk (j-1)).t 0 0 z0 ((tk (i+1)).x::ns)) (x.app b)) j
 |tbreak {i:Nat}:(tk i).k=11->i+1<n->P tk n .stat i (one (lg 11 (tk i) (tk i).t) .nil) (i+1)
 |tnext {i:Nat}:(tk i).k=23->i+1<n->P tk n .stat i (one (lg 12 (tk i) (tk i).t) .nil) (i+1)
 |tret0 {i:Nat}:(tk i).k=27->i+1<n->(tk (i+1)).k=5\/(tk (i+1)).k=6\/(tk (i+1)).k=43->P tk n .stat i (one (lg 13 (tk i) (tk i).t) .nil) (i+1)
 |tret {i j:Nat}{E:Fo}:(tk i).k=27->i+1<n->fD (tk (i+1)).k=true->P tk n .exprs (i+1) E j->P tk n .stat i (one (lg 13 (tk i) (tk (j-1)).t) E) j
 |ttry {i k k1 j:Nat}{ns:List ByteArray}{a b:Fo}:(tk i).k=30->i<n->P tk n .block (i+1) a k->(tk k).k=12->k+1<n->(tk (k+1)).k=1->ej tk n (k+2) ns k1->P tk n .block k1 b j->P tk n .stat i (one (nd 14 (tk i) (tk (j-1)).t 0 0 z0 ((tk (k+1)).x::ns)) (a.app b)) j
 |tthrow {i j:Nat}{x:Fo}:(tk i).k=28->i<n->P tk n (.expr 0) (i+1) x j->P tk n .stat i (one (lg 15 (tk i) (tk (j-1)).t) x) j
 |tdefer {i j:Nat}{x:Fo}:(tk i).k=14->i<n->P tk n .base (i+1) x j->P tk n .stat i (one (lg 16 (tk i) (tk (j-1)).t) x) j
 |tblock {i j:Nat}{R:Fo}:(tk i).k=42->i<n->P tk n .block i R j->P tk n .stat i R j
 |tdo {i j:Nat}{x:Fo}:(tk i).k=1\/(tk i).k=40->i<n->P tk n .base i x j->(tk j).k≠46->(tk j).k≠47->j<n->P tk n .stat i (one (lg 6 (tk i) (tk (j-1)).t) x) j
 |tset {i k k1 j:Nat}{x R E:Fo}:(tk i).k=1\/(tk i).k=40->i<n->P tk n .base i x k->P tk n .moreB k R k1->(tk k1).k=47->k1<n->P tk n .exprs (k1+1) E j->P tk n .stat i (one (nd 5 (tk i) (tk (j-1)).t 0 ((x.app R).len:Nat) z0 []) ((x.app R).app E)) j
def wpU(P:B1)(d:Region.Mode)(c:Array Oper)(Q:Exit->Act->V->Prop)(S f:V->Prop)(C:Nat->Bool):Nat->Array Bool->Act->V->Prop
 |0,b,a,w=>Region.ready d c b=[]/\Q .normal a w
 |fuel+1,b,a,w=>
  (Region.ready d c b=[]->Q .normal a w)/\
  ∀i∈Region.ready d c b,wpOp P c Q i (fun g e=>(f e/\(C i=M->S e))/\wpU P d c Q S f C fuel (b.setIfInBounds i M) g e) a w
theorem Dc{P:B1}:∀(fuel:Nat)(c:Array Bool)(a:Act)(w:V),wpU P md ops Q S S2 C fuel c a w->wpAnyH P md ops Q S2 fuel c a w
 |0,_,_,_,h=>h
 |fuel+1,_,_,_,h=>⟨h.1,fun i e=>wpOp_mono (fun d f b=>⟨b.1.1,Dc fuel _ d f b.2⟩) (h.2 i e)⟩
theorem wj{P:B1}{l:Oper}(B:ops[i]?=O l)(J:∀(j:Nat) (o:Oper) cs b,ops[j]?=O o->o.op≠ .select cs b)
  (ak:∀c a w,Q (.panic c) (a.put l.dst v) w->Q (.panic c) a w) (af:∀(j:Nat) d,ops[j]?=O d->C j=Ax->∃e∈d.after,Region.binds md e=M/\e.on=i):
  ∀(fuel:Nat)(f:Array Bool)(a:Act)(w:V),
   (∀j d,ops[j]?=O d->j≠i->f.getD j M=Ax->(∀e∈d.after,Region.binds md e=M->e.on≠i)->l.apart ops d=M)->
   i∈Region.ready md ops f->YieldsIf P ops S l v a->S2 w->S w->
   wpU P md ops Q S S2 C fuel (f.setIfInBounds i M) (a.put l.dst v) w->wpAnyH P md ops Q S2 (fuel+1) f a w:=by
 intro fuel
 induction fuel with
 |zero=>
  intro f a w _ k t x hS n;refine⟨fun u=>(by rw[u]at k;cases k),fun j r=>?_⟩;by_cases g:j=i
  ·subst g;exact t.wpOp B hS ⟨x,Dc _ _ _ _ n⟩
  ·have:=ready_mono r g;rw[n.1]at this;cases this
 |succ fuel ar=>
  intro f a w F k t x hS n;refine⟨fun u=>(by rw[u]at k;cases k),fun j r=>?_⟩;by_cases g:j=i
  ·subst g;exact t.wpOp B hS ⟨x,Dc _ _ _ _ n⟩
  ·have h:=n.2 j (ready_mono r g);obtain⟨H,d,s,al⟩:=mem_ready.1 r;have I:∀e∈d.after,Region.binds md e=M->e.on≠i:=fun e z y A=>by
    have h:=al e z y;have E:=(mem_ready.1 k).1;rw[A]at h;rcases aH i f.size with h'|h'
    ·simp[h']at E h;rw[E]at h;cases h
    ·simp[yi h']at h
   have ag:C j=M:=by
    cases hc:C j with
    |true=>rfl
    |false=>
     obtain⟨e,z,y,A⟩:=af j d s hc;exact absurd A (I e z y)
   have ad:=wpOp_putIf s (F j d s g H I) (fun cs b=>J i l cs b B) (fun cs b=>J j d cs b s) ak t h;have am:∀m q,ops[m]?=O q->m≠i->(f.setIfInBounds j M).getD m M=Ax->
     (∀e∈q.after,Region.binds md e=M->e.on≠i)->l.apart ops q=M:=fun m q an ao K ap=>by
    refine F m q an ao ?_ ap;by_cases G:j=m
    ·subst G;exact H
    ·rw[getD_set_ne M G]at K;exact K
   refine wpOp_mono (fun L av p=>⟨p.2.1.1,ar (f.setIfInBounds j M) L av am (ready_mono k (dz g)) p.1 p.2.1.1 (p.2.1.2 ag) ?_⟩) ad;rw[Array.setIfInBounds_comm _ _ g];exact p.2.2
theorem eJ{P:B1}{fuel:Nat}{c:Array Bool}(l:Region.ready md ops c=[i])(r:ops[i]?=O o)
  (h:∀d:Act->V->Prop,Shut (∀a w,S2 w->(C i=M->S w)->wpU P md ops Q S S2 C fuel (c.setIfInBounds i M) a w->d a w)->if Region.wanted o (yielded ops a.tmps)=M then Oper.wp P o a w d Q else d (a.put o.dst undef) w):wpU P md ops Q S S2 C (fuel+1) c a w:=by
 refine⟨fun j=>(by rw[l]at j;cases j),fun f k=>?_⟩;rw[l]at k;obtain rfl:f=i:=by simpa using k
 have b:=h (fun m g=>(S2 g/\(C f=M->S g))/\wpU P md ops Q S S2 C fuel (c.setIfInBounds f M) m g) (fun a w n p q=>⟨⟨n,p⟩,q⟩);unfold wpOp;simp only[r];split
 ·rename_i e;rw[ab e]at b;exact .inl b
 ·rename_i e;rw[aa e]at b;exact b
theorem yJ{P:B1}{c:Array Bool}(b:Region.ready md ops c=[])(h:Q .normal a w):
  ∀fuel,wpU P md ops Q S S2 C fuel c a w
 |0=>⟨b,h⟩
 |_+1=>⟨fun _=>h,by rw[b];simp⟩
def af0(B:Nat)(W:V)(Z X:V->Prop):Exit->Act->V->Prop
 | .normal,_,a=>Cr B W a/\Z a
 | .ret,_,a=>Cr B W a/\X a
 |_,_,_=>False
theorem wm{P:B1}{g:Operand}{ps:Array Tmp}{assign body:Go.Code}{gf:Nat}{lb:Array A9}
  (a6:a.eval g= .func (.func gf) #[] lb) (am:∀args w,(callFunc gf args).run P w= .ok (.enter gf args) w) (enc:Nat->Array A9) (a9:∀x,(enc x).size=ps.size) (u:Nat)
  (Z:Nat->V->Prop) (y:Nat->Act->V->Prop) (X:V->Prop)
  (al:∀m W r o,Z m W->W.heap[w.heap.size+1]?=O (.loop r)->Z m (W.putObj (w.heap.size+1) o))
  (bf:∀m d W r o,y m d W->W.heap[w.heap.size+1]?=O (.loop r)->y m d (W.putObj (w.heap.size+1) o)) (ak:∀W r o,X W->W.heap[w.heap.size+1]?=O (.loop r)->X (W.putObj (w.heap.size+1) o))
  (an:∀c,Below w.heap.size w c->c.heap.size=w.heap.size+2->Z u c)
  (ar:∀(l m:Nat) W (K:Act->V->Prop),m<u->Z (m+1) W->(∀d b,y m d b->Cr w.heap.size W b->K d b)->
   assign.wpIn (Fence.wide.inRound l) (n-1-1) P (Exit.then K (fun _ _ _=>False)) {tmps:=(ps.zip (enc m)).foldl (fun t (p,v)=>t.setIfInBounds p v) a.tmps,defers:=[]} W)
  (a0:∀(l m:Nat) d W,m<u->y m d W->body.wpIn (Fence.wide.inRound l) (n-1-1) P (af0 w.heap.size W (Z m) X) d W)
  (be:∀(l:Nat)(j:Nat->V->Prop)(I:V->Prop),(∀m W,j m W->Z m W)->
   (∀m W,m<u->j (m+1) W->YieldAt B6 (n-1-1) P l (enc m) W fun e b=>(e= Br (Ce M)/\j m b)\/(e= Br (Ce Ax)/\I b))->
   ∀W,j u W->CallsIn B6 (n-1) P gf (#[.func (.yield l) #[] #[]]++lb) W fun e b=>(∃v,e= Br v)/\(j 0 b\/I b))
  (a4:∀W,Z 0 W->W.heap[w.heap.size]?=O (.deferred (O []))->Q .normal {a with defers:={target:= .collected w.heap.size,args:=#[]}::a.defers} W)
  (bb:∀W,X W->W.heap[w.heap.size]?=O (.deferred (O []))->Q .ret {a with defers:={target:= .collected w.heap.size,args:=#[]}::a.defers} W):
  (Go.Code.rangeFunc g ps assign body).wpIn B6 n P Q a w:=by
 refine wpIn_rangeFunc ?_;intro fn a5;show ∃l bw bx bo bA br args bD,(Instr.enterLoop fn a.tmps ps assign body U).run P w=_/\_;obtain⟨rc,f⟩:∃rc:LoopState->Option Go.Code->Loop,rc=fun bj bh=>{state:=bj,pending:=bh,fn,tmps:=a.tmps,params:=ps,assign,body,defers:=w.heap.size}:=⟨_,rfl⟩;have C:=run_enterLoop_outer (P:=P) (w:=w) fn a.tmps ps assign body;rw[show({state:= .ready,pending:=U,fn,tmps:=a.tmps,params:=ps,assign,body,defers:=w.heap.size}:Loop)=rc .ready U by rw[f]]at C;obtain⟨c,k⟩:=aA ((w.alloc (.deferred (O []))).alloc (.loop (rc .ready U)));rw[k]at C;have a7:c.heap[w.heap.size+1]?=O (.loop (rc .ready U)):=by
  rw[<-k];have:=World.alloc_heap_new (w.alloc (.deferred (O []))) (.loop (rc .ready U));rwa [dr]at this
 have a1:c.heap[w.heap.size]?=O (.deferred (O [])):=by
  rw[<-k];exact(cC _ _ _ (by simp)).trans (World.alloc_heap_new w _)
 have av:Below w.heap.size w c:=by rw[<-k];exact((ah _ w).alloc (ae _) _).alloc (by simp) _
 have bd:c.heap.size=w.heap.size+2:=by rw[<-k];simp
 refine⟨w.heap.size+1,[{target:= .collected w.heap.size,args:=#[]}],c,{target:= .fn (.func gf) lb,args:=#[.func (.yield (w.heap.size+1)) #[] #[]]},c,gf,
  #[.func (.yield (w.heap.size+1)) #[] #[]]++lb,c,C,?_,?_,?_,fun z=>by simp[B6]at z,?_⟩
 ·simp only[resolve,a6];simp[go_sem]
 ·intro bs bt;trivial
 ·simp[invoke,go_sem,am]
 ·refine(be (w.heap.size+1) (fun m W=>Z m W/\W.heap[w.heap.size+1]?=O (.loop (rc .ready U))/\W.heap[w.heap.size]?=O (.deferred (O [])))
   (fun W=>X W/\W.heap[w.heap.size+1]?=O (.loop (rc .done (O .ret)))/\W.heap[w.heap.size]?=O (.deferred (O []))) (fun _ _ z=>z.1) ?_ c ⟨an c av bd,a7,a1⟩).mono ?_
  ·rintro m W af ⟨A,h,q⟩;have ag:=run_yield (P:=P) (args:=enc m) h (by rw[f];exact a9 m);rw[f]at ag;refine⟨fn,_,assign,body,ag,roundIn_of_wpIn a5 (ar _ m W _ af A fun d b ao L=>?_)⟩;have E:=L.same _ _ (by omega) h rfl;have a2:=L.same _ _ (ae _) q rfl;have a8:w.heap.size+1<b.heap.size:=(Array.getElem?_eq_some_iff.1 E).1;refine⟨_,run_beginRound E (by rw[f]),?_⟩;have ad:(b.putObj (w.heap.size+1) (.loop {rc .ready U with state:= .busy})).heap[w.heap.size+1]?=O (.loop {rc .ready U with state:= .busy}):=World.putObj_heap_same a8;have J:(b.putObj (w.heap.size+1) (.loop {rc .ready U with state:= .busy})).heap[w.heap.size]?=O (.deferred (O [])):=(A2 (by omega)).trans a2;refine wpIn_mono (a0 _ m d _ af (bf _ _ _ _ _ ao E)) ?_;rintro e bn bl G;cases e with
   |normal=>
    obtain⟨s,H⟩:=G;have i:=s.same _ _ (by omega) ad rfl;have B:=s.same _ _ (ae _) J rfl;have F:=(Array.getElem?_eq_some_iff.1 i).1;refine⟨_,_,run_endRound (P:=P) U i,.inl ⟨rfl,al _ _ _ _ H i,?_,(A2 (by omega)).trans B⟩⟩;rw[World.putObj_heap_same F];simp[f]
   |ret=>
    obtain⟨s,H⟩:=G;have i:=s.same _ _ (by omega) ad rfl;have B:=s.same _ _ (ae _) J rfl;have F:=(Array.getElem?_eq_some_iff.1 i).1;refine⟨_,_,run_endRound (P:=P) (O .ret) i,.inr ⟨rfl,ak _ _ _ H i,?_,(A2 (by omega)).trans B⟩⟩;rw[World.putObj_heap_same F];simp[f]
   |_=>exact G.elim
  ·rintro e bk ⟨⟨v,rfl⟩,⟨A,h,q⟩|⟨ap,h,q⟩⟩
   ·refine⟨U,_,by have:=run_endLoop (P:=P) h (by rw[f];simp);rw[f]at this;exact this,?_⟩;exact a4 _ (al _ _ _ _ A h) ((A2 (by omega)).trans q)
   ·refine⟨O .ret,_,by have:=run_endLoop (P:=P) h (by rw[f];simp);rw[f]at this;exact this,?_⟩;exact wpIn_ret (bb _ (ak _ _ _ ap h) ((A2 (by omega)).trans q))
theorem aaw{P:B1}(r:Result Next)(h:o.upon P a K Q r):o.uponIn (Fence.wide.inRound l) n P a K Q r:=by
 have d:(Fence.wide.inRound l).depth.isSome=M->1<=n:=fun h=>by simp[B6,Fence.inRound]at h
 cases r with
 |ok c i=>
  cases c with
  |value b=>exact h
  |skip=>exact h
  |defer k=>exact h
  |enter m args=>exact⟨d,CallsIn.inRound l (callsIn_wide.2 h)⟩
  |row row args=>exact⟨d,fun e f _=>let ⟨b,j,r,g⟩:=h e f;⟨b,j,r,stepsIn_wide.2 g⟩⟩
  |_=>exact h.elim
 |halt c i=>
  cases c with
  |panic b=>exact h
  |_=>exact h.elim
def JK(o:Oper):Bool:=match o.op with| .defer _=>Ax|_=>M
theorem af1(h:JK o=M):∀c,o.op≠ .defer c:=by
 intro c a;unfold JK at h;rw[a]at h;cases h
theorem aax{P:B1}(d:∀(j:Nat) (o:Oper),ops[j]?=O o->JK o=M)(e:¬LetsOut Q)(h:wpOp P ops Q i K a w):wpOpIn (Fence.wide.inRound l) n P ops Q i K a w:=by
 unfold wpOp at h;unfold wpOpIn;cases ho:ops[i]? with
 |none=>simpa [ho] using h
 |some o=>
  simp only[ho]at h⊢;split
  ·rename_i b;simp only[b,iK]at h;rcases h with h|h
   ·refine⟨fun c _=>trivial,?_⟩;show o.uponIn _ _ _ _ _ _ ((o.semAt (O l) a.eval).run P w);rw[kH l a.eval o (af1 (d i o ho))];exact aaw _ h
   ·exact absurd h.2 e
  ·rename_i b;simp only[b]at h;exact⟨fun c _=>trivial,by simpa using h⟩
theorem xc{P:B1}(b:∀(j:Nat) (o:Oper),ops[j]?=O o->JK o=M)(c:¬LetsOut Q):
  ∀(fuel:Nat)(d:Array Bool)(a:Act)(w:V),wpAny P md ops Q fuel d a w->wpAnyIn (Fence.wide.inRound l) n P md ops Q fuel d a w
 |0,_,_,_,h=>h
 |fuel+1,_,_,_,h=>⟨h.1,fun i g=>aax b c (wpOp_mono (fun e k f=>xc b c fuel _ e k f) (h.2 i g))⟩
theorem tI{P:B1}{id:Nat}(e:P.follows .mixedOrders=M)(c:ops.all JK=M)(g:¬LetsOut Q)(hS:S w.drew)
  (h:S w.drew->wpAnyH P .any ops Q S ops.size (Array.replicate ops.size Ax) a w.drew):(Go.Code.region id ops M).wpIn (Fence.wide.inRound l) n P Q a w:=
 wpIn_region_any e (xc (fun i j f=>by
  obtain⟨d,b⟩:=Array.getElem?_eq_some_iff.1 f;rw[<-b];exact Array.all_eq_true.1 c i d) g _ _ _ _ (wpAny_of_held _ _ _ _ (h hS)))
theorem af2{P:B1}(i:Nat)(d:Tmp)(v:A9){e:Oper}{fuel:Nat}{b:Array Bool}(k:ops[i]?=O e)(f:e.dst=O d)
  (m:Region.noSelect ops=M) (j:Region.free md ops b i=M) (l:(Region.ready md ops b).contains i=M)
  (g:∀c a w,Q (.panic c) (a.put (O d) v) w->Q (.panic c) a w) (n:Region.wanted e (yielded ops a.tmps)=M) (hS:S w) (o:∀w,S w->(execOp a.eval e).run P w= .ok (.value v) w)
  (h:wpAnyH P md ops Q S fuel (b.setIfInBounds i M) (a.put (O d) v) w):wpAnyH P md ops Q S (fuel+1) b a w:=
 wpAnyH_take k m j l (by rw[f];exact g) (Or.inl ⟨n,o⟩) hS (by rw[f];exact h)
def apL(b:Region.Mode)(a:Array Oper)(m:List Bool)(i:Nat)(l:List A9):Bool:=Region.noSelect a&&Region.free b a m.toArray i&&(Region.ready b a m.toArray).contains i&&(match a[i]? with|some o=>Region.wanted o (yielded a l.toArray)|none=>Ax)
theorem dh{P:B1}(i:Nat)(v:A9){d:Tmp}{f:Oper}{fuel:Nat}{m:List Bool}{l:List A9}{e:List Deferred}(g:ops[i]?=O f)(k:f.dst=O d)(b:apL md ops m i l=M)
  (j:∀c a w,Q (.panic c) (a.put (O d) v) w->Q (.panic c) a w) (hS:S w) (n:∀w,S w->(execOp (Act.mk l.toArray e).eval f).run P w= .ok (.value v) w)
  (h:wpAnyH P md ops Q S fuel (m.set i M).toArray ⟨(l.set d v).toArray,e⟩ w):wpAnyH P md ops Q S (fuel+1) m.toArray ⟨l.toArray,e⟩ w:=by
 unfold apL at b;rw[g]at b;simp only[cd]at b;refine af2 i d v g k b.1.1.1 b.1.1.2 b.1.2 j b.2 hS n ?_;simp only[Act.put,dv];exact h
open Go.Maps Go.WideMaps
abbrev BuF(B b:Nat)(a:List A9)(w:V):Prop:=Lib.IsBuilderF 255 5 B b a w
abbrev BuA(B b:Nat)(a:List A9)(w:V):Prop:=Lib.BuilderAtF 255 5 B b (.pointer (O ⟨b,0,U⟩)) a w
theorem ug(b:Nat)(w:V)(h:w.cell? ⟨b,0,U⟩=O (.pointer U))(d:w.shape? b=O (255,2))(i:w.frozen? ⟨b,0,U⟩=Ax):
  B7 A0 234 #[.pointer (O ⟨b,0,U⟩)] w fun e g=>e= .returned (.tuple #[])/\g=w.setCell ⟨b,0,U⟩ (.pointer (O ⟨b,0,U⟩)):=by
 obtain⟨j,c,f⟩:=Option.map_eq_some_iff.1 (show(Tryz.prog.info? 255).map (·.size)=O 2 by kernel_rfl);have k:=Lib.run_to_unsafe (P:=A0) (w:=w) ⟨b,0,U⟩ Tryz.underlying253 Tryz.underlying277 c (by rw[f];decide) d (Nat.zero_lt_succ 1);have l:=Lib.run_from_unsafe (P:=A0) (w:=w) ⟨b,0,U⟩ Tryz.underlying277 Tryz.underlying253 c d (by kernel_rfl);have m:∀a,(callFunc 248 #[a]).run A0 w= .ok (.value a) w:=fun a=>by
  rw[ab0 Tryz.func248 (by kernel_rfl) (by kernel_rfl) (by kernel_rfl) (e:=Extern.AbiNoEscape.same) (by kernel_rfl),Lib.run_noEscape];rfl
 go_in;go_wp2;go_end0
 exact⟨rfl,rfl⟩
theorem Dd(b:Nat)(w:V)(d:w.cell? ⟨b,0,U⟩=O (.pointer (O ⟨b,0,U⟩)))(g:w.shape? b=O (255,2)):
  B7 A0 234 #[.pointer (O ⟨b,0,U⟩)] w fun e c=>e= .returned (.tuple #[])/\c=w:=by
 obtain⟨h,a,f⟩:=Option.map_eq_some_iff.1 (show(Tryz.prog.info? 255).map (·.size)=O 2 by kernel_rfl);have i:=Lib.run_neq_ptr_same (P:=A0) w ⟨b,0,U⟩ Tryz.underlying253 a;go_in;go_wp2;go_end0
 exact⟨rfl,rfl⟩
theorem EG(B b:Nat)(c:List A9)(w:V)(h:BuF B b c w):
  B7 A0 234 #[.pointer (O ⟨b,0,U⟩)] w fun e a=>e= Br (C4 #[])/\BuA B b c a/\Below B w a:=by
 rcases h with h|h
 ·refine(ug b w h.cell0 h.shape h.frozen0).mono ?_;rintro e a ⟨rfl,rfl⟩;exact⟨rfl,h.used _,(ah B w).setCell (p:=⟨b,0,U⟩) h.1 _⟩
 ·refine(Dd b w h.cell0 h.shape).mono ?_;rintro e a ⟨rfl,rfl⟩;exact⟨rfl,h,ah B _⟩
theorem BB(B b:Nat)(a:List A9)(s:ByteArray)(w:V)(h:BuF B b a w)(al:a.length+s.size<=140737488355328)(ak:B<=w.heap.size):
  B7 A0 216 #[.pointer (O ⟨b,0,U⟩),.string s] w fun e t=>e= .returned (.tuple #[.int .i64 s.size,.nilIface])/\BuA B b (a++Lib.strCells s) t/\Below B w t:=by
 obtain⟨G,x,C,E,F⟩:=dD (show(Tryz.prog.info? 5).map (fun i=>(i.zero,i.size,i.bytes))=O (O (.int .u8 0),1,1) by kernel_rfl);go_in;go_wp2_with (go_at_call 234;refine(EG B b a _ h).mono ?_);rintro e w1 ⟨rfl,v,m⟩;obtain⟨l,j,f,o,A⟩:=v;have J:w1.cell? ⟨b,1,U⟩=O j:=by rw[Lib.cell_of_heap f];rfl
 have am:=m.size;go_wp2_with (at_builtin;refine Lib.wpList_append_own_stringF _ rfl _ _ 22 9 rfl B 5 G Tryz.underlying22 Tryz.underlying9 x C E F _ _ _ rfl o s rfl (by unfold maxLen;omega) (by omega) (by omega) ?_);intro I u q n _;have z:=ai f;have d:u.heap[b]?=O (.cells #[.pointer (O ⟨b,0,U⟩),j] 255 (0,0)):=by
  rw[n.block b z (fun e=>A e.symm)];exact f
 have L:u.cell? ⟨b,1,U⟩=O j:=by rw[Lib.cell_of_heap d];rfl
 have ad:=Lib.frozen_of_heap d 1;obtain⟨k,r,c,rfl⟩:∃k r c,I= .slice k r c:=by
  rcases q.2 with⟨g,_⟩|⟨ag,c,K,af,g,_⟩
  ·exact⟨_,_,_,g⟩
  ·exact⟨_,_,_,g⟩
 go_wp2;go_ret2;refine⟨rfl,?_,?_⟩
 ·exact Lib.BuilderAtF.put (T:=255) (e:=5) l d (bs':=a++Lib.strCells s) (by simpa [Lib.strCells_length] using q) (by decide)
 ·exact(m.grown n (by omega) (fun H y=>(o.lt H y).1)).setCell (p:=⟨b,1,U⟩) l _
theorem af4:(Tryz.prog.info? 9).map (fun i=>(i.zero,i.size,i.bytes))=O (O (Ck ⟨#[]⟩),1,16):=by kernel_rfl
