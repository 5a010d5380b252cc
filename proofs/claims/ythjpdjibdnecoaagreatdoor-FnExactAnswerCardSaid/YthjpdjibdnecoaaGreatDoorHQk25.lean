import Derived.Test.YthjpdjibdnecoaaGreatDoorHQk04
import Derived.Test.YthjpdjibdnecoaaGreatDoorHQk24
import Derived.Sort.LoopGhostIn
set_option linter.all false
set_option maxRecDepth 100000
set_option maxHeartbeats 3200000
open Option renaming some->M,none->U
open Go.Proofs.Tryz renaming prog->O,sizeOf3->B2,isAgg3->B4
open Go renaming World->V,Calls->A7,Value->B1,Program->B3,KeepsFrom->D1,TypeId->D2
open Go.Value renaming pointer->Ax,int->A6,string->A9,slice->B0,tuple->C2
open Go.Ending renaming returned->A0
open Go.World renaming putObj_heap_other->A1
open Bool renaming true->A2,false->A4
open Go.RowKit renaming Below->A3
open Go.Lib renaming repeatL->A5
open Go.Shelf renaming Ren->A8
open Go.Fence renaming wide->Bs
namespace Go.Proofs.YthjpdjibdnecoaaGreatDoor
def eD:Nat->List Int->Int->Nat->Option (List Int×Option Bool×Nat)
 |0,_,_,_=>U
 |_+1,[],_,n=>M ([],U,n)
 |f+1,s::r,t,n=>if s<100 then M (r,M (decide (s=t)),n) else if(xE s t).2=A2 then eD f ((xE s t).1++r) t (n+(xE s t).1.length) else M (r,M A4,n)
def feedL:List Int->Int->List Int×Bool
 |[],_=>([],A4)
 |s::r,t=>if s<100 then(r,decide (s=t)) else if(xE s t).1=[]/\(xE s t).2=A2 then feedL r t else match eD 8 [s] t 0 with|some (lo,some b,_)=>(lo++r,b)|_=>([],A4)
def agH(s t:Int):Bool:=
 (xE s t).1.all (fun b=>decide (b<=133))&&(decide ((xE s t).1.length<=7)&&
 (if(xE s t).1=[]/\(xE s t).2=A2 then A2 else match eD 8 [s] t 0 with|some (_,some _,a)=>decide (a<=20)|_=>A4))
theorem agI:((List.range 34).all fun s=>(List.range 78).all fun t=>agH ((s:Int)+100) ((t:Int)+1))=A2:=by decide+kernel
theorem adx{s t:Int}(e:100<=s)(f:s<=133)(g:1<=t)(h:t<=78):agH s t=A2:=by
 have d:=List.all_eq_true.1 agI (s-100).toNat (by rw[iF];omega);have a:=List.all_eq_true.1 d (t-1).toNat (by rw[iF];omega);have b:(((s-100).toNat:Nat):Int)+100=s:=by omega
 have c:(((t-1).toNat:Nat):Int)+1=t:=by omega
 rw[b,c]at a;exact a
theorem LL{s t:Int}(b:100<=s)(c:s<=133)(e:1<=t)(f:t<=78):(∀x∈(xE s t).1,x<=133)/\(xE s t).1.length<=7:=by
 have a:=adx b c e f;unfold agH at a;rw[be,be]at a;exact⟨fun x d=>aC (List.all_eq_true.1 a.1 x d),aC a.2.1⟩
theorem sF{s t:Int}(e:100<=s)(f:s<=133)(h:1<=t)(i:t<=78)(g:¬((xE s t).1=[]/\(xE s t).2=A2)):∃lo b n,eD 8 [s] t 0=M (lo,M b,n)/\n<=20:=by
 have a:=adx e f h i;unfold agH at a;rw[be,be,aa g]at a;have c:=a.2.2;split at c
 ·rename_i lo b n d;exact⟨lo,b,n,d,aC c⟩
 ·cases c
theorem jF{s t:Int}{r:List Int}(b:100<=s)(a:(xE s t).1=[]/\(xE s t).2=A2):feedL (s::r) t=feedL r t:=by
 rw[feedL,aa (by omega),ab a]
theorem jG{s t:Int}{r lo:List Int}{b:Bool}{n:Nat}(d:100<=s)(a:¬((xE s t).1=[]/\(xE s t).2=A2))(c:eD 8 [s] t 0=M (lo,M b,n)):feedL (s::r) t=(lo++r,b):=by
 rw[feedL,aa (by omega),aa a,c]
theorem il{s t:Int}{r:List Int}(a:s<100):feedL (s::r) t=(r,decide (s=t)):=by
 rw[feedL,ab a]
theorem jl{s t:Int}{r lo:List Int}{b:Option Bool}{f n m:Nat}(h:eD (f+1) (s::r) t n=M (lo,b,m))(c:100<=s):((xE s t).2=A2/\eD f ((xE s t).1++r) t (n+(xE s t).1.length)=M (lo,b,m))\/((xE s t).2=A4/\lo=r/\b=M A4/\m=n):=by
 rw[eD,aa (by omega)]at h;split at h
 ·rename_i a;exact .inl ⟨a,h⟩
 ·rename_i a;simp only[dr,gw]at h;exact .inr ⟨by simpa using a,h.1.symm,h.2.1.symm,h.2.2.symm⟩
theorem qw{s t:Int}{r lo:List Int}{b:Option Bool}{f n m:Nat}(h:eD (f+1) (s::r) t n=M (lo,b,m))(a:s<100):lo=r/\b=M (decide (s=t))/\m=n:=by
 rw[eD,ab a]at h;simp only[dr,gw]at h;exact⟨h.1.symm,h.2.1.symm,h.2.2.symm⟩
def Be(st:List Int):Prop:=∀a∈st,a<=133
theorem L0:∀{f:Nat}{st:List Int}{t:Int}{n:Nat}{lo:List Int}{b:Option Bool}{m:Nat},Be st->1<=t->t<=78->eD f st t n=M (lo,b,m)->Be lo
 |0,_,_,_,_,_,_,_,_,_,h=>by simp[eD]at h
 |f+1,[],t,n,lo,b,m,a,_,_,h=>by
  simp only[eD,dr,gw]at h;rw[<-h.1];exact a
 |f+1,s::r,t,n,lo,b,m,a,g,i,h=>by
  have e:Be r:=fun c hx=>a c (dC _ hx);by_cases j:s<100
  ·rw[(qw h j).1];exact e
  ·rcases jl h (by omega) with⟨_,d⟩|⟨_,d,_⟩
   ·refine L0 (fun c hx=>?_) g i d;rcases List.mem_append.1 hx with hx|hx
    ·exact(LL (by omega) (a s (bK ..)) g i).1 c hx
    ·exact e c hx
   ·rw[d];exact e
theorem xD:∀{st:List Int}{t:Int},Be st->1<=t->t<=78->Be (feedL st t).1
 |[],t,a,_,_=>by rw[feedL];exact a
 |s::r,t,a,e,f=>by
  have d:Be r:=fun b hx=>a b (dC _ hx);by_cases i:s<100
  ·rw[il i];exact d
  ·have h:=a s (bK ..);by_cases c:(xE s t).1=[]/\(xE s t).2=A2
   ·rw[jF (by omega) c];exact xD d e f
   ·obtain⟨l,k,m,g,_⟩:=sF (by omega) h e f c;rw[jG (by omega) c g];intro b hx;rcases List.mem_append.1 hx with hx|hx
    ·refine L0 (st:=[s]) ?_ e f g b hx;intro n j;obtain rfl:=List.mem_singleton.1 j;exact h
    ·exact d b hx
inductive Fo where
 |nil:Fo
 |cons:Nd->Fo->Fo->Fo
def Fo.sz:Fo->Nat
 | .nil=>0
 | .cons _ k r=>k.sz+1+r.sz
def Fo.len:Fo->Nat
 | .nil=>0
 | .cons _ _ r=>r.len+1
def Fo.tops:Fo->Nat->List Int
 | .nil,_=>[]
 | .cons _ k r,b=>((b+k.sz:Nat):Int)::r.tops (b+k.sz+1)
def Fo.flat:Fo->Nat->List Nd
 | .nil,_=>[]
 | .cons N k r,b=>k.flat b++({N with ks:=k.tops b}::r.flat (b+k.sz+1))
def Fo.app:Fo->Fo->Fo
 | .nil,c=>c
 | .cons N k r,c=> .cons N k (r.app c)
def one(N:Nd)(k:Fo):Fo:= .cons N k .nil
theorem Fo.app_nil:∀(a:Fo),a.app .nil=a
 | .nil=>rfl
 | .cons N k r=>by rw[Fo.app,r.app_nil]
theorem Fo.app_app:∀(a b c:Fo),(a.app b).app c=a.app (b.app c)
 | .nil,_,_=>rfl
 | .cons N k r,b,c=>by simp only[Fo.app];rw[r.app_app b c]
theorem Fo.sz_app:∀(a c:Fo),(a.app c).sz=a.sz+c.sz
 | .nil,c=>by simp[Fo.app,Fo.sz]
 | .cons N k r,c=>by simp only[Fo.app,Fo.sz,r.sz_app c];omega
theorem Fo.len_app:∀(a c:Fo),(a.app c).len=a.len+c.len
 | .nil,c=>by simp[Fo.app,Fo.len]
 | .cons N k r,c=>by simp only[Fo.app,Fo.len,r.len_app c];omega
theorem Fo.tops_app:∀(a c:Fo)(b:Nat),(a.app c).tops b=a.tops b++c.tops (b+a.sz)
 | .nil,c,b=>by simp[Fo.app,Fo.sz,Fo.tops]
 | .cons N k r,c,b=>by simp only[Fo.app,Fo.tops,Fo.sz,r.tops_app c,ej];rw[show b+k.sz+1+r.sz=b+(k.sz+1+r.sz) by omega]
theorem Fo.flat_app:∀(a c:Fo)(b:Nat),(a.app c).flat b=a.flat b++c.flat (b+a.sz)
 | .nil,c,b=>by simp[Fo.app,Fo.sz,Fo.flat]
 | .cons N k r,c,b=>by simp only[Fo.app,Fo.flat,Fo.sz,r.flat_app c,ej,dh];rw[show b+k.sz+1+r.sz=b+(k.sz+1+r.sz) by omega]
theorem Fo.flat_len:∀(a:Fo)(b:Nat),(a.flat b).length=a.sz
 | .nil,_=>rfl
 | .cons N k r,b=>by simp only[Fo.flat,Fo.sz,aH,bv,k.flat_len,r.flat_len];omega
theorem Fo.tops_len:∀(a:Fo)(b:Nat),(a.tops b).length=a.len
 | .nil,_=>rfl
 | .cons N k r,b=>by simp only[Fo.tops,Fo.len,bv,r.tops_len]
theorem aA(N:Nd)(k:Fo):(one N k).sz=k.sz+1:=rfl
theorem xF(N:Nd)(k:Fo)(b:Nat):(one N k).tops b=[((b+k.sz:Nat):Int)]:=rfl
theorem Ho(N:Nd)(k:Fo)(b:Nat):(one N k).flat b=k.flat b++[{N with ks:=k.tops b}]:=rfl
theorem Fo.len_le:∀(a:Fo),a.len<=a.sz
 | .nil=>ae _
 | .cons N k r=>by have:=r.len_le;simp only[Fo.len,Fo.sz];omega
def z0:ByteArray:=⟨#[]⟩
def nd(k:Int)(s:Tk)(e a n:Int)(x:ByteArray)(nm:List ByteArray):Nd:=⟨k,s.f,e,s.l,a,n,x,nm,[]⟩
def fp(k:Int)(s:Tk)(e:Int):Nd:=nd k s e 0 0 z0 []
def qx(k:Int)(s:Tk)(e:Int):Nd:=if k=10 then fp 28 s e else if k=26 then fp 29 s e else nd 31 s e (k-60) 0 z0 []
def abt(k:Int):Int:=if k=25 then 21 else if k=50 then 22 else if k=69 then 20 else 19
def Gn(k:Int):Int:=if k=26 then 1 else if k=10 then 2 else if 73<=k then 3 else if k=72 then 4 else if k=68 then 5 else if k=69 then 6 else if k=67 then 7 else if k=70\/k=71 then 8 else if k=61\/k=62 then 9 else 10
def rpw(k:Int):Int:=if k=72 then 4 else Gn k+1
def J0(k:Int):Bool:=decide (k=48\/k=44\/k=40)
def jn(N:Nd)(ks:Fo)(s:Tk)(e:Int):Fo:=if N.k=34\/N.k=27 then one (fp 37 s e) (one N ks) else one N ks
inductive Fc (tk:Nat->Tk) (n:Nat):Nat->List ByteArray->Nat->Prop where
 |stop {k:Nat}:(tk k).k≠46->k<n->Fc tk n k [] k
 |go {k j:Nat}{ns:List ByteArray}:(tk k).k=46->k+1<n->(tk (k+1)).k=1->Fc tk n (k+2) ns j->Fc tk n k ((tk (k+1)).x::ns) j
inductive Prm (tk:Nat->Tk) (n:Nat):Nat->List ByteArray->Bool->Nat->Prop where
 |close {k:Nat}:(tk k).k=41->k+1<n->Prm tk n k [] false (k+1)
 |rest {k:Nat}:(tk k).k=49->(tk (k+1)).k=41->k+2<n->Prm tk n k [] true (k+2)
 |last {k:Nat}:(tk k).k=1->(tk (k+1)).k=41->k+2<n->Prm tk n k [(tk k).x] false (k+2)
 |go {k j:Nat}{ns:List ByteArray}{r:Bool}:(tk k).k=1->(tk (k+1)).k=46->k+2<n->Prm tk n (k+2) ns r j->Prm tk n k ((tk k).x::ns) r j
inductive wF where
 |unit:wF
 |expr:Int->wF
 |more:Int->Tk->Fo->wF
 |base:wF
 |post:Tk->Fo->wF
 |exprs:wF
 |moreE:wF
 |moreB:wF
 |stat:wF
 |stats:wF
 |block:wF
 |body:Tk->wF
 |entry:wF
 |entries:wF
 |branch:wF
inductive P (tk:Nat->Tk) (n:Nat):wF->Nat->Fo->Nat->Prop where
 |upre {i j:Nat}{x:Fo}:ld (tk i).k=true->i<n->P tk n .unit (i+1) x j->P tk n .unit i (one (nd 30 (tk i) (tk (j-1)).t (abt (tk i).k) 0 z0 []) x) j
 |uint {i:Nat}:(tk i).k=2->i+1<n->P tk n .unit i (one (nd 23 (tk i) (tk i).t 0 (tk i).n z0 []) .nil) (i+1)
 |uflt {i:Nat}:(tk i).k=3->i+1<n->P tk n .unit i (one (nd 24 (tk i) (tk i).t 0 0 (tk i).x []) .nil) (i+1)
 |ustr {i:Nat}:(tk i).k=4->i+1<n->P tk n .unit i (one (nd 25 (tk i) (tk i).t 0 0 (tk i).x []) .nil) (i+1)
 |unil {i:Nat}:(tk i).k=24->i+1<n->P tk n .unit i (one (fp 20 (tk i) (tk i).t) .nil) (i+1)
 |utru {i:Nat}:(tk i).k=29->i+1<n->P tk n .unit i (one (fp 21 (tk i) (tk i).t) .nil) (i+1)
 |ufls {i:Nat}:(tk i).k=17->i+1<n->P tk n .unit i (one (fp 22 (tk i) (tk i).t) .nil) (i+1)
 |urst {i:Nat}:(tk i).k=49->i+1<n->P tk n .unit i (one (fp 27 (tk i) (tk i).t) .nil) (i+1)
 |ufn {i j:Nat}{R:Fo}:(tk i).k=18->i<n->P tk n (.body (tk i)) (i+1) R j->P tk n .unit i R j
 |utab {i j:Nat}{E:Fo}:(tk i).k=42->i<n->P tk n .entries (i+1) E j->(tk j).k=43->j+1<n->P tk n .unit i (one (fp 35 (tk i) (tk j).t) E) (j+1)
 |ubas {i j:Nat}{R:Fo}:(tk i).k=1\/(tk i).k=40->i<n->P tk n .base i R j->P tk n .unit i R j
 |ex {p:Int}{i k j:Nat}{x R:Fo}:(tk i).k≠6->i<n->P tk n .unit i x k->P tk n (.more p (tk i) x) k R j->P tk n (.expr p) i R j
 |mstop {p:Int}{s:Tk}{x:Fo}{k:Nat}:k<n->(ia (tk k).k=true->Gn (tk k).k<p)->P tk n (.more p s x) k x k
 |mgo {p:Int}{s:Tk}{x y R:Fo}{k k1 j:Nat}:k<n->ia (tk k).k=true->p<=Gn (tk k).k->P tk n (.expr (rpw (tk k).k)) (k+1) y k1->P tk n (.more p s (one (qx (tk k).k s (tk (k1-1)).t) (x.app y))) k1 R j->P tk n (.more p s x) k R j
 |bname {i j:Nat}{R:Fo}:(tk i).k=1->i<n->P tk n (.post (tk i) (one (nd 26 (tk i) (tk i).t 0 0 (tk i).x []) .nil)) (i+1) R j->P tk n .base i R j
 |bopen {i k j:Nat}{N:Nd}{ks R:Fo}:(tk i).k=40->i<n->P tk n (.expr 0) (i+1) (one N ks) k->(tk k).k=41->k<n->P tk n (.post (tk i) (jn N ks (tk i) (tk k).t)) (k+1) R j->P tk n .base i R j
 |pstop {s:Tk}{B:Fo}{k:Nat}:k<n->J0 (tk k).k=false->P tk n (.post s B) k B k
 |pdot {s:Tk}{B R:Fo}{k j:Nat}:(tk k).k=48->(tk (k+1)).k=1->k+1<n->P tk n (.post s (one (nd 33 s (tk (k+1)).t 0 0 (tk (k+1)).x []) B)) (k+2) R j->P tk n (.post s B) k R j
 |psq {s:Tk}{B Y R:Fo}{k k1 j:Nat}:(tk k).k=44->k<n->P tk n (.expr 0) (k+1) Y k1->(tk k1).k=45->k1<n->P tk n (.post s (one (fp 32 s (tk k1).t) (B.app Y))) (k1+1) R j->P tk n (.post s B) k R j
 |pcall0 {s:Tk}{B R:Fo}{k j:Nat}:(tk k).k=40->(tk (k+1)).k=41->k+1<n->P tk n (.post s (one (fp 34 s (tk (k+1)).t) B)) (k+2) R j->P tk n (.post s B) k R j
 |pcall {s:Tk}{B Y R:Fo}{k k1 j:Nat}:(tk k).k=40->k+1<n->(tk (k+1)).k≠41->P tk n .exprs (k+1) Y k1->(tk k1).k=41->k1<n->P tk n (.post s (one (fp 34 s (tk k1).t) (B.app Y))) (k1+1) R j->P tk n (.post s B) k R j
 |es {i k j:Nat}{x R:Fo}:P tk n (.expr 0) i x k->P tk n .moreE k R j->P tk n .exprs i (x.app R) j
 |estop {k:Nat}:(tk k).k≠46->k<n->P tk n .moreE k .nil k
 |ego {k k1 j:Nat}{x R:Fo}:(tk k).k=46->k<n->P tk n (.expr 0) (k+1) x k1->P tk n .moreE k1 R j->P tk n .moreE k (x.app R) j
 |bstop {k:Nat}:(tk k).k≠46->k<n->P tk n .moreB k .nil k
 |bgo {k k1 j:Nat}{x R:Fo}:(tk k).k=46->k<n->P tk n .base (k+1) x k1->P tk n .moreB k1 R j->P tk n .moreB k (x.app R) j
 |body {i k j:Nat}{s:Tk}{nm:List ByteArray}{r:Bool}{B:Fo}:(tk i).k=40->i<n->Prm tk n (i+1) nm r k->P tk n .block k B j->P tk n (.body s) i (one (nd 36 s (tk (j-1)).t (if r=true then 1 else 0) 0 z0 nm) B) j
 |block {i k:Nat}{S:Fo}:(tk i).k=42->i<n->P tk n .stats (i+1) S k->(tk k).k=43->k+1<n->P tk n .block i (one (fp 1 (tk i) (tk k).t) S) (k+1)
 |sstop {k:Nat}:(tk k).k=43\/(tk k).k=6->k<n->P tk n .stats k .nil k
 |ssep {k j:Nat}{R:Fo}:(tk k).k=5->k<n->P tk n .stats (k+1) R j->P tk n .stats k R j
 |sgo {k k1 j:Nat}{x R:Fo}:(tk k).k≠5->(tk k).k≠6->(tk k).k≠43->k<n->P tk n .stat k x k1->P tk n .stats k1 R j->P tk n .stats k (x.app R) j
 |nstop {k:Nat}:(tk k).k=43->k<n->P tk n .entries k .nil k
 |ncom {k k1 j:Nat}{x R:Fo}:(tk k).k≠43->k<n->P tk n .entry k x k1->(tk k1).k=46->k1<n->P tk n .entries (k1+1) R j->P tk n .entries k (x.app R) j
 |nlast {k k1 j:Nat}{x R:Fo}:(tk k).k≠43->k<n->P tk n .entry k x k1->(tk k1).k≠46->k1<n->P tk n .entries k1 R j->P tk n .entries k (x.app R) j
 |item {i j:Nat}{x:Fo}:(tk i).k≠48->(tk i).k≠44->(tk i).k≠6->i<n->P tk n (.expr 0) i x j->P tk n .entry i (one (fp 40 (tk i) (tk (j-1)).t) x) j
 |pair {i k j:Nat}{x y:Fo}:(tk i).k=44->i<n->P tk n (.expr 0) (i+1) x k->(tk k).k=45->(tk (k+1)).k=47->k+1<n->P tk n (.expr 0) (k+2) y j->P tk n .entry i (one (fp 41 (tk i) (tk (j-1)).t) (x.app y)) j
 |named {i j:Nat}{y:Fo}:(tk i).k=48->(tk (i+1)).k=1->(tk (i+2)).k=47->i+2<n->P tk n (.expr 0) (i+3) y j->P tk n .entry i (one (nd 42 (tk i) (tk (j-1)).t 0 0 (tk (i+1)).x []) y) j
 |belif {i k k1 j:Nat}{x b z:Fo}:(tk i).k=20\/(tk i).k=15->i<n->P tk n (.expr 0) (i+1) x k->P tk n .block k b k1->(tk k1).k=15->k1<n->P tk n .branch k1 z j->P tk n .branch i (one (fp 7 (tk i) (tk (j-1)).t) ((x.app b).app z)) j
 |belse {i k k1 j:Nat}{x b z:Fo}:(tk i).k=20\/(tk i).k=15->i<n->P tk n (.expr 0) (i+1) x k->P tk n .block k b k1->(tk k1).k=16->k1<n->P tk n .block (k1+1) z j->P tk n .branch i (one (fp 7 (tk i) (tk (j-1)).t) ((x.app b).app z)) j
 |bno {i k k1:Nat}{x b:Fo}:(tk i).k=20\/(tk i).k=15->i<n->P tk n (.expr 0) (i+1) x k->P tk n .block k b k1->(tk k1).k≠15->(tk k1).k≠16->k1<n->P tk n .branch i (one (fp 7 (tk i) (tk (k1-1)).t) (x.app b)) k1
 |tlet0 {i k:Nat}{ns:List ByteArray}:(tk i).k=22->i+1<n->(tk (i+1)).k=1->Fc tk n (i+2) ns k->(tk k).k≠47->P tk n .stat i (one (nd 2 (tk i) (tk (k-1)).t 0 0 z0 ((tk (i+1)).x::ns)) .nil) k
 |tlet {i k j:Nat}{ns:List ByteArray}{E:Fo}:(tk i).k=22->i+1<n->(tk (i+1)).k=1->Fc tk n (i+2) ns k->(tk k).k=47->P tk n .exprs (k+1) E j->P tk n .stat i (one (nd 2 (tk i) (tk (j-1)).t 0 0 z0 ((tk (i+1)).x::ns)) E) j
 |tcon {i j:Nat}{x:Fo}:(tk i).k=13->(tk (i+1)).k=1->(tk (i+2)).k=47->i+2<n->P tk n (.expr 0) (i+3) x j->P tk n .stat i (one (nd 3 (tk i) (tk (j-1)).t 0 0 z0 [(tk (i+1)).x]) x) j
 |tfn {i j:Nat}{B:Fo}:(tk i).k=18->(tk (i+1)).k=1->(tk (i+2)).k=40->i+2<n->P tk n (.body (tk (i+2))) (i+2) B j->P tk n .stat i (one (nd 4 (tk i) (tk (j-1)).t 0 0 z0 [(tk (i+1)).x]) B) j
 |tif {i j:Nat}{R:Fo}:(tk i).k=20->i<n->P tk n .branch i R j->P tk n .stat i R j
 |twhile {i k j:Nat}{x b:Fo}:(tk i).k=31->i<n->P tk n (.expr 0) (i+1) x k->P tk n .block k b j->P tk n .stat i (one (fp 8 (tk i) (tk (j-1)).t) (x.app b)) j
 |tfor {i k k1 j:Nat}{ns:List ByteArray}{E b:Fo}:(tk i).k=19->i+1<n->(tk (i+1)).k=1->Fc tk n (i+2) ns k->(tk k).k=47->P tk n .exprs (k+1) E k1->P tk n .block k1 b j->P tk n .stat i (one (nd 9 (tk i) (tk (j-1)).t 0 0 z0 ((tk (i+1)).x::ns)) (E.app b)) j
 |teach {i k k1 j:Nat}{ns:List ByteArray}{x b:Fo}:(tk i).k=19->i+1<n->(tk (i+1)).k=1->Fc tk n (i+2) ns k->(tk k).k=21->P tk n (.expr 0) (k+1) x k1->(tk k1).k=42->k1<n->P tk n .block k1 b j->P tk n .stat i (one (nd 10 (tk i) (tk (j-1)).t 0 0 z0 ((tk (i+1)).x::ns)) (x.app b)) j
 |tbreak {i:Nat}:(tk i).k=11->i+1<n->P tk n .stat i (one (fp 11 (tk i) (tk i).t) .nil) (i+1)
 |tnext {i:Nat}:(tk i).k=23->i+1<n->P tk n .stat i (one (fp 12 (tk i) (tk i).t) .nil) (i+1)
 |tret0 {i:Nat}:(tk i).k=27->i+1<n->(tk (i+1)).k=5\/(tk (i+1)).k=6\/(tk (i+1)).k=43->P tk n .stat i (one (fp 13 (tk i) (tk i).t) .nil) (i+1)
 |tret {i j:Nat}{E:Fo}:(tk i).k=27->i+1<n->dG (tk (i+1)).k=true->P tk n .exprs (i+1) E j->P tk n .stat i (one (fp 13 (tk i) (tk (j-1)).t) E) j
 |ttry {i k k1 j:Nat}{ns:List ByteArray}{a b:Fo}:(tk i).k=30->i<n->P tk n .block (i+1) a k->(tk k).k=12->k+1<n->(tk (k+1)).k=1->Fc tk n (k+2) ns k1->P tk n .block k1 b j->P tk n .stat i (one (nd 14 (tk i) (tk (j-1)).t 0 0 z0 ((tk (k+1)).x::ns)) (a.app b)) j
 |tthrow {i j:Nat}{x:Fo}:(tk i).k=28->i<n->P tk n (.expr 0) (i+1) x j->P tk n .stat i (one (fp 15 (tk i) (tk (j-1)).t) x) j
 |tdefer {i j:Nat}{x:Fo}:(tk i).k=14->i<n->P tk n .base (i+1) x j->P tk n .stat i (one (fp 16 (tk i) (tk (j-1)).t) x) j
 |tblock {i j:Nat}{R:Fo}:(tk i).k=42->i<n->P tk n .block i R j->P tk n .stat i R j
 |tdo {i j:Nat}{x:Fo}:(tk i).k=1\/(tk i).k=40->i<n->P tk n .base i x j->(tk j).k≠46->(tk j).k≠47->j<n->P tk n .stat i (one (fp 6 (tk i) (tk (j-1)).t) x) j
 |tset {i k k1 j:Nat}{x R E:Fo}:(tk i).k=1\/(tk i).k=40->i<n->P tk n .base i x k->P tk n .moreB k R k1->(tk k1).k=47->k1<n->P tk n .exprs (k1+1) E j->P tk n .stat i (one (nd 5 (tk i) (tk (j-1)).t 0 ((x.app R).len:Nat) z0 []) ((x.app R).app E)) j
open Go.RowKit
def ady(B:Nat)(W:V)(Z X:V->Prop):Exit->Act->V->Prop
 | .normal,_,a=>D1 B W a/\Z a
 | .ret,_,a=>D1 B W a/\X a
 |_,_,_=>False
theorem uk{P:B3}{n:Nat}{g:Operand}{ps:Array Tmp}{assign body:Go.Code}{Q:Exit->Act->V->Prop}{a:Act}{w:V}{gf:Nat}{lb:Array B1}
  (a7:a.eval g= .func (.func gf) #[] lb) (an:∀args w,(callFunc gf args).run P w= .ok (.enter gf args) w) (enc:Nat->Array B1) (bb:∀x,(enc x).size=ps.size) (u:Nat)
  (Z:Nat->V->Prop) (y:Nat->Act->V->Prop) (X:V->Prop)
  (am:∀m W r o,Z m W->W.heap[w.heap.size+1]?=M (.loop r)->Z m (W.putObj (w.heap.size+1) o))
  (bl:∀m d W r o,y m d W->W.heap[w.heap.size+1]?=M (.loop r)->y m d (W.putObj (w.heap.size+1) o)) (al:∀W r o,X W->W.heap[w.heap.size+1]?=M (.loop r)->X (W.putObj (w.heap.size+1) o))
  (ao:∀c,A3 w.heap.size w c->c.heap.size=w.heap.size+2->Z u c)
  (av:∀(l m:Nat) W (K:Act->V->Prop),m<u->Z (m+1) W->(∀d b,y m d b->D1 w.heap.size W b->K d b)->
   assign.wpIn (Fence.wide.inRound l) (n-1-1) P (Exit.then K (fun _ _ _=>False)) {tmps:=(ps.zip (enc m)).foldl (fun t (p,v)=>t.setIfInBounds p v) a.tmps,defers:=[]} W)
  (a1:∀(l m:Nat) d W,m<u->y m d W->body.wpIn (Fence.wide.inRound l) (n-1-1) P (ady w.heap.size W (Z m) X) d W)
  (bk:∀(l:Nat)(j:Nat->V->Prop)(I:V->Prop),(∀m W,j m W->Z m W)->
   (∀m W,m<u->j (m+1) W->YieldAt Bs (n-1-1) P l (enc m) W fun e b=>(e= A0 (.bool A2)/\j m b)\/(e= A0 (.bool A4)/\I b))->
   ∀W,j u W->CallsIn Bs (n-1) P gf (#[.func (.yield l) #[] #[]]++lb) W fun e b=>(∃v,e= A0 v)/\(j 0 b\/I b))
  (a5:∀W,Z 0 W->W.heap[w.heap.size]?=M (.deferred (M []))->Q .normal {a with defers:={target:= .collected w.heap.size,args:=#[]}::a.defers} W)
  (bd:∀W,X W->W.heap[w.heap.size]?=M (.deferred (M []))->Q .ret {a with defers:={target:= .collected w.heap.size,args:=#[]}::a.defers} W):
  (Go.Code.rangeFunc g ps assign body).wpIn Bs n P Q a w:=by
 refine wpIn_rangeFunc ?_;intro fn a6;show ∃l bE b0 bw b1 bx args b2,(Instr.enterLoop fn a.tmps ps assign body U).run P w=_/\_;obtain⟨rc,f⟩:∃rc:LoopState->Option Go.Code->Loop,rc=fun bo bn=>{state:=bo,pending:=bn,fn,tmps:=a.tmps,params:=ps,assign,body,defers:=w.heap.size}:=⟨_,rfl⟩;have C:=run_enterLoop_outer (P:=P) (w:=w) fn a.tmps ps assign body;rw[show({state:= .ready,pending:=U,fn,tmps:=a.tmps,params:=ps,assign,body,defers:=w.heap.size}:Loop)=rc .ready U by rw[f]]at C;obtain⟨c,k⟩:=ay ((w.alloc (.deferred (M []))).alloc (.loop (rc .ready U)));rw[k]at C;have a8:c.heap[w.heap.size+1]?=M (.loop (rc .ready U)):=by
  rw[<-k];have:=World.alloc_heap_new (w.alloc (.deferred (M []))) (.loop (rc .ready U));rwa [aF]at this
 have a2:c.heap[w.heap.size]?=M (.deferred (M [])):=by
  rw[<-k];exact(bm _ _ _ (by simp)).trans (World.alloc_heap_new w _)
 have a0:A3 w.heap.size w c:=by rw[<-k];exact((ag _ w).alloc (ae _) _).alloc (by simp) _
 have bh:c.heap.size=w.heap.size+2:=by rw[<-k];simp
 refine⟨w.heap.size+1,[{target:= .collected w.heap.size,args:=#[]}],c,{target:= .fn (.func gf) lb,args:=#[.func (.yield (w.heap.size+1)) #[] #[]]},c,gf,
  #[.func (.yield (w.heap.size+1)) #[] #[]]++lb,c,C,?_,?_,?_,fun z=>by simp[Bs]at z,?_⟩
 ·simp only[resolve,a7];simp[go_sem]
 ·intro bA bD;trivial
 ·simp[invoke,go_sem,an]
 ·refine(bk (w.heap.size+1) (fun m W=>Z m W/\W.heap[w.heap.size+1]?=M (.loop (rc .ready U))/\W.heap[w.heap.size]?=M (.deferred (M [])))
   (fun W=>X W/\W.heap[w.heap.size+1]?=M (.loop (rc .done (M .ret)))/\W.heap[w.heap.size]?=M (.deferred (M []))) (fun _ _ z=>z.1) ?_ c ⟨ao c a0 bh,a8,a2⟩).mono ?_
  ·rintro m W af ⟨A,h,q⟩;have ak:=run_yield (P:=P) (args:=enc m) h (by rw[f];exact bb m);rw[f]at ak;refine⟨fn,_,assign,body,ak,roundIn_of_wpIn a6 (av _ m W _ af A fun d b ap L=>?_)⟩;have E:=L.same _ _ (by omega) h rfl;have a4:=L.same _ _ (ae _) q rfl;have a9:w.heap.size+1<b.heap.size:=(Array.getElem?_eq_some_iff.1 E).1;refine⟨_,run_beginRound E (by rw[f]),?_⟩;have ad:(b.putObj (w.heap.size+1) (.loop {rc .ready U with state:= .busy})).heap[w.heap.size+1]?=M (.loop {rc .ready U with state:= .busy}):=World.putObj_heap_same a9;have J:(b.putObj (w.heap.size+1) (.loop {rc .ready U with state:= .busy})).heap[w.heap.size]?=M (.deferred (M [])):=(A1 (by omega)).trans a4;refine wpIn_mono (a1 _ m d _ af (bl _ _ _ _ _ ap E)) ?_;rintro e bt bs G;cases e with
   |normal=>
    obtain⟨s,H⟩:=G;have i:=s.same _ _ (by omega) ad rfl;have B:=s.same _ _ (ae _) J rfl;have F:=(Array.getElem?_eq_some_iff.1 i).1;refine⟨_,_,run_endRound (P:=P) U i,.inl ⟨rfl,am _ _ _ _ H i,?_,(A1 (by omega)).trans B⟩⟩;rw[World.putObj_heap_same F];simp[f]
   |ret=>
    obtain⟨s,H⟩:=G;have i:=s.same _ _ (by omega) ad rfl;have B:=s.same _ _ (ae _) J rfl;have F:=(Array.getElem?_eq_some_iff.1 i).1;refine⟨_,_,run_endRound (P:=P) (M .ret) i,.inr ⟨rfl,al _ _ _ H i,?_,(A1 (by omega)).trans B⟩⟩;rw[World.putObj_heap_same F];simp[f]
   |_=>exact G.elim
  ·rintro e br ⟨⟨v,rfl⟩,⟨A,h,q⟩|⟨ar,h,q⟩⟩
   ·refine⟨U,_,by have:=run_endLoop (P:=P) h (by rw[f];simp);rw[f]at this;exact this,?_⟩;exact a5 _ (am _ _ _ _ A h) ((A1 (by omega)).trans q)
   ·refine⟨M .ret,_,by have:=run_endLoop (P:=P) h (by rw[f];simp);rw[f]at this;exact this,?_⟩;exact wpIn_ret (bd _ (al _ _ _ ar h) ((A1 (by omega)).trans q))
theorem J1{P:B3}{l n:Nat}{o:Oper}{a:Act}{K:Act->V->Prop}{Q:Exit->Act->V->Prop}(r:Result Next)(h:o.upon P a K Q r):o.uponIn (Fence.wide.inRound l) n P a K Q r:=by
 have d:(Fence.wide.inRound l).depth.isSome=A2->1<=n:=fun h=>by simp[Bs,Fence.inRound]at h
 cases r with
 |ok c i=>
  cases c with
  |value b=>exact h
  |skip=>exact h
  |defer k=>exact h
  |enter m args=>exact⟨d,CallsIn.inRound l (callsIn_wide.2 h)⟩
  |row row args=>exact⟨d,fun e f _=>let ⟨b,j,r,g⟩:=h e f;⟨b,j,r,stepsIn_wide.2 g⟩⟩
  |_=>exact h.elim
 |halt c i=>
  cases c with
  |panic b=>exact h
  |_=>exact h.elim
def Hp(o:Oper):Bool:=match o.op with| .defer _=>A4|_=>A2
theorem adz{o:Oper}(h:Hp o=A2):∀c,o.op≠ .defer c:=by
 intro c a;unfold Hp at h;rw[a]at h;cases h
theorem J2{P:B3}{b:Array Oper}{Q:Exit->Act->V->Prop}{l n i:Nat}{K:Act->V->Prop}{a:Act}{w:V}(e:∀(j:Nat) (o:Oper),b[j]?=M o->Hp o=A2)(f:¬LetsOut Q)(h:wpOp P b Q i K a w):wpOpIn (Fence.wide.inRound l) n P b Q i K a w:=by
 unfold wpOp at h;unfold wpOpIn;cases ho:b[i]? with
 |none=>simpa [ho] using h
 |some o=>
  simp only[ho]at h⊢;split
  ·rename_i c;simp only[c,jh]at h;rcases h with h|h
   ·refine⟨fun d _=>trivial,?_⟩;show o.uponIn _ _ _ _ _ _ ((o.semAt (M l) a.eval).run P w);rw[kF l a.eval o (adz (e i o ho))];exact J1 _ h
   ·exact absurd h.2 f
  ·rename_i c;simp only[c]at h;exact⟨fun d _=>trivial,by simpa using h⟩
theorem ve{P:B3}{f:Region.Mode}{b:Array Oper}{Q:Exit->Act->V->Prop}{l n:Nat}(c:∀(j:Nat) (o:Oper),b[j]?=M o->Hp o=A2)(d:¬LetsOut Q):
  ∀(fuel:Nat)(e:Array Bool)(a:Act)(w:V),wpAny P f b Q fuel e a w->wpAnyIn (Fence.wide.inRound l) n P f b Q fuel e a w
 |0,_,_,_,h=>h
 |fuel+1,_,_,_,h=>⟨h.1,fun i m=>J2 c d (wpOp_mono (fun g p k=>ve c d fuel _ g p k) (h.2 i m))⟩
theorem rA{P:B3}{b:Array Oper}{Q:Exit->Act->V->Prop}{l n id:Nat}{S:V->Prop}{a:Act}{w:V}(f:P.follows .mixedOrders=A2)(d:b.all Hp=A2)(i:¬LetsOut Q)(hS:S w.drew)
  (h:S w.drew->wpAnyH P .any b Q S b.size (Array.replicate b.size A4) a w.drew):(Go.Code.region id b A2).wpIn (Fence.wide.inRound l) n P Q a w:=
 wpIn_region_any f (ve (fun j k g=>by
  obtain⟨e,c⟩:=Array.getElem?_eq_some_iff.1 g;rw[<-c];exact Array.all_eq_true.1 d j e) i _ _ _ _ (wpAny_of_held _ _ _ _ (h hS)))
theorem J3{P:B3}{e:Region.Mode}{b:Array Oper}{Q:Exit->Act->V->Prop}{S:V->Prop}(i:Nat)(g:Tmp)(v:B1){f:Oper}{fuel:Nat}{d:Array Bool}{a:Act}{w:V}(m:b[i]?=M f)(j:f.dst=M g)
  (o:Region.noSelect b=A2) (l:Region.free e b d i=A2) (n:(Region.ready e b d).contains i=A2)
  (k:∀c a w,Q (.panic c) (a.put (M g) v) w->Q (.panic c) a w) (p:Region.wanted f (yielded b a.tmps)=A2) (hS:S w) (q:∀w,S w->(execOp a.eval f).run P w= .ok (.value v) w)
  (h:wpAnyH P e b Q S fuel (d.setIfInBounds i A2) (a.put (M g) v) w):wpAnyH P e b Q S (fuel+1) d a w:=
 wpAnyH_take m o l n (by rw[j];exact k) (Or.inl ⟨p,q⟩) hS (by rw[j];exact h)
def ak7(b:Region.Mode)(a:Array Oper)(m:List Bool)(i:Nat)(l:List B1):Bool:=Region.noSelect a&&Region.free b a m.toArray i&&(Region.ready b a m.toArray).contains i&&(match a[i]? with|some c=>Region.wanted c (yielded a l.toArray)|none=>A4)
theorem bq{P:B3}{g:Region.Mode}{e:Array Oper}{Q:Exit->Act->V->Prop}{S:V->Prop}(i:Nat)(v:B1){d:Tmp}{j:Oper}{fuel:Nat}{m:List Bool}{l:List B1}{f:List Deferred}{w:V}(k:e[i]?=M j)(o:j.dst=M d)(b:ak7 g e m i l=A2)
  (n:∀c a w,Q (.panic c) (a.put (M d) v) w->Q (.panic c) a w) (hS:S w) (p:∀w,S w->(execOp (Act.mk l.toArray f).eval j).run P w= .ok (.value v) w)
  (h:wpAnyH P g e Q S fuel (m.set i A2).toArray ⟨(l.set d v).toArray,f⟩ w):wpAnyH P g e Q S (fuel+1) m.toArray ⟨l.toArray,f⟩ w:=by
 unfold ak7 at b;rw[k]at b;simp only[be]at b;refine J3 i d v k o b.1.1.1 b.1.1.2 b.1.2 n b.2 hS p ?_;simp only[Act.put,bG];exact h
open Go.Maps Go.WideMaps
abbrev BuF(B b:Nat)(a:List B1)(w:V):Prop:=Lib.IsBuilderF 57 5 B b a w
abbrev BuA(B b:Nat)(a:List B1)(w:V):Prop:=Lib.BuilderAtF 57 5 B b (Ax (M ⟨b,0,U⟩)) a w
theorem rH(b:Nat)(w:V)(h:w.cell? ⟨b,0,U⟩=M (.pointer U))(d:w.shape? b=M (57,2))(i:w.frozen? ⟨b,0,U⟩=A4):
  A7 O 42 #[.pointer (M ⟨b,0,U⟩)] w fun e g=>e= .returned (.tuple #[])/\g=w.setCell ⟨b,0,U⟩ (.pointer (M ⟨b,0,U⟩)):=by
 obtain⟨j,c,f⟩:=Option.map_eq_some_iff.1 (show(Tryz.prog.info? 57).map (·.size)=M 2 by kernel_rfl);have k:=Lib.run_to_unsafe (P:=O) (w:=w) ⟨b,0,U⟩ Tryz.underlying55 Tryz.underlying60 c (by rw[f];decide) d (Nat.zero_lt_succ 1);have l:=Lib.run_from_unsafe (P:=O) (w:=w) ⟨b,0,U⟩ Tryz.underlying60 Tryz.underlying55 c d (by kernel_rfl);have m:∀a,(callFunc 81 #[a]).run O w= .ok (.value a) w:=fun a=>by
  rw[jw Tryz.func81 (by kernel_rfl) (by kernel_rfl) (by kernel_rfl) (e:=Extern.AbiNoEscape.same) (by kernel_rfl),Lib.run_noEscape];rfl
 go_in;go_wp2;go_end0
 exact⟨rfl,rfl⟩
theorem BF(b:Nat)(w:V)(d:w.cell? ⟨b,0,U⟩=M (.pointer (M ⟨b,0,U⟩)))(g:w.shape? b=M (57,2)):
  A7 O 42 #[.pointer (M ⟨b,0,U⟩)] w fun e c=>e= .returned (.tuple #[])/\c=w:=by
 obtain⟨h,a,f⟩:=Option.map_eq_some_iff.1 (show(Tryz.prog.info? 57).map (·.size)=M 2 by kernel_rfl);have i:=Lib.run_neq_ptr_same (P:=O) w ⟨b,0,U⟩ Tryz.underlying55 a;go_in;go_wp2;go_end0
 exact⟨rfl,rfl⟩
theorem C8(B b:Nat)(c:List B1)(w:V)(h:BuF B b c w):
  A7 O 42 #[Ax (M ⟨b,0,U⟩)] w fun e a=>e= A0 (C2 #[])/\BuA B b c a/\A3 B w a:=by
 rcases h with h|h
 ·refine(rH b w h.cell0 h.shape h.frozen0).mono ?_;rintro e a ⟨rfl,rfl⟩;exact⟨rfl,h.used _,(ag B w).setCell (p:=⟨b,0,U⟩) h.1 _⟩
 ·refine(BF b w h.cell0 h.shape).mono ?_;rintro e a ⟨rfl,rfl⟩;exact⟨rfl,h,ag B _⟩
theorem Ae(B b:Nat)(a:List B1)(s:ByteArray)(w:V)(h:BuF B b a w)(ar:a.length+s.size<=140737488355328)(ap:B<=w.heap.size):
  A7 O 19 #[.pointer (M ⟨b,0,U⟩),.string s] w fun e v=>e= .returned (.tuple #[.int .i64 s.size,.nilIface])/\BuA B b (a++Lib.strCells s) v/\A3 B w v:=by
 obtain⟨H,y,E,F,G⟩:=dt (show(Tryz.prog.info? 5).map (fun j=>(j.zero,j.size,j.bytes))=M (M (.int .u8 0),1,1) by kernel_rfl);go_in;go_wp2_with (go_at_call 42;refine(C8 B b a _ h).mono ?_);rintro e l ⟨rfl,x,o⟩;obtain⟨n,k,d,r,C⟩:=x;have K:l.cell? ⟨b,0,U⟩=M (.pointer (M ⟨b,0,U⟩)):=by rw[Lib.cell_of_heap d];rfl
 have L:l.cell? ⟨b,1,U⟩=M k:=by rw[Lib.cell_of_heap d];rfl
 have av:=o.size;go_wp2_with (at_builtin;refine Lib.wpList_append_own_stringF _ rfl _ _ 49 9 rfl B 5 H Tryz.underlying49 Tryz.underlying9 y E F G _ _ _ rfl r s rfl (by unfold maxLen;omega) (by omega) (by omega) ?_);intro J f t q _;have A:b<l.heap.size:=ah d;have c:f.heap[b]?=M (.cells #[.pointer (M ⟨b,0,U⟩),k] 57 (0,0)):=by
  rw[q.block b A (fun e=>C e.symm)];exact d
 have af:f.cell? ⟨b,0,U⟩=M (.pointer (M ⟨b,0,U⟩)):=by rw[Lib.cell_of_heap c];rfl
 have ak:f.cell? ⟨b,1,U⟩=M k:=by rw[Lib.cell_of_heap c];rfl
 have al:f.frozen? ⟨b,1,U⟩=A4:=Lib.frozen_of_heap c 1;obtain⟨m,u,g,rfl⟩:∃m u g,J= .slice m u g:=by
  rcases t.2 with⟨i,_⟩|⟨an,g,ad,am,i,_⟩
  ·exact⟨_,_,_,i⟩
  ·exact⟨_,_,_,i⟩
 go_wp2;go_ret2;refine⟨rfl,?_,?_⟩
 ·exact Lib.BuilderAtF.put (T:=57) (e:=5) n c (bs':=a++Lib.strCells s) (by simpa [Lib.strCells_length] using t) (by decide)
 ·exact(o.grown q (by omega) (fun I z=>(r.lt I z).1)).setCell (p:=⟨b,1,U⟩) n _
end Go.Proofs.YthjpdjibdnecoaaGreatDoor
namespace Go.Proofs
open Go.Shelf
def Tryz.lays170_ren:A8:=⟨fun|170=>225|n=>n,fun|70=>55|3=>3|0=>0|72=>57|37=>49|5=>5|n=>n,fun|n=>n⟩
theorem Tryz.lays170:Go.Proofs.Lays.n170 O Tryz.lays170_ren:={
 mixed:=by kernel_rfl
 f170:=Tryz.func225.trans (congrArg M (by kernel_rfl))
 t0:=Tryz.underlying0
 a0:=Tryz.isAgg0
 z0:=Tryz.sizeOf0
 v0:=Tryz.zeroValue0
 t3:=Tryz.underlying3
 a3:=B4
 z3:=B2
 v3:=Tryz.zeroValue3
 t37:=Tryz.underlying49
 a37:=Tryz.isAgg49
 z37:=Tryz.sizeOf49
 v37:=Tryz.zeroValue49
 t70:=Tryz.underlying55
 a70:=Tryz.isAgg55
 z70:=Tryz.sizeOf55
 v70:=Tryz.zeroValue55
 t72:=Tryz.underlying57
 a72:=Tryz.isAgg57
 z72:=Tryz.sizeOf57
 v72:=Tryz.zeroValue57}
def Tryz.lays169_ren:A8:=⟨fun|169=>21|n=>n,fun|70=>55|9=>9|0=>0|72=>57|37=>49|127=>108|3=>3|5=>5|n=>n,fun|n=>n⟩
theorem Tryz.lays169:Go.Proofs.Lays.n169 O Tryz.lays169_ren:={
 mixed:=by kernel_rfl
 f169:=Tryz.func21.trans (congrArg M (by kernel_rfl))
 t0:=Tryz.underlying0
 a0:=Tryz.isAgg0
 z0:=Tryz.sizeOf0
 v0:=Tryz.zeroValue0
 t3:=Tryz.underlying3
 a3:=B4
 z3:=B2
 v3:=Tryz.zeroValue3
 t9:=Tryz.underlying9
 a9:=Tryz.isAgg9
 z9:=Tryz.sizeOf9
 v9:=Tryz.zeroValue9
 t37:=Tryz.underlying49
 a37:=Tryz.isAgg49
 z37:=Tryz.sizeOf49
 v37:=Tryz.zeroValue49
 t70:=Tryz.underlying55
 a70:=Tryz.isAgg55
 z70:=Tryz.sizeOf55
 v70:=Tryz.zeroValue55
 t72:=Tryz.underlying57
 a72:=Tryz.isAgg57
 z72:=Tryz.sizeOf57
 v72:=Tryz.zeroValue57
 t127:=Tryz.underlying108
 a127:=Tryz.isAgg108
 z127:=Tryz.sizeOf108
 v127:=Tryz.zeroValue108}
theorem Tryz.Builder_Extra_169:Builder.Extra O Tryz.lays169_ren:={
 sizeBuilder:=by kernel_rfl
 liesBuilder:=by kernel_rfl
 t5:=Tryz.underlying5
 a5:=Tryz.isAgg5
 z5:=Tryz.sizeOf5
 v5:=Tryz.zeroValue5
 infoByte:=by kernel_rfl
 cellsByte:=by kernel_rfl
 sizeByte:=by kernel_rfl
 neB5:=by decide}
def Tryz.lays241_ren:A8:=⟨fun|241=>146|277=>200|n=>n,fun|70=>55|3=>3|0=>0|72=>57|37=>49|5=>5|n=>n,fun|n=>n⟩
theorem Tryz.lays241:Go.Proofs.Lays.n241 O Tryz.lays241_ren:={
 mixed:=by kernel_rfl
 f241:=Tryz.func146.trans (congrArg M (by kernel_rfl))
 f277:=Tryz.func200.trans (congrArg M (by kernel_rfl))
 t0:=Tryz.underlying0
 a0:=Tryz.isAgg0
 z0:=Tryz.sizeOf0
 v0:=Tryz.zeroValue0
 t3:=Tryz.underlying3
 a3:=B4
 z3:=B2
 v3:=Tryz.zeroValue3
 t37:=Tryz.underlying49
 a37:=Tryz.isAgg49
 z37:=Tryz.sizeOf49
 v37:=Tryz.zeroValue49
 t70:=Tryz.underlying55
 a70:=Tryz.isAgg55
 z70:=Tryz.sizeOf55
 v70:=Tryz.zeroValue55
 t72:=Tryz.underlying57
 a72:=Tryz.isAgg57
 z72:=Tryz.sizeOf57
 v72:=Tryz.zeroValue57}
theorem Tryz.Builder_Extra_241:Builder.Extra O Tryz.lays241_ren:={
 sizeBuilder:=by kernel_rfl
 liesBuilder:=by kernel_rfl
 t5:=Tryz.underlying5
 a5:=Tryz.isAgg5
 z5:=Tryz.sizeOf5
 v5:=Tryz.zeroValue5
 infoByte:=by kernel_rfl
 cellsByte:=by kernel_rfl
 sizeByte:=by kernel_rfl
 neB5:=by decide}
open Go.RowKit in
theorem Tryz.Builder_grow_fresh(B b n:Nat)(w:V)(c:B<=b)(f:w.heap[b]?=M (.cells #[Ax (M ⟨b,0,U⟩),B0 U 0 0] 57 (0,0)))(d:B<=w.heap.size)(g:n<=281474976710656):
  A7 O 146 #[Ax (M ⟨b,0,U⟩),A6 .i64 n] w fun e a=>e= A0 (C2 #[])/\(Lib.BuilderAt 57 5 B b (Ax (M ⟨b,0,U⟩)) [] a/\A3 B w a):=Any.Builder_grow_fresh Tryz.lays241 Tryz.Builder_Extra_241 B b n w c f d g
open Go.RowKit in
theorem Tryz.Builder_Len_f(B b:Nat)(a:List B1)(w:V)(h:Lib.IsBuilderF 57 5 B b a w):
  A7 O 225 #[Ax (M ⟨b,0,U⟩)] w fun e c=>e= A0 (A6 .i64 a.length)/\c=w:=Any.Builder_Len_f Tryz.lays170 B b a w h
open Go.RowKit in
theorem Tryz.Builder_String_any_k(B b:Nat)(l:List UInt8)(w:V)(h:Lib.IsBuilderF 57 5 B b (Lib.byteCells l) w)(c:B<=w.heap.size):
  A7 O 21 #[Ax (M ⟨b,0,U⟩)] w fun e a=>e= A0 (A9 ⟨l.toArray⟩)/\(Lib.IsBuilderF 57 5 B b (Lib.byteCells l) a/\A3 B w a/\Lib.OthersKept 5 (M b) w a):=Any.Builder_String_any_k Tryz.lays169 Tryz.Builder_Extra_169 B b l w h c
def Tryz.laysM171_ren:A8:=⟨fun|171=>28|243=>54|246=>82|283=>142|284=>143|285=>144|286=>145|129=>196|317=>195|318=>197|319=>198|320=>199|337=>229|338=>230|n=>n,fun|3=>3|9=>9|2=>2|4=>4|171=>232|0=>0|53=>233|37=>49|5=>5|173=>236|212=>261|51=>171|20=>20|213=>262|46=>137|232=>296|233=>297|n=>n,fun|17=>5|18=>9|19=>10|n=>n⟩
theorem Tryz.laysM171:Go.Proofs.LaysM.n171 O Tryz.laysM171_ren:={
 mixed:=by kernel_rfl
 f129:=Tryz.func196.trans (congrArg M (by kernel_rfl))
 f171:=Tryz.func28.trans (congrArg M (by kernel_rfl))
 f243:=Tryz.func54.trans (congrArg M (by kernel_rfl))
 f246:=Tryz.func82.trans (congrArg M (by kernel_rfl))
 f283:=Tryz.func142.trans (congrArg M (by kernel_rfl))
 f284:=Tryz.func143.trans (congrArg M (by kernel_rfl))
 f285:=Tryz.func144.trans (congrArg M (by kernel_rfl))
 f286:=Tryz.func145.trans (congrArg M (by kernel_rfl))
 f317:=Tryz.func195.trans (congrArg M (by kernel_rfl))
 f318:=Tryz.func197.trans (congrArg M (by kernel_rfl))
 f319:=Tryz.func198.trans (congrArg M (by kernel_rfl))
 f320:=Tryz.func199.trans (congrArg M (by kernel_rfl))
 f337:=Tryz.func229.trans (congrArg M (by kernel_rfl))
 f338:=Tryz.func230.trans (congrArg M (by kernel_rfl))
 t0:=Tryz.underlying0
 a0:=Tryz.isAgg0
 z0:=Tryz.sizeOf0
 v0:=Tryz.zeroValue0
 t2:=Tryz.underlying2
 a2:=Tryz.isAgg2
 z2:=Tryz.sizeOf2
 v2:=Tryz.zeroValue2
 t3:=Tryz.underlying3
 a3:=B4
 z3:=B2
 v3:=Tryz.zeroValue3
 t4:=Tryz.underlying4
 a4:=Tryz.isAgg4
 z4:=Tryz.sizeOf4
 v4:=Tryz.zeroValue4
 t5:=Tryz.underlying5
 a5:=Tryz.isAgg5
 z5:=Tryz.sizeOf5
 v5:=Tryz.zeroValue5
 t9:=Tryz.underlying9
 a9:=Tryz.isAgg9
 z9:=Tryz.sizeOf9
 v9:=Tryz.zeroValue9
 t20:=Tryz.underlying20
 a20:=Tryz.isAgg20
 z20:=Tryz.sizeOf20
 v20:=Tryz.zeroValue20
 t37:=Tryz.underlying49
 a37:=Tryz.isAgg49
 z37:=Tryz.sizeOf49
 v37:=Tryz.zeroValue49
 t46:=Tryz.underlying137
 a46:=Tryz.isAgg137
 z46:=Tryz.sizeOf137
 v46:=Tryz.zeroValue137
 t51:=Tryz.underlying171
 a51:=Tryz.isAgg171
 z51:=Tryz.sizeOf171
 v51:=Tryz.zeroValue171
 t53:=Tryz.underlying233
 a53:=Tryz.isAgg233
 z53:=Tryz.sizeOf233
 v53:=Tryz.zeroValue233
 t171:=Tryz.underlying232
 a171:=Tryz.isAgg232
 z171:=Tryz.sizeOf232
 v171:=Tryz.zeroValue232
 t173:=Tryz.underlying236
 a173:=Tryz.isAgg236
 z173:=Tryz.sizeOf236
 v173:=Tryz.zeroValue236
 t212:=Tryz.underlying261
 a212:=Tryz.isAgg261
 z212:=Tryz.sizeOf261
 v212:=Tryz.zeroValue261
 t213:=Tryz.underlying262
 a213:=Tryz.isAgg262
 z213:=Tryz.sizeOf262
 t232:=Tryz.underlying296
 a232:=Tryz.isAgg296
 z232:=Tryz.sizeOf296
 v232:=Tryz.zeroValue296
 t233:=Tryz.underlying297
 a233:=Tryz.isAgg297
 z233:=Tryz.sizeOf297
 v233:=Tryz.zeroValue297
 g17:=by kernel_rfl
 g18:=by kernel_rfl
 g19:=by kernel_rfl
 i0:=by kernel_rfl
 i2:=by kernel_rfl
 i3:=by kernel_rfl
 i4:=by kernel_rfl
 i5:=by kernel_rfl
 i9:=by kernel_rfl
 i20:=by kernel_rfl
 i37:=by kernel_rfl
 i46:=by kernel_rfl
 i51:=by kernel_rfl
 i53:=by kernel_rfl
 i171:=by kernel_rfl
 i173:=by kernel_rfl
 i212:=by kernel_rfl
 i232:=by kernel_rfl
 i233:=by kernel_rfl
 m17:=by kernel_rfl
 m18:=by kernel_rfl
 m19:=by kernel_rfl}
open Go.RowKit Go.Sort Go.Lib in
theorem Tryz.strconv_Itoa(n:Int)(a: -9223372036854775808<=n)(b:n<=9223372036854775807)(w:V)(c:Lib.TabIs O w "internal/strconv.uint64pow10" .u64 Lib.pow10Tab):
  A7 O 28 #[A6 .i64 n] w fun e d=>e= A0 (A9 ⟨(Lib.itoa n).toArray⟩)/\∃k os,d=grow (w.drewN k) os:=Any.strconv_Itoa Tryz.laysM171 n a b w c
end Go.Proofs
namespace Go.Proofs.YthjpdjibdnecoaaGreatDoor
open Go.RowKit Go.Maps Go.WideMaps
theorem Hq(B b n:Nat)(w:V)(h:B<=b)(d:w.heap[b]?=M (.cells #[Ax U,B0 U 0 0] 57 (0,0)))(s:B<=w.heap.size)(m:n<=281474976710656)(r:0<n):
  A7 O 84 #[Ax (M ⟨b,0,U⟩),A6 .i64 n] w fun e f=>e= A0 (C2 #[])/\BuA B b [] f/\A3 B w f:=by
 have g:(w.setCell ⟨b,0,U⟩ (Ax (M ⟨b,0,U⟩))).heap[b]?=M (.cells #[Ax (M ⟨b,0,U⟩),B0 U 0 0] 57 (0,0)):=bi _ b 0 _ _ _ d;have a:A3 B w (w.setCell ⟨b,0,U⟩ (Ax (M ⟨b,0,U⟩))):=(ag B w).setCell (p:=⟨b,0,U⟩) h _;have i:=rH b w (by rw[Lib.cell_of_heap d];rfl) (by simp[World.shape?,d]) (Lib.frozen_of_heap d 0);have t:¬(n:Int)<0:=by omega
 have u:(0:Int)<(n:Int):=by omega
 go_in;go_wp2_with (go_at_call 42;refine i.mono ?_;rintro e x ⟨rfl,rfl⟩);generalize w.setCell ⟨b,0,U⟩ (Ax (M ⟨b,0,U⟩))=c at g a⊢;have j:c.cell? ⟨b,1,U⟩=M (B0 U 0 0):=by rw[Lib.cell_of_heap g];rfl
 have v:=a.size;clear i;go_region_held3 (fun f=>f.cell? ⟨b,1,U⟩=M (B0 U 0 0)) (first|go_keep|exact j) (fail)
 have q:=Tryz.Builder_grow_fresh B b n c.drew h g (by simpa using(show B<=c.heap.size by omega)) m;go_wp2_with (go_at_call 146;refine q.mono ?_;rintro e y ⟨rfl,k,l⟩);all_goals first
  |(rename_i o;rw[di]at o;omega)
  |skip
 go_end0
 exact⟨rfl,Lib.BuilderAtF.of k,(⟨a.os,a.tape,a.output,a.size,a.block⟩:A3 B w c.drew).trans l⟩
def Bu(B b:Nat)(T:ByteArray)(w:V):Prop:=BuF B b (Lib.strCells T) w
theorem C9(a b:ByteArray):Lib.strCells (a++b)=Lib.strCells a++Lib.strCells b:=by
 unfold Lib.strCells;rw[me,Ll,ee]
theorem lG(B b:Nat)(T s:ByteArray)(w:V)(h:Bu B b T w)(g:T.size+s.size<=140737488355328)(f:B<=w.heap.size):
  A7 O 19 #[Ax (M ⟨b,0,U⟩),A9 s] w fun e a=>e= A0 (C2 #[A6 .i64 s.size,.nilIface])/\Bu B b (T++s) a/\A3 B w a:=by
 refine(Ae B b _ s w h (by rw[Lib.strCells_length];exact g) f).mono ?_;rintro e a ⟨rfl,c,d⟩;exact⟨rfl,.inr (by rw[C9];exact c),d⟩
theorem vK(B b:Nat)(T:ByteArray)(w:V)(h:Bu B b T w)(f:B<=w.heap.size):
  A7 O 21 #[Ax (M ⟨b,0,U⟩)] w fun e a=>e= A0 (A9 T)/\Bu B b T a/\A3 B w a:=by
 refine(Tryz.Builder_String_any_k B b T.data.toList w h f).mono ?_;rintro e a ⟨rfl,c,d,_⟩;exact⟨rfl,c,d⟩
theorem ai4(B:Nat)(w:V)(a:B<=w.heap.size):Bu B w.heap.size ⟨#[]⟩ (w.alloc (.cells #[Ax U,B0 U 0 0] 57)):=
 .inl ⟨a,B0 U 0 0,aj w _,World.ownsRowF_of (bc _ _ _ _),by simp[Value.ownBlock]⟩
theorem Bu.lt{B b:Nat}{T:ByteArray}{w:V}(h:Bu B b T w):b<w.heap.size:=by
 rcases h with⟨_,a,h,_⟩|⟨_,a,h,_⟩
 ·exact ah h
 ·exact ah h
end Go.Proofs.YthjpdjibdnecoaaGreatDoor
namespace Go.Proofs
open Go.Shelf
def Tryz.lays212_ren:A8:=⟨fun|212=>224|263=>242|264=>243|n=>n,fun|46=>137|51=>171|146=>172|53=>233|148=>291|n=>n,fun|n=>n⟩
theorem Tryz.lays212:Go.Proofs.Lays.n212 O Tryz.lays212_ren:={
 mixed:=by kernel_rfl
 f212:=Tryz.func224.trans (congrArg M (by kernel_rfl))
 f263:=Tryz.func242.trans (congrArg M (by kernel_rfl))
 f264:=Tryz.func243.trans (congrArg M (by kernel_rfl))
 t46:=Tryz.underlying137
 a46:=Tryz.isAgg137
 z46:=Tryz.sizeOf137
 v46:=Tryz.zeroValue137
 t51:=Tryz.underlying171
 a51:=Tryz.isAgg171
 z51:=Tryz.sizeOf171
 v51:=Tryz.zeroValue171
 t53:=Tryz.underlying233
 a53:=Tryz.isAgg233
 z53:=Tryz.sizeOf233
 v53:=Tryz.zeroValue233
 t146:=Tryz.underlying172
 a146:=Tryz.isAgg172
 z146:=Tryz.sizeOf172
 v146:=Tryz.zeroValue172
 t148:=Tryz.underlying291
 a148:=Tryz.isAgg291
 z148:=Tryz.sizeOf291
 v148:=Tryz.zeroValue291}
open Go.RowKit Go.Lib in
theorem Tryz.bits_Mul(x a:Nat)(b:x<18446744073709551616)(c:a<18446744073709551616)(w:V):
  A7 O 224 #[A6 .u64 x,A6 .u64 a] w fun e d=>e= A0 (C2 #[A6 .u64 ((x*a / 18446744073709551616:Nat):Int),A6 .u64 ((x*a%18446744073709551616:Nat):Int)])/\d=w:=Any.bits_Mul Tryz.lays212 x a b c w
end Go.Proofs
namespace Go.Proofs.YthjpdjibdnecoaaGreatDoor
open Go.RowKit Go.Maps Go.WideMaps
def ak8:ByteArray:=⟨#[116,97,114,103,101,116,32]⟩
def sG(q:Nat):ByteArray:=⟨(A5 [116,97,114,103,101,116,32] q).toArray⟩
theorem ul(q:Nat):(sG q).size=7*q:=by
 have a:(sG q).size=(A5 [116,97,114,103,101,116,32] q).length:=by simp[sG,ByteArray.size]
 rw[a,Lib.repeatL_length];simp;omega
theorem Hr(a b:Nat):sG (a+b)=sG a++sG b:=by
 apply re;rw[me];show(A5 _ (a+b)).toArray=(A5 _ a).toArray++(A5 _ b).toArray;rw[Lib.repeatL_add];simp
theorem abu(q a:Nat)(h:a<=q):(sG q).extract 0 (7*a)=sG a:=by
 obtain⟨c,rfl⟩:=Nat.exists_eq_add_of_le h;rw[Hr];apply re;rw[ByteArray.data_extract,me];have b:(sG a).data.size=7*a:=ul a;rw[<-b];apply Array.ext';simp;apply fs;rw[iv];exact ae _
theorem amz(ts:Array D2)(t:D2)(x a z c:Int)(W:V)(h:(if z<(if a<x then a else x) then z else(if a<x then a else x))=c):
  (Builtin.min_ ts t #[A6 .i64 x,A6 .i64 a,A6 .i64 z]).run O W= .ok (A6 .i64 c) W:=by
 rw[<-h];simp[Builtin.min_,Builtin.min2]
theorem Hs(m:Nat)(w:V)(bk:m+2<=200):
  A7 O 191 #[A9 ⟨#[116,97,114,103,101,116,32]⟩,A6 .i64 ((m+2:Nat):Int)] w fun e E=>e= A0 (A9 (sG (m+2)))/\A3 w.heap.size w E:=by
 have o:=Tryz.bits_Mul 7 (m+2) (by omega) (by omega) w;rw[Nat.div_eq_of_lt (by omega:7*(m+2)<18446744073709551616),Nat.mod_eq_of_lt (by omega:7*(m+2)<18446744073709551616)]at o;obtain⟨d,y⟩:=ay (7*(m+2));rw[y]at o;have j:=aw y;have bw:¬(9223372036854775807:Int)<(d:Int):=by omega
 have bx:¬(8192:Int)<(d:Int):=by omega
 have bA:((d:Int)==0)=A4:=by rw[aK];omega
 have bD:(d:Int)<=1400:=by omega
 have bE:14<=d:=by omega
 have br:((m:Int)+2==0)=A4:=by rw[aK];omega
 have bs:((m:Int)+2==1)=A4:=by rw[aK];omega
 have bt:¬(m:Int)+2<0:=by omega
 clear y;go_in;go_wp2_with (go_at_call 224;refine o.mono ?_;rintro e E ⟨rfl,rfl⟩);obtain⟨a,rfl⟩:∃a,a=E:=⟨_,rfl⟩;have am:=Hq a.heap.size a.heap.size d (a.alloc (.cells #[Ax U,B0 U 0 0] 57)) (ae _) (aj a _) (by simp) (by omega) (by omega);refine am.mono ?_;rintro e F ⟨rfl,L,ad⟩;have al:A3 a.heap.size a (a.alloc (.cells #[Ax U,B0 U 0 0] 57)):=(ag _ a).alloc (ae _) _;have t:A3 a.heap.size a F:=al.trans ad;have H:Bu a.heap.size a.heap.size ⟨#[]⟩ F:= .inr L;have A:=lG a.heap.size a.heap.size ⟨#[]⟩ ak8 F H (by decide) t.size;rw[show(⟨#[]⟩:ByteArray)++ak8=sG 1 from rfl]at A;have a1:=aw t;clear am L ad al H t o;go_wp2_with fail;refine A.mono ?_;rintro e an ⟨rfl,I,af⟩;have av:Hid (Bu a.heap.size a.heap.size (sG 1) an/\A3 a.heap.size a an):=⟨I,a1.out.trans af⟩;clear A I af;go_wp2_with fail;go_loopg [] (m+1) (fun K ar=>∃b:Nat,1<=b/\b+K=m+2/\Hid (Bu a.heap.size a.heap.size (sG b) ar/\A3 a.heap.size a ar))
 case atStart=>exact⟨1,ae _,by omega,av⟩
 case round=>
  obtain⟨b,bl,bn,h⟩:=hrel;have n:=Tryz.Builder_Len_f a.heap.size a.heap.size _ wr h.out.1;rw[Lib.strCells_length,ul]at n;have v:=vK a.heap.size a.heap.size _ wr h.out.1 h.out.2.size;obtain⟨g,p⟩:=ay (7*b);have i:=aw p;rw[p]at n;obtain⟨k,hS⟩:=ay (sG b);have r:=aw hS;have a3:k.size=g:=by rw[<-hS,ul,p]
  rw[hS]at v;clear p hS;cases gk with
  |zero=>
   obtain rfl:b=m+2:=by omega
   have a2:¬((g:Int)<(d:Int)):=by have:=j.out;have:=i.out;omega
   go_wp2_with (first|(go_at_call 225;refine n.mono ?_;rintro e a6 ⟨rfl,z⟩;rw[z])|(go_at_call 21;refine v.mono ?_;rintro e ao ⟨rfl,s,q⟩));go_ret;exact⟨by rw[r.out];rfl,h.out.2.trans q⟩
  |succ K=>
   obtain⟨c,a4⟩:=ay (min (m+2-b) b);have bb:1<=c:=by omega
   have a5:c<=b:=by omega
   have bd:b+c<=m+2:=by omega
   obtain⟨f,x⟩:=ay (7*c);have a2:(g:Int)<(d:Int):=by have:=j.out;have:=i.out;omega
   have a8:f<=g:=by have:=i.out;omega
   have bo:g+f<=d:=by have:=j.out;have:=i.out;omega
   have bh:∀(C:Array D2)(B:D2)(l:V),(Builtin.min_ C B #[A6 .i64 ((d:Int)-(g:Int)),A6 .i64 (g:Int),A6 .i64 (d:Int)]).run O l= .ok (A6 .i64 (f:Int)) l:=fun C B l=>amz C B _ _ _ _ l (by
    have:=j.out;have:=i.out;split<;>split<;>omega)
   have G:Hid (7*c=f/\k.extract 0 f=sG c):=⟨x,by rw[<-x,<-r.out];exact abu b c a5⟩;have a7:(0:Int)<=(f:Int):=by omega
   have a9:(f:Int)<=(k.size:Int):=by omega
   clear a4 x;go_wp2_with (first|(go_at_call 225;refine n.mono ?_;rintro e a6 ⟨rfl,z⟩;rw[z])|(go_at_call 21;refine v.mono ?_;rintro e ao ⟨rfl,s,q⟩));rw[G.out.2];have u:=h.out.2.trans q;refine(lG a.heap.size a.heap.size k (sG c) ao s (by rw[a3,ul,G.out.1];omega) u.size).mono ?_;rintro e ap ⟨rfl,J,ak⟩;have a0:Hid (Bu a.heap.size a.heap.size (sG (b+c)) ap/\A3 a.heap.size a ap):=⟨by rw[Hr,r.out];exact J,u.trans ak⟩;clear s q J ak u;go_wp2_with fail;go_roundg (m+2-(b+c))
   case measure=>omega
   case rel=>exact⟨b+c,by omega,by omega,a0⟩
theorem J4(n:Nat)(w:V)(a:n<=200):
  A7 O 191 #[A9 ⟨#[116,97,114,103,101,116,32]⟩,A6 .i64 (n:Int)] w fun e b=>e= A0 (A9 ⟨(A5 [116,97,114,103,101,116,32] n).toArray⟩)/\A3 w.heap.size w b:=by
 match n,a with
 |0,_=>
  go_in;go_wp2_with fail;go_ret;exact⟨rfl,ag _ _⟩
 |1,_=>
  go_in;go_wp2_with fail;go_ret;exact⟨rfl,ag _ _⟩
 |m+2,a=>exact Hs m w a
