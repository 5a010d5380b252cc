import Derived.Test.YtkfgnpcanadjhaaGreatDoorHSk06
set_option linter.all false
set_option maxRecDepth 100000
set_option maxHeartbeats 3200000
namespace Go.Proofs.YtkfgnpcanadjhaaGreatDoor
inductive Fo where
 |nil:Fo
 |cons:Nd->Fo->Fo->Fo
def Fo.sz:Fo->Nat
 | .nil=>0
 | .cons _ k r=>k.sz+1+r.sz
def Fo.len:Fo->Nat
 | .nil=>0
 | .cons _ _ r=>r.len+1
def Fo.tops:Fo->Nat->List Int
 | .nil,_=>[]
 | .cons _ k r,b=>((b+k.sz:Nat):Int)::r.tops (b+k.sz+1)
def Fo.flat:Fo->Nat->List Nd
 | .nil,_=>[]
 | .cons N k r,b=>k.flat b++({N with ks:=k.tops b}::r.flat (b+k.sz+1))
def Fo.app:Fo->Fo->Fo
 | .nil,c=>c
 | .cons N k r,c=> .cons N k (r.app c)
def one(N:Nd)(k:Fo):Fo:= .cons N k .nil
theorem Fo.app_nil:∀(a:Fo),a.app .nil=a
 | .nil=>rfl
 | .cons N k r=>by rw[Fo.app,r.app_nil]
theorem Fo.app_app:∀(a b c:Fo),(a.app b).app c=a.app (b.app c)
 | .nil,_,_=>rfl
 | .cons N k r,b,c=>by simp only[Fo.app];rw[r.app_app b c]
theorem Fo.sz_app:∀(a c:Fo),(a.app c).sz=a.sz+c.sz
 | .nil,c=>by simp[Fo.app,Fo.sz]
 | .cons N k r,c=>by simp only[Fo.app,Fo.sz,r.sz_app c];omega
theorem Fo.tops_app:∀(a c:Fo)(b:Nat),(a.app c).tops b=a.tops b++c.tops (b+a.sz)
 | .nil,c,b=>by simp[Fo.app,Fo.sz,Fo.tops]
 | .cons N k r,c,b=>by simp only[Fo.app,Fo.tops,Fo.sz,r.tops_app c,fl];rw[show b+k.sz+1+r.sz=b+(k.sz+1+r.sz) by omega]
theorem Fo.flat_app:∀(a c:Fo)(b:Nat),(a.app c).flat b=a.flat b++c.flat (b+a.sz)
 | .nil,c,b=>by simp[Fo.app,Fo.sz,Fo.flat]
 | .cons N k r,c,b=>by simp only[Fo.app,Fo.flat,Fo.sz,r.flat_app c,fl,cG];rw[show b+k.sz+1+r.sz=b+(k.sz+1+r.sz) by omega]
theorem Fo.flat_len:∀(a:Fo)(b:Nat),(a.flat b).length=a.sz
 | .nil,_=>rfl
 | .cons N k r,b=>by simp only[Fo.flat,Fo.sz,aD,co,k.flat_len,r.flat_len];omega
theorem Fo.tops_len:∀(a:Fo)(b:Nat),(a.tops b).length=a.len
 | .nil,_=>rfl
 | .cons N k r,b=>by simp only[Fo.tops,Fo.len,co,r.tops_len]
theorem dq(N:Nd)(k:Fo):(one N k).sz=k.sz+1:=rfl
theorem aaH(N:Nd)(k:Fo)(b:Nat):(one N k).tops b=[((b+k.sz:Nat):Int)]:=rfl
theorem El(N:Nd)(k:Fo)(b:Nat):(one N k).flat b=k.flat b++[{N with ks:=k.tops b}]:=rfl
theorem Fo.len_le:∀(a:Fo),a.len<=a.sz
 | .nil=>ah _
 | .cons N k r=>by have:=r.len_le;simp only[Fo.len,Fo.sz];omega
def z0:ByteArray:=⟨#[]⟩
def nd(k:Int)(s:Tk)(e op n:Int)(x:ByteArray)(nm:List ByteArray):Nd:=⟨k,s.f,e,s.l,op,n,x,nm,[]⟩
def kD(k:Int)(s:Tk)(e:Int):Nd:=nd k s e 0 0 z0 []
def uB(k:Int)(s:Tk)(e:Int):Nd:=if k=10 then kD 28 s e else if k=26 then kD 29 s e else nd 31 s e (k-60) 0 z0 []
def J3(k:Int):Int:=if k=25 then 21 else if k=50 then 22 else if k=69 then 20 else 19
def J4(k:Int):Int:=if k=26 then 1 else if k=10 then 2 else if 73<=k then 3 else if k=72 then 4 else if k=68 then 5 else if k=69 then 6 else if k=67 then 7 else if k=70\/k=71 then 8 else if k=61\/k=62 then 9 else 10
def rpw(k:Int):Int:=if k=72 then 4 else J4 k+1
def Gh(k:Int):Bool:=decide (k=48\/k=44\/k=40)
def od(N:Nd)(ks:Fo)(s:Tk)(e:Int):Fo:=if N.k=34\/N.k=27 then one (kD 37 s e) (one N ks) else one N ks
inductive Fx (tk:Nat->Tk) (n:Nat):Nat->List ByteArray->Nat->Prop where
 |stop {k:Nat}:(tk k).k≠46->k<n->Fx tk n k [] k
 |go {k j:Nat}{ns:List ByteArray}:(tk k).k=46->k+1<n->(tk (k+1)).k=1->Fx tk n (k+2) ns j->Fx tk n k ((tk (k+1)).x::ns) j
inductive Lp (tk:Nat->Tk) (n:Nat):Nat->List ByteArray->Bool->Nat->Prop where
 |close {k:Nat}:(tk k).k=41->k+1<n->Lp tk n k [] false (k+1)
 |rest {k:Nat}:(tk k).k=49->(tk (k+1)).k=41->k+2<n->Lp tk n k [] true (k+2)
 |last {k:Nat}:(tk k).k=1->(tk (k+1)).k=41->k+2<n->Lp tk n k [(tk k).x] false (k+2)
 |go {k j:Nat}{ns:List ByteArray}{r:Bool}:(tk k).k=1->(tk (k+1)).k=46->k+2<n->Lp tk n (k+2) ns r j->Lp tk n k ((tk k).x::ns) r j
inductive ul where
 |unit:ul
 |expr:Int->ul
 |more:Int->Tk->Fo->ul
 |base:ul
 |post:Tk->Fo->ul
 |exprs:ul
 |moreE:ul
 |moreB:ul
 |stat:ul
 |stats:ul
 |block:ul
 |body:Tk->ul
 |entry:ul
 |entries:ul
 |branch:ul
inductive P (tk:Nat->Tk) (n:Nat):ul->Nat->Fo->Nat->Prop where
 |upre {i j:Nat}{x:Fo}:kC (tk i).k=true->i<n->P tk n .unit (i+1) x j->P tk n .unit i (one (nd 30 (tk i) (tk (j-1)).t (J3 (tk i).k) 0 z0 []) x) j
 |uint {i:Nat}:(tk i).k=2->i+1<n->P tk n .unit i (one (nd 23 (tk i) (tk i).t 0 (tk i).n z0 []) .nil) (i+1)
 |uflt {i:Nat}:(tk i).k=3->i+1<n->P tk n .unit i (one (nd 24 (tk i) (tk i).t 0 0 (tk i).x []) .nil) (i+1)
 |ustr {i:Nat}:(tk i).k=4->i+1<n->P tk n .unit i (one (nd 25 (tk i) (tk i).t 0 0 (tk i).x []) .nil) (i+1)
 |unil {i:Nat}:(tk i).k=24->i+1<n->P tk n .unit i (one (kD 20 (tk i) (tk i).t) .nil) (i+1)
 |utru {i:Nat}:(tk i).k=29->i+1<n->P tk n .unit i (one (kD 21 (tk i) (tk i).t) .nil) (i+1)
 |ufls {i:Nat}:(tk i).k=17->i+1<n->P tk n .unit i (one (kD 22 (tk i) (tk i).t) .nil) (i+1)
 |urst {i:Nat}:(tk i).k=49->i+1<n->P tk n .unit i (one (kD 27 (tk i) (tk i).t) .nil) (i+1)
 |ufn {i j:Nat}{R:Fo}:(tk i).k=18->i<n->P tk n (.body (tk i)) (i+1) R j->P tk n .unit i R j
 |utab {i j:Nat}{E:Fo}:(tk i).k=42->i<n->P tk n .entries (i+1) E j->(tk j).k=43->j+1<n->P tk n .unit i (one (kD 35 (tk i) (tk j).t) E) (j+1)
 |ubas {i j:Nat}{R:Fo}:(tk i).k=1\/(tk i).k=40->i<n->P tk n .base i R j->P tk n .unit i R j
 |ex {p:Int}{i k j:Nat}{x R:Fo}:(tk i).k≠6->i<n->P tk n .unit i x k->P tk n (.more p (tk i) x) k R j->P tk n (.expr p) i R j
 |mstop {p:Int}{s:Tk}{x:Fo}{k:Nat}:k<n->(iL (tk k).k=true->J4 (tk k).k<p)->P tk n (.more p s x) k x k
 |mgo {p:Int}{s:Tk}{x y R:Fo}{k k1 j:Nat}:k<n->iL (tk k).k=true->p<=J4 (tk k).k->P tk n (.expr (rpw (tk k).k)) (k+1) y k1->P tk n (.more p s (one (uB (tk k).k s (tk (k1-1)).t) (x.app y))) k1 R j->P tk n (.more p s x) k R j
 |bname {i j:Nat}{R:Fo}:(tk i).k=1->i<n->P tk n (.post (tk i) (one (nd 26 (tk i) (tk i).t 0 0 (tk i).x []) .nil)) (i+1) R j->P tk n .base i R j
 |bopen {i k j:Nat}{N:Nd}{ks R:Fo}:(tk i).k=40->i<n->P tk n (.expr 0) (i+1) (one N ks) k->(tk k).k=41->k<n->P tk n (.post (tk i) (od N ks (tk i) (tk k).t)) (k+1) R j->P tk n .base i R j
 |pstop {s:Tk}{B:Fo}{k:Nat}:k<n->Gh (tk k).k=false->P tk n (.post s B) k B k
 |pdot {s:Tk}{B R:Fo}{k j:Nat}:(tk k).k=48->(tk (k+1)).k=1->k+1<n->P tk n (.post s (one (nd 33 s (tk (k+1)).t 0 0 (tk (k+1)).x []) B)) (k+2) R j->P tk n (.post s B) k R j
 |psq {s:Tk}{B Y R:Fo}{k k1 j:Nat}:(tk k).k=44->k<n->P tk n (.expr 0) (k+1) Y k1->(tk k1).k=45->k1<n->P tk n (.post s (one (kD 32 s (tk k1).t) (B.app Y))) (k1+1) R j->P tk n (.post s B) k R j
 |pcall0 {s:Tk}{B R:Fo}{k j:Nat}:(tk k).k=40->(tk (k+1)).k=41->k+1<n->P tk n (.post s (one (kD 34 s (tk (k+1)).t) B)) (k+2) R j->P tk n (.post s B) k R j
 |pcall {s:Tk}{B Y R:Fo}{k k1 j:Nat}:(tk k).k=40->k+1<n->(tk (k+1)).k≠41->P tk n .exprs (k+1) Y k1->(tk k1).k=41->k1<n->P tk n (.post s (one (kD 34 s (tk k1).t) (B.app Y))) (k1+1) R j->P tk n (.post s B) k R j
 |es {i k j:Nat}{x R:Fo}:P tk n (.expr 0) i x k->P tk n .moreE k R j->P tk n .exprs i (x.app R) j
 |estop {k:Nat}:(tk k).k≠46->k<n->P tk n .moreE k .nil k
 |ego {k k1 j:Nat}{x R:Fo}:(tk k).k=46->k<n->P tk n (.expr 0) (k+1) x k1->P tk n .moreE k1 R j->P tk n .moreE k (x.app R) j
 |bstop {k:Nat}:(tk k).k≠46->k<n->P tk n .moreB k .nil k
 |bgo {k k1 j:Nat}{x R:Fo}:(tk k).k=46->k<n->P tk n .base (k+1) x k1->P tk n .moreB k1 R j->P tk n .moreB k (x.app R) j
 |body {i k j:Nat}{s:Tk}{nm:List ByteArray}{r:Bool}{B:Fo}:(tk i).k=40->i<n->Lp tk n (i+1) nm r k->P tk n .block k B j->P tk n (.body s) i (one (nd 36 s (tk (j-1)).t (if r=true then 1 else 0) 0 z0 nm) B) j
 |block {i k:Nat}{S:Fo}:(tk i).k=42->i<n->P tk n .stats (i+1) S k->(tk k).k=43->k+1<n->P tk n .block i (one (kD 1 (tk i) (tk k).t) S) (k+1)
 |sstop {k:Nat}:(tk k).k=43\/(tk k).k=6->k<n->P tk n .stats k .nil k
 |ssep {k j:Nat}{R:Fo}:(tk k).k=5->k<n->P tk n .stats (k+1) R j->P tk n .stats k R j
 |sgo {k k1 j:Nat}{x R:Fo}:(tk k).k≠5->(tk k).k≠6->(tk k).k≠43->k<n->P tk n .stat k x k1->P tk n .stats k1 R j->P tk n .stats k (x.app R) j
 |nstop {k:Nat}:(tk k).k=43->k<n->P tk n .entries k .nil k
 |ncom {k k1 j:Nat}{x R:Fo}:(tk k).k≠43->k<n->P tk n .entry k x k1->(tk k1).k=46->k1<n->P tk n .entries (k1+1) R j->P tk n .entries k (x.app R) j
 |nlast {k k1 j:Nat}{x R:Fo}:(tk k).k≠43->k<n->P tk n .entry k x k1->(tk k1).k≠46->k1<n->P tk n .entries k1 R j->P tk n .entries k (x.app R) j
 |item {i j:Nat}{x:Fo}:(tk i).k≠48->(tk i).k≠44->(tk i).k≠6->i<n->P tk n (.expr 0) i x j->P tk n .entry i (one (kD 40 (tk i) (tk (j-1)).t) x) j
 |pair {i k j:Nat}{x y:Fo}:(tk i).k=44->i<n->P tk n (.expr 0) (i+1) x k->(tk k).k=45->(tk (k+1)).k=47->k+1<n->P tk n (.expr 0) (k+2) y j->P tk n .entry i (one (kD 41 (tk i) (tk (j-1)).t) (x.app y)) j
 |named {i j:Nat}{y:Fo}:(tk i).k=48->(tk (i+1)).k=1->(tk (i+2)).k=47->i+2<n->P tk n (.expr 0) (i+3) y j->P tk n .entry i (one (nd 42 (tk i) (tk (j-1)).t 0 0 (tk (i+1)).x []) y) j
 |belif {i k k1 j:Nat}{x b z:Fo}:(tk i).k=20\/(tk i).k=15->i<n->P tk n (.expr 0) (i+1) x k->P tk n .block k b k1->(tk k1).k=15->k1<n->P tk n .branch k1 z j->P tk n .branch i (one (kD 7 (tk i) (tk (j-1)).t) ((x.app b).app z)) j
 |belse {i k k1 j:Nat}{x b z:Fo}:(tk i).k=20\/(tk i).k=15->i<n->P tk n (.expr 0) (i+1) x k->P tk n .block k b k1->(tk k1).k=16->k1<n->P tk n .block (k1+1) z j->P tk n .branch i (one (kD 7 (tk i) (tk (j-1)).t) ((x.app b).app z)) j
 |bno {i k k1:Nat}{x b:Fo}:(tk i).k=20\/(tk i).k=15->i<n->P tk n (.expr 0) (i+1) x k->P tk n .block k b k1->(tk k1).k≠15->(tk k1).k≠16->k1<n->P tk n .branch i (one (kD 7 (tk i) (tk (k1-1)).t) (x.app b)) k1
 |tlet0 {i k:Nat}{ns:List ByteArray}:(tk i).k=22->i+1<n->(tk (i+1)).k=1->Fx tk n (i+2) ns k->(tk k).k≠47->P tk n .stat i (one (nd 2 (tk i) (tk (k-1)).t 0 0 z0 ((tk (i+1)).x::ns)) .nil) k
 |tlet {i k j:Nat}{ns:List ByteArray}{E:Fo}:(tk i).k=22->i+1<n->(tk (i+1)).k=1->Fx tk n (i+2) ns k->(tk k).k=47->P tk n .exprs (k+1) E j->P tk n .stat i (one (nd 2 (tk i) (tk (j-1)).t 0 0 z0 ((tk (i+1)).x::ns)) E) j
 |tcon {i j:Nat}{x:Fo}:(tk i).k=13->(tk (i+1)).k=1->(tk (i+2)).k=47->i+2<n->P tk n (.expr 0) (i+3) x j->P tk n .stat i (one (nd 3 (tk i) (tk (j-1)).t 0 0 z0 [(tk (i+1)).x]) x) j
 |tfn {i j:Nat}{B:Fo}:(tk i).k=18->(tk (i+1)).k=1->(tk (i+2)).k=40->i+2<n->P tk n (.body (tk (i+2))) (i+2) B j->P tk n .stat i (one (nd 4 (tk i) (tk (j-1)).t 0 0 z0 [(tk (i+1)).x]) B) j
 |tif {i j:Nat}{R:Fo}:(tk i).k=20->i<n->P tk n .branch i R j->P tk n .stat i R j
 |twhile {i k j:Nat}{x b:Fo}:(tk i).k=31->i<n->P tk n (.expr 0) (i+1) x k->P tk n .block k b j->P tk n .stat i (one (kD 8 (tk i) (tk (j-1)).t) (x.app b)) j
 |tfor {i k k1 j:Nat}{ns:List ByteArray}{E b:Fo}:(tk i).k=19->i+1<n->(tk (i+1)).k=1->Fx tk n (i+2) ns k->(tk k).k=47->P tk n .exprs (k+1) E k1->P tk n .block k1 b j->P tk n .stat i (one (nd 9 (tk i) (tk (j-1)).t 0 0 z0 ((tk (i+1)).x::ns)) (E.app b)) j
 |teach {i k k1 j:Nat}{ns:List ByteArray}{x b:Fo}:(tk i).k=19->i+1<n->(tk (i+1)).k=1->Fx tk n (i+2) ns k->(tk k).k=21->P tk n (.expr 0) (k+1) x k1->(tk k1).k=42->k1<n->P tk n .block k1 b j->P tk n .stat i (one (nd 10 (tk i) (tk (j-1)).t 0 0 z0 ((tk (i+1)).x::ns)) (x.app b)) j
 |tbreak {i:Nat}:(tk i).k=11->i+1<n->P tk n .stat i (one (kD 11 (tk i) (tk i).t) .nil) (i+1)
 |tnext {i:Nat}:(tk i).k=23->i+1<n->P tk n .stat i (one (kD 12 (tk i) (tk i).t) .nil) (i+1)
 |tret0 {i:Nat}:(tk i).k=27->i+1<n->(tk (i+1)).k=5\/(tk (i+1)).k=6\/(tk (i+1)).k=43->P tk n .stat i (one (kD 13 (tk i) (tk i).t) .nil) (i+1)
 |tret {i j:Nat}{E:Fo}:(tk i).k=27->i+1<n->dw (tk (i+1)).k=true->P tk n .exprs (i+1) E j->P tk n .stat i (one (kD 13 (tk i) (tk (j-1)).t) E) j
 |ttry {i k k1 j:Nat}{ns:List ByteArray}{a b:Fo}:(tk i).k=30->i<n->P tk n .block (i+1) a k->(tk k).k=12->k+1<n->(tk (k+1)).k=1->Fx tk n (k+2) ns k1->P tk n .block k1 b j->P tk n .stat i (one (nd 14 (tk i) (tk (j-1)).t 0 0 z0 ((tk (k+1)).x::ns)) (a.app b)) j
 |tthrow {i j:Nat}{x:Fo}:(tk i).k=28->i<n->P tk n (.expr 0) (i+1) x j->P tk n .stat i (one (kD 15 (tk i) (tk (j-1)).t) x) j
 |tdefer {i j:Nat}{x:Fo}:(tk i).k=14->i<n->P tk n .base (i+1) x j->P tk n .stat i (one (kD 16 (tk i) (tk (j-1)).t) x) j
 |tblock {i j:Nat}{R:Fo}:(tk i).k=42->i<n->P tk n .block i R j->P tk n .stat i R j
 |tdo {i j:Nat}{x:Fo}:(tk i).k=1\/(tk i).k=40->i<n->P tk n .base i x j->(tk j).k≠46->(tk j).k≠47->j<n->P tk n .stat i (one (kD 6 (tk i) (tk (j-1)).t) x) j
 |tset {i k k1 j:Nat}{x R E:Fo}:(tk i).k=1\/(tk i).k=40->i<n->P tk n .base i x k->P tk n .moreB k R k1->(tk k1).k=47->k1<n->P tk n .exprs (k1+1) E j->P tk n .stat i (one (nd 5 (tk i) (tk (j-1)).t 0 ((x.app R).len:Nat) z0 []) ((x.app R).app E)) j
theorem Fx.pos{tk:Nat->Tk}{n k j:Nat}{b:List ByteArray}(a:Fx tk n k b j):k<=j/\j<n:=by
 induction a with
 |stop _ a=>exact⟨ah _,a⟩
 |go _ _ _ _ c=>omega
theorem Lp.pos{tk:Nat->Tk}{n k j:Nat}{b:List ByteArray}{r:Bool}(a:Lp tk n k b r j):k+1<=j/\j<n:=by
 induction a with
 |close _ a=>omega
 |rest _ _ a=>omega
 |last _ _ a=>omega
 |go _ _ _ _ c=>omega
def ij:ul->Nat
 | .more _ _ _=>0
 | .post _ _=>0
 | .moreE=>0
 | .moreB=>0
 | .stats=>0
 | .entries=>0
 |_=>1
def slk:ul->Nat
 | .more _ _ _=>0
 | .post _ _=>0
 | .moreE=>0
 | .moreB=>0
 | .stats=>0
 | .entries=>0
 | .entry=>1
 | .stat=>1
 | .branch=>1
 |_=>2
def bas:ul->Nat
 | .more _ _ x=>x.sz
 | .post _ x=>x.sz
 |_=>0
theorem ad1(N:Nd)(ks:Fo)(s:Tk)(e:Int):(od N ks s e).sz<=(one N ks).sz+1:=by
 unfold od
 split
 ·rw[dq];omega
 ·omega
theorem P.pos{tk:Nat->Tk}{n i j:Nat}{t:ul}{R:Fo}(a:P tk n t i R j):i+ij t<=j/\j<n/\R.sz+slk t+3*i<=bas t+3*j:=by
 induction a
 case bopen i k j N ks R h1 h2 h3 h4 h5 h6 ih1 ih2=>
  have:=ad1 N ks (tk i) (tk k).t
  simp only[ij,slk,bas,dq,Fo.sz_app,Fo.sz]at *
  omega
 case body h1 h2 h3 h4 ih=>
  have:=h3.pos
  simp only[ij,slk,bas,dq,Fo.sz_app,Fo.sz]at *
  omega
 case tlet0 h1 h2 h3 h4 h5=>have:=h4.pos;simp only[ij,slk,bas,dq,Fo.sz_app,Fo.sz]at *;omega
 case tlet h1 h2 h3 h4 h5 h6 ih=>have:=h4.pos;simp only[ij,slk,bas,dq,Fo.sz_app,Fo.sz]at *;omega
 case tfor h1 h2 h3 h4 h5 h6 h7 ih1 ih2=>have:=h4.pos;simp only[ij,slk,bas,dq,Fo.sz_app,Fo.sz]at *;omega
 case teach h1 h2 h3 h4 h5 h6 h7 h8 h9 ih1 ih2=>have:=h4.pos;simp only[ij,slk,bas,dq,Fo.sz_app,Fo.sz]at *;omega
 case ttry h1 h2 h3 h4 h5 h6 h7 h8 ih1 ih2=>have:=h7.pos;simp only[ij,slk,bas,dq,Fo.sz_app,Fo.sz]at *;omega
 all_goals
  simp only[ij,slk,bas,dq,Fo.sz_app,Fo.sz]at *
  omega
open Go.Lib (strCells strCells_length wpList_append_own_string)
open Go.RowKit
theorem aaI:(Tryz.prog.info? 5).map (fun i=>(i.zero,i.size,i.bytes))=some (some (.int .u8 0),1,1):=by kernel_rfl
theorem tw(a b:ByteArray):strCells (a++b)=strCells a++strCells b:=by
 unfold strCells
 rw[show(a++b).data=a.data++b.data from iB]
 simp
structure Kq (b:Nat) (w w':World):Prop where
 os:w'.os=w.os
 tape:w'.tape=w.tape
 output:w'.output=w.output
 size:w.heap.size<=w'.heap.size
 block:∀k,k<w.heap.size->k≠b->(∀cs fr,w.heap[k]?≠some (.cells cs 5 fr))->w'.heap[k]?=w.heap[k]?
theorem Kq.refl(b:Nat)(w:World):Kq b w w:=⟨rfl,rfl,rfl,ah _,fun _ _ _ _=>rfl⟩
theorem Kq.trans{b:Nat}{x g z:World}(a:Kq b x g)(k:Kq b g z):Kq b x z:=
 ⟨k.os.trans a.os,k.tape.trans a.tape,k.output.trans a.output,ch a.size k.size,fun f d e c=>
  (k.block f (fi d a.size) e (fun h i=>by rw[a.block f d e c];exact c h i)).trans (a.block f d e c)⟩
theorem Kq.of_below{b:Nat}{w c:World}(a:Below w.heap.size w c):Kq b w c:=⟨a.os,a.tape,a.output,a.size,fun e d _ _=>a.block e d⟩
structure Pr (w0:World) (vt:Value) (T:ByteArray) (tab:Int) (W:World):Prop where
 bel:Below w0.heap.size w0 W
 row:∃o,W.heap[w0.heap.size]?=some (.cells #[vt,o,.int .i64 tab] 85 (0,0))/\W.ownsRow (w0.heap.size+1) 5 1 o T.size (strCells T)
theorem Pr.lt{a:World}{d:Value}{T:ByteArray}{tab:Int}{W:World}(b:Pr a d T tab W):a.heap.size<W.heap.size:=by
 obtain⟨f,c,e⟩:=b.row
 exact aw c
theorem Pr.below{f:World}{e:Value}{T:ByteArray}{tab:Int}{W c:World}(a:Pr f e T tab W)(b:Below W.heap.size W c):Pr f e T tab c:=by
 obtain⟨h,d,g⟩:=a.row
 exact⟨a.bel.trans (b.mono a.bel.size),h,(b.block _ (aw d)).trans d,cF g b⟩
theorem Em{W:World}{p:Nat}{o:Value}{cs:Array Value}{t:TypeId}{fr:Nat×Nat}{n:Nat}{xs:List Value}(c:W.heap[p]?=some (.cells cs t fr))(ht:t≠5){base:Nat}(d:W.ownsRow base 5 1 o n xs)(g:Nat)(a:o.ownBlock=some g):g≠p/\base<=g:=by
 refine⟨?_,(d.lt g a).1⟩
 rintro rfl
 rcases d.2 with⟨b,_⟩|⟨e,h,i,b,_,f,_⟩
 ·rw[b]at a;simp[Value.ownBlock]at a
 ·rw[b]at a
  obtain rfl:e=g:=by simpa [Value.ownBlock] using a
  rw[f]at c
  cases c
  exact ht rfl
theorem Pr.put{a W:World}{f i:Value}{e:Int}(g:Below a.heap.size a W)(c:W.heap[a.heap.size]?=some (.cells #[f,i,.int .i64 e] 85 (0,0))){o:Value}{T:ByteArray}(d:W.ownsRow (a.heap.size+1) 5 1 o T.size (strCells T)):Pr a f T e (W.setCell ⟨a.heap.size,1,none⟩ o):=
 ⟨g.setCell (ah _) _,o,bI _ _ 1 _ _ _ c,d.kept (row:=some a.heap.size) ⟨rfl,rfl,rfl,by simp[World.setCell],fun l k h=>aK _ _ _ _ (fun b=>h (by rw[b]))⟩ (by
  cases hv:o.ownBlock with
  |none=>exact .inl rfl
  |some j=>exact .inr (fun b=>by cases b;exact(Em c (by decide) d _ hv).1 rfl))⟩
theorem Pr.putTab{a W:World}{h:Value}{T:ByteArray}{j:Int}(c:Pr a h T j W)(g:Int):Pr a h T g (W.setCell ⟨a.heap.size,2,none⟩ (.int .i64 g)):=by
 obtain⟨f,d,e⟩:=c.row
 exact⟨c.bel.setCell (ah _) _,f,bI _ _ 2 _ _ _ d,e.kept (row:=some a.heap.size) ⟨rfl,rfl,rfl,by simp[World.setCell],fun m l i=>aK _ _ _ _ (fun b=>i (by rw[b]))⟩ (by
  cases hv:f.ownBlock with
  |none=>exact .inl rfl
  |some k=>exact .inr (fun b=>by cases b;exact(Em d (by decide) e _ hv).1 rfl))⟩
theorem Kq.putP(b:Nat)(W:World)(i:Nat)(v:Value):Kq b W (W.setCell ⟨b,i,none⟩ v):=
 ⟨rfl,rfl,rfl,by simp[World.setCell],fun d c a _=>aK _ _ _ _ a⟩
theorem Pr.cells{a:World}{c:Value}{T:ByteArray}{tab:Int}{W:World}(d:Pr a c T tab W):W.cell? ⟨a.heap.size,0,none⟩=some c/\W.cell? ⟨a.heap.size,2,none⟩=some (.int .i64 tab)/\∀j,W.frozen? ⟨a.heap.size,j,none⟩=false:=by
 obtain⟨f,b,e⟩:=d.row
 exact⟨by rw[au _ _ _ _ _ _ b];rfl,by rw[au _ _ _ _ _ _ b];rfl,fun j=>cA _ _ _ _ _ b⟩
theorem eD(a:World)(r:Value)(T s:ByteArray)(tab:Int)(w:World)(m:Pr a r T tab w)(G:T.size+s.size<=140737488355328):
  Calls Tryz.prog 32 #[.pointer (some ⟨a.heap.size,0,none⟩),.string s] w fun e z=>e= .returned (.tuple #[])/\Pr a r (T++s) tab z/\Kq a.heap.size w z:=by
 obtain⟨ap,d,f⟩:=m.row
 have v:=m.bel
 obtain⟨h,q⟩:=aE T.size
 rw[q]at f G
 obtain⟨k,l,rfl⟩:=bG f
 obtain⟨J,K,L,ad,af⟩:=dD aaI
 have H:=aw d
 have ak:w.cell? ⟨a.heap.size,1,none⟩=some (.slice k h l):=by rw[au _ _ _ _ _ _ d];rfl
 have x:=Em d (by decide) f
 have c:=FC f d q v
 clear f d q m v
 go_in
 go_wp2_with (at_builtin;refine wpList_append_own_string _ rfl _ _ 22 9 rfl (a.heap.size+1) 5 J Tryz.underlying22 Tryz.underlying9 K L ad af _ _ _ rfl c.1 s rfl (by unfold maxLen;omega) (by omega) (by omega) ?_;intro ar j y b ao;obtain⟨t,u,rfl⟩:=bG y;have o:=(b.block _ H (fun e=>(x _ e.symm).1 rfl)).trans c.2.1;have a0:j.cell? ⟨a.heap.size,1,none⟩=some (.slice k h l):=(by rw[au _ _ _ _ _ _ o];rfl);have an:j.frozen? ⟨a.heap.size,1,none⟩=false:=cA _ _ _ _ _ o)
 have B:Pr a r (T++s) tab (j.setCell ⟨a.heap.size,1,none⟩ (.slice t (h+s.size) u)):=Pr.put (c.2.2.2.grown b (by omega) (fun g p=>by have:=(x g p).2;omega)) o (by rw[ax,c.out.2.2.1,tw];exact y)
 have A:Kq a.heap.size w (j.setCell ⟨a.heap.size,1,none⟩ (.slice t (h+s.size) u)):=by
  refine⟨b.os,b.tape,b.output,by simp[World.setCell];exact b.size,fun g p I F=>?_⟩
  rw[aK _ _ _ _ I]
  refine b.block g p (fun e=>?_)
  have i:(Value.slice k h l).ownBlock=some g:=e.symm
  rcases c.1.2 with⟨n,_⟩|⟨C,al,am,n,_,E,_⟩
  ·rw[n]at i;simp[Value.ownBlock]at i
  ·rw[n]at i
   obtain rfl:C=g:=by simpa [Value.ownBlock] using i
   exact F _ _ E
 go_end0
 exact⟨rfl,B,A⟩
end Go.Proofs.YtkfgnpcanadjhaaGreatDoor
namespace Go.Proofs.YtkfgnpcanadjhaaGreatDoor
open Go.RowKit
def ek:Nat->ByteArray
 |0=>ByteArray.empty
 |n+1=>ek n++⟨#[9]⟩
def fK(t:Nat):ByteArray:=⟨#[10]⟩++ek t
theorem oe:∀t,(ek t).size=t
 |0=>rfl
 |t+1=>by rw[ek,ax,oe t];rfl
theorem jk(t:Nat):(fK t).size=t+1:=by rw[fK,ax,oe];show 1+t=_;omega
def dx:ByteArray:=⟨#[44,32]⟩
def Cm(a:Bool×ByteArray)(x:ByteArray):Bool×ByteArray:=(true,(if a.1=true then a.2++dx else a.2)++x)
def Gi(l:List ByteArray):Bool×ByteArray:=l.foldl Cm (false,ByteArray.empty)
def bK(l:List ByteArray):ByteArray:=(Gi l).2
theorem uC(l:List ByteArray)(x:ByteArray):Gi (l++[x])=Cm (Gi l) x:=by unfold Gi;rw[List.foldl_append];rfl
theorem En:∀l:List ByteArray,(Gi l).1=!l.isEmpty:=by
 intro l
 rcases List.eq_nil_or_concat l with rfl|⟨a,b,rfl⟩
 ·rfl
 ·rw[List.concat_eq_append,uC];unfold Cm;simp
theorem lE(l:List ByteArray)(k:Nat)(x:ByteArray)(f:l[k]?=some x):bK (l.take (k+1))=(if k=0 then bK (l.take k) else bK (l.take k)++dx)++x:=by
 obtain⟨b,e⟩:=List.getElem?_eq_some_iff.1 f
 have d:l.take (k+1)=l.take k++[x]:=by rw[List.take_succ_eq_append_getElem b,e]
 unfold bK
 rw[d,uC]
 unfold Cm
 simp only
 rw[En]
 by_cases a:k=0
 ·subst a;simp
 ·rw[aa a,ab]
  cases l with
  |nil=>simp at b
  |cons g h=>obtain⟨c,rfl⟩:∃c,k=c+1:=⟨k-1,by omega⟩;simp
theorem aaJ(l:List ByteArray)(k:Nat):(bK (l.take k)).size<=(bK (l.take (k+1))).size:=by
 by_cases a:k<l.length
 ·rw[lE l k _ (aF a),ax]
  split
  ·omega
  ·rw[ax];omega
 ·rw[bH (by omega),bH (by omega)]
  exact ah _
theorem xo(l:List ByteArray)(k:Nat):(bK (l.take k)).size<=(bK l).size:=by
 have b:∀a,(bK (l.take k)).size<=(bK (l.take (k+a))).size:=by
  intro a
  induction a with
  |zero=>exact ah _
  |succ a c=>exact ch c (aaJ l (k+a))
 have:=b l.length
 rwa [bH (show l.length<=k+l.length by omega)]at this
theorem Eo(b:World)(d:Value)(T:ByteArray)(t:Nat)(w:World)(g:Pr b d T t w)(ht:t<=1000000)(r:T.size+(t+1)<=140737488355328):
  Calls Tryz.prog 152 #[.pointer (some ⟨b.heap.size,0,none⟩)] w fun e j=>e= .returned (.tuple #[])/\Pr b d (T++fK t) t j/\Kq b.heap.size w j:=by
 have l:=aj g
 clear g
 go_in
 go_wp2_with (go_at_call 32;refine(eD b d T _ _ _ l (by show T.size+1<=_;omega)).mono ?_;rintro e w1 ⟨rfl,i,h⟩)
 have k:=eJ i h
 clear i h
 go_loopw [2] (fun f wr=>∃a:Nat,a<=t/\f= .int .i64 a/\Hid (Pr b d (T++(⟨#[10]⟩++ek a)) t wr/\Kq b.heap.size w wr)) (fun f _=>t-(intOf f).toNat)
 case atStart=>exact⟨0,by omega,rfl,by rw[show(⟨#[10]⟩:ByteArray)++ek 0=⟨#[10]⟩ from rfl];exact k⟩
 case round=>
  obtain⟨a,q,rfl,c⟩:=hrel
  obtain⟨n,o,p⟩:=c.1.cells
  by_cases s:a<t
  ·go_wp2_with (go_at_call 32;refine(eD b d _ _ _ _ c.1 (by rw[ax,ax,oe];show T.size+(1+a)+1<=_;omega)).mono ?_;rintro e u ⟨rfl,p2,m⟩)
   refine⟨⟨a+1,by omega,by go_num,?_⟩,by simp[intOf];omega⟩
   refine⟨?_,c.2.trans m⟩
   rw[show T++((⟨#[10]⟩:ByteArray)++ek (a+1))=T++(⟨#[10]⟩++ek a)++⟨#[9]⟩ by rw[ek,be,be]]
   exact p2
  ·obtain rfl:a=t:=by omega
   go_wp21
   go_end0
   exact⟨rfl,c.1,c.2⟩
theorem J5(b:World)(f vn:Value)(l:List ByteArray)(T:ByteArray)(t:Int)(w:World)(z:Pr b f T t w)(p:bp b vn l)(K:l.length<=1048576)(al:T.size+(bK l).size<=140737488355328):
  Calls Tryz.prog 93 #[.pointer (some ⟨b.heap.size,0,none⟩),vn] w fun e G=>e= .returned (.tuple #[])/\Pr b f (T++bK l) t G/\Kq b.heap.size w G:=by
 have n:=eJ z p
 obtain⟨L,ad,rfl⟩:=p.form
 clear z p
 obtain⟨k,o⟩:=aE l.length
 rw[o]at K n⊢
 have x:=aj o
 clear o
 go_in
 go_wp21
 go_loopw [8] (fun r wr=>∃a:Nat,a<=k/\r= .int .i64 a/\Hid (Pr b f (T++bK (l.take a)) t wr/\Kq b.heap.size w wr)) (fun r _=>k-(intOf r).toNat)
 case atStart=>exact⟨0,by omega,rfl,by rw[show T++bK (l.take 0)=T from ByteArray.append_empty];exact n.1,Kq.refl _ _⟩
 case round=>
  obtain⟨a,ak,rfl,c⟩:=hrel
  by_cases J:a<k
  ·obtain⟨m,q⟩:=bC x.out J
   obtain⟨H,rfl,I⟩:=(n.2.below c.1.bel).get q
   have B:=lE l a m q
   have C:=xo l (a+1)
   have g:=eJ B C
   clear B C q
   by_cases A:a=0
   ·subst A
    have d:bK (l.take (0+1))=bK (l.take 0)++m:=by rw[g.out.1,ab rfl]
    have i:=g.2
    rw[d,ax]at i
    have h:=aj d
    clear d g
    have af:wr.cell? H=some (.string m):=by simpa [Addr.add] using I
    go_wp2_with (go_at_call 32;refine(eD b f _ _ _ _ c.1 (by rw[ax];omega)).mono ?_;rintro e s ⟨rfl,p2,j⟩)
    refine⟨⟨1,by omega,by go_num,?_,c.2.trans j⟩,by simp[intOf];omega⟩
    rw[show(1:Nat)=0+1 from rfl,h.out,<-be]
    exact p2
   ·have d:bK (l.take (a+1))=bK (l.take a)++dx++m:=by rw[g.out.1,aa A]
    have i:=g.2
    rw[d,ax,ax]at i
    have y:dx.size=2:=rfl
    have h:=jw d i y
    clear d i y g
    go_wp21
    refine(eD b f _ _ _ _ c.1 (by have:=h.2;rw[ax];show _+dx.size<=_;omega)).mono ?_
    rintro e s ⟨rfl,p2,j⟩
    have u:Hid (Pr b f (T++bK (l.take a)++dx) t s/\Kq b.heap.size wr s):=⟨p2,j⟩
    clear p2 j
    go_wp21
    refine(eD b f _ _ _ _ u.1 (by have:=h.2;rw[ax,ax];omega)).mono ?_
    rintro e am ⟨rfl,F,E⟩
    have v:=eJ F E
    clear F E
    go_wp21
    refine⟨⟨a+1,by omega,by go_num,?_,(c.2.trans u.2).trans v.2⟩,by simp[intOf];omega⟩
    rw[h.out.1,<-be,<-be]
    exact v.1
  ·obtain rfl:a=k:=by omega
   go_wp21
   go_end0
   refine⟨rfl,?_,c.2⟩
   have:=c.1
   rwa [bH (by rw[x.out];exact ah _)]at this
def rB(op:Int):Int×Int:=
 if 13<=op/\op<=18 then(3,4) else if op=12 then(4,4) else if op=8 then(5,6) else if op=9 then(6,7) else if op=7 then(7,8) else if op=10\/op=11 then(8,9) else if op=1\/op=2 then(9,10) else(10,11)
theorem vC(op:Int)(b:1<=op)(c:op<=18)(w:World):
  Calls Tryz.prog 189 #[.int .i64 (60+op)] w fun e d=>e= .returned (.tuple #[.int .i64 (rB op).1,.int .i64 (rB op).2])/\d=w:=by
 have a:op=1\/op=2\/op=3\/op=4\/op=5\/op=6\/op=7\/op=8\/op=9\/op=10\/op=11\/op=12\/op=13\/op=14\/op=15\/op=16\/op=17\/op=18:=by omega
 clear b c
 rcases a with rfl|rfl|rfl|rfl|rfl|rfl|rfl|rfl|rfl|rfl|rfl|rfl|rfl|rfl|rfl|rfl|rfl|rfl<;>
  (go_in
   go_wp2
   exact aH (results_tmp2 rfl _ _ _) rfl ⟨rfl,rfl⟩)
def gB(k op:Int):Int:=if k=29 then 1 else if k=28 then 2 else if k=31 then(rB op).1 else if k=30 then 11 else 12
def qc(k op:Int):Int:=if k=29 then 2 else if k=28 then 3 else(rB op).2
def pL(k:Int):Bool:=k==26||k==32||k==33||k==34||k==37
theorem vD(N:Nd)(vn vk:Value)(h:N.k=31->1<=N.op/\N.op<=18)(w:World):
  Calls Tryz.prog 153 #[gF N vn vk] w fun e v=>e= .returned (.int .i64 (gB N.k N.op))/\Below w.heap.size w v:=by
 have i:Below w.heap.size w (w.alloc (.cells #[.int .i64 N.k,.int .i64 N.f,.int .i64 N.t,.int .i64 N.l,.int .i64 N.op,.int .i64 N.n,.string N.x,vn,vk] 50)):=(ag _ w).alloc (ah _) _
 unfold gF
 by_cases a:N.k=29
 ·have o:(N.k==29)=true:=by simpa using a
  have b:Hid (gB N.k N.op=1):=by show _=_;unfold gB;rw[ab a]
  clear a h
  go_in
  go_wp2
  go_ret
  exact⟨by rw[b.out];rfl,i⟩
 have o:(N.k==29)=false:=by simpa using a
 by_cases c:N.k=28
 ·have p:(N.k==28)=true:=by simpa using c
  have b:Hid (gB N.k N.op=2):=by show _=_;unfold gB;rw[aa a,ab c]
  clear a c h
  go_in
  go_wp2
  go_ret
  exact⟨by rw[b.out];rfl,i⟩
 have p:(N.k==28)=false:=by simpa using c
 by_cases d:N.k=31
 ·have q:(N.k==31)=true:=by simpa using d
  have b:Hid (gB N.k N.op=(rB N.op).1):=by show _=_;unfold gB;rw[aa a,aa c,ab d]
  obtain⟨s,u⟩:=h d
  have j:=vC N.op s u
  generalize rB N.op=m at j b
  obtain⟨y,z⟩:=m
  simp only at j b
  clear a c d h
  go_in
  go_wp2_with (go_at_call 189;refine dj (j _) ?_)
  go_ret
  exact⟨by rw[b.out];rfl,i⟩
 have q:(N.k==31)=false:=by simpa using d
 by_cases g:N.k=30
 ·have r:(N.k==30)=true:=by simpa using g
  have b:Hid (gB N.k N.op=11):=by show _=_;unfold gB;rw[aa a,aa c,aa d,ab g]
  clear a c d g h
  go_in
  go_wp2
  go_ret
  exact⟨by rw[b.out];rfl,i⟩
 have r:(N.k==30)=false:=by simpa using g
 have b:Hid (gB N.k N.op=12):=by show _=_;unfold gB;rw[aa a,aa c,aa d,aa g]
 clear a c d g h
 go_in
 go_wp2
 go_ret
 exact⟨by rw[b.out];rfl,i⟩
theorem Ep(N:Nd)(vn vk:Value)(d:N.k≠29->N.k≠28->1<=N.op/\N.op<=18)(w:World):
  Calls Tryz.prog 190 #[gF N vn vk] w fun e q=>e= .returned (.int .i64 (qc N.k N.op))/\Below w.heap.size w q:=by
 have g:Below w.heap.size w (w.alloc (.cells #[.int .i64 N.k,.int .i64 N.f,.int .i64 N.t,.int .i64 N.l,.int .i64 N.op,.int .i64 N.n,.string N.x,vn,vk] 50)):=(ag _ w).alloc (ah _) _
 unfold gF
 by_cases a:N.k=29
 ·have j:(N.k==29)=true:=by simpa using a
  have b:Hid (qc N.k N.op=2):=by show _=_;unfold qc;rw[ab a]
  clear a d
  go_in
  go_wp2
  go_ret
  exact⟨by rw[b.out];rfl,g⟩
 have j:(N.k==29)=false:=by simpa using a
 by_cases c:N.k=28
 ·have m:(N.k==28)=true:=by simpa using c
  have b:Hid (qc N.k N.op=3):=by show _=_;unfold qc;rw[aa a,ab c]
  clear a c d
  go_in
  go_wp2
  go_ret
  exact⟨by rw[b.out];rfl,g⟩
 have m:(N.k==28)=false:=by simpa using c
 have b:Hid (qc N.k N.op=(rB N.op).2):=by show _=_;unfold qc;rw[aa a,aa c]
 obtain⟨o,p⟩:=d a c
 have h:=vC N.op o p
 generalize rB N.op=i at h b
 obtain⟨r,s⟩:=i
 simp only at h b
 clear a c d
 go_in
 go_wp2_with (go_at_call 189;refine dj (h _) ?_)
 go_ret
 exact⟨by rw[b.out];rfl,g⟩
theorem Gj(k:Int)(w:World):Calls Tryz.prog 192 #[.int .i64 k] w fun e a=>e= .returned (.bool (pL k))/\a=w:=by
 unfold pL
 cases f1:(k==26)<;>cases f2:(k==32)<;>cases f3:(k==33)<;>cases f4:(k==34)<;>cases f5:(k==37)<;>
  (go_in
   go_wp2
   go_ret
   exact⟨rfl,rfl⟩)
abbrev mv(b:Nat)(f:FuncId):Value:= .func (.func f) #[.pointer (some ⟨b,0,none⟩)] #[]
def Gk(b:Nat):Array Value:=#[.nilFunc,mv b 48,mv b 49,mv b 50,mv b 51,mv b 52,mv b 53,mv b 54,mv b 55,mv b 56,mv b 57,mv b 58,mv b 59,mv b 60,mv b 61,mv b 62,mv b 63,.nilFunc,.nilFunc,.nilFunc,mv b 64,mv b 65,mv b 66,mv b 67,mv b 68,mv b 69,mv b 70,mv b 71,mv b 72,mv b 72,mv b 73,mv b 72,mv b 74,mv b 75,mv b 76,mv b 77,mv b 78,mv b 79,.nilFunc,.nilFunc,mv b 80,mv b 81,mv b 82]
theorem Cn{base g:Nat}{w W:World}(a:Below base w W)(d:base<=g)(cs:Array Value):Below base w (W.setRow g cs):=
 ⟨a.os,a.tape,a.output,by unfold World.setRow;simp;exact a.size,fun b c=>by
  unfold World.setRow
  have:b≠g:=by omega
  simp only[Array.getElem?_modify]
  rw[aa (by omega)]
  exact a.block b c⟩
theorem yr(w:World):
  Calls Tryz.prog 20 #[] w fun e c=>e= .returned (.pointer (some ⟨w.heap.size,0,none⟩))/\c.heap[w.heap.size]?=some (.cells (Gk w.heap.size) 106 (0,0))/\Below w.heap.size w c:=by
 have a:=ay w (.cells #[.nilFunc,.nilFunc,.nilFunc,.nilFunc,.nilFunc,.nilFunc,.nilFunc,.nilFunc,.nilFunc,.nilFunc,.nilFunc,.nilFunc,.nilFunc,.nilFunc,.nilFunc,.nilFunc,.nilFunc,.nilFunc,.nilFunc,.nilFunc,.nilFunc,.nilFunc,.nilFunc,.nilFunc,.nilFunc,.nilFunc,.nilFunc,.nilFunc,.nilFunc,.nilFunc,.nilFunc,.nilFunc,.nilFunc,.nilFunc,.nilFunc,.nilFunc,.nilFunc,.nilFunc,.nilFunc,.nilFunc,.nilFunc,.nilFunc,.nilFunc] 106)
 have d:Below w.heap.size w (w.alloc (.cells #[.nilFunc,.nilFunc,.nilFunc,.nilFunc,.nilFunc,.nilFunc,.nilFunc,.nilFunc,.nilFunc,.nilFunc,.nilFunc,.nilFunc,.nilFunc,.nilFunc,.nilFunc,.nilFunc,.nilFunc,.nilFunc,.nilFunc,.nilFunc,.nilFunc,.nilFunc,.nilFunc,.nilFunc,.nilFunc,.nilFunc,.nilFunc,.nilFunc,.nilFunc,.nilFunc,.nilFunc,.nilFunc,.nilFunc,.nilFunc,.nilFunc,.nilFunc,.nilFunc,.nilFunc,.nilFunc,.nilFunc,.nilFunc,.nilFunc,.nilFunc] 106)):=(ag _ w).alloc (ah _) _
 go_enter Tryz.func20,Tryz.ntmps20
 go_wp21
 have b:=run_storeVar_row (P:=Tryz.prog) _ w.heap.size 106 104 _ (Gk w.heap.size) a (by kernel_rfl) rfl (by kernel_rfl)
 simp[go_sem,Gk,mv]at b
 rw[b]
 go_wp2_with fail
 go_ret
 exact⟨rfl,setRow_heap _ _ _ _ _ _ a,Cn d (ah _) _⟩
