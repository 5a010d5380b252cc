import Derived.Test.YtkdijoogonigpaaGreatDoorHUk05
set_option linter.all false
set_option maxHeartbeats 1600000
open Bool renaming true->M,false->O
namespace Go.Proofs.YtkdijoogonigpaaGreatDoor
inductive Fo where
 |nil:Fo
 |cons:Nd->Fo->Fo->Fo
def Fo.sz:Fo->Nat
 | .nil=>0
 | .cons _ k r=>k.sz+1+r.sz
def Fo.len:Fo->Nat
 | .nil=>0
 | .cons _ _ r=>r.len+1
def Fo.tops:Fo->Nat->List Int
 | .nil,_=>[]
 | .cons _ k r,b=>((b+k.sz:Nat):Int)::r.tops (b+k.sz+1)
def Fo.flat:Fo->Nat->List Nd
 | .nil,_=>[]
 | .cons N k r,b=>k.flat b++({N with ks:=k.tops b}::r.flat (b+k.sz+1))
def Fo.app:Fo->Fo->Fo
 | .nil,c=>c
 | .cons N k r,c=> .cons N k (r.app c)
def gB(N:Nd)(k:Fo):Fo:= .cons N k .nil
theorem Fo.sz_app:∀(a c:Fo),(a.app c).sz=a.sz+c.sz
 | .nil,c=>by simp[Fo.app,Fo.sz]
 | .cons N k r,c=>by simp only[Fo.app,Fo.sz,r.sz_app c];omega
theorem Fo.flat_app:∀(a c:Fo)(b:Nat),(a.app c).flat b=a.flat b++c.flat (b+a.sz)
 | .nil,c,b=>by simp[Fo.app,Fo.sz,Fo.flat]
 | .cons N k r,c,b=>by simp only[Fo.app,Fo.flat,Fo.sz,r.flat_app c,gn,dG];rw[show b+k.sz+1+r.sz=b+(k.sz+1+r.sz) by omega]
theorem Fo.flat_len:∀(a:Fo)(b:Nat),(a.flat b).length=a.sz
 | .nil,_=>rfl
 | .cons N k r,b=>by simp only[Fo.flat,Fo.sz,aH,db,k.flat_len,r.flat_len];omega
theorem nC(N:Nd)(k:Fo):(gB N k).sz=k.sz+1:=rfl
def z0:ByteArray:=⟨#[]⟩
def nd(k:Int)(s:Tk)(e op n:Int)(x:ByteArray)(nm:List ByteArray):Nd:=⟨k,s.f,e,s.l,op,n,x,nm,[]⟩
def qg(k:Int)(s:Tk)(e:Int):Nd:=nd k s e 0 0 z0 []
def Iq(k:Int)(s:Tk)(e:Int):Nd:=if k=10 then qg 28 s e else if k=26 then qg 29 s e else nd 31 s e (k-60) 0 z0 []
def agq(k:Int):Int:=if k=25 then 21 else if k=50 then 22 else if k=69 then 20 else 19
def lpw(k:Int):Int:=if k=26 then 1 else if k=10 then 2 else if 73<=k then 3 else if k=72 then 4 else if k=68 then 5 else if k=69 then 6 else if k=67 then 7 else if k=70\/k=71 then 8 else if k=61\/k=62 then 9 else 10
def rpw(k:Int):Int:=if k=72 then 4 else lpw k+1
def Ir(k:Int):Bool:=decide (k=48\/k=44\/k=40)
def rj(N:Nd)(ks:Fo)(s:Tk)(e:Int):Fo:=if N.k=34\/N.k=27 then gB (qg 37 s e) (gB N ks) else gB N ks
inductive E4 (tk:Nat->Tk) (n:Nat):Nat->List ByteArray->Nat->Prop where
 |stop {k:Nat}:(tk k).k≠46->k<n->E4 tk n k [] k
 |go {k j:Nat}{ns:List ByteArray}:(tk k).k=46->k+1<n->(tk (k+1)).k=1->E4 tk n (k+2) ns j->E4 tk n k ((tk (k+1)).x::ns) j
inductive Is (tk:Nat->Tk) (n:Nat):Nat->List ByteArray->Bool->Nat->Prop where
 |close {k:Nat}:(tk k).k=41->k+1<n->Is tk n k [] false (k+1)
 |rest {k:Nat}:(tk k).k=49->(tk (k+1)).k=41->k+2<n->Is tk n k [] true (k+2)
 |last {k:Nat}:(tk k).k=1->(tk (k+1)).k=41->k+2<n->Is tk n k [(tk k).x] false (k+2)
 |go {k j:Nat}{ns:List ByteArray}{r:Bool}:(tk k).k=1->(tk (k+1)).k=46->k+2<n->Is tk n (k+2) ns r j->Is tk n k ((tk k).x::ns) r j
inductive ul where
 |unit:ul
 |expr:Int->ul
 |more:Int->Tk->Fo->ul
 |base:ul
 |post:Tk->Fo->ul
 |exprs:ul
 |moreE:ul
 |moreB:ul
 |stat:ul
 |stats:ul
 |block:ul
 |body:Tk->ul
 |entry:ul
 |entries:ul
 |branch:ul
inductive P (tk:Nat->Tk) (n:Nat):ul->Nat->Fo->Nat->Prop where
 |upre {i j:Nat}{x:Fo}:lJ (tk i).k=true->i<n->P tk n .unit (i+1) x j->P tk n .unit i (gB (nd 30 (tk i) (tk (j-1)).t (agq (tk i).k) 0 z0 []) x) j
 |uint {i:Nat}:(tk i).k=2->i+1<n->P tk n .unit i (gB (nd 23 (tk i) (tk i).t 0 (tk i).n z0 []) .nil) (i+1)
 |uflt {i:Nat}:(tk i).k=3->i+1<n->P tk n .unit i (gB (nd 24 (tk i) (tk i).t 0 0 (tk i).x []) .nil) (i+1)
 |ustr {i:Nat}:(tk i).k=4->i+1<n->P tk n .unit i (gB (nd 25 (tk i) (tk i).t 0 0 (tk i).x []) .nil) (i+1)
 |unil {i:Nat}:(tk i).k=24->i+1<n->P tk n .unit i (gB (qg 20 (tk i) (tk i).t) .nil) (i+1)
 |utru {i:Nat}:(tk i).k=29->i+1<n->P tk n .unit i (gB (qg 21 (tk i) (tk i).t) .nil) (i+1)
 |ufls {i:Nat}:(tk i).k=17->i+1<n->P tk n .unit i (gB (qg 22 (tk i) (tk i).t) .nil) (i+1)
 |urst {i:Nat}:(tk i).k=49->i+1<n->P tk n .unit i (gB (qg 27 (tk i) (tk i).t) .nil) (i+1)
 |ufn {i j:Nat}{R:Fo}:(tk i).k=18->i<n->P tk n (.body (tk i)) (i+1) R j->P tk n .unit i R j
 |utab {i j:Nat}{E:Fo}:(tk i).k=42->i<n->P tk n .entries (i+1) E j->(tk j).k=43->j+1<n->P tk n .unit i (gB (qg 35 (tk i) (tk j).t) E) (j+1)
 |ubas {i j:Nat}{R:Fo}:(tk i).k=1\/(tk i).k=40->i<n->P tk n .base i R j->P tk n .unit i R j
 |ex {p:Int}{i k j:Nat}{x R:Fo}:(tk i).k≠6->i<n->P tk n .unit i x k->P tk n (.more p (tk i) x) k R j->P tk n (.expr p) i R j
 |mstop {p:Int}{s:Tk}{x:Fo}{k:Nat}:k<n->(qd (tk k).k=true->lpw (tk k).k<p)->P tk n (.more p s x) k x k
 |mgo {p:Int}{s:Tk}{x y R:Fo}{k k1 j:Nat}:k<n->qd (tk k).k=true->p<=lpw (tk k).k->P tk n (.expr (rpw (tk k).k)) (k+1) y k1->P tk n (.more p s (gB (Iq (tk k).k s (tk (k1-1)).t) (x.app y))) k1 R j->P tk n (.more p s x) k R j
 |bname {i j:Nat}{R:Fo}:(tk i).k=1->i<n->P tk n (.post (tk i) (gB (nd 26 (tk i) (tk i).t 0 0 (tk i).x []) .nil)) (i+1) R j->P tk n .base i R j
 |bopen {i k j:Nat}{N:Nd}{ks R:Fo}:(tk i).k=40->i<n->P tk n (.expr 0) (i+1) (gB N ks) k->(tk k).k=41->k<n->P tk n (.post (tk i) (rj N ks (tk i) (tk k).t)) (k+1) R j->P tk n .base i R j
 |pstop {s:Tk}{B:Fo}{k:Nat}:k<n->Ir (tk k).k=false->P tk n (.post s B) k B k
 |pdot {s:Tk}{B R:Fo}{k j:Nat}:(tk k).k=48->(tk (k+1)).k=1->k+1<n->P tk n (.post s (gB (nd 33 s (tk (k+1)).t 0 0 (tk (k+1)).x []) B)) (k+2) R j->P tk n (.post s B) k R j
 |psq {s:Tk}{B Y R:Fo}{k k1 j:Nat}:(tk k).k=44->k<n->P tk n (.expr 0) (k+1) Y k1->(tk k1).k=45->k1<n->P tk n (.post s (gB (qg 32 s (tk k1).t) (B.app Y))) (k1+1) R j->P tk n (.post s B) k R j
 |pcall0 {s:Tk}{B R:Fo}{k j:Nat}:(tk k).k=40->(tk (k+1)).k=41->k+1<n->P tk n (.post s (gB (qg 34 s (tk (k+1)).t) B)) (k+2) R j->P tk n (.post s B) k R j
 |pcall {s:Tk}{B Y R:Fo}{k k1 j:Nat}:(tk k).k=40->k+1<n->(tk (k+1)).k≠41->P tk n .exprs (k+1) Y k1->(tk k1).k=41->k1<n->P tk n (.post s (gB (qg 34 s (tk k1).t) (B.app Y))) (k1+1) R j->P tk n (.post s B) k R j
 |es {i k j:Nat}{x R:Fo}:P tk n (.expr 0) i x k->P tk n .moreE k R j->P tk n .exprs i (x.app R) j
 |estop {k:Nat}:(tk k).k≠46->k<n->P tk n .moreE k .nil k
 |ego {k k1 j:Nat}{x R:Fo}:(tk k).k=46->k<n->P tk n (.expr 0) (k+1) x k1->P tk n .moreE k1 R j->P tk n .moreE k (x.app R) j
 |bstop {k:Nat}:(tk k).k≠46->k<n->P tk n .moreB k .nil k
 |bgo {k k1 j:Nat}{x R:Fo}:(tk k).k=46->k<n->P tk n .base (k+1) x k1->P tk n .moreB k1 R j->P tk n .moreB k (x.app R) j
 |body {i k j:Nat}{s:Tk}{nm:List ByteArray}{r:Bool}{B:Fo}:(tk i).k=40->i<n->Is tk n (i+1) nm r k->P tk n .block k B j->P tk n (.body s) i (gB (nd 36 s (tk (j-1)).t (if r=true then 1 else 0) 0 z0 nm) B) j
 |block {i k:Nat}{S:Fo}:(tk i).k=42->i<n->P tk n .stats (i+1) S k->(tk k).k=43->k+1<n->P tk n .block i (gB (qg 1 (tk i) (tk k).t) S) (k+1)
 |sstop {k:Nat}:(tk k).k=43\/(tk k).k=6->k<n->P tk n .stats k .nil k
 |ssep {k j:Nat}{R:Fo}:(tk k).k=5->k<n->P tk n .stats (k+1) R j->P tk n .stats k R j
 |sgo {k k1 j:Nat}{x R:Fo}:(tk k).k≠5->(tk k).k≠6->(tk k).k≠43->k<n->P tk n .stat k x k1->P tk n .stats k1 R j->P tk n .stats k (x.app R) j
 |nstop {k:Nat}:(tk k).k=43->k<n->P tk n .entries k .nil k
 |ncom {k k1 j:Nat}{x R:Fo}:(tk k).k≠43->k<n->P tk n .entry k x k1->(tk k1).k=46->k1<n->P tk n .entries (k1+1) R j->P tk n .entries k (x.app R) j
 |nlast {k k1 j:Nat}{x R:Fo}:(tk k).k≠43->k<n->P tk n .entry k x k1->(tk k1).k≠46->k1<n->P tk n .entries k1 R j->P tk n .entries k (x.app R) j
 |item {i j:Nat}{x:Fo}:(tk i).k≠48->(tk i).k≠44->(tk i).k≠6->i<n->P tk n (.expr 0) i x j->P tk n .entry i (gB (qg 40 (tk i) (tk (j-1)).t) x) j
 |pair {i k j:Nat}{x y:Fo}:(tk i).k=44->i<n->P tk n (.expr 0) (i+1) x k->(tk k).k=45->(tk (k+1)).k=47->k+1<n->P tk n (.expr 0) (k+2) y j->P tk n .entry i (gB (qg 41 (tk i) (tk (j-1)).t) (x.app y)) j
 |named {i j:Nat}{y:Fo}:(tk i).k=48->(tk (i+1)).k=1->(tk (i+2)).k=47->i+2<n->P tk n (.expr 0) (i+3) y j->P tk n .entry i (gB (nd 42 (tk i) (tk (j-1)).t 0 0 (tk (i+1)).x []) y) j
 |belif {i k k1 j:Nat}{x b z:Fo}:(tk i).k=20\/(tk i).k=15->i<n->P tk n (.expr 0) (i+1) x k->P tk n .block k b k1->(tk k1).k=15->k1<n->P tk n .branch k1 z j->P tk n .branch i (gB (qg 7 (tk i) (tk (j-1)).t) ((x.app b).app z)) j
 |belse {i k k1 j:Nat}{x b z:Fo}:(tk i).k=20\/(tk i).k=15->i<n->P tk n (.expr 0) (i+1) x k->P tk n .block k b k1->(tk k1).k=16->k1<n->P tk n .block (k1+1) z j->P tk n .branch i (gB (qg 7 (tk i) (tk (j-1)).t) ((x.app b).app z)) j
 |bno {i k k1:Nat}{x b:Fo}:(tk i).k=20\/(tk i).k=15->i<n->P tk n (.expr 0) (i+1) x k->P tk n .block k b k1->(tk k1).k≠15->(tk k1).k≠16->k1<n->P tk n .branch i (gB (qg 7 (tk i) (tk (k1-1)).t) (x.app b)) k1
 |tlet0 {i k:Nat}{ns:List ByteArray}:(tk i).k=22->i+1<n->(tk (i+1)).k=1->E4 tk n (i+2) ns k->(tk k).k≠47->P tk n .stat i (gB (nd 2 (tk i) (tk (k-1)).t 0 0 z0 ((tk (i+1)).x::ns)) .nil) k
 |tlet {i k j:Nat}{ns:List ByteArray}{E:Fo}:(tk i).k=22->i+1<n->(tk (i+1)).k=1->E4 tk n (i+2) ns k->(tk k).k=47->P tk n .exprs (k+1) E j->P tk n .stat i (gB (nd 2 (tk i) (tk (j-1)).t 0 0 z0 ((tk (i+1)).x::ns)) E) j
 |tcon {i j:Nat}{x:Fo}:(tk i).k=13->(tk (i+1)).k=1->(tk (i+2)).k=47->i+2<n->P tk n (.expr 0) (i+3) x j->P tk n .stat i (gB (nd 3 (tk i) (tk (j-1)).t 0 0 z0 [(tk (i+1)).x]) x) j
 |tfn {i j:Nat}{B:Fo}:(tk i).k=18->(tk (i+1)).k=1->(tk (i+2)).k=40->i+2<n->P tk n (.body (tk (i+2))) (i+2) B j->P tk n .stat i (gB (nd 4 (tk i) (tk (j-1)).t 0 0 z0 [(tk (i+1)).x]) B) j
 |tif {i j:Nat}{R:Fo}:(tk i).k=20->i<n->P tk n .branch i R j->P tk n .stat i R j
 |twhile {i k j:Nat}{x b:Fo}:(tk i).k=31->i<n->P tk n (.expr 0) (i+1) x k->P tk n .block k b j->P tk n .stat i (gB (qg 8 (tk i) (tk (j-1)).t) (x.app b)) j
 |tfor {i k k1 j:Nat}{ns:List ByteArray}{E b:Fo}:(tk i).k=19->i+1<n->(tk (i+1)).k=1->E4 tk n (i+2) ns k->(tk k).k=47->P tk n .exprs (k+1) E k1->P tk n .block k1 b j->P tk n .stat i (gB (nd 9 (tk i) (tk (j-1)).t 0 0 z0 ((tk (i+1)).x::ns)) (E.app b)) j
 |teach {i k k1 j:Nat}{ns:List ByteArray}{x b:Fo}:(tk i).k=19->i+1<n->(tk (i+1)).k=1->E4 tk n (i+2) ns k->(tk k).k=21->P tk n (.expr 0) (k+1) x k1->(tk k1).k=42->k1<n->P tk n .block k1 b j->P tk n .stat i (gB (nd 10 (tk i) (tk (j-1)).t 0 0 z0 ((tk (i+1)).x::ns)) (x.app b)) j
 |tbreak {i:Nat}:(tk i).k=11->i+1<n->P tk n .stat i (gB (qg 11 (tk i) (tk i).t) .nil) (i+1)
 |tnext {i:Nat}:(tk i).k=23->i+1<n->P tk n .stat i (gB (qg 12 (tk i) (tk i).t) .nil) (i+1)
 |tret0 {i:Nat}:(tk i).k=27->i+1<n->(tk (i+1)).k=5\/(tk (i+1)).k=6\/(tk (i+1)).k=43->P tk n .stat i (gB (qg 13 (tk i) (tk i).t) .nil) (i+1)
 |tret {i j:Nat}{E:Fo}:(tk i).k=27->i+1<n->fH (tk (i+1)).k=true->P tk n .exprs (i+1) E j->P tk n .stat i (gB (qg 13 (tk i) (tk (j-1)).t) E) j
 |ttry {i k k1 j:Nat}{ns:List ByteArray}{a b:Fo}:(tk i).k=30->i<n->P tk n .block (i+1) a k->(tk k).k=12->k+1<n->(tk (k+1)).k=1->E4 tk n (k+2) ns k1->P tk n .block k1 b j->P tk n .stat i (gB (nd 14 (tk i) (tk (j-1)).t 0 0 z0 ((tk (k+1)).x::ns)) (a.app b)) j
 |tthrow {i j:Nat}{x:Fo}:(tk i).k=28->i<n->P tk n (.expr 0) (i+1) x j->P tk n .stat i (gB (qg 15 (tk i) (tk (j-1)).t) x) j
 |tdefer {i j:Nat}{x:Fo}:(tk i).k=14->i<n->P tk n .base (i+1) x j->P tk n .stat i (gB (qg 16 (tk i) (tk (j-1)).t) x) j
 |tblock {i j:Nat}{R:Fo}:(tk i).k=42->i<n->P tk n .block i R j->P tk n .stat i R j
 |tdo {i j:Nat}{x:Fo}:(tk i).k=1\/(tk i).k=40->i<n->P tk n .base i x j->(tk j).k≠46->(tk j).k≠47->j<n->P tk n .stat i (gB (qg 6 (tk i) (tk (j-1)).t) x) j
 |tset {i k k1 j:Nat}{x R E:Fo}:(tk i).k=1\/(tk i).k=40->i<n->P tk n .base i x k->P tk n .moreB k R k1->(tk k1).k=47->k1<n->P tk n .exprs (k1+1) E j->P tk n .stat i (gB (nd 5 (tk i) (tk (j-1)).t 0 ((x.app R).len:Nat) z0 []) ((x.app R).app E)) j
theorem E4.pos{tk:Nat->Tk}{n k j:Nat}{ns:List ByteArray}(a:E4 tk n k ns j):k<=j/\j<n:=by
 induction a with
 |stop _ a=>exact⟨ag _,a⟩
 |go _ _ _ _ b=>omega
theorem Is.pos{tk:Nat->Tk}{n k j:Nat}{ns:List ByteArray}{r:Bool}(a:Is tk n k ns r j):k+1<=j/\j<n:=by
 induction a with
 |close _ a=>omega
 |rest _ _ a=>omega
 |last _ _ a=>omega
 |go _ _ _ _ b=>omega
def zq:ul->Nat
 | .more _ _ _=>0
 | .post _ _=>0
 | .moreE=>0
 | .moreB=>0
 | .stats=>0
 | .entries=>0
 |_=>1
def slk:ul->Nat
 | .more _ _ _=>0
 | .post _ _=>0
 | .moreE=>0
 | .moreB=>0
 | .stats=>0
 | .entries=>0
 | .entry=>1
 | .stat=>1
 | .branch=>1
 |_=>2
def bas:ul->Nat
 | .more _ _ x=>x.sz
 | .post _ x=>x.sz
 |_=>0
theorem aax(N:Nd)(ks:Fo)(s:Tk)(e:Int):(rj N ks s e).sz<=(gB N ks).sz+1:=by
 unfold rj;split
 ·rw[nC];omega
 ·omega
theorem P.pos{tk:Nat->Tk}{n i j:Nat}{t:ul}{a:Fo}(b:P tk n t i a j):i+zq t<=j/\j<n/\a.sz+slk t+3*i<=bas t+3*j:=by
 induction b
 case bopen i k j N ks a h1 h2 h3 h4 h5 h6 ih1 ih2=>
  have:=aax N ks (tk i) (tk k).t;simp only[zq,slk,bas,nC,Fo.sz_app,Fo.sz]at *;omega
 case body h1 h2 h3 h4 ih=>
  have:=h3.pos;simp only[zq,slk,bas,nC,Fo.sz_app,Fo.sz]at *;omega
 case tlet0 h1 h2 h3 h4 h5=>have:=h4.pos;simp only[zq,slk,bas,nC,Fo.sz_app,Fo.sz]at *;omega
 case tlet h1 h2 h3 h4 h5 h6 ih=>have:=h4.pos;simp only[zq,slk,bas,nC,Fo.sz_app,Fo.sz]at *;omega
 case tfor h1 h2 h3 h4 h5 h6 h7 ih1 ih2=>have:=h4.pos;simp only[zq,slk,bas,nC,Fo.sz_app,Fo.sz]at *;omega
 case teach h1 h2 h3 h4 h5 h6 h7 h8 h9 ih1 ih2=>have:=h4.pos;simp only[zq,slk,bas,nC,Fo.sz_app,Fo.sz]at *;omega
 case ttry h1 h2 h3 h4 h5 h6 h7 h8 ih1 ih2=>have:=h7.pos;simp only[zq,slk,bas,nC,Fo.sz_app,Fo.sz]at *;omega
 all_goals
  simp only[zq,slk,bas,nC,Fo.sz_app,Fo.sz]at *;omega
inductive D (tk:Nat->Tk) (n:Nat):Nat->List Int->Nat->Nat->Prop where
 |nil {i:Nat}:D tk n 0 [] i i
 |tok {m:Nat}{s:Int}{r:List Int}{i j:Nat}:s<100->(tk i).k=s->i<n->D tk n m r (i+1) j->D tk n (m+1) (s::r) i j
 |exp {m:Nat}{s:Int}{r:List Int}{i j:Nat}:100<=s->i<n->(xE s (tk i).k).2=true->D tk n m ((xE s (tk i).k).1++r) i j->D tk n (m+1) (s::r) i j
section
variable {tk : Nat → Tk} {n : Nat}
theorem D.split{m:Nat}{st:List Int}{i j:Nat}(u:D tk n m st i j):∀(a b:List Int),st=a++b->∃d e k,D tk n d a i k/\D tk n e b k j/\d+e=m:=by
 induction u with
 |nil=>
  intro a b c;obtain⟨rfl,rfl⟩:a=[]/\b=[]:=by simpa using c.symm
  exact⟨0,0,_,.nil,.nil,rfl⟩
 |@tok m l s i j f g h q r=>
  intro a b c;cases a with
  |nil=>
   rw[jF]at c;exact⟨0,m+1,i,.nil,by rw[<-c];exact .tok f g h q,by omega⟩
  |cons t a=>
   obtain⟨rfl,rfl⟩:l=t/\s=a++b:=by simpa using c
   obtain⟨d,e,k,o,p,v⟩:=r a b rfl;exact⟨d+1,e,k,.tok f g h o,p,by omega⟩
 |@exp m l s i j f g h q r=>
  intro a b c;cases a with
  |nil=>
   rw[jF]at c;exact⟨0,m+1,i,.nil,by rw[<-c];exact .exp f g h q,by omega⟩
  |cons t a=>
   obtain⟨rfl,rfl⟩:l=t/\s=a++b:=by simpa using c
   obtain⟨d,e,k,o,p,v⟩:=r ((xE l (tk i).k).1++a) b (by rw[dG]);exact⟨d+1,e,k,.exp f g h o,p,by omega⟩
theorem D.cut{m:Nat}{s:Int}{r:List Int}{i j:Nat}(c:D tk n m (s::r) i j):∃a b k,D tk n a [s] i k/\D tk n b r k j/\a+b=m:=c.split [s] r rfl
theorem D.nils{m:Nat}{i j:Nat}(a:D tk n m [] i j):i=j:=by cases a;rfl
theorem D.toks{m:Nat}{s:Int}{r:List Int}{i j:Nat}(e:D tk n m (s::r) i j)(g:s<100):(tk i).k=s/\i<n/\∃d,D tk n d r (i+1) j/\d<m:=by
 cases e with
 |tok f a b c=>exact⟨a,b,_,c,by omega⟩
 |exp f a b c=>omega
theorem D.exps{m:Nat}{s:Int}{r:List Int}{i j:Nat}(e:D tk n m (s::r) i j)(g:100<=s):i<n/\(xE s (tk i).k).2=M/\∃d,D tk n d ((xE s (tk i).k).1++r) i j/\d<m:=by
 cases e with
 |tok f a b c=>omega
 |exp f a b c=>exact⟨a,b,_,c,by omega⟩
theorem D.row{m:Nat}{s:Int}{i j:Nat}(d:D tk n m [s] i j)(h:100<=s){x:List Int×Bool}(e:xE s (tk i).k=x):i<n/\x.2=M/\∃a,D tk n a x.1 i j/\a<m:=by
 obtain⟨f,c,a,b,g⟩:=d.exps h;rw[e]at c b;rw[fL]at b;exact⟨f,c,a,b,g⟩
structure Ex (tk:Nat->Tk) (n m:Nat):Prop where
 unit:∀{i j:Nat},D tk n m [120] i j->j<n->∃N ks,P tk n .unit i (gB N ks) j
 expr:∀{i j:Nat},D tk n m [119] i j->j<n->∃N ks,P tk n (.expr 0) i (gB N ks) j
 exprs:∀{i j:Nat},D tk n m [124] i j->j<n->∃R,P tk n .exprs i R j
 moreE:∀{i j:Nat},D tk n m [125] i j->j<n->∃R,P tk n .moreE i R j
 block:∀{i j:Nat},D tk n m [132] i j->j<n->∃N ks,P tk n .block i (gB N ks) j
 stats:∀{i j:Nat},D tk n m [100] i j->j<n->(tk j).k=43\/(tk j).k=6->∃R,P tk n .stats i R j
 body:∀{i j:Nat}(s:Tk),D tk n m [133] i j->j<n->∃N ks,P tk n (.body s) i (gB N ks) j
 entries:∀{i j:Nat},D tk n m [129] i j->j<n->(tk j).k=43->∃R,P tk n .entries i R j
 entry:∀{i j:Nat},D tk n m [131] i j->j<n->∃N ks,P tk n .entry i (gB N ks) j
 els:∀{i j k k1:Nat}{x b:Fo},(tk i).k=20\/(tk i).k=15->i<n->P tk n (.expr 0) (i+1) x k->P tk n .block k b k1->D tk n m [105] k1 j->j<n->∃N ks,P tk n .branch i (gB N ks) j
theorem D.lt{m:Nat}{s:Int}{r:List Int}{i j:Nat}(a:D tk n m (s::r) i j):i<n:=by cases a<;>assumption
theorem Gi{t:Int}(a:fH t=M):t≠6/\t≠41/\t≠43/\t≠5/\t≠44/\t≠48/\t≠46:=by
 refine⟨?_,?_,?_,?_,?_,?_,?_⟩;all_goals
  rintro rfl;revert a;decide
def fam(S:Int):Int:=if S<=112 then 1 else if S<=115 then 2 else if S<=118 then 3 else 4
theorem aay{S t:Int}(hS:S=110\/S=111\/S=112\/S=114\/S=115\/S=117\/S=118\/S=122)(d:Ir t=M):∃a c,xE S t=(pa t a c,M)/\(a=110\/a=114\/a=117\/a=122)/\(c=111\/c=115\/c=118\/c=122)/\fam a=fam S/\fam c=fam S:=by
 have b:t=48\/t=44\/t=40:=aI d;rcases hS with rfl|rfl|rfl|rfl|rfl|rfl|rfl|rfl
 ·exact⟨110,111,by rcases b with rfl|rfl|rfl<;>decide,by omega,by omega,rfl,rfl⟩
 ·exact⟨110,111,by rcases b with rfl|rfl|rfl<;>decide,by omega,by omega,rfl,rfl⟩
 ·exact⟨110,111,by rcases b with rfl|rfl|rfl<;>decide,by omega,by omega,rfl,rfl⟩
 ·exact⟨114,115,by rcases b with rfl|rfl|rfl<;>decide,by omega,by omega,rfl,rfl⟩
 ·exact⟨114,115,by rcases b with rfl|rfl|rfl<;>decide,by omega,by omega,rfl,rfl⟩
 ·exact⟨117,118,by rcases b with rfl|rfl|rfl<;>decide,by omega,by omega,rfl,rfl⟩
 ·exact⟨117,118,by rcases b with rfl|rfl|rfl<;>decide,by omega,by omega,rfl,rfl⟩
 ·exact⟨122,122,by rcases b with rfl|rfl|rfl<;>decide,by omega,by omega,rfl,rfl⟩
theorem afl:∀(m:Nat),(∀m',m'<m->Ex tk n m')->∀{S:Int},(S=110\/S=111\/S=112\/S=114\/S=115\/S=117\/S=118\/S=122)->∀{k j:Nat},D tk n m [S] k j->j<n->∀(s:Tk)(N:Nd)(ks:Fo),∃a1 bd L m' a,P tk n (.post s (gB N ks)) k (gB a1 bd) L/\D tk n m' [a] L j/\m'<=m/\Ir (tk L).k=O/\(a=110\/a=111\/a=112\/a=114\/a=115\/a=117\/a=118\/a=122)/\fam a=fam S:=by
 intro m
 induction m using Nat.strongRecOn with
 |_ m E=>
  intro q S hS k j J C s N ks;cases hf:Ir (tk k).k with
  |false=>exact⟨N,ks,k,m,S,.pstop J.lt hf,J,ag _,hf,hS,rfl⟩
  |true=>
   obtain⟨u,y,bb,bl,bn,al,am⟩:=aay hS hf;obtain⟨a5,_,bs,o,bo⟩:=J.row (by omega) bb;have a9:(tk k).k=48\/(tk k).k=44\/(tk k).k=40:=aI hf;rcases a9 with e|e|e
   ·rw[show(pa (tk k).k u y,M).1=[48,1,u] by rw[e];rfl]at o;obtain⟨_,_,a0,v,an⟩:=o.toks (by omega);obtain⟨a4,a6,F,p,ap⟩:=v.toks (by omega);obtain⟨b,l,i,ak,c,p2,d,bp,f,g,h⟩:=E F (by omega) (fun m' H=>q m' (by omega)) (by omega) p C s (nd 33 s (tk (k+1)).t 0 0 (tk (k+1)).x []) (gB N ks);exact⟨b,l,i,ak,c,.pdot e a4 a6 p2,d,by omega,f,g,by rw[h,al]⟩
   ·rw[show(pa (tk k).k u y,M).1=[44,119,45,u] by rw[e];rfl]at o;obtain⟨_,_,a0,v,an⟩:=o.toks (by omega);obtain⟨F,ak,af,p,A,ap⟩:=v.cut;obtain⟨a2,bf,K⟩:=(q F (by omega)).expr p A.lt;obtain⟨z,w,G,B,a8⟩:=A.toks (by omega);obtain⟨b,l,i,r,c,p2,d,av,f,g,h⟩:=E G (by omega) (fun m' H=>q m' (by omega)) (by omega) B C s (qg 32 s (tk af).t) ((gB N ks).app (gB a2 bf));exact⟨b,l,i,r,c,.psq e a5 K z w p2,d,by omega,f,g,by rw[h,al]⟩
   ·rw[show(pa (tk k).k u y,M).1=[40,123,41,y] by rw[e];rfl]at o;obtain⟨_,_,a0,v,an⟩:=o.toks (by omega);obtain⟨F,ak,af,p,A,ap⟩:=v.cut;obtain⟨z,w,G,B,a8⟩:=A.toks (by omega);cases hb:fH (tk (k+1)).k with
    |false=>
     obtain⟨_,_,r,I,_⟩:=p.row (by omega) (x:=([],M)) (by simp[xE,aap,hb]);obtain rfl:=I.nils;obtain⟨b,l,i,r,c,p2,d,av,f,g,h⟩:=E G (by omega) (fun m' H=>q m' (by omega)) (by omega) B C s (qg 34 s (tk (k+1)).t) (gB N ks);exact⟨b,l,i,r,c,.pcall0 e z w p2,d,by omega,f,g,by rw[h,am]⟩
    |true=>
     obtain⟨a7,_,r,I,av⟩:=p.row (by omega) (x:=([124],M)) (by simp[xE,aap,hb]);obtain⟨a3,K⟩:=(q r (by omega)).exprs I w;obtain⟨b,l,i,bj,c,p2,d,br,f,g,h⟩:=E G (by omega) (fun m' H=>q m' (by omega)) (by omega) B C s (qg 34 s (tk af).t) ((gB N ks).app a3);exact⟨b,l,i,bj,c,.pcall e a7 (Gi hb).2.1 K z w p2,d,by omega,f,g,by rw[h,am]⟩
theorem D.join{m c:Nat}{a b:List Int}{i k j:Nat}(p:D tk n m a i k)(h:D tk n c b k j):D tk n (m+c) (a++b) i j:=by
 induction p with
 |nil=>rw[fm];exact h
 |@tok d q r i j e f g o l=>rw[show d+1+c=(d+c)+1 by omega];exact .tok e f g (l h)
 |@exp d q r i j e f g o l=>rw[show d+1+c=(d+c)+1 by omega];exact .exp (r:=r++b) e f g (by rw[<-dG];exact l h)
theorem It(N:Nd)(ks:Fo)(s:Tk)(e:Int):∃a b,rj N ks s e=gB a b:=by unfold rj;split<;>exact⟨_,_,rfl⟩
theorem afm{m:Nat}(o:∀m',m'<m->Ex tk n m'){S:Int}(hS:S=110\/S=111\/S=112\/S=114\/S=115\/S=117\/S=118\/S=122){i j:Nat}(v:j<n)(hd:D tk n m [1,S] i j\/D tk n m [40,119,41,S] i j):∃z al q m' a,P tk n .base i (gB z al) q/\D tk n m' [a] q j/\m'<m/\Ir (tk q).k=O/\(a=110\/a=111\/a=112\/a=114\/a=115\/a=117\/a=118\/a=122)/\fam a=fam S:=by
 rcases hd with hd|hd
 ·obtain⟨e,p,y,l,J⟩:=hd.toks (by omega);obtain⟨b,s,r,u,c,p2,d,K,f,g,h⟩:=afl y (fun m' F=>o m' (by omega)) hS l v (tk i) (nd 26 (tk i) (tk i).t 0 0 (tk i).x []) .nil;exact⟨b,s,r,u,c,.bname e p p2,d,by omega,f,g,h⟩
 ·obtain⟨e,p,y,l,J⟩:=hd.toks (by omega);obtain⟨u,a1,af,G,H,K⟩:=l.cut;obtain⟨C,w,an,I,av⟩:=H.toks (by omega);obtain⟨B,am,L⟩:=(o u (by omega)).expr G w;obtain⟨A,ak,E⟩:=It B am (tk i) (tk af).t;obtain⟨b,s,r,ap,c,p2,d,a0,f,g,h⟩:=afl an (fun m' F=>o m' (by omega)) hS I v (tk i) A ak;rw[<-E]at p2;exact⟨b,s,r,ap,c,.bopen e p L C w p2,d,by omega,f,g,h⟩
theorem D.names:∀(m:Nat){k j:Nat},D tk n m [104] k j->j<n->∃ns,E4 tk n k ns j/\(tk j).k≠46:=by
 intro m
 induction m using Nat.strongRecOn with
 |_ m q=>
  intro k j c d;by_cases a:(tk k).k=46
  ·obtain⟨i,_,r,b,o⟩:=c.row (by omega) (x:=([46,1,104],M)) (by simp[xE,aao,a]);obtain⟨_,_,v,f,t⟩:=b.toks (by omega);obtain⟨e,l,s,g,u⟩:=f.toks (by omega);obtain⟨ns,p,h⟩:=q s (by omega) g d;exact⟨_,.go a l e p,h⟩
  ·obtain⟨i,_,r,b,o⟩:=c.row (by omega) (x:=([],M)) (by simp[xE,aao,a]);obtain rfl:=b.nils;exact⟨[],.stop a d,a⟩
theorem params:∀(m:Nat){S:Int},S=126\/S=128->∀{k j:Nat},D tk n m [S,41] k j->j<n->∃ns r,Is tk n k ns r j:=by
 intro m
 induction m using Nat.strongRecOn with
 |_ m B=>
  intro S hS k j v f;obtain⟨L,E,C,c,l,J⟩:=v.cut;obtain⟨g,I,af,u,_⟩:=l.toks (by omega);obtain rfl:=u.nils;by_cases b:(tk k).k=1
  ·obtain⟨p,_,s,a,q⟩:=c.row (by omega) (x:=([1,127],M)) (by rcases hS with rfl|rfl<;>simp[xE,Ie,If,b]);obtain⟨_,_,F,d,y⟩:=a.toks (by omega);by_cases i:(tk (k+1)).k=46
   ·obtain⟨w,_,G,h,z⟩:=d.row (by omega) (x:=([46,128],M)) (by simp[xE,aaq,i]);obtain⟨_,_,H,o,K⟩:=h.toks (by omega);obtain⟨ns,r,A⟩:=B (H+E) (by omega) (.inr rfl) (k:=k+2) (j:=C+1) (D.join o l) f;exact⟨_,_,.go b i o.lt A⟩
   ·obtain⟨w,_,G,h,z⟩:=d.row (by omega) (x:=([],M)) (by simp[xE,aaq,i]);obtain rfl:=h.nils;exact⟨_,_,.last b g f⟩
  ·by_cases e:(tk k).k=49
   ·obtain⟨p,_,s,a,q⟩:=c.row (by omega) (x:=([49],M)) (by rcases hS with rfl|rfl<;>simp[xE,Ie,If,e]);obtain⟨_,_,F,d,y⟩:=a.toks (by omega);obtain rfl:=d.nils;exact⟨_,_,.rest e g f⟩
   ·rcases hS with rfl|rfl
    ·obtain⟨p,_,s,a,q⟩:=c.row (by omega) (x:=([],M)) (by simp[xE,Ie,b,e]);obtain rfl:=a.nils;exact⟨_,_,.close g f⟩
    ·obtain⟨_,t,_⟩:=c.row (by omega) (x:=([],O)) (by simp[xE,If,b,e]);cases t
theorem agc:∀(m:Nat),(∀m',m'<m->Ex tk n m')->∀{i j:Nat},D tk n m [113] i j->j<n->∃N ks z k l m',P tk n .base i (gB N ks) k/\P tk n .moreB k z l/\(tk l).k=47/\l<n/\D tk n m' [124] (l+1) j/\m'<m:=by
 intro m
 induction m using Nat.strongRecOn with
 |_ m al=>
  intro v i j c w;have K:∃a,a<m/\∃S:Int,(S=114\/S=115)/\(D tk n a [1,S] i j\/D tk n a [40,119,41,S] i j):=by
   by_cases t:(tk i).k=1
   ·obtain⟨L,_,a,d,h⟩:=c.row (by omega) (x:=([1,114],M)) (by simp[xE,Ic,t]);exact⟨a,h,114,by omega,.inl d⟩
   ·by_cases u:(tk i).k=40
    ·obtain⟨L,_,a,d,h⟩:=c.row (by omega) (x:=([40,119,41,115],M)) (by simp[xE,Ic,u]);exact⟨a,h,115,by omega,.inr d⟩
    ·obtain⟨_,b,_⟩:=c.row (by omega) (x:=([],O)) (by simp[xE,Ic,t,u]);cases b
  obtain⟨a,h,r,J,d⟩:=K;obtain⟨N,ks,k,a5,S,p2,e,a2,G,H,s⟩:=afm (m:=a) (S:=r) (fun m' b=>v m' (by omega)) (by omega) w d;have I:fam r=2:=by rcases J with rfl|rfl<;>rfl
  rw[I]at s;have y:(tk k).k≠48/\(tk k).k≠44/\(tk k).k≠40:=by have:=na G;omega
  have hS:S=114\/S=115:=by rcases H with rfl|rfl|rfl|rfl|rfl|rfl|rfl|rfl<;>first|omega|(revert s;decide)
  rcases hS with rfl|rfl
  ·by_cases f:(tk k).k=46
   ·obtain⟨g,_,an,o,af⟩:=e.row (by omega) (x:=([46,113],M)) (by simp[xE,Id,f]);obtain⟨_,_,q,p,ak⟩:=o.toks (by omega);obtain⟨av,a4,a0,a3,am,ap,A,B,C,E,F,a1⟩:=al q (by omega) (fun m' b=>v m' (by omega)) p w;exact⟨N,ks,_,k,am,ap,p2,.bgo f g A B,C,E,F,by omega⟩
   ·by_cases c:(tk k).k=47
    ·obtain⟨g,_,an,o,af⟩:=e.row (by omega) (x:=([47,124],M)) (by simp[xE,Id,c]);obtain⟨_,_,q,p,ak⟩:=o.toks (by omega);exact⟨N,ks,.nil,k,k,q,p2,.bstop f g,c,g,p,by omega⟩
    ·obtain⟨_,b,_⟩:=e.row (by omega) (x:=([],O)) (by simp[xE,Id,y,f,c]);cases b
  ·obtain⟨_,b,_⟩:=e.row (by omega) (x:=([],O)) (by simp[xE,ac1,y]);cases b
theorem D.blk{m:Nat}{r:List Int}{i j:Nat}(a:D tk n m (132::r) i j):(tk i).k=42/\i<n:=by
 obtain⟨g,h,k,b,e,f⟩:=a.cut;obtain⟨d,c,_⟩:=b.row (by omega) (x:=([42,100,43],decide ((tk i).k=42))) (by simp[xE,ac2]);exact⟨aI c,d⟩
end
