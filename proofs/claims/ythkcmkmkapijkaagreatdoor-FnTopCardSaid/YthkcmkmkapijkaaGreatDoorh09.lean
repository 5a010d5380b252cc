import Derived.Test.YthkcmkmkapijkaaGreatDoorh02
import Derived.Test.YthkcmkmkapijkaaGreatDoorh08
import Derived.WalkSmall
set_option linter.all false
set_option maxRecDepth 100000
set_option maxHeartbeats 25600000
open Go.Proofs.Tryz
open List renaming length->M,set->E0
open Option renaming some->V,none->B2
open Go.Proofs.Tryz renaming prog->Ax
open Go renaming World->A0,Value->A3,Program->B4,TypeId->B7,Calls->B9,KeepsFrom->E1
open Bool renaming true->A1,false->B5
open Go.Value renaming ownBlock->A2,slice->Br,string->B1,string->B6,agg->D1,bool->E2
open Go.Ending renaming returned->A5
open Go.World renaming putObj_heap_other->A9,setCell->E3
open Go.RowKit renaming Hid->B0,Below->D2
open Go.Obj renaming cells->B3
open Go.Fence renaming wide->C2
namespace Go.Proofs.YthkcmkmkapijkaaGreatDoor
open Go.RowKit
variable{C:Nat->Bool}{K:Act->World->Prop}{Q:Exit->Act->World->Prop}{S S2:World->Prop}{W w:World}{a:Act}{g i l n s:Nat}{md:Region.Mode}{o oi:Oper}{ops:Array Oper}{p r:Nat×TypeId×zAV}{u v:Value}{xs:zLV}
abbrev ay9:zAV:=#[zI 0,zI 0,zI 0,zI 0,zI 0,zI 0,nh,fe,fe]
def aln:(Ax.info? 37).map (λi=>(i.zero,i.size,i.bytes))=V (V<|D1 ay9,9,112):=J
theorem ajb{g h b c m n d e f n2 i j:Nat}{o p:zLV}(k:W.ownsRow g b m (bI d f i) f o)(l:W.ownsRow h c n (bI e n2 j) n2 p)(q:b≠c):d≠e:=by
 rintro rfl;obtain⟨a,_⟩|⟨_,_,_,a,_,_,_⟩:=k.2
 .cases a
 .cases a;obtain⟨a,_⟩|⟨_,_,_,_,_,_,_⟩:=l.2;all_goals grind
theorem Kc(g m):(⟨g,0,B2⟩:Addr).add m=⟨g,m,B2⟩:=by unfold Addr.add;grind
structure Mb where
 N:Nd
 vn:A3
 vk:A3
abbrev zLM:=List Mb
def cMb(x:Mb):zLV:=[zI x.N.k,zI x.N.f,zI x.N.t,zI x.N.l,zI x.N.op,zI x.N.n,B6 x.N.x,x.vn,x.vk]
def mG(l:zLM):zLV:=l.flatMap cMb
def DB(a)(r:zLM):mG (a::r)=cMb a++mG r:=by rfl
def uC(a b):mG (a++b)=mG a++mG b:=by simp[mG]
def alo(l):M (mG l)=M l*9:=by
 induction l with
 |nil=>rfl|cons a d b=>
  have c:M (cMb a)=9:=rfl;rw[DB,aG,b,c,dD];omega
theorem LL(ts i j a)(c:ts[i]?=V a)(d:j<9):(mG ts)[i*9+j]?=(cMb a)[j]?:=by
 induction ts generalizing i with
 |nil=>grind|cons b g e=>
  have f:M (cMb b)=9:=rfl;rw[DB];grind
def alp(c:zLV):Prop:=∀(i j:Nat)(a b:A3),i≠j->c[i]?=V a->c[j]?=V b->a.ownBlock=B2\/a.ownBlock≠b.ownBlock
structure awG (W:A0) (lo hi:Nat) (x:Mb):Prop where
 on:W.ownsRow lo 9 1 x.vn (M x.N.nm) (x.N.nm.map B1)
 ok:W.ownsRow lo 3 1 x.vk (M x.N.ks) (x.N.ks.map zI)
 hn:∀g,x.vn.ownBlock=V g->g<hi
 hk:∀g,x.vk.ownBlock=V g->g<hi
structure wu (W:A0) (lo hi:Nat) (v:A3) (L:zLM):Prop where
 row:W.ownsRow lo 37 9 v (M L) (mG L)
 hh:∀g,v.ownBlock=V g->g<hi
 each:∀x∈L,awG W lo hi x
 dn:alp (L.map Mb.vn)
 dk:alp (L.map Mb.vk)
theorem DC{a}{l:zLB}(h:W.ownsRow a 9 1 v (M l) (l.map B1)):bv W v l:=by
 obtain⟨_,rfl⟩|⟨_,_,rfl⟩:=aC h
 .exact .inl U
 .exact ala h R
theorem uD{a}{l:zLI}(h:W.ownsRow a 3 1 v (M l) (l.map zI)):dt W v l:=by
 obtain⟨_,rfl⟩|⟨_,_,rfl⟩:=aC h
 .exact .inl U
 .exact alb h R
theorem qa{j c L}(h:W.ownsRow j 37 9 (bI g n c) n (mG L)){x}(e:L[i]?=V x):
  W.cell? (aj g<|i*9)=V (zI x.N.k)/\W.cell? (aj g<|i*9+1)=V (zI x.N.f)/\W.cell? (aj g<|i*9+2)=V (zI x.N.t)/\W.cell? (aj g<|i*9+3)=V (zI x.N.l)/\W.cell? (aj g<|i*9+4)=V (zI x.N.op)/\W.cell? (aj g<|i*9+5)=V (zI x.N.n)/\W.cell? (aj g<|i*9+6)=V (B6 x.N.x)/\W.cell? (aj g<|i*9+7)=V x.vn/\W.cell? (aj g<|i*9+8)=V x.vk:=by
 have o:n*9=M L*9:=by have:=h.1;rw[alo]at this;omega
 have m:i<M L:=U;have a:∀b,b<9->W.cell? (aj g<|i*9+b)=(cMb x)[b]?:=λb d=>by
  rw[h.cellAt _ O,LL L i b x e d]
 exact⟨a 0 O,a 1 O,a 2 O,a 3 O,a 4 O,a 5 O,a 6 O,a 7 O,a 8 O⟩
theorem wu.nds{q o L}(h:wu W q o v L):dE W v (L.map Mb.N):=by
 obtain⟨_,rfl⟩|⟨n,m,rfl⟩:=aC h.row
 .exact .inl U
 .refine .inr ⟨⟨n,0,B2⟩,m,U,λp N a=>?_⟩;rw[cJ]at a;cases hx:L[p]? with
  |none=>grind|some r=>
   rw[hx]at a;obtain rfl:=de a;rw[Kc];have⟨c,d,e,f,g,i,j,k,l⟩:=qa h.row hx;have b:=h.each r U;exact⟨_,_,c,d,e,f,g,i,j,k,l,DC b.on,uD b.ok⟩
def nxt(K:Nat)(N:Nd):Nat:=K+7+M N.nm+M N.ks
def cnt:Nat->zLD->Nat|K,[]=>K|K,N::r=>cnt (nxt K N) r
def alq(a B):∀K,cnt K (a++B)=cnt (cnt K a) B:=by
 induction a with
 |nil=>intro K;rfl|cons d c b=>intro K;simp[cnt,b]
def wv{g h b c m n l n2:Nat}{a f}{o p:zLV}(d:W.ownsRow g b m a l o)(e:W.ownsRow h c n f n2 p)(j:b≠c):a.ownBlock=B2\/a.ownBlock≠f.ownBlock:=by
 obtain⟨k,rfl⟩|⟨_,_,rfl⟩:=aC d
 .exact .inl R
 .rcases aC e with⟨k,rfl⟩|⟨_,_,rfl⟩
  .exact .inr (by simp[A2])
  .exact .inr λi=>ajb d e j (by simpa [A2] using i)
structure Tk where
 k:Int
 f:Int
 t:Int
 l:Int
 n:Int
 x:Bz
abbrev zLT:=List Tk
def vTk(a:Tk):A3:=D1 #[zI a.k,zI a.f,zI a.t,zI a.l,zI a.n,B6 a.x]
def cTk(a:Tk):zLV:=[zI a.k,zI a.f,zI a.t,zI a.l,zI a.n,B6 a.x]
def DF(ts:zLT):zLV:=ts.flatMap cTk
def ya(a b):DF (a++[b])=DF a++cTk b:=by simp[DF]
inductive Fo where|nil:Fo|cons:Nd->Fo->Fo->Fo
def Fo.sz:Fo->Nat| .nil=>0| .cons _ k r=>k.sz+1+r.sz
def Fo.len:Fo->Nat| .nil=>0| .cons _ _ r=>r.len+1
def Fo.tops:Fo->Nat->zLI| .nil,_=>[]| .cons _ k r,b=>((b+k.sz:Nat):Int)::r.tops (b+k.sz+1)
def Fo.flat:Fo->Nat->zLD| .nil,_=>[]| .cons N k r,b=>k.flat b++({N with ks:=k.tops b}::r.flat (b+k.sz+1))
def Fo.app:Fo->Fo->Fo| .nil,c=>c| .cons N k r,c=> .cons N k (r.app c)
def one(N:Nd)(k:Fo):Fo:= .cons N k .nil
theorem Fo.app_nil:∀(a:Fo),a.app .nil=a| .nil=>rfl| .cons N k r=>by rw[Fo.app,r.app_nil]
def Fo.app_app:∀(a b c:Fo),(a.app b).app c=a.app (b.app c)| .nil,_,_=>rfl| .cons N k r,b,c=>by simp only[Fo.app];rw[r.app_app]
theorem Fo.sz_app:∀(a c:Fo),(a.app c).sz=a.sz+c.sz| .nil,c=>by simp[Fo.app,Fo.sz]| .cons N k r,c=>by simp[Fo.app,Fo.sz,r.sz_app];omega
def Fo.len_app:∀(a c:Fo),(a.app c).len=a.len+c.len| .nil,c=>by simp[Fo.app,Fo.len]| .cons N k r,c=>by simp[Fo.app,Fo.len,r.len_app];omega
theorem Fo.tops_app:∀(a c:Fo)(b),(a.app c).tops b=a.tops b++c.tops (b+a.sz)| .nil,c,b=>by rfl| .cons N k r,c,b=>by simp only[Fo.app,Fo.tops,Fo.sz,r.tops_app,fh];grind
theorem Fo.flat_app:∀(a c:Fo)(b),(a.app c).flat b=a.flat b++c.flat (b+a.sz)| .nil,c,b=>by rfl| .cons N k r,c,b=>by simp only[Fo.app,Fo.flat,Fo.sz,r.flat_app,fh,fL];grind
theorem Fo.flat_len:∀(a:Fo)(b),M (a.flat b)=a.sz| .nil,_=>rfl| .cons N k r,b=>by simp[Fo.flat,Fo.sz,k.flat_len,r.flat_len];omega
def Fo.tops_len:∀(a:Fo)(b),M (a.tops b)=a.len| .nil,_=>rfl| .cons N k r,b=>by simp[Fo.tops,Fo.len,r.tops_len]
theorem dh(N k):(one N k).sz=k.sz+1:=rfl
theorem aco(N k b):(one N k).tops b=[((b+k.sz:Nat):Int)]:=rfl
def Cz(N k b):(one N k).flat b=k.flat b++[{N with ks:=k.tops b}]:=rfl
theorem Fo.len_le:∀(a:Fo),a.len<=a.sz| .nil=>fG _| .cons N k r=>by have:=r.len_le;grind [Fo.len,Fo.sz]
def z0:Bz:=zE0
def nd(k:Int)(s:Tk)(e a n:Int)(x:Bz)(nm:zLB):Nd:=⟨k,s.f,e,s.l,a,n,x,nm,[]⟩
def lF(k:Int)(s:Tk)(e:Int):Nd:=nd k s e 0 0 z0 []
def uF(k:Int)(s:Tk)(e:Int):Nd:=ite (k=10) (lF 28 s e)<|ite (k=26) (lF 29 s e)<|nd 31 s e (k-60) 0 z0 []
def acp(k:Int):Int:=ite (k=25) 21<|ite (k=50) 22<|ite (k=69) 20 19
def BA(k:Int):Int:=ite (k=26) 1<|ite (k=10) 2<|ite (73<=k) 3<|ite (k=72) 4<|ite (k=68) 5<|ite (k=69) 6<|ite (k=67) 7<|ite (k=70\/k=71) 8<|ite (k=61\/k=62) 9 10
def rpw(k:Int):Int:=ite (k=72) 4<|BA k+1
def ww(k:Int):Bool:=decide (k=48\/k=44\/k=40)
def lI(N:Nd)(ks:Fo)(s:Tk)(e:Int):Fo:=ite (N.k=34\/N.k=27) (one (lF 37 s e)<|one N ks)<|one N ks
inductive Kd (tk:Nat->Tk) (n:Nat):Nat->zLB->Nat->Prop where|stop {k:Nat}:(tk k).k≠46->k<n->Kd tk n k [] k|go {k j:Nat}{ns:zLB}:(tk k).k=46->k+1<n->(tk<|k+1).k=1->Kd tk n (k+2) ns j->Kd tk n k ((tk<|k+1).x::ns) j
inductive Prm (tk:Nat->Tk) (n:Nat):Nat->zLB->Bool->Nat->Prop where|close {k:Nat}:(tk k).k=41->k+1<n->Prm tk n k [] false (k+1)|rest {k:Nat}:(tk k).k=49->(tk<|k+1).k=41->k+2<n->Prm tk n k [] true (k+2)|last {k:Nat}:(tk k).k=1->(tk<|k+1).k=41->k+2<n->Prm tk n k [(tk k).x] false (k+2)|go {k j:Nat}{ns:zLB}{r:Bool}:(tk k).k=1->(tk<|k+1).k=46->k+2<n->Prm tk n (k+2) ns r j->Prm tk n k ((tk k).x::ns) r j
inductive Tsk where|unit:Tsk|expr:Int->Tsk|more:Int->Tk->Fo->Tsk|base:Tsk|post:Tk->Fo->Tsk|exprs:Tsk|moreE:Tsk|moreB:Tsk|stat:Tsk|stats:Tsk|block:Tsk|body:Tk->Tsk|entry:Tsk|entries:Tsk|branch:Tsk
inductive P (tk:Nat->Tk) (n:Nat):Tsk->Nat->Fo->Nat->Prop where|upre {i j:Nat}{x:Fo}:lm (tk i).k=true->i<n->P tk n .unit (i+1) x j->P tk n .unit i (one (nd 30 (tk i) (tk<|j-1).t (acp (tk i).k) 0 z0 []) x) j|uint {i:Nat}:(tk i).k=2->i+1<n->P tk n .unit i (one (nd 23 (tk i) (tk i).t 0 (tk i).n z0 []) .nil) (i+1)|uflt {i:Nat}:(tk i).k=3->i+1<n->P tk n .unit i (one (nd 24 (tk i) (tk i).t 0 0 (tk i).x []) .nil) (i+1)|ustr {i:Nat}:(tk i).k=4->i+1<n->P tk n .unit i (one (nd 25 (tk i) (tk i).t 0 0 (tk i).x []) .nil) (i+1)|unil {i:Nat}:(tk i).k=24->i+1<n->P tk n .unit i (one (lF 20 (tk i) (tk i).t) .nil) (i+1)|utru {i:Nat}:(tk i).k=29->i+1<n->P tk n .unit i (one (lF 21 (tk i) (tk i).t) .nil) (i+1)|ufls {i:Nat}:(tk i).k=17->i+1<n->P tk n .unit i (one (lF 22 (tk i) (tk i).t) .nil) (i+1)|urst {i:Nat}:(tk i).k=49->i+1<n->P tk n .unit i (one (lF 27 (tk i) (tk i).t) .nil) (i+1)|ufn {i j:Nat}{R1:Fo}:(tk i).k=18->i<n->P tk n (.body<|tk i) (i+1) R1 j->P tk n .unit i R1 j|utab {i j:Nat}{E:Fo}:(tk i).k=42->i<n->P tk n .entries (i+1) E j->(tk j).k=43->j+1<n->P tk n .unit i (one (lF 35 (tk i) (tk j).t) E) (j+1)|ubas {i j:Nat}{R1:Fo}:(tk i).k=1\/(tk i).k=40->i<n->P tk n .base i R1 j->P tk n .unit i R1 j|ex {p:Int}{i k j:Nat}{x R1:Fo}:(tk i).k≠6->i<n->P tk n .unit i x k->P tk n (.more p (tk i) x) k R1 j->P tk n (.expr p) i R1 j|mstop {p:Int}{s:Tk}{x:Fo}{k:Nat}:k<n->(gg (tk k).k=true->BA (tk k).k<p)->P tk n (.more p s x) k x k|mgo {p:Int}{s:Tk}{x y R1:Fo}{k k1 j:Nat}:k<n->gg (tk k).k=true->p<=BA (tk k).k->P tk n (.expr<|rpw (tk k).k) (k+1) y k1->P tk n (.more p s<|one (uF (tk k).k s (tk<|k1-1).t)<|x.app y) k1 R1 j->P tk n (.more p s x) k R1 j|bname {i j:Nat}{R1:Fo}:(tk i).k=1->i<n->P tk n (.post (tk i)<|one (nd 26 (tk i) (tk i).t 0 0 (tk i).x []) .nil) (i+1) R1 j->P tk n .base i R1 j|bopen {i k j:Nat}{N:Nd}{ks R1:Fo}:(tk i).k=40->i<n->P tk n (.expr 0) (i+1) (one N ks) k->(tk k).k=41->k<n->P tk n (.post (tk i)<|lI N ks (tk i) (tk k).t) (k+1) R1 j->P tk n .base i R1 j|pstop {s:Tk}{B:Fo}{k:Nat}:k<n->ww (tk k).k=false->P tk n (.post s B) k B k|pdot {s:Tk}{B R1:Fo}{k j:Nat}:(tk k).k=48->(tk<|k+1).k=1->k+1<n->P tk n (.post s<|one (nd 33 s (tk<|k+1).t 0 0 (tk<|k+1).x []) B) (k+2) R1 j->P tk n (.post s B) k R1 j|psq {s:Tk}{B Y R1:Fo}{k k1 j:Nat}:(tk k).k=44->k<n->P tk n (.expr 0) (k+1) Y k1->(tk k1).k=45->k1<n->P tk n (.post s<|one (lF 32 s (tk k1).t)<|B.app Y) (k1+1) R1 j->P tk n (.post s B) k R1 j|pcall0 {s:Tk}{B R1:Fo}{k j:Nat}:(tk k).k=40->(tk<|k+1).k=41->k+1<n->P tk n (.post s<|one (lF 34 s (tk<|k+1).t) B) (k+2) R1 j->P tk n (.post s B) k R1 j|pcall {s:Tk}{B Y R1:Fo}{k k1 j:Nat}:(tk k).k=40->k+1<n->(tk<|k+1).k≠41->P tk n .exprs (k+1) Y k1->(tk k1).k=41->k1<n->P tk n (.post s<|one (lF 34 s (tk k1).t)<|B.app Y) (k1+1) R1 j->P tk n (.post s B) k R1 j|es {i k j:Nat}{x R1:Fo}:P tk n (.expr 0) i x k->P tk n .moreE k R1 j->P tk n .exprs i (x.app R1) j|estop {k:Nat}:(tk k).k≠46->k<n->P tk n .moreE k .nil k|ego {k k1 j:Nat}{x R1:Fo}:(tk k).k=46->k<n->P tk n (.expr 0) (k+1) x k1->P tk n .moreE k1 R1 j->P tk n .moreE k (x.app R1) j|bstop {k:Nat}:(tk k).k≠46->k<n->P tk n .moreB k .nil k|bgo {k k1 j:Nat}{x R1:Fo}:(tk k).k=46->k<n->P tk n .base (k+1) x k1->P tk n .moreB k1 R1 j->P tk n .moreB k (x.app R1) j|body {i k j:Nat}{s:Tk}{nm:zLB}{r:Bool}{B:Fo}:(tk i).k=40->i<n->Prm tk n (i+1) nm r k->P tk n .block k B j->P tk n (.body s) i (one (nd 36 s (tk<|j-1).t (ite (r=true) 1 0) 0 z0 nm) B) j|block {i k:Nat}{S:Fo}:(tk i).k=42->i<n->P tk n .stats (i+1) S k->(tk k).k=43->k+1<n->P tk n .block i (one (lF 1 (tk i) (tk k).t) S) (k+1)|sstop {k:Nat}:(tk k).k=43\/(tk k).k=6->k<n->P tk n .stats k .nil k|ssep {k j:Nat}{R1:Fo}:(tk k).k=5->k<n->P tk n .stats (k+1) R1 j->P tk n .stats k R1 j|sgo {k k1 j:Nat}{x R1:Fo}:(tk k).k≠5->(tk k).k≠6->(tk k).k≠43->k<n->P tk n .stat k x k1->P tk n .stats k1 R1 j->P tk n .stats k (x.app R1) j|nstop {k:Nat}:(tk k).k=43->k<n->P tk n .entries k .nil k|ncom {k k1 j:Nat}{x R1:Fo}:(tk k).k≠43->k<n->P tk n .entry k x k1->(tk k1).k=46->k1<n->P tk n .entries (k1+1) R1 j->P tk n .entries k (x.app R1) j|nlast {k k1 j:Nat}{x R1:Fo}:(tk k).k≠43->k<n->P tk n .entry k x k1->(tk k1).k≠46->k1<n->P tk n .entries k1 R1 j->P tk n .entries k (x.app R1) j|item {i j:Nat}{x:Fo}:(tk i).k≠48->(tk i).k≠44->(tk i).k≠6->i<n->P tk n (.expr 0) i x j->P tk n .entry i (one (lF 40 (tk i) (tk<|j-1).t) x) j|pair {i k j:Nat}{x y:Fo}:(tk i).k=44->i<n->P tk n (.expr 0) (i+1) x k->(tk k).k=45->(tk<|k+1).k=47->k+1<n->P tk n (.expr 0) (k+2) y j->P tk n .entry i (one (lF 41 (tk i) (tk<|j-1).t)<|x.app y) j|named {i j:Nat}{y:Fo}:(tk i).k=48->(tk<|i+1).k=1->(tk<|i+2).k=47->i+2<n->P tk n (.expr 0) (i+3) y j->P tk n .entry i (one (nd 42 (tk i) (tk<|j-1).t 0 0 (tk<|i+1).x []) y) j|belif {i k k1 j:Nat}{x b z:Fo}:(tk i).k=20\/(tk i).k=15->i<n->P tk n (.expr 0) (i+1) x k->P tk n .block k b k1->(tk k1).k=15->k1<n->P tk n .branch k1 z j->P tk n .branch i (one (lF 7 (tk i) (tk<|j-1).t)<|(x.app b).app z) j|belse {i k k1 j:Nat}{x b z:Fo}:(tk i).k=20\/(tk i).k=15->i<n->P tk n (.expr 0) (i+1) x k->P tk n .block k b k1->(tk k1).k=16->k1<n->P tk n .block (k1+1) z j->P tk n .branch i (one (lF 7 (tk i) (tk<|j-1).t)<|(x.app b).app z) j|bno {i k k1:Nat}{x b:Fo}:(tk i).k=20\/(tk i).k=15->i<n->P tk n (.expr 0) (i+1) x k->P tk n .block k b k1->(tk k1).k≠15->(tk k1).k≠16->k1<n->P tk n .branch i (one (lF 7 (tk i) (tk<|k1-1).t)<|x.app b) k1|tlet0 {i k:Nat}{ns:zLB}:(tk i).k=22->i+1<n->(tk<|i+1).k=1->Kd tk n (i+2) ns k->(tk k).k≠47->P tk n .stat i (one (nd 2 (tk i) (tk<|k-1).t 0 0 z0 ((tk<|i+1).x::ns)) .nil) k|tlet {i k j:Nat}{ns:zLB}{E:Fo}:(tk i).k=22->i+1<n->(tk<|i+1).k=1->Kd tk n (i+2) ns k->(tk k).k=47->P tk n .exprs (k+1) E j->P tk n .stat i (one (nd 2 (tk i) (tk<|j-1).t 0 0 z0 ((tk<|i+1).x::ns)) E) j|tcon {i j:Nat}{x:Fo}:(tk i).k=13->(tk<|i+1).k=1->(tk<|i+2).k=47->i+2<n->P tk n (.expr 0) (i+3) x j->P tk n .stat i (one (nd 3 (tk i) (tk<|j-1).t 0 0 z0 [(tk<|i+1).x]) x) j|tfn {i j:Nat}{B:Fo}:(tk i).k=18->(tk<|i+1).k=1->(tk<|i+2).k=40->i+2<n->P tk n (.body<|tk<|i+2) (i+2) B j->P tk n .stat i (one (nd 4 (tk i) (tk<|j-1).t 0 0 z0 [(tk<|i+1).x]) B) j|tif {i j:Nat}{R1:Fo}:(tk i).k=20->i<n->P tk n .branch i R1 j->P tk n .stat i R1 j|twhile {i k j:Nat}{x b:Fo}:(tk i).k=31->i<n->P tk n (.expr 0) (i+1) x k->P tk n .block k b j->P tk n .stat i (one (lF 8 (tk i) (tk<|j-1).t)<|x.app b) j|tfor {i k k1 j:Nat}{ns:zLB}{E b:Fo}:(tk i).k=19->i+1<n->(tk<|i+1).k=1->Kd tk n (i+2) ns k->(tk k).k=47->P tk n .exprs (k+1) E k1->P tk n .block k1 b j->P tk n .stat i (one (nd 9 (tk i) (tk<|j-1).t 0 0 z0 ((tk<|i+1).x::ns))<|E.app b) j|teach {i k k1 j:Nat}{ns:zLB}{x b:Fo}:(tk i).k=19->i+1<n->(tk<|i+1).k=1->Kd tk n (i+2) ns k->(tk k).k=21->P tk n (.expr 0) (k+1) x k1->(tk k1).k=42->k1<n->P tk n .block k1 b j->P tk n .stat i (one (nd 10 (tk i) (tk<|j-1).t 0 0 z0 ((tk<|i+1).x::ns))<|x.app b) j|tbreak {i:Nat}:(tk i).k=11->i+1<n->P tk n .stat i (one (lF 11 (tk i) (tk i).t) .nil) (i+1)|tnext {i:Nat}:(tk i).k=23->i+1<n->P tk n .stat i (one (lF 12 (tk i) (tk i).t) .nil) (i+1)|tret0 {i:Nat}:(tk i).k=27->i+1<n->(tk<|i+1).k=5\/(tk<|i+1).k=6\/(tk<|i+1).k=43->P tk n .stat i (one (lF 13 (tk i) (tk i).t) .nil) (i+1)|tret {i j:Nat}{E:Fo}:(tk i).k=27->i+1<n->dv (tk<|i+1).k=true->P tk n .exprs (i+1) E j->P tk n .stat i (one (lF 13 (tk i) (tk<|j-1).t) E) j|ttry {i k k1 j:Nat}{ns:zLB}{a b:Fo}:(tk i).k=30->i<n->P tk n .block (i+1) a k->(tk k).k=12->k+1<n->(tk<|k+1).k=1->Kd tk n (k+2) ns k1->P tk n .block k1 b j->P tk n .stat i (one (nd 14 (tk i) (tk<|j-1).t 0 0 z0 ((tk<|k+1).x::ns))<|a.app b) j|tthrow {i j:Nat}{x:Fo}:(tk i).k=28->i<n->P tk n (.expr 0) (i+1) x j->P tk n .stat i (one (lF 15 (tk i) (tk<|j-1).t) x) j|tdefer {i j:Nat}{x:Fo}:(tk i).k=14->i<n->P tk n .base (i+1) x j->P tk n .stat i (one (lF 16 (tk i) (tk<|j-1).t) x) j|tblock {i j:Nat}{R1:Fo}:(tk i).k=42->i<n->P tk n .block i R1 j->P tk n .stat i R1 j|tdo {i j:Nat}{x:Fo}:(tk i).k=1\/(tk i).k=40->i<n->P tk n .base i x j->(tk j).k≠46->(tk j).k≠47->j<n->P tk n .stat i (one (lF 6 (tk i) (tk<|j-1).t) x) j|tset {i k k1 j:Nat}{x R1 E:Fo}:(tk i).k=1\/(tk i).k=40->i<n->P tk n .base i x k->P tk n .moreB k R1 k1->(tk k1).k=47->k1<n->P tk n .exprs (k1+1) E j->P tk n .stat i (one (nd 5 (tk i) (tk<|j-1).t 0 ((x.app R1).len:Nat) z0 [])<|(x.app R1).app E) j
def L6{α:Type}{L:List α}{k x}(h:L[k]?=V x):L.take (k+1)=L.take k++[x]:=by
 rw[gD,h];rfl
def wpU(P:B4)(d:Region.Mode)(c:Array Oper)(Q:Exit->Act->A0->Prop)(S e:A0->Prop)(C:Nat->Bool):Nat->Array Bool->Act->A0->Prop
 |0,b,a,w=>Region.ready d c b=[]/\Q .normal a w|fuel+1,b,a,w=>
  (Region.ready d c b=[]->Q .normal a w)/\
  ∀i∈Region.ready d c b,wpOp P c Q i (λf w'=>(e w'/\(C i=A1->S w'))/\wpU P d c Q S e C fuel (b.setIfInBounds i A1) f w') a w
def Hd{P}:∀(fuel)(c)(a)(w),wpU P md ops Q S S2 C fuel c a w->wpAnyH P md ops Q S2 fuel c a w|0,_,_,_,h=>h|fuel+1,_,_,_,h=>⟨h.1,λi e=>wpOp_mono (λd w' b=>⟨b.1.1,Hd fuel _ d w' b.2⟩)<|h.2 i e⟩
theorem uG{P}(t:ops[i]?=V oi)(ak:∀(j:Nat) (o) cs b,ops[j]?=V o->o.op≠ .select cs b)
  (y:∀c a w,Q (.panic c) (a.put oi.dst v) w->Q (.panic c) a w) (g:∀(j) d,ops[j]?=V d->C j=B5->∃e∈d.after,Region.binds md e=A1/\e.on=i):
  ∀(fuel)(f)(a)(w),
   (∀j d,ops[j]?=V d->j≠i->f.getD j A1=B5->(∀e∈d.after,Region.binds md e=A1->e.on≠i)->oi.apart ops d=A1)->
   i∈Region.ready md ops f->YieldsIf P ops S oi v a->S2 w->S w->
   wpU P md ops Q S S2 C fuel (f.setIfInBounds i A1) (a.put oi.dst v) w->wpAnyH P md ops Q S2 (fuel+1) f a w:=by
 intro fuel
 induction fuel with
 |zero=>
  intro f a w _ r n q hS k;refine⟨λu=>U,λj m=>?_⟩;by_cases g:j=i
  .subst g;exact n.wpOp t hS ⟨q,Hd _ _ _ _ k⟩
  .have:=ready_mono m g;rw[k.1]at this;cases this
 |succ fuel L=>
  intro f a w E r n q hS k;refine⟨λu=>U,λj m=>?_⟩;by_cases g:j=i
  .subst g;exact n.wpOp t hS ⟨q,Hd _ _ _ _ k⟩
  .have s:=k.2 j<|ready_mono m g;have⟨_,d,K,z⟩:=mem_ready.1 m;have af:∀e∈d.after,Region.binds md e=A1->e.on≠i:=λe B A _=>by
    have s:=z e B A;have h:=(mem_ready.1 r).1;grind
   have x:C j=A1:=by
    grind
   have F:∀h p,ops[h]?=V p->h≠i->(f.setIfInBounds j A1).getD h A1=B5->
     (∀e∈p.after,Region.binds md e=A1->e.on≠i)->oi.apart ops p=A1:=λh p l G _ H=>by
    refine E h _ l G ?_ H;by_cases ad:j=h;all_goals simp_all
   refine wpOp_mono (λ_ _ l=>⟨l.2.1.1,L _ _ _ F (ready_mono r O) l.1 l.2.1.1 (l.2.1.2 x) ?_⟩)<|wpOp_putIf K U U U y n s;rw[Array.setIfInBounds_comm _ _ g];exact l.2.2
theorem fi{P fuel e}(n:Region.ready md ops e=[i])(m:ops[i]?=V o)
  (h:∀c:Act->A0->Prop,Shut (∀a w,S2 w->(C i=A1->S w)->wpU P md ops Q S S2 C fuel (e.setIfInBounds i A1) a w->c a w)->ite (Region.wanted o (yielded ops a.tmps)=A1) (Oper.wp P o a w c Q) (c (a.put o.dst undef) w)):wpU P md ops Q S S2 C (fuel+1) e a w:=by
 refine⟨λq=>U,λf l=>?_⟩;rw[n]at l;obtain rfl:f=i:=U;have b:=h (λp r=>(S2 _/\(C f=A1->S _))/\wpU P _ _ Q S _ C _ _ _ _) (λa w g j k=>⟨⟨g,j⟩,k⟩);simp[wpOp,m];split
 .rename_i d;rw[ae d]at b;exact .inl b
 .rename_i d;rw[aa d]at b;exact b
def yd{P c}(b:Region.ready md ops c=[])(h:Q .normal a w):
  ∀fuel,wpU P md ops Q S S2 C fuel c a w
 |0=>⟨b,h⟩|_+1=>⟨λ_=>h,by rw[b];simp⟩
def alr(B:Nat)(W:A0)(Z1 X:A0->Prop):Exit->Act->A0->Prop| .normal,_,a=>E1 B W a/\Z1 a| .ret,_,a=>E1 B W a/\X a|_,_,_=>False
theorem zw{P g ps assign body}{gf:Nat}{lb:zAV}
  (z:a.eval g= .func (.func gf) #[] lb) (k:∀args w,(callFunc gf args).run P w= .ok (.enter gf args) w) (s:Nat->zAV) (q:∀x,(s x).size=ps.size) (h)
  (Z1:Nat->A0->Prop) (i:Nat->Act->A0->Prop) (X)
  (B:∀m W r o,Z1 m W->W.heap[w.heap.size+1]?=V (.loop r)->Z1 m (W.putObj (w.heap.size+1) o))
  (u:∀m c W r o,i m c W->W.heap[w.heap.size+1]?=V (.loop r)->i m c (W.putObj (w.heap.size+1) o)) (A:∀W r o,X W->W.heap[w.heap.size+1]?=V (.loop r)->X (W.putObj (w.heap.size+1) o))
  (y:∀d,D2 w.heap.size w d->d.heap.size=w.heap.size+2->Z1 h d)
  (H:∀(l m) W (K),m<h->Z1 (m+1) W->(∀c b,i m c b->E1 w.heap.size W b->K c b)->
   assign.wpIn (Fence.wide.inRound l) (n-1-1) P (Exit.then K (λ_ _ _=>False)) {tmps:=(ps.zip<|s m).foldl (λt (p,v)=>t.setIfInBounds p v) a.tmps,defers:=[]} W)
  (L:∀(l m) c W,m<h->i m c W->body.wpIn (Fence.wide.inRound l) (n-1-1) P (alr w.heap.size W (Z1 m) X) c W)
  (ap:∀(l)(f:Nat->A0->Prop)(j:A0->Prop),(∀m W,f m W->Z1 m W)->
   (∀m W,m<h->f (m+1) W->YieldAt C2 (n-1-1) P l (s m) W λe b=>(e=A5 (E2 A1)/\f m b)\/(e=A5 (E2 B5)/\j b))->
   ∀W,f h W->CallsIn C2 (n-1) P gf (#[.func (.yield l) #[] #[]]++lb) W λe b=>(∃v,e=A5 v)/\(f 0 b\/j b))
  (af:∀W,Z1 0 W->W.heap[w.heap.size]?=V (.deferred<|V [])->Q .normal {a with defers:={target:= .collected w.heap.size,args:=#[]}::a.defers} W)
  (ao:∀W,X W->W.heap[w.heap.size]?=V (.deferred<|V [])->Q .ret {a with defers:={target:= .collected w.heap.size,args:=#[]}::a.defers} W):
  (Go.Code.rangeFunc g ps assign body).wpIn C2 n P Q a w:=by
 apply wpIn_rangeFunc;intro fn ak;show ∃l a2 a4 a0 a5 a1 args a6,(Instr.enterLoop fn a.tmps ps assign body B2).run P w=_/\_;obtain⟨rc,q⟩:∃rc:LoopState->Option _->Loop,rc=λax av=>{state:=ax,pending:=av,fn,tmps:=a.tmps,params:=ps,assign,body,defers:=w.heap.size}:=⟨_,R⟩;have u:=run_enterLoop_outer (P:=P) (w:=w) fn a.tmps ps assign body;rw[show({state:= .ready,pending:=B2,fn,tmps:=a.tmps,params:=ps,assign,body,defers:=w.heap.size}:Loop)=rc .ready B2 by rw[q]]at u;have⟨d,h⟩:=aw<|(w.alloc<|.deferred<|V []).alloc<|.loop<|rc .ready B2;rw[h]at u;have al:d.heap[w.heap.size+1]?=V (.loop<|rc .ready B2):=by
  rw[<-h];have:=World.alloc_heap_new (w.alloc<|.deferred<|V [])<|.loop<|rc .ready B2;simp_all
 have ad:d.heap[w.heap.size]?=V (.deferred<|V []):=by
  rw[<-h];exact(alO I).trans<|World.alloc_heap_new w _
 refine⟨_,_,_,{target:= .fn (.func gf) lb,args:=#[.func (.yield<|w.heap.size+1) #[] #[]]},d,gf,
  #[.func (.yield<|w.heap.size+1) #[] #[]]++lb,d,u,?_,?_,?_,λf=>by simp[C2]at f,?_⟩
 .simp only[resolve,z];simp[go_sem]
 .intro _ _;trivial
 .simp[go_sem,k]
 .refine(ap _ (λm W=>Z1 m W/\W.heap[w.heap.size+1]?=V _/\W.heap[w.heap.size]?=V _)
   (λW=>X W/\W.heap[w.heap.size+1]?=V (.loop<|rc .done<|V .ret)/\W.heap[w.heap.size]?=V (.deferred<|V [])) U ?_ _ ⟨y _ (by rw[<-h];exact((ay _ w).alloc O _).alloc I _) (by rw[<-h];simp),al,ad⟩).mono ?_
  .rintro m W F ⟨A,f,i⟩;have G:=run_yield (P:=P) (args:=s m) f U;rw[q]at G;refine⟨_,_,_,body,G,roundIn_of_wpIn ak<|H _ m W _ F A λc b _ C=>?_⟩;have am:=C.same _ _ O f R;have an:w.heap.size+1<b.heap.size:=U;refine⟨_,run_beginRound am (by rw[q]),?_⟩;have E:(b.putObj (w.heap.size+1)<|.loop {rc .ready B2 with state:= .busy}).heap[w.heap.size+1]?=V (.loop {rc .ready B2 with state:= .busy}):=World.putObj_heap_same an;have B:(b.putObj (w.heap.size+1)<|.loop {rc .ready B2 with state:= .busy}).heap[w.heap.size]?=V (.deferred<|V []):=(A9 O).trans<|C.same _ _ O i R;apply wpIn_mono<|L _ m _ _ F U;rintro e _ _ z;cases e with
   |normal=>
    obtain⟨j,ar⟩:=z;have k:=j.same _ _ O E R;have y:=(mE.1 k).1;refine⟨_,_,run_endRound _ k,.inl ⟨R,U,?_,(A9 O).trans<|j.same _ _ O B R⟩⟩;rw[World.putObj_heap_same y];grind
   |ret=>
    obtain⟨j,ar⟩:=z;have k:=j.same _ _ O E R;have y:=(mE.1 k).1;refine⟨_,_,run_endRound _ k,.inr ⟨R,U,?_,(A9 O).trans<|j.same _ _ O B R⟩⟩;rw[World.putObj_heap_same y];grind
   |_=>exact z.elim
  .rintro e _ ⟨⟨v,rfl⟩,⟨A,f,i⟩|⟨_,f,i⟩⟩
   .refine⟨B2,_,by have:=run_endLoop (P:=P) f U;rw[q]at this;omega,?_⟩;exact af _ U<|(A9 O).trans i
   .refine⟨V _,_,by have:=run_endLoop (P:=P) f U;rw[q]at this;omega,?_⟩;exact wpIn_ret<|ao _ U<|(A9 O).trans i
def aeB{P}(r)(h:o.upon P a K Q r):o.uponIn (Fence.wide.inRound l) n P a K Q r:=by
 have d:(Fence.wide.inRound l).depth.isSome=A1->1<=n:=λh=>by simp[C2]at h
 cases r with
 |ok c g=>
  cases c with
  |value b=>exact h|skip=>exact h|defer i=>exact h|enter j args=>exact⟨d,CallsIn.inRound l<|mC.2 h⟩|row row args=>exact⟨d,λe _ _=>let ⟨b,k,r,f⟩:=h e _;⟨b,_,r,stepsIn_wide.2 f⟩⟩|_=>exact h.elim
 |halt c g=>
  cases c with
  |panic b=>exact h|_=>exact h.elim
def acr(o:Oper):Bool:=match o.op with| .defer _=>B5|_=>A1
theorem als(h:acr o=A1):∀c,o.op≠ .defer c:=by
 intro c _;unfold acr at h;grind
theorem aeC{P}(d:∀(j:Nat) (o),ops[j]?=V o->acr o=A1)(e:¬LetsOut Q)(h:wpOp P ops Q i K a w):wpOpIn (Fence.wide.inRound l) n P ops Q i K a w:=by
 unfold wpOp at h;unfold wpOpIn;cases ho:ops[i]? with
 |none=>simpa [ho] using h|some o=>
  simp only[ho]at h⊢;split
  .rename_i b;simp[b]at h;obtain h|h:=h
   .refine⟨λc _=>trivial,?_⟩;show o.uponIn _ _ _ _ _ _ ((o.semAt (V l) a.eval).run P w);rw[oJ l _ o<|als<|d i o ho];exact aeB _ h
   .exact absurd h.2 e
  .rename_i b;simp only[b]at h;exact⟨λc _=>trivial,U⟩
def Ao{P}(b:∀(j:Nat) (o),ops[j]?=V o->acr o=A1)(c:¬LetsOut Q):
  ∀(fuel)(d)(a)(w),wpAny P md ops Q fuel d a w->wpAnyIn (Fence.wide.inRound l) n P md ops Q fuel d a w
 |0,_,_,_,h=>h|fuel+1,_,_,_,h=>⟨h.1,λi f=>aeC b c<|wpOp_mono (λd w' e=>Ao b c fuel _ d w' e)<|h.2 i f⟩
theorem wy{P id}(b:P.follows .mixedOrders=A1)(d:ops.all acr=A1)(c:¬LetsOut Q)(hS:S w.drew)
  (h:S w.drew->wpAnyH P .any ops Q S ops.size (Array.replicate ops.size B5) a w.drew):(Go.Code.region id ops A1).wpIn (Fence.wide.inRound l) n P Q a w:=
 wpIn_region_any b (Ao (λ_ _ _=>by
  grind) c _ _ _ _<|wpAny_of_held _ _ _ _<|h hS)
theorem L7{P}(i d v){fuel b}(g:ops[i]?=V oi)(e:oi.dst=V d)
  (k:Region.noSelect ops=A1) (f:Region.free md ops b i=A1) (j:(Region.ready md ops b).contains i=A1)
  (n:∀c a w,Q (.panic c) (a.put (V d) v) w->Q (.panic c) a w) (l:Region.wanted oi (yielded ops a.tmps)=A1) (hS:S w) (m:∀w,S w->(execOp a.eval oi).run P w= .ok (.value v) w)
  (h:wpAnyH P md ops Q S fuel (b.setIfInBounds i A1) (a.put (V d) v) w):wpAnyH P md ops Q S (fuel+1) b a w:=
 wpAnyH_take g k f j U (Or.inl ⟨l,m⟩) hS (by rw[e];exact h)
def awH(b:Region.Mode)(a:Array Oper)(m:List Bool)(i:Nat)(l:zLV):Bool:=Region.noSelect a&&Region.free b a m.toArray i&&(Region.ready b a m.toArray).contains i&&(match a[i]? with|some o=>Region.wanted o (yielded a l.toArray)|none=>B5)
def aI{P}(i v){d fuel m l e}(f:ops[i]?=V oi)(j:oi.dst=V d)
  (hS:S w) (k:∀w,S w->(execOp (Act.mk l.toArray e).eval oi).run P w= .ok (.value v) w)
  (h:wpAnyH P md ops Q S fuel (m.set i A1).toArray ⟨(l.set d v).toArray,e⟩ w) (b:awH md ops m i l=A1:=by kernel_rfl) (g:∀c a w,Q (.panic c) (a.put (V d) v) w->Q (.panic c) a w:=by exact λ_ _ _=>id):wpAnyH P md ops Q S (fuel+1) m.toArray ⟨l.toArray,e⟩ w:=by
 rw[awH,f]at b;simp only[dF]at b;apply L7 i d v f j b.1.1.1 b.1.1.2 b.1.2 g b.2 hS k;simp[Act.put];exact h
def awI(b:Region.Mode)(a:Array Oper)(m:List Bool)(i:Nat)(l:zLV):Bool:=Region.noSelect a&&Region.free b a m.toArray i&&(Region.ready b a m.toArray).contains i&&!(match a[i]? with|some o=>Region.wanted o (yielded a l.toArray)|none=>A1)
theorem qz{P}(i){d fuel m l e}(f:ops[i]?=V oi)(g:oi.dst=V d)(hS:S w)
  (h:wpAnyH P md ops Q S fuel (m.set i A1).toArray ⟨(l.set d undef).toArray,e⟩ w) (b:awI md ops m i l=A1:=by kernel_rfl) (j:∀c a w,Q (.panic c) (a.put (V d) undef) w->Q (.panic c) a w:=by exact λ_ _ _=>id):wpAnyH P md ops Q S (fuel+1) m.toArray ⟨l.toArray,e⟩ w:=by
 rw[awI,f]at b;simp only[dF,Bool.not_eq_true']at b;apply wpAnyH_take f b.1.1.1 b.1.1.2 b.1.2 U (Or.inr ⟨b.2,R⟩) hS;rw[g];simp[Act.put];exact h
open Go.Maps Go.WideMaps
theorem gG{c e size:Nat}(o:W.ownsRow c e size v n xs){cs:zAV}{t fr}(f:W.heap[g]?=V (B3 cs t fr))(h:t≠e):v.ownBlock≠V g:=λa=>by
 obtain⟨b,_⟩|⟨d,_,_,b,_,_,_⟩:=o.2
 .rw[b]at a;simp[A2]at a
 .rw[b]at a;obtain rfl:d=g:=by simpa [A2] using a
  grind
theorem wE{a e size:Nat}(o:W.ownsRow a e size v n xs)(c:v.ownBlock≠V g)(q u):(W.setCell (aj g q) u).ownsRow a e size v n xs:=
 o.kept (row:=V g) ⟨R,R,R,byS,λ_ _ b=>jg (λe=>b (by rw[e]))⟩ (by
  grind)
def CA:(Ax.info? 37).map (λi=>(i.zero,i.size,i.bytes))=V (V<|D1 #[zI 0,zI 0,zI 0,zI 0,zI 0,zI 0,nh,fe,fe],9,112):=J
abbrev zK(N:Nd)(b a:A3):zAV:=(Jn N b a)
theorem lu{f:A0}{b c e size:Nat}(o:w.ownsRow b e size v n xs)(h:∀g,v.ownBlock=V g->b<=g->g<w.heap.size->f.heap[g]?=w.heap[g]?/\c<=g):f.ownsRow c e size v n xs:=by
 obtain⟨i,a⟩:=o;refine⟨i,?_⟩;obtain a|⟨g,_,_,rfl,k,j,l⟩:=a
 .grind
 .have d:=h g R k U;exact .inr ⟨g,_,_,R,d.2,d.1.trans j,l⟩
structure Lw (w:A0) (lo:Nat) (lv:A3) (L:zLM):Prop where
 row:w.ownsRow lo 37 9 lv (M L) (mG L)
 each:∀x∈L,w.ownsRow lo 9 1 x.vn (M x.N.nm) (x.N.nm.map B1)/\w.ownsRow lo 3 1 x.vk (M x.N.ks) (x.N.ks.map zI)
def Lw.mono{g e L}(h:Lw w e v L)(d:∀k,e<=k->k<w.heap.size->g.heap[k]?=w.heap[k]?):Lw g e v L:=
 ⟨lu h.row λb _ a c=>⟨d b a c,a⟩,λi f=>⟨lu (h.each i f).1 λb _ a c=>⟨d b a c,a⟩,lu (h.each i f).2 λb _ a c=>⟨d b a c,a⟩⟩⟩
theorem Lw.nds{p L}(h:Lw w p v L):dE w v (L.map Mb.N):=by
 obtain⟨_,rfl⟩|⟨a,o,rfl⟩:=aC h.row
 .exact .inl U
 .refine .inr ⟨⟨a,0,B2⟩,o,U,λc N b=>?_⟩;rw[cJ]at b;cases hx:L[c]? with
  |none=>grind|some q=>
   rw[hx]at b;obtain rfl:=de b;rw[show(⟨a,0,B2⟩:Addr).add (c*9)=⟨a,c*9,B2⟩ by unfold Addr.add;grind];have⟨e,f,g,i,j,k,l,m,n⟩:=qa h.row hx;have d:=h.each q U;exact⟨_,_,e,f,g,i,j,k,l,m,n,DC d.1,uD d.2⟩
structure TkC (cs:zAV) (T:Tk) (q:Nat) (l:Int):Prop where
 c0:cs[q*6]?=V (zI T.k)
 c1:cs[q*6+1]?=V (zI T.f)
 c2:cs[q*6+2]?=V (zI T.t)
 c3:cs[q*6+3]?=V (zI l)
 c4:cs[q*6+4]?=V (zI T.n)
 c5:cs[q*6+5]?=V (.string T.x)
 hl:T.k≠6->l=T.l
def TkR(cs:zAV)(tk:Nat->Tk)(n:Nat):Prop:=∀q,q<n->∃l,TkC cs (tk q) q l
structure Pe where
 base:Nat
 pb:Nat
 tb:Nat
 cap:Nat
 n:Nat
 tk:Nat->Tk
abbrev pV(E:Pe):A3:=be E.pb 0
abbrev s0:A3:=fe
abbrev rE(k:Int)(a:Tk):zAV:=#[zI k,zI a.f,zI a.t,zI a.l,zI a.n,B6 a.x]
abbrev Bxs:=List<|Nat×B7×zAV
abbrev Rws:=List<|B7×A3×zLV
abbrev TOw(t:B7):Prop:=t=9\/t=3
abbrev iv:Int->A3:=zI
def Ac(s:Nat)(L b:zLM)(R1:Fo):Prop:=∃a,b=L++a/\a.map Mb.N=R1.flat (M L)/\∀x∈a,∀g,x.vn.ownBlock=V g\/x.vk.ownBlock=V g->s<=g
def Ac.nil(s L):Ac s L L .nil:=⟨[],(fp L).symm,R,λ_ a=>by cases a⟩
theorem Ac.len{L b R1}(h:Ac s L b R1):M b=M L+R1.sz:=by
 obtain⟨_,rfl,a,_⟩:=h;have a:=congrArg M a;rw[dm,Fo.flat_len]at a;grind
theorem Ac.app{t L a b x c}(h:Ac s L a x)(k:Ac t a b c)(j:s<=t):Ac s L b (x.app c):=by
 have i:=h.len;obtain⟨d,rfl,f,_⟩:=h;obtain⟨e,rfl,g,_⟩:=k;refine⟨d++e,U,by rw[ej,f,g,Fo.flat_app,i],λ_ _ _ _=>?_⟩;grind
theorem Ac.add{L c R1}(h:Ac s L c R1)(N){b a}(f:N.ks=R1.tops (M L))(fn:∀g,b.ownBlock=V g\/a.ownBlock=V g->s<=g):Ac s L (c++[⟨N,b,a⟩]) (one {N with ks:=[]} R1):=by
 obtain⟨d,rfl,e,_⟩:=h;refine⟨d++[⟨N,b,a⟩],U,by rw[ej,e,Cz,<-f];rfl,λ_ _ g _=>?_⟩;grind
def Ap(a b:B7×A3×zLV):Prop:=∀g,a.2.1.ownBlock=V g->b.2.1.ownBlock≠V g
def Ng(E:Pe)(w:A0)(g:Nat):Prop:=∃v,w.cell? (aj E.pb 2)=V v/\v.ownBlock=V g
abbrev pC(E:Pe)(i:Int)(v:A3):Obj:=B3 #[bI E.tb E.n E.cap,zI i,v] 103 (0,0)
theorem nbI{E i}(h:w.heap[E.pb]?=V (pC E i v)):Ng E w g↔v.ownBlock=V g:=by
 have a:w.cell? (aj E.pb 2)=V v:=crV h;exact⟨λ⟨_,_,_⟩=>U,λh=>⟨v,a,h⟩⟩
structure Sq (E:Pe) (W:A0) (G:zON) (L:zLM) (w:A0) (i:Nat) (L1:zLM) (D:Fo) (zs:zLI) (B:Bxs) (R1:Rws):Prop where
 lo:E.base<=E.pb/\E.pb<W.heap.size/\E.tb<W.heap.size/\E.n<=1048576
 tks:∃cs fr,w.heap[E.tb]?=V (.cells cs 58 fr)/\TkR cs E.tk E.n
 row:∃v,w.heap[E.pb]?=V (pC E i v)/\w.ownsRow E.base 37 9 v (M L1) (mG L1)
 nb:(∀g,Ng E w g->G=V g\/W.heap.size<=g)/\∀p∈B,¬Ng E w p.1
 each:∀x∈L1,w.ownsRow E.base 9 1 x.vn (M x.N.nm) (x.N.nm.map B1)/\w.ownsRow E.base 3 1 x.vk (M x.N.ks) (x.N.ks.map iv)
 ac:Ac W.heap.size L L1 D
 tp:D.tops (M L)=zs
 bl:D2 E.base W w
 fz:∀k,k<W.heap.size->k≠E.pb->G≠V k->w.heap[k]?=W.heap[k]?
 bx:∀p∈B,W.heap.size<=p.1/\¬TOw p.2.1/\w.heap[p.1]?=V (.cells p.2.2 p.2.1 (0,0))
 bd:(B.map Prod.fst).Nodup
 rw:∀r∈R1,TOw r.1/\w.ownsRow W.heap.size r.1 1 r.2.1 (M r.2.2) r.2.2/\∀x∈L1,∀g,r.2.1.ownBlock=V g->x.vn.ownBlock≠V g/\x.vk.ownBlock≠V g
 rs:R1.Pairwise Ap
section
variable {E : Pe} {W w w' : World} {G o : zON} {L L1 L2 : zLM} {i j b : Nat} {D X : Fo} {zs ys : zLI} {B : Bxs} {R1 R2 : Rws} {t : TypeId} {cs : zAV} {v : Value} {xs : zLV}
theorem TOw.ne{t u}(h:TOw t)(a:u=37\/u=103\/u=58):u≠t:=by
 grind
theorem Sq.to(S:Sq E W G L w i L1 D zs B R1)(ad:D2 E.base w w')(g:∀k,k<w.heap.size->k≠E.pb->V k≠o->w'.heap[k]?=w.heap[k]?)(al:∀v,w.heap[E.pb]?=V (pC E i v)->w'.heap[E.pb]?=V (pC E j v))
  (d:∀k,o=V k->W.heap.size<=k/\¬Ng E w k/\(∀x∈L1,x.vn.ownBlock≠V k/\x.vk.ownBlock≠V k)/\(∀p∈B,p.1≠k)/\∀r∈R1,r.2.1.ownBlock≠V k):Sq E W G L w' j L1 D zs B R1:=by
 have⟨F,H,am,an⟩:=S.tks;have⟨v,m,p2⟩:=S.row;have t:=S.lo;have ao:=S.bl.size;have A:=al v m;have l:∀{u b size y:Nat}{n:A3}{C:zLV},w.ownsRow u b size n y C->b≠103->(∀k,o=V k->n.ownBlock≠V k)->w'.ownsRow u b size n y C:=λq af ak=>lu q λc s e f=>⟨g c f (λb=>gG q m (dG af)<|b ▸ s) λb=>ak c b.symm s,e⟩;have z:∀k,k<W.heap.size->V k≠o:=U;have b:∀c,Ng E w' c↔Ng E w c:=λc=>(nbI A).trans (nbI m).symm;exact⟨t,⟨F,H,(g _ O (λb=>U)<|z _ t.2.2.1).trans am,an⟩,⟨v,A,l p2 Z λk a=>λb=>(d k a).2.1<|(nbI m).2 b⟩,⟨λc a=>S.nb.1 c<|(b c).1 a,λp a=>λk=>S.nb.2 p a<|(b _).1 k⟩,λx h=>⟨l (S.each x h).1 Z λk a=>((d k a).2.2.1 x h).1,l (S.each x h).2 Z λk a=>((d k a).2.2.1 x h).2⟩,S.ac,S.tp,S.bl.trans ad,λk e f K=>(g k O f<|z k e).trans<|S.fz k e f K,λp a=>⟨(S.bx p a).1,(S.bx p a).2.1,(g _ (ai (S.bx p a).2.2) (by have:=(S.bx p a).1;omega) λb=>(d _ b.symm).2.2.2.1 p a R).trans (S.bx p a).2.2⟩,S.bd,λr a=>⟨(S.rw r a).1,l (S.rw r a).2.1 ((S.rw r a).1.ne<|.inr<|.inl R).symm λk b=>(d k b).2.2.2.2 r a,(S.rw r a).2.2⟩,S.rs⟩
def Sq.low(S:Sq E W G L w i L1 D zs B R1):E.base<=W.heap.size/\W.heap.size<=w.heap.size:=by have:=S.lo;have:=S.bl.size;omega
def Sq.below(S:B0 (Sq E W G L w i L1 D zs B R1))(b:D2 w.heap.size w w'):B0 (Sq E W G L w' i L1 D zs B R1):=
 S.to (o:=B2) (b.mono (by have:=S.low;omega)) (λc a _ _=>b.block c a) (λ_ a=>(b.block _<|ai a).trans a) λc a=>by cases a
def Sq.sub(S:Sq E W G L w i L1 D zs B R1){a}(c:∀p∈a,p∈B)(d:(a.map Prod.fst).Nodup):Sq E W G L w i L1 D zs a R1:=
 {S with nb:=⟨S.nb.1,λp b=>S.nb.2 p<|c p b⟩,bx:=λp b=>S.bx p<|c p b,bd:=d}
def Sq.less(S:B0 (Sq E W G L w i L1 D zs B R1)){a}(h:a.Sublist R1):B0 (Sq E W G L w i L1 D zs B a):={S.out with rw:=λc b=>S.rw c<|h.subset b,rs:=S.rs.sublist h}
theorem Sq.wth(S:Sq E W G L w i L1 D zs B R1)(c:w.heap[b]?=V (B3 cs t (0,0)))(a:W.heap.size<=b)(e:¬TOw t)(d:¬Ng E w b)(f:∀p∈B,p.1≠b):Sq E W G L w i L1 D zs ((b,t,cs)::B) R1:=
 {S with
  nb:=⟨S.nb.1,λp h=>by obtain rfl|h:=dI.1 h;exact d;exact S.nb.2 p h⟩
  bx:=λp h=>by obtain rfl|h:=dI.1 h;exact⟨a,e,c⟩;exact S.bx p h
  bd:=by rw[eA,List.nodup_cons];exact⟨λh=>U,S.bd⟩}
theorem Sq.nlt(S:Sq E W G L w i L1 D zs B R1)(h:Ng E w g):g<w.heap.size/\∃cs fr,w.heap[g]?=V (B3 cs 37 fr):=by
 have⟨_,d,p2⟩:=S.row;have a:=(nbI d).1 h;refine⟨(p2.lt g a).2,?_⟩;obtain⟨b,_⟩|⟨c,_,_,b,_,_,_⟩:=p2.2
 .rw[b]at a;simp[A2]at a
 .rw[b]at a;obtain rfl:c=g:=by simpa [A2] using a
  grind
theorem Sq.box(S:B0 (Sq E W G L w i L1 D zs B R1))(b:¬TOw t:=by decide):B0 (Sq E W G L (w.alloc<|B3 cs t) i L1 D zs ((w.heap.size,t,cs)::B) R1):=by
 have⟨_,d,p2⟩:=S.row;exact(Sq.below S<|dj w _).wth (au w _) S.low.2 b (λa=>by have:=(p2.lt _<|(nbI<|((dj w _).block _ U).trans d).1 a).2;omega) λc a=>by have:=ai (S.bx c a).2.2;omega
theorem Sq.set{q}(S:B0 (Sq E W G L w i L1 D zs ((b,t,cs)::B) R1)):B0 (Sq E W G L (w.setCell (aj b q) u) i L1 D zs ((b,t,cs.setIfInBounds q u)::B) R1):=by
 obtain⟨f,g,h⟩:=S.bx _<|.head _;have⟨_,p⟩:=List.nodup_cons.1 S.bd;have F:=S.lo;have C:=S.low;have l:∀c,c≠b->(w.setCell (aj b q) u).heap[c]?=w.heap[c]?:=λc a=>jg a;have j:∀x∈B,x.1≠b:=U;have e:∀{s d z v:Nat}{u:A3}{A:zLV},w.ownsRow s d z u v A->TOw d->u.ownBlock≠V b:=λo r=>gG o h λd=>g<|d ▸ r;have y:Sq E W G L (w.setCell (aj b q) u) i L1 D zs B R1:=(S.sub U p).to ((ay _ w).setCell U _) (λc _ _ a=>l c λd=>a (by rw[d])) U λc a=>by
  cases a;exact⟨f,S.nb.2 _<|.head _,λn k=>⟨e (S.each n k).1<|.inl R,e (S.each n k).2<|.inr R⟩,j,λm a=>e (S.rw m a).2.1 (S.rw m a).1⟩
 have⟨_,k,p2⟩:=S.row;exact y.wth (aD _ b q _ _ _ h) f g (λa=>S.nb.2 _ (.head _)<|(nbI k).2<|(nbI<|(l _ O).trans k).1 a) j
def Sq.hd(S:B0 (Sq E W G L w i L1 D zs ((b,t,cs)::B) R1)):w.heap[b]?=V (B3 cs t (0,0)):=(S.bx _<|.head _).2.2
def Sq.tail(S:B0 (Sq E W G L w i L1 D zs (p::B) R1)):B0 (Sq E W G L w i L1 D zs B R1):=S.sub (λp a=> .tail _ a) (List.nodup_cons.1 S.bd).2
theorem Sq.drop1(S:B0 (Sq E W G L w i L1 D zs (p::r::B) R1)):B0 (Sq E W G L w i L1 D zs (p::B) R1):=S.sub (λ_ _=>U) (by have:=S.bd;grind)
theorem Sq.swapB(S:B0 (Sq E W G L w i L1 D zs (p::r::B) R1)):B0 (Sq E W G L w i L1 D zs (r::p::B) R1):=S.sub (λ_ a=>U) (by
 have a:=S.bd;grind)
def Sq.rowA(S:Sq E W G L w i L1 D zs B R1)(b:TOw t)(o:w.ownsRow W.heap.size t 1 v (M xs) xs)(h:∀x∈L1,∀g,v.ownBlock=V g->x.vn.ownBlock≠V g/\x.vk.ownBlock≠V g)(a:∀r∈R1,Ap (t,v,xs) r):Sq E W G L w i L1 D zs B ((t,v,xs)::R1):=
 {S with rw:=λr k=>by obtain rfl|k:=dI.1 k;exact⟨b,o,h⟩;exact S.rw r k,rs:=List.pairwise_cons.2 ⟨a,S.rs⟩}
def Sq.nil(S:B0 (Sq E W G L w i L1 D zs B R1))(c:TOw t:=by decide):B0 (Sq E W G L w i L1 D zs B ((t,s0,[])::R1)):=S.rowA c onN (λ_ _ b a=>by simp[A2]at a) λ_ _ b a=>by simp[A2]at a
def Sq.elt(S:Sq E W G L w i L1 D zs B R1){x}(b:x∈L1)(h:w.heap.size<=g):x.vn.ownBlock≠V g/\x.vk.ownBlock≠V g:=
 ⟨λa=>by have:=((S.each x b).1.lt g a).2;omega,λa=>by have:=((S.each x b).2.lt g a).2;omega⟩
theorem Sq.lit(S:B0 (Sq E W G L w i L1 D zs B R1))(g:TOw t:=by decide)(d:Nat.ble (M xs) 100=A1:=by rfl):B0 (Sq E W G L (w.alloc<|B3 xs.toArray t) i L1 D zs B ((t,bI w.heap.size (M xs)<|M xs,xs)::R1)):=by
 have k:=zg (e:=t) (size:=1) w xs.toArray (M xs) S.low.2 (by have:=Nat.le_of_ble_eq_true d;unfold maxLen;omega) I;have e:∀{a},(bI w.heap.size (M xs)<|M xs).ownBlock=V a->w.heap.size=a:=λb=>by simpa [A2] using b
 exact(Sq.below S<|dj w _).rowA g O (λ_ h a c=>S.elt h U) λj f a c b=>by have:=e c;have:=((S.rw j f).2.1.lt a b).2;omega
def Sq.lit1{a:A0}{o}(S:B0 (Sq E W G L (a.alloc o) i L1 D zs B R1))(c:TOw t:=by decide)(b:Nat.ble (M xs) 100=A1:=by rfl):B0 (Sq E W G L ((a.alloc o).alloc<|B3 xs.toArray t) i L1 D zs B ((t,bI (a.heap.size+1) (M xs)<|M xs,xs)::R1)):=dC a o ▸ Sq.lit S c b
theorem Sq.lit2{b:A0}{a}(S:B0 (Sq E W G L (b.setCell a u) i L1 D zs B R1))(d:TOw t:=by decide)(c:Nat.ble (M xs) 100=A1:=by rfl):B0 (Sq E W G L ((b.setCell a u).alloc<|B3 xs.toArray t) i L1 D zs B ((t,Br (V ⟨b.heap.size,0,B2⟩) (M xs)<|M xs,xs)::R1)):=((byS:(b.setCell a u).heap.size=b.heap.size)) ▸ Sq.lit S d c
def Sq.litm{m}(S:B0 (Sq E W G L w i L1 D zs B R1))(a:w.heap.size=m)(c:TOw t:=by decide)(b:Nat.ble (M xs) 100=A1:=by rfl):B0 (Sq E W G L (w.alloc<|B3 xs.toArray t) i L1 D zs B ((t,bI m (M xs)<|M xs,xs)::R1)):=a ▸ Sq.lit S c b
theorem Sq.put{f}{k:zLV}(S:Sq E W G L w i L1 D zs B ((t,v,xs)::R1))(g:w.grownBy w' v.ownBlock)(x:w'.ownsRow W.heap.size t 1 f (M k) k)(m:f.ownBlock=v.ownBlock\/f.ownBlock=V w.heap.size):Sq E W G L w' i L1 D zs B ((t,f,k)::R1):=by
 obtain⟨p,j,z⟩:=S.rw _<|.head _;have F:=S.lo;have C:=S.low;have A:=λb a=>(j.lt b a).1;have q:=(List.pairwise_cons.1 S.rs).1;refine((Sq.less S U).to ((ay _ w).grown g O λb a=>U) (λb a _ s=>g.block b a s) (λ_ a=>(g.block _ O λe=>U).trans a) λb a=>⟨A b a,λu=>?_,λr h=>z r h b a,λo n e=>?_,λd c=>q d c b a⟩).rowA p x (λr h l a=>?_) λd c l a=>?_
 .obtain⟨_,_,_,y⟩:=S.nlt u;exact gG j y U a
 .exact gG j (S.bx o n).2.2 (λe=>(S.bx o n).2.1<|e ▸ p) (e ▸ a)
 .rcases m with e|e
  .grind
  .rw[e]at a;cases a;exact S.elt h O
 .rcases m with e|e
  .exact q d c l (e ▸ a)
  .rw[e]at a;cases a;exact λe=>by have:=((S.rw d<|.tail _ c).2.1.lt _ e).2;omega
theorem Sq.swap{r b}(S:B0 (Sq E W G L w i L1 D zs B (r::b::R1))):B0 (Sq E W G L w i L1 D zs B (b::r::R1)):=
 {S.out with
  rw:=λf a=>S.rw f U
  rs:=by
   have a:=S.rs;simp only[List.pairwise_cons,dI,forall_eq_or_imp]at a⊢;exact⟨⟨λe c d=>a.1.1 e d c,a.2.1⟩,a.1.2,a.2.2⟩}
def Sq.here(S:Sq E W G L w i L1 D zs B R1):∃c,(∀g,c=V g->Ng E w g)/\Sq E w c L1 w i L1 .nil [] [] []:=by
 have⟨e,b,p2⟩:=S.row;have h:=S.lo;have f:=S.low;exact⟨_,λg a=>(nbI b).2 a,O,S.tks,⟨e,b,p2⟩,⟨λg a=> .inl ((nbI b).1 a),λd a=>(by cases a)⟩,S.each,Ac.nil _ _,R,blR,λ_ _ _ _=>rfl,λd a=>(by cases a),zo,λd a=>(by cases a),.nil⟩
theorem Sq.join{n:zON}(S:Sq E W G L w i L1 D zs B R1)(l:∀g,n=V g->Ng E w g)(s:Sq E w n L1 w' j L2 X ys [] R2):Sq E W G L w' j L2 (D.app X) (zs++ys) B (R2++R1):=by
 have x:=S.lo;have p:=S.low;have C:=s.bl.size;have y:∀a,W.heap.size<=a->a<w.heap.size->¬Ng E w a->w'.heap[a]?=w.heap[a]?:=λa h f m=>s.fz a f O λe=>m<|l a e;have F:∀d∈R1,∀g,d.2.1.ownBlock=V g->¬Ng E w g:=λd hr g k z=>by
  have⟨_,_,_,b⟩:=S.nlt z;exact gG (S.rw d hr).2.1 b ((S.rw d hr).1.ne<|.inl R) k
 refine⟨x,s.tks,s.row,⟨λg k=>?_,λc b k=>?_⟩,s.each,S.ac.app s.ac p.2,by rw[Fo.tops_app,S.tp,<-S.ac.len,s.tp],S.bl.trans s.bl,λa h f m=>(s.fz a O f λe=>?_).trans<|S.fz a h f m,λc b=>⟨(S.bx c b).1,(S.bx c b).2.1,(y _ (S.bx c b).1 (ai (S.bx c b).2.2)<|S.nb.2 c b).trans (S.bx c b).2.2⟩,S.bd,λd hr=>?_,List.pairwise_append.2 ⟨s.rs,S.rs,λr u t v g h f=>by have:=((s.rw r u).2.1.lt g h).1;have:=((S.rw t v).2.1.lt g f).2;omega⟩⟩
 .rcases s.nb.1 g k with e|e
  .exact S.nb.1 g (l g e)
  omega
 .rcases s.nb.1 _ k with e|e
  .exact S.nb.2 c b (l _ e)
  .have:=ai (S.bx c b).2.2;omega
 .rcases S.nb.1 a (l a e) with e|e;all_goals grind
 .rcases dg.1 hr with hr|hr
  .exact⟨(s.rw d hr).1,pL (s.rw d hr).2.1 p.2,(s.rw d hr).2.2⟩
  .have⟨A,q,_⟩:=S.rw d hr;refine⟨A,lu q λg o h f=>⟨U,h⟩,λ_ _ g o=>?_⟩;obtain⟨_,rfl,_,_⟩:=s.ac;have:=(q.lt g o).2;grind
end
def CQ(E:Pe)(f:FuncId)(args:zAV)(i:Nat)(X:Fo)(j:Nat)(Z1:A3->zLI->Rws->Prop):Prop:=
 ∀(W:A0)(G:zON)(L:zLM),Sq E W G L W i L .nil [] [] []->M L+X.sz<=50000000->B9 Ax f args W λa w'=>∃v L2 ys R2,a=A5 v/\Z1 v ys R2/\B0 (Sq E W G L w' j L2 X ys [] R2)
abbrev CI(E:Pe)(f:FuncId)(args:zAV)(i:Nat)(X:Fo)(j:Nat):Prop:=CQ E f args i X j λv ys R2=>∃a,v=zI a/\ys=[a]/\R2=[]
abbrev CL(E:Pe)(f:FuncId)(args:zAV)(i:Nat)(X:Fo)(j:Nat):Prop:=CQ E f args i X j λv ys R2=>∃a b,v=Br a (M ys) b/\R2=[(3,v,ys.map iv)]
abbrev CM(E:Pe)(i:Nat)(b:zLB)(j:Nat):Prop:=CQ E 217 #[pV E] i .nil j λv ys R2=>∃a c,v=Br a (M b) c/\ys=[]/\R2=[(9,v,b.map B1)]
def Sq.cq{E a L b j D X c B R1 f args Z1 Q}(S:B0 (Sq E W a L w i b D c B R1))(C:CQ E f args i X j Z1)(g:M b+X.sz<=50000000)(k:∀w' v L2 ys R2,Z1 v ys R2->B0 (Sq E W a L w' j L2 (D.app X) (c++ys) B<|R2++R1)->Q (A5 v) w'):B9 Ax f args w Q:=by
 have⟨_,d,e⟩:=S.here;apply(C w _ _ e g).mono;rintro _ w' ⟨v,L2,ys,R2,rfl,h,l⟩;exact k _ v _ _ _ h<|S.join d l
def ndD:Nd:=⟨0,0,0,0,0,0,ByteArray.empty,[],[]⟩
def ab(a:zLD)(i:Int):Nd:=a.getD i.toNat ndD
inductive D (tk:Nat->Tk) (n:Nat):Nat->zLI->Nat->Nat->Prop where|nil {i:Nat}:D tk n 0 [] i i|tok {m:Nat}{s:Int}{r:zLI}{i j:Nat}:s<100->(tk i).k=s->i<n->D tk n m r (i+1) j->D tk n (m+1) (s::r) i j|exp {m:Nat}{s:Int}{r:zLI}{i j:Nat}:100<=s->i<n->(xE s (tk i).k).2=true->D tk n m ((xE s (tk i).k).1++r) i j->D tk n (m+1) (s::r) i j
section
variable {E : Pe} {W w w' : World} {G : zON} {L L1 : zLM} {i j b q : Nat} {D : Fo} {zs : zLI} {B : Bxs} {R1 : Rws} {k : Int}
def Sq.cells(S:Sq E W G L w i L1 D zs B R1):w.cell? (aj E.pb 0)=V (bI E.tb E.n E.cap)/\w.cell? (aj E.pb 1)=V (zI i)/\∀j,w.frozen? (aj E.pb j)=B5:=by
 have⟨_,a,_⟩:=S.row;exact⟨crV a,crV a,λj=>frR a⟩
def Sq.tok(S:Sq E W G L w i L1 D zs B R1)(d:q<E.n):∃l,((E.tk q).k≠6->l=(E.tk q).l)/\w.cell? (aj E.tb<|q*6)=V (zI (E.tk q).k)/\w.cell? (aj E.tb<|q*6+1)=V (zI (E.tk q).f)/\w.cell? (aj E.tb<|q*6+2)=V (zI (E.tk q).t)/\w.cell? (aj E.tb<|q*6+3)=V (zI l)/\w.cell? (aj E.tb<|q*6+4)=V (zI (E.tk q).n)/\w.cell? (aj E.tb<|q*6+5)=V (B6 (E.tk q).x):=by
 have⟨_,_,b,c⟩:=S.tks;have⟨l,a⟩:=c q d;exact⟨l,a.hl,by rw[oe b];exact a.c0,by rw[oe b];exact a.c1,by rw[oe b];exact a.c2,by rw[oe b];exact a.c3,by rw[oe b];exact a.c4,by rw[oe b];exact a.c5⟩
def awK(S:Sq E W G L w i L1 D zs B R1)(a:i<E.n):B9 Ax 132 #[pV E] w λe w'=>e=A5 (zI (E.tk i).k)/\D2 w.heap.size w w':=by
 have b:=S.cells;have⟨_,_,_⟩:=S.tok a;have d:(i:Int)<(E.n:Int):=O;have c:(0:Int)<=(i:Int):=O;go_in;go_wp2_with fail;go_quiet (fail)
 go_wp2;go_ret;exact⟨R,R,R,R,eE,λ_ _=>rfl⟩
def Sq.kind(S:B0 (Sq E W G L w i L1 D zs B R1))(c:(E.tk i).k=k)(b:i<E.n:=by omega):B9 Ax 132 #[pV E] w λe w'=>e=A5 (zI k)/\B0 (Sq E W G L w' i L1 D zs B R1):=c ▸ (awK S b).mono λ_ _ a=>⟨a.1,Sq.below S a.2⟩
def TkW(E:Pe)(q:Nat)(w:A0):Prop:=w.cell? (aj E.tb<|q*6)=V (zI (E.tk q).k)/\w.cell? (aj E.tb<|q*6+1)=V (zI (E.tk q).f)/\w.cell? (aj E.tb<|q*6+2)=V (zI (E.tk q).t)/\w.cell? (aj E.tb<|q*6+3)=V (zI (E.tk q).l)/\w.cell? (aj E.tb<|q*6+4)=V (zI (E.tk q).n)/\w.cell? (aj E.tb<|q*6+5)=V (B6 (E.tk q).x)
def Sq.tkw(S:Sq E W G L w i L1 D zs B R1)(d:q<E.n)(b:(E.tk q).k≠6):TkW E q w:=by
 have⟨_,c,e,f,g,a,h,j⟩:=S.tok d;rw[c b]at a;exact⟨e,f,g,a,h,j⟩
theorem Sq.next(S:Sq E W G L w i L1 D zs B R1):Sq E W G L (w.setCell (aj E.pb 1)<|zI<|(i:Int)+1) (i+1) L1 D zs B R1:=
 S.to (o:=B2) ((ay _ w).setCell S.lo.1 _) (λb _ a _=>jg a) (λ_ a=>(aD _ E.pb 1 _ _ _ a).trans U) λb a=>by cases a
theorem Sq.take(S:B0 (Sq E W G L w i L1 D zs B R1))(r:(E.tk i).k=k)(p:i<E.n:=by omega)(o:k≠6:=by omega):B9 Ax 215 #[pV E] w λe w'=>e=A5 (D1<|rE k<|E.tk i)/\B0 (Sq E W G L w' (i+1) L1 D zs B R1):=by
 subst r;have h:=Sq.box (cs:=#[zI 0,zI 0,zI 0,zI 0,zI 0,nh]) (t:=58) S;have y:=h.cells;have F:=S.lo;have C:=S.low;have a:=ah h.next
 have g:=a.cells;have t:=a.tkw p o;unfold TkW at t;rw[(O:((i+1:Nat):Int)=(i:Int)+1)]at g;have A:(i:Int)<(E.n:Int):=O;have z:(0:Int)<=(i:Int):=O;have ad:IntKind.i64.wrap ((i:Int)+1-1)=(i:Int):=by rw[du];omega
 have af:IntKind.i64.wrap (i:Int)=(i:Int):=U;have ak:IntKind.i64.wrap ((i:Int)+1)=(i:Int)+1:=by rw[du];omega
 go_in;go_wp2_with fail;generalize E3 _ _ _=d at a g t⊢;have al:=jb<|Sq.hd a;have am:=sf<|Sq.hd a;have H:E.pb≠w.heap.size:=O;have K:E.tb≠w.heap.size:=O;have s:=λk (m:k≠w.heap.size) b=>Co (W:=d) m b;unfold six at s;go_region_held3 (λj=>∀k,k≠w.heap.size->∀b,j.cell? (aj k b)=d.cell? (aj k b)) (simp_all) (fail)
 have c:=Sq.below (Sq.set (q:=5) (u:=B6 (E.tk i).x)<|Sq.set (q:=4) (u:=zI (E.tk i).n)<|Sq.set (q:=3) (u:=zI (E.tk i).l)<|Sq.set (q:=2) (u:=zI (E.tk i).t)<|Sq.set (q:=1) (u:=zI (E.tk i).f)<|Sq.set (q:=0) (u:=zI (E.tk i).k) a) blW;generalize World.drew _=v at c⊢;go_wp2;exact aA (fD R _ _ _ _ _ _ _ R (Sq.hd c) underlying58 R byR) R ⟨R,Sq.tail c⟩
def Gf(k c a w):B9 Ax 216 #[zI k,D1<|rE c a] w λe w'=>e=A5 (D1 #[zI k,zI a.f,zI 0,zI a.l,zI 0,zI 0,nh,s0,s0])/\D2 w.heap.size w w':=by
 go_in;go_wp2;exact aA (fD R _ _ _ _ _ _ _ R (Eu R).2.1 underlying37 R J) R ⟨R,(dj w _).alloc I _⟩
def Sq.node(S:B0 (Sq E W G L w i L1 D zs B R1)){c a}:B9 Ax 216 #[zI k,D1<|rE c a] w λe w'=>e=A5 (D1 #[zI k,zI a.f,zI 0,zI a.l,zI 0,zI 0,nh,s0,s0])/\B0 (Sq E W G L w' i L1 D zs B R1):=(Gf k c a w).mono λ_ _ b=>⟨b.1,Sq.below S b.2⟩
def Sq.isY(S:B0 (Sq E W G L w i L1 D zs B R1))(c:(E.tk i).k=k)(b:i<E.n:=by omega):B9 Ax 133 #[pV E,zI k] w λe w'=>e=A5 (E2 A1)/\B0 (Sq E W G L w' (i+1) L1 D zs B R1):=by
 have g:(k !=k)=B5:=I;have j:=S.lo.2.2.2;have d:=Sq.kind S c b;go_in;go_wp2_with fail;refine dd d λw1 a=>?_;have f:=a.cells;have h:=a.lo.1;exact gwX a.next
theorem Sq.isN(S:B0 (Sq E W G L w i L1 D zs B R1))(c:(E.tk i).k≠k)(a:i<E.n:=by omega):B9 Ax 133 #[pV E,zI k] w λe w'=>e=A5 (E2 B5)/\B0 (Sq E W G L w' i L1 D zs B R1):=by
 have d:((E.tk i).k !=k)=A1:=U;have b:=Sq.kind S R a;go_in;go_wp2_with fail;refine dd b λw1 _=>?_;exact gwS
end
def Rin(R1:Rws)(t:B7)(v:A3)(xs:zLV):Prop:=(v=s0/\xs=[])\/(t,v,xs)∈R1
section
variable {E : Pe} {W w w' : World} {G : zON} {L L1 : zLM} {i j b q : Nat} {D : Fo} {zs : zLI} {B : Bxs} {R1 : Rws} {k f t l op n : Int} {x : Bz}
def Rin.own{u}(h:Rin R1 u v xs)(S:Sq E W G L w i L1 D zs B R1):w.ownsRow W.heap.size u 1 v (M xs) xs:=by
 obtain⟨rfl,rfl⟩|h:=h
 .exact onN
 .exact(S.rw _ h).2.1
theorem Sq.push(S:Sq E W G L w i L1 D zs B R1)(a7:w.heap[E.pb]?=V (pC E i v)){c r f}(ax:M L1+1=r)(x)(K:c.ownsRow E.base 37 9 (bI g r f) r (mG<|L1++[x]))(l:w.grownBy c v.ownBlock)(A:v.ownBlock=V g\/g=w.heap.size)
  (on:Rin R1 9 x.vn (x.N.nm.map B1)) (a1:Rin R1 3 x.vk (x.N.ks.map iv)) (ar:x.N.ks=zs):
  Sq E W G L (c.setCell (aj E.pb 2)<|bI g r f) i (L1++[x]) (one {x.N with ks:=[]} D) [(M L1:Int)] B []/\c.heap[E.pb]?=V (pC E i v):=by
 subst ax;have⟨a6,m,p2⟩:=S.row;obtain rfl:a6=v:=U;have C:=S.lo;have av:=S.low;have⟨an,n,a4,a5⟩:=S.tks;have z:∀a,a<w.heap.size->¬Ng E w a->c.heap[a]?=w.heap[a]?:=λa h j=>l.block a h λe=>j<|(nbI m).2 e.symm;have a0:¬Ng E w E.pb:=λh=>by have⟨_,u,n,t⟩:=S.nlt h;grind
 have s:=(z _ O a0).trans m;have p:∀a,a<w.heap.size->a≠E.pb->¬Ng E w a->(c.setCell (aj E.pb 2)<|bI g (M L1+1) f).heap[a]?=w.heap[a]?:=λa k d o=>(jg d).trans<|z a k o;have ad:∀{F H e size j:Nat}{ak:A3}{al:zLV},w.ownsRow F e size ak j al->H<=F->e≠37->e≠103->(c.setCell (aj E.pb 2)<|bI g (M L1+1) f).ownsRow H e size ak j al:=λq av k d=>lu q λg l o ao=>⟨p g ao (λe=>gG q m (dG d)<|e ▸ l) λj=>(by have⟨_,u,n,t⟩:=S.nlt j;exact gG q t (dG k) l),O⟩;have af:=aD c _ 2 _ _ (bI g (M L1+1) f) s;have a3:=on.own S;have a2:=a1.own S;have y:∀{a},Ng E (c.setCell (aj E.pb 2)<|bI g (M L1+1) f) a->g=a:=λh=>by simpa [A2] using(nbI af).1 h
 refine⟨⟨C,⟨an,n,(p _ O (λe=>U) λh=>?_).trans a4,a5⟩,⟨_,af,by rw[aG];exact wE K (gG K s Z) 2 _⟩,⟨λa h=>?_,λb h d=>?_⟩,λam hy=>?_,S.ac.add _ (ar.trans S.tp.symm) λa h=>?_,by rw[aco,S.ac.len],S.bl.trans<|((ay _ w).grown l O λa ap=>(p2.lt a ap).1).setCell C.1 _,λa k d o=>(p a O d λh=>?_).trans<|S.fz a k d o,λb h=>⟨(S.bx b h).1,(S.bx b h).2.1,(p _ (ai (S.bx b h).2.2) (by have:=(S.bx b h).1;omega)<|S.nb.2 b h).trans (S.bx b h).2.2⟩,S.bd,λr h=>(by cases h),.nil⟩,s⟩
 .have⟨_,u,n,t⟩:=S.nlt h;grind
 .obtain rfl:=y h;obtain e|e:=A
  .exact S.nb.1 g ((nbI m).2 e)
  omega
 .obtain rfl:=y d;obtain e|e:=A
  .exact S.nb.2 b h ((nbI m).2 e)
  .have:=ai (S.bx b h).2.2;omega
 .rcases dg.1 hy with hy|hy
  .exact⟨ad (S.each am hy).1 O Z Z,ad (S.each am hy).2 O Z Z⟩
  grind
 .rcases h with h|h
  .exact(a3.lt a h).1
  .exact(a2.lt a h).1
 .rcases S.nb.1 a h with e|e;all_goals grind
theorem Sq.add(S:B0 (Sq E W G L w i L1 D zs B R1)){al bh}{nm:zLB}(bb:(al=s0/\nm=[])\/(9,al,nm.map B1)∈R1)(K:Rin R1 3 bh (zs.map iv))(bo:M L1<=50000000)(cb:1<=i:=by omega)(ce:i<=E.n:=by omega):
  B9 Ax 219 #[pV E,D1 #[zI k,zI f,zI t,zI l,zI op,zI n,B6 x,al,bh]] w λe w'=>∃z,e=A5 (zI z)/\∃L2,B0 (Sq E W G L w' i L2 (one ⟨k,f,(E.tk<|i-1).t,l,op,n,x,nm,[]⟩ D) [z] B []):=by
 have af:Rin R1 9 al (nm.map B1):=bb.imp (λs=>⟨s.1,U⟩) id;clear bb;obtain⟨q,rfl⟩:∃q,i=q+1:=⟨i-1,O⟩;obtain⟨o,r,rfl⟩:=aF<|af.own S;obtain⟨m,p,rfl⟩:=aF<|K.own S;simp only[dm]at af K⊢;rw[qm];have⟨d,ad⟩:=aw<|M L1;have⟨A,bz⟩:=aw<|M nm;have⟨y,bx⟩:=aw<|M zs;rw[ad]at bo;rw[bz]at af⊢;rw[bx]at K⊢;have cg:=S.lo;have bw:=S.low;have bn:((q+1:Nat):Int)=(q:Int)+1:=O;have a0:=λg=>(Sq.below S<|dj w g).cells;have a6:∀g,(w.alloc g).cell? ⟨E.tb,q*6+2,B2⟩=V (zI (E.tk q).t):=λg=>by
  obtain⟨l,bw,_,_,a6,_,_,_⟩:=(Sq.below S<|dj w g).tok (q:=q) O;exact a6
 rw[bn]at a0;have cd:(q:Int)<(E.n:Int):=O;have cc:(0:Int)<=(q:Int):=O;have ch:IntKind.i64.wrap ((q:Int)+1-1)=(q:Int):=by rw[du];omega
 have cl:IntKind.i64.wrap (q:Int)=(q:Int):=U;have b5:=Sq.box (cs:=zK ⟨k,f,(E.tk q).t,l,op,n,x,nm,zs⟩ (Br o A r)<|Br m y p) (t:=37) S;go_in;go_wp2_with fail;go_region_held3 (λw'=>w'.cell? (aj E.pb 0)=V (bI E.tb E.n E.cap)/\w'.cell? (aj E.pb 1)=V (zI<|(q:Int)+1)/\w'.cell? (aj E.tb<|q*6+2)=V (zI (E.tk q).t)) (exact⟨(a0 _).1,(a0 _).2.1,a6 _⟩) (fail)
 have F:=Sq.below b5 blW;have bd:(w.alloc<|B3 (zK ⟨k,f,(E.tk q).t,l,op,n,x,nm,zs⟩ (Br o A r)<|Br m y p) 37).drew.heap.size=w.heap.size+1:=dC _ _;generalize World.drew _=c at F bd⊢;have⟨v,a3,a4⟩:=F.row;obtain⟨ar,a2,rfl⟩:=aF a4;have a1:c.cell? (aj E.pb 2)=V (Br ar (M L1) a2):=crV a3;rw[ad]at a1 a3 a4;go_wp2_with fail;have ba:=Sq.hd F;refine wp_region_held_drew (S:=λap=>ap.heap[w.heap.size]?=V _) byR ba (λhS=>?_);simp[iC,fh];apply aI 0 (be E.pb 0) R R hS (λw' h=>by go_simp);simp[E0];apply aI 1 (be E.pb 0) R R hS (λw' h=>by go_simp);simp[E0];apply aI 2 (be E.pb 0) R R hS (λw' h=>by go_simp);simp[E0];apply aI 3 (be E.pb 2) R R hS (λw' h=>by go_simp);simp[E0];apply L7 5 23 (D1<|zK ⟨k,f,(E.tk q).t,l,op,n,x,nm,zs⟩ (Br o A r)<|Br m y p) R R J J J (λ_ _ _ s=>s) byR hS (λw' h=>by have z:=aE h;go_simp);simp[Act.put,cC];have br:=a1;refine uG (S:=λap=>ap.cell? _=V _) (C:=λu=>!(u==7||u==8||u==9||u==10)) (i:=4) (v:=Br ar d a2) R (BG J) (λ_ _ _ s=>s) ?hC _ _ _ _ (BH R J) (List.contains_iff_mem.1 J) (Or.inl ⟨byR,λw' h=>by go_simp⟩) hS br ?_
 .
  intro u _ a b;simp only[Bool.not_eq_false',zn,qo]at b;obtain((rfl|rfl)|rfl)|rfl:=b
  .obtain rfl:=de a;exact⟨{on:=4,ground:=Ground.data},I,R,R⟩
  all_goals
   obtain rfl:=de a;exact⟨{on:=4,ground:=Ground.phase},I,R,R⟩
 simp only[Act.put,cA,cH,cC];refine fi (i:=6) J R (λj a=>?_);go_simp;have ax:∀g,D2 c.heap.size c (c.drew.alloc g):=λg=>blW.alloc I _;refine a _ _ (((ax _).block _ O).trans ba) (λ_=>ag (ax _) a1) ?_;clear a j hS ax;simp only[cA,cH,cC];have H:=eC<|dj c<|B3 (zK ⟨k,f,(E.tk q).t,l,op,n,x,nm,zs⟩ (Br o A r)<|Br m y p) 37;have bj:(c.alloc<|B3 (zK ⟨k,f,(E.tk q).t,l,op,n,x,nm,zs⟩ (Br o A r)<|Br m y p) 37).drew.heap[c.heap.size]?=_:=au c _;generalize World.drew (World.alloc _ _)=b7 at H bj⊢;have b6:=Sq.below F H;have b2:=(H.block _ O).trans a3;have cf:=F.low;have⟨bA,bD,bE,bF,b0⟩:=dw CA;refine fi (i:=7) J R (λj a=>?_);apply step_append_lies _ byR _ _ _ byR _ 37 bA _ 9 _ underlying24 bD bE bF b0 R Z _ d _ byR (cj a4 H) _ 1 1 _ (by rw[bd];rfl) R (World.news_of_block bj) (by intro _ bc;simp at bc;obtain rfl|rfl|rfl|rfl|rfl|rfl|rfl|rfl|rfl:=bc<;>rfl) Z byM O U _ R;intro a9 a8 a7 b1 bt bs _;obtain⟨bf,a5⟩:=b6.push b2 (by rw[ad]) ⟨_,_,_⟩ (by rw[uC];exact b1) bt bs af K R;have bk:=Sq.hd bf;have am:=bk;rw[jg U]at am;have b9:a7.cell? (aj E.pb 2)=V (Br ar d a2):=crV a5;have ca:a7.frozen? (aj E.pb 2)=B5:=frR a5;have ao:=Sq.tail bf;apply a _ _ am (λb=>by cases b);simp only[Act.put,cA,cH,cC];refine fi (i:=8) J R (λj a=>?_);go_simp;apply a _ _ am (λb=>by cases b);simp only[cA,cH,cC];refine fi (i:=9) J R (λj a=>?_);go_simp;apply a _ _ am (λb=>by cases b);simp only[cA,cH,cC];refine fi (i:=10) J R (λj a=>?_);go_simp;apply a _ _ bk (λb=>by cases b);refine yd byR ?_ _;have bl:(a7.setCell (aj E.pb 2)<|bI a9 (d+1) a8).cell? ⟨E.pb,2,B2⟩=V (bI a9 (d+1) a8):=by rw[oe<|aD _ _ 2 _ _ _ a5];rfl
 rw[ad]at ao;generalize E3 _ _ _=b8 at ao bl⊢;have cm:IntKind.i64.wrap ((d:Int)+1-1)=(d:Int):=by rw[du];omega
 go_wp2;go_ret;exact⟨d,by go_num,_,ao⟩
end
def Trw(c t:B7):Prop:=∃a b,Ax.underlying c=V (.slice t)/\(Ax.info? t).map (λi=>(i.zero,i.size,i.bytes))=V (V a,1,b)/\a.cells.size=1/\b<=100
def tI:Trw 35 3:=⟨zI 0,8,underlying35,J,R,Z⟩
def tS:Trw 34 9:=⟨nh,16,underlying34,J,R,Z⟩
section
variable {E : Pe} {W w w' : World} {G : zON} {L L1 : zLM} {i j b q : Nat} {D : Fo} {zs : zLI} {B : Bxs} {R1 : Rws} {k : Int} {t : TypeId} {cs : zAV}
def Sq.rd(S:B0 (Sq E W G L w i L1 D zs ((b,t,cs)::B) R1)):(∀q,w.cell? (aj b q)=cs[q]?)/\(∀q,w.frozen? (aj b q)=B5)/\b<w.heap.size:=by
 have a:=Sq.hd S;exact⟨λq=>by rw[oe a],λq=>frR a,ai a⟩
def Sq.fin(S:B0 (Sq E W G L w i L1 D zs B R1)):B0 (Sq E W G L w i L1 D zs [] R1):=S.sub (λ_ a=>by cases a) zo
def Sq.fin0(S:B0 (Sq E W G L w i L1 D zs B R1)):B0 (Sq E W G L w i L1 D zs [] []):=Sq.fin<|Sq.less S<|List.nil_sublist _
def Sq.ln(S:B0 (Sq E W G L w i L1 D zs B R1)):M L1=M L+D.sz:=S.ac.len
def atC{t b}(h:lm t=b)(w):B9 Ax 288 #[zI t] w λe w'=>e=A5 (E2 b)/\w'=w:=h ▸ we w t
theorem atD(k w):B9 Ax 333 #[zI k] w λe w'=>e=A5 (zI<|acp k)/\w'=w:=by
 unfold acp;by_cases a:k=25
 .subst a;exact giS
 by_cases b:k=50
 .subst b;exact giS
 by_cases c:k=69
 .subst c;exact giS
 .rw[aa a,aa b,aa c];have d:(k==25)=B5:=U;have f:(k==50)=B5:=U;have g:(k==69)=B5:=U;exact giS
def azb{t b}(h:dv t=b)(w):B9 Ax 210 #[zI t] w λe w'=>e=A5 (E2 b)/\w'=w:=h ▸ wg w t
def awL(a b c d e f w):(Instr.field 58 (D1 #[a,b,c,d,e,f]) 0).run Ax w= .ok a w:=J
theorem Sq.rn{a:zOA}{b}(S:B0 (Sq E W G L w i L1 D zs B ((t,Br a n b,xs)::R1))):M xs=n:=by
 obtain⟨_,_,_⟩:=aF (S.rw _<|.head _).2.1;grind
theorem Sq.at2{r}{a:zOA}{c q}{e:zLI}{x}(S:B0 (Sq E W G L w i L1 D zs B (r::(3,Br a n c,e.map iv)::R1)))(h:e[q]?=V x):∃g,a=V (aj g 0)/\w.cell? (aj g q)=V (zI x):=by
 have d:=(S.rw _<|.tail _<|.head _).2.1;have j:=(dr.1 h).1;obtain⟨_,_⟩|⟨g,_,b⟩:=aC d
 .grind
 .simp only[Value.slice.injEq]at b;obtain⟨rfl,_,_⟩:=b;have f:=d.cells R q (zI x) U;rw[show(⟨g,0,B2⟩:Addr).add q=⟨g,q,B2⟩ by unfold Addr.add;grind]at f;grind
section
variable {ops : Array Oper} {rest : List Oper} {o : Oper} {a : Act} {Q : Exit → Act → World → Prop} {av : zOA} {n cv : Nat} {xs : zLV}
theorem Sq.apG{c m}(l:Trw c t)(S:B0 (Sq E W G L w i L1 D zs B ((t,Br av n cv,xs)::R1)))(an:n<=50000000)(ao:u.oneCell'=A1)(A:o.guard=B2)(s x)(F:o.op= .call {callee:= .builtin .append,args:=#[s,x],argTypes:=#[c,c]})(H:a.eval s=Br av n cv)(K:a.eval x=bI m 1 1)(f:w.heap.size=m)
  (h:∀g b w1,B0 (Sq E W G L w1 i L1 D zs B ((t,bI g (n+1) b,xs++[u])::R1))->wpList Ax ops Q rest (a.put o.dst<|bI g (n+1) b) w1):wpList Ax ops Q (o::rest) a (w.alloc<|B3 #[u] t):=by
 subst f;obtain⟨am,e,p,q,r,v⟩:=l;have⟨al,C,ad,af,ak⟩:=dw q;have d:=Sq.below S<|dj w<|B3 #[u] t;have k:=(d.rw _<|.head _).2.1;simp[Sq.rn S]at k;have f:(n+1)*e<=50000001*100:=Nat.mul_le_mul O v;apply wpList_append_own_at _ A s x c F _ t al am 1 e p C ad af ak r Z _ _ _ H k _ 1 1 _ K R (cell_one_new _ _ _) U byM O (Sq.low d).2;intro _ w1 j z _ y;obtain⟨g,b,rfl⟩:=ownsRow_succ j;exact h g b w1<|Sq.put d z (by simpa [Sq.rn S] using j) y
theorem Sq.app{l:zLI}{z}(S:B0 (Sq E W G L w i L1 D (l++[z]) B ((3,Br av n cv,xs)::R1)))(r:M L1<=50000000)(e:o.guard=B2)(s x)(f:o.op= .call {callee:= .builtin .append,args:=#[s,x],argTypes:=#[35,35]})(j:a.eval s=Br av n cv)(k:a.eval x=bI w.heap.size 1 1)(m:xs=l.map iv)
  (h:∀g b w1,B0 (Sq E W G L w1 i L1 D (l++[z]) B ((3,bI g (n+1) b,(l++[z]).map iv)::R1))->wpList Ax ops Q rest (a.put o.dst<|bI g (n+1) b) w1):wpList Ax ops Q (o::rest) a (w.alloc<|B3 #[zI z] 3):=by
 subst m;have c:=Sq.rn S;have d:=congrArg M S.tp;have p:=D.len_le;have q:=S.ac.len;rw[Fo.tops_len,aG]at d;rw[dm]at c;exact Sq.apG tI S O R e s x f j k R λg b w1 _=>h g b w1 U
end
end
abbrev tkV(k:Int)(a:Tk):A3:=D1<|rE k a
abbrev fnV(a:Tk):A3:=D1 #[zI 36,zI a.f,zI 0,zI a.l,zI 0,zI 0,nh,s0,s0]
abbrev ndA(k b n:Int)(x:Bz)(a:Tk)(d c:A3):zAV:=#[zI k,zI a.f,zI 0,zI a.l,zI b,zI n,B6 x,d,c]
section
variable (E : Pe)
abbrev CX(p:Int)(i:Nat)(x:Fo)(j:Nat):Prop:=CI E 220 #[pV E,zI p] i x j
abbrev CU(i:Nat)(x:Fo)(j:Nat):Prop:=CI E 292 #[pV E] i x j
abbrev CB(i:Nat)(x:Fo)(j:Nat):Prop:=CI E 224 #[pV E] i x j
abbrev CK(i:Nat)(x:Fo)(j:Nat):Prop:=CI E 213 #[pV E] i x j
abbrev CLx(i:Nat)(x:Fo)(j:Nat):Prop:=CL E 218 #[pV E] i x j
abbrev CSs(i:Nat)(x:Fo)(j:Nat):Prop:=CL E 43 #[pV E,zI 43] i x j
abbrev CBd(a:Tk)(i:Nat)(x:Fo)(j:Nat):Prop:=CI E 221 #[pV E,fnV a] i x j
abbrev CBr(k:Int)(i:Nat)(x:Fo)(j:Nat):Prop:=CI E 222 #[pV E,tkV k<|E.tk i] (i+1) x j
inductive Wu (i:Nat):FuncId->Fo->Nat->Prop|leaf {k nk:Int}:(k=24/\nk=20)\/(k=29/\nk=21)\/(k=17/\nk=22)\/(k=49/\nk=27)->(E.tk i).k=k->i+1<E.n->Wu i 292 (one (lF nk (E.tk i) (E.tk i).t) .nil) (i+1)|intg:(E.tk i).k=2->i+1<E.n->Wu i 292 (one (nd 23 (E.tk i) (E.tk i).t 0 (E.tk i).n z0 []) .nil) (i+1)|word {k nk:Int}:(k=3/\nk=24)\/(k=4/\nk=25)->(E.tk i).k=k->i+1<E.n->Wu i 292 (one (nd nk (E.tk i) (E.tk i).t 0 0 (E.tk i).x []) .nil) (i+1)|pre {k:Int}{x:Fo}{j:Nat}:k=25\/k=50\/k=62\/k=69->(E.tk i).k=k->i<E.n->CU E (i+1) x j->i+1<=j->j<=E.n->Wu i 292 (one (nd 30 (E.tk i) (E.tk<|j-1).t (acp k) 0 z0 []) x) j|fn {x:Fo}{j:Nat}:(E.tk i).k=18->i<E.n->CBd E (E.tk i) (i+1) x j->Wu i 292 x j|base {k:Int}{x:Fo}{j:Nat}:k=1\/k=40->(E.tk i).k=k->i<E.n->CB E i x j->Wu i 292 x j|block {k:Nat}{x:Fo}:(E.tk i).k=42->i<E.n->CSs E (i+1) x k->(E.tk k).k=43->k+1<E.n->Wu i 213 (one (lF 1 (E.tk i) (E.tk k).t) x) (k+1)
end
def ss{E j f X}(h:Wu E i f X j):CI E f #[pV E] i X j:=by
 cases h
 case' leaf h _ _=>obtain⟨rfl,rfl⟩|⟨rfl,rfl⟩|⟨rfl,rfl⟩|⟨rfl,rfl⟩:=h
 case' word h _ _=>obtain⟨rfl,rfl⟩|⟨rfl,rfl⟩:=h
 case' pre h _ _ _ _ _=>obtain rfl|rfl|rfl|rfl:=h
 case' base h _ _ _=>obtain rfl|rfl:=h
 all_goals
  intro _ _ _ h g;have a:=ah h;try simp only[dh,Fo.sz_app,Fo.sz]at g
  go_in
  repeat' (go_wp2_with fail;first
   |(go_at_call 132;refine dd (Sq.kind a byA) λc a=>?_)|(go_at_call 215;refine dd (Sq.take (by first|exact a|exact Sq.set a) byA) λc a=>?_;(try have e:=Sq.rd a))
   |(go_at_call 288;first|refine ez (atC (b:=A1) Z _) ?_|apply ez (atC (b:=B5) Z _))
   |(go_at_call 333;apply ez<|atD _ _)|(go_at_call 216;refine dd (Sq.node (by first|exact a|exact Sq.box a)) λc a=>?_;(try have e:=Sq.rd a))
   |(go_at_call 219;refine(Sq.add (by first|exact a|exact Sq.lit1 (Sq.box a)|exact Sq.box a) (.inl ⟨R,R⟩) (by first|exact .inl ⟨R,R⟩|exact .inr (.head _)) (by have:=Sq.ln a;simp only[Fo.sz_app,Fo.sz]at this;omega)).mono ?_;rintro _ c ⟨k,rfl,d,a⟩)
   |(refine Sq.cq (by first|exact a|exact Sq.box a) byA (by have:=Sq.ln a;simp only[Fo.sz_app,Fo.sz]at this;omega) ?_;(first|rintro c _ d _ _ ⟨k,rfl,rfl,rfl⟩ a|rintro c _ d _ _ ⟨_,_,rfl,rfl⟩ a);(try have e:=Sq.rd a)))
  all_goals
   go_wp2;go_ret;exact⟨_,_,_,_,R,⟨_,R,R,R⟩,Sq.fin a⟩
