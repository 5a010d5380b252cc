import Derived.Test.YtnoembpaejlaeaaGreatDoorHLk03
import Derived.Test.YtnoembpaejlaeaaGreatDoorHLk02
import Derived.Laws.AppendOwnNone
set_option linter.all false
set_option maxRecDepth 100000
set_option maxHeartbeats 6400000
open Go.Proofs.Tryz renaming prog->M
open Go.Ending renaming returned->O
open Go.Value renaming int->Q,string->Y,bool->A0,ownBlock->A2,slice->A3,string->B2,int->B4,tuple->B5
open Go.IntKind renaming i64->S
open Option renaming some->U,none->X
open Go renaming World->V,Calls->Z,Value->Ax
open Go.RowKit renaming Below->A5,intOf->B1
open Go.World renaming setCell->A9
open Bool renaming false->Br,true->B3
open ByteArray renaming empty->B0
namespace Go.Proofs.YtnoembpaejlaeaaGreatDoor
open Go.RowKit
variable{T:ByteArray}{W w w' w0:World}{b base lo n:Nat}{v vt:Value}{xs:List Value}
def lK{b:Nat}{a:V}(h:A5 b a w)(n:Nat):A5 b a (w.drewN n):=⟨h.os,h.tape,h.output,h.size,h.block⟩
def bH{b:Nat}{a:V}(h:A5 b a w):A5 b a w.drew:=⟨h.os,h.tape,h.output,h.size,h.block⟩
def bJ{e size:Nat}(h:W.ownsRow base e size v n xs):∃a b,v= A3 a n b:=by
 rcases h.2 with⟨rfl,c⟩|⟨f,b,d,rfl,_⟩
 .exact⟨X,0,by rw[c]⟩
 .exact⟨_,_,rfl⟩
def uf(w:V)(b:Option Nat):w.grownBy w b:=⟨rfl,rfl,rfl,ag _,λ_ _ _=>rfl⟩
def qz(h:w0.grownBy w (U b))(i:Nat)(v:Ax):w0.grownBy (w.setCell ⟨b,i,X⟩ v) (U b):=
 ⟨h.os,h.tape,h.output,by simpa [A9] using h.size,λe d a=>by rw[aC _ _ _ _ (λc=>a (by rw[c]))];exact h.block e d a⟩
def bB{e size:Nat}(h:W.ownsRow base e size v n xs):(n=0/\v= A3 X 0 0)\/∃g a,v= A3 (U ⟨g,0,X⟩) n a:=by
 rcases h.2 with⟨rfl,b⟩|⟨g,a,c,rfl,_⟩
 .exact .inl ⟨b,rfl⟩
 .exact .inr ⟨_,_,rfl⟩
def afe:(Tryz.prog.info? 62).map (λi=>(i.zero,i.size,i.bytes))=U (U (.agg #[Q S 0,Q S 0,Q S 0,Q S 0,Q S 0,Q S 0,Y ⟨#[]⟩,A3 X 0 0,A3 X 0 0]),9,112):=by kernel_rfl
def adq{h i c d r s e f g n2 j k:Nat}{t u:List Ax}(m:W.ownsRow h c r (A3 (U ⟨e,0,X⟩) g j) g t)(n:W.ownsRow i d s (A3 (U ⟨f,0,X⟩) n2 k) n2 u)(o:c≠d):e≠f:=by
 rintro rfl;rcases m.2 with⟨a,_⟩|⟨z,v,x,a,_,p,_⟩
 .cases a
 .cases a;rcases n.2 with⟨a,_⟩|⟨A,w,y,l,_,q,_⟩
  .cases a
  .cases l;have b:=p.symm.trans q;simp only[fi,jL]at b;exact o b.2.1
def adr(g m:Nat):(⟨g,0,X⟩:Addr).add m=⟨g,m,X⟩:=by unfold Addr.add;split<;>simp_all
structure Mb where
 N:Nd
 vn:Ax
 vk:Ax
def cMb(x:Mb):List Ax:=[Q S x.N.k,Q S x.N.f,Q S x.N.t,Q S x.N.l,Q S x.N.op,Q S x.N.n,Y x.N.x,x.vn,x.vk]
def lL(l:List Mb):List Ax:=l.flatMap cMb
def zn(a:Mb)(r:List Mb):lL (a::r)=cMb a++lL r:=by simp[lL]
def rA(a b:List Mb):lL (a++b)=lL a++lL b:=by simp[lL]
def aff(l:List Mb):(lL l).length=l.length*9:=by
 induction l with
 |nil=>rfl
 |cons a d b=>
  have c:(cMb a).length=9:=rfl;rw[zn,aJ,b,c,bm];omega
def aiL(ts:List Mb)(i j:Nat)(T:Mb)(a:ts[i]?=U T)(e:j<9):(lL ts)[i*9+j]?=(cMb T)[j]?:=by
 induction ts generalizing i with
 |nil=>simp at a
 |cons b f c=>
  have d:(cMb b).length=9:=rfl;rw[zn];cases i with
  |zero=>simp at a;subst a;rw[iq (by omega)];congr 1;omega
  |succ i=>
   rw[gh (by omega),d,show(i+1)*9+j-9=i*9+j by omega];exact c i (by simpa using a)
def Fj{l:List ByteArray}(h:W.ownsRow base 9 1 v l.length (l.map B2)):dk W v l:=by
 rcases bB h with⟨a,rfl⟩|⟨c,b,rfl⟩
 .exact .inl ⟨jK a,_,_,rfl⟩
 .exact afc h rfl
def Fk{l:List Int}(h:W.ownsRow base 3 1 v l.length (l.map (B4 S))):dB W v l:=by
 rcases bB h with⟨a,rfl⟩|⟨c,b,rfl⟩
 .exact .inl ⟨jK a,_,_,rfl⟩
 .exact afd h rfl
def rB{g d:Nat}{L:List Mb}(h:W.ownsRow lo 62 9 (A3 (U ⟨g,0,X⟩) n d) n (lL L)){i:Nat}{x:Mb}(c:L[i]?=U x):
  W.cell? ⟨g,i*9,X⟩=U (Q S x.N.k)/\W.cell? ⟨g,i*9+1,X⟩=U (Q S x.N.f)/\W.cell? ⟨g,i*9+2,X⟩=U (Q S x.N.t)/\W.cell? ⟨g,i*9+3,X⟩=U (Q S x.N.l)/\W.cell? ⟨g,i*9+4,X⟩=U (Q S x.N.op)/\W.cell? ⟨g,i*9+5,X⟩=U (Q S x.N.n)/\W.cell? ⟨g,i*9+6,X⟩=U (Y x.N.x)/\W.cell? ⟨g,i*9+7,X⟩=U x.vn/\W.cell? ⟨g,i*9+8,X⟩=U x.vk:=by
 have m:n*9=L.length*9:=by have:=h.1;rw[aff]at this;omega
 have j:i<L.length:=by rcases bC i L.length with g|g;exact g;rw[jr g]at c;cases c
 have a:∀b,b<9->W.cell? ⟨g,i*9+b,X⟩=(cMb x)[b]?:=λb e=>by
  rw[h.cellAt (i*9+b) (by omega),aiL L i b x c e]
 exact⟨a 0 (by omega),a 1 (by omega),a 2 (by omega),a 3 (by omega),a 4 (by omega),a 5 (by omega),a 6 (by omega),a 7 (by omega),a 8 (by omega)⟩
def nxt(a:Nat)(N:Nd):Nat:=a+7+N.nm.length+N.ks.length
def cnt:Nat->List Nd->Nat
 |K,[]=>K
 |K,N::r=>cnt (nxt K N) r
def afg(b c:List Nd):∀a,cnt a (b++c)=cnt (cnt a b) c:=by
 induction b with
 |nil=>intro a;rfl
 |cons f e d=>intro a;simp[cnt,d]
def xc{g h b c m n l n2:Nat}{a f:Ax}{o p:List Ax}(d:W.ownsRow g b m a l o)(e:W.ownsRow h c n f n2 p)(j:b≠c):a.ownBlock=X\/a.ownBlock≠f.ownBlock:=by
 rcases bB d with⟨k,rfl⟩|⟨s,q,rfl⟩
 .exact .inl rfl
 .rcases bB e with⟨k,rfl⟩|⟨t,r,rfl⟩
  .exact .inr (by simp[A2])
  .exact .inr λi=>adq d e j (by simpa [A2] using i)
def GH{α:Type}{L:List α}{k:Nat}{x:α}(h:L[k]?=U x):L.take (k+1)=L.take k++[x]:=by
 rw[ie,h];rfl
open Go.Maps Go.WideMaps
def afh:(Tryz.prog.info? 9).map (λi=>(i.zero,i.size,i.bytes))=U (U (Y ⟨#[]⟩),1,16):=by kernel_rfl
def jG{c e size:Nat}(o:w.ownsRow lo e size v n xs)(h:∀g,v.ownBlock=U g->lo<=g->g<w.heap.size->w'.heap[g]?=w.heap[g]?/\c<=g):w'.ownsRow c e size v n xs:=by
 obtain⟨j,a⟩:=o;refine⟨j,?_⟩;rcases a with a|⟨g,f,i,rfl,k,b,l⟩
 .exact .inl a
 .have d:=h g rfl k (aj b);exact .inr ⟨g,f,i,rfl,d.2,d.1.trans b,l⟩
structure Lw (w:V) (lo:Nat) (lv:Ax) (L:List Mb):Prop where
 row:w.ownsRow lo 62 9 lv L.length (lL L)
 each:∀x∈L,w.ownsRow lo 9 1 x.vn x.N.nm.length (x.N.nm.map B2)/\w.ownsRow lo 3 1 x.vk x.N.ks.length (x.N.ks.map (B4 .i64))
def Lw.mono{L:List Mb}(h:Lw w lo v L)(d:∀k,lo<=k->k<w.heap.size->w'.heap[k]?=w.heap[k]?):Lw w' lo v L:=
 ⟨jG h.row λb _ a c=>⟨d b a c,a⟩,λf e=>⟨jG (h.each f e).1 λb _ a c=>⟨d b a c,a⟩,jG (h.each f e).2 λb _ a c=>⟨d b a c,a⟩⟩⟩
def Lw.nds{L:List Mb}(h:Lw w lo v L):eK w v (L.map Mb.N):=by
 rcases bB h.row with⟨p,rfl⟩|⟨b,o,rfl⟩
 .exact .inl ⟨by rw[jK p];rfl,_,_,rfl⟩
 .refine .inr ⟨⟨b,0,X⟩,o,by rw[bi],λc N a=>?_⟩;rw[cH]at a;cases hx:L[c]? with
  |none=>rw[hx]at a;cases a
  |some d=>
   rw[hx]at a;obtain rfl:=bc a;rw[show(⟨b,0,X⟩:Addr).add (c*9)=⟨b,c*9,X⟩ by unfold Addr.add;split<;>simp_all];obtain⟨f,g,i,j,k,c5,l,m,n⟩:=rB h.row hx;have e:=h.each d (dz hx);exact⟨d.vn,d.vk,f,g,i,j,k,c5,l,m,n,Fj e.1,Fk e.2⟩
def gw(k:Int):Bool:=decide (20<=k/\k<=37)
def jz(k:Int):Bool:=decide (1<=k/\k<=16)
def tr(k:Int):Bool:=decide (k=26\/k=32\/k=33)
def L8(k:Int)(w:V):Z M 210 #[Q S k] w λe w'=>e= O (A0 (gw k))/\w'=w:=by
 unfold gw;rcases(show(20<=k/\k<=37)\/(20<=k/\¬k<=37)\/¬20<=k by omega) with⟨h1,b⟩|⟨h1,b⟩|h1
 .rw[bp ⟨h1,b⟩];go_in;go_wp2;go_ret;exact⟨rfl,rfl⟩
 .rw[aD (λa=>b a.2)];go_in;go_wp2;go_ret;exact⟨rfl,rfl⟩
 .rw[aD (λa=>h1 a.1)];go_in;go_wp2;go_ret;exact⟨rfl,rfl⟩
def CF(k:Int)(w:V):Z M 82 #[Q S k] w λe w'=>e= O (A0 (jz k))/\w'=w:=by
 unfold jz;rcases(show(1<=k/\k<=16)\/(1<=k/\¬k<=16)\/¬1<=k by omega) with⟨h1,b⟩|⟨h1,b⟩|h1
 .rw[bp ⟨h1,b⟩];go_in;go_wp2;go_ret;exact⟨rfl,rfl⟩
 .rw[aD (λa=>b a.2)];go_in;go_wp2;go_ret;exact⟨rfl,rfl⟩
 .rw[aD (λa=>h1 a.1)];go_in;go_wp2;go_ret;exact⟨rfl,rfl⟩
def GI(k:Int)(w:V):Z M 161 #[Q S k] w λe w'=>e= O (A0 (tr k))/\w'=w:=by
 unfold tr;by_cases a:k=26
 .subst a;go_in;go_wp2;go_ret;exact⟨rfl,rfl⟩
 have d:(k==26)=Br:=by rw[dv];exact a
 by_cases b:k=32
 .subst b;go_in;go_wp2;go_ret;exact⟨rfl,rfl⟩
 have f:(k==32)=Br:=by rw[dv];exact b
 by_cases c:k=33
 .subst c;go_in;go_wp2;go_ret;exact⟨rfl,rfl⟩
 have g:(k==33)=Br:=by rw[dv];exact c
 rw[aD (by omega)];go_in;go_wp2;go_ret;exact⟨rfl,rfl⟩
def ads(w:V)(n:Ax)(ns:List Nd)(N c:Nd)(vn vk:Ax)(i:Nat)(z:Nat)(ht:eK w n ns)(m:dk w vn N.nm)(d:dB w vk N.ks)(b:N.ks[i]?=U (z:Int))(a:ns[z]?=U c)(q:ns.length<=1048576)(r:N.ks.length<=1048576):
  Z M 157 #[.agg #[n],jl N vn vk,Q S i] w λe w'=>e= O (Q S c.k)/\A5 w.heap.size w w':=by
 have p:∀f g,A5 w.heap.size w ((w.alloc f).alloc g):=λf g=>((ai _ w).alloc (ag _) f).alloc (by simp) g;obtain⟨y,C,rfl⟩:=ht.form;obtain⟨A,E,rfl⟩:=m.form;obtain⟨B,F,rfl⟩:=d.form;obtain⟨ap,rfl,av,au,l⟩:=ht.get a;obtain⟨ar,rfl,o⟩:=d.get b;have t:z<ns.length:=by rcases bC z ns.length with h|h;exact h;rw[jr h]at a;cases a
 have s:i<N.ks.length:=by rcases bC i N.ks.length with h|h;exact h;rw[jr h]at b;cases b
 have j:=l.c0;have G:=BC o;have H:=BC j;unfold jl;generalize ns.length=I at q t;generalize N.ks.length=v at r s;generalize N.nm.length=u;generalize c.k=x at j;clear ht m d b a l;obtain⟨K,J,an,ad,al,af,ao,ak,L⟩:=N;simp only;go_in;go_wp21
 go_quiet (fail)
 go_wp21
 go_ret;exact⟨rfl,lK (p _ _) _⟩
def fH(ns:List Nd)(N:Nd)(j:Nat):Int:=(ns.getD ((N.ks.getD j 0).toNat) Fi).k
def lE(ns:List Nd)(N:Nd):Nat->Nat->Bool
 |0,_=>B3
 |f+1,j=>gw (fH ns N j)&&lE ns N f (j+1)
structure amc (ns:List Nd) (N:Nd) (f j:Nat) (R:Bool):Prop where
 out:lE ns N f j=R
structure zo (ns:List Nd) (N:Nd):Prop where
 ok:∀z∈N.ks,0<=z/\z<(ns.length:Int)
def zo.get{ns:List Nd}{N:Nd}(h:zo ns N){j:Nat}(d:j<N.ks.length):∃(z:Nat) (b:Nd),N.ks[j]?=U (z:Int)/\ns[z]?=U b/\fH ns N j=b.k/\z<ns.length:=by
 have c:N.ks[j]?=U N.ks[j]:=aA d;obtain⟨f,g⟩:=h.ok N.ks[j] (mw d);obtain⟨z,e⟩:∃z:Nat,N.ks[j]=(z:Int):=⟨N.ks[j].toNat,by omega⟩;have a:z<ns.length:=by omega
 refine⟨z,ns[z],by rw[c,e],aA a,?_,a⟩;unfold fH;rw[aK,aK,c,e];simp[a]
def mE(w:V)(I:Ax)(ns:List Nd)(N:Nd)(vn vk:Ax)(i k:Nat)(ht:eK w I ns)(b:dk w vn N.nm)(r:dB w vk N.ks)(ap:zo ns N)(a0:k<=N.ks.length)(au:ns.length<=1048576)(av:N.ks.length<=1048576):
  Z M 160 #[.agg #[I],jl N vn vk,Q S i,Q S k] w λe w'=>e= O (A0 (lE ns N (k-i) i))/\A5 w.heap.size w w':=by
 obtain⟨m,q⟩:=aF (lE ns N (k-i) i);rw[q];have K:amc ns N (k-i) i m:=⟨q⟩;clear q;have ar:∀s t,A5 w.heap.size w ((w.alloc s).alloc t):=λs t=>((ai _ w).alloc (ag _) s).alloc (by simp) t;have f:=gE ht r;obtain⟨L,af,rfl⟩:=ht.form;obtain⟨a6,a7,rfl⟩:=b.form;obtain⟨ad,ak,rfl⟩:=r.form;clear ht b r;unfold jl;obtain⟨H,b⟩:=aF ns.length;obtain⟨y,p⟩:=aF N.ks.length;have x:=gE b p;rw[b]at f au⊢;rw[p]at f av a0⊢;clear b p;generalize N.nm.length=a5;go_in;go_wp2_with fail;generalize G:(w.alloc _).alloc _=g;obtain⟨n,o,F, -⟩:=Co G;replace n:g.cell? ⟨w.heap.size,0,X⟩=U (A3 L H af):=(am _ _ _ _ _ _ n).trans rfl;replace o:g.cell? ⟨w.heap.size+1,8,X⟩=U (A3 ad y ak):=(am _ _ _ _ _ _ o).trans rfl;clear G ar;go_loopw [9] (λu wr=>∃(j:Nat),u= Q S j/\i<=j/\(i<=k->j<=k)/\amc ns N (k-j) j m/\A5 g.heap.size g wr) (λu _=>k-(B1 u).toNat)
 case atStart=>exact⟨i,rfl,ag _,λao=>ao,K,ai _ _⟩
 case round=>
  obtain⟨j,rfl,bb,bf,v,h⟩:=hrel;have l:=F.trans (h.mono F.size);by_cases bj:j<k
  .obtain⟨J,z,A,B,C,al⟩:=ap.get (j:=j) (by rw[x.out.2];omega);rw[x.out.1]at al;obtain⟨bn,rfl,bs,br,E⟩:=(f.1.below l).get B;obtain⟨bo,rfl,ba⟩:=(f.2.below l).get A;have a8:=ah h n;have a9:=ah h o;have an:=E.c0;have a:=v.out;rw[show k-j=(k-(j+1))+1 by omega,lE,C]at a;have ax:(j:Int)<(k:Int):=by omega
   have bh:(j:Int)<(y:Int):=by omega
   have bl:(J:Int)<(H:Int):=by omega
   have bk:(0:Int)<=(J:Int):=by omega
   have bd:(0:Int)<=(j:Int):=by omega
   have d:=λw=>L8 z.k w;generalize z.k=a4 at an a d;clear A B C E;cases hx:gw a4 with
   |true=>
    rw[hx,gB]at a;rw[hx]at d;have c:amc ns N (k-(j+1)) (j+1) m:=⟨a⟩;clear a hx;go_wp2_with fail;go_quiet ((go_at_call 210;exact Calls.quiet_of_same (d _)))
    go_wp2_with fail;exact⟨⟨j+1,by go_num,by omega,λ_=>by omega,c,lK h _⟩,by simp[B1];omega⟩
   |false=>
    rw[hx,fw]at a;rw[hx]at d;have c:=aq a;clear a hx;go_wp2_with fail;go_quiet ((go_at_call 210;exact Calls.quiet_of_same (d _)))
    go_wp2_with fail;go_ret;exact⟨by rw[<-c.out];rfl,lK l _⟩
  .have a:=v.out;rw[show k-j=0 by omega,lE]at a;have c:=aq a;have ax:¬(j:Int)<(k:Int):=by omega
   clear a;go_wp2_with fail;go_ret;exact⟨by rw[<-c.out];rfl,l⟩
def ug(l:List ByteArray):Nat->Nat->Bool
 |0,_=>B3
 |f+1,j=>lh (l.getD j B0)&&ug l f (j+1)
structure Fl (l:List ByteArray) (f j:Nat) (R:Bool):Prop where
 out:ug l f j=R
def fE(N:Nd)(least a:Int):Bool:=decide (least<=(N.nm.length:Int)/\(N.nm.length:Int)<=a)&&ug N.nm N.nm.length 0
def Ji(w:V)(N:Nd)(vn vk:Ax)(least q:Int)(A:dk w vn N.nm)(K:dB w vk N.ks)(al:N.nm.length<=1048576)(L:∀s∈N.nm,s.size<=1048576):
  Z M 159 #[jl N vn vk,Q S least,Q S q] w λe w'=>e= O (A0 (fE N least q))/\A5 w.heap.size w w':=by
 have j:∀B,A5 w.heap.size w (w.alloc B):=λB=>(ai _ w).alloc (ag _) B;have r:=gE A L;obtain⟨G,I,rfl⟩:=A.form;obtain⟨H,J,rfl⟩:=K.form;clear A K L;obtain⟨i,c⟩:=aF (fE N least q);rw[c];unfold fE at c;unfold jl;obtain⟨a,v⟩:=aF N.nm.length;have af:=aq v;rw[v]at r al c⊢;clear v;generalize N.ks.length=E;by_cases ap:(a:Int)<least
 .have g:Hid (Br=i):=by rw[aD (by omega)]at c;exact c
  clear c;go_in;go_wp2;go_ret;exact⟨by rw[<-g.out];rfl,j _⟩
 by_cases ar:q<(a:Int)
 .have g:Hid (Br=i):=by rw[aD (by omega)]at c;exact c
  clear c;go_in;go_wp2;go_ret;exact⟨by rw[<-g.out];rfl,j _⟩
 have g:Fl N.nm a 0 i:=⟨by rw[bp (by omega)]at c;simpa using c⟩;clear c;go_in;go_wp21
 have u:=j (.cells #[Q S N.k,Q S N.f,Q S N.t,Q S N.l,Q S N.op,Q S N.n,Y N.x,A3 G a I,A3 H E J] 62);generalize w.alloc (.cells #[Q S N.k,Q S N.f,Q S N.t,Q S N.l,Q S N.op,Q S N.n,Y N.x,A3 G a I,A3 H E J] 62)=F at u⊢;clear j;go_loopw [24,8] (λC _ wr=>∃(b:Nat),C= Q S b/\b<=a/\Fl N.nm (a-b) b i/\A5 F.heap.size F wr) (λC _ _=>a-(B1 C).toNat)
 case atStart=>exact⟨0,rfl,by omega,g,ai _ _⟩
 case round=>
  obtain⟨b,rfl,av,ad,y⟩:=hrel;have m:=u.trans (y.mono u.size);have d:=ad.out;by_cases an:b<a
  .obtain⟨s,o⟩:=cA af.out an;have ax:=r.2 s (dz o);obtain⟨a0,rfl,au⟩:=(r.1.below m).get o;rw[show a-b=(a-(b+1))+1 by omega,ug,aK,o,iu]at d;have ak:(b:Int)<(a:Int):=by omega
   have p:=yc s (by omega) wr;clear o;cases hx:lh s with
   |true=>
    rw[hx,gB]at d;rw[hx]at p;have h:Fl N.nm (a-(b+1)) (b+1) i:=⟨d⟩;clear d hx;go_wp2_with (go_at_call 163;refine p.mono ?_;rintro e ao ⟨rfl,z⟩);exact⟨⟨b+1,by go_num,by omega,h,y.trans (z.mono y.size)⟩,by simp[B1];omega⟩
   |false=>
    rw[hx,fw]at d;rw[hx]at p;have h:=aq d;clear d hx;go_wp2_with (go_at_call 163;refine p.mono ?_;rintro e ao ⟨rfl,z⟩);go_ret;exact⟨by rw[<-h.out];rfl,m.trans (z.mono m.size)⟩
  .rw[show a-b=0 by omega,ug]at d;have h:=aq d;have ak:¬(b:Int)<(a:Int):=by omega
   clear d;go_wp21
   go_ret;exact⟨by rw[<-h.out];rfl,m⟩
def xd(x:ByteArray):Bool:=decide (x.toList=[])
def bF(N:Nd)(op b c a:Bool):Bool:=(op||N.op==0)&&(b||N.n==0)&&(c||xd N.x)&&(a||decide (N.nm.length=0))
def L9(w:V)(N:Nd)(vn vk:Ax)(h:dk w vn N.nm)(g:dB w vk N.ks)(r:N.nm.length<=1048576)(a b c d:Bool):
  Z M 158 #[jl N vn vk,A0 a,A0 b,A0 c,A0 d] w λe w'=>e= O (A0 (bF N a b c d))/\A5 w.heap.size w w':=by
 have j:=aq (dE w);obtain⟨n,p,rfl⟩:=h.form;obtain⟨o,q,rfl⟩:=g.form;clear h g;obtain⟨m,f⟩:=aF (bF N a b c d);rw[f];unfold jl;generalize N.ks.length=l;unfold bF xd at f;by_cases k:N.x.toList=[];all_goals
  simp only[k,decide_true,decide_false]at f;have i:=aq f;clear f;cases t4:((N.nm.length:Int)==0);all_goals
   go_in;go_wp2;all_goals
    go_ret;exact⟨by rw[<-i.out];simp at t4;simp[*],j _⟩
open Go.Lib (strCells strCells_length wpList_append_own_string)
def amd:(Tryz.prog.info? 5).map (λi=>(i.zero,i.size,i.bytes))=U (U (Q .u8 0),1,1):=by kernel_rfl
def GJ(a b:ByteArray):strCells (a++b)=strCells a++strCells b:=by
 unfold strCells;rw[show(a++b).data=a.data++b.data from kC];simp
structure Kq (b:Nat) (w w':V):Prop where
 os:w'.os=w.os
 tape:w'.tape=w.tape
 output:w'.output=w.output
 size:w.heap.size<=w'.heap.size
 block:∀k,k<w.heap.size->k≠b->(∀cs fr,w.heap[k]?≠U (.cells cs 5 fr))->w'.heap[k]?=w.heap[k]?
def Kq.refl(b:Nat)(w:V):Kq b w w:=⟨rfl,rfl,rfl,ag _,λ_ _ _ _=>rfl⟩
def Kq.trans{x f z:V}(h:Kq b x f)(k:Kq b f z):Kq b x z:=
 ⟨k.os.trans h.os,k.tape.trans h.tape,k.output.trans h.output,bG h.size k.size,λe c d a=>
  (k.block e (ip c h.size) d (λg i=>by rw[h.block e c d a];exact a g i)).trans (h.block e c d a)⟩
def Kq.of_below(h:A5 w.heap.size w w'):Kq b w w':=⟨h.os,h.tape,h.output,h.size,λc a _ _=>h.block c a⟩
structure Pr (w0:V) (vt:Ax) (T:ByteArray) (tab:Int) (W:V):Prop where
 bel:A5 w0.heap.size w0 W
 row:∃o,W.heap[w0.heap.size]?=U (.cells #[vt,o,.int .i64 tab] 122 (0,0))/\W.ownsRow (w0.heap.size+1) 5 1 o T.size (strCells T)
def Pr.lt{tab:Int}(h:Pr w0 vt T tab W):w0.heap.size<W.heap.size:=by
 obtain⟨c,a,b⟩:=h.row;exact aj a
def Pr.below{tab:Int}{b:V}(h:Pr w0 vt T tab W)(a:A5 W.heap.size W b):Pr w0 vt T tab b:=by
 obtain⟨e,c,d⟩:=h.row;exact⟨h.bel.trans (a.mono h.bel.size),e,(a.block _ (aj c)).trans c,cJ d a⟩
def afi{p:Nat}{o:Ax}{cs:Array Ax}{t:TypeId}{fr:Nat×Nat}(c:W.heap[p]?=U (.cells cs t fr))(ht:t≠5)(d:W.ownsRow base 5 1 o n xs)(g:Nat)(a:o.ownBlock=U g):g≠p/\base<=g:=by
 refine⟨?_,(d.lt g a).1⟩;rintro rfl;rcases d.2 with⟨b,_⟩|⟨e,h,i,b,_,f,_⟩
 .rw[b]at a;simp[A2]at a
 .rw[b]at a;obtain rfl:e=g:=by simpa [A2] using a
  rw[f]at c;cases c;exact ht rfl
def Pr.put{g:Ax}{d:Int}(e:A5 w0.heap.size w0 W)(b:W.heap[w0.heap.size]?=U (.cells #[vt,g,Q S d] 122 (0,0))){o:Ax}(c:W.ownsRow (w0.heap.size+1) 5 1 o T.size (strCells T)):Pr w0 vt T d (W.setCell ⟨w0.heap.size,1,X⟩ o):=
 ⟨e.setCell (ag _) _,o,aL _ _ 1 _ _ _ b,c.kept (row:=U w0.heap.size) ⟨rfl,rfl,rfl,by simp[A9],λj i f=>aC _ _ _ _ (λa=>f (by rw[a]))⟩ (by
  cases hv:o.ownBlock with
  |none=>exact .inl rfl
  |some h=>exact .inr (λa=>by cases a;exact(afi b (by decide) c _ hv).1 rfl))⟩
def Pr.putTab{g:Int}(h:Pr w0 vt T g W)(e:Int):Pr w0 vt T e (W.setCell ⟨w0.heap.size,2,X⟩ (Q S e)):=by
 obtain⟨d,b,c⟩:=h.row;exact⟨h.bel.setCell (ag _) _,d,aL _ _ 2 _ _ _ b,c.kept (row:=U w0.heap.size) ⟨rfl,rfl,rfl,by simp[A9],λk j f=>aC _ _ _ _ (λa=>f (by rw[a]))⟩ (by
  cases hv:d.ownBlock with
  |none=>exact .inl rfl
  |some i=>exact .inr (λa=>by cases a;exact(afi b (by decide) c _ hv).1 rfl))⟩
def Kq.putP(b:Nat)(W:V)(i:Nat)(v:Ax):Kq b W (W.setCell ⟨b,i,X⟩ v):=
 ⟨rfl,rfl,rfl,by simp[A9],λd c a _=>aC _ _ _ _ a⟩
def Pr.cells{tab:Int}(h:Pr w0 vt T tab W):W.cell? ⟨w0.heap.size,0,X⟩=U vt/\W.cell? ⟨w0.heap.size,2,X⟩=U (Q S tab)/\∀j,W.frozen? ⟨w0.heap.size,j,X⟩=Br:=by
 obtain⟨c,a,b⟩:=h.row;exact⟨by rw[am _ _ _ _ _ _ a];rfl,by rw[am _ _ _ _ _ _ a];rfl,λj=>ch _ _ _ _ _ a⟩
def gl(a:V)(q:Ax)(T s:ByteArray)(tab:Int)(w:V)(h:Pr a q T tab w)(E:T.size+s.size<=140737488355328):
  Z M 50 #[.pointer (U ⟨a.heap.size,0,X⟩),.string s] w λe w'=>e= .returned (.tuple #[])/\Pr a q (T++s) tab w'/\Kq a.heap.size w w':=by
 obtain⟨ao,d,f⟩:=h.row;have u:=h.bel;obtain⟨i,p⟩:=aF T.size;rw[p]at f E;obtain⟨k,l,rfl⟩:=bJ f;obtain⟨H,I,J,K,L⟩:=eD amd;have F:=aj d;have ad:w.cell? ⟨a.heap.size,1,X⟩=U (.slice k i l):=by rw[am _ _ _ _ _ _ d];rfl
 have v:=afi d (by decide) f;have c:=Cn f d p u;clear f d p h u;go_in;go_wp2_with (at_builtin;refine wpList_append_own_string _ rfl _ _ 22 9 rfl (a.heap.size+1) 5 H Tryz.underlying22 Tryz.underlying9 I J K L _ _ _ rfl c.1 s rfl (by unfold maxLen;omega) (by omega) (by omega) ?_;intro ap w5 x b an;obtain⟨r,t,rfl⟩:=bJ x;have n:=(b.block _ F (λe=>(v _ e.symm).1 rfl)).trans c.2.1;have ar:w5.cell? ⟨a.heap.size,1,X⟩=U (.slice k i l):=(by rw[am _ _ _ _ _ _ n];rfl);have al:w5.frozen? ⟨a.heap.size,1,X⟩=Br:=ch _ _ _ _ _ n);have z:Pr a q (T++s) tab (w5.setCell ⟨a.heap.size,1,X⟩ (.slice r (i+s.size) t)):=Pr.put (c.2.2.2.grown b (by omega) (λg o=>by have:=(v g o).2;omega)) n (by rw[ay,c.out.2.2.1,GJ];exact x);have y:Kq a.heap.size w (w5.setCell ⟨a.heap.size,1,X⟩ (.slice r (i+s.size) t)):=by
  refine⟨b.os,b.tape,b.output,by simp[A9];exact b.size,λg o G C=>?_⟩;rw[aC _ _ _ _ G];refine b.block g o (λe=>?_);have j:(Value.slice k i l).ownBlock=U g:=e.symm;rcases c.1.2 with⟨m,_⟩|⟨A,af,ak,m,_,B,_⟩
  .rw[m]at j;simp[A2]at j
  .rw[m]at j;obtain rfl:A=g:=by simpa [A2] using j
   exact C _ _ B
 go_end0
 exact⟨rfl,z,y⟩
end Go.Proofs.YtnoembpaejlaeaaGreatDoor
namespace Go.Proofs.YtnoembpaejlaeaaGreatDoor
open Go.RowKit
variable{T:ByteArray}{W w w' w0:World}{b base lo n:Nat}{v vt:Value}{xs:List Value}
def EB:Nat->ByteArray
 |0=>B0
 |n+1=>EB n++⟨#[9]⟩
def iB(t:Nat):ByteArray:=⟨#[10]⟩++EB t
def vB:∀t,(EB t).size=t
 |0=>rfl
 |t+1=>by rw[EB,ay,vB t];rfl
def nG(t:Nat):(iB t).size=t+1:=by rw[iB,ay,vB];show 1+t=_;omega
def iz:ByteArray:=⟨#[44,32]⟩
def aaa(a:Bool×ByteArray)(x:ByteArray):Bool×ByteArray:=(B3,(if a.1=B3 then a.2++iz else a.2)++x)
def adt(l:List ByteArray):Bool×ByteArray:=l.foldl aaa (Br,B0)
def fc(l:List ByteArray):ByteArray:=(adt l).2
def Fp(l:List ByteArray)(x:ByteArray):adt (l++[x])=aaa (adt l) x:=by unfold adt;rw[List.foldl_append];rfl
def afj:∀l:List ByteArray,(adt l).1=!l.isEmpty:=by
 intro l;rcases List.eq_nil_or_concat l with rfl|⟨a,b,rfl⟩
 .rfl
 .rw[List.concat_eq_append,Fp];unfold aaa;simp
def rC(l:List ByteArray)(k:Nat)(x:ByteArray)(f:l[k]?=U x):fc (l.take (k+1))=(if k=0 then fc (l.take k) else fc (l.take k)++iz)++x:=by
 obtain⟨b,e⟩:=List.getElem?_eq_some_iff.1 f;have d:l.take (k+1)=l.take k++[x]:=by rw[List.take_succ_eq_append_getElem b,e]
 unfold fc;rw[d,Fp];unfold aaa;simp only;rw[afj];by_cases a:k=0
 .subst a;simp
 .rw[aa a,ab];cases l with
  |nil=>simp at b
  |cons g h=>obtain⟨c,rfl⟩:∃c,k=c+1:=⟨k-1,by omega⟩;simp
def afk(l:List ByteArray)(k:Nat):(fc (l.take k)).size<=(fc (l.take (k+1))).size:=by
 by_cases a:k<l.length
 .rw[rC l k _ (aA a),ay];split
  .omega
  .rw[ay];omega
 .rw[db (by omega),db (by omega)];exact ag _
def BD(l:List ByteArray)(k:Nat):(fc (l.take k)).size<=(fc l).size:=by
 have b:∀a,(fc (l.take k)).size<=(fc (l.take (k+a))).size:=by
  intro a
  induction a with
  |zero=>exact ag _
  |succ a c=>exact bG c (afk l (k+a))
 have:=b l.length
 rwa [db (show l.length<=k+l.length by omega)]at this
def Jj(b:V)(d:Ax)(T:ByteArray)(t:Nat)(w:V)(h:Pr b d T t w)(ht:t<=1000000)(q:T.size+(t+1)<=140737488355328):
  Z M 168 #[.pointer (U ⟨b.heap.size,0,X⟩)] w λe w'=>e= O (B5 #[])/\Pr b d (T++iB t) t w'/\Kq b.heap.size w w':=by
 have k:=aq h;clear h;go_in;go_wp2_with (go_at_call 50;refine(gl b d T _ _ _ k (by show T.size+1<=_;omega)).mono ?_;rintro e w1 ⟨rfl,i,g⟩);have j:=gE i g;clear i g;go_loopw [2] (λf wr=>∃a:Nat,a<=t/\f= Q S a/\Hid (Pr b d (T++(⟨#[10]⟩++EB a)) t wr/\Kq b.heap.size w wr)) (λf _=>t-(B1 f).toNat)
 case atStart=>exact⟨0,by omega,rfl,by rw[show(⟨#[10]⟩:ByteArray)++EB 0=⟨#[10]⟩ from rfl];exact j⟩
 case round=>
  obtain⟨a,p,rfl,c⟩:=hrel;obtain⟨m,n,o⟩:=c.1.cells;by_cases r:a<t
  .go_wp2_with (go_at_call 50;refine(gl b d _ _ _ _ c.1 (by rw[ay,ay,vB];show T.size+(1+a)+1<=_;omega)).mono ?_;rintro e s ⟨rfl,p2,l⟩);refine⟨⟨a+1,by omega,by go_num,?_⟩,by simp[B1];omega⟩;refine⟨?_,c.2.trans l⟩;rw[show T++((⟨#[10]⟩:ByteArray)++EB (a+1))=T++(⟨#[10]⟩++EB a)++⟨#[9]⟩ by rw[EB,dh,dh]];exact p2
  .obtain rfl:a=t:=by omega
   go_wp21
   go_end0
   exact⟨rfl,c.1,c.2⟩
def adu(b:V)(f vn:Ax)(l:List ByteArray)(T:ByteArray)(t:Int)(w:V)(h:Pr b f T t w)(q:dk b vn l)(J:l.length<=1048576)(ak:T.size+(fc l).size<=140737488355328):
  Z M 96 #[.pointer (U ⟨b.heap.size,0,X⟩),vn] w λe w'=>e= O (B5 #[])/\Pr b f (T++fc l) t w'/\Kq b.heap.size w w':=by
 have o:=gE h q;obtain⟨K,L,rfl⟩:=q.form;clear h q;obtain⟨m,p⟩:=aF l.length;rw[p]at J o⊢;have y:=aq p;clear p;go_in;go_wp21
 go_loopw [8] (λs wr=>∃a:Nat,a<=m/\s= Q S a/\Hid (Pr b f (T++fc (l.take a)) t wr/\Kq b.heap.size w wr)) (λs _=>m-(B1 s).toNat)
 case atStart=>exact⟨0,by omega,rfl,by rw[show T++fc (l.take 0)=T from ByteArray.append_empty];exact o.1,Kq.refl _ _⟩
 case round=>
  obtain⟨a,af,rfl,c⟩:=hrel;by_cases I:a<m
  .obtain⟨n,r⟩:=cA y.out I;obtain⟨G,rfl,H⟩:=(o.2.below c.1.bel).get r;have B:=rC l a n r;have C:=BD l (a+1);have g:=gE B C;clear B C r;by_cases A:a=0
   .subst A;have d:fc (l.take (0+1))=fc (l.take 0)++n:=by rw[g.out.1,ab rfl]
    have j:=g.2;rw[d,ay]at j;have i:=aq d;clear d g;have ad:wr.cell? G=U (Y n):=by simpa [Addr.add] using H
    go_wp2_with (go_at_call 50;refine(gl b f _ _ _ _ c.1 (by rw[ay];omega)).mono ?_;rintro e u ⟨rfl,p2,k⟩);refine⟨⟨1,by omega,by go_num,?_,c.2.trans k⟩,by simp[B1];omega⟩;rw[show(1:Nat)=0+1 from rfl,i.out,<-dh];exact p2
   .have d:fc (l.take (a+1))=fc (l.take a)++iz++n:=by rw[g.out.1,aa A]
    have j:=g.2;rw[d,ay,ay]at j;have z:iz.size=2:=rfl;have i:=kJ d j z;clear d j z g;go_wp21
    refine(gl b f _ _ _ _ c.1 (by have:=i.2;rw[ay];show _+iz.size<=_;omega)).mono ?_;rintro e u ⟨rfl,p2,k⟩;have v:Hid (Pr b f (T++fc (l.take a)++iz) t u/\Kq b.heap.size wr u):=⟨p2,k⟩;clear p2 k;go_wp21
    refine(gl b f _ _ _ _ v.1 (by have:=i.2;rw[ay,ay];omega)).mono ?_;rintro e al ⟨rfl,F,E⟩;have x:=gE F E;clear F E;go_wp21
    refine⟨⟨a+1,by omega,by go_num,?_,(c.2.trans v.2).trans x.2⟩,by simp[B1];omega⟩;rw[i.out.1,<-dh,<-dh];exact x.1
  .obtain rfl:a=m:=by omega
   go_wp21
   go_end0
   refine⟨rfl,?_,c.2⟩;have:=c.1
   rwa [db (by rw[y.out];exact ag _)]at this
def wB:Nat->ByteArray
 |0=>⟨#[115,116,97,116]⟩
 |1=>⟨#[98,108,111,99,107]⟩
 |2=>⟨#[101,108,115,101]⟩
 |3=>⟨#[101,120,112,114]⟩
 |4=>⟨#[98,97,115,101]⟩
 |5=>⟨#[116,97,114,103,101,116]⟩
 |6=>⟨#[99,97,108,108]⟩
 |7=>⟨#[109,97,110,121]⟩
 |8=>⟨#[102,110]⟩
 |_=>⟨#[101,110,116,114,121]⟩
def ms:Nat->Int->Bool
 |0,k=>jz k
 |1,k=>k==1
 |2,k=>k==1||k==7
 |3,k=>gw k
 |4,k=>gw k&&k !=27
 |5,k=>k==26||k==32||k==33
 |6,k=>k==34
 |7,k=>k==34||k==27
 |8,k=>k==36
 |_,k=>decide (40<=k/\k<=42)
def CG(k:Int)(w:V):Z M 257 #[Q S k] w λe w'=>e= O (A0 (gw k))/\w'=w:=by
 unfold gw;rcases(show(20<=k/\k<=37)\/(20<=k/\¬k<=37)\/¬20<=k by omega) with⟨h1,b⟩|⟨h1,b⟩|h1
 .rw[bp ⟨h1,b⟩];go_in;go_wp2;go_ret;exact⟨rfl,rfl⟩
 .rw[aD (λa=>b a.2)];go_in;go_wp2;go_ret;exact⟨rfl,rfl⟩
 .rw[aD (λa=>h1 a.1)];go_in;go_wp2;go_ret;exact⟨rfl,rfl⟩
def adv(k:Int)(w:V):Z M 236 #[Y ⟨#[115,116,97,116]⟩,Q S k] w λe w'=>e= O (A0 (ms 0 k))/\w'=w:=by
 rcases(show(1<=k/\k<=16)\/(1<=k/\¬k<=16)\/(¬1<=k) by omega) with⟨h0,a⟩|⟨h0,a⟩|h0
 .rw[show ms 0 k=B3 from bp (by omega)];go_in;go_wp2;go_ret;exact⟨rfl,rfl⟩
 .rw[show ms 0 k=Br from aD (by omega)];go_in;go_wp2;go_ret;exact⟨rfl,rfl⟩
 .rw[show ms 0 k=Br from aD (by omega)];go_in;go_wp2;go_ret;exact⟨rfl,rfl⟩
def adw(k:Int)(w:V):Z M 236 #[Y ⟨#[98,108,111,99,107]⟩,Q S k] w λe w'=>e= O (A0 (ms 1 k))/\w'=w:=by
 unfold ms;go_in;go_wp2;go_ret;exact⟨rfl,rfl⟩
def adx(k:Int)(w:V):Z M 236 #[Y ⟨#[101,108,115,101]⟩,Q S k] w λe w'=>e= O (A0 (ms 2 k))/\w'=w:=by
 unfold ms;rcases(show(k=1)\/(k=7)\/(¬k=1/\¬k=7) by omega) with rfl|rfl|⟨a,b⟩
 .go_in;go_wp2;go_ret;exact⟨rfl,rfl⟩
 .go_in;go_wp2;go_ret;exact⟨rfl,rfl⟩
 .go_in;go_wp2;go_ret;exact⟨rfl,rfl⟩
def ady(k:Int)(w:V):Z M 236 #[Y ⟨#[101,120,112,114]⟩,Q S k] w λe w'=>e= O (A0 (ms 3 k))/\w'=w:=by
 have b:=λw=>CG k w;obtain⟨c,a⟩:=aF (gw k);show Z _ _ _ _ λe w'=>e= O (A0 (gw k))/\w'=w;rw[a]at b⊢;clear a;go_in;go_wp2_with (go_at_call 257;refine ft (b _) ?_);go_ret;exact⟨rfl,rfl⟩
def adz(k:Int)(w:V):Z M 236 #[Y ⟨#[98,97,115,101]⟩,Q S k] w λe w'=>e= O (A0 (ms 4 k))/\w'=w:=by
 have a:=λw=>CG k w;obtain⟨c,b⟩:=aF (gw k);show Z _ _ _ _ λe w'=>e= O (A0 (gw k&&k !=27))/\w'=w;rw[b]at a⊢;clear b;cases c
 .rw[fw];go_in;go_wp2_with (go_at_call 257;refine ft (a _) ?_);go_ret;exact⟨rfl,rfl⟩
 .rw[gB];go_in;go_wp2_with (go_at_call 257;refine ft (a _) ?_);go_ret;exact⟨rfl,rfl⟩
def adA(k:Int)(w:V):Z M 236 #[Y ⟨#[116,97,114,103,101,116]⟩,Q S k] w λe w'=>e= O (A0 (ms 5 k))/\w'=w:=by
 unfold ms;rcases(show(k=26)\/(k=32)\/(k=33)\/(¬k=26/\¬k=32/\¬k=33) by omega) with rfl|rfl|rfl|⟨a,b,c⟩
 .go_in;go_wp2;go_ret;exact⟨rfl,rfl⟩
 .go_in;go_wp2;go_ret;exact⟨rfl,rfl⟩
 .go_in;go_wp2;go_ret;exact⟨rfl,rfl⟩
 .go_in;go_wp2;go_ret;exact⟨rfl,rfl⟩
def adB(k:Int)(w:V):Z M 236 #[Y ⟨#[99,97,108,108]⟩,Q S k] w λe w'=>e= O (A0 (ms 6 k))/\w'=w:=by
 unfold ms;go_in;go_wp2;go_ret;exact⟨rfl,rfl⟩
def adC(k:Int)(w:V):Z M 236 #[Y ⟨#[109,97,110,121]⟩,Q S k] w λe w'=>e= O (A0 (ms 7 k))/\w'=w:=by
 unfold ms;rcases(show(k=34)\/(k=27)\/(¬k=34/\¬k=27) by omega) with rfl|rfl|⟨a,b⟩
 .go_in;go_wp2;go_ret;exact⟨rfl,rfl⟩
 .go_in;go_wp2;go_ret;exact⟨rfl,rfl⟩
 .go_in;go_wp2;go_ret;exact⟨rfl,rfl⟩
def adD(k:Int)(w:V):Z M 236 #[Y ⟨#[102,110]⟩,Q S k] w λe w'=>e= O (A0 (ms 8 k))/\w'=w:=by
 unfold ms;go_in;go_wp2;go_ret;exact⟨rfl,rfl⟩
def adE(k:Int)(w:V):Z M 236 #[Y ⟨#[101,110,116,114,121]⟩,Q S k] w λe w'=>e= O (A0 (ms 9 k))/\w'=w:=by
 rcases(show(40<=k/\k<=42)\/(40<=k/\¬k<=42)\/(¬40<=k) by omega) with⟨h0,a⟩|⟨h0,a⟩|h0
 .rw[show ms 9 k=B3 from bp (by omega)];go_in;go_wp2;go_ret;exact⟨rfl,rfl⟩
 .rw[show ms 9 k=Br from aD (by omega)];go_in;go_wp2;go_ret;exact⟨rfl,rfl⟩
 .rw[show ms 9 k=Br from aD (by omega)];go_in;go_wp2;go_ret;exact⟨rfl,rfl⟩
def GK(i:Nat)(a:i<10)(k:Int)(w:V):Z M 236 #[Y (wB i),Q S k] w λe w'=>e= O (A0 (ms i k))/\w'=w:=by
 match i,a with
 |0,_=>exact adv k w
 |1,_=>exact adw k w
 |2,_=>exact adx k w
 |3,_=>exact ady k w
 |4,_=>exact adz k w
 |5,_=>exact adA k w
 |6,_=>exact adB k w
 |7,_=>exact adC k w
 |8,_=>exact adD k w
 |9,_=>exact adE k w
end Go.Proofs.YtnoembpaejlaeaaGreatDoor
namespace Go.Proofs
open Go.Shelf
def Tryz.lays212_ren:Go.Shelf.Ren:=⟨λ|212=>229|263=>250|264=>251|n=>n,λ|46=>204|51=>268|146=>269|53=>34|148=>271|n=>n,λ|n=>n⟩
def Tryz.lays212:Go.Proofs.Lays.n212 M Tryz.lays212_ren:={
 mixed:=by kernel_rfl
 f212:=Tryz.func229.trans (congrArg U (by kernel_rfl))
 f263:=Tryz.func250.trans (congrArg U (by kernel_rfl))
 f264:=Tryz.func251.trans (congrArg U (by kernel_rfl))
 t46:=Tryz.underlying204
 a46:=Tryz.isAgg204
 z46:=Tryz.sizeOf204
 v46:=Tryz.zeroValue204
 t51:=Tryz.underlying268
 a51:=Tryz.isAgg268
 z51:=Tryz.sizeOf268
 v51:=Tryz.zeroValue268
 t53:=Tryz.underlying34
 a53:=Tryz.isAgg34
 z53:=Tryz.sizeOf34
 v53:=Tryz.zeroValue34
 t146:=Tryz.underlying269
 a146:=Tryz.isAgg269
 z146:=Tryz.sizeOf269
 v146:=Tryz.zeroValue269
 t148:=Tryz.underlying271
 a148:=Tryz.isAgg271
 z148:=Tryz.sizeOf271
 v148:=Tryz.zeroValue271}
open Go.RowKit Go.Lib in
def Tryz.bits_Mul(x a:Nat)(b:x<18446744073709551616)(c:a<18446744073709551616)(w:V):
  Z M 229 #[Q .u64 x,Q .u64 a] w λe w'=>e= O (B5 #[Q .u64 ((x*a / 18446744073709551616:Nat):Int),Q .u64 ((x*a%18446744073709551616:Nat):Int)])/\w'=w:=Any.bits_Mul Tryz.lays212 x a b c w
end Go.Proofs
