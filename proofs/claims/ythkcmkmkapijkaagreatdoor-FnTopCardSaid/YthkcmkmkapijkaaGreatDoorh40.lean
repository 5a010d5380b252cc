import Derived.Test.YthkcmkmkapijkaaGreatDoorh16
import Derived.Test.YthkcmkmkapijkaaGreatDoorh29
import Derived.Test.YthkcmkmkapijkaaGreatDoorh38
set_option linter.all false
set_option maxRecDepth 100000
set_option maxHeartbeats 25600000
open List renaming length->V,set->B5,range->D1
open Option renaming some->Ax,none->Br
open Go.Value renaming slice->A0,ownBlock->A1,string->A9,slice->B0,iface->B7,string->B9,agg->C2
open Bool renaming true->A2,false->B2
open Go.Obj renaming cells->A3
open Go renaming Value->A5,World->B1,TypeId->B4,wp_region_held_drew->B6
open Go.World renaming news_of_block->B3
namespace Go.Proofs.YthkcmkmkapijkaaGreatDoor
open Go.RowKit Go.Maps Go.WideMaps
variable{E:Pe}{N:Nd}{T:Bz}{b g i j k n r:Nat}{l:zLW}{s:Int}{t:Tsk}{v vn:Value}{w:World}
inductive Fd:zLI->zLT->zLI->Prop where|nil {st:zLI}:Fd st [] st|cons {st:zLI}{T:Tk}{ts:zLT}{st':zLI}:1<=T.k->T.k<=78->T.k≠6->(feedL st T.k).2=true->Fd (feedL st T.k).1 ts st'->Fd st (T::ts) st'
theorem anF(b c r)(d:40<=c):∀(f i)(a),a.1≠6->(A4 b c r f i a).1≠6
 |0,i,a,h=>h|f+1,i,a,h=>by
  unfold A4;apply anF b _ r d f _ _;grind
theorem ah1(s p)(h:(rdI s p).ok=A2):tG s p≠6:=by
 unfold tG;rw[ae h];grind [rdI,Hj,xm,qA,anF]
theorem IE(s):∀(f)(b)(p)(l)(i)(R1)(d),sJ s f b p l i=(R1,d, -1)->∃ts c,R1=i++ts++[⟨6,(s.size:Nat),(s.size:Nat),c,0,zE0⟩]/\Fd b ts d
 |0,b,p,l,i,R1,d,h=>by simp[sJ]at h|f+1,b,p,l,i,R1,d,h=>by
  rw[sJ]at h;split at h
  .simp only[oI]at h;exact⟨[],l,U,by rw[<-h.2.1];exact .nil⟩
  split at h
  .split at h
   .rename_i g;obtain⟨ts,c,e,j⟩:=IE s f _ _ _ _ _ _ h;exact⟨⟨5,p,((rdI s p).a),l,(rdI s p).n,(rdI s p).x⟩::ts,c,U,.cons U U U g j⟩
   .exact IE s f _ _ _ _ _ _ h
  split at h
  .rename_i o g;split at h
   .rename_i m;have⟨r,t⟩:=Hw s p m;have q:tG s p=(rdI s p).k:=by grind [tG]
    rw[show C0 b (tG s p)=feedL b (tG s p) by grind [C0]]at g;obtain⟨ts,c,e,j⟩:=IE s f _ _ _ _ _ _ h;exact⟨⟨tG s p,p,((rdI s p).a),l,(rdI s p).n,(rdI s p).x⟩::ts,c,U,.cons U U (ah1 s p m) g j⟩
   grind
  grind
theorem as2{ts a b}(h:Fd a ts b):∀{T},T∈ts->1<=T.k/\T.k<=78/\T.k≠6:=by
 induction h with
 |nil=>grind|cons c d e f g i=>
  grind
def zTk:Tk:=⟨0,0,0,0,0,zE0⟩
def rJ(ts:zLT)(q:Nat):Tk:=ts.getD q zTk
theorem xe{ts q a}(h:ts[q]?=Ax a):rJ ts q=a:=by grind [rJ]
def Fo.all(p:Nd->Prop):Fo->Prop| .nil=>True| .cons N k r=>p N/\k.all p/\r.all p
def gx(p):∀(a b:Fo),(a.app b).all p↔a.all p/\b.all p| .nil,b=>by simp[Fo.app,Fo.all]| .cons N k r,b=>by simp[Fo.app,Fo.all,gx,and_assoc]
theorem bu(p N k):(one N k).all p↔p N/\k.all p:=by simp[one,Fo.all]
def Gd(tk:Nat->Tk)(n:Nat)(N:Nd):Prop:=(N.x=z0\/∃a,N.x=(tk a).x)/\V N.nm<=n/\∀x∈N.nm,∃a,x=(tk a).x
def ayb(tk:Nat->Tk)(n:Nat):Tsk->Prop| .more _ _ x=>x.all<|Gd tk n| .post _ B=>B.all<|Gd tk n|_=>True
section
variable {tk : Nat → Tk} {n : Nat}
def gd0(k s e b m):Gd tk n (nd k s e b m z0 []):=⟨.inl R,leZ,λ_ a=>by cases a⟩
def gdx(k s e b m q):Gd tk n (nd k s e b m (tk q).x []):=⟨.inr ⟨q,R⟩,leZ,λx a=>by cases a⟩
def gd1(h:0<n)(k s e b m q):Gd tk n (nd k s e b m z0 [(tk q).x]):=⟨.inl R,h,λx a=>⟨q,ic.1 a⟩⟩
def gdb(k s e):Gd tk n (uF k s e):=by unfold uF;split;exact gd0 ..;split;exact gd0 ..;exact gd0 ..
theorem gdh(N ks s e)(h:Gd tk n N)(a:ks.all (Gd tk n)):(lI N ks s e).all (Gd tk n):=by
 unfold lI;split
 .rw[bu,bu];exact⟨gd0 ..,h,a⟩
 grind [bu]
theorem Kd.gd{a}(h:Kd tk n i a j):i+2*V a<=j/\j<n/\∀x∈a,∃q,x=(tk q).x:=by
 induction h with
 |stop b c=>grind|go b c d _ e=>
  grind
theorem Prm.gd{c r}(h:Prm tk n i c r j):i+V c<=j/\j<=n/\∀x∈c,∃q,x=(tk q).x:=by
 induction h with
 |close a b=>grind|rest a b d=>grind|last a b d=>grind|go a b d _ e=>
  grind
theorem gdn{q a}(h:Kd tk n i a j)(k s e b m):Gd tk n (nd k s e b m z0 ((tk q).x::a)):=by
 have⟨_,_,_⟩:=h.gd;refine⟨.inl R,by show V a+1<=n;omega,λx hx=>?_⟩;obtain rfl|hx:=dI.1 hx;all_goals grind
theorem P.gd{R1}(h:P tk n t i R1 j):ayb tk n t->R1.all (Gd tk n):=by
 induction h
 case tlet0 h1 h2 h3 h4 h5=>intro _;rw[bu];exact⟨gdn h4 ..,trivial⟩
 case tlet h1 h2 h3 h4 h5 h6 ih=>intro _;rw[bu];exact⟨gdn h4 ..,ih trivial⟩
 case tfor h1 h2 h3 h4 h5 h6 h7 i1 i2=>intro _;rw[bu,gx];exact⟨gdn h4 ..,i1 trivial,i2 trivial⟩
 case teach h1 h2 h3 h4 h5 h6 h7 h8 h9 i1 i2=>intro _;rw[bu,gx];exact⟨gdn h4 ..,i1 trivial,i2 trivial⟩
 case ttry h1 h2 h3 h4 h5 h6 h7 h8 i1 i2=>intro _;rw[bu,gx];exact⟨gdn h7 ..,i1 trivial,i2 trivial⟩
 case body nm r B h1 h2 h3 h4 ih=>intro _;rw[bu];exact⟨⟨.inl R,by have:=h3.gd;show V nm<=n;omega,h3.gd.2.2⟩,ih trivial⟩
 case bopen h1 h2 h3 h4 h5 h6 i1 i2=>intro _;have:=i1 trivial;rw[bu]at this;exact i2<|gdh _ _ _ _ this.1 this.2
 case tcon h1 h2 h3 h4 h5 ih=>intro _;rw[bu];exact⟨gd1 O ..,ih trivial⟩
 case tfn h1 h2 h3 h4 h5 ih=>intro _;rw[bu];exact⟨gd1 O ..,ih trivial⟩
 all_goals
  intro _
  simp_all only[bu,gx,ayb,Fo.all,gdx,gd0,lF,gdb,and_self,true_implies,forall_const]
end
def Fo.nms:Fo->Nat| .nil=>0| .cons N k r=>V N.nm+k.nms+r.nms
theorem tL:∀(a b:Fo),(a.app b).nms=a.nms+b.nms| .nil,b=>by simp[Fo.app,Fo.nms]| .cons N k r,b=>by simp[Fo.app,Fo.nms,tL];omega
theorem rB(N k):(one N k).nms=V N.nm+k.nms:=by rfl
theorem anG(N ks s e):(lI N ks s e).nms=(one N ks).nms:=by
 grind [lI,rB,lF,nd]
theorem IF(k s e a m x nm):(nd k s e a m x nm).nm=nm:=rfl
def avb(k s e):(uF k s e).nm=[]:=by unfold uF;split;rfl;split<;>rfl
def aa7:Tsk->Nat| .more _ _ x=>x.nms| .post _ B=>B.nms|_=>0
theorem P.nms{tk R1}(h:P tk n t i R1 j):R1.nms+i<=aa7 t+j:=by
 induction h
 case tlet0 h1 h2 h3 h4 h5=>have:=h4.gd;grind [rB,tL,aa7,IF,Fo.nms,List.length_cons]
 case tlet h1 h2 h3 h4 h5 h6 ih=>have:=h4.gd;grind [rB,tL,aa7,IF,Fo.nms,List.length_cons]
 case tfor h1 h2 h3 h4 h5 h6 h7 i1 i2=>have:=h4.gd;grind [rB,tL,aa7,IF,Fo.nms,List.length_cons]
 case teach h1 h2 h3 h4 h5 h6 h7 h8 h9 i1 i2=>have:=h4.gd;grind [rB,tL,aa7,IF,Fo.nms,List.length_cons]
 case ttry h1 h2 h3 h4 h5 h6 h7 h8 i1 i2=>have:=h7.gd;grind [rB,tL,aa7,IF,Fo.nms,List.length_cons]
 case body h1 h2 h3 h4 ih=>have:=h3.gd;grind [rB,tL,aa7,IF,Fo.nms,List.length_cons]
 all_goals
  simp only[rB,tL,anG,aa7,lF,IF,avb,Fo.nms,dD,jl]at *;omega
theorem IG:∀(R1:Fo)(K b),cnt K (R1.flat b)+R1.len=K+8*R1.sz+R1.nms
 | .nil,K,b=>by rfl| .cons N k r,K,b=>by
  have a:=IG k K b;have c:=IG r (nxt (cnt K<|k.flat b) {N with ks:=k.tops b})<|b+k.sz+1;have d:=k.tops_len b;rw[Fo.flat,alq,cnt]
  simp_all [nxt,cnt,Fo.len,Fo.sz,Fo.nms];omega
theorem ayc(s p)(c:p<s.size):(rdI s p).x.size<=s.size:=by
 have d:∀a b,(s.extract a b).size<=s.size:=λa b=>by rw[lh];omega
 unfold rdI;split
 .show(Hj s p).2.size<=_;unfold Hj;split
  .exact lg _
  grind
 split
 .split
  .show(xm s p).2.2.size<=_;unfold xm;split
   .exact lg _
   split
   .exact lg _
   grind
  simp_all
 split
 .split
  .grind [dK,xD,zr]
  simp_all
 split
 all_goals simp_all
theorem ah2(s):∀(f)(c)(p)(l)(a),(∀T∈a,T.x.size<=s.size)->∀T∈(sJ s f c p l a).1,T.x.size<=s.size
 |0,c,p,l,a,h=>λT g=>by cases g
 |f+1,c,p,l,a,h=>by
  have b:∀(d:Tk),d.x.size<=s.size->∀T∈a++[d],T.x.size<=s.size:=U;rw[sJ];split
  .exact b _ leZ
  .rename_i i;have e:=ayc s p O;split
   .split
    .exact ah2 s f _ _ _ _ (b _ e)
    .exact ah2 s f _ _ _ _ h
   .split
    .split
     .exact ah2 s f _ _ _ _ (b _ e)
     grind
    grind
theorem ah3(s):∀(f)(c)(p)(l)(b),p<=s.size->(sJ s f c p l b).1.length<=V b+(s.size-p)+1
 |0,c,p,l,b,h=>lg _|f+1,c,p,l,b,h=>by
  rw[sJ];split
  .simp
  .rename_i k;have e:∀q,q<=s.size->q<=blk s (s.size+1) q/\blk s (s.size+1) q<=s.size:=λq j=>na s _ q j;split
   .rename_i g;have d:=mH s p O (afa s p g).1;have:=e _ d.2.1;split
    .have:=ah3 s f (feedL c 5).1 (blk s (s.size+1) (rdI s p).a) (l+1) (b++[⟨5,p,((rdI s p).a),l,(rdI s p).n,(rdI s p).x⟩]) O;grind
    .have:=ah3 s f c (blk s (s.size+1) (rdI s p).a) (l+1) b O;omega
   .split
    .split
     .rename_i i;have d:=mH s p O i;have:=e _ d.2.1;have:=ah3 s f (feedL c<|tG s p).1 (blk s (s.size+1) (rdI s p).a) l (b++[⟨tG s p,p,((rdI s p).a),l,(rdI s p).n,(rdI s p).x⟩]) O;grind
     grind
    grind
theorem Dk(p)(a:∀(N) (ks),p N->p {N with ks:=ks}):∀(R1:Fo)(b),R1.all p->∀N∈R1.flat b,p N/\V N.ks<=R1.sz
 | .nil,b,h=>λN hN=>by cases hN
 | .cons e k r,b,h=>λN hN=>by
  have f:=k.len_le;have g:=k.tops_len b;rw[Fo.flat,dg,dI]at hN;obtain hN|rfl|hN:=hN
  .have⟨c,d⟩:=Dk p a k b h.2.1 N hN;grind [Fo.sz]
  .exact⟨a _ _ h.1,by rw[Fo.sz];grind⟩
  .obtain⟨c,d⟩:=Dk p a r _ h.2.2 N hN;grind [Fo.sz]
def qG(s:Bz)(R1:Fo):zLD:=(one ⟨1,0,(s.size:Nat),1,0,0,zE0,[],[]⟩ R1).flat 0
structure PF (s:Bz) (toks:zLT) (m:Nat) (R1:Fo) (lz:Int):Prop where
 len:V toks=m+1
 le:m<=s.size
 p:P (rJ toks) (m+1) .stats 0 R1 m
 k78:∀q,(rJ toks q).k<=78
 k6:∀q,q<m->(rJ toks q).k≠6
 end_:rJ toks m=⟨6,(s.size:Nat),(s.size:Nat),lz,0,zE0⟩
 sz:R1.sz<=200000
 sm:∀N∈qG s R1,iE N
 ct:cnt 1 (qG s R1)<=2000000
theorem as3{s}(B:s.size<=65536){toks i}(h:jz s=(toks,i, -1)){m R1 f}(l:V toks=m+1)(n:rJ toks m=⟨6,(s.size:Nat),(s.size:Nat),f,0,zE0⟩)(c:P (rJ toks) (m+1) .stats 0 R1 m)(o:∀q,q<m->(rJ toks q).k≠6):PF s toks m R1 f:=by
 obtain⟨_,_,a,t⟩:=IE s _ _ _ _ _ _ _ h;rw[ga]at a;have z:=na s (s.size+1) 0 O;have e:=ah3 s (s.size+1) [100,6] (blk s (s.size+1) 0) 1 [] O;have b:=ah2 s (s.size+1) [100,6] (blk s (s.size+1) 0) 1 [] U;have x:sJ s (s.size+1) [100,6] (blk s (s.size+1) 0) 1 []=(toks,i, -1):=h;rw[x]at e b;simp only[jl]at e;have w:=c.pos;simp only[dL,slk,bas]at w;have A:=c.nms;have p:=c.gd trivial;have v:(one ⟨1,0,(s.size:Nat),1,0,0,zE0,[],[]⟩ R1:Fo).sz=R1.sz+1:=dh _ _;have C:∀q,(rJ toks q).x.size<=65536:=λq=>by
  unfold rJ;rw[ed];cases hq:toks[q]? with
  |none=>exact lg _|some d=>grind
 have y:∀q,(rJ toks q).k<=78:=λq=>by
  unfold rJ;rw[ed];cases hq:toks[q]? with
  |none=>show(0:Int)<=78;decide|some d=>
   have:=db hq;rw[a,dg,ic]at this;obtain g|g:=this
   .have:=as2 t g;grind
   grind
 refine⟨l,O,c,y,o,n,O,λd r=>?_,?_⟩
 .obtain⟨g,u⟩:=Dk _ (λd _ h=>h) _ 0 ((bu _ _ R1).2 ⟨⟨.inl R,leZ,λj b=>by cases b⟩,p⟩) d r;rw[v]at u;refine⟨by have:=g.2.1;omega,O,?_,λj b=>?_⟩
  .rcases g.1 with a|⟨q,a⟩
   .rw[a];exact lg _
   grind
  .have⟨q,a⟩:=g.2.2 j b;grind
 .have:=IG (one ⟨1,0,s.size,1,0,0,zE0,[],[]⟩ R1) 1 0
  simp_all [rB,aa7,List,Bz,qG];omega
theorem aa8:∀(ts)(q i)(T),ts[q]?=Ax T->i<6->(DF ts)[q*6+i]?=(cTk T)[i]?
 |[],q,i,T,h,b=>U|a::r,0,i,T,h,b=>by
  simp at h;subst h;show(cTk a++DF r)[0*6+i]?=_;rw[nH (by show 0*6+i<6;omega),Nat.zero_mul,qp]|a::r,q+1,i,T,h,b=>by
  show(cTk a++DF r)[(q+1)*6+i]?=_;rw[jI (by show 6<=_;omega),show(q+1)*6+i-V (cTk a)=q*6+i by show _-6=_;omega];exact aa8 r q i T U b
def anH{c:zAV}{ts tk}(h:c.toList.take (n*6)=DF ts)(j:V ts=n)(g:∀q T,ts[q]?=Ax T->{T with l:=(tk q).l}=tk q/\((tk q).k≠6->T.l=(tk q).l)):TkR c tk n:=by
 intro q _;have d:=bm (O:q<V ts);obtain⟨e,f⟩:=g q _ d;generalize ts[q]=T at d e f;have a:∀b,b<6->c[q*6+b]?=(cTk T)[b]?:=λb i=>by rw[<-aa8 _ q b T d i,<-h,zh,ae O,FC]
 refine⟨_,?_,?_,?_,a 3 O,?_,?_,f⟩;all_goals rw[<-e]
 .exact a 0 O
 .exact a 1 O
 .exact a 2 O
 .exact a 4 O
 .exact a 5 O
def nF(s:Bz):zLT×Int:=ite (0<=(jz s).2.2) ([],(jz s).2.2)<|ite ((feedL (jz s).2.1 6).2=A2) ((jz s).1, -1) ([],(s.size:Nat))
def TkP(s:Bz)(w:B1)(e:Ending)(c:B1):Prop:=∃a b,e= .returned (.tuple #[A0 a (nF s).1.length b,zI (nF s).2])/\c.ownsRow w.heap.size 58 6 (A0 a (nF s).1.length b) (nF s).1.length (DF (nF s).1)/\Below w.heap.size w c
def row3{a b c t}(h:w.heap[r]?=Ax (A3 #[a,b,c] t (0,0))):w.cell? (aj r 0)=Ax a/\w.cell? (aj r 1)=Ax b/\w.cell? (aj r 2)=Ax c/\∀j,w.frozen? (aj r j)=B2:=
 ⟨crV h,crV h,crV h,λj=>frR h⟩
def set3{d e f t}(h:w.heap[r]?=Ax (A3 #[d,e,f] t (0,0)))(a b c):(((w.setCell (aj r 0) a).setCell ⟨r,1,Br⟩ b).setCell ⟨r,2,Br⟩ c).heap[r]?=Ax (A3 #[a,b,c] t (0,0)):=
 aD _ r 2 _ _ _ (aD _ r 1 _ _ _<|aD _ r 0 _ _ _ h)
def as4(h:k≠r)(a b c):(((w.setCell (aj r 0) a).setCell ⟨r,1,Br⟩ b).setCell ⟨r,2,Br⟩ c).heap[k]?=w.heap[k]?:=
 (jg h).trans ((jg h).trans<|jg h)
def KB{a}(h:Below r a w)(b c f):Below r a (((w.setCell (aj r 0) b).setCell ⟨r,1,Br⟩ c).setCell ⟨r,2,Br⟩ f):=by
 have d:Below r a (w.setCell (aj r 0) b):=h.setCell eE _;have e:Below r a ((w.setCell (aj r 0) b).setCell ⟨r,1,Br⟩ c):=d.setCell eE _;exact e.setCell eE _
def Acc(s:Bz):Prop:=(jz s).2.2= -1/\(feedL (jz s).2.1 6).2=A2
def ark(s:Bz)(d:zLD):Prop:=∃a c R1 b,s.size<=65536/\Acc s/\nF s=(a, -1)/\PF s a c R1 b/\bH (qG s R1)=(0,0)/\d=qG s R1
def aj1(s:Bz):Prop:=∀w,Calls Tryz.prog 14 #[B9 s] w<|TkP s w
def psV(c a:Int)(v:A5):A5:=C2 #[zI c,zI a,v]
def Nl(w:B1)(v:A5)(a:zLD):Prop:=∃L lo,L.map Mb.N=a/\Lw w lo v L
def Nl.nds{a}(h:Nl w v a):dE w v a:=by
 obtain⟨_,_,rfl,b⟩:=h;exact b.nds
def afA(w):Nl w fe []:=⟨[],0,R,onN,λ_ a=>by cases a⟩
def PsP(w:B1)(c a:Int)(d:zLD)(e:Ending)(b:B1):Prop:=∃v,e= .returned (psV c a v)/\Nl b v d/\Below w.heap.size w b
def okC(a:zLD):Int:=if(bH a).1=0 then 0 else 2
def okN(a:zLD):zLD:=if(bH a).1=0 then a else []
def fdK:zLI->zLI->Option (zLI)|st,[]=>Ax st|st,k::r=>if(feedL st k).2=A2 then fdK (feedL st k).1 r else Br
def ah4:∀a b c,fdK c (a++b)=(fdK c a).bind λs=>fdK s b
 |[],b,c=>rfl|k::a,b,c=>by
  rw[fh,fdK,fdK];split
  .exact ah4 a b _
  .rfl
section
variable {tk : Nat → Tk} {n : Nat}
theorem ah5{t}(p:(tk i).k=t):∀(f)(u)(c)(lo)(b)(g)(r)(m),fJ f u t c=Ax (lo,Ax b,g)->D tk n m (u++r) i j->b=A2/\∃m',D tk n m' (lo++r) (i+1) j
 |0,_,_,_,_,_,_,_,h,_=>by simp[fJ]at h|f+1,[],_,_,_,_,_,_,h,_=>by simp[fJ]at h|f+1,s::q,c,lo,b,g,r,m,h,d=>by
  by_cases x:s<100
  .obtain⟨rfl,e,_⟩:=qx h x;have e:b=decide (s=t):=U;cases d with
   |tok l y o a=>exact⟨U,_,a⟩|exp l=>omega
  .cases d with
   |tok l=>omega|exp l y o a=>
    rw[p]at o a;obtain⟨v,w⟩|⟨v,_⟩:=kF h O
    .change D tk n _ ((xE s t).1++(q++r)) i j at a
     rw[<-fL]at a;exact ah5 p f _ _ lo b g r _ w a
    grind
theorem anI:∀(b)(m i j),D tk n m b i j->i<j->By b->1<=(tk i).k->(tk i).k<=78->(feedL b (tk i).k).2=A2/\∃m',D tk n m' (feedL b (tk i).k).1 (i+1) j
 |[],m,i,j,d,h,_,_,_=>by cases d;omega
 |s::r,m,i,j,d,h,f,u,g=>by
  have p:By r:=λv t=>f v<|dJ _ t;by_cases w:s<100
  .cases d with
   |tok c l o e=>grind [iK]|exp c=>omega
  .have q:=f s bG;by_cases a:(xE s (tk i).k).1=[]/\(xE s (tk i).k).2=A2
   .rw[kC O a];cases d with
    |tok c=>omega|exp c l o e=>rw[a.1]at e;exact anI r _ i j e h p u g
   .obtain⟨o,e,l,c,_⟩:=uh O q O g a;obtain⟨rfl,m',_⟩:=ah5 R 8 _ 0 o e l r m c d;rw[lD O a c];grind
theorem as5:∀(ks a:zLI)(i m j),D tk n m a i j->j=i+V ks->By a->(∀q k,ks[q]?=Ax k->(tk<|i+q).k=k/\1<=k/\k<=78)->∃r,fdK a ks=Ax r
 |[],a,i,m,j,d,_,_,_=>⟨a,R⟩|k::ks,a,i,m,j,d,h,g,f=>by
  rw[dD]at h;have⟨c,k1,o⟩:=f 0 k R;rw[jy]at c;have⟨e,p,b⟩:=anI a m i j d O g O O;rw[c]at e b;rw[fdK,ae e];exact as5 ks _ _ p j b O (se g k1 o) λq s l=>by
   have:=f (q+1) s l;grind
end
def IH(s:Int):Bool:=s==129||s==130||s==123||s==126
def tmo:zLI->Bool|[]=>B2|a::_=>decide (a<100/\a≠5)
def r5:zLI->Bool|[]=>B2|s::r=>ite (s<100) (decide (s≠5))<|ite (IH s=A2) (tmo r)<|!(xE s 5).2
def Adj:zLI->Prop|[]=>True|t::r=>(t<100->opn t=A2->r5 r=A2)/\(IH t=A2->tmo r=A2)/\Adj r
def az0(h:IH s=A2):xE s 5=([],A2)/\100<=s:=by
 unfold IH at h;simp at h;obtain((rfl|rfl)|rfl)|rfl:=h<;>decide
theorem az1:∀{r},tmo r=A2->(feedL r 5).2=B2
 |[],h=>by cases h
 |a::r,h=>by
  have:=aL h;grind [iK]
theorem ayd:∀{a},r5 a=A2->(feedL a 5).2=B2
 |[],h=>by cases h
 |s::r,h=>by
  rw[r5]at h;by_cases b:s<100
  .simp_all [ae,iK]
  .rw[aa b]at h;by_cases c:IH s=A2
   .simp_all [ae,az0,kC,az1]
   .rw[aa c]at h;have d:(xE s 5).2=B2:=U
    simp_all [feedL,aa,fJ]
def chA(s:Int):zLI->Bool|[]=>A2|a::L=>(!(decide (a<100)&&opn a)||(match L with|[]=>B2|b::M=>if b<100 then decide (b≠5) else if IH b=A2 then(match M with|[]=>IH s|c::_=>decide (c<100/\c≠5)) else !(xE b 5).2))&&(!(IH a)||(match L with|[]=>IH s|c::_=>decide (c<100/\c≠5)))&&chA s L
def arl:((D1 34).all λs=>(D1 78).all λt=>!(xE ((s:Int)+100)<|(t:Int)+1).2||chA ((s:Int)+100) (xE ((s:Int)+100)<|(t:Int)+1).1)=A2:=by rfl
theorem avc{t}(c:100<=s)(d:s<=133)(e:1<=t)(f:t<=78)(h:(xE s t).2=A2):chA s (xE s t).1=A2:=by
 have a:=fH.1 arl (s-100).toNat U;have b:=fH.1 a (t-1).toNat U;grind
theorem ah6{r}(i:IH s=A2->tmo r=A2)(g:Adj r):∀L,chA s L=A2->Adj (L++r)
 |[],_=>g|a::L,h=>by
  unfold chA at h;rw[dF,dF]at h;obtain⟨⟨b,d⟩,n⟩:=h;refine⟨λf j=>?_,λf=>?_,ah6 i g L n⟩
  .rw[eI f,j]at b;simp only[Bool.and_self,Bool.not_true,F9]at b;cases L with
   |nil=>cases b
   |cons c e=>
    simp only at b;show(ite (c<100) (decide (c≠5))<|ite (IH c=A2) (tmo<|e++r)<|!(xE c 5).2)=A2;split
    .grind
    .rename_i l;rw[aa l]at b;split
     .rename_i m;rw[ae m]at b;cases e with
      |nil=>grind|cons k e=>exact b
     grind
  .rw[f]at d;simp only[Bool.not_true,F9]at d;cases L with
   |nil=>exact i d|cons k L=>exact d
theorem adE{t}(j:1<=t)(k:t<=78):∀(f)(b)(c)(lo)(a)(r),fJ f b t c=Ax (lo,Ax A2,a)->By b->Adj (b++r)->Adj (lo++r)/\(opn t=A2->r5 (lo++r)=A2)
 |0,_,_,_,_,_,h,_,_=>by simp[fJ]at h|f+1,[],_,_,_,_,h,_,_=>by simp[fJ]at h|f+1,s::q,c,lo,a,r,h,i,o=>by
  have p:By q:=λd hx=>i d<|dJ _ hx;obtain⟨_,l,m⟩:=o;by_cases n:s<100
  .obtain⟨rfl,_,_⟩:=qx h n
   simp_all
  .rcases kF h O with⟨e,g⟩|⟨e,_,g,_⟩
   .have u:=i s bG;have:=ah6 l m _<|avc O u j k e
    change Adj ((xE s t).1++(q++r)) at this
    rw[<-fL]at this;refine adE j k f _ _ lo a r g (λd hx=>?_) this;obtain hx|hx:=dg.1 hx
    .grind [ab5]
    .exact p d hx
   grind
theorem II{t}(j:1<=t)(e:t<=78):∀a,By a->(feedL a t).2=A2->Adj a->Adj (feedL a t).1/\(opn t=A2->r5 (feedL a t).1=A2)
 |[],_,h,_=>by simp[feedL]at h|s::r,g,h,b=>by
  have m:By r:=λk i=>g k<|dJ _ i;by_cases f:s<100
  .rw[iK f]at h⊢;have c:s=t:=aL h;exact⟨b.2.2,λ_=>b.1 f U⟩
  .have n:=g s bG;by_cases d:(xE s t).1=[]/\(xE s t).2=A2
   .rw[kC O d]at h⊢;exact II j e r m h b.2.2
   .obtain⟨o,_,l,c,_⟩:=uh O n O e d;rw[lD O d c]at h⊢;simp at h;subst h;exact adE j e 8 _ 0 o l r c (λk i=>U) b
inductive JE (T:Bz):Nat->zLW->zLT->Nat->Prop where|nil {p:Nat}:JE T p [] [] p|bl {p q:Nat}{l:zLW}{ts:zLT}:jD (aq T p)=true->JE T (p+1) l ts q->JE T p l ts q|rem {p q:Nat}{l:zLW}{ts:zLT}:aq T p=45->aq T (p+1)=45->JE T (nlE T p) l ts q->JE T p l ts q|tok {p r q:Nat}{t:Wt}{l:zLW}{X:Tk}{ts:zLT}:t.k≠7->t.k≠5->Alo t.w t.k t.n t.x->Stn T p t.w->Du t.w t.k (aq T<|p+t.w.size)=true->Skp T (opn t.k) (p+t.w.size) r->X.k=t.k->X.n=t.n/\X.x=t.x->X.f=(p:Nat)/\X.t=((p+t.w.size:Nat):Int)->JE T r l ts q->JE T p (t::l) (X::ts) q|sep {p q:Nat}{l:zLW}{c:Int}{X:Tk}{ts:zLT}:aq T p=c->c=10\/c=59->X.k=5->JE T (p+1) l ts q->JE T p (nlW::l) (X::ts) q
def Rz.tks{p q}(h:Rz T p l q):∃us,JE T p l us q:=by
 induction h with
 |nil=>exact⟨_,.nil⟩|bl b _ c=>exact c.imp λ_ a=> .bl b a|rem b d _ c=>exact c.imp λ_ a=> .rem b d a|@tok p k q m l b d e f g i j c=>obtain⟨us,a⟩:=c;exact⟨⟨_,_,_,0,_,_⟩::us,.tok b d e f g i R ⟨R,R⟩ ⟨R,R⟩ a⟩
 |sep b d _ c=>obtain⟨us,a⟩:=c;exact⟨⟨5,0,0,0,0,zE0⟩::us,.sep b d R a⟩
inductive Smp:zLT->zLT->Prop where|nil:Smp [] []|cons {X Y:Tk}{us ts:zLT}:(X.k≠5->Y.f=X.f/\Y.t=X.t)->Smp us ts->Smp (X::us) (Y::ts)
def KC(t:Wt):Int:=ite (t.k=7) 5 t.k
theorem avd{o a}(h:Skp T o a r){l}(w:o=A2->(feedL l 5).2=B2):∀(f)(c)(b),T.size<f+a->∃j k,T.size<j+r/\sJ T f l (blk T (T.size+1) a) c b=sJ T j l (blk T (T.size+1) r) k b:=by
 induction h with
 |nil=>grind|@bl d p e g i=>
  intro f c b m;have n:d<T.size:=bp R (by have:=aL e;omega);rw[D0 T d n e];exact i f c b O|@rem d p e g t i=>
  intro f c b m;rw[Hl T d e g];exact i f c b (by grind [zD])|@nl d p e g t i=>
  intro f c b m;have n:d<T.size:=bp g;have⟨_,_,s,_⟩:=asJ g O;rw[ae rfl]at s;obtain⟨f,rfl⟩:∃q,f=q+1:=⟨f-1,O⟩;have v:tG T d=7:=by grind [tG]
  have⟨j,k,u,_⟩:=i f (c+1) b O;refine⟨j,k,u,?_⟩
  simp_all [sJ,aa,ae]
theorem wk{p q v}(h:JE T p l v q):q=T.size->∀(f)(a)(b)(c)(g),T.size<f+p->By a->Adj a->fdK a (l.map KC)=Ax g->
  ∃ts j,sJ T f a (blk T (T.size+1) p) b c=(c++ts++[⟨6,(T.size:Nat),(T.size:Nat),j,0,zE0⟩],g, -1)/\JE T p l ts q/\Smp v ts:=by
 induction h with
 |@nil p=>
  intro r f a b c g C o s i;obtain rfl:=r;obtain⟨f,rfl⟩:∃t,f=t+1:=⟨f-1,O⟩;have av:a=g:=by grind [fdK]
  refine⟨_,b,?_,.nil,.nil⟩
  simp_all [ahc,fG,sJ,ae,fp]
 |@bl p q l v e m u=>
  intro r f a b c g C o s i;have ap:p<T.size:=bp R (by have:=aL e;omega);rw[D0 T p ap e];have⟨ts,j,y,d⟩:=u r f a b c g O o s i;exact⟨ts,j,y,.bl e d.1,d.2⟩|@rem p q l v e m z u=>
  intro r f a b c g C o s i;rw[Hl T p e m];obtain⟨ts,j,y,d⟩:=u r f a b c g (by grind [zD]) o s i;exact⟨ts,j,y,.rem e m d.1,d.2⟩
 |@tok p a8 q d l ad v e m z G am an _ _ ao a5 u=>
  intro r f a b c g C o s i;have⟨E,ak,F,al,a0,a1⟩:=axL z G e m am;have a6:=z.pos;have a7:=G.1;obtain⟨f,rfl⟩:∃t,f=t+1:=⟨f-1,O⟩;have af:tG T p=d.k:=by grind [tG]
  have A:=Hw T p E;rw[F]at A;rw[eA,fdK,show KC d=d.k by grind [KC]]at i;have y:(feedL a d.k).2=A2:=by
   grind
  rw[ae y]at i;have⟨H,a2⟩:=II A.1 A.2 a o y s;obtain⟨ax,B,a3,a4⟩:=avd an (λt=>ayd<|a2 t) f b (c++[⟨d.k,p,((p+d.w.size:Nat)),b,d.n,d.x⟩]) O;obtain⟨ts,j,ar,K,L⟩:=u r ax _ B _ g a3 (se o A.1 A.2) H i;refine⟨⟨d.k,p,((p+d.w.size:Nat)),b,d.n,d.x⟩::ts,j,?_,?_,.cons (λ_=>⟨ao.1.symm,ao.2.symm⟩) L⟩
  .rw[a1,sJ,aa O,aa O,af,show C0 a d.k=feedL a d.k by grind [C0],ae y,ae E,ak,al,a0,a4,ar];simp
  .exact .tok e m z G am an R ⟨R,R⟩ ⟨R,R⟩ K
 |@sep p q l a0 ad v e m a1 z u=>
  intro r f a b c g C o s i;have ap:p<T.size:=bp e;have⟨E,ak,F,al⟩:=asJ e m;obtain⟨f,rfl⟩:∃t,f=t+1:=⟨f-1,O⟩;rw[eA,fdK,show KC nlW=5 from rfl]at i;have y:(feedL a 5).2=A2:=by
   grind
  rw[ae y]at i;obtain⟨H,_⟩:=II Z Z a o y s;have ax:∀(A:Tk)(B:Int),A.k=5->sJ T (f+1) a p b c=sJ T f (feedL a 5).1 (blk T (T.size+1)<|p+1) B (c++[A])->∃ts j,sJ T (f+1) a (blk T (T.size+1) p) b c=(c++ts++[⟨6,(T.size:Nat),(T.size:Nat),j,0,zE0⟩],g, -1)/\JE T p (nlW::l) ts q/\Smp (ad::v) ts:=λA B af av=>by
   obtain⟨ts,j,ar,K,L⟩:=u r f _ B (c++[A]) g O (se o Z Z) H i;refine⟨_,j,?_,.sep e m af K,.cons O L⟩;grind
  obtain rfl|rfl:=m
  .simp_all [ae,tG,Nat,rdI,sJ,aa]
  .rw[aa Z]at F;have af:tG T p=5:=by grind [tG]
   exact ax ⟨5,p,((rdI T p).a),b,(rdI T p).n,(rdI T p).x⟩ b R (by simp_all [sJ,aa,C0,feedL,ae])
theorem arm{e}(h:JE T 0 l e T.size){c}(f:fdK [100,6] (l.map KC)=Ax c):∃ts b,jz T=(ts++[⟨6,(T.size:Nat),(T.size:Nat),b,0,zE0⟩],c, -1)/\JE T 0 l ts T.size/\Smp e ts:=by
 obtain⟨ts,b,d,a⟩:=wk h R (T.size+1) [100,6] 1 [] c O (λ_ _=>U) ⟨λa=>absurd a Z,Z,λ_ a=>absurd a Z,Z,trivial⟩ f;rw[ga]at d;exact⟨ts,b,d,a⟩
theorem ah7(s:Bz):∀(f)(h)(p)(l)(c),p<=s.size->c.Pairwise (λa b=>a.f<b.f)->(∀T∈c,0<=T.f/\T.f<(p:Int))->(sJ s f h p l c).1.Pairwise (λa b=>a.f<b.f)/\∀T∈(sJ s f h p l c).1,0<=T.f
 |0,h,p,l,c,_,_,_=>⟨.nil,λT k=>by cases k⟩
 |f+1,h,p,l,c,A,q,z=>by
  have j:∀(e:Tk)(d:Nat),e.f=(p:Int)->p<d->(c++[e]).Pairwise (λa b=>a.f<b.f)/\∀T∈c++[e],0<=T.f/\T.f<(d:Int):=λe d y o=>by
   grind
  have v:∀d,p<d->∀T∈c,0<=T.f/\T.f<(d:Int):=λd o T k=>U;have m:=λw u=>na s (s.size+1) w u;rw[sJ];split
  .grind
  .rename_i o;split
   .rename_i r;have i:=mH s p O (afa s p r).1;have g:=m _ i.2.1;split
    .have:=j ⟨5,p,((rdI s p).a),l,(rdI s p).n,(rdI s p).x⟩ (blk s (s.size+1) (rdI s p).a) R O;exact ah7 s f _ _ _ _ g.2 this.1 this.2
    .exact ah7 s f _ _ _ _ g.2 q (v _ O)
   .split
    .split
     .rename_i t;have i:=mH s p O t;have g:=m _ i.2.1;have:=j ⟨tG s p,p,((rdI s p).a),l,(rdI s p).n,(rdI s p).x⟩ (blk s (s.size+1) (rdI s p).a) R O;exact ah7 s f _ _ _ _ g.2 this.1 this.2
     simp_all
    simp_all
open Go.Lib (strCells strCells_length)
structure TkO (n:Nat) (ts:zLT):Prop where
 each:∀T∈ts,0<=T.f/\T.f<=T.t/\T.t<=(n:Int)/\0<=T.l
 next:ts.Pairwise λa b=>a.t<=b.f
theorem ah8(s:Bz):∀(f)(j)(p)(l)(a),p<=s.size->TkO s.size a->(∀T∈a,T.t<=(p:Int))->0<=l->TkO s.size (sJ s f j p l a).1
 |0,j,p,l,a,_,_,_,_=>⟨λT hT=>(by cases hT),.nil⟩
 |f+1,j,p,l,a,K,e,G,h=>by
  have k:∀(c:Tk)(q b:Nat),c.f=(p:Int)->c.t=(q:Int)->p<=q->q<=s.size->q<=b->0<=c.l->TkO s.size (a++[c])/\∀T∈a++[c],T.t<=(b:Int):=λc q b z A B C E F=>by
   refine⟨⟨λT hT=>?_,List.pairwise_append.2 ⟨e.next,List.pairwise_singleton _ _,λw H y g=>?_⟩⟩,λT hT=>?_⟩
   .rcases dg.1 hT with hT|hT
    .exact e.each T hT
    grind
   all_goals grind
  have v:∀b,p<=b->∀T∈a,T.t<=(b:Int):=λb r T hT=>U;have g:=λq u=>na s (s.size+1) q u;rw[sJ];split
  .grind
  .rename_i r;split
   .rename_i m;have i:=mH s p O (afa s p m).1;have d:=g _ i.2.1;split
    .have:=k ⟨5,p,((rdI s p).a),l,(rdI s p).n,(rdI s p).x⟩ _ (blk s (s.size+1) (rdI s p).a) R R O O O h;exact ah8 s f _ _ _ _ d.2 this.1 this.2 O
    .exact ah8 s f _ _ _ _ d.2 e (v _ O) O
   .split
    .split
     .rename_i o;have i:=mH s p O o;have d:=g _ i.2.1;have:=k ⟨tG s p,p,((rdI s p).a),l,(rdI s p).n,(rdI s p).x⟩ _ (blk s (s.size+1) (rdI s p).a) R R O O O h;exact ah8 s f _ _ _ _ d.2 this.1 this.2 h
     .exact⟨λT hT=>(by cases hT),.nil⟩
    .exact⟨λT hT=>(by cases hT),.nil⟩
def anJ(s):TkO s.size (nF s).1:=by
 have b:TkO s.size []:=⟨λc a=>(by cases a),.nil⟩;unfold nF;split
 .exact b
 split
 .exact ah8 s _ _ _ _ _ (na s _ 0 O).2 b (λc a=>(by cases a)) Z
 omega
theorem ah9{n}:∀(l:zLT)(lo),l.Pairwise (λa b=>a.f<b.f)->(∀T∈l,lo<=T.f/\T.f<=n)->lo<=n+1->(V l:Int)<=n+1-lo
 |[],lo,_,_,h=>U|T::r,lo,e,d,h=>by
  have g:=d T bG;have⟨_,c⟩:=List.pairwise_cons.1 e;have:=ah9 (n:=n) r (T.f+1) c (λ_ _=>U) O;grind
theorem anK(s):(nF s).1.length<=s.size+1:=by
 have e:=anJ s;have g:(nF s).1.Pairwise λc d=>c.f<d.f:=by
  unfold nF;split
  .exact .nil
  split
  .exact(ah7 s _ _ _ 1 _ (na s _ 0 O).2 .nil (λb a=>by cases a)).1
  simp_all
 have:=ah9 (n:=s.size) _ 0 g (λb a=>by have:=e.each b a;omega) O;omega
def TkO.at_{n ts}(h:TkO n ts){i a b}(j:ts[i]?=Ax a)(k:ts[i+1]?=Ax b):a.t<=b.f:=by
 have⟨e,c⟩:=dr.1 j;have⟨g,d⟩:=dr.1 k;rw[<-c,<-d];exact(List.pairwise_iff_getElem.1 h.next) i _ e g O
end Go.Proofs.YthkcmkmkapijkaaGreatDoor
namespace Go.Proofs.YthkcmkmkapijkaaGreatDoor
open Go.RowKit Go.Maps Go.WideMaps
variable{E:Pe}{N:Nd}{T:Bz}{b g i j k n r:Nat}{l:zLW}{s:Int}{t:Tsk}{v vn:Value}{w:World}
inductive Jl (s:Bz):Int->Int->zLD->Prop where|big:65536<s.size->Jl s 2 0 []|at_ {z:Int}:s.size<=65536->0<=z->nF s=([],z)->Jl s 1 z []|ok {toks:zLT}{m:Nat}{R1:Fo}{lz:Int}:s.size<=65536->nF s=(toks, -1)->PF s toks m R1 lz->Jl s (okC<|qG s R1) 0 (okN<|qG s R1)
def Pln(N:Nd):Prop:=0<=N.f/\N.f<=N.t/\0<=N.l
def ave(Q:Nd->Prop)(tk:Nat->Tk):Tsk->Nat->Prop| .more _ s x,i=>(∃q,q<i/\s=tk q)/\x.all Q| .post s B,i=>(∃q,q<i/\s=tk q)/\B.all Q| .body s,i=>∃q,q<=i/\s=tk q|_,_=>True
section
variable {tk : Nat → Tk} {n : Nat} {Q : Nd → Prop}
def avf(Q:Nd->Prop)(tk:Nat->Tk)(n:Nat):Prop:=∀ ⦃a r:Nat⦄ ⦃k d b:Int⦄ ⦃x:Bz⦄ ⦃c:zLB⦄,a<=r->r<n->Q (nd k (tk a) (tk r).t d b x c)
def gH(c:avf Q tk n){q k d m x nm}(a:q<=r:=by omega)(b:r<n:=by omega):Q (nd k (tk q) (tk r).t d m x nm):=c a b
def arn(c:avf Q tk n){q k}(a:q<=r:=by omega)(b:r<n:=by omega):Q (uF k (tk q) (tk r).t):=by
 unfold uF;split
 .exact c a b
 split
 .exact c a b
 .exact c a b
theorem P.allq(d:avf Q tk n){R1}(h:P tk n t i R1 j):ave Q tk t i->R1.all Q:=by
 induction h
 case mgo p s x y R1 k k1 j h1 h2 h3 h4 h5 e i2=>
  rintro ⟨⟨f,o,rfl⟩,g⟩;have:=h4.pos;simp[dL]at this;exact i2 ⟨⟨f,O,R⟩,(bu _ _ _).2 ⟨arn d,(gx _ _ _).2 ⟨g,e trivial⟩⟩⟩
 case ex p i k j x R1 h1 h2 h3 h4 e i2=>
  intro _;have:=h3.pos;simp[dL]at this;exact i2 ⟨⟨i,O,R⟩,e trivial⟩
 case bname i j R1 h1 h2 h3 ih=>intro _;exact ih ⟨⟨i,O,R⟩,(bu _ _ _).2 ⟨gH d,trivial⟩⟩
 case bopen i k j N ks R1 h1 h2 h3 h4 h5 h6 e i2=>
  intro _;have:=h3.pos;simp[dL]at this;have e:=e trivial;refine i2 ⟨⟨i,O,R⟩,?_⟩;unfold lI;split
  .exact(bu _ _ _).2 ⟨gH d,e⟩
  omega
 case pdot s B R1 k j h1 h2 h3 h4 ih=>
  rintro ⟨⟨f,o,rfl⟩,g⟩;exact ih ⟨⟨f,O,R⟩,(bu _ _ _).2 ⟨gH d,g⟩⟩
 case psq s B Y R1 k k1 j h1 h2 h3 h4 h5 h6 e i2=>
  rintro ⟨⟨f,o,rfl⟩,g⟩;have:=h3.pos;simp[dL]at this;exact i2 ⟨⟨f,O,R⟩,(bu _ _ _).2 ⟨gH d,(gx _ _ _).2 ⟨g,e trivial⟩⟩⟩
 case pcall0 s B R1 k j h1 h2 h3 h4 ih=>
  rintro ⟨⟨f,o,rfl⟩,g⟩;exact ih ⟨⟨f,O,R⟩,(bu _ _ _).2 ⟨gH d,g⟩⟩
 case pcall s B Y R1 k k1 j h1 h2 h3 h4 h5 h6 h7 e i2=>
  rintro ⟨⟨f,o,rfl⟩,g⟩;have:=h4.pos;simp[dL]at this;exact i2 ⟨⟨f,O,R⟩,(bu _ _ _).2 ⟨gH d,(gx _ _ _).2 ⟨g,e trivial⟩⟩⟩
 case body i k j s nm r B h1 h2 h3 h4 ih=>
  rintro ⟨f,o,rfl⟩;have:=h3.pos;have:=h4.pos;simp[dL]at this;exact(bu _ _ _).2 ⟨gH d,ih trivial⟩
 case ufn i j R1 h1 h2 h3 ih=>intro _;exact ih ⟨i,O,R⟩
 case tfn i j B h1 h2 h3 h4 h5 ih=>
  intro _;have:=h5.pos;simp[dL]at this;exact(bu _ _ _).2 ⟨gH d,ih ⟨_,O,R⟩⟩
 case mstop h1 h2=>exact λh=>h.2
 case pstop h1 h2=>exact λh=>h.2
 case tlet0 i k ns h1 h2 h3 h4 h5=>intro _;have:=h4.pos;exact(bu _ _ _).2 ⟨gH d,trivial⟩
 case tlet i k j ns E h1 h2 h3 h4 h5 h6 ih=>intro _;have:=h4.pos;have:=h6.pos;simp[dL]at this;exact(bu _ _ _).2 ⟨gH d,ih trivial⟩
 case tfor i k k1 j ns E b h1 h2 h3 h4 h5 h6 h7 e i2=>intro _;have:=h4.pos;have q:=h6.pos;have m:=h7.pos;simp[dL]at q m;exact(bu _ _ _).2 ⟨gH d,(gx _ _ _).2 ⟨e trivial,i2 trivial⟩⟩
 case teach i k k1 j ns x b h1 h2 h3 h4 h5 h6 h7 h8 h9 e i2=>intro _;have:=h4.pos;have q:=h6.pos;have v:=h9.pos;simp[dL]at q v;exact(bu _ _ _).2 ⟨gH d,(gx _ _ _).2 ⟨e trivial,i2 trivial⟩⟩
 case ttry i k k1 j ns a b h1 h2 h3 h4 h5 h6 h7 h8 e i2=>intro _;have:=h7.pos;have c:=h3.pos;have u:=h8.pos;simp[dL]at c u;exact(bu _ _ _).2 ⟨gH d,(gx _ _ _).2 ⟨e trivial,i2 trivial⟩⟩
 case tset i k k1 j x R1 E h1 h2 h3 h4 h5 h6 h7 e i2 i3=>intro _;have c:=h3.pos;have l:=h4.pos;have m:=h7.pos;simp only[dL]at c l m;exact(bu _ _ _).2 ⟨gH d,(gx _ _ _).2 ⟨(gx _ _ _).2 ⟨e trivial,i2 trivial⟩,i3 trivial⟩⟩
 case belif i k k1 j x b z h1 h2 h3 h4 h5 h6 h7 e i2 i3=>intro _;have c:=h3.pos;have l:=h4.pos;have m:=h7.pos;simp[dL]at c l m;exact(bu _ _ _).2 ⟨gH d,(gx _ _ _).2 ⟨(gx _ _ _).2 ⟨e trivial,i2 trivial⟩,i3 trivial⟩⟩
 case belse i k k1 j x b z h1 h2 h3 h4 h5 h6 h7 e i2 i3=>intro _;have c:=h3.pos;have l:=h4.pos;have m:=h7.pos;simp[dL]at c l m;exact(bu _ _ _).2 ⟨gH d,(gx _ _ _).2 ⟨(gx _ _ _).2 ⟨e trivial,i2 trivial⟩,i3 trivial⟩⟩
 case bno i k k1 x b h1 h2 h3 h4 h5 h6 h7 e i2=>intro _;have c:=h3.pos;have l:=h4.pos;simp[dL]at c l;exact(bu _ _ _).2 ⟨gH d,(gx _ _ _).2 ⟨e trivial,i2 trivial⟩⟩
 case pair i k j x y h1 h2 h3 h4 h5 h6 h7 e i2=>intro _;have c:=h3.pos;have m:=h7.pos;simp[dL]at c m;exact(bu _ _ _).2 ⟨gH d,(gx _ _ _).2 ⟨e trivial,i2 trivial⟩⟩
 case twhile i k j x b h1 h2 h3 h4 e i2=>intro _;have c:=h3.pos;have l:=h4.pos;simp[dL]at c l;exact(bu _ _ _).2 ⟨gH d,(gx _ _ _).2 ⟨e trivial,i2 trivial⟩⟩
 case block i k S h1 h2 h3 h4 h5 ih=>intro _;have c:=h3.pos;simp only[dL]at c;exact(bu _ _ _).2 ⟨gH d,ih trivial⟩
 case utab i j E h1 h2 h3 h4 h5 ih=>intro _;have c:=h3.pos;simp only[dL]at c;exact(bu _ _ _).2 ⟨gH d,ih trivial⟩
 case upre i j x h1 h2 h3 ih=>intro _;have c:=h3.pos;simp[dL]at c;exact(bu _ _ _).2 ⟨gH d,ih trivial⟩
 case item i j x h1 h2 h3 h4 h5 ih=>intro _;have c:=h5.pos;simp[dL]at c;exact(bu _ _ _).2 ⟨gH d,ih trivial⟩
 case named i j y h1 h2 h3 h4 h5 ih=>intro _;have c:=h5.pos;simp[dL]at c;exact(bu _ _ _).2 ⟨gH d,ih trivial⟩
 case tcon i j x h1 h2 h3 h4 h5 ih=>intro _;have c:=h5.pos;simp[dL]at c;exact(bu _ _ _).2 ⟨gH d,ih trivial⟩
 case tret i j E h1 h2 h3 h4 ih=>intro _;have c:=h4.pos;simp[dL]at c;exact(bu _ _ _).2 ⟨gH d,ih trivial⟩
 case tthrow i j x h1 h2 h3 ih=>intro _;have c:=h3.pos;simp[dL]at c;exact(bu _ _ _).2 ⟨gH d,ih trivial⟩
 case tdefer i j x h1 h2 h3 ih=>intro _;have c:=h3.pos;simp[dL]at c;exact(bu _ _ _).2 ⟨gH d,ih trivial⟩
 case tdo i j x h1 h2 h3 h4 h5 h6 ih=>intro _;have c:=h3.pos;simp[dL]at c;exact(bu _ _ _).2 ⟨gH d,ih trivial⟩
 all_goals first
  |(intro _;exact(bu _ _ _).2 ⟨gH d,trivial⟩)|(intro _;simp_all only[bu,gx,ave,Fo.all,and_self,true_implies,forall_const])
def P.pl(a:∀q r,q<=r->r<n->0<=(tk q).f/\(tk q).f<=(tk r).t/\0<=(tk q).l){R1}(h:P tk n t i R1 j):(i+dL t<=j/\j<n)/\(ave Pln tk t i->R1.all Pln):=⟨⟨h.pos.1,h.pos.2.1⟩,h.allq λq r _ _ _ _ _=>a q r⟩
end
section
variable (E : Pe)
inductive Ws (i:Nat):FuncId->zAV->Nat->Fo->Nat->Prop|blk {x:Fo}{j:Nat}:(E.tk i).k=42->i<E.n->CK E i x j->Ws i 134 #[pV E] i x j|smp {k:Int}{x:Fo}{j:Nat}:k=1\/k=40->(E.tk i).k=k->i<E.n->CI E 214 #[pV E] i x j->Ws i 134 #[pV E] i x j|let0 {ns:zLB}{k:Nat}:(E.tk i).k=22->i<E.n->CM E (i+1) ns k->1<=k->k<E.n->(E.tk k).k≠47->Ws i 134 #[pV E] i (one (nd 2 (E.tk i) (E.tk<|k-1).t 0 0 z0 ns) .nil) k|let1 {ns:zLB}{k j:Nat}{x:Fo}:(E.tk i).k=22->i<E.n->CM E (i+1) ns k->k<E.n->(E.tk k).k=47->CLx E (k+1) x j->1<=j->j<=E.n->Ws i 134 #[pV E] i (one (nd 2 (E.tk i) (E.tk<|j-1).t 0 0 z0 ns) x) j|con {ns:zLB}{k j:Nat}{x:Fo}:(E.tk i).k=13->i<E.n->CM E (i+1) ns k->k<E.n->(E.tk k).k=47->CX E 0 (k+1) x j->1<=j->j<=E.n->Ws i 134 #[pV E] i (one (nd 3 (E.tk i) (E.tk<|j-1).t 0 0 z0 ns) x) j|iff {x:Fo}{j:Nat}:(E.tk i).k=20->i<E.n->CBr E 20 i x j->Ws i 134 #[pV E] i x j|whl {x y:Fo}{k j:Nat}:(E.tk i).k=31->i<E.n->CX E 0 (i+1) x k->CK E k y j->1<=j->j<=E.n->Ws i 134 #[pV E] i (one (lF 8 (E.tk i) (E.tk<|j-1).t)<|x.app y) j|for_ {x:Fo}{j:Nat}:(E.tk i).k=19->i<E.n->CI E 223 #[pV E,tkV 19<|E.tk i] (i+1) x j->Ws i 134 #[pV E] i x j|leaf {k nk:Int}:(k=11/\nk=11)\/(k=23/\nk=12)->(E.tk i).k=k->i+1<E.n->Ws i 134 #[pV E] i (one (lF nk (E.tk i) (E.tk i).t) .nil) (i+1)|ret0:(E.tk i).k=27->i+1<E.n->dv (E.tk<|i+1).k=false->Ws i 134 #[pV E] i (one (lF 13 (E.tk i) (E.tk i).t) .nil) (i+1)|ret1 {x:Fo}{j:Nat}:(E.tk i).k=27->i+1<E.n->dv (E.tk<|i+1).k=true->CLx E (i+1) x j->1<=j->j<=E.n->Ws i 134 #[pV E] i (one (lF 13 (E.tk i) (E.tk<|j-1).t) x) j|try_ {ns:zLB}{x y:Fo}{k k1 j:Nat}:(E.tk i).k=30->i<E.n->CK E (i+1) x k->(E.tk k).k=12->k<E.n->CM E (k+1) ns k1->CK E k1 y j->1<=j->j<=E.n->Ws i 134 #[pV E] i (one (nd 14 (E.tk i) (E.tk<|j-1).t 0 0 z0 ns)<|x.app y) j|thr {x:Fo}{j:Nat}:(E.tk i).k=28->i<E.n->CX E 0 (i+1) x j->1<=j->j<=E.n->Ws i 134 #[pV E] i (one (lF 15 (E.tk i) (E.tk<|j-1).t) x) j|dfr {x:Fo}{j:Nat}:(E.tk i).k=14->i<E.n->CB E (i+1) x j->1<=j->j<=E.n->Ws i 134 #[pV E] i (one (lF 16 (E.tk i) (E.tk<|j-1).t) x) j|bno {q:Int}{x y:Fo}{k k1:Nat}:q=20\/q=15->(E.tk i).k=q->i<E.n->CX E 0 (i+1) x k->CK E k y k1->1<=k1->k1<E.n->(E.tk k1).k≠15->(E.tk k1).k≠16->Ws i 222 #[pV E,tkV q<|E.tk i] (i+1) (one (lF 7 (E.tk i) (E.tk<|k1-1).t)<|x.app y) k1|belif {q:Int}{x y z:Fo}{k k1 j:Nat}:q=20\/q=15->(E.tk i).k=q->i<E.n->CX E 0 (i+1) x k->CK E k y k1->k1<E.n->(E.tk k1).k=15->CBr E 15 k1 z j->1<=j->j<=E.n->Ws i 222 #[pV E,tkV q<|E.tk i] (i+1) (one (lF 7 (E.tk i) (E.tk<|j-1).t)<|(x.app y).app z) j|belse {q:Int}{x y z:Fo}{k k1 j:Nat}:q=20\/q=15->(E.tk i).k=q->i<E.n->CX E 0 (i+1) x k->CK E k y k1->k1<E.n->(E.tk k1).k=16->CK E (k1+1) z j->1<=j->j<=E.n->Ws i 222 #[pV E,tkV q<|E.tk i] (i+1) (one (lF 7 (E.tk i) (E.tk<|j-1).t)<|(x.app y).app z) j|lfor {ns:zLB}{x y:Fo}{k k1 j:Nat}:(E.tk i).k=19->i<E.n->CM E (i+1) ns k->k<E.n->(E.tk k).k=47->CLx E (k+1) x k1->CK E k1 y j->1<=j->j<=E.n->Ws i 223 #[pV E,tkV 19<|E.tk i] (i+1) (one (nd 9 (E.tk i) (E.tk<|j-1).t 0 0 z0 ns)<|x.app y) j|leach {ns:zLB}{x y:Fo}{k k1 j:Nat}:(E.tk i).k=19->i<E.n->CM E (i+1) ns k->k<E.n->(E.tk k).k=21->CX E 0 (k+1) x k1->CK E k1 y j->1<=j->j<=E.n->Ws i 223 #[pV E,tkV 19<|E.tk i] (i+1) (one (nd 10 (E.tk i) (E.tk<|j-1).t 0 0 z0 ns)<|x.app y) j
end
def ju{d f args X}(h:Ws E i f args d X j):CI E f args d X j:=by
 cases h
 case' smp h _ _ _=>obtain rfl|rfl:=h
 case' leaf h _ _=>obtain⟨rfl,rfl⟩|⟨rfl,rfl⟩:=h
 case' bno h _ _ _ _ _ _ _ _=>obtain rfl|rfl:=h
 case' belif h _ _ _ _ _ _ _ _ _=>obtain rfl|rfl:=h
 case' belse h _ _ _ _ _ _ _ _ _=>obtain rfl|rfl:=h
 all_goals
  intro _ _ _ h l;have a:=ah h;have o:=awL;try simp only[dh,Fo.sz_app,Fo.sz]at l
  try have p:=fC.2 (by assumption:(E.tk _).k≠15)
  go_in
  repeat' (go_wp2_with (at_builtin;apply Sq.app a (by have:=Sq.ln a;simp only[Fo.sz_app,Fo.sz]at this;(try simp only[Fo.sz]);omega) R _ _ R R R R;intro _ _ b a;have m:=Sq.rd a);(first
   |(go_at_call 132;first|refine dd (Sq.kind (by first|exact a|exact Sq.box a|exact Sq.lit2 (Sq.set a)) byA) λb a=>?_|refine dd (Sq.kind (by first|exact a|exact Sq.box a|exact Sq.lit2 (Sq.set a)) R) λb a=>?_)
   |(go_at_call 215;refine dd (Sq.take (by first|exact a|exact Sq.set a|exact Sq.box a) byA) λb a=>?_)
   |(go_at_call 133;first|refine dd (Sq.isY (by first|exact a|exact Sq.set a) O) λb a=>?_|refine dd (Sq.isN (by first|exact a|exact Sq.set a) O) λb a=>?_)
   |(go_at_call 210;apply ez<|azb O _)|(go_at_call 216;refine dd (Sq.node (by first|exact a|exact Sq.box a)) λb a=>?_)
   |(go_at_call 219;refine(Sq.add (by first|exact a|exact Sq.set a|exact Sq.lit1 (Sq.box a)|exact Sq.lit2 (Sq.set a)|exact Sq.box a) (by first|exact .inl ⟨R,R⟩|exact .inr (.head _)|exact .inr (.tail _<|.head _)) (by first|exact .inl ⟨R,R⟩|exact .inr (.head _)) (by have:=Sq.ln a;simp only[Fo.sz_app,Fo.sz]at this;(try simp only[Fo.sz]);omega)).mono ?_;rintro _ b ⟨n,rfl,c,a⟩)
   |(refine Sq.cq (by first|exact a|exact Sq.set a|exact Sq.box a|exact Sq.lit2 (Sq.set a)) byA (by have:=Sq.ln a;simp only[Fo.sz_app,Fo.sz]at this;(try simp only[Fo.sz]);omega) ?_;(first|rintro b _ c _ _ ⟨n,rfl,rfl,rfl⟩ a|rintro b _ c _ _ ⟨e,g,rfl,rfl⟩ a|(rintro b _ c _ _ ⟨e,g,rfl,rfl,rfl⟩ a;rw[Fo.app_nil,fp]at a))));(try have m:=Sq.rd a))
  all_goals
   go_wp2;go_ret;exact⟨_,_,_,_,R,⟨_,R,R,R⟩,Sq.fin a⟩
section
variable {E : Pe} {i j k k1 : Nat} {x y R1 Ex : Fo}
def Sw.lam{W p q s A C r}{H:Bxs}{G}(h:Sw E W w i s0 [] .nil [] ((b,220,Ir vn r)::H) ((vn,C)::G))(k:Sw E w p j A [v] R1 [v] [] []){e}(L:q.heap[b]?=Ax (A3 #[zI 36,zI s.f,zI e,zI s.l,zI 0,A,vn,.bool r] 220 (0,0)))(x:p.grownBy q (Ax b)):Sw E W q j s0 [] (one (nd 36 s e (opR r) 0 z0 C) R1) [B7 218<|be b 0] [] []:=by
 obtain⟨t,_,u⟩:=h.tb _<|bG ..;have ad:=ai u;simp at t ad;have ak:=h.lt;have z:∀c,c<p.heap.size->c≠b->q.heap[c]?=p.heap[c]?:=λc m g=>x.block c m (λe=>g (by cases e;rfl));have an:=k.gr.size;have⟨K,F,al⟩:=k.nb;refine⟨k.pp.other O (λe=>?_) O x,(h.gr.trans k.gr).andThen x (λc af=> .inl (by cases af;exact t)),ak,onN,⟨_,⟨b,0,vn,A,[v],_,K,_,⟨R,R⟩,⟨t,by simp[A1],?_,?_⟩,⟨?_,λd _=>by simp[A1]⟩,⟨?_,λd _=>by simp[A1]⟩,?_,R,R⟩,?_⟩,λam y=>(by cases y),λam y=>(by cases y)⟩
 .obtain⟨_,_,n,_⟩:=h.pp.tks;rw[<-e,u]at n;simp only[mw,vI]at n;exact absurd n.2.1 Z
 .unfold im;rw[L];cases r<;>rfl
 .cases r<;>rfl
 .have o:=h.nm _<|bG ..;refine lu o (λd n m g=>⟨?_,m⟩);rw[z d O (λe=>gG o u (Z:220≠9) (by rw[<-e];exact n))];exact k.gr.block d g (λe=>by cases e;omega)
 .exact lu k.ro (λd n m g=>⟨z d g O,O⟩)
 .exact wI.mono (λc m g n=>⟨z c n O,O,by simp[A1]⟩) _ _ _ F
 .rw[show mB []=[] from rfl,fp,fp];have o:=h.nm _<|bG ..;have:=nd3 (a:=vn.ownBlock.toList) (by rw[fp];exact aav _) (by simpa [mB] using al) (λB n=>by rw[fp]at n;exact(o.lt B (by simpa using n)).2) (λB n=>(F.lt _ _ _ B n).1);rw[fp]at this;exact this
def ayf{s q w r}(a2:s.k=q)(bz:(E.tk i).k=40)(bx:i+1<E.n)(bD:Prm E.tk E.n (i+1) w r k)(bF:CN E 254 #[pV E] k x j)(a1:k+1<=j)(ca:j<=E.n):CN E 305 #[pV E,C2<|rE q s] i (one (nd 36 s (E.tk<|j-1).t (opR r) 0 z0 w) x) j:=by
 intro e ao bA;have bj:=Sw.start ao;have bh:=ah bD;have cc:=ao.hn;have b9:=aqF;simp only[dh]at bA;have⟨w1,bt,bk⟩:=Jw bj a2;simp[rE]at bt;go_in;go_wp2_with fail;refine dd (mi bk bz O) λb bl=>?_;have bc:Hid (Sw E e (b.alloc<|A3 (Ir s0 B2) 220) (i+1) s0 [] .nil [] [(b.heap.size,220,Ir (s0) B2),tkB e.heap.size s] [(s0,[])]):=by
  have y:=bl.boxg (Ir s0 B2) 220 Z Z;exact⟨y.pp,y.gr,y.lt,y.ro,⟨_,⟨R,R⟩,by simp[mB,A1]⟩,y.tb,λba af=>by obtain rfl:=ic.1 af;exact onN⟩
 go_wp2;go_loopg [13] (E.n-(i+1)) (λgk _ wr=>∃a D ap rr al g n h,gk=E.n-a/\V D=n/\n<=a/\a<E.n/\Hid (Prm E.tk E.n a ap al k/\Sw E e wr a s0 [] .nil [] [(b.heap.size,220,Ir (A0 g n h) rr),tkB e.heap.size s] [(A0 g n h,D)]/\D++ap=w/\(rr||al)=r))
 .exact⟨_,_,w,B2,r,Br,0,0,R,R,O,bx,bh,bc,R,I⟩
 .
  obtain⟨a,D,ap,rr,al,g,n,h,rfl,ad,_,_,bf⟩:=hrel;have⟨y,bs,K,L⟩:=bf.out;have ar:=ah bs;cases y with
  |close o u=>
   rw[fp]at K;rw[Lg]at L;subst K L;go_wp2_with fail;refine dd (Au ar o) λa3 m=>?_;go_wp2_with fail;apply(bF _ m.pp O).mono;rintro _ F ⟨_,rfl,f⟩;obtain⟨z,p,rfl⟩:=Gi.form f.nn;have l:=m.step f.gr f.pp;have⟨_,am,G⟩:=adc f _ #[B7 z p] rfl 1 R Z;have H:=sB l<|dj F<|A3 #[B7 z p] 64;rw[am]at H;obtain⟨_,_,_,_,_,_⟩:=Jy (sT l) a2;go_wp2_with fail;refine dd (vh G a2 O O _ _ _ _) λd A=>?_;have ak:=m.step A.gr A.pp;have c:=(ak.tb _<|bG ..).2.2;have an:d.cell? (aj b.heap.size 0)=Ax (zI 0):=crV c;have ax:d.cell? (aj b.heap.size 1)=Ax (zI 0):=crV c;have a0:d.cell? (aj b.heap.size 2)=Ax (zI 0):=crV c;have a4:d.cell? (aj b.heap.size 3)=Ax (zI 0):=crV c;have a5:d.cell? (aj b.heap.size 4)=Ax (zI 0):=crV c;have a6:d.cell? (aj b.heap.size 5)=Ax fe:=crV c;have a7:∀j,d.frozen? (aj b.heap.size j)=B2:=λj=>frR c;have B:=ah c;go_wp2;go_ret;exact⟨_,R,m.lam A (aD _ _ 5 _ _ _<|aD _ _ 4 _ _ _<|aD _ _ 3 _ _ _<|aD _ _ 2 _ _ _<|aD _ _ 1 _ _ _<|aD _ _ 0 _ _ _ B)<|qv (qv (qv (qv (qv (qv (si d _) 0 _) 1 _) 2 _) 3 _) 4 _) 5 _⟩
  |rest o u a6=>
   have p:Hid (D++[]=w/\(A2||false)=r):=⟨K,by rw[<-L,Bool.or_true];rfl⟩;go_wp2_with fail;refine dd (Fp ar (by rw[o];decide)) λb8 ax=>?_;go_wp2_with fail;refine dd (Au ax o) λa3 m=>?_;have⟨a7,b5,b6⟩:=sLC m;have f:Hid (Sw E e (a3.setCell (aj b.heap.size 7)<|.bool A2) (a+1) s0 [] .nil [] [(b.heap.size,220,Ir (A0 g n h) A2),tkB e.heap.size s] [(A0 g n h,D)]):=m.setL (by intro ba af;obtain rfl:=ic.1 af;show 58≠220;decide);go_wp2_with fail;refine dd (Fp f (by rw[u];decide)) λbb H=>?_;go_wp2;go_roundg (E.n-(a+1))
   case measure=>omega
   exact⟨a+1,D,[],A2,B2,g,n,h,R,ad,O,O,.close u O,H,p.1,p.2⟩
  |last o u a6=>?_|@go _ _ a8 _ o u a6 br=>?_
  all_goals
   first
    |have p:Hid ((D++[(E.tk a).x])++[]=w/\(rr||false)=r):=⟨by rw[fp];exact K,L⟩
    |(have p:Hid ((D++[(E.tk a).x])++a8=w/\(rr||al)=r):=⟨by rw[fL];exact K,L⟩
      have bd:=ah br)
   have cb:n<=50000000:=O;go_wp2_with fail;refine dd (Fp ar (by rw[o];decide)) λb8 ax=>?_;go_wp2_with fail;refine dd (Fp ax (by rw[o];decide)) λa3 m=>?_;go_wp2_with fail;have a4:=sB m blW;have⟨a7,b5,b6⟩:=sLC a4;refine B6 (S:=λ_=>True) J trivial (λhS=>?_);simp only[mz,dD,jl,Nat.reduceAdd,iC,oF,oH,ga,fh];refine aI 0 (be b.heap.size 0) R R hS (λam ak=>by go_simp) ?_;simp only[B5];refine aI 1 (be b.heap.size 0) R R hS (λam ak=>by go_simp) ?_;simp only[B5];refine aI 2 (be b.heap.size 0) R R hS (λam ak=>by go_simp) ?_;simp only[B5];refine aI 3 (be b.heap.size 6) R R hS (λam ak=>by go_simp) ?_;simp only[B5];refine aI 5 (be E.pb 0) R R hS (λam ak=>by go_simp) ?_;simp only[B5];refine uG (S:=λbn=>bn.cell? (aj b.heap.size 6)=Ax (A0 g n h)) (C:=λj=>!(j==9||j==10||j==11||j==12)) (i:=4) (v:=A0 g n h) R (BG J) (λ_ _ _ ao=>ao) ?hC _ _ _ _ (BH R J) (List.contains_iff_mem.1 J) (Or.inl ⟨byR,λam ak=>by go_simp⟩) hS a7 ?_
   case hC=>
    intro j _ a1 l;simp only[Bool.not_eq_false',zn,qo]at l;obtain((rfl|rfl)|rfl)|rfl:=l
    .obtain rfl:=de a1;exact⟨{on:=4,ground:=Ground.data},I,R,R⟩
    all_goals
     obtain rfl:=de a1;exact⟨{on:=4,ground:=Ground.phase},I,R,R⟩
   simp only[Act.put,cA,cH,cC];refine fi (i:=6) J R (λz c=>?_);go_simp;refine dd (mi a4 o O) λF f=>?_;have a5:=(sLC f).1;refine c _ _ trivial (λ_=>a5) ?_;try simp only[cA,cH,cC]
   refine fi (i:=7) J R (λz c=>?_);simp only[rE];go_simp;refine c _ _ trivial (λ_=>a5) ?_;try simp only[cA,cH,cC]
   refine fi (i:=8) J R (λz c=>?_);go_simp;have G:=sB f<|dj F<|A3 #[B9 (E.tk a).x] 9;have bo:=(sLC G).1;have a9:=G.nm _<|bG ..;rw[dm,ad]at a9;refine c _ _ trivial (λ_=>bo) ?_;try simp only[cA,cH,cC]
   have⟨b0,b1,b2,b3,b4⟩:=dw adb;refine fi (i:=9) J R (λz c=>?_);refine step_append_lies _ byR _ _ 34 byR e.heap.size 9 b0 _ 1 16 Tryz.underlying34 b1 b2 b3 b4 R Z (A0 g n h) n _ byR a9 ⟨F.heap.size,0,Br⟩ 1 1 [B9 (E.tk a).x] byR R (B3<|au F _) (by intro _ bE;rw[ic.1 bE];rfl) Z byM O (bK f.gr.size (dj F _).size) _ R ?_;intro an B d b7 bw _ _;have A:Hid (Sw E e d (a+1) s0 [] .nil [] [(b.heap.size,220,Ir (A0 g n h) rr),tkB e.heap.size s] [(bI an (n+1) B,D++[(E.tk a).x])]):=G.putN (by rw[dm,aG,ad,ej];exact b7) bw;have⟨_,_,_⟩:=sLC A;refine c _ _ trivial (λl=>by cases l) ?_;simp only[Act.put,cA,cH,cC];refine fi (i:=10) J R (λz c=>?_);go_simp;refine c _ _ trivial (λl=>by cases l) ?_;try simp only[cA,cH,cC]
   refine fi (i:=11) J R (λz c=>?_);go_simp;refine c _ _ trivial (λl=>by cases l) ?_;try simp only[cA,cH,cC]
   refine fi (i:=12) J R (λz c=>?_);go_simp;have a0:Hid (Sw E e (d.setCell (aj b.heap.size 6)<|bI an (n+1) B) (a+1) s0 [] .nil [] [(b.heap.size,220,Ir (bI an (n+1) B) rr),tkB e.heap.size s] [(bI an (n+1) B,D++[(E.tk a).x])]):=A.setL (by intro ba af;obtain rfl:=ic.1 af;show 58≠220;decide);refine c _ _ trivial (λl=>by cases l) ?_;refine yd J ?_ _;generalize d.setCell _ _=cd at a0⊢;go_wp2_with fail;first
    |(refine dd (Fp a0 (by rw[u];decide)) λbb H=>?_
      go_wp2;go_roundg (E.n-(a+1))
      case measure=>omega
      exact⟨a+1,D++[(E.tk a).x],[],rr,B2,_,n+1,B,R,by rw[aG,ad];rfl,O,O,.close u O,H,p.1,p.2⟩)
    |(refine dd (Au a0 u) λbb H=>?_
      go_wp2;go_roundg (E.n-(a+2))
      case measure=>omega
      exact⟨a+2,D++[(E.tk a).x],a8,rr,al,_,n+1,B,R,by rw[aG,ad];rfl,O,O,bd,H,p.1,p.2⟩)
end
abbrev CxP(E:Pe)(i:Nat)(x:Fo)(j:Nat):Prop:=CN E 252 #[pV E] i x j
abbrev ClP(E:Pe)(i:Nat)(x:Fo)(j:Nat):Prop:=CR E 303 #[pV E,.func (.func 252) #[pV E] #[]] i x j
def PI(E:Pe):Tsk->Nat->Fo->Nat->Prop| .unit,i,R1,j=>CN E 342 #[pV E] i R1 j| .expr p,i,R1,j=>CXi E p i R1 j| .more p s x,i,R1,j=>∃m,Ms E (CXi E) p s m x i R1 j| .base,i,R1,j=>CN E 253 #[pV E] i R1 j| .post s x,i,R1,j=>∃m,Pss E (CxP E) (ClP E) s m x i R1 j| .exprs,i,R1,j=>ClP E i R1 j| .moreE,i,R1,j=>∃m,Ls E (CN E 252 #[pV E]) m i R1 j| .moreB,i,R1,j=>∃m,Ls E (CN E 253 #[pV E]) m i R1 j| .stat,i,R1,j=>CN E 154 #[pV E] i R1 j| .stats,i,R1,j=>∃m,Ss E (CN E 154 #[pV E]) m i R1 j| .block,i,R1,j=>CN E 254 #[pV E] i R1 j| .body s,i,R1,j=>CN E 305 #[pV E,C2<|rE s.k s] i R1 j| .entry,i,R1,j=>CN E 378 #[pV E] i R1 j| .entries,i,R1,j=>∃m,Es E (CN E 378 #[pV E]) m i R1 j| .branch,i,R1,j=>CN E 245 #[pV E] i R1 j
def ars{k}(h:lm k=A2):k=25\/k=50\/k=62\/k=69:=by
 have:=aL h;omega
def IL{f x}(b:∀(args:zAV) (w),(callFunc f args).run Tryz.prog w= .ok (.enter f args) w)(d:CN E f #[pV E] i x k)(h:(E.tk k).k≠46)(c:k<E.n):CR E 303 #[pV E,.func (.func f) #[pV E] #[]] i x k:=by
 have a:=ahq b d<|Ls.stop h c;rw[Fo.app_nil]at a;exact a
def an0(y:∀q,(E.tk q).k<=78){R1}(h:P E.tk E.n t i R1 j):PI E t i R1 j:=by
 induction h with
 |upre a b d c=>
  have:=d.pos;simp[dL]at this;obtain h|h|h|h:=ars a
  .rw[h];exact Ae (by constructor) h b<|jk<|.pre Z h b c O O
  .rw[h];exact Ae (by constructor) h b<|jk<|.pre Z h b c O O
  .rw[h];exact Ae (by constructor) h b<|jk<|.pre Z h b c O O
  .rw[h];exact Ae (by constructor) h b<|jk<|.pre Z h b c O O
 |uint a b=>exact azB b a|uflt a b=>exact Ae (by constructor) a O<|anc b Z Z a|ustr a b=>exact Ae (by constructor) a O<|anc b Z Z a|unil a b=>exact Ae (by constructor) a O<|jk<|.leaf Z Z a b|utru a b=>exact Ae (by constructor) a O<|jk<|.leaf Z Z a b|ufls a b=>exact Ae (by constructor) a O<|jk<|.leaf Z Z a b|urst a b=>exact Ae (by constructor) a O<|jk<|.leaf Z Z a b|@ufn i j R1 a b d c=>exact jk<|.ufn a b (by have q:CN E 305 #[pV E,C2<|rE (E.tk i).k<|E.tk i] (i+1) R1 j:=c;rw[a]at q;exact q)|utab a b d f g c=>obtain⟨r,c⟩:=c;exact Ae (by constructor) a b<|azC a b c f g
 |ubas a b d c=>
  obtain h|h:=a
  .exact Ae (by constructor) h b c
  .exact Ae (by constructor) h b c
 |ex a b d f m o=>obtain⟨r,c⟩:=o;exact auK a b y m c
 |mstop a b=>exact⟨0,.stop a b⟩|mgo a b d f g o w=>obtain⟨r,c⟩:=w;have:=f.pos;simp[dL]at this;exact⟨_,.go a b d o O O c⟩
 |bname a b d c=>obtain⟨r,c⟩:=c;have:=d.pos;simp only[dL]at this;exact asL a b (.inl ⟨R,anc O Z Z a⟩) c
 |bopen a b d f g l m s=>obtain⟨r,c⟩:=s;have:=d.pos;have:=l.pos;simp only[dL]at *;exact asL a b (.inr ⟨R,ax4 a b (jk<|.expr m) f O O⟩) c
 |pstop a b=>exact⟨0,.stop a b⟩|pdot a b d f c=>obtain⟨r,c⟩:=c;have:=f.pos;exact⟨_,.dot a b O c⟩
 |psq a b d f g l m s=>obtain⟨r,c⟩:=s;have:=l.pos;exact⟨_,.sq a b (jk<|.expr m) f O c⟩
 |pcall0 a b d f c=>obtain⟨r,c⟩:=c;have:=f.pos;exact⟨_,.call0 a b O c⟩
 |pcall a b d f g l p o u=>obtain⟨r,c⟩:=u;have:=p.pos;exact⟨_,.call a b d o g O c⟩
 |es a b A B=>obtain⟨r,c⟩:=B;exact ahq cfE (jk<|.expr A) c
 |estop a b=>exact⟨0,.stop a b⟩|ego a b d f m o=>obtain⟨r,c⟩:=o;exact⟨_,.go a b (jk<|.expr m) c⟩
 |bstop a b=>exact⟨0,.stop a b⟩|bgo a b d f m o=>obtain⟨r,c⟩:=o;exact⟨_,.go a b m c⟩
 |body a b d f c=>have:=d.pos;have:=f.pos;simp[dL]at *;exact ayf R a O d c O O|block a b d f g c=>obtain⟨r,c⟩:=c;exact jk<|.blk a b (amC (.inl f) c) f g
 |sstop a b=>exact⟨0,.stop b⟩|ssep a b d c=>obtain⟨r,c⟩:=c;exact⟨_,.sep a b c⟩
 |sgo a b d f g l w s=>obtain⟨r,c⟩:=s;exact⟨_,.go a b d f w c⟩
 |nstop a b=>exact⟨0,.stop a b⟩|ncom a b d f g l m s=>obtain⟨r,c⟩:=s;exact⟨_,.com a b m f g c⟩
 |nlast a b d f g l m s=>obtain⟨r,c⟩:=s;exact⟨_,.last a b m f g c⟩
 |item a b d f g c=>have:=g.pos;simp[dL]at this;exact jk<|.item a b d R f (jk<|.expr c) O O|pair a b d f g l p m u=>have:=d.pos;have:=p.pos;simp[dL]at *;exact jk<|.pair a b (jk<|.expr m) f g l (jk<|.expr u) O O|named a b d f g c=>have:=g.pos;simp[dL]at this;exact jk<|.named a b d f (jk<|.expr c) O O|belif a b d f g l p m o u=>have:=d.pos;have:=f.pos;have:=p.pos;simp[dL]at *;exact jk<|.if1 a R b (jk<|.expr m) o l g u O O|belse a b d f g l p m o u=>have:=d.pos;have:=f.pos;have:=p.pos;simp[dL]at *;exact jk<|.if2 a R b (jk<|.expr m) o l g u O O|bno a b d f g l p m o=>have:=d.pos;have:=f.pos;simp only[dL]at *;exact jk<|.if0 a R b (jk<|.expr m) o O p g l|tlet0 a b d f g=>have:=f.pos;exact Ae (by constructor) a O<|jk<|.let0 a O (Bc d b f) O O g|tlet a b d f g l c=>have:=f.pos;have:=l.pos;simp[dL]at *;exact Ae (by constructor) a O<|jk<|.let1 a O (Bc d b f) O g c O O|tcon a b d f g c=>have:=g.pos;simp[dL]at *;exact Ae (by constructor) a O<|jk<|.con a O (Bc b O<|.stop (by rw[d];decide) O) O d (jk<|.expr c) O O|@tfn i j x a b d f g c=>have:=g.pos;simp[dL]at *;exact Ae (by constructor) a O<|jk<|.fn a O (Bc b O<|.stop (by rw[d];decide) O) O d (by have q:CN E 305 #[pV E,C2<|rE (E.tk<|i+2).k<|E.tk<|i+2] (i+2) x j:=c;rw[d]at q;exact q) O O|tif a b d c=>exact Ae (by constructor) a b c|twhile a b d f m o=>have:=d.pos;have:=f.pos;simp[dL]at *;exact Ae (by constructor) a b<|jk<|.whl a b (jk<|.expr m) o O O|tfor a b d f g l p s u=>have:=f.pos;have:=l.pos;have:=p.pos;simp[dL]at *;exact Ae (by constructor) a O<|jk<|.for_ Z a O (Bc d b f) O g s u O O|teach a b d f g l p v z s F=>have:=f.pos;have:=l.pos;have:=z.pos;simp[dL]at *;exact Ae (by constructor) a O<|jk<|.for_ Z a O (Bc d b f) O g (IL cfE (jk<|.expr s) O v) F O O|tbreak a b=>exact Ae (by constructor) a O<|jk<|.leaf Z Z a b|tnext a b=>exact Ae (by constructor) a O<|jk<|.leaf Z Z a b|tret0 a b d=>exact Ae (by constructor) a O<|jk<|.ret0 a b<|eI d|tret a b d f c=>have:=f.pos;simp[dL]at *;exact Ae (by constructor) a O<|jk<|.ret1 a b (bq λe=>by obtain e|e|e:=e<;>(rw[e]at d;revert d;decide)) c O O
 |ttry a b d f g l p v m C=>have:=d.pos;have:=p.pos;have:=v.pos;simp[dL]at *;exact Ae (by constructor) a b<|jk<|.try_ a b m f O (Bc l g p) C O O|tthrow a b d c=>have:=d.pos;simp[dL]at *;exact Ae (by constructor) a b<|jk<|.wthE a b (jk<|.expr c) O O|tdefer a b d c=>have:=d.pos;simp[dL]at *;exact Ae (by constructor) a b<|jk<|.wthB a b c O O|tblock a b d c=>exact Ae (by constructor) a b c|tdo a b d f g l c=>
  have:=d.pos;simp only[dL]at *;obtain h|h:=a
  .exact Ae (by constructor) h b (jk<|.do_ O h b (IL cfB c f l) g l O)
  .exact Ae (by constructor) h b (jk<|.do_ O h b (IL cfB c f l) g l O)
 |tset a b d f g l p m o u=>
  obtain⟨r,o⟩:=o;have:=d.pos;have:=f.pos;have:=p.pos;simp only[dL]at *;obtain h|h:=a
  .exact Ae (by constructor) h b (setP O h b (ahq cfB m o) g l u O O)
  .exact Ae (by constructor) h b (setP O h b (ahq cfB m o) g l u O O)
def az2(b c a d e f w):(Instr.field 58 (C2 #[b,c,a,d,e,f]) 2).run Tryz.prog w= .ok a w:=J
def ayg{R1}(hS:CR E 54 #[pV E] i R1 j)(g:j<E.n):CN E 22 #[pV E] i (one ⟨1,0,(E.tk j).t,1,0,0,z0,[],[]⟩ R1) j:=by
 intro _ f h;have b:=Sw.start f;have k:=az2;simp only[dh]at h;go_in;go_wp21
 apply(ahl b hS).mono;rintro e _ ⟨_,_,_,_,rfl,a,_⟩;go_wp21
 apply(ams a.pp g).mono;rintro e _ ⟨⟨_,_,rfl⟩,d⟩;have c:=sB a d;go_wp21
 go_ret;exact⟨_,R,ade c ⟨1,0,_,1,0,0,z0,_,_⟩ R R R R⟩
structure Fm (lo:Nat) (lb:zON) (w w':B1):Prop where
 bl:Below lo w w'
 at_:∀k cs t fr,w.heap[k]?=Ax (.cells cs t fr)->lb≠Ax k->w'.heap[k]?=Ax (.cells cs t fr)\/∃c u,t=BB c/\w'.heap[k]?=Ax (.cells (cs.setIfInBounds 4<|zI u) t fr)
def az3(cs:zAV)(u v):(cs.setIfInBounds 4 u).setIfInBounds 4 v=cs.setIfInBounds 4 v:=I
theorem Fm.trans{c lb b x f z}(h:Fm c lb x f)(k:Fm c b f z)(o:∀g,b=Ax g->lb=Ax g\/x.heap.size<=g):Fm c lb x z:=by
 refine⟨h.bl.trans k.bl,λa i n j l m=>?_⟩;have e:b≠Ax a:=λ_=>by
  grind
 obtain g|⟨_,_,_,g⟩:=h.at_ a i n j l m
 .exact k.at_ a _ _ _ g e
 .rcases k.at_ a _ _ _ g e with d|⟨_,_,_,d⟩
  .grind
  .rw[az3]at d;grind
def Fm.of_below{c d}(b:Below w.heap.size w d)(e:c<=w.heap.size)(lb):Fm c lb w d:=⟨b.mono e,λ_ _ _ _ a _=> .inl ((b.block _<|ai a).trans a)⟩
def iG{c}:BB c≠9/\BB c≠64/\BB c≠3/\BB c≠37:=by
 match c with
 |0=>decide|1=>decide|2=>decide|3=>decide|4=>decide|5=>decide|n+6=>exact⟨(Z:134≠9),(Z:134≠64),(Z:134≠3),(Z:134≠37)⟩
section
variable {lo : Nat} {lb : zON} {w w' : World}
theorem Fm.blk(h:Fm lo lb w w'){cs:zAV}{t fr}(a:w.heap[k]?=Ax (A3 cs t fr))(b:lb≠Ax k)(d:∀c,t≠BB c):w'.heap[k]?=Ax (A3 cs t fr):=by
 obtain _|⟨c,_,_,_⟩:=h.at_ k cs t fr a b;all_goals grind
theorem Fm.row(h:Fm lo lb w w'){b e size:Nat}{xs:zLV}(o:w.ownsRow b e size v n xs)(l:∀g,v.ownBlock=Ax g->lb≠Ax g)(m:∀c,e≠BB c):w'.ownsRow b e size v n xs:=by
 obtain⟨i,a⟩:=o;refine⟨i,?_⟩;obtain a|⟨g,d,f,rfl,k,j,p⟩:=a
 .grind
 .exact .inr ⟨g,d,f,R,k,h.blk j (l g R) m,p⟩
def Fm.box(h:Fm lo lb w w'){e d}(c:im w b N vn d e)(f:lb≠Ax b):∃g,im w' b N vn g e:=by
 unfold im at c;obtain a|⟨_,i,_,a⟩:=h.at_ b _ _ _ c f
 .exact⟨d,a⟩
 .exact⟨i,a⟩
theorem Fm.nodes(h:Fm lo lb w w')(n:∀g,lb=Ax g->∃cs t fr,w.heap[g]?=Ax (A3 cs t fr)/\t≠9/\t≠64/\∀c,t≠BB c):∀(R1)(i)(f){d}{a},wI w d a R1 i f->wI w' d a R1 i f
 | .nil,i,f,d,a,q=>q| .cons N k r,i,f,d,a,⟨b,G,vn,vk,kv,vs',bk,br,e,⟨u,v,m,x⟩,B,k1,E,F⟩=>by
  have nb:∀{g:Nat}{cs:zAV}{t:B4}{fr:Nat×Nat},w.heap[g]?=Ax (A3 cs t fr)->(t=9\/t=64\/∃c,t=BB c)->lb≠Ax g:=λ{g cs t fr} j A e=>by
   grind
  have o:∀{t:B4}{p:A5}{s:zLV},Rv w d a t p s->(t=9\/t=64)->(∀c,t≠BB c)->Rv w' d a t p s:=λl A z=>⟨h.row l.1 (λg j=>by
   obtain⟨rfl,_⟩|⟨y,_,_,rfl,_,_,_⟩:=l.1.2
   .simp[A1]at j
   .obtain rfl:y=g:=by simpa [A1] using j
    grind) z,l.2⟩
  obtain⟨C,y⟩:=h.box m<|nb m<|.inr<|.inr ⟨_,R⟩;exact⟨b,C,vn,vk,kv,vs',bk,br,e,⟨u,v,y,x⟩,o B (.inl R) (λc=>iG.1.symm),o k1 (.inr R) (λc=>iG.2.1.symm),Fm.nodes h n k kv bk E,Fm.nodes h n r vs' br F⟩
theorem Fm.num{a d}(c:im w b N vn d a)(i:lo<=b)(u lb):Fm lo lb w (w.setCell (aj b 4)<|zI u)/\im (w.setCell (aj b 4)<|zI u) b N vn u a:=by
 unfold im at c⊢;have e:(w.setCell (aj b 4)<|zI u).heap[b]?=Ax (A3 (([zI N.k,zI N.f,zI N.t,zI N.l,zI d,a]++exT N vn (eG N.k)).toArray.setIfInBounds 4<|zI u) (BB<|eG N.k) (0,0)):=aD _ b 4 _ _ _ c;refine⟨⟨(ay _ w).setCell i _,λj _ k _ g _=>?_⟩,e⟩;by_cases h:j=b
 .grind
 .exact .inl ((jg h).trans g)
end
def Fr(s:Nat)(v:A5):Prop:=∀g,v.ownBlock=Ax g->s<=g
def Fr.le{s t}(h:Fr s v)(c:t<=s):Fr t v:=λa b=>bK c<|h a b
def LP(d:Nat)(N:Nd)(ks:Fo)(w:B1)(v:A5)(h:zLN)(L:zLM)(f:A5)(e:Ending)(c:B1):Prop:=∃a M,e= .returned a/\Lw c d a (L++M)/\M.map Mb.N=(one N ks).flat (V L)/\(∀y,(M.flatMap λx=>x.vn.ownBlock.toList).count y<=h.count y)/\((∀x∈M,Fr w.heap.size x.vk)/\(M.flatMap λx=>x.vk.ownBlock.toList).Nodup)/\Fm d f.ownBlock w c/\(∀g,a.ownBlock=Ax g->f.ownBlock=Ax g\/w.heap.size<=g)/\∃b t,v=B7 t (be b 0)/\c.cell? (aj b 4)=Ax (zI ((V L+ks.sz:Nat):Int))
def LC(a:Nat)(N:Nd)(ks:Fo):Prop:=∀(w:B1)(v:A5)(b:zLN)(L:zLM)(lv:A5),wI w a Br (one N ks) [v] b->Lw w a lv L->a<=w.heap.size->V L+(one N ks).sz<=50000000->
 Calls Tryz.prog 21 #[v,lv] w (LP a N ks w v b L lv)
def LCs(a:Nat):Fo->Prop| .nil=>True| .cons N k r=>LC a N k/\LCs a r
def kB(a:zLM):zLN:=a.flatMap λx=>x.vk.ownBlock.toList
def nB'(a:zLM):zLN:=a.flatMap λx=>x.vn.ownBlock.toList
structure Lj (lo:Nat) (w wr:B1) (N:Nd) (b rb:Nat) (vn vk lv lv1:A5) (L M:zLM) (ks D R':Fo) (kv us vs':zLV) (bk bd br:zLN) (tp:zLI) (ac:zOA) (nc cc:Nat):Prop where
 e1:D.app R'=ks
 e2:us++vs'=kv
 ln:V us=D.len
 lc:LCs lo R'
 nr:wI wr lo Br R' vs' br
 pb:(bd++br).Perm bk
 lw:Lw wr lo lv1 (L++M)
 mf:M.map Mb.N=D.flat (V L)
 mp:∀y,(nB' M).count y<=bd.count y
 mr:∀x∈M,Fr w.heap.size x.vk
 fm:Fm lo lv.ownBlock w wr
 lb:∀g,lv1.ownBlock=Ax g->lv.ownBlock=Ax g\/w.heap.size<=g
 rb:w.heap.size<=rb/\lv1.ownBlock≠Ax rb/\wr.heap[rb]?=Ax (.cells (zK N (yv vn<|eG N.k)<|.slice ac nc cc) 37 (0,0))
 kr:wr.ownsRow w.heap.size 3 1 (.slice ac nc cc) nc (tp.map zI)
 kd:(kB M++(B0 ac nc cc).ownBlock.toList).Nodup
 bx:∃num,im wr b N vn num vk
 vr:wr.ownsRow lo 64 1 vk (V kv) kv
 lq:∀x∈L,∀g,x.vk.ownBlock=Ax g->g<w.heap.size
 nw:wr.ownsRow lo 9 1 vn (V<|N.nm.map A9) (N.nm.map A9)
section
variable {lo : Nat} {w wr w4 : World} {N N' : Nd} {b rb : Nat} {vn vk lv lv1 lv2 v : Value} {L M M2 : zLM} {ks D k' r : Fo} {kv us vs' : zLV} {bk bd br : zLN} {tp : zLI} {ac : zOA} {nc cc : Nat}
def avm(a b):kB (a++b)=kB a++kB b:=BI
def avn(a b):nB' (a++b)=nB' a++nB' b:=BI
def rC{w:B1}{b e size:Nat}{v}{xs:zLV}(o:w.ownsRow b e size v n xs)(a:v.ownBlock=Ax g):∃cs fr,w.heap[g]?=Ax (A3 cs e fr):=by
 obtain⟨rfl,_⟩|⟨c,_,_,rfl,_,d,_⟩:=o.2
 .simp[A1]at a
 .obtain rfl:c=g:=by simpa [A1] using a
  exact⟨_,_,d⟩
def Lj.kid(h:Lj lo w wr N b rb vn vk lv lv1 L M ks D (.cons N' k' r) kv us (v::vs') bk bd br tp ac nc cc)(k:Fm lo lv1.ownBlock wr w4)(al:Lw w4 lo lv2 ((L++M)++M2))(am:M2.map Mb.N=(one N' k').flat (V<|L++M)){l}(ad:∃d,br=l++d/\wI wr lo Br r vs' d)(ao:∀y,(nB' M2).count y<=l.count y)(q:∀x∈M2,Fr wr.heap.size x.vk)(F:(kB M2).Nodup)(p:∀g,lv2.ownBlock=Ax g->lv1.ownBlock=Ax g\/wr.heap.size<=g):∃d,Lj lo w w4 N b rb vn vk lv lv2 L (M++M2) ks (D.app<|one N' k') r kv (us++[v]) vs' bk (bd++l) d tp ac nc cc:=by
 obtain⟨d,rfl,an⟩:=ad;have ak:=h.fm.bl.size;have t:∀g,lv1.ownBlock=Ax g->∃i j,wr.heap[g]?=Ax (A3 i 37 j):=λg a=>rC h.lw.row a;have z:∀{g:Nat}{i:zAV}{B:B4}{j:Nat×Nat},wr.heap[g]?=Ax (A3 i B j)->B≠37->lv1.ownBlock≠Ax g:=λa af e=>by
  obtain⟨_,_,c⟩:=t _ e;rw[a]at c;simp[vI]at c;exact af c.2.1
 have o:∀{u e size n:Nat}{C:A5}{E:zLV},wr.ownsRow u e size C n E->e≠37->(∀f,e≠BB f)->w4.ownsRow u e size C n E:=λA G H=>k.row A (λg a=>by have⟨i,j,c⟩:=rC A a;exact z c G) H;have K:V (L++M)=V L+D.sz:=by
  have e:=congrArg V h.mf;rw[dm,Fo.flat_len]at e;rw[aG,e]
 have⟨_,s⟩:=h.bx;have ap:=ai h.rb.2.2;refine⟨d,?_,?_,?_,h.lc.2,k.nodes (λg a=>by have⟨i,j,c⟩:=t g a;exact⟨i,_,j,c,Z,Z,λf=>iG.2.2.2.symm⟩) _ _ _ an,?_,by rw[<-fL];exact al,?_,?_,?_,h.fm.trans k h.lb,?_,⟨h.rb.1,?_,k.blk h.rb.2.2 h.rb.2.1 (λf=>iG.2.2.2.symm)⟩,o h.kr Z (λf=>iG.2.2.1.symm),?_,k.box s<|z s iG.2.2.2,o h.vr Z (λf=>iG.2.1.symm),h.lq,o h.nw Z (λf=>iG.1.symm)⟩
 .rw[Fo.app_app];exact h.e1
 .rw[fL];exact h.e2
 .rw[aG,Fo.len_app,h.ln];rfl
 .rw[fL];exact h.pb
 .rw[ej,h.mf,am,Fo.flat_app,K]
 .intro y;have m:=h.mp y;have ar:=ao y;rw[avn,FJ,FJ];omega
 .intro x hx;obtain hx|hx:=dg.1 hx
  .exact h.mr x hx
  .exact(q x hx).le ak
 .intro g a;obtain e|e:=p g a
  .exact h.lb g e
  .exact .inr O
 .intro e;obtain e|e:=p rb e
  .exact h.rb.2.1 e
  .omega
 .rw[avm];refine nd3 (n:=wr.heap.size) h.kd F (λx hx=>?_) (λx hx=>?_)
  .rcases dg.1 hx with hx|hx
   .have⟨y,m,hx⟩:=List.mem_flatMap.1 hx;exact((h.lw.each y<|Li _ m).2.lt x (by simpa using hx)).2
   .exact(h.kr.lt x (by simpa using hx)).2
  .have⟨y,m,hx⟩:=List.mem_flatMap.1 hx;exact q y m x (by simpa using hx)
def Lj.put{af z o s m}(h:Lj lo w wr N b rb vn vk lv lv1 L M ks D af kv us vs' bk bd br tp ac nc cc)(an:m.ownsRow w.heap.size 3 1 (A0 (Ax ⟨g,0,Br⟩) (nc+1) s) (nc+1) ((tp++[z]).map<|Value.int .i64))(n:(wr.alloc o).grownBy m (B0 ac nc cc).ownBlock)(ap:(B0 ac nc cc).ownBlock=Ax g\/g=(wr.alloc o).heap.size)(am:lo<=w.heap.size):Lj lo w (m.setCell ⟨rb,8,Br⟩<|A0 (Ax ⟨g,0,Br⟩) (nc+1) s) N b rb vn vk lv lv1 L M ks D af kv us vs' bk bd br (tp++[z]) (Ax ⟨g,0,Br⟩) (nc+1) s:=by
 have a3:=h.fm.bl.size;have a2:=(dj wr o).size;have G:=λc a=>(h.kr.lt c a).1;have x:Fm lo (B0 ac nc cc).ownBlock wr m:=⟨((dj wr o).mono O).trans<|(ay lo _).grown n O (λc a=>bK am<|G c a),λc j t k a E=> .inl ((n.block c (by have:=ai a;omega) (λe=>E e.symm)).trans<|((dj wr o).block c<|ai a).trans a)⟩;have C:∀{c:Nat}{j:zAV}{t:B4}{k:Nat×Nat},wr.heap[c]?=Ax (A3 j t k)->t≠3->(B0 ac nc cc).ownBlock≠Ax c:=λa F e=>gG h.kr a F e;have H:=x.blk h.rb.2.2 (C h.rb.2.2 Z) (λi=>iG.2.2.2.symm);have y:Fm lo (Ax rb) m (m.setCell (aj rb 8)<|bI g (nc+1) s):=⟨(ay lo m).setCell (bK am h.rb.1) _,λc j t k a E=> .inl ((jg (λe=>E (by rw[e]))).trans a)⟩;have ao:∀{c:Nat}{j:zAV}{t:B4}{k:Nat×Nat},m.heap[c]?=Ax (A3 j t k)->t≠37->Ax rb≠Ax c:=λa F e=>by
  cases e;rw[H]at a;simp[vI]at a;exact F a.2.1.symm
 have K:∀{p e size q:Nat}{l:A5}{r:zLV},wr.ownsRow p e size l q r->(∀g,l.ownBlock=Ax g->(B0 ac nc cc).ownBlock≠Ax g)->(∀g,l.ownBlock=Ax g->g≠rb)->(∀i,e≠BB i)->(m.setCell (aj rb 8)<|bI g (nc+1) s).ownsRow p e size l q r:=λf u A B=>y.row (x.row f u B) (λg n e=>A g n (by cases e;rfl)) B;have ad:∀{p e size q:Nat}{l:A5}{r:zLV},wr.ownsRow p e size l q r->e≠3->e≠37->(∀i,e≠BB i)->(m.setCell (aj rb 8)<|bI g (nc+1) s).ownsRow p e size l q r:=λf u A B=>K f (λg n=>by have⟨j,k,d⟩:=rC f n;exact C d u) (λg n e=>by have⟨j,k,d⟩:=rC f n;rw[e,h.rb.2.2]at d;simp[vI]at d;exact A d.2.1.symm) B;have ax:∀{p q:Nat}{l:A5}{r:zLV},wr.ownsRow p 3 1 l q r->(∀g,l.ownBlock=Ax g->(B0 ac nc cc).ownBlock≠Ax g)->(m.setCell (aj rb 8)<|bI g (nc+1) s).ownsRow p 3 1 l q r:=λf u=>K f u (λg n e=>by have⟨j,k,d⟩:=rC f n;rw[e,h.rb.2.2]at d;simp only[mw,vI]at d;exact absurd d.2.1 Z) (λi=>iG.2.2.1.symm);have⟨_,ak⟩:=h.bx;have⟨_,al⟩:=x.box ak<|C ak iG.2.2.1;refine⟨h.e1,h.e2,h.ln,h.lc,y.nodes (λc a=>by cases a;exact⟨_,_,_,H,Z,Z,λi=>iG.2.2.2.symm⟩) _ _ _<|x.nodes (λc a=>by have⟨j,k,d⟩:=rC h.kr a;exact⟨_,_,_,d,Z,Z,λi=>iG.2.2.1.symm⟩) _ _ _ h.nr,h.pb,⟨K h.lw.row (λc a=>by have⟨j,k,d⟩:=rC h.lw.row a;exact C d Z) (λc a e=>h.rb.2.1 (by rw[<-e];exact a)) (λi=>iG.2.2.2.symm),λv hx=>⟨ad (h.lw.each v hx).1 Z Z (λi=>iG.1.symm),ax (h.lw.each v hx).2 (λc a e=>?_)⟩⟩,h.mf,h.mp,h.mr,(h.fm.trans x (λc a=> .inr (G c a))).trans y (λc a=> .inr (by cases a;exact h.rb.1)),h.lb,⟨h.rb.1,h.rb.2.1,aD _ rb 8 _ _ _ H⟩,?_,?_,y.box al<|ao al iG.2.2.2,ad h.vr Z Z (λi=>iG.2.1.symm),h.lq,ad h.nw Z Z (λi=>iG.1.symm)⟩
 .rcases dg.1 hx with hx|hx
  .have:=h.lq v hx c a;have:=G c e;omega
  .have f:=oK.1 h.kd;exact f.2.2 c (List.mem_flatMap.2 ⟨v,hx,by simp[a]⟩) c (by simp[e]) R
 .exact y.row an (λc a=>by have⟨j,k,d⟩:=rC an a;exact ao d Z) (λi=>iG.2.2.1.symm)
 .rcases ap with e|e
  .have f:=h.kd;rw[e]at f;exact f
  .have f:=(oK.1 h.kd).1;rw[oK];refine⟨f,aav _,λv hx a1 av=>?_⟩;have⟨a0,ar,hx⟩:=List.mem_flatMap.1 hx;have u:=((h.lw.each a0<|Li _ ar).2.lt v (by simpa using hx)).2;have A:a1=g:=by simpa [A1] using av
   omega
def az4:∀c,xx N c=N->w.ownsRow lo 9 1 vn (V<|N.nm.map A9) (N.nm.map A9)->w.ownsRow lo 9 1 (yv vn c) (V N.nm) (N.nm.map A9)/\∀y,(yv vn c).ownBlock.toList.count y<=vn.ownBlock.toList.count y
 |0,_,o=>⟨by rw[dm]at o;exact o,λy=>fG _⟩|5,_,o=>⟨by rw[dm]at o;exact o,λy=>fG _⟩|1,e,_|2,e,_|3,e,_|4,e,_|n+6,e,_=>by
  have h:[]=N.nm:=congrArg Nd.nm e;rw[<-h];exact⟨onN,λy=>by simp[yv,A1]⟩
def Lj.fin{u o n e}(h:Lj lo w wr N b rb vn vk lv lv1 L M ks ks .nil kv us [] bk bd [] (ks.tops<|V L) ac nc cc)(af:lo<=b)(ad:xx N (eG N.k)=N)(am:lo<=w.heap.size)(ao:nc=ks.len)(ar:u=((V L+ks.sz:Nat):Int))(av:e.ownsRow lo 37 9 (A0 (Ax ⟨g,0,Br⟩) (V (L++M)+1) n) (V (L++M)+1) (mG<|(L++M)++[⟨{N with ks:=ks.tops (V L)},yv vn<|eG N.k,A0 ac nc cc⟩]))(d:((wr.setCell ⟨b,4,Br⟩<|.int .i64 u).alloc o).grownBy e lv1.ownBlock)(A:lv1.ownBlock=Ax g\/g=((wr.setCell ⟨b,4,Br⟩<|.int .i64 u).alloc o).heap.size)(t):
  ∃M',Lw e lo (bI g (V (L++M)+1) n) (L++M')/\M'.map Mb.N=(one N ks).flat (V L)/\(∀y,(M'.flatMap λx=>x.vn.ownBlock.toList).count y<=(vn.ownBlock.toList++(bk++[])).count y)/\((∀x∈M',Fr w.heap.size x.vk)/\(M'.flatMap λx=>x.vk.ownBlock.toList).Nodup)/\Fm lo lv.ownBlock w e/\(∀k,(bI g (V (L++M)+1) n).ownBlock=Ax k->lv.ownBlock=Ax k\/w.heap.size<=k)/\∃a c,Value.iface t (be b 0)=B7 c (be a 0)/\e.cell? (aj a 4)=Ax (zI ((V L+ks.sz:Nat):Int)):=by
 have a3:=h.fm.bl.size;have⟨a5,ak⟩:=h.bx;have⟨l,j⟩:=Fm.num ak af u Br;generalize a4:wr.setCell (aj b 4) (zI u)=i at l j d A;have a1:=(dj i o).size;have a2:=l.bl.size;have G:=l.row h.lw.row (λ_ _=>I) (λf=>iG.2.2.2.symm);have E:∀{k:Nat}{p:zAV}{t:B4}{r:Nat×Nat},i.heap[k]?=Ax (A3 p t r)->t≠37->lv1.ownBlock≠Ax k:=λc ap a=>gG G c ap a;have al:=λk c=>(h.lw.row.lt k c).1;have v:Fm lo lv1.ownBlock i e:=⟨((dj i o).mono O).trans<|(ay lo _).grown d O al,λk p t r c an=> .inl ((d.block k (by have:=ai c;omega) (λa=>an a.symm)).trans<|((dj i o).block k<|ai c).trans c)⟩;have m:∀{B a size C:Nat}{u:A5}{F:zLV},wr.ownsRow B a size u C F->a≠37->(∀f,a≠BB f)->e.ownsRow B a size u C F:=λq K z=>by
  have s:=l.row q (λ_ _=>I) z;exact v.row s (λg d=>by have⟨p,r,H⟩:=rC s d;exact E H K) z
 have H:=(d.block b (by have:=ai j;omega) (λa=>E j iG.2.2.2 a.symm)).trans<|((dj i o).block b<|ai j).trans j;have⟨ax,a0⟩:=az4 _ ad<|m h.nw Z (λf=>iG.1.symm);refine⟨M++[⟨{N with ks:=ks.tops (V L)},yv vn<|eG N.k,A0 ac nc cc⟩],⟨?_,λx hx=>?_⟩,?_,λy=>?_,⟨λx hx=>?_,?_⟩,(h.fm.trans O (λk c=>by cases c)).trans v h.lb,λk c=>?_,b,t,R,?_⟩
 .rw[<-fL];have a:∀(s:zLM)(x:Mb),V (s++[x])=V s+1:=λs x=>I;rw[a];exact av
 .rw[<-fL]at hx;obtain hx|hx:=dg.1 hx
  .exact⟨m (h.lw.each x hx).1 Z (λf=>iG.1.symm),m (h.lw.each x hx).2 Z (λf=>iG.2.2.1.symm)⟩
  .obtain rfl:=ic.1 hx;refine⟨ax,?_⟩;have q:=pL (m h.kr Z (λf=>iG.2.2.1.symm)) am;show e.ownsRow lo 3 1 _ (V<|ks.tops<|V L) _;rw[Fo.tops_len,<-ao];exact q
 .rw[ej,h.mf,Cz];rfl
 .have a6:=h.mp y;have s:=h.pb.count_eq y;have a7:=a0 y;have a:(List.flatMap (λx=>x.vn.ownBlock.toList)<|M++[(⟨{N with ks:=ks.tops (V L)},yv vn<|eG N.k,A0 ac nc cc⟩:Mb)])=nB' M++((yv vn<|eG N.k).ownBlock.toList++[]):=BI;rw[a];simp only[fp,FJ]at s⊢;omega
 .rcases dg.1 hx with hx|hx
  .exact h.mr x hx
  .obtain rfl:=ic.1 hx;exact λg d=>(h.kr.lt g d).1
 .have q:=h.kd;have a:(List.flatMap (λx=>x.vk.ownBlock.toList)<|M++[(⟨{N with ks:=ks.tops (V L)},yv vn<|eG N.k,A0 ac nc cc⟩:Mb)])=kB M++((B0 ac nc cc).ownBlock.toList++[]):=BI;rw[a,fp];exact q
 .obtain rfl:g=k:=by simpa [A1] using c
  obtain q|q:=A
  .exact h.lb g q
  .exact .inr O
 .rw[oe H,ar];rfl
end
theorem E5{B ks}(en:LCs B ks):LC B N ks:=by
 intro n v _ d _ b9 K ap cd;obtain⟨l,df,_,_,a0,F,af,bf,⟨ea,bo⟩,⟨cw,_,cy,cz⟩,dc,c9,dn,e6⟩:=b9;obtain⟨rfl,rfl⟩:=e6;obtain rfl:=(mD ea).1;obtain⟨bc,bn,rfl⟩:=aF dc.1;obtain⟨ba,bj,rfl⟩:=aF K.row;obtain⟨a9,b7,rfl⟩:=aF c9.1;have eo:=Gi.len _ _ ⟨af,dn⟩;have bz:=λn=>vf (eG N.k) l n;have ew:=λn=>eD l n;obtain⟨ad,a4,ao,bA⟩:∃d6 c cI,yv (A0 bc (V<|N.nm.map A9) bn) (eG N.k)=A0 d6 c cI:=by unfold yv;grind
 have ax:=Ko n l N _ _ df ⟨_,_,_,R⟩ cy;rw[cz,bA]at ax;unfold jq at ax;unfold iF at ax⊢;generalize fg:nC (eG N.k)=e4 at ax bz⊢;have w:=ah cy;have⟨c,av⟩:=aw<|V a0;have⟨A,bw⟩:=aw<|V d;have ff:c<=50000000:=by have:=ks.len_le;rw[dh]at cd;omega
 rw[av]at w;rw[bw];go_in;go_wp2_with (go_at_call 404;apply ez<|ew _);apply ax.mono;rintro e h ⟨rfl,H⟩;have fa:∀o,(h.alloc o).cell? ⟨l,5,Br⟩=Ax (A0 a9 c b7):=λo=>by
  have b:=((dj h o).block _<|jm (ai w) H.size).trans<|(H.block _<|ai w).trans w;rw[oe b];rfl
 have el:=dj h<|A3 (zK N (A0 ad a4 ao) fe) 37;have s:=H.trans<|el.mono H.size;have dz:Hid (Lj B n (h.alloc<|A3 (zK N (A0 ad a4 ao) fe) 37) N l h.heap.size (A0 bc (V<|N.nm.map A9) bn) (A0 a9 c b7) (A0 ba A bj) (A0 ba A bj) d [] ks .nil ks a0 [] a0 af [] af [] Br 0 0):=by
  refine⟨R,R,R,en,wI.mono (λq k m p=>⟨s.block q p,k,m⟩) _ _ _ dn,List.Perm.refl _,?_,R,λ_=>fG _,λf a=>(by cases a),Fm.of_below s ap _,λg j=> .inl j,⟨H.size,λe=>?_,by rw[bA];exact au h _⟩,onN,by simp[kB,A1],⟨df,(s.block _<|ai w).trans w⟩,by have:=cj c9.1 s;grind,λf a g j=>((K.each f a).2.lt g j).2,cj dc.1 s⟩
  .rw[fp];exact⟨by have:=cj K.row s;grind,λf a=>⟨cj (K.each f a).1 s,cj (K.each f a).2 s⟩⟩
  .have:=(K.row.lt _ (by rw[bw];exact e)).2;have:=H.size;omega
 go_wp2;go_loopw [1,18] (λe8 ct wr=>∃(b:Nat) (D L:_) (a6 F:_) (b5 bf:_) (j:_) (b0:_) (E b6:_) (ac:_) (m:_),e8=A0 b0 E b6/\ct=zI b/\b<=c/\V a6=b/\Hid (Lj B n wr N l h.heap.size (A0 bc (V<|N.nm.map A9) bn) (A0 a9 c b7) (A0 ba A bj) (A0 b0 E b6) d j ks D L a0 a6 F af b5 bf (D.tops A) ac b m)) (λ_ ct _=>c-(intOf ct).toNat)
 .exact⟨0,_,ks,_,a0,_,af,_,ba,A,bj,Br,0,R,R,O,R,dz⟩
 .
  obtain⟨b,D,L,a6,F,b5,bf,j,b0,E,b6,ac,m,rfl,rfl,_,ce,a⟩:=hrel;by_cases fc:b<c
  .have fb:V a6+V F=c:=by rw[<-av,<-a.out.e2,aG]
   obtain⟨v,a8,rfl⟩:∃v a8,F=v::a8:=by
    cases F with
    |nil=>grind|cons v a8=>grind
   cases L with
   |nil=>have:=a.nr.1;cases this
   |cons q z bE=>
    have⟨r,dk,a7,ds,da,e9,am,cF,⟨b8,eb⟩,ec,ee,ef,eg,eh⟩:=a.nr;obtain⟨rfl,rfl⟩:=mD b8;obtain⟨g,rfl⟩:∃g,a9=Ax _:=by
     have o:=a.vr;rw[av]at o;obtain⟨_,_⟩|⟨g,_,cf⟩:=aC o
     .omega
     .exact⟨g,(ago cf).1⟩
    have c3:wr.cell? (aj g b)=Ax (iF q.k r):=by
     have:=a.vr.cells (g:=g) R b _ (by rw[<-a.out.e2,jI O,ce,iI];rfl);have f:(⟨g,0,Br⟩:Addr).add b=⟨g,b,Br⟩:=by unfold Addr.add;split<;>simp_all
     rw[f]at this;exact this
    have ek:Hid (wI wr B Br (one q z) [iF q.k r]<|a7.ownBlock.toList++(am++[])):=⟨r,dk,a7,ds,da,_,am,_,⟨R,R⟩,ec,ee,ef,eg,R,R⟩;have ei:Hid (∃bh,bf=(a7.ownBlock.toList++(am++[]))++bh/\wI wr B Br bE a8 bh):=⟨cF,by rw[eb];simp,eh⟩;have eq:=λn=>vf (eG q.k) r n;have ey:=λn=>eD r n;have ca:V (d++j)=V d+D.sz:=by
     have e:=congrArg V a.mf;rw[dm,Fo.flat_len]at e;rw[aG,e]
    have fo:D.sz+(z.sz+1+bE.sz)=ks.sz:=by have e:=congrArg Fo.sz a.e1;rw[Fo.sz_app]at e;exact e
    have d0:=ah a.lc.1;have ep:=bK ap a.fm.bl.size;have cb:=ek;unfold iF at c3 cb;generalize fk:nC (eG q.k)=e5 at c3 cb eq;have fl:(0:Int)<=(b:Int):=O;have fn:(b:Int)<(c:Int):=O;go_wp2_with fail;apply(d0 wr _ _ _ _ cb a.lw ep (by rw[ca,dh];rw[dh]at cd;omega)).mono;rintro e p ⟨_,cv,rfl,cs,e0,e3,⟨c5,d9⟩,em,cB,_,_,cf,es⟩;obtain⟨d7,d8,rfl⟩:=aF cs.row;cases cf;generalize fd:V ((d++j)++cv)=eL at cs cB⊢;have⟨bh,d1⟩:=a.kid em cs e0 ei e3 c5 d9 cB;have G:=ah d1;have a3:p.drew.cell? (aj h.heap.size 8)=Ax (A0 ac b m):=by have k:=G.rb.2.2;show p.cell? _=_;rw[oe k];rfl
    have er:p.drew.cell? (aj r 4)=Ax (zI ((V (d++j)+z.sz:Nat):Int)):=es;generalize ev:(((V (d++j)+z.sz:Nat)):Int)=cu at er;go_wp2_with fail;refine B6 (S:=λ_=>True) J trivial (λhS=>?_);simp[iC,fh];apply aI 0 (be h.heap.size 8) R R hS (λdx c8=>by go_simp);simp[B5];apply aI 2 (B7 e5<|be r 0) R R hS (λdx c8=>by go_simp);simp[B5];refine uG (S:=λd5=>d5.cell? _=Ax _) (C:=λy=>!(y==8||y==9||y==10)) (i:=1) (v:=A0 ac b m) R (BG J) (λ_ _ _ b9=>b9) ?hC _ _ _ _ (BH R J) (List.contains_iff_mem.1 J) (Or.inl ⟨byR,λdx c8=>by go_simp⟩) hS a3 ?_
    .
     intro y _ f t;simp only[Bool.not_eq_false',zn,qo]at t;obtain(rfl|rfl)|rfl:=t
     .obtain rfl:=de f;exact⟨{on:=1,ground:=Ground.data},I,R,R⟩
     all_goals
      obtain rfl:=de f;exact⟨{on:=1,ground:=Ground.phase},I,R,R⟩
    simp only[Act.put,cA,cH,cC];refine fi (i:=3) J R (λx f=>?_);go_simp;apply ez<|ey _;apply f _ _ trivial (λ_=>a3);simp only[cA,cH,cC];refine fi (i:=4) J R (λx f=>?_);go_simp;apply f _ _ trivial (λ_=>a3);simp only[cA,cH,cC];refine fi (i:=5) J R (λx f=>?_);go_simp;apply f _ _ trivial (λ_=>a3);simp only[cA,cH,cC];refine fi (i:=6) J R (λx f=>?_);go_simp;apply f _ _ trivial (λ_=>a3);simp only[cA,cH,cC];refine fi (i:=7) J R (λx f=>?_);go_simp;have k:=G.rb.2.2;have eF:∀o,(p.alloc o).cell? ⟨h.heap.size,8,Br⟩=Ax (A0 ac b m):=λo=>by rw[oe<|((dj p o).block _<|ai k).trans k];rfl
    refine f _ _ trivial (λ_=>eF _) ?_;simp only[cA,cH,cC];have⟨cg,ch,cm,cp,cq⟩:=dw amp;have et:=G.fm.bl.size;refine fi (i:=8) J R (λx f=>?_);refine step_append_lies _ byR _ _ _ byR _ 3 cg _ 1 8 Tryz.underlying35 ch cm cp cq R Z _ b _ byR (cj G.kr<|eC<|dj p _) _ 1 1 [.int _ cu] byR R (B3<|au p _) (by intro e7 bD;rw[ic.1 bD];rfl) Z byM O (bK et (dj p _).size) _ R ?_;intro c6 c0 bF a5 u bt _;have c7:(p.alloc<|A3 #[zI cu] 3).grownBy bF (B0 ac b m).ownBlock:=⟨u.os,u.tape,u.output,u.size,u.block⟩;have d3:=G.put (by rw[ej];exact a5) c7 bt ap;have dq:=(c7.block _ (by have:=ai k;rw[dC];omega) (λe=>gG G.kr k Z e.symm)).trans<|((dj p _).block _<|ai k).trans k;have fq:bF.cell? (aj h.heap.size 8)=Ax (A0 ac b m):=crV dq;have fr:∀y,bF.frozen? (aj h.heap.size y)=B2:=λy=>frR dq;have d2:=ah d3;apply f _ _ trivial (λt=>by cases t);simp only[Act.put,cA,cH,cC];refine fi (i:=9) J R (λx f=>?_);go_simp;apply f _ _ trivial (λt=>by cases t);simp only[cA,cH,cC];refine fi (i:=10) J R (λx f=>?_);go_simp;apply f _ _ trivial (λt=>by cases t);refine yd J ?_ _;go_wp2_with fail;refine⟨⟨b+1,D.app<|one q z,bE,a6++[iF q.k r],a8,b5++(a7.ownBlock.toList++(am++[])),bh,j++cv,d7,eL,d8,Ax<|aj c6 0,c0,R,by go_num,O,by rw[aG,ce];rfl,?_⟩,by simp[intOf];omega⟩;have e:(D.app<|one q z).tops A=D.tops A++[cu]:=by rw[Fo.tops_app,<-ev,ca,bw];rfl
    rw[e];exact d2
  .have cb:c=b:=O;subst cb;have ca:V (d++j)=V d+D.sz:=by
    have e:=congrArg V a.mf;rw[dm,Fo.flat_len]at e;rw[aG,e]
   have cf:F=[]:=by
    have e:=congrArg V a.e2;rw[aG,ce,av]at e;exact ze O
   subst cf;have a8:L= .nil:=by
    cases L with
    |nil=>rfl|cons q z bE=>obtain⟨r,dk,a7,ds,da,e9,am,cF,⟨b8,_⟩,_⟩:=a.nr;cases b8
   subst a8;obtain⟨_,rfl⟩:=a.nr;have a7:D=ks:=by have e:=a.e1;rw[Fo.app_nil]at e;exact e
   subst a7;obtain⟨_,_,z⟩:=aF a.lw.row;have x:=ah<|(ago z).2.1;clear z;have bE:Hid (c=D.len):=by show c=_;rw[<-av];exact eo
   subst bw;have G:=ah bo;clear bo;have c3:E<=50000000:=by have:=x.out;rw[dh]at cd;omega
   have⟨cs,p⟩:=a.bx;have cB:=ai w.out;have k:=a.rb.2.2;have c7:=a.rb.1;rw[bA]at k;have cv:wr.cell? (aj l 4)=Ax (zI cs):=crV p;have c5:wr.frozen? (aj l 4)=B2:=frR p;have y:(wr.setCell (aj l 4)<|zI (E:Int)).heap[h.heap.size]?=_:=(jg (by show h.heap.size≠l;omega)).trans k;have⟨r,t⟩:=aw<|wr.setCell (aj l 4)<|zI E;rw[t]at y;obtain⟨_,_,_,_,_,_,_,_,_,_⟩:=aE y;have cF:¬(c:Int)<(c:Int):=O;have f:=(Fm.num p cw E Br).1;rw[t]at f;have q:=f.row a.lw.row (λ_ _=>I) (λcI=>iG.2.2.2.symm);have bh:=bK ap<|bK a.fm.bl.size f.bl.size;rw[<-x.out]at q;have cu:=cj q<|dj r<|A3 (zK N (A0 ad a4 ao)<|A0 ac c m) 37;have b8:=(dj r<|A3 (zK N (A0 ad a4 ao)<|A0 ac c m) 37).size;have⟨cg,ch,cm,cp,cq⟩:=dw CA;clear bz p k f q;go_wp2_with (at_builtin;refine wpList_append_own_at _ R _ _ _ R B 37 cg _ 9 _ Tryz.underlying24 ch cm cp cq R Z _ _ _ R cu _ 1 1 (zK N _ _).toList R R (B3<|au r _) (by intro e7 bD;simp at bD;obtain rfl|rfl|rfl|rfl|rfl|rfl|rfl|rfl|rfl:=bD<;>rfl) byM O (bK bh b8) ?_;intro _ bF a5 u _ bt;obtain⟨c6,c0,rfl⟩:=ownsRow_succ a5);go_ret;have a3:mG (d++j)++(zK N (A0 ad a4 ao)<|A0 ac c m).toList=mG ((d++j)++[⟨{N with ks:=D.tops (V d)},yv (A0 bc (V<|N.nm.map A9) bn)<|eG N.k,A0 ac c m⟩]):=by rw[uC<|d++j,bA];show _=mG (d++j)++(cMb _++[]);rw[fp];rfl
   rw[a3]at a5;have bz:=x.out;subst bz;rw[<-t]at u bt;have⟨am,b⟩:=a.fin cw cz ap bE O a5 u (by obtain e|e:=bt;exact .inl e.symm;exact .inr (by simpa [A1] using e)) e4;have bo:=G.out;subst bo;exact(⟨_,am,R,b⟩)
