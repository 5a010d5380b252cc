import Derived.Test.YtnoojdbdapljoaaGreatDoorHOk43
import Derived.Test.YtnoojdbdapljoaaGreatDoorHOk42
set_option linter.all false
set_option maxRecDepth 100000
set_option maxHeartbeats 12800000
open Go.Value renaming slice->M,int->Q,string->A0,tuple->A6,pointer->A7,ownBlock->A8
open Option renaming some->O,none->V
open Go.IntKind renaming i64->S
open Go renaming World->U,Value->Z,ownsRow_succ->A5,Calls->A9,TypeId->B0,maxLen->B1
open Go.RowKit renaming Hid->Y,Below->A1,intOf->Br
open Go.Obj renaming cells->Ax
open Go.Ending renaming returned->A2
open Go.World renaming news_of_block->A3
open Go.Proofs.Tryz renaming prog->A4
namespace Go.Proofs.YtnoojdbdapljoaaGreatDoor
open Go.RowKit Go.Maps Go.WideMaps
def Fo.all(p:Nd->Prop):Fo->Prop
 | .nil=>True
 | .cons N k r=>p N/\k.all p/\r.all p
theorem mz(p:Nd->Prop):∀(a b:Fo),(a.app b).all p↔a.all p/\b.all p
 | .nil,b=>by simp[Fo.app,Fo.all]
 | .cons N k r,b=>by simp only[Fo.app,Fo.all,mz p r b,and_assoc]
theorem eD(p:Nd->Prop)(N:Nd)(k:Fo):(one N k).all p↔p N/\k.all p:=by simp[one,Fo.all]
def Gd(tk:Nat->Tk)(n:Nat)(N:Nd):Prop:=(N.x=z0\/∃a,N.x=(tk a).x)/\N.nm.length<=n/\∀b∈N.nm,∃a,b=(tk a).x
def aj5(tk:Nat->Tk)(n:Nat):tq->Prop
 | .more _ _ x=>x.all (Gd tk n)
 | .post _ a=>a.all (Gd tk n)
 |_=>True
section
variable {tk : Nat → Tk} {n : Nat}
theorem gd0(k:Int)(s:Tk)(e op m:Int):Gd tk n (nd k s e op m z0 []):=⟨.inl rfl,be _,fun b a=>by cases a⟩
theorem gdx(k:Int)(s:Tk)(e op m:Int)(q:Nat):Gd tk n (nd k s e op m (tk q).x []):=⟨.inr ⟨q,rfl⟩,be _,fun x a=>by cases a⟩
theorem gd1(h:0<n)(k:Int)(s:Tk)(e op m:Int)(q:Nat):Gd tk n (nd k s e op m z0 [(tk q).x]):=⟨.inl rfl,h,fun x a=>⟨q,List.mem_singleton.1 a⟩⟩
theorem gdb(k:Int)(s:Tk)(e:Int):Gd tk n (pd k s e):=by unfold pd;split;exact gd0 ..;split;exact gd0 ..;exact gd0 ..
theorem gdh(N:Nd)(ks:Fo)(s:Tk)(e:Int)(h:Gd tk n N)(a:ks.all (Gd tk n)):(jG N ks s e).all (Gd tk n):=by
 unfold jG;split
 ·rw[eD,eD];exact⟨gd0 ..,h,a⟩
 ·rw[eD];exact⟨h,a⟩
theorem GA.gd{i j:Nat}{a:List ByteArray}(h:GA tk n i a j):i+2*a.length<=j/\j<n/\∀x∈a,∃q,x=(tk q).x:=by
 induction h with
 |stop d b=>exact⟨by simp,b,fun x hx=>by cases hx⟩
 |go d b e _ c=>
  refine⟨by simp;omega,c.2.1,fun x hx=>?_⟩;rcases List.mem_cons.1 hx with rfl|hx
  ·exact⟨_,rfl⟩
  ·exact c.2.2 x hx
theorem Prm.gd{i j:Nat}{c:List ByteArray}{r:Bool}(h:Prm tk n i c r j):i+c.length<=j/\j<=n/\∀x∈c,∃q,x=(tk q).x:=by
 induction h with
 |close a b=>exact⟨by simp,by omega,fun x hx=>by cases hx⟩
 |rest a b d=>exact⟨by simp,by omega,fun x hx=>by cases hx⟩
 |last a b d=>exact⟨by simp,by omega,fun x hx=>⟨_,List.mem_singleton.1 hx⟩⟩
 |go a b d _ e=>
  refine⟨by simp;omega,e.2.1,fun x hx=>?_⟩;rcases List.mem_cons.1 hx with rfl|hx
  ·exact⟨_,rfl⟩
  ·exact e.2.2 x hx
theorem gdn{i j q:Nat}{a:List ByteArray}(h:GA tk n i a j)(k:Int)(s:Tk)(e op m:Int):Gd tk n (nd k s e op m z0 ((tk q).x::a)):=by
 obtain⟨c,d,b⟩:=h.gd;refine⟨.inl rfl,by show a.length+1<=n;omega,fun x hx=>?_⟩;rcases List.mem_cons.1 hx with rfl|hx
 ·exact⟨_,rfl⟩
 ·exact b x hx
theorem P.gd{t:tq}{i j:Nat}{R:Fo}(h:P tk n t i R j):aj5 tk n t->R.all (Gd tk n):=by
 induction h
 case tlet0 h1 h2 h3 h4 h5=>intro _;rw[eD];exact⟨gdn h4 ..,trivial⟩
 case tlet h1 h2 h3 h4 h5 h6 ih=>intro _;rw[eD];exact⟨gdn h4 ..,ih trivial⟩
 case tfor h1 h2 h3 h4 h5 h6 h7 i1 i2=>intro _;rw[eD,mz];exact⟨gdn h4 ..,i1 trivial,i2 trivial⟩
 case teach h1 h2 h3 h4 h5 h6 h7 h8 h9 i1 i2=>intro _;rw[eD,mz];exact⟨gdn h4 ..,i1 trivial,i2 trivial⟩
 case ttry h1 h2 h3 h4 h5 h6 h7 h8 i1 i2=>intro _;rw[eD,mz];exact⟨gdn h7 ..,i1 trivial,i2 trivial⟩
 case body nm r B h1 h2 h3 h4 ih=>intro _;rw[eD];exact⟨⟨.inl rfl,by have:=h3.gd;show nm.length<=n;omega,h3.gd.2.2⟩,ih trivial⟩
 case bopen h1 h2 h3 h4 h5 h6 i1 i2=>intro _;have:=i1 trivial;rw[eD]at this;exact i2 (gdh _ _ _ _ this.1 this.2)
 case tcon h1 h2 h3 h4 h5 ih=>intro _;rw[eD];exact⟨gd1 (by omega) ..,ih trivial⟩
 case tfn h1 h2 h3 h4 h5 ih=>intro _;rw[eD];exact⟨gd1 (by omega) ..,ih trivial⟩
 all_goals
  intro a
  simp_all only[eD,mz,aj5,Fo.all,gdx,gd0,im,gdb,and_self,true_implies,forall_const]
end
def Fo.nms:Fo->Nat
 | .nil=>0
 | .cons N k r=>N.nm.length+k.nms+r.nms
theorem ou:∀(a b:Fo),(a.app b).nms=a.nms+b.nms
 | .nil,b=>by simp[Fo.app,Fo.nms]
 | .cons N k r,b=>by simp only[Fo.app,Fo.nms,ou r b];omega
theorem mA(N:Nd)(k:Fo):(one N k).nms=N.nm.length+k.nms:=by simp[one,Fo.nms]
theorem adD(N:Nd)(ks:Fo)(s:Tk)(e:Int):(jG N ks s e).nms=(one N ks).nms:=by
 unfold jG;split
 ·rw[mA];simp[im,nd]
 ·rfl
theorem Ah(k:Int)(s:Tk)(e op m:Int)(x:ByteArray)(nm:List ByteArray):(nd k s e op m x nm).nm=nm:=rfl
theorem aiF(k:Int)(s:Tk)(e:Int):(pd k s e).nm=[]:=by unfold pd;split;rfl;split<;>rfl
def Dv:tq->Nat
 | .more _ _ x=>x.nms
 | .post _ a=>a.nms
 |_=>0
theorem P.nms{tk:Nat->Tk}{n:Nat}{t:tq}{i j:Nat}{R:Fo}(h:P tk n t i R j):R.nms+i<=Dv t+j:=by
 induction h
 case tlet0 h1 h2 h3 h4 h5=>have:=h4.gd;simp only[mA,ou,Dv,Ah,Fo.nms,di]at *;omega
 case tlet h1 h2 h3 h4 h5 h6 ih=>have:=h4.gd;simp only[mA,ou,Dv,Ah,Fo.nms,di]at *;omega
 case tfor h1 h2 h3 h4 h5 h6 h7 i1 i2=>have:=h4.gd;simp only[mA,ou,Dv,Ah,Fo.nms,di]at *;omega
 case teach h1 h2 h3 h4 h5 h6 h7 h8 h9 i1 i2=>have:=h4.gd;simp only[mA,ou,Dv,Ah,Fo.nms,di]at *;omega
 case ttry h1 h2 h3 h4 h5 h6 h7 h8 i1 i2=>have:=h7.gd;simp only[mA,ou,Dv,Ah,Fo.nms,di]at *;omega
 case body h1 h2 h3 h4 ih=>have:=h3.gd;simp only[mA,ou,Dv,Ah,Fo.nms,di]at *;omega
 all_goals
  simp only[mA,ou,adD,Dv,im,Ah,aiF,Fo.nms,di,fs]at *;omega
theorem Ai:∀(R:Fo)(a b:Nat),cnt a (R.flat b)+R.len=a+8*R.sz+R.nms
 | .nil,a,b=>by simp[Fo.flat,cnt,Fo.len,Fo.sz,Fo.nms]
 | .cons N k r,a,b=>by
  have d:=Ai k a b;have e:=Ai r (nxt (cnt a (k.flat b)) {N with ks:=k.tops b}) (b+k.sz+1);have f:=k.tops_len b;rw[Fo.flat,abz,cnt];have c:nxt (cnt a (k.flat b)) {N with ks:=k.tops b}=cnt a (k.flat b)+7+N.nm.length+(k.tops b).length:=rfl;simp only[Fo.len,Fo.sz,Fo.nms];omega
theorem aj6(s:ByteArray)(p:Nat)(e:p<s.size):(fj s p).x.size<=s.size:=by
 have c:∀a b,(s.extract a b).size<=s.size:=fun a b=>by rw[xG];omega
 unfold fj;split
 ·show(wdP s p).2.size<=_;unfold wdP;split
  ·exact be _
  ·exact c _ _
 split
 ·split
  ·show(Hm s p).2.2.size<=_;unfold Hm;split
   ·exact be _
   split
   ·exact be _
   ·exact c _ _
  ·exact be _
 split
 ·split
  ·show(ga _).size<=_;have d:=(ud s (s.size+1) (p+1) [] e).2.2;rw[Bz];simp at d;omega
  ·exact be _
 split
 ·exact be _
 ·exact be _
theorem JG(s:ByteArray):∀(f:Nat)(st:List Int)(p:Nat)(d:Int)(a:List Tk),(∀T∈a,T.x.size<=s.size)->∀T∈(uH s f st p d a).1,T.x.size<=s.size
 |0,st,p,d,a,h=>fun T hT=>by cases hT
 |f+1,st,p,d,a,h=>by
  have c:∀(b:Tk),b.x.size<=s.size->∀T∈a++[b],T.x.size<=s.size:=fun b g T hT=>by
   rcases List.mem_append.1 hT with hT|hT
   ·exact h T hT
   ·rw[List.mem_singleton.1 hT];exact g
  rw[uH];split
  ·exact c _ (be _)
  ·rename_i i;have e:=aj6 s p (by omega);split
   ·split
    ·exact JG s f _ _ _ _ (c _ e)
    ·exact JG s f _ _ _ _ h
   ·split
    ·split
     ·exact JG s f _ _ _ _ (c _ e)
     ·exact fun T hT=>by cases hT
    ·exact fun T hT=>by cases hT
theorem JH(s:ByteArray):∀(f:Nat)(st:List Int)(p:Nat)(b:Int)(c:List Tk),p<=s.size->(uH s f st p b c).1.length<=c.length+(s.size-p)+1
 |0,st,p,b,c,h=>be _
 |f+1,st,p,b,c,h=>by
  rw[uH];split
  ·simp
  ·rename_i k;have e:∀q,q<=s.size->q<=blk s (s.size+1) q/\blk s (s.size+1) q<=s.size:=fun q j=>jC s (s.size+1) q j;split
   ·rename_i g;have d:=jB s p (by omega) (adz s p g).1;have:=e _ d.2.1;split
    ·have:=JH s f (ed st 5).1 (blk s (s.size+1) (fj s p).a) (b+1) (c++[⟨5,(p:Nat),((fj s p).a:Nat),b,(fj s p).n,(fj s p).x⟩]) (by omega);simp only[aC,xL]at this;omega
    ·have:=JH s f st (blk s (s.size+1) (fj s p).a) (b+1) c (by omega);omega
   ·split
    ·split
     ·rename_i i;have d:=jB s p (by omega) i;have:=e _ d.2.1;have:=JH s f (ed st (uG s p)).1 (blk s (s.size+1) (fj s p).a) b (c++[⟨uG s p,(p:Nat),((fj s p).a:Nat),b,(fj s p).n,(fj s p).x⟩]) (by omega);simp only[aC,xL]at this;omega
     ·exact be _
    ·exact be _
theorem yH(p:Nd->Prop)(c:∀(N:Nd) (ks:List Int),p N->p {N with ks:=ks}):∀(R:Fo)(b:Nat),R.all p->∀N∈R.flat b,p N/\N.ks.length<=R.sz
 | .nil,b,h=>fun N hN=>by cases hN
 | .cons e k r,b,h=>fun N hN=>by
  have f:=k.len_le;have g:=k.tops_len b;rw[Fo.flat,Cw,iF]at hN;rcases hN with hN|rfl|hN
  ·obtain⟨a,d⟩:=yH p c k b h.2.1 N hN;exact⟨a,by rw[Fo.sz];omega⟩
  ·exact⟨c _ _ h.1,by rw[Fo.sz];show(k.tops b).length<=_;omega⟩
  ·obtain⟨a,d⟩:=yH p c r _ h.2.2 N hN;exact⟨a,by rw[Fo.sz];omega⟩
def oE(s:ByteArray)(R:Fo):List Nd:=(one ⟨1,0,(s.size:Nat),1,0,0,⟨#[]⟩,[],[]⟩ R).flat 0
structure PF (s:ByteArray) (toks:List Tk) (m:Nat) (R:Fo) (lz:Int):Prop where
 len:toks.length=m+1
 le:m<=s.size
 p:P (tj toks) (m+1) .stats 0 R m
 k78:∀q,(tj toks q).k<=78
 k6:∀q,q<m->(tj toks q).k≠6
 end_:tj toks m=⟨6,(s.size:Nat),(s.size:Nat),lz,0,⟨#[]⟩⟩
 sz:R.sz<=200000
 sm:∀N∈oE s R,fx N
 ct:cnt 1 (oE s R)<=2000000
theorem aj7{s:ByteArray}(C:s.size<=65536){toks:List Tk}{st:List Int}(h:jq s=(toks,st, -1))(y:(ed st 6).2=true):∃m R f,PF s toks m R f:=by
 obtain⟨m,R,f,q,r,e,t⟩:=aiE h y;obtain⟨K,J,b,x⟩:=Ag s _ _ _ _ _ toks st h;rw[fd]at b;have H:=jC s (s.size+1) 0 (be _);have l:=JH s (s.size+1) [100,6] (blk s (s.size+1) 0) 1 [] (by omega);have c:=JG s (s.size+1) [100,6] (blk s (s.size+1) 0) 1 [] (fun d w=>by cases w);have E:uH s (s.size+1) [100,6] (blk s (s.size+1) 0) 1 []=(toks,st, -1):=h;rw[E]at l c;simp only[fs]at l;have B:=e.pos;simp only[iz,slk,bas]at B;have A:=e.nms;have u:=e.gd trivial;have j:(one ⟨1,0,(s.size:Nat),1,0,0,⟨#[]⟩,[],[]⟩ R:Fo).sz=R.sz+1:=aJ _ _;have o:∀a,(tj toks a).x.size<=65536:=fun a=>by
  unfold tj;rw[bm];cases hq:toks[a]? with
  |none=>exact be _
  |some d=>exact bz (c d (bC hq)) C
 have F:∀a,(tj toks a).k<=78:=fun a=>by
  unfold tj;rw[bm];cases hq:toks[a]? with
  |none=>show(0:Int)<=78;decide
  |some d=>
   have:=bC hq;rw[b,Cw,List.mem_singleton]at this;rcases this with g|g
   ·have:=ahi x g;show d.k<=78;omega
   ·rw[g];show(6:Int)<=78;decide
 refine⟨m,R,f,q,by omega,e,F,t,r,by omega,fun i v=>?_,?_⟩
 ·obtain⟨g,z⟩:=yH (Gd (tj toks) (m+1)) (fun i I h=>h) _ 0 ((eD _ _ R).2 ⟨⟨.inl rfl,be _,fun p c=>by cases c⟩,u⟩) i v;rw[j]at z;refine⟨by have:=g.2.1;omega,by omega,?_,fun p c=>?_⟩
  ·rcases g.1 with b|⟨a,b⟩
   ·rw[b];exact be _
   ·rw[b];have:=o a;omega
  ·obtain⟨a,b⟩:=g.2.2 p c;rw[b];have:=o a;omega
 ·have:=Ai (one ⟨1,0,(s.size:Nat),1,0,0,⟨#[]⟩,[],[]⟩ R) 1 0;rw[j,mA]at this;simp only[Dv]at A;have G:([]:List ByteArray).length=0:=rfl;unfold oE;show cnt 1 (Fo.flat (one ⟨1,0,(s.size:Nat),1,0,0,⟨#[]⟩,[],[]⟩ R) 0)<=_;simp only[fs]at this;omega
theorem agx:(Tryz.prog.info? 109).map (fun i=>(i.zero,i.size,i.bytes))=O (O (.agg #[Q S 0,Q S 0,Q S 0,Q S 0,Q S 0,A0 ⟨#[]⟩]),6,56):=by kernel_rfl
theorem FE{c g:U}{o:Obj}{base e size n:Nat}{v:Z}{p:List Z}(l:c.ownsRow base e size v n p)(j:(c.alloc o).grownBy g v.ownBlock){k:Nat}{cs:Array Z}{t:B0}{fr:Nat×Nat}(b:c.heap[k]?=O (Ax cs t fr))(m:t≠e):g.heap[k]?=O (Ax cs t fr):=by
 refine(j.block k (by simp;have:=ax b;omega) (fun h=>?_)).trans ((dr _ _ _ (ax b)).trans b);have a:v.ownBlock=O k:=h.symm;rcases l.2 with⟨d,_⟩|⟨i,q,r,d,_,f,_⟩
 ·rw[d]at a;simp[A8]at a
 ·rw[d]at a;obtain rfl:i=k:=by simpa [A8] using a
  rw[b]at f;simp only[gg,jh]at f;exact m f.2.1
theorem qH.app{a f:U}{s:Obj}{base mb:Nat}{C:List (Int×Int)}(h:qH a base mb C){g e size n:Nat}{v:Z}{x:List Z}(d:a.ownsRow g e size v n x)(c:(a.alloc s).grownBy f v.ownBlock)(l:77≠e)(m:114≠e):qH f base mb C:=by
 obtain⟨w,r,t,b⟩:=h.ex;refine⟨⟨w,FE d c r l,t,?_⟩,h.lo⟩;rcases b with b|⟨k,i,j,q,p,o,u⟩
 ·exact .inl b
 ·exact .inr ⟨k,i,j,q,p,FE d c o m,u⟩
theorem qH.other{a:U}{base mb b:Nat}{C:List (Int×Int)}(h:qH a base mb C){cs:Array Z}{t:B0}{fr:Nat×Nat}(w:a.heap[b]?=O (Ax cs t fr))(s:t≠77)(u:t≠114)(j:Nat)(v:Z):qH (a.setCell ⟨b,j,V⟩ v) base mb C:=by
 obtain⟨E,f,A,d⟩:=h.ex;have i:∀{g:Nat}{m:Array Z}{k:B0}{q:Nat×Nat},a.heap[g]?=O (Ax m k q)->t≠k->g≠b:=fun c y p=>by
  subst p;rw[w]at c;simp only[gg,jh]at c;exact y c.2.1
 refine⟨⟨E,(bh _ _ _ _ (i f s)).trans f,A,?_⟩,h.lo⟩;rcases d with d|⟨r,l,o,z,x,e,B⟩
 ·exact .inl d
 ·exact .inr ⟨r,l,o,z,x,(bh _ _ _ _ (i e u)).trans e,B⟩
theorem Aj{a:U}{base e size n b:Nat}{v:Z}{c:List Z}(h:a.ownsRow base e size v n c)(d:∀g,v.ownBlock=O g->g<b)(j:Nat)(u:Z):(a.setCell ⟨b,j,V⟩ u).ownsRow base e size v n c:=by
 refine h.kept (row:=O b) ⟨rfl,rfl,rfl,by simp[World.setCell],fun k i f=>bh _ _ _ _ (fun e=>f (by rw[e]))⟩ ?_;cases hv:v.ownBlock with
 |none=>exact .inl rfl
 |some g=>exact .inr (fun e=>by have:=d g hv;obtain rfl:=db e;omega)
structure FG (w:U) (base mb:Nat) (s:ByteArray) (R:List Tk×List Int×Int) (p:Nat) (st:List Int) (top:Int) (C:List (Int×Int)) (l:Int) (out:List Tk) (f:Nat) (vo:Z) (W:U):Prop where
 m:qH W base mb C
 sk:jH C top st
 o:OkS st
 bl:A1 base w W
 row:W.ownsRow base 109 6 vo out.length (zn out)
 eq:uH s f st p l out=R
 cl:2<=C.length/\C.length<=2+20*p
 ol:out.length<=p
 l0:1<=l/\l<=(p:Int)+1
theorem FG.below{w:U}{base mb:Nat}{s:ByteArray}{R:List Tk×List Int×Int}{p:Nat}{st:List Int}{g:Int}{C:List (Int×Int)}{e:Int}{f:List Tk}{d:Nat}{i:Z}{a c:U}(h:FG w base mb s R p st g C e f d i a)(b:A1 a.heap.size a c)(j:base<=a.heap.size):FG w base mb s R p st g C e f d i c:=
 ⟨h.m.below b,h.sk,h.o,h.bl.trans (b.mono j),aG h.row b,h.eq,h.cl,h.ol,h.l0⟩
def FH(w:U)(base mb:Nat)(s:ByteArray)(R:List Tk×List Int×Int)(e:Ending)(b:U):Prop:=
 ∃(c:Option Addr) (d:Nat) (f:Int) (a:List (Int×Int)),e= A2 (A6 #[M c R.1.length d,Q S f,Q S R.2.2])/\b.ownsRow base 109 6 (M c R.1.length d) R.1.length (zn R.1)/\qH b base mb a/\jH a f R.2.1/\OkS R.2.1/\A1 base w b/\2<=a.length/\a.length<=2000000
theorem Il(w:U)(base mb:Nat)(s:ByteArray)(h:qH w base mb [])(d4:s.size<=70000):
  A9 A4 25 #[.pointer (O ⟨mb,0,V⟩),.string s] w (FH w base mb s (jq s)):=by
 unfold jq;obtain⟨I,c1⟩:=aA (uH s (s.size+1) [100,6] (blk s (s.size+1) 0) 1 []);rw[c1];have f5:base<=w.heap.size:=by obtain⟨v,fz,_⟩:=h.ex;have:=ax fz;have:=h.lo;omega
 have fa:=Lj w base mb h;have c4:=fun w=>qe s (by omega) 0 (be _) w;have e0:=jC s (s.size+1) 0 (be _);obtain⟨ev,eF⟩:=aA (blk s (s.size+1) 0);rw[eF]at c1 c4 e0;rw[show(((0:Nat):Int))=0 from rfl]at c4;have es:=aq c1;clear c1 h eF;go_in;go_wp2_with fail;refine fa.mono ?_;rintro A w1 ⟨rfl,fb,f9,g⟩;clear fa;have fc:FG w base mb s I ev [100,6] 1 [(6, -1),(100,0)] 1 [] (s.size+1) (.slice V 0 0) w1:=by
  refine⟨fb,⟨1,0,rfl,rfl,0, -1,rfl,rfl,rfl⟩,?_,g,bk _ _ _ _,es.out,⟨by simp,by simp⟩,by simp,⟨by omega,by omega⟩⟩;intro i a7;simp at a7;omega
 have et:=aq fc;clear fc fb f9 g;go_wp2_with (go_at_call 46;refine ee (c4 _) ?_);clear c4;obtain⟨d7,d8,d9,ea,eb⟩:=dC agx;go_loopw [7,8,9,10] (fun g4 ff g3 em wr=>∃(a:Nat) (f:List Int) (x:Int) (p:List (Int×Int)) (d:Int) (t:List Tk) (r:Nat),em= .int .i64 a/\g3= .int .i64 d/\g4= .int .i64 x/\(∃fk fo,∃f8:Nat,ff= .slice fk f8 fo)/\a<=s.size/\s.size<a+r/\Y (FG w base mb s I a f x p d t r ff wr)) (fun _ _ _ em _=>s.size+1-(Br em).toNat)
 case atStart=>exact⟨ev,_,1,_,1,[],s.size+1,rfl,rfl,rfl,⟨_,_,_,rfl⟩,e0.2,by omega,et⟩
 case round=>
  obtain⟨a,f,x,p,d,t,r,rfl,rfl,rfl,⟨cB,c0,ck,rfl⟩,hz,hv,z⟩:=hrel;clear et es;obtain⟨r,rfl⟩:∃bf,r=bf+1:=⟨r-1,by omega⟩;obtain⟨he,hh,fu⟩:=bI z.out.row;cases fu;have c:=z.out.eq;rw[uH]at c;have e1:base<=wr.heap.size:=bz f5 z.out.bl.size;have e5:=z.out.ol;by_cases b8:a<s.size
  ·rw[aa (by omega)]at c;have f3:(a:Int)<(s.size:Int):=by omega
   have ef:=fun w=>Ig s d4 a b8 w;have ds:=Ii s a;obtain⟨e,dq⟩:=aA (uG s a);rw[dq]at ef c ds;have cy:=aq dq;obtain⟨ck,a5⟩:=aA t.length;have C:=aq a5;rw[a5]at e5⊢;have bt:Y ((if e=7 then(if(ed f 5).2=true then uH s r (ed f 5).1 (blk s (s.size+1) (fj s a).a) (d+1) (t++[⟨5,(a:Nat),((fj s a).a:Nat),d,(fj s a).n,(fj s a).x⟩]) else uH s r f (blk s (s.size+1) (fj s a).a) (d+1) t)
    else if(Ih f e).2=true then(if(fj s a).ok=true then uH s r (ed f e).1 (blk s (s.size+1) (fj s a).a) d (t++[⟨e,(a:Nat),((fj s a).a:Nat),d,(fj s a).n,(fj s a).x⟩]) else([],f,((fj s a).a:Nat)))
    else([],f,(wrongF s a (Fe f):Nat)))=I):=c
   clear c dq a5;go_wp2_with fail;refine(ef _).mono ?_;rintro A w1 ⟨k,n,i,df,rfl,e8,dz⟩;have cz:Y (FG w base mb s I a f x p d t (r+1) (.slice cB t.length c0) w1):=z.out.below dz e1;have f6:=dz.size;have an:=aq e8;clear ef dz z e8;obtain⟨g,d0⟩:=aA w1.heap.size;go_upto_region 8 with fail
   have a2:fy g (w1.alloc (.cells #[.int .i64 e,.int .i64 a,.int .i64 k,.int .i64 d,.int .i64 n,.string i] 109)) e a k d n i:=by rw[<-d0];exact aw w1 _
   have b:Y (FG w base mb s I a f x p d t (r+1) (.slice cB t.length c0) (w1.alloc (.cells #[.int .i64 e,.int .i64 a,.int .i64 k,.int .i64 d,.int .i64 n,.string i] 109))):=cz.out.below (bel1 w1 _) (by omega);have c3:∀bf,(Value.slice cB ck c0).ownBlock=O bf->bf<g:=fun bf f1=>by
    have e7:=cz.out.row;rw[C.out]at e7;have:=(e7.lt bf f1).2;omega
   have c2:g≠mb:=by
    obtain⟨eo,K,_⟩:=cz.out.m.ex;have:=ax K;omega
   have f4:(w1.alloc (.cells #[.int .i64 e,.int .i64 a,.int .i64 k,.int .i64 d,.int .i64 n,.string i] 109)).heap.size=g+1:=by rw[ba,d0]
   generalize w1.alloc (.cells #[.int .i64 e,.int .i64 a,.int .i64 k,.int .i64 d,.int .i64 n,.string i] 109)=c8 at a2 b f4⊢;have hq:=b.out.cl.2;have hs:=b.out.cl.1;have ho:base<=g:=by omega
   have hy:=b.out.l0;obtain⟨gt,gu,gv,gz,g0,g1,g2⟩:=da a2;clear cz d0 f6 e1;by_cases dp:e=7
   ·subst dp;obtain⟨d5,f2⟩:=adz s a cy.out;obtain⟨bo,d3,a6,b9,a7,d2⟩:=an.out.yes d5;clear d3 d2;have af:=jB s a b8 d5;have c:=bt.out;rw[ab rfl,<-b9,<-a7]at c;obtain⟨B,bF⟩:=aA ((fj s a).a);rw[bF]at c a6 af;subst bo;have ar:=fun w=>qe s (by omega) B (by omega) w;have bn:=jC s (s.size+1) B (by omega);obtain⟨bw,b0⟩:=aA (blk s (s.size+1) B);rw[b0]at c ar bn;rw[<-a6]at ar c;have cb:=zp b.out.o (show(1:Int)<=5 by omega) (by omega);have q:=ux c8 base mb p f x 5 b.out.m b.out.sk b.out.o (by omega) (by omega) (by omega);obtain⟨bx,b2⟩:=aA (ed f 5);rw[b2]at q c cb;unfold qI at q;obtain⟨ei,ca⟩:=aA bx.2;rw[ca]at q c;have fA:a<B/\B<=s.size:=⟨af.1,af.2.1⟩;clear b9 a7 b2 ca d5 f2 af bF b0 cy an bt a6;go_wp2_with fail;refine q.mono ?_;rintro A m ⟨cn,D,rfl,H,a0,a4,l,G⟩;cases ei with
    |false=>
     rw[aa (by simp)]at c;have br:=aq c;have y:fy g m 7 a k d n i:=l.blk a2 (by decide) c2;obtain⟨eo,K,_⟩:=b.out.m.ex;have row3:=l.row K b.out.row (by decide) (by decide);have fg:Y (FG w base mb s I bw f x (p++D) (d+1) t r (.slice cB ck c0) m):=
      ⟨H,b.out.sk.app D,b.out.o,b.out.bl.trans G,by rw[<-C.out]at *;exact row3,br.out,⟨by rw[aC];omega,by rw[aC];omega⟩,by rw[C.out];omega,⟨by omega,by omega⟩⟩
     obtain⟨co,cp,cq,cr,ct,cu,cx⟩:=da y;clear q c a2 y row3 K H a0 l G b gt gu gv gz g0 g1 g2;go_wp2_with (go_at_call 46;refine ee (ar _) ?_);exact⟨⟨bw,f,x,p++D,d+1,t,r,rfl,by go_num,rfl,⟨_,_,_,rfl⟩,bn.2,by omega,fg⟩,by simp[Br];omega⟩
    |true=>
     rw[ab rfl]at c;have br:=aq c;clear c;have y:fy g m 7 a k d n i:=l.blk a2 (by decide) c2;obtain⟨eo,K,_⟩:=b.out.m.ex;have row3:=l.row K b.out.row (by decide) (by decide);rw[C.out]at row3;have bD:=b.out.bl.trans G;have f7:=l.size;have F:fy g (m.setCell ⟨g,0,V⟩ (.int .i64 5)) 5 a k d n i:=y.setKind 5;have ce:=H.other (j:=0) (v:= .int .i64 5) (show m.heap[g]?=O (.cells _ _ _) from y) (by decide) (by decide);have bb:=Aj (j:=0) (u:= .int .i64 5) row3 c3;have bE:A1 base w (m.setCell ⟨g,0,V⟩ (.int .i64 5)):=bD.setCell (by simp;omega) _;have bp:=dx a0 a4;obtain⟨co,cp,cq,cr,ct,cu,cx⟩:=da y;clear q y H row3 bD K a0 a4 l G;go_upto_region 24 with fail
     generalize m.setCell ⟨g,0,V⟩ (.int .i64 5)=a3 at F ce bb bE⊢;obtain⟨g7,g8,g9,ha,hb,hc,hd⟩:=da F;have E:=aq bb;have c5:=aq F;have d1:g<a3.heap.size:=ax F;clear F bb co cp cq cr ct cu cx;go_wp2_with (first|(at_builtin;refine rm _ rfl _ _ 40 rfl base 109 d7 _ 6 56 Tryz.underlying40 d8 d9 ea eb rfl (by decide) _ _ _ rfl (E.out.alloc _) ⟨a3.heap.size,0,V⟩ 1 1 [.int .i64 5,.int .i64 a,.int .i64 k,.int .i64 d,.int .i64 n,.string i] rfl rfl (A3 (cs:=#[.int .i64 5,.int .i64 a,.int .i64 k,.int .i64 d,.int .i64 n,.string i]) (fr:=(0,0)) (aw a3 _)) (by intro u ap;simp at ap;rcases ap with rfl|rfl|rfl|rfl|rfl|rfl<;>rfl) (by unfold B1;omega) (by omega) (by simp;omega) ?_;intro fe bd ao J e4;obtain⟨dn,dk,rfl⟩:=A5 ao;have c7:fy g bd 5 a k d n i:=(J.block g (by simp;omega) (fun A=>by have:=c3 g A.symm;omega)).trans ((dr _ _ _ d1).trans c5.out);obtain⟨gb,gd,ge,gf,gm,gr,gs⟩:=da c7)|(go_at_call 46;refine ee (ar _) ?_));have cf:=ce.app E.out J (by decide) (by decide);have bA:A1 base w bd:=(bE.alloc (by omega) _).grown J (by simp;omega) (fun cc b5=>(E.out.lt cc b5).1);refine⟨⟨bw,bx.1,cn,p++D,d+1,t++[⟨5,(a:Nat),k,d,n,i⟩],r,rfl,by go_num,rfl,⟨_,_,_,rfl⟩,bn.2,by omega,⟨cf,bp.out.1,?_,bA,?_,?_,?_,?_,?_⟩⟩,by simp[Br];omega⟩
     ·exact cb
     ·rw[aC,C.out,zo];exact ao
     ·exact br.out
     ·have:=b.out.cl;have:=bp.out.2;rw[aC];omega
     ·rw[aC,C.out];simp;omega
     ·have:=b.out.l0;omega
   ·have c:=bt.out;rw[aa dp]at c;have hi:(e==7)=false:=beq_eq_false_iff_ne.2 dp;by_cases fv:e=0
    ·subst fv;rw[show Ih f 0=(f,false) from rfl,aa (by simp)]at c;have ak:=aq c;clear c bt an cy;obtain⟨a1,ad⟩:=aA (Fe f);have f0:a1.length<=78:=by rw[<-ad];exact rH f 78
     have a8:=Jr c8 base mb p f x b.out.m b.out.sk b.out.o (by omega) (by omega);rw[ad]at a8;have L:Y ((([]:List Tk),f,((wrongF s a a1:Nat):Int))=I):=by rw[<-ad];exact ak.out
     clear ad;go_wp2_with fail;refine a8.mono ?_;rintro A ep ⟨fn,fq,rfl,el,eh,ec,dd⟩;have eg:=wK ep s a _ a1 (pi el) (by omega) d4 b8;clear a8;go_wp2_with (go_at_call 48;refine eg.mono ?_;rintro A g5 ⟨rfl,b4⟩);go_ret3
     refine⟨V,0,x,p,?_,?_,eh.below b4,?_,?_,?_,?_,?_⟩
     ·rw[<-L.out];rfl
     ·rw[<-L.out];exact bk _ _ _ _
     ·rw[<-L.out];exact b.out.sk
     ·rw[<-L.out];exact b.out.o
     ·exact(b.out.bl.trans dd).trans (b4.mono (by have:=ec.size;first|omega|(have:=l.size;omega)))
     ·have:=b.out.cl;omega
     ·have:=b.out.cl;omega
    ·have fB:0<e:=by omega
     have e2:Ih f e=ed f e:=by unfold Ih;rw[ab fB]
     rw[e2]at c;have cb:=zp b.out.o (show(1:Int)<=e by omega) ds.2;have q:=ux c8 base mb p f x e b.out.m b.out.sk b.out.o (by omega) ds.2 (by omega);obtain⟨bx,b2⟩:=aA (ed f e);rw[b2]at q c cb;unfold qI at q;obtain⟨ei,ca⟩:=aA bx.2;rw[ca]at q c;clear b2 ca e2 bt cy;cases ei with
     |false=>
      rw[aa (by simp)]at c;have ak:=aq c;clear c an;go_wp2_with fail;refine q.mono ?_;rintro A m ⟨cn,D,rfl,H,a0,a4,l,G⟩;have y:fy g m e a k d n i:=l.blk a2 (by decide) c2;obtain⟨co,cp,cq,cr,ct,cu,cx⟩:=da y;clear q;obtain⟨a1,ad⟩:=aA (Fe f);have f0:a1.length<=78:=by rw[<-ad];exact rH f 78
      have a8:=Jr m base mb (p++D) f x H (b.out.sk.app D) b.out.o (by rw[aC];omega) (by rw[aC];omega);rw[ad]at a8;have L:Y ((([]:List Tk),f,((wrongF s a a1:Nat):Int))=I):=by rw[<-ad];exact ak.out
      clear ad;go_wp2_with fail;refine a8.mono ?_;rintro A ep ⟨fn,fq,rfl,el,eh,ec,dd⟩;have eg:=wK ep s a _ a1 (pi el) (by omega) d4 b8;clear a8;go_wp2_with (go_at_call 48;refine eg.mono ?_;rintro A g5 ⟨rfl,b4⟩);go_ret3
      refine⟨V,0,x,p++D,?_,?_,eh.below b4,?_,?_,?_,?_,?_⟩
      ·rw[<-L.out];rfl
      ·rw[<-L.out];exact bk _ _ _ _
      ·rw[<-L.out];exact(b.out.sk.app D)
      ·rw[<-L.out];exact b.out.o
      ·exact((b.out.bl.trans G).trans dd).trans (b4.mono (by have:=ec.size;first|omega|(have:=l.size;omega)))
      ·have:=b.out.cl;rw[aC];omega
      ·have:=b.out.cl;rw[aC];omega
     |true=>
      rw[ab rfl]at c;cases hokI:(fj s a).ok with
      |false=>
       rw[hokI,aa (by simp)]at c;have bo:=an.out.no hokI;have hj:¬df<0:=by omega
       have ak:Y ((([]:List Tk),f,df)=I):=by rw[bo];exact c
       clear c an bo hokI;go_wp2_with fail;refine q.mono ?_;rintro A m ⟨cn,D,rfl,H,a0,a4,l,G⟩;have hl:(0:Int)<=df:=by omega
       clear q;go_wp2_with fail;go_ret3
       refine⟨V,0,x,p++D,?_,?_,H,?_,?_,b.out.bl.trans G,?_,?_⟩
       ·rw[<-ak.out];rfl
       ·rw[<-ak.out];exact bk _ _ _ _
       ·rw[<-ak.out];exact b.out.sk.app D
       ·rw[<-ak.out];exact b.out.o
       ·rw[aC];omega
       ·rw[aC];omega
      |true=>
       rw[hokI,ab rfl]at c;obtain⟨bo,d3,a6,b9,a7,d2⟩:=an.out.yes hokI;clear d3 d2;have af:=jB s a b8 hokI;rw[<-b9,<-a7]at c;obtain⟨B,bF⟩:=aA ((fj s a).a);rw[bF]at c a6 af;subst bo;have ar:=fun w=>qe s (by omega) B (by omega) w;have bn:=jC s (s.size+1) B (by omega);obtain⟨bw,b0⟩:=aA (blk s (s.size+1) B);rw[b0]at c ar bn;rw[<-a6]at ar c;have fA:a<B/\B<=s.size:=⟨af.1,af.2.1⟩;have br:=aq c;clear c b9 a7 af bF b0 an a6 hokI;go_wp2_with fail;refine q.mono ?_;rintro A m ⟨cn,D,rfl,H,a0,a4,l,G⟩;have y:fy g m e a k d n i:=l.blk a2 (by decide) c2;obtain⟨eo,K,_⟩:=b.out.m.ex;have row3:=l.row K b.out.row (by decide) (by decide);rw[C.out]at row3;have bD:=b.out.bl.trans G;have f7:=l.size;have F:fy g (m.setCell ⟨g,0,V⟩ (.int .i64 e)) e a k d n i:=y.setKind e;have ce:=H.other (j:=0) (v:= .int .i64 e) (show m.heap[g]?=O (.cells _ _ _) from y) (by decide) (by decide);have bb:=Aj (j:=0) (u:= .int .i64 e) row3 c3;have bE:A1 base w (m.setCell ⟨g,0,V⟩ (.int .i64 e)):=bD.setCell (by simp;omega) _;have bp:=dx a0 a4;obtain⟨co,cp,cq,cr,ct,cu,cx⟩:=da y;clear q y H row3 bD K a0 a4 l G;go_upto_region 24 with fail
       generalize m.setCell ⟨g,0,V⟩ (.int .i64 e)=a3 at F ce bb bE⊢;obtain⟨g7,g8,g9,ha,hb,hc,hd⟩:=da F;have E:=aq bb;have c5:=aq F;have d1:g<a3.heap.size:=ax F;clear F bb co cp cq cr ct cu cx;go_wp2_with (first|(at_builtin;refine rm _ rfl _ _ 40 rfl base 109 d7 _ 6 56 Tryz.underlying40 d8 d9 ea eb rfl (by decide) _ _ _ rfl (E.out.alloc _) ⟨a3.heap.size,0,V⟩ 1 1 [.int .i64 e,.int .i64 a,.int .i64 k,.int .i64 d,.int .i64 n,.string i] rfl rfl (A3 (cs:=#[.int .i64 e,.int .i64 a,.int .i64 k,.int .i64 d,.int .i64 n,.string i]) (fr:=(0,0)) (aw a3 _)) (by intro u ap;simp at ap;rcases ap with rfl|rfl|rfl|rfl|rfl|rfl<;>rfl) (by unfold B1;omega) (by omega) (by simp;omega) ?_;intro fe bd ao J e4;obtain⟨dn,dk,rfl⟩:=A5 ao;have c7:fy g bd e a k d n i:=(J.block g (by simp;omega) (fun A=>by have:=c3 g A.symm;omega)).trans ((dr _ _ _ d1).trans c5.out);obtain⟨gb,gd,ge,gf,gm,gr,gs⟩:=da c7)|(go_at_call 46;refine ee (ar _) ?_));have cf:=ce.app E.out J (by decide) (by decide);have bA:A1 base w bd:=(bE.alloc (by omega) _).grown J (by simp;omega) (fun cc b5=>(E.out.lt cc b5).1);refine⟨⟨bw,bx.1,cn,p++D,d,t++[⟨e,(a:Nat),k,d,n,i⟩],r,rfl,rfl,rfl,⟨_,_,_,rfl⟩,bn.2,by omega,⟨cf,bp.out.1,?_,bA,?_,?_,?_,?_,?_⟩⟩,by simp[Br];omega⟩
       ·exact cb
       ·rw[aC,C.out,zo];exact ao
       ·exact br.out
       ·have:=b.out.cl;have:=bp.out.2;rw[aC];omega
       ·rw[aC,C.out];simp;omega
       ·have:=b.out.l0;omega
  ·rw[ab (by omega)]at c;have e6:a=s.size:=by omega
   obtain⟨ck,a5⟩:=aA t.length;have C:=dx a5 e6;have d6:=z.out.row;rw[a5]at e5 d6⊢;have E:=aq d6;have bs:=aq c;have f3:¬(a:Int)<(s.size:Int):=by omega
   clear c a5 d6 e6;go_wp2_with (at_builtin;refine rm _ rfl _ _ 40 rfl base 109 d7 _ 6 56 Tryz.underlying40 d8 d9 ea eb rfl (by decide) _ _ _ rfl (E.out.alloc _) ⟨wr.heap.size,0,V⟩ 1 1 [.int .i64 6,.int .i64 s.size,.int .i64 s.size,.int .i64 d,.int .i64 0,.string ⟨#[]⟩] rfl rfl (A3 (cs:=#[.int .i64 6,.int .i64 s.size,.int .i64 s.size,.int .i64 d,.int .i64 0,.string ⟨#[]⟩]) (fr:=(0,0)) (aw wr _)) (by intro u ap;simp at ap;rcases ap with rfl|rfl|rfl|rfl|rfl<;>rfl) (by unfold B1;omega) (by omega) (by simp;omega) ?_;intro fe bd ao J e4;obtain⟨dn,dk,rfl⟩:=A5 ao);go_ret3
   have cf:=z.out.m.app E.out J (by decide) (by decide);have bA:A1 base w bd:=(z.out.bl.alloc (by omega) _).grown J (by simp;omega) (fun cc b5=>(E.out.lt cc b5).1);have e3:I.1.length=ck+1:=by rw[<-bs.out,aC,C.out.1];rfl
   refine⟨O ⟨dn,0,V⟩,dk,x,p,?_,?_,cf,?_,?_,bA,z.out.cl.1,?_⟩
   ·rw[e3,<-bs.out];rfl
   ·rw[e3,<-bs.out,zo];exact ao
   ·rw[<-bs.out];exact z.out.sk
   ·rw[<-bs.out];exact z.out.o
   ·have:=z.out.cl.2;omega
theorem Dw:∀(c:List Tk)(q i:Nat)(T:Tk),c[q]?=O T->i<6->(zn c)[q*6+i]?=(cTk T)[i]?
 |[],q,i,T,h,b=>by simp at h
 |a::r,0,i,T,h,b=>by
  simp at h;subst h;show(cTk a++zn r)[0*6+i]?=_;rw[ie (by show 0*6+i<6;omega),Nat.zero_mul,od]
 |a::r,q+1,i,T,h,b=>by
  show(cTk a++zn r)[(q+1)*6+i]?=_;rw[gc (by show 6<=_;omega),show(q+1)*6+i-(cTk a).length=q*6+i by show _-6=_;omega];exact Dw r q i T (by simpa using h) b
theorem aiG{d:Array Z}{b:List Tk}{tk:Nat->Tk}{n:Nat}(h:d.toList.take (n*6)=zn b)(m:b.length=n)(i:∀q T,b[q]?=O T->{T with l:=(tk q).l}=tk q/\((tk q).k≠6->T.l=(tk q).l)):TkR d tk n:=by
 intro q o;have e:=aI (show q<b.length by omega);obtain⟨f,g⟩:=i q _ e;generalize b[q]=T at e f g;have a:∀c,c<6->d[q*6+c]?=(cTk T)[c]?:=fun c j=>by rw[<-Dw b q c T e j,<-h,lc,ab (by omega),rk]
 refine⟨T.l,?_,?_,?_,a 3 (by omega),?_,?_,g⟩;all_goals rw[<-f]
 ·exact a 0 (by omega)
 ·exact a 1 (by omega)
 ·exact a 2 (by omega)
 ·exact a 4 (by omega)
 ·exact a 5 (by omega)
def lK(s:ByteArray):List Tk×Int:=if 0<=(jq s).2.2 then([],(jq s).2.2) else if(ed (jq s).2.1 6).2=true then((jq s).1, -1) else([],(s.size:Nat))
def TkP(s:ByteArray)(w:U)(e:Ending)(c:U):Prop:=∃a b,e= A2 (A6 #[M a (lK s).1.length b,Q S (lK s).2])/\c.ownsRow w.heap.size 109 6 (M a (lK s).1.length b) (lK s).1.length (zn (lK s).1)/\A1 w.heap.size w c
theorem qg(w:U)(s:ByteArray)(av:s.size<=65536):A9 A4 10 #[A0 s] w (TkP s w):=by
 have y:qH (w.alloc (Ax #[M V 0 0] 77)) w.heap.size w.heap.size []:=⟨⟨_,aw w _,bk _ _ _ _⟩,ah _⟩;have b:=Il _ w.heap.size w.heap.size s y (by omega);have l:Y (A1 w.heap.size w (w.alloc (Ax #[M V 0 0] 77))):=bel1 w _;have e:Y (lK s=if 0<=(jq s).2.2 then([],(jq s).2.2) else if(ed (jq s).2.1 6).2=true then((jq s).1, -1) else([],(s.size:Nat))):=rfl;obtain⟨⟨m,o,B⟩,q⟩:∃F,jq s=F:=⟨_,rfl⟩;rw[q]at b e;unfold FH at b;simp only at b e;obtain⟨a0,f⟩:=aA m.length;rw[f]at b;clear q y;go_in;go_wp2_with fail;generalize w.alloc (Ax #[M V 0 0] 77)=an at b l⊢;refine b.mono ?_;rintro a A ⟨G,J,ak,C,rfl,i,h,k,j,H,ao,ap⟩;have t:A1 w.heap.size w A:=l.out.trans (H.mono (ah _));clear b;by_cases p:0<=B
 ·have a:=e.out;rw[ab p]at a;have c:=aq a;clear i h k j a f;go_wp2_with fail;go_ret2;exact(show TkP _ _ _ _ from⟨V,0,by rw[c.out];rfl,by rw[c.out];exact bk _ _ _ _,t⟩)
 ·have a:=e.out;rw[aa p]at a;have g:=ux A w.heap.size w.heap.size C o ak 6 h k j (by decide) (by decide) (by omega);unfold qI at g;obtain⟨a2,v,_⟩:=h.ex;have d:=gD i v f;obtain⟨K,u⟩:=aA ((ed o 6).2);rw[u]at g a;have c:=aq a;clear a i h k j f v u;go_wp2_with fail;refine g.mono ?_;rintro a am ⟨a1,D,rfl,ad,af,ar,x,I⟩;have r:A1 w.heap.size w am:=t.trans (I.mono (ah _));have z:=x.row d.out.2.1 d.out.1 (by decide) (by decide);have E:=aq z;clear g ad af x z;cases K with
  |true=>
   go_wp2_with fail;go_ret2;have a:=c.out;rw[ab trivial]at a;have L:(lK s).1=m:=by rw[a]
   exact(show TkP _ _ _ _ from⟨G,J,by rw[a];simp only[d.out.2.2];rfl,by rw[L,d.out.2.2];exact E.out,r⟩)
  |false=>
   go_wp2_with fail;go_ret2;have a:=c.out;rw[aa (by simp)]at a;exact(show TkP _ _ _ _ from⟨V,0,by rw[a];rfl,by rw[a];exact bk _ _ _ _,r⟩)
def psV(c a:Int)(v:Z):Z:= .agg #[Q S c,Q S a,v]
def PsP(w:U)(c a:Int)(f:List Nd)(e:Ending)(d:U):Prop:=∃b,e= A2 (psV c a b)/\cg d b f/\A1 w.heap.size w d
def okC(a:List Nd):Int:=if(cF a).1=0 then 0 else 2
def okN(a:List Nd):List Nd:=if(cF a).1=0 then a else []
theorem FI(w0:U)(p1:Addr)(n c1:Nat)(u:List Nd)(a4:cg w0 (M (O p1) n c1) u)(a5:ij w0 p1 u)(bo:u.length=n)(cs:n<=1048576)(tab:Nat)(i:Nat)(cl:i<n)(N:Nd)(a3:al u i=N)(f:N.k=8)(cr:N.ks.length<=1048576)(a1:Nat)(a6:N.ks[0]?=O (a1:Int))(p:ByteArray)(bf:Wr w0 (M (O p1) n c1) tab 123 #[pW w0,Q S (a1:Int),Q S 0] p)(a2:Nat)(av:N.ks[1]?=O (a2:Int))(ap:ByteArray)(bd:Wr w0 (M (O p1) n c1) tab 120 #[pW w0,Q S (a2:Int)] ap):
  Wr w0 (M (O p1) n c1) tab 62 #[pW w0,Q S (i:Int)] (⟨#[119,104,105,108,101,32]⟩++p++⟨#[32]⟩++ap):=by
 intro j g s t;obtain⟨l,h,o,b6,d,m,e⟩:=eG a4 a5 (show i<u.length by omega);rw[a3]at e;have v:=s.lt;obtain⟨z0,b3,b4⟩:=s.cells;have bl:=e.hL;have bn:=e.hM;obtain⟨b,rfl⟩:=e.ks.ptr (by have:=dh av;omega);have cp:(0:Int)<(d:Int):=by have:=dh a6;omega
 have cq:(1:Int)<(d:Int):=by have:=dh av;omega
 obtain⟨bp,br,bs,bt,bw,bx,bA,bD,bE,_,_⟩:=e.rd g s.bel;have J:Y (Bx w0 (M (O p1) n c1) tab g N (M l h o) (M (O b) d m) j (g.alloc (ia N (M l h o) (M (O b) d m)))):=Bx.new s N _ _;try simp only[ag]at t
 have cm:(i:Int)<(n:Int):=by omega
 have co:(0:Int)<=(i:Int):=by omega
 have r:Y (∀(j:ByteArray)(q:U),Bx w0 (M (O p1) n c1) tab g N (M l h o) (M (O b) d m) j q->tg q g.heap.size N (M l h o) (M (O b) d m)/\q.cell? b=O (Q S (a1:Int))/\q.cell? ⟨b.block,b.off+1,V⟩=O (Q S (a2:Int))):=fun j q I=>⟨I.cells,I.kid0 e.ks a6,I.kid e.ks av (by decide)⟩;have b7:=cC f 1 rfl;have b8:=cC f 2 rfl;have b9:=cC f 3 rfl;have ca:=cC f 4 rfl;have cb:=cC f 5 rfl;have cc:=cC f 6 rfl;have ce:=cC f 7 rfl;have cf:=jd f 8 rfl;have a7:Y (Wr w0 (M (O p1) n c1) tab 63 _ (⟨#[119,104,105,108,101,32]⟩)):=fun am ao a0 t=>aE w0 _ am (⟨#[119,104,105,108,101,32]⟩) _ ao a0 t;have a8:=aq bf;have a9:Y (Wr w0 (M (O p1) n c1) tab 63 _ (⟨#[32]⟩)):=fun am ao a0 t=>aE w0 _ am (⟨#[32]⟩) _ ao a0 t;have bb:=aq bd;have b5:=aq e;obtain⟨⟨w,x,y,z,A,B,C,E,F⟩,G,H⟩:=r.out _ _ J.out;clear s e a4 a5 a3 bo b4 b3 bl bn f;go_in;go_wp2_with fail;refine(a7.out _ _ J.out.pr (by(try simp only[ag]);omega)).mono ?_;rintro ar bF ⟨rfl,c,a⟩;have K:Y (Bx w0 (M (O p1) n c1) tab g N (M l h o) (M (O b) d m) (j++(⟨#[119,104,105,108,101,32]⟩)) bF):=J.out.next v c a
 obtain⟨⟨w,x,y,z,A,B,C,E,F⟩,G,H⟩:=r.out _ _ K.out;clear c a bp br bs bt bw bx bA bD bE z0;go_wp2_with fail;refine(a8.out _ _ K.out.pr (by(try simp only[ag]);omega)).mono ?_;rintro ar b0 ⟨rfl,c,a⟩;have L:Y (Bx w0 (M (O p1) n c1) tab g N (M l h o) (M (O b) d m) (j++(⟨#[119,104,105,108,101,32]⟩)++(p)) b0):=K.out.next v c a
 obtain⟨⟨w,x,y,z,A,B,C,E,F⟩,G,H⟩:=r.out _ _ L.out;clear c a;go_wp2_with fail;refine(a9.out _ _ L.out.pr (by(try simp only[ag]);omega)).mono ?_;rintro ar b1 ⟨rfl,c,a⟩;have ad:Y (Bx w0 (M (O p1) n c1) tab g N (M l h o) (M (O b) d m) (j++(⟨#[119,104,105,108,101,32]⟩)++(p)++(⟨#[32]⟩)) b1):=L.out.next v c a
 obtain⟨⟨w,x,y,z,A,B,C,E,F⟩,G,H⟩:=r.out _ _ ad.out;clear c a;go_wp2_with fail;refine(bb.out _ _ ad.out.pr (by(try simp only[ag]);omega)).mono ?_;rintro ar b2 ⟨rfl,c,a⟩;have af:Y (Bx w0 (M (O p1) n c1) tab g N (M l h o) (M (O b) d m) (j++(⟨#[119,104,105,108,101,32]⟩)++(p)++(⟨#[32]⟩)++(ap)) b2):=ad.out.next v c a
 obtain⟨⟨w,x,y,z,A,B,C,E,F⟩,G,H⟩:=r.out _ _ af.out;clear c a;go_wp2_with fail;go_end0
 refine⟨rfl,?_,af.out.kq⟩;have:=af.out.pr;simpa only[aF] using this
theorem In(w0:U)(p1:Addr)(n c1:Nat)(o:List Nd)(v:cg w0 (M (O p1) n c1) o)(w:ij w0 p1 o)(H:o.length=n)(b2:n<=1048576)(tab:Nat)(i:Nat)(bE:i<n)(N:Nd)(u:al o i=N)(a:N.k=11)(b1:N.ks.length<=1048576):
  Wr w0 (M (O p1) n c1) tab 62 #[pW w0,Q S (i:Int)] (⟨#[98,114,101,97,107]⟩):=by
 intro f c m s;obtain⟨h,e,l,g,d,j,b⟩:=eG v w (show i<o.length by omega);rw[u]at b;have G:=m.lt;obtain⟨z0,a9,bb⟩:=m.cells;have E:=b.hL;have F:=b.hM;obtain⟨J,K,L,ad,af,am,ao,ap,ar,_,_⟩:=b.rd c m.bel;have p:Y (Bx w0 (M (O p1) n c1) tab c N (M h e l) (M g d j) f (c.alloc (ia N (M h e l) (M g d j)))):=Bx.new m N _ _;try simp only[ag]at s
 have bF:(i:Int)<(n:Int):=by omega
 have b0:(0:Int)<=(i:Int):=by omega
 have t:Y (∀(f:ByteArray)(r:U),Bx w0 (M (O p1) n c1) tab c N (M h e l) (M g d j) f r->tg r c.heap.size N (M h e l) (M g d j)):=fun f r z=>z.cells;have bl:=cC a 1 rfl;have bp:=cC a 2 rfl;have br:=cC a 3 rfl;have bs:=cC a 4 rfl;have bt:=cC a 5 rfl;have bw:=cC a 6 rfl;have bx:=cC a 7 rfl;have bA:=cC a 8 rfl;have bD:=cC a 9 rfl;have bn:=cC a 10 rfl;have bo:=jd a 11 rfl;have A:Y (Wr w0 (M (O p1) n c1) tab 63 _ (⟨#[98,114,101,97,107]⟩)):=fun B C I s=>aE w0 _ B (⟨#[98,114,101,97,107]⟩) _ C I s;have bd:=aq b;obtain⟨av,a0,a1,a2,a3,a4,a5,a6,a7⟩:=t.out _ _ p.out;clear m b v w u H bb a9 E F a;go_in;go_wp2_with fail;refine(A.out _ _ p.out.pr (by(try simp only[ag]);omega)).mono ?_;rintro bf a8 ⟨rfl,y,x⟩;have q:Y (Bx w0 (M (O p1) n c1) tab c N (M h e l) (M g d j) (f++(⟨#[98,114,101,97,107]⟩)) a8):=p.out.next G y x
 obtain⟨av,a0,a1,a2,a3,a4,a5,a6,a7⟩:=t.out _ _ q.out;clear y x J K L ad af am ao ap ar z0;go_wp2_with fail;go_end0
 refine⟨rfl,?_,q.out.kq⟩;have:=q.out.pr;simpa only[aF] using this
theorem aah(w0:U)(p1:Addr)(n c1:Nat)(o:List Nd)(v:cg w0 (M (O p1) n c1) o)(w:ij w0 p1 o)(H:o.length=n)(b3:n<=1048576)(tab:Nat)(i:Nat)(bF:i<n)(N:Nd)(u:al o i=N)(a:N.k=12)(b2:N.ks.length<=1048576):
  Wr w0 (M (O p1) n c1) tab 62 #[pW w0,Q S (i:Int)] (⟨#[110,101,120,116]⟩):=by
 intro f c m s;obtain⟨h,e,l,g,d,j,b⟩:=eG v w (show i<o.length by omega);rw[u]at b;have G:=m.lt;obtain⟨z0,a9,bb⟩:=m.cells;have E:=b.hL;have F:=b.hM;obtain⟨J,K,L,ad,af,am,ao,ap,ar,_,_⟩:=b.rd c m.bel;have p:Y (Bx w0 (M (O p1) n c1) tab c N (M h e l) (M g d j) f (c.alloc (ia N (M h e l) (M g d j)))):=Bx.new m N _ _;try simp only[ag]at s
 have b0:(i:Int)<(n:Int):=by omega
 have b1:(0:Int)<=(i:Int):=by omega
 have t:Y (∀(f:ByteArray)(r:U),Bx w0 (M (O p1) n c1) tab c N (M h e l) (M g d j) f r->tg r c.heap.size N (M h e l) (M g d j)):=fun f r z=>z.cells;have bl:=cC a 1 rfl;have br:=cC a 2 rfl;have bs:=cC a 3 rfl;have bt:=cC a 4 rfl;have bw:=cC a 5 rfl;have bx:=cC a 6 rfl;have bA:=cC a 7 rfl;have bD:=cC a 8 rfl;have bE:=cC a 9 rfl;have bn:=cC a 10 rfl;have bo:=cC a 11 rfl;have bp:=jd a 12 rfl;have A:Y (Wr w0 (M (O p1) n c1) tab 63 _ (⟨#[110,101,120,116]⟩)):=fun B C I s=>aE w0 _ B (⟨#[110,101,120,116]⟩) _ C I s;have bd:=aq b;obtain⟨av,a0,a1,a2,a3,a4,a5,a6,a7⟩:=t.out _ _ p.out;clear m b v w u H bb a9 E F a;go_in;go_wp2_with fail;refine(A.out _ _ p.out.pr (by(try simp only[ag]);omega)).mono ?_;rintro bf a8 ⟨rfl,y,x⟩;have q:Y (Bx w0 (M (O p1) n c1) tab c N (M h e l) (M g d j) (f++(⟨#[110,101,120,116]⟩)) a8):=p.out.next G y x
 obtain⟨av,a0,a1,a2,a3,a4,a5,a6,a7⟩:=t.out _ _ q.out;clear y x J K L ad af am ao ap ar z0;go_wp2_with fail;go_end0
 refine⟨rfl,?_,q.out.kq⟩;have:=q.out.pr;simpa only[aF] using this
theorem Io(w0:U)(p1:Addr)(n c1:Nat)(o:List Nd)(v:cg w0 (M (O p1) n c1) o)(w:ij w0 p1 o)(H:o.length=n)(b5:n<=1048576)(tab:Nat)(i:Nat)(b1:i<n)(N:Nd)(u:al o i=N)(a:N.k=13)(b4:N.ks.length<=1048576)(b0:N.ks.length=0):
  Wr w0 (M (O p1) n c1) tab 62 #[pW w0,Q S (i:Int)] (⟨#[114,101,116,117,114,110]⟩):=by
 intro f d m s;obtain⟨h,e,l,g,b,j,c⟩:=eG v w (show i<o.length by omega);rw[u]at c;have G:=m.lt;obtain⟨z0,a9,bb⟩:=m.cells;have E:=c.hL;have F:=c.hM;obtain⟨J,K,L,ad,af,am,ao,ap,ar,_,_⟩:=c.rd d m.bel;have p:Y (Bx w0 (M (O p1) n c1) tab d N (M h e l) (M g b j) f (d.alloc (ia N (M h e l) (M g b j)))):=Bx.new m N _ _;try simp only[ag]at s
 have b2:(i:Int)<(n:Int):=by omega
 have b3:(0:Int)<=(i:Int):=by omega
 have t:Y (∀(f:ByteArray)(r:U),Bx w0 (M (O p1) n c1) tab d N (M h e l) (M g b j) f r->tg r d.heap.size N (M h e l) (M g b j)):=fun f r z=>z.cells;have bl:=cC a 1 rfl;have bs:=cC a 2 rfl;have bt:=cC a 3 rfl;have bw:=cC a 4 rfl;have bx:=cC a 5 rfl;have bA:=cC a 6 rfl;have bD:=cC a 7 rfl;have bE:=cC a 8 rfl;have bF:=cC a 9 rfl;have bn:=cC a 10 rfl;have bo:=cC a 11 rfl;have bp:=cC a 12 rfl;have br:=jd a 13 rfl;have b6:¬(0:Int)<(b:Int):=by omega
 have A:Y (Wr w0 (M (O p1) n c1) tab 63 _ (⟨#[114,101,116,117,114,110]⟩)):=fun B C I s=>aE w0 _ B (⟨#[114,101,116,117,114,110]⟩) _ C I s;have bd:=aq c;obtain⟨av,a0,a1,a2,a3,a4,a5,a6,a7⟩:=t.out _ _ p.out;clear m c v w u H bb a9 E F a;go_in;go_wp2_with fail;refine(A.out _ _ p.out.pr (by(try simp only[ag]);omega)).mono ?_;rintro bf a8 ⟨rfl,y,x⟩;have q:Y (Bx w0 (M (O p1) n c1) tab d N (M h e l) (M g b j) (f++(⟨#[114,101,116,117,114,110]⟩)) a8):=p.out.next G y x
 obtain⟨av,a0,a1,a2,a3,a4,a5,a6,a7⟩:=t.out _ _ q.out;clear y x J K L ad af am ao ap ar z0;go_wp2_with fail;go_end0
 refine⟨rfl,?_,q.out.kq⟩;have:=q.out.pr;simpa only[aF] using this
theorem aai(w0:U)(p1:Addr)(n c1:Nat)(r:List Nd)(ao:cg w0 (M (O p1) n c1) r)(ap:ij w0 p1 r)(a5:r.length=n)(ce:n<=1048576)(tab:Nat)(i:Nat)(b9:i<n)(N:Nd)(am:al r i=N)(a:N.k=13)(cc:N.ks.length<=1048576)(b8:0<N.ks.length)(X:ByteArray)(a4:∀v,bi w0 v (N.ks)->Wr w0 (M (O p1) n c1) tab 122 #[pW w0,v] X):
  Wr w0 (M (O p1) n c1) tab 62 #[pW w0,Q S (i:Int)] (⟨#[114,101,116,117,114,110]⟩++(⟨#[32]⟩++X)):=by
 intro l g p q;obtain⟨m,h,o,c,b,d,j⟩:=eG ao ap (show i<r.length by omega);rw[am]at j;have B:=p.lt;obtain⟨z0,bs,bt⟩:=p.cells;have a2:=j.hL;have a3:=j.hM;obtain⟨a6,a7,a8,a9,bb,bd,bf,bl,bn,_,_⟩:=j.rd g p.bel;have t:Y (Bx w0 (M (O p1) n c1) tab g N (M m h o) (M c b d) l (g.alloc (ia N (M m h o) (M c b d)))):=Bx.new p N _ _;try simp only[ag]at q
 have ca:(i:Int)<(n:Int):=by omega
 have cb:(0:Int)<=(i:Int):=by omega
 have s:Y (∀(l:ByteArray)(z:U),Bx w0 (M (O p1) n c1) tab g N (M m h o) (M c b d) l z->tg z g.heap.size N (M m h o) (M c b d)):=fun l z ar=>ar.cells;have bx:=cC a 1 rfl;have b0:=cC a 2 rfl;have b1:=cC a 3 rfl;have b2:=cC a 4 rfl;have b3:=cC a 5 rfl;have b4:=cC a 6 rfl;have b5:=cC a 7 rfl;have b6:=cC a 8 rfl;have b7:=cC a 9 rfl;have bA:=cC a 10 rfl;have bD:=cC a 11 rfl;have bE:=cC a 12 rfl;have bF:=jd a 13 rfl;have cf:(0:Int)<(b:Int):=by omega
 have av:Y (Wr w0 (M (O p1) n c1) tab 63 _ (⟨#[114,101,116,117,114,110]⟩)):=fun y A C q=>aE w0 _ y (⟨#[114,101,116,117,114,110]⟩) _ A C q;have a0:Y (Wr w0 (M (O p1) n c1) tab 63 _ (⟨#[32]⟩)):=fun y A C q=>aE w0 _ y (⟨#[32]⟩) _ A C q;have a1:Y (Wr w0 (M (O p1) n c1) tab 122 _ (X)):=a4 (M c b d) j.ks;have bw:=aq j;obtain⟨E,F,G,H,I,J,K,L,ad⟩:=s.out _ _ t.out;clear p j ao ap am a5 bt bs a2 a3 a;go_in;go_wp2_with fail;refine(av.out _ _ t.out.pr (by(try simp only[ag]);omega)).mono ?_;rintro af bo ⟨rfl,f,e⟩;have u:Y (Bx w0 (M (O p1) n c1) tab g N (M m h o) (M c b d) (l++(⟨#[114,101,116,117,114,110]⟩)) bo):=t.out.next B f e
 obtain⟨E,F,G,H,I,J,K,L,ad⟩:=s.out _ _ u.out;clear f e a6 a7 a8 a9 bb bd bf bl bn z0;go_wp2_with fail;refine(a0.out _ _ u.out.pr (by(try simp only[ag]);omega)).mono ?_;rintro af bp ⟨rfl,f,e⟩;have w:Y (Bx w0 (M (O p1) n c1) tab g N (M m h o) (M c b d) (l++(⟨#[114,101,116,117,114,110]⟩)++(⟨#[32]⟩)) bp):=u.out.next B f e
 obtain⟨E,F,G,H,I,J,K,L,ad⟩:=s.out _ _ w.out;clear f e;go_wp2_with fail;refine(a1.out _ _ w.out.pr (by(try simp only[ag]);omega)).mono ?_;rintro af br ⟨rfl,f,e⟩;have x:Y (Bx w0 (M (O p1) n c1) tab g N (M m h o) (M c b d) (l++(⟨#[114,101,116,117,114,110]⟩)++(⟨#[32]⟩)++(X)) br):=w.out.next B f e
 obtain⟨E,F,G,H,I,J,K,L,ad⟩:=s.out _ _ x.out;clear f e;go_wp2_with fail;go_end0
 refine⟨rfl,?_,x.out.kq⟩;have:=x.out.pr;simpa only[aF] using this
theorem aaj(w0:U)(bb:Z)(b:List Nd)(E:Int->ByteArray)(t:Int)(bd:Nat)(c3:OkE w0 bb b E t bd)(a6:cg w0 bb b)(eg:b.length<=1048576)(N:Nd)(vn vk:Z)(a8:bi w0 vk N.ks)(k:Nat)(C:N.ks[0]?=O (k:Int))(eb:k<bd)(bt:k<b.length)(ec:N.ks.length<=1048576)(c5:eB (al b k).k=true)
  (eh:N.op=19) (T:ByteArray) (w:U) (h:Pr w0 bb T t w) (bw:T.size+(unB b E N).size<=140737488355328):
  A9 A4 157 #[A7 (O ⟨w0.heap.size,0,V⟩),dj N vn vk] w fun e a=>e= A2 (A6 #[])/\Pr w0 bb (T++unB b E N) t a/\Kq w0.heap.size w a:=by
 have br:A1 w.heap.size w (w.alloc (Ax #[Q S N.k,Q S N.f,Q S N.t,Q S N.l,Q S N.op,Q S N.n,A0 N.x,vn,vk] 35)):=(aj _ w).alloc (ah _) _;have c4:de w.heap.size (w.alloc (Ax #[Q S N.k,Q S N.f,Q S N.t,Q S N.l,Q S N.op,Q S N.n,A0 N.x,vn,vk] 35)) 35 N vn vk:=aw w _;have e6:=h.lt;obtain⟨et,i,rfl⟩:=a8.form;obtain⟨c,rfl,_⟩:=a8.get C;obtain⟨ev,m,rfl⟩:=a6.form;obtain⟨p2,rfl,_⟩:=a6.get (ot bt);have bs:cL N 0=(k:Int):=by unfold cL;rw[List.getD,C];rfl
 have ef:0<N.ks.length:=by rcases li N.ks.length with e|e;rw[fG (by omega)]at C;cases C;exact e
 obtain⟨n,L⟩:=aA b.length;obtain⟨g,a5⟩:=aA N.ks.length;have o:Y (Pr w0 (M (O p2) n m) T t (w.alloc (Ax #[Q S N.k,Q S N.f,Q S N.t,Q S N.l,Q S N.op,Q S N.n,A0 N.x,vn,M (O c) g i] 35))/\Kq w0.heap.size w (w.alloc (Ax #[Q S N.k,Q S N.f,Q S N.t,Q S N.l,Q S N.op,Q S N.n,A0 N.x,vn,M (O c) g i] 35))
  /\de w.heap.size (w.alloc (Ax #[Q S N.k,Q S N.f,Q S N.t,Q S N.l,Q S N.op,Q S N.n,A0 N.x,vn,M (O c) g i] 35)) 35 N vn (M (O c) g i)/\bi w0 (M (O c) g i) N.ks/\N.ks[0]?=O (k:Int)/\cg w0 (M (O p2) n m) b/\b[k]?=O (al b k)):=by
  rw[<-L,<-a5];exact⟨h.below br,Kq.of_below br,c4,a8,C,a6,ot bt⟩
 obtain⟨v,r⟩:=aA (unB b E N);rw[r]at bw⊢;unfold unB at r;rw[bs]at r;have cs:Y (OkE w0 (M (O p2) n m) b E t bd/\eB (al b k).k=true):=by rw[<-L];exact⟨c3,c5⟩
 rw[L,a5];rw[L]at eg bt;rw[a5]at ef ec;clear h br c4 a8 C c3 c5 a6 L a5;obtain⟨cv,bo⟩:=aA (jJ b E k 11);have c8:unS b N=if aih (al b k)=true then⟨#[45]⟩++⟨#[32]⟩ else⟨#[45]⟩:=by
  unfold unS;rw[aa (by omega),aa (by omega),aa (by omega),bs]
 rw[c8,bo]at r;have cu:=aq bo;clear c8 bo bs;unfold dj;have ex:(N.op==21)=false:=by simp;omega
 have eF:(N.op==22)=false:=by simp;omega
 have e0:(N.op==20)=false:=by simp;omega
 have e3:(0:Int)<(g:Int):=by omega
 have e4:(k:Int)<(n:Int):=by omega
 have e5:(0:Int)<=(k:Int):=by omega
 have ea:T.size+1<=140737488355328:=by
  have:1<=v.size:=by
   rw[<-r,ag];split
   ·rw[ag];show 1<=1+1+_;omega
   ·show 1<=1+_;omega
  omega
 clear eh;go_in;go_wp2_with fail;refine(aE w0 _ T ⟨#[45]⟩ t _ o.out.1 ea).mono ?_;rintro e j ⟨rfl,av,bA⟩;have a7:=bA.box o.out.2.2.1 (by omega);obtain⟨dk,dn,dp,dq,ds,bn,dz,d1,d2,d3⟩:=au a7;obtain⟨eo,a4,cx⟩:=(o.out.2.2.2.1.below av.bel).get o.out.2.2.2.2.1;cases a4;have d5:j.cell? c=O (Q S (k:Int)):=by simpa [Addr.add] using cx
 obtain⟨e9,cy,fb,fa,d8⟩:=(o.out.2.2.2.2.2.1.below av.bel).get o.out.2.2.2.2.2.2;cases cy;obtain⟨z0,eq,es⟩:=av.cells;obtain⟨bE,bF,b9,ca,cb,cc,ce,cf,cl,c7,c6⟩:=d8;obtain⟨I,K,rfl⟩:=c7.form;obtain⟨H,J,rfl⟩:=c6.form;have e7:=ax a7;have a0:Y (Pr w0 (M (O p2) n m) (T++⟨#[45]⟩) t j/\Kq w0.heap.size w j/\de w.heap.size j 35 N vn (M (O c) g i)):=⟨av,o.out.2.1.trans bA,a7⟩;have cq:=aq r.symm;generalize c0:al b k=bl at bE bF b9 ca cb cc ce cf cl r;have cr:=aq c0;clear av bA a7 c7 c6 r cx dk dn dp dq ds bn dz d1 d3 c0;generalize bl.nm.length=F at cf;generalize bl.ks.length=G at cl;obtain⟨s,af,ap,am,q,ao,ar,em,el⟩:=bl;simp only at bE bF b9 ca cb cc ce;go_wp2_with fail;go_region_held3 (fun a=>a.cell? ⟨w0.heap.size,0,V⟩=O (M (O p2) n m)/\a.cell? ⟨w.heap.size,8,V⟩=O (M (O c) g i)/\a.cell? c=O (Q S (k:Int))/\a.cell? (p2.add (k*9))=O (Q S s)/\a.cell? ⟨(p2.add (k*9)).block,(p2.add (k*9)).off+1,V⟩=O (Q S af)/\a.cell? ⟨(p2.add (k*9)).block,(p2.add (k*9)).off+2,V⟩=O (Q S ap)/\a.cell? ⟨(p2.add (k*9)).block,(p2.add (k*9)).off+3,V⟩=O (Q S am)/\a.cell? ⟨(p2.add (k*9)).block,(p2.add (k*9)).off+4,V⟩=O (Q S q)/\a.cell? ⟨(p2.add (k*9)).block,(p2.add (k*9)).off+5,V⟩=O (Q S ao)/\a.cell? ⟨(p2.add (k*9)).block,(p2.add (k*9)).off+6,V⟩=O (A0 ar)/\a.cell? ⟨(p2.add (k*9)).block,(p2.add (k*9)).off+7,V⟩=O (M I F K)/\a.cell? ⟨(p2.add (k*9)).block,(p2.add (k*9)).off+8,V⟩=O (M H G J)) (go_keep) (fail)
 have ad:A1 j.heap.size j (j.alloc (Ax #[Q S s,Q S af,Q S ap,Q S am,Q S q,Q S ao,A0 ar,M I F K,M H G J] 35)).drew:=aL ((aj _ j).alloc (ah _) _);have bx:de j.heap.size (j.alloc (Ax #[Q S s,Q S af,Q S ap,Q S am,Q S q,Q S ao,A0 ar,M I F K,M H G J] 35)).drew 35 ⟨s,af,ap,am,q,ao,ar,em,el⟩ (M I F K) (M H G J):=aw j _;generalize (j.alloc (Ax #[Q S s,Q S af,Q S ap,Q S am,Q S q,Q S ao,A0 ar,M I F K,M H G J] 35)).drew=a3 at ad bx⊢;have A:Y (Pr w0 (M (O p2) n m) (T++⟨#[45]⟩) t a3/\Kq w0.heap.size w a3/\de w.heap.size a3 35 N vn (M (O c) g i)):=⟨a0.out.1.below ad,a0.out.2.1.trans (Kq.of_below ad),a0.out.2.2.below ad⟩;obtain⟨d6,_,_,_,d7,_⟩:=au bx;simp only at d6 d7;have cz:∀(d:U)(B:ByteArray),Pr w0 (M (O p2) n m) (T++B) t d->Kq w0.heap.size w d->de w.heap.size d 35 N vn (M (O c) g i)->v=B++cv->
   d.cell? ⟨w.heap.size,8,V⟩=O (M (O c) g i)/\d.cell? c=O (Q S (k:Int))/\A9 A4 123 #[A7 (O ⟨w0.heap.size,0,V⟩),Q S (k:Int),Q S 11] d fun e a=>e= A2 (A6 #[])/\Pr w0 (M (O p2) n m) (T++v) t a/\Kq w0.heap.size w a:=by
  intro d B u z bn hS;obtain⟨_,_,_,_,_,_,_,_,cm,_⟩:=au bn;obtain⟨eo,a4,co⟩:=(o.out.2.2.2.1.below u.bel).get o.out.2.2.2.2.1;cases a4;rw[hS,ag]at bw;refine⟨cm,by simpa [Addr.add] using co,?_⟩;refine(cs.out.1 k 11 _ d eb cs.out.2 (by omega) (by omega) u (by rw[cu.out,ag];omega)).mono ?_;rintro e fc ⟨rfl,dd,ei⟩;rw[cu.out,aF,<-hS]at dd;exact⟨rfl,dd,z.trans ei⟩
 have cp:Y (∀(d:U)(B:ByteArray),Pr w0 (M (O p2) n m) (T++B) t d->Kq w0.heap.size w d->de w.heap.size d 35 N vn (M (O c) g i)->v=B++cv->
   d.cell? ⟨w.heap.size,8,V⟩=O (M (O c) g i)/\d.cell? c=O (Q S (k:Int))/\A9 A4 123 #[A7 (O ⟨w0.heap.size,0,V⟩),Q S (k:Int),Q S 11] d fun e a=>e= A2 (A6 #[])/\Pr w0 (M (O p2) n m) (T++v) t a/\Kq w0.heap.size w a):=cz
 have p:=cq.out;rw[cr.out]at p;unfold aih at p;simp only at p;clear cz ad bx bE bF b9 ca cb cc ce cf cl z0 eq es d2 d5 cq cr a0;have e8:v.size=v.size:=rfl;by_cases y:(s==30&&q==19)=true
 ·rw[ab y]at p;obtain⟨cB,d9⟩:(s==30)=true/\(q==19)=true:=by simpa [aB] using y
  have ct:=aq p;clear y p;go_wp2_with fail;refine(aE w0 _ _ ⟨#[32]⟩ t _ A.out.1 (by have:=bw;rw[ct.out,ag,ag]at this;rw[ag];have a4:(⟨#[45]⟩:ByteArray).size=1:=rfl;have cy:(⟨#[32]⟩:ByteArray).size=1:=rfl;omega)).mono ?_;rintro e ep ⟨rfl,c9,bD⟩;obtain⟨cm,co,a9⟩:=cp.out ep (⟨#[45]⟩++⟨#[32]⟩) (by rw[<-aF];exact c9) (A.out.2.1.trans bD) (bD.box A.out.2.2 (by omega)) ct.out;clear c9 bD;go_wp2_with fail;refine a9.mono ?_;rintro e df ⟨rfl,u,z⟩;go_wp2_with fail;go_end0
  exact⟨rfl,u,z⟩
 ·rw[aa y]at p;obtain⟨cm,co,a9⟩:=cp.out a3 ⟨#[45]⟩ A.out.1 A.out.2.1 A.out.2.2 p;clear p;cases cB:(s==30) with
  |true=>
   have d9:(q==19)=false:=by
    cases h:(q==19) with
    |false=>rfl
    |true=>exact absurd (by rw[cB,h];rfl) y
   clear y;go_wp2_with fail;refine a9.mono ?_;rintro e df ⟨rfl,u,z⟩;go_wp2_with fail;go_end0
   exact⟨rfl,u,z⟩
  |false=>
   clear y;go_wp2_with fail;refine a9.mono ?_;rintro e df ⟨rfl,u,z⟩;go_wp2_with fail;go_end0
   exact⟨rfl,u,z⟩
theorem aak(w0:U)(b:Z)(a:List Nd)(E:Int->ByteArray)(t:Int)(c:Nat)(d:OkE w0 b a E t c)(p:cg w0 b a)(r:a.length<=1048576)(N:Nd)(vn vk:Z)(j:bi w0 vk N.ks)(k:Nat)(i:N.ks[0]?=O (k:Int))(g:k<c)(q:k<a.length)(m:N.ks.length<=1048576)(f:eB (al a k).k=true)
  (s:19<=N.op/\N.op<=22) (T:ByteArray) (w:U) (h:Pr w0 b T t w) (l:T.size+(unB a E N).size<=140737488355328):
  A9 A4 157 #[A7 (O ⟨w0.heap.size,0,V⟩),dj N vn vk] w fun e o=>e= A2 (A6 #[])/\Pr w0 b (T++unB a E N) t o/\Kq w0.heap.size w o:=by
 by_cases e:N.op=19
 ·exact aaj w0 b a E t c d p r N vn vk j k i g q m f e T w h l
 ·exact Fj w0 b a E t c d N vn vk j k i g m f (by omega) T w h l
