import Derived.Test.YtjeamjdieofoeaaGreatDoorHZk18
import Derived.Test.YtjeamjdieofoeaaGreatDoorHZk21
set_option linter.all false
set_option maxRecDepth 100000
set_option maxHeartbeats 25600000
open Go.Value renaming slice->M,int->A0,string->A9
open Option renaming some->O,none->Q
open Go renaming Value->U,World->Ax
open Go.IntKind renaming i64->A2
open Go.Obj renaming cells->A5
namespace Go.Proofs.YtjeamjdieofoeaaGreatDoor
open Go.RowKit Go.Maps Go.WideMaps
variable{N:Nd}{i j n q r:Nat}{ns:List ByteArray}{tk:Nat->Tk}{ts:List Tk}{w w0:World}
inductive Fd:List Int->List Tk->List Int->Prop where
 |nil {st:List Int}:Fd st [] st
 |cons {st:List Int}{T:Tk}{ts:List Tk}{st':List Int}:1<=T.k->T.k<=78->T.k≠6->(feedL st T.k).2=true->Fd (feedL st T.k).1 ts st'->Fd st (T::ts) st'
theorem aar(V:Array U)(base:Int)(r:ByteArray)(b:40<=base):∀(f i:Nat)(a:Int×Nat),a.1≠6->(Bm V base r f i a).1≠6
 |0,i,a,h=>h
 |f+1,i,a,h=>by
  unfold Bm;refine aar V base r b f (i+1) _ ?_;split
  ·show base+(i:Int)≠6;omega
  ·exact h
theorem ajy(s:ByteArray)(p:Nat)(h:(rdI s p).ok=true):tw s p≠6:=by
 unfold tw;rw[ab h];unfold rdI at h⊢;split
 ·simp only;unfold Ic;cases hf:vH ez (s.extract p (mi s (s.size+1) p)) 22 0 with
  |none=>simp
  |some e=>simp only;omega
 split
 ·split
  ·simp only;unfold vC;split
   ·simp
   ·split<;>simp
  ·rename_i a b c;rw[aa a,ab b,aa c]at h;cases h
 split
 ·split
  ·simp
  ·rename_i a b c d;rw[aa a,aa b,ab c,aa d]at h;cases h
 split
 ·rename_i a b c d;rw[aa a,aa b,aa c,ab d]at h;cases h
 ·simp only;unfold rz;split
  ·omega
  split
  ·omega
  ·exact aar _ _ _ (by omega) _ _ _ (aar _ _ _ (by omega) _ _ _ (by simp))
theorem Dk(s:ByteArray):∀(f:Nat)(st:List Int)(p:Nat)(l:Int)(i:List Tk)(b:List Tk)(c:List Int),wH s f st p l i=(b,c, -1)->∃ts d,b=i++ts++[⟨6,(s.size:Nat),(s.size:Nat),d,0,⟨#[]⟩⟩]/\Fd st ts c
 |0,st,p,l,i,b,c,h=>by simp[wH]at h
 |f+1,st,p,l,i,b,c,h=>by
  rw[wH]at h;split at h
  ·simp only[ic]at h;exact⟨[],l,by rw[dA];exact h.1.symm,by rw[<-h.2.1];exact .nil⟩
  split at h
  ·split at h
   ·rename_i g;obtain⟨ts,d,e,j⟩:=Dk s f _ _ _ _ b c h;exact⟨⟨5,(p:Nat),((rdI s p).a:Nat),l,(rdI s p).n,(rdI s p).x⟩::ts,d,by rw[e];simp,.cons (by show(1:Int)<=5;omega) (by show(5:Int)<=78;omega) (by show(5:Int)≠6;omega) g j⟩
   ·exact Dk s f _ _ _ _ b c h
  split at h
  ·rename_i o g;split at h
   ·rename_i m;obtain⟨r,t⟩:=JF s p m;have q:tw s p=(rdI s p).k:=by unfold tw;rw[ab m]
    rw[show AC st (tw s p)=feedL st (tw s p) by unfold AC;rw[ab (by omega)]]at g;obtain⟨ts,d,e,j⟩:=Dk s f _ _ _ _ b c h;exact⟨⟨tw s p,(p:Nat),((rdI s p).a:Nat),l,(rdI s p).n,(rdI s p).x⟩::ts,d,by rw[e];simp,.cons (by show 1<=tw s p;omega) (by show tw s p<=78;omega) (ajy s p m) g j⟩
   ·simp only[ic]at h;omega
  ·simp only[ic]at h;omega
theorem akn{st e:List Int}(h:Fd st ts e):∀{T:Tk},T∈ts->1<=T.k/\T.k<=78/\T.k≠6:=by
 induction h with
 |nil=>intro T hT;cases hT
 |cons a b c f g d=>
  intro T hT;rcases List.mem_cons.1 hT with rfl|hT
  ·exact⟨a,b,c⟩
  ·exact d hT
def zTk:Tk:=⟨0,0,0,0,0,⟨#[]⟩⟩
def tD(ts:List Tk)(q:Nat):Tk:=ts.getD q zTk
theorem Dl{T:Tk}(h:ts[q]?=O T):tD ts q=T:=by unfold tD;rw[be,h];rfl
def Fo.all(p:Nd->Prop):Fo->Prop
 | .nil=>True
 | .cons N k r=>p N/\k.all p/\r.all p
theorem oz(p:Nd->Prop):∀(a b:Fo),(a.app b).all p↔a.all p/\b.all p
 | .nil,b=>by simp[Fo.app,Fo.all]
 | .cons N k r,b=>by simp only[Fo.app,Fo.all,oz p r b,and_assoc]
theorem fl(p:Nd->Prop)(N:Nd)(k:Fo):(one N k).all p↔p N/\k.all p:=by simp[one,Fo.all]
def Gd(tk:Nat->Tk)(n:Nat)(N:Nd):Prop:=(N.x=z0\/∃q,N.x=(tk q).x)/\N.nm.length<=n/\∀x∈N.nm,∃q,x=(tk q).x
def anx(tk:Nat->Tk)(n:Nat):xi->Prop
 | .more _ _ x=>x.all (Gd tk n)
 | .post _ B=>B.all (Gd tk n)
 |_=>True
section
variable {tk : Nat → Tk} {n : Nat}
theorem gd0(k:Int)(s:Tk)(e b m:Int):Gd tk n (nd k s e b m z0 []):=⟨.inl rfl,aL _,fun c a=>by cases a⟩
theorem gdx(k:Int)(s:Tk)(e b m:Int)(q:Nat):Gd tk n (nd k s e b m (tk q).x []):=⟨.inr ⟨q,rfl⟩,aL _,fun x a=>by cases a⟩
theorem gd1(h:0<n)(k:Int)(s:Tk)(e b m:Int)(q:Nat):Gd tk n (nd k s e b m z0 [(tk q).x]):=⟨.inl rfl,h,fun x a=>⟨q,List.mem_singleton.1 a⟩⟩
theorem gdb(k:Int)(s:Tk)(e:Int):Gd tk n (wv k s e):=by unfold wv;split;exact gd0 ..;split;exact gd0 ..;exact gd0 ..
theorem gdh(N:Nd)(ks:Fo)(s:Tk)(e:Int)(h:Gd tk n N)(a:ks.all (Gd tk n)):(mc N ks s e).all (Gd tk n):=by
 unfold mc;split
 ·rw[fl,fl];exact⟨gd0 ..,h,a⟩
 ·rw[fl];exact⟨h,a⟩
theorem Ib.gd(h:Ib tk n i ns j):i+2*ns.length<=j/\j<n/\∀x∈ns,∃q,x=(tk q).x:=by
 induction h with
 |stop c a=>exact⟨by simp,a,fun x hx=>by cases hx⟩
 |go c a d _ b=>
  refine⟨by simp;omega,b.2.1,fun x hx=>?_⟩;rcases List.mem_cons.1 hx with rfl|hx
  ·exact⟨_,rfl⟩
  ·exact b.2.2 x hx
theorem Prm.gd{r:Bool}(h:Prm tk n i ns r j):i+ns.length<=j/\j<=n/\∀x∈ns,∃q,x=(tk q).x:=by
 induction h with
 |close a b=>exact⟨by simp,by omega,fun x hx=>by cases hx⟩
 |rest a b c=>exact⟨by simp,by omega,fun x hx=>by cases hx⟩
 |last a b c=>exact⟨by simp,by omega,fun x hx=>⟨_,List.mem_singleton.1 hx⟩⟩
 |go a b c _ d=>
  refine⟨by simp;omega,d.2.1,fun x hx=>?_⟩;rcases List.mem_cons.1 hx with rfl|hx
  ·exact⟨_,rfl⟩
  ·exact d.2.2 x hx
theorem gdn(h:Ib tk n i ns j)(k:Int)(s:Tk)(e b m:Int):Gd tk n (nd k s e b m z0 ((tk q).x::ns)):=by
 obtain⟨c,d,a⟩:=h.gd;refine⟨.inl rfl,by show ns.length+1<=n;omega,fun x hx=>?_⟩;rcases List.mem_cons.1 hx with rfl|hx
 ·exact⟨_,rfl⟩
 ·exact a x hx
theorem P.gd{t:xi}{R:Fo}(h:P tk n t i R j):anx tk n t->R.all (Gd tk n):=by
 induction h
 case tlet0 h1 h2 h3 h4 h5=>intro _;rw[fl];exact⟨gdn h4 ..,trivial⟩
 case tlet h1 h2 h3 h4 h5 h6 ih=>intro _;rw[fl];exact⟨gdn h4 ..,ih trivial⟩
 case tfor h1 h2 h3 h4 h5 h6 h7 i1 i2=>intro _;rw[fl,oz];exact⟨gdn h4 ..,i1 trivial,i2 trivial⟩
 case teach h1 h2 h3 h4 h5 h6 h7 h8 h9 i1 i2=>intro _;rw[fl,oz];exact⟨gdn h4 ..,i1 trivial,i2 trivial⟩
 case ttry h1 h2 h3 h4 h5 h6 h7 h8 i1 i2=>intro _;rw[fl,oz];exact⟨gdn h7 ..,i1 trivial,i2 trivial⟩
 case body nm r B h1 h2 h3 h4 ih=>intro _;rw[fl];exact⟨⟨.inl rfl,by have:=h3.gd;show nm.length<=n;omega,h3.gd.2.2⟩,ih trivial⟩
 case bopen h1 h2 h3 h4 h5 h6 i1 i2=>intro _;have:=i1 trivial;rw[fl]at this;exact i2 (gdh _ _ _ _ this.1 this.2)
 case tcon h1 h2 h3 h4 h5 ih=>intro _;rw[fl];exact⟨gd1 (by omega) ..,ih trivial⟩
 case tfn h1 h2 h3 h4 h5 ih=>intro _;rw[fl];exact⟨gd1 (by omega) ..,ih trivial⟩
 all_goals
  intro a
  simp_all only[fl,oz,anx,Fo.all,gdx,gd0,ig,gdb,and_self,true_implies,forall_const]
end
def Fo.nms:Fo->Nat
 | .nil=>0
 | .cons N k r=>N.nm.length+k.nms+r.nms
theorem qm:∀(a b:Fo),(a.app b).nms=a.nms+b.nms
 | .nil,b=>by simp[Fo.app,Fo.nms]
 | .cons N k r,b=>by simp only[Fo.app,Fo.nms,qm r b];omega
theorem oA(N:Nd)(k:Fo):(one N k).nms=N.nm.length+k.nms:=by simp[one,Fo.nms]
theorem agI(N:Nd)(ks:Fo)(s:Tk)(e:Int):(mc N ks s e).nms=(one N ks).nms:=by
 unfold mc;split
 ·rw[oA];simp[ig,nd]
 ·rfl
theorem Dm(k:Int)(s:Tk)(e a m:Int)(x:ByteArray)(nm:List ByteArray):(nd k s e a m x nm).nm=nm:=rfl
theorem al9(k:Int)(s:Tk)(e:Int):(wv k s e).nm=[]:=by unfold wv;split;rfl;split<;>rfl
def Hk:xi->Nat
 | .more _ _ x=>x.nms
 | .post _ B=>B.nms
 |_=>0
theorem P.nms{t:xi}{R:Fo}(h:P tk n t i R j):R.nms+i<=Hk t+j:=by
 induction h
 case tlet0 h1 h2 h3 h4 h5=>have:=h4.gd;simp only[oA,qm,Hk,Dm,Fo.nms,bB]at *;omega
 case tlet h1 h2 h3 h4 h5 h6 ih=>have:=h4.gd;simp only[oA,qm,Hk,Dm,Fo.nms,bB]at *;omega
 case tfor h1 h2 h3 h4 h5 h6 h7 i1 i2=>have:=h4.gd;simp only[oA,qm,Hk,Dm,Fo.nms,bB]at *;omega
 case teach h1 h2 h3 h4 h5 h6 h7 h8 h9 i1 i2=>have:=h4.gd;simp only[oA,qm,Hk,Dm,Fo.nms,bB]at *;omega
 case ttry h1 h2 h3 h4 h5 h6 h7 h8 i1 i2=>have:=h7.gd;simp only[oA,qm,Hk,Dm,Fo.nms,bB]at *;omega
 case body h1 h2 h3 h4 ih=>have:=h3.gd;simp only[oA,qm,Hk,Dm,Fo.nms,bB]at *;omega
 all_goals
  simp only[oA,qm,agI,Hk,ig,Dm,al9,Fo.nms,bB,dl]at *;omega
theorem Dn:∀(R:Fo)(K b:Nat),Kv K (R.flat b)+R.len=K+8*R.sz+R.nms
 | .nil,K,b=>by simp[Fo.flat,Kv,Fo.len,Fo.sz,Fo.nms]
 | .cons N k r,K,b=>by
  have c:=Dn k K b;have d:=Dn r (nxt (Kv K (k.flat b)) {N with ks:=k.tops b}) (b+k.sz+1);have e:=k.tops_len b;rw[Fo.flat,aeI,Kv];have a:nxt (Kv K (k.flat b)) {N with ks:=k.tops b}=Kv K (k.flat b)+7+N.nm.length+(k.tops b).length:=rfl;simp only[Fo.len,Fo.sz,Fo.nms];omega
theorem anz(s:ByteArray)(p:Nat)(e:p<s.size):(rdI s p).x.size<=s.size:=by
 have c:∀a b,(s.extract a b).size<=s.size:=fun a b=>by rw[iJ];omega
 unfold rdI;split
 ·show(Ic s p).2.size<=_;unfold Ic;split
  ·exact aL _
  ·exact c _ _
 split
 ·split
  ·show(vC s p).2.2.size<=_;unfold vC;split
   ·exact aL _
   split
   ·exact aL _
   ·exact c _ _
  ·exact aL _
 split
 ·split
  ·show(fG _).size<=_;have d:=(tE s (s.size+1) (p+1) [] e).2.2;rw[acB];simp at d;omega
  ·exact aL _
 split
 ·exact aL _
 ·exact aL _
theorem ab8(s:ByteArray):∀(f:Nat)(st:List Int)(p:Nat)(l:Int)(a:List Tk),(∀T∈a,T.x.size<=s.size)->∀T∈(wH s f st p l a).1,T.x.size<=s.size
 |0,st,p,l,a,h=>fun T hT=>by cases hT
 |f+1,st,p,l,a,h=>by
  have c:∀(b:Tk),b.x.size<=s.size->∀T∈a++[b],T.x.size<=s.size:=fun b e T hT=>by
   rcases List.mem_append.1 hT with hT|hT
   ·exact h T hT
   ·rw[List.mem_singleton.1 hT];exact e
  rw[wH];split
  ·exact c _ (aL _)
  ·rename_i g;have d:=anz s p (by omega);split
   ·split
    ·exact ab8 s f _ _ _ _ (c _ d)
    ·exact ab8 s f _ _ _ _ h
   ·split
    ·split
     ·exact ab8 s f _ _ _ _ (c _ d)
     ·exact fun T hT=>by cases hT
    ·exact fun T hT=>by cases hT
theorem ab9(s:ByteArray):∀(f:Nat)(st:List Int)(p:Nat)(l:Int)(b:List Tk),p<=s.size->(wH s f st p l b).1.length<=b.length+(s.size-p)+1
 |0,st,p,l,b,h=>aL _
 |f+1,st,p,l,b,h=>by
  rw[wH];split
  ·simp
  ·rename_i j;have d:∀q,q<=s.size->q<=blk s (s.size+1) q/\blk s (s.size+1) q<=s.size:=fun q i=>qD s (s.size+1) q i;split
   ·rename_i e;have c:=mL s p (by omega) (af3 s p e).1;have:=d _ c.2.1;split
    ·have:=ab9 s f (feedL st 5).1 (blk s (s.size+1) (rdI s p).a) (l+1) (b++[⟨5,(p:Nat),((rdI s p).a:Nat),l,(rdI s p).n,(rdI s p).x⟩]) (by omega);simp only[aK,AH]at this;omega
    ·have:=ab9 s f st (blk s (s.size+1) (rdI s p).a) (l+1) b (by omega);omega
   ·split
    ·split
     ·rename_i g;have c:=mL s p (by omega) g;have:=d _ c.2.1;have:=ab9 s f (feedL st (tw s p)).1 (blk s (s.size+1) (rdI s p).a) l (b++[⟨tw s p,(p:Nat),((rdI s p).a:Nat),l,(rdI s p).n,(rdI s p).x⟩]) (by omega);simp only[aK,AH]at this;omega
     ·exact aL _
    ·exact aL _
theorem Bp(p:Nd->Prop)(c:∀(N:Nd) (ks:List Int),p N->p {N with ks:=ks}):∀(R:Fo)(b:Nat),R.all p->∀N∈R.flat b,p N/\N.ks.length<=R.sz
 | .nil,b,h=>fun N hN=>by cases hN
 | .cons e k r,b,h=>fun N hN=>by
  have f:=k.len_le;have g:=k.tops_len b;rw[Fo.flat,Ba,jb]at hN;rcases hN with hN|rfl|hN
  ·obtain⟨a,d⟩:=Bp p c k b h.2.1 N hN;exact⟨a,by rw[Fo.sz];omega⟩
  ·exact⟨c _ _ h.1,by rw[Fo.sz];show(k.tops b).length<=_;omega⟩
  ·obtain⟨a,d⟩:=Bp p c r _ h.2.2 N hN;exact⟨a,by rw[Fo.sz];omega⟩
def oH(s:ByteArray)(R:Fo):List Nd:=(one ⟨1,0,(s.size:Nat),1,0,0,⟨#[]⟩,[],[]⟩ R).flat 0
structure PF (s:ByteArray) (toks:List Tk) (m:Nat) (R:Fo) (lz:Int):Prop where
 len:toks.length=m+1
 le:m<=s.size
 p:P (tD toks) (m+1) .stats 0 R m
 k78:∀q,(tD toks q).k<=78
 k6:∀q,q<m->(tD toks q).k≠6
 end_:tD toks m=⟨6,(s.size:Nat),(s.size:Nat),lz,0,⟨#[]⟩⟩
 sz:R.sz<=200000
 sm:∀N∈oH s R,io N
 ct:Kv 1 (oH s R)<=2000000
theorem anA{s:ByteArray}(A:s.size<=65536){toks:List Tk}{st:List Int}(h:jz s=(toks,st, -1)){m:Nat}{R:Fo}{j:Int}(o:toks.length=m+1)(p:tD toks m=⟨6,(s.size:Nat),(s.size:Nat),j,0,⟨#[]⟩⟩)(d:P (tD toks) (m+1) .stats 0 R m)(r:∀q,q<m->(tD toks q).k≠6):PF s toks m R j:=by
 obtain⟨I,H,a,w⟩:=Dk s _ _ _ _ _ toks st h;rw[dt]at a;have F:=qD s (s.size+1) 0 (aL _);have i:=ab9 s (s.size+1) [100,6] (blk s (s.size+1) 0) 1 [] (by omega);have b:=ab8 s (s.size+1) [100,6] (blk s (s.size+1) 0) 1 [] (fun c v=>by cases v);have B:wH s (s.size+1) [100,6] (blk s (s.size+1) 0) 1 []=(toks,st, -1):=h;rw[B]at i b;simp only[dl]at i;have z:=d.pos;simp only[fi,slk,bas]at z;have y:=d.nms;have t:=d.gd trivial;have f:(one ⟨1,0,(s.size:Nat),1,0,0,⟨#[]⟩,[],[]⟩ R:Fo).sz=R.sz+1:=bm _ _;have l:∀q,(tD toks q).x.size<=65536:=fun q=>by
  unfold tD;rw[be];cases hq:toks[q]? with
  |none=>exact aL _
  |some c=>exact bL (b c (cH hq)) A
 have C:∀q,(tD toks q).k<=78:=fun q=>by
  unfold tD;rw[be];cases hq:toks[q]? with
  |none=>show(0:Int)<=78;decide
  |some c=>
   have:=cH hq;rw[a,Ba,List.mem_singleton]at this;rcases this with g|g
   ·have:=akn w g;show c.k<=78;omega
   ·rw[g];show(6:Int)<=78;decide
 refine⟨o,by omega,d,C,r,p,by omega,fun e u=>?_,?_⟩
 ·obtain⟨g,x⟩:=Bp (Gd (tD toks) (m+1)) (fun e G h=>h) _ 0 ((fl _ _ R).2 ⟨⟨.inl rfl,aL _,fun n b=>by cases b⟩,t⟩) e u;rw[f]at x;refine⟨by have:=g.2.1;omega,by omega,?_,fun n b=>?_⟩
  ·rcases g.1 with a|⟨q,a⟩
   ·rw[a];exact aL _
   ·rw[a];have:=l q;omega
  ·obtain⟨q,a⟩:=g.2.2 n b;rw[a];have:=l q;omega
 ·have:=Dn (one ⟨1,0,(s.size:Nat),1,0,0,⟨#[]⟩,[],[]⟩ R) 1 0;rw[f,oA]at this;simp only[Hk]at y;have E:([]:List ByteArray).length=0:=rfl;unfold oH;show Kv 1 (Fo.flat (one ⟨1,0,(s.size:Nat),1,0,0,⟨#[]⟩,[],[]⟩ R) 0)<=_;simp only[dl]at this;omega
theorem aca:∀(ts:List Tk)(q i:Nat)(T:Tk),ts[q]?=O T->i<6->(As ts)[q*6+i]?=(cTk T)[i]?
 |[],q,i,T,h,b=>by simp at h
 |a::r,0,i,T,h,b=>by
  simp at h;subst h;show(cTk a++As r)[0*6+i]?=_;rw[iu (by show 0*6+i<6;omega),Nat.zero_mul,qa]
 |a::r,q+1,i,T,h,b=>by
  show(cTk a++As r)[(q+1)*6+i]?=_;rw[fL (by show 6<=_;omega),show(q+1)*6+i-(cTk a).length=q*6+i by show _-6=_;omega];exact aca r q i T (by simpa using h) b
theorem agJ{c:Array U}(h:c.toList.take (n*6)=As ts)(j:ts.length=n)(g:∀q T,ts[q]?=O T->{T with l:=(tk q).l}=tk q/\((tk q).k≠6->T.l=(tk q).l)):TkR c tk n:=by
 intro q m;have d:=aJ (show q<ts.length by omega);obtain⟨e,f⟩:=g q _ d;generalize ts[q]=T at d e f;have a:∀b,b<6->c[q*6+b]?=(cTk T)[b]?:=fun b i=>by rw[<-aca ts q b T d i,<-h,jH,ab (by omega),ux]
 refine⟨T.l,?_,?_,?_,a 3 (by omega),?_,?_,f⟩;all_goals rw[<-e]
 ·exact a 0 (by omega)
 ·exact a 1 (by omega)
 ·exact a 2 (by omega)
 ·exact a 4 (by omega)
 ·exact a 5 (by omega)
def rF(s:ByteArray):List Tk×Int:=if 0<=(jz s).2.2 then([],(jz s).2.2) else if(feedL (jz s).2.1 6).2=true then((jz s).1, -1) else([],(s.size:Nat))
def TkP(s:ByteArray)(w:Ax)(e:Ending)(w':Ax):Prop:=∃a b,e= .returned (.tuple #[M a (rF s).1.length b,A0 A2 (rF s).2])/\w'.ownsRow w.heap.size 67 6 (M a (rF s).1.length b) (rF s).1.length (As (rF s).1)/\Below w.heap.size w w'
theorem yx(w:Ax)(s:ByteArray)(ap:s.size<=65536):Calls Tryz.prog 10 #[A9 s] w (TkP s w):=by
 have x:vh (w.alloc (A5 #[M Q 0 0] 76)) w.heap.size w.heap.size []:=⟨⟨_,aA w _,dr _ _ _ _⟩,ag _⟩;have b:=aaa _ w.heap.size w.heap.size s x (by omega);have l:Hid (Below w.heap.size w (w.alloc (A5 #[M Q 0 0] 76))):=cK w _;have e:Hid (rF s=if 0<=(jz s).2.2 then([],(jz s).2.2) else if(feedL (jz s).2.1 6).2=true then((jz s).1, -1) else([],(s.size:Nat))):=rfl;obtain⟨⟨m,n,A⟩,p⟩:∃E,jz s=E:=⟨_,rfl⟩;rw[p]at b e;unfold JH at b;simp only at b e;obtain⟨ar,f⟩:=az m.length;rw[f]at b;clear p x;go_in;go_wp2_with fail;generalize w.alloc (A5 #[M Q 0 0] 76)=al at b l⊢;refine b.mono ?_;rintro a z ⟨F,I,af,B,rfl,i,h,k,j,G,am,an⟩;have r:Below w.heap.size w z:=l.out.trans (G.mono (ag _));clear b;by_cases o:0<=A
 ·have a:=e.out;rw[ab o]at a;have c:=aq a;clear i h k j a f;go_wp2_with fail;go_ret2;exact(show TkP _ _ _ _ from⟨Q,0,by rw[c.out];rfl,by rw[c.out];exact dr _ _ _ _,r⟩)
 ·have a:=e.out;rw[aa o]at a;have g:=yh z w.heap.size w.heap.size B n af 6 h k j (by decide) (by decide) (by omega);unfold uj at g;obtain⟨a0,u,_⟩:=h.ex;have d:=lD i u f;obtain⟨J,t⟩:=az ((feedL n 6).2);rw[t]at g a;have c:=aq a;clear a i h k j f u t;go_wp2_with fail;refine g.mono ?_;rintro a ak ⟨av,D,rfl,L,ad,ao,v,H⟩;have q:Below w.heap.size w ak:=r.trans (H.mono (ag _));have y:=v.row d.2.1 d.1 (by decide) (by decide);have C:=aq y;clear g L ad v y;cases J with
  |true=>
   go_wp2_with fail;go_ret2;have a:=c.out;rw[ab trivial]at a;have K:(rF s).1=m:=by rw[a]
   exact(show TkP _ _ _ _ from⟨F,I,by rw[a];simp only[d.out.2.2];rfl,by rw[K,d.out.2.2];exact C,q⟩)
  |false=>
   go_wp2_with fail;go_ret2;have a:=c.out;rw[aa (by simp)]at a;exact(show TkP _ _ _ _ from⟨Q,0,by rw[a];rfl,by rw[a];exact dr _ _ _ _,q⟩)
theorem row3{a b c:U}{t:TypeId}(h:w.heap[r]?=O (A5 #[a,b,c] t (0,0))):w.cell? ⟨r,0,Q⟩=O a/\w.cell? ⟨r,1,Q⟩=O b/\w.cell? ⟨r,2,Q⟩=O c/\∀j,w.frozen? ⟨r,j,Q⟩=false:=
 ⟨by rw[au _ _ _ _ _ _ h];rfl,by rw[au _ _ _ _ _ _ h];rfl,by rw[au _ _ _ _ _ _ h];rfl,fun j=>co _ _ _ _ _ h⟩
theorem adH{d e f:U}{t:TypeId}(h:w.heap[r]?=O (A5 #[d,e,f] t (0,0)))(a b c:U):(((w.setCell ⟨r,0,Q⟩ a).setCell ⟨r,1,Q⟩ b).setCell ⟨r,2,Q⟩ c).heap[r]?=O (A5 #[a,b,c] t (0,0)):=
 bz _ r 2 _ _ _ (bz _ r 1 _ _ _ (bz _ r 0 _ _ _ h))
theorem ako{k:Nat}(h:k≠r)(a b c:U):(((w.setCell ⟨r,0,Q⟩ a).setCell ⟨r,1,Q⟩ b).setCell ⟨r,2,Q⟩ c).heap[k]?=w.heap[k]?:=
 (aB _ _ _ _ h).trans ((aB _ _ _ _ h).trans (aB _ _ _ _ h))
theorem E9{a:Ax}(h:Below r a w)(b c f:U):Below r a (((w.setCell ⟨r,0,Q⟩ b).setCell ⟨r,1,Q⟩ c).setCell ⟨r,2,Q⟩ f):=by
 have d:Below r a (w.setCell ⟨r,0,Q⟩ b):=h.setCell (ag _) _;have e:Below r a ((w.setCell ⟨r,0,Q⟩ b).setCell ⟨r,1,Q⟩ c):=d.setCell (ag _) _;exact e.setCell (ag _) _
def psV(c a:Int)(v:U):U:= .agg #[A0 A2 c,A0 A2 a,v]
def Nl(w:Ax)(v:U)(c:List Nd):Prop:=∃a b,a.map Mb.N=c/\Lw w b v a
theorem Nl.nds{v:U}{a:List Nd}(h:Nl w v a):fs w v a:=by
 obtain⟨c,d,rfl,b⟩:=h;exact b.nds
theorem Hl(w:Ax):Nl w (M Q 0 0) []:=⟨[],0,rfl,dr _ _ _ _,fun b a=>by cases a⟩
def PsP(w:Ax)(c a:Int)(d:List Nd)(e:Ending)(w':Ax):Prop:=∃b,e= .returned (psV c a b)/\Nl w' b d/\Below w.heap.size w w'
def okC(a:List Nd):Int:=if(dd a).1=0 then 0 else 2
def okN(a:List Nd):List Nd:=if(dd a).1=0 then a else []
inductive Out (s:ByteArray):Int->Int->List Nd->Prop where
 |big:65536<s.size->Out s 2 0 []
 |at_ {z:Int}:s.size<=65536->0<=z->rF s=([],z)->Out s 1 z []
 |ok {toks:List Tk}{m:Nat}{R:Fo}{lz:Int}:s.size<=65536->rF s=(toks, -1)->PF s toks m R lz->Out s (okC (oH s R)) 0 (okN (oH s R))
section
variable {T x : ByteArray} {p : Nat}
theorem agK{a b:ByteArray}(f:a.size=b.size)(h:∀i,i<a.size->ax a i=ax b i):a=b:=by
 apply pK;refine Array.ext f (fun i d e=>?_);have c:=h i d;unfold ax at c;rw[mJ (show i<a.size from d),mJ (show i<b.size from e)]at c;exact UInt8.toNat_inj.1 (Int.ofNat_inj.1 c)
end
section
variable {T x : ByteArray} {p : Nat}
end
theorem acf(x:ByteArray):∀(d:List Int),bgL x d=true↔∃k∈d,bgC (ax x 0) k=true\/bgT x k=true
 |[]=>by simp[bgL]
 |k::r=>by
  rw[bgL];constructor
  ·intro h;split at h
   ·exact⟨k,cE,.inl ‹_›⟩
   split at h
   ·exact⟨k,cE,.inr ‹_›⟩
   ·obtain⟨c,a,b⟩:=(acf x r).1 h;exact⟨c,dI _ a,b⟩
  ·rintro ⟨c,a,b⟩;split
   ·rfl
   split
   ·rfl
   ·rename_i e f;rcases List.mem_cons.1 a with rfl|a
    ·exact absurd b (by simp[e,f])
    ·exact(acf x r).2 ⟨c,a,b⟩
theorem acg{x:ByteArray}{k:Int}:bgT x k=true↔x.size<=(pG k).size/\∀i,i<x.size->ax x i=ax (pG k) i:=by
 unfold bgT;rw[ci,jF,ja,fE,fE];refine and_congr_right (fun f=>?_);have d:((pG k).extract 0 x.size).size=x.size:=by rw[iJ];omega
 have c:∀i,i<x.size->ax ((pG k).extract 0 x.size) i=ax (pG k) i:=fun i a=>by rw[ga _ 0 _ i f,qa]
 constructor
 ·intro b i a;have e:(pG k).extract 0 x.size=x:=pK (Array.toList_inj.1 b);rw[<-c i a,e]
 ·intro b;rw[agK d (fun i a=>by rw[d]at a;rw[c i a,b i a])]
theorem adJ(a:Int):4<=(vL a).2/\(vL a).2<=11:=by
 unfold vL
 repeat' split
 all_goals exact⟨by decide,by decide⟩
theorem ach(k a:Int):2<=tj k a/\tj k a<=11:=by
 have:=adJ a;unfold tj
 repeat' split
 all_goals omega
abbrev Cel(W:Ax)(b:Nat)(N:Nd)(vn vk:U):Prop:=W.cell? ⟨b,0,Q⟩=O (A0 A2 N.k)/\W.cell? ⟨b,1,Q⟩=O (A0 A2 N.f)/\W.cell? ⟨b,2,Q⟩=O (A0 A2 N.t)/\W.cell? ⟨b,3,Q⟩=O (A0 A2 N.l)/\W.cell? ⟨b,4,Q⟩=O (A0 A2 N.op)/\W.cell? ⟨b,5,Q⟩=O (A0 A2 N.n)/\W.cell? ⟨b,6,Q⟩=O (A9 N.x)/\W.cell? ⟨b,7,Q⟩=O vn/\W.cell? ⟨b,8,Q⟩=O vk
theorem ajz{m:Addr}{o tab:Nat}(av:N.k≠29->N.k≠28->1<=N.op/\N.op<=18){f ap:Option Addr}{e h C g:Nat}(R:NdR w0 m i N f e h ap C g)(a5:N.ks.length=2)(I:N.ks[0]?=O (q:Int))(p:N.ks[1]?=O (r:Int)){j:Int}(ba:0<=j/\j<=50){a0 E af:ByteArray}(F:Hid (Wr w0 (M (O m) n o) tab 33 #[pW w0,A0 A2 (q:Int),A0 A2 (Ae N j)] E))(a3:Hid (Wr w0 (M (O m) n o) tab 33 #[pW w0,A0 A2 (r:Int),A0 A2 (tj N.k N.op)] af)):
  Wr w0 (M (O m) n o) tab 100 #[pW w0,jf N (M f e h) (M ap C g),A9 a0,A0 A2 j] (E++a0++af):=by
 intro am K H a6;have ar:=H.lt;have a9:=ach N.k N.op;obtain⟨b,rfl⟩:=R.ks.ptr;obtain rfl:C=2:=by have:=R.hL;omega
 have c:=aq R;have B:=aq fun a8 a7=>I4 N a8 a7 av;unfold jf at B⊢;unfold Ae at F;generalize tj N.k N.op=al at *;simp only[ay]at a6;have a:=aq (Bx.new H N (M f e h) (M (O b) 2 g));obtain⟨s,t,u,v,w,x,y,z,A⟩:=a.cells;have a1:=a.kid0 c.ks I;have a2:=a.kid c.ks p (by decide);have J:Hid (∀{am:ByteArray}{d:Ax},Bx w0 (M (O m) n o) tab K N (M f e h) (M (O b) 2 g) am d->Cel d K.heap.size N (M f e h) (M (O b) 2 g)/\d.cell? ⟨b.block,b.off+1,Q⟩=O (A0 A2 (r:Int))):=fun a=>⟨a.cells,a.kid c.ks p (by decide)⟩;clear H R av a5;by_cases l:al=j;all_goals
  first|have a4:=kqs l|have a4:(al==j)=false:=by simpa using l
  first|rw[ab l]at F|rw[aa l]at F
  clear l;go_in
  repeat (go_wp2_with fail;(first|(go_at_call 177;refine bv (B _ _ _) fun d G=>?_;have a:=aq (a.below G);clear s t u v w x y z A;obtain⟨s,t,u,v,w,x,y,z,A⟩:=a.cells;have a1:=a.kid0 c.ks I;have a2:=a.kid c.ks p (by decide))|(refine Bx.stp a (ah _ _) (by with_reducible first|exact aq (CE _)|assumption) ar (by(try simp only[ay]);omega) ?_;intro d a;have a:=aq a;clear s t u v w x y z A;obtain⟨s,t,u,v,w,x,y,z,A⟩:=a.cells;have a1:=a.kid0 c.ks I;have a2:=a.kid c.ks p (by decide))))
  go_wp2_with fail;go_region_held3 (fun ao=>Cel ao K.heap.size N (M f e h) (M (O b) 2 g)/\ao.cell? ⟨b.block,b.off+1,Q⟩=O (A0 A2 (r:Int))) (first|exact J ad|exact J L|exact J (a.below (aw (ah _ _)))|go_keep) (first|(go_at_call 177;refine bv (B _ _ _) fun d G=>?_;have L:=(a.below (aw (ah _ _))).below G)|(go_at_call 33;refine Bx.stp (aq L) (ah _ _) a3 ar (by(try simp only[ay]);omega) ?_;intro d ad))
  go_wp2_with fail;go_end0
  exact Bx.fin (aq ad) (by simp only[bq])
theorem agL{o:Addr}{v:Nat}{tab:Nat}(ap:n<=1048576)(ad:i<n)(m:N.k=31->1<=N.op/\N.op<=18){f e:Option Addr}{d h c g:Nat}(R:NdR w0 o i N f d h e c g)(j:N.k=31){w:Int}(ao:¬iD N.k N.op<w)(ar:(pG (60+N.op)).size<=4){u:ByteArray}(s:Hid (Wr w0 (M (O o) n v) tab 100 #[pW w0,jf N (M f d h) (M e c g),A9 (⟨#[32]⟩++pG (60+N.op)++⟨#[32]⟩),A0 A2 (iD N.k N.op)] u)):
  Wr w0 (M (O o) n v) tab 33 #[pW w0,A0 A2 (i:Int),A0 A2 w] u:=by
 intro I y b am;have B:=b.lt;obtain⟨z0,G,H⟩:=b.cells;obtain⟨av,a0,a1,a2,a3,a4,a5,a6,a7,_,_⟩:=R.rd y b.bel;have a:=aq (Bx.new b N (M f d h) (M e c g));have af:(i:Int)<(n:Int):=by omega
 have al:(0:Int)<=(i:Int):=by omega
 have bb:=kqf j;have L:=kqs j;have r:=aq fun F E=>zH N F E m;have z:=aq (BB (60+N.op));obtain⟨a8,a9⟩:=m j;have C:IntKind.i64.wrap (60+N.op)=60+N.op:=by rw[ed];omega
 generalize pG (60+N.op)=x at *;have J:¬9223372036854775807<1+x.size:=by omega
 have K:¬9223372036854775807<1+x.size+1:=by omega
 unfold jf at r s;generalize iD N.k N.op=ba at *;clear b R j m H G;go_in;go_wp2_with (go_at_call 99;refine bv (r _ _ _) fun t l=>?_;have a:=aq (a.below l);obtain⟨bc,bd,bf,bh,bk,bl,bn,bo,br⟩:=a.cells);go_region_held3 (fun A=>Cel A y.heap.size N (M f d h) (M e c g)) (first|exact q.cells|exact p.cells|exact(a.below (aw (ah _ _))).cells|go_keep) (first|(go_at_call 101;(try rw[C]);refine bv (z _) fun t l=>?_;have p:=(a.below (aw (ah _ _))).below l)|(go_at_call 100;refine Bx.stp (aq p) (ah _ _) s B (by omega) ?_;intro t q))
 go_wp2_with fail;go_end0
 exact Bx.fin (aq q) rfl
section
variable (w0 : World) (vt : Value) (t : Nat)
inductive Fa (p1:Addr) (n i:Nat) (ns:List Nd) (N:Nd) (vn vk:Value):FuncId->Array Value->ByteArray->Prop
 |blk {Y:ByteArray}:Hid (N.k=1)->Hid (WB w0 vt t i Y)->Fa p1 n i ns N vn vk 13 #[pW w0,.int .i64 (i:Int)] (Y)
 |let0:N.nm.length<=200->Hid (N.k=2)->N.ks.length=0->Fa p1 n i ns N vn vk 13 #[pW w0,.int .i64 (i:Int)] (⟨#[108,101,116,32]⟩++cC N.nm)
 |let1 {X:ByteArray}:N.nm.length<=200->Hid (N.k=2)->0<N.ks.length->Hid (WX w0 vt t N.ks X)->Fa p1 n i ns N vn vk 13 #[pW w0,.int .i64 (i:Int)] (⟨#[108,101,116,32]⟩++cC N.nm++(⟨#[32,61,32]⟩++X))
 |cst {s E:ByteArray}{q:Nat}:Hid (N.k=3)->N.ks.length=1->N.nm.length=1->N.nm[0]?=some s->N.ks[0]?=some (q:Int)->Hid (WE w0 vt t q E)->Fa p1 n i ns N vn vk 13 #[pW w0,.int .i64 (i:Int)] (⟨#[99,111,110,115,116,32]⟩++s++⟨#[32,61,32]⟩++E)
 |fns {s Y:ByteArray}{q:Nat}:Hid (N.k=4)->N.ks.length=1->N.nm.length=1->N.nm[0]?=some s->N.ks[0]?=some (q:Int)->Hid (WD w0 vt t q Y)->Fa p1 n i ns N vn vk 13 #[pW w0,.int .i64 (i:Int)] (⟨#[102,110,32]⟩++s++Y)
 |set {X Z:ByteArray}{m:Nat}:Hid (N.k=5)->1<=m/\m<N.ks.length->Hid (N.n=(m:Int))->Hid (WX w0 vt t (N.ks.take m) X)->Hid (WX w0 vt t (N.ks.drop m) Z)->Fa p1 n i ns N vn vk 13 #[pW w0,.int .i64 (i:Int)] (X++⟨#[32,61,32]⟩++Z)
 |one {E:ByteArray}{q:Nat}:Hid (N.k=6)->N.ks.length=1->N.ks[0]?=some (q:Int)->Hid (WE w0 vt t q E)->Fa p1 n i ns N vn vk 13 #[pW w0,.int .i64 (i:Int)] (E)
 |iff {Y:ByteArray}:Hid (N.k=7)->Hid (Wr w0 vt t 35 #[pW w0,jf N vn vk,.string ⟨#[105,102,32]⟩] Y)->Fa p1 n i ns N vn vk 13 #[pW w0,.int .i64 (i:Int)] (Y)
 |whl {E Y:ByteArray}{q r:Nat}:Hid (N.k=8)->N.ks.length=2->N.ks[0]?=some (q:Int)->N.ks[1]?=some (r:Int)->Hid (WE w0 vt t q E)->Hid (WB w0 vt t r Y)->Fa p1 n i ns N vn vk 13 #[pW w0,.int .i64 (i:Int)] (⟨#[119,104,105,108,101,32]⟩++E++⟨#[32]⟩++Y)
 |fr {X Y Z:ByteArray}{k q:Nat}:N.nm.length<=200->Hid (N.k=9)/\Z=⟨#[32,61,32]⟩/\(k=2\/k=3)\/Hid (N.k=10)/\Z=⟨#[32,105,110,32]⟩/\k=1->N.ks.length=k+1->N.ks[k]?=some (q:Int)->Hid (WX w0 vt t (N.ks.take k) X)->Hid (WB w0 vt t q Y)->Fa p1 n i ns N vn vk 13 #[pW w0,.int .i64 (i:Int)] (⟨#[102,111,114,32]⟩++cC N.nm++Z++X++⟨#[32]⟩++Y)
 |brk:Hid (N.k=11)->Fa p1 n i ns N vn vk 13 #[pW w0,.int .i64 (i:Int)] (⟨#[98,114,101,97,107]⟩)
 |nxt:Hid (N.k=12)->Fa p1 n i ns N vn vk 13 #[pW w0,.int .i64 (i:Int)] (⟨#[110,101,120,116]⟩)
 |ret0:Hid (N.k=13)->N.ks.length=0->Fa p1 n i ns N vn vk 13 #[pW w0,.int .i64 (i:Int)] (⟨#[114,101,116,117,114,110]⟩)
 |ret1 {X:ByteArray}:Hid (N.k=13)->0<N.ks.length->Hid (WX w0 vt t N.ks X)->Fa p1 n i ns N vn vk 13 #[pW w0,.int .i64 (i:Int)] (⟨#[114,101,116,117,114,110]⟩++(⟨#[32]⟩++X))
 |try_ {X Y:ByteArray}{q r:Nat}:N.nm.length<=200->Hid (N.k=14)->N.ks.length=2->N.ks[0]?=some (q:Int)->N.ks[1]?=some (r:Int)->Hid (WB w0 vt t q X)->Hid (WB w0 vt t r Y)->Fa p1 n i ns N vn vk 13 #[pW w0,.int .i64 (i:Int)] (⟨#[116,114,121,32]⟩++X++⟨#[32,99,97,116,99,104,32]⟩++cC N.nm++⟨#[32]⟩++Y)
 |thr {E:ByteArray}{q:Nat}:Hid (N.k=15)->N.ks.length=1->N.ks[0]?=some (q:Int)->Hid (WE w0 vt t q E)->Fa p1 n i ns N vn vk 13 #[pW w0,.int .i64 (i:Int)] (⟨#[116,104,114,111,119,32]⟩++E)
 |dfr {E:ByteArray}{q:Nat}:Hid (N.k=16)->N.ks.length=1->N.ks[0]?=some (q:Int)->Hid (WE w0 vt t q E)->Fa p1 n i ns N vn vk 13 #[pW w0,.int .i64 (i:Int)] (⟨#[100,101,102,101,114,32]⟩++E)
 |bod {Y Z:ByteArray}{q:Nat}:N.nm.length<=200->(N.op≠1/\Z=ByteArray.empty\/Hid (N.op=1)/\(N.nm.length=0/\Z=⟨#[46,46,46]⟩\/0<N.nm.length/\Z=⟨#[44,32]⟩++⟨#[46,46,46]⟩))->N.ks.length=1->N.ks[0]?=some (q:Int)->Hid (WB w0 vt t q Y)->Fa p1 n i ns N vn vk 34 #[pW w0,.int .i64 (i:Int)] (⟨#[40]⟩++cC N.nm++Z++⟨#[41,32]⟩++Y)
 |br2 {word E Y:ByteArray}{q r:Nat}:N.ks.length=2->N.ks[0]?=some (q:Int)->N.ks[1]?=some (r:Int)->Hid (WE w0 vt t q E)->Hid (WB w0 vt t r Y)->Fa p1 n i ns N vn vk 35 #[pW w0,jf N vn vk,.string word] (word++E++⟨#[32]⟩++Y)
end
theorem aas{g:Ax}{k:Addr}{n q:Nat}{s:List Nd}(al:fs g (M (O k) n q) s)(ar:CF g k s)(a1:s.length=n)(b1:n<=1048576){tab i:Nat}(bD:i<n){N:Nd}(b0:N.ks.length<=1048576){w v:Option Addr}{o r m b:Nat}(R:NdR g k i N w o r v m b){f:FuncId}{args:Array U}{B:ByteArray}(am:Fa g (M (O k) n q) tab k n i s N (M w o r) (M v m b) f args B):
  Wr g (M (O k) n q) tab f args B:=by
 intro z bc h x;have a0:=h.lt;obtain⟨z0,bl,bn⟩:=h.cells;have ad:=R.hL;have af:=R.hM;have bt:=R.cap;have a:=aq (Bx.new h N (M w o r) (M v m b));obtain⟨a3,a4,a5,a6,a7,a8,a9,ba,bb,_,_⟩:=R.rd bc h.bel;have bE:(i:Int)<(n:Int):=by omega
 have bF:(0:Int)<=(i:Int):=by omega
 cases am
 case' let1|ret1=>have a2:(0:Int)<(m:Int):=by omega
 case' let1 hX=>have u:=aq (hX _ R.ks)
 case' ret1 hX=>have u:=aq (hX _ R.ks)
 case' iff hX=>unfold jf at hX
 case' set c _ hm _ hX hZ=>
  obtain⟨p,rfl⟩:=R.ks.ptr;have u:=aq (hX (M (O p) c b) (R.ks.take c (by omega)));have bo:=aq (hZ (M (O (p.add c)) (m-c) (b-c)) (R.ks.drop c _ (by omega) (by omega)));have ao:¬b=0:=by omega
  have ap:(c:Int)<=(b:Int):=by omega
  have bw:(c:Int)<=(m:Int):=by omega
  have bx:¬b=c:=by omega
  have bA:(0:Int)<=(c:Int):=by omega
 case' fr y _ _ e _ _ hX _=>
  obtain⟨p,rfl⟩:=R.ks.ptr;have u:=aq (hX (M (O p) y b) (R.ks.take y (by omega)));have ao:¬b=0:=by omega
  have ap:(y:Int)<=(b:Int):=by omega
  clear hX;obtain⟨e,rfl,rfl|rfl⟩|⟨e,rfl,rfl⟩:=e
 case' bod e _ _ _=>
  obtain⟨e,rfl⟩|⟨e,⟨av,rfl⟩|⟨av,rfl⟩⟩:=e;all_goals first|have L:=kqs e.out|have L:(N.op==1)=false:=by simpa using e
  all_goals try have a2:(0:Int)<(o:Int):=by omega
 all_goals
  try simp only[ay]at x
  try (have l:=R.ks.ptr;obtain⟨p,rfl⟩:=l)
  try (have l:=R.nm.ptr;obtain⟨b2,rfl⟩:=l)
  try have br:Hid (Wr g (M (O k) n q) tab 31 #[pW g,M _ o r] (cC N.nm)):=fun z A h x=>acJ g _ _ N.nm z tab A h R.nm (by omega) x
  have d:=aq R;try have b3:=kqf (by with_reducible assumption:Hid (N.k=_)).out
  try have bs:=kqs (by with_reducible assumption:Hid (N.k=_)).out
  try (have l:=ad.symm.trans (by with_reducible assumption:N.ks.length=_);subst l)
  try (have l:=af.symm.trans (by with_reducible assumption:N.nm.length=_);subst l)
  obtain⟨C,E,F,G,H,t,I,J,K⟩:=a.cells
  (try have bd:=a.kid0 d.ks (by with_reducible assumption))
  (try have bf:=a.kid d.ks (j:=1) (by with_reducible assumption) (by decide))
  (try have bh:=a.kid d.ks (j:=2) (by with_reducible assumption) (by decide))
  (try have bk:=a.kid d.ks (j:=3) (by with_reducible assumption) (by decide))
  (try rw[(by with_reducible assumption:Hid (N.n=_)).out]at t)
  try have b4:=a.name0 d.nm (by with_reducible assumption)
  clear h R al ar a1 bn bl;try unfold jf
  go_in
  repeat (go_wp2_with fail;refine Bx.stp a (ah _ _) (by with_reducible first|exact aq (CE _)|assumption) a0 (by(try simp only[ay]);omega) ?_;intro A a;have a:=aq a;clear C E F G H t I J K;(try clear a3 a4 a5 a6 a7 a8 a9 ba bb z0);obtain⟨C,E,F,G,H,t,I,J,K⟩:=a.cells;(try have bd:=a.kid0 d.ks (by with_reducible assumption));(try have bf:=a.kid d.ks (j:=1) (by with_reducible assumption) (by decide));(try have bh:=a.kid d.ks (j:=2) (by with_reducible assumption) (by decide));(try have bk:=a.kid d.ks (j:=3) (by with_reducible assumption) (by decide));(try rw[(by with_reducible assumption:Hid (N.n=_)).out]at t))
  go_wp2_with fail;first|go_end0|refine aI (dJ rfl _ _ _) rfl ?_
  exact Bx.fin a (by simp only[bq,ByteArray.empty_append])
section
variable (w0 : World) (vt : Value) (t : Nat)
inductive ExO (n i:Nat) (ns:List Nd) (N:Nd) (vn vk:Value):FuncId->Array Value->ByteArray->Prop
 |par {Y:ByteArray}{least:Int}:iD N.k N.op<least->Hid (WE w0 vt t i Y)->ExO n i ns N vn vk 33 #[pW w0,.int .i64 (i:Int),.int .i64 least] (⟨#[40]⟩++Y++⟨#[41]⟩)
 |inf {S Y:ByteArray}{least:Int}:Hid (N.k=28)/\S=⟨#[32,97,110,100,32]⟩\/Hid (N.k=29)/\S=⟨#[32,111,114,32]⟩->¬iD N.k N.op<least->Hid (Wr w0 vt t 100 #[pW w0,jf N vn vk,.string S,.int .i64 (iD N.k N.op)] Y)->ExO n i ns N vn vk 33 #[pW w0,.int .i64 (i:Int),.int .i64 least] (Y)
 |nod {f:FuncId}{Y:ByteArray}{least:Int}:Hid (N.k=30)/\f=102\/Hid (N.k=35)/\f=104\/(20<=N.k/\N.k<=27)/\f=105->¬iD N.k N.op<least->Hid (Wr w0 vt t f #[pW w0,jf N vn vk] Y)->ExO n i ns N vn vk 33 #[pW w0,.int .i64 (i:Int),.int .i64 least] (Y)
 |idx {Y E:ByteArray}{q r:Nat}{least:Int}:Hid (N.k=32)->¬iD N.k N.op<least->N.ks.length=2->N.ks[0]?=some (q:Int)->N.ks[1]?=some (r:Int)->Hid (WA w0 vt t q Y)->Hid (WE w0 vt t r E)->ExO n i ns N vn vk 33 #[pW w0,.int .i64 (i:Int),.int .i64 least] (Y++⟨#[91]⟩++E++⟨#[93]⟩)
 |fld {Y:ByteArray}{q:Nat}{least:Int}:Hid (N.k=33)->¬iD N.k N.op<least->N.ks.length=1->N.ks[0]?=some (q:Int)->Hid (WA w0 vt t q Y)->ExO n i ns N vn vk 33 #[pW w0,.int .i64 (i:Int),.int .i64 least] (Y++(⟨#[46]⟩++N.x))
 |cal {Y X:ByteArray}{q:Nat}{least:Int}:Hid (N.k=34)->¬iD N.k N.op<least->0<N.ks.length->N.ks[0]?=some (q:Int)->Hid (WA w0 vt t q Y)->Hid (WX w0 vt t (N.ks.drop 1) X)->ExO n i ns N vn vk 33 #[pW w0,.int .i64 (i:Int),.int .i64 least] (Y++⟨#[40]⟩++X++⟨#[41]⟩)
 |fn {Y:ByteArray}{least:Int}:Hid (N.k=36)->¬iD N.k N.op<least->Hid (WD w0 vt t i Y)->ExO n i ns N vn vk 33 #[pW w0,.int .i64 (i:Int),.int .i64 least] (⟨#[102,110]⟩++Y)
 |one {E:ByteArray}{q:Nat}{least:Int}:Hid (N.k=37)->¬iD N.k N.op<least->N.ks.length=1->N.ks[0]?=some (q:Int)->Hid (WE w0 vt t q E)->ExO n i ns N vn vk 33 #[pW w0,.int .i64 (i:Int),.int .i64 least] (⟨#[40]⟩++E++⟨#[41]⟩)
 |un {A E:ByteArray}{q:Nat}:Hid (N.op=21)/\A=⟨#[110,111,116,32]⟩\/Hid (N.op=22)/\A=⟨#[35]⟩\/Hid (N.op=20)/\A=⟨#[126]⟩->N.ks.length=1->N.ks[0]?=some (q:Int)->Hid (Wr w0 vt t 33 #[pW w0,.int .i64 (q:Int),.int .i64 11] E)->ExO n i ns N vn vk 102 #[pW w0,jf N vn vk] (A++E)
end
theorem ag0{l:Ax}{h:Addr}{n C:Nat}{m:List Nd}(ap:fs l (M (O h) n C) m)(av:CF l h m)(a3:m.length=n)(bE:n<=1048576){tab i:Nat}(bw:i<n){N:Nd}(bD:N.ks.length<=1048576)(J:N.k=31->1<=N.op/\N.op<=18){A z:Option Addr}{y E c g:Nat}(R:NdR l h i N A y E z c g){f:FuncId}{args:Array U}{I:ByteArray}(ar:ExO l (M (O h) n C) tab n i m N (M A y E) (M z c g) f args I):
  Wr l (M (O h) n C) tab f args I:=by
 intro bo bk e a1;have a2:=e.lt;obtain⟨z0,bl,bn⟩:=e.cells;have ao:=R.hL;have br:=R.cap;have a:=aq (Bx.new e N (M A y E) (M z c g));obtain⟨a5,a6,a7,a8,a9,ba,bb,bc,bd,_,_⟩:=R.rd bk e.bel;have bx:(i:Int)<(n:Int):=by omega
 have bA:(0:Int)<=(i:Int):=by omega
 have H:=aq fun bh bf=>zH N bh bf J;unfold jf at H;clear J;cases ar
 case' inf b _ hX=>obtain⟨b,rfl⟩|⟨b,rfl⟩:=b
 case' nod b _ hX=>obtain⟨b,rfl⟩|⟨b,rfl⟩|⟨b,rfl⟩:=b
 case' un b _ _ _=>obtain⟨b,rfl⟩|⟨b,rfl⟩|⟨b,rfl⟩:=b
 case' cal F _ _ _ _ hX=>
  obtain⟨o,rfl⟩:=R.ks.ptr;have bt:(1:Int)<=(c:Int):=by omega
  have bs:1<=c:=by omega
  have bF:(0:Int)<(c:Int):=by omega
  by_cases a0:g=1
  case' pos=>
   subst a0;obtain rfl:c=1:=by omega
   have ad:=aq (hX (M (O o) 0 0) (.inl ⟨by rw[List.drop_eq_nil_iff];omega,_,_,rfl⟩))
  case' neg=>have ad:=aq (hX (M (O ⟨o.block,o.off+1,Q⟩) (c-1) (g-1)) (R.ks.drop 1 _ (by omega) (by omega)))
 all_goals
  generalize a4:iD N.k N.op=b0 at *;clear a4;try unfold jf at *
  try simp only[ay]at a1
  try (have G:=R.ks.ptr;obtain⟨o,rfl⟩:=G)
  have d:=aq R;first|have F:=kqf (by with_reducible assumption:Hid (N.k=_)).out;have am:=kqs (by with_reducible assumption:Hid (N.k=_)).out|have F:=kqf (by with_reducible assumption:Hid (N.op=_)).out;have am:=kqs (by with_reducible assumption:Hid (N.op=_)).out|have F:∀B:Int,28<=B->(N.k==B)=false:=fun B e=>by simp;omega|skip
  try (have G:=ao.symm.trans (by with_reducible assumption:N.ks.length=_);subst G)
  obtain⟨p,q,r,s,t,u,v,w,x⟩:=a.cells
  (try have K:=a.kid0 d.ks (by with_reducible assumption))
  (try have L:=a.kid d.ks (j:=1) (by with_reducible assumption) (by decide))
  clear e R ap av a3 bn bl;go_in
  repeat (go_wp2_with fail;(first|(go_at_call 99;refine bv (H _ _ _) fun af al=>?_;have a:=aq (a.below al);clear p q r s t u v w x;obtain⟨p,q,r,s,t,u,v,w,x⟩:=a.cells;(try have K:=a.kid0 d.ks (by with_reducible assumption));(try have L:=a.kid d.ks (j:=1) (by with_reducible assumption) (by decide)))|(refine Bx.stp a (ah _ _) (by with_reducible first|exact aq (CE _)|assumption) a2 (by(try simp only[ay]);omega) ?_;intro af a;have a:=aq a;clear p q r s t u v w x;(try clear a5 a6 a7 a8 a9 ba bb bc bd z0);obtain⟨p,q,r,s,t,u,v,w,x⟩:=a.cells;(try have K:=a.kid0 d.ks (by with_reducible assumption));(try have L:=a.kid d.ks (j:=1) (by with_reducible assumption) (by decide)))))
  go_wp2_with fail;first|go_end0|refine aI (dJ rfl _ _ _) rfl ?_
  exact Bx.fin a (by simp only[bq,ByteArray.empty_append])
def EnW(d:Ax)(c:U)(t:Nat)(X:Nd)(b:ByteArray):Prop:=
 (X.k=41/\X.ks.length=2/\∃(q r:Nat) (a e:ByteArray),X.ks[0]?=O (q:Int)/\X.ks[1]?=O (r:Int)/\Hid (WE d c t q a)/\Hid (WE d c t r e)/\b=⟨#[91]⟩++a++⟨#[93,32,61,32]⟩++e)
  \/(X.ks.length=1/\∃(q:Nat) (a:ByteArray),X.ks[0]?=O (q:Int)/\Hid (WE d c t q a)/\(X.k=42/\b=⟨#[46]⟩++X.x++⟨#[32,61,32]⟩++a\/(X.k≠41/\X.k≠42)/\b=a))
theorem adK{m:Addr}{q:Nat}{b:List Nd}(H:fs w0 (M (O m) n q) b)(I:CF w0 m b)(cv:b.length=n)(ct:n<=1048576){E:Int->ByteArray}{tab:Nat}{vn vk:U}(t:dw w0 vk N.ks)(bd:N.ks.length<=1048576)
  (G:∀z∈N.ks,∃k:Nat,z=(k:Int)/\k<b.length/\EnW w0 (M (O m) n q) tab (ae b k) (Ay b E (ae b k))):Wr w0 (M (O m) n q) tab 104 #[pW w0,jf N vn vk] (afx b E N):=by
 intro w bn x A;obtain⟨av,a4,rfl⟩:=t.form;obtain⟨d,s⟩:=az N.ks.length;rw[s]at t bd⊢;have bh:=x.lt;have a:=aq (Bx.new x N vn (M av d a4));unfold afx at A⊢;obtain⟨c,u⟩:∃c,(N.ks.map fun k=>Ay b E (ae b k))=c:=⟨_,rfl⟩;rw[u]at A⊢;have J:c.length=d:=by rw[<-u,cj];exact s
 simp only[ay]at A;have cc:(⟨#[123]⟩:ByteArray).size=1:=rfl;have cf:dL.size=2:=rfl;have C:=gI H I;have h:=Ig t G s u J;clear x H I t G s u J;unfold jf;go_in;go_wp2_with fail;refine Bx.stp a (ah _ _) (CE _) bh (by omega) ?_;intro ar a;have a:=aq a;have a3:=a.cells.2.2.2.2.2.2.2.2;go_wp2_with fail;go_loopw [12] (fun B wr=>∃k:Nat,k<=d/\B= A0 A2 k/\Hid (Pr w0 (M (O m) n q) (w++⟨#[123]⟩++cC (c.take k)) tab wr/\Kq w0.heap.size bn wr)) (fun B _=>d-(intOf B).toNat)
 case atStart=>exact⟨0,by omega,rfl,by rw[show w++⟨#[123]⟩++cC (c.take 0)=w++⟨#[123]⟩ from ByteArray.append_empty];exact a.pr,a.kq⟩
 case round=>
  clear a3 a;obtain⟨k,cm,rfl,g⟩:=hrel;by_cases bb:k<d
  ·obtain⟨z,v⟩:=cy h.2.2.1 bb;obtain⟨f,rfl,K,bk⟩:=h.2.1 z (cH v);obtain⟨cb,rfl,cg⟩:=(h.1.below g.1.bel).get v;have cr:(k:Int)<(d:Int):=by omega
   have cq:(0:Int)<=(k:Int):=by omega
   have l:=oE c k (Ay b E (ae b f)) (by rw[<-h.out.2.2.2.1,ce,v];rfl);have r:=Bf c (k+1);have cx:(f:Int)<(n:Int):=by omega
   have cw:(0:Int)<=(f:Int):=by omega
   obtain⟨a2,ao,a6,a0,am,a5,i⟩:=yl C.1 C.2 K;generalize ae b f=p at *;generalize Ay b E p=b7 at *;obtain⟨b9,y⟩:=az (cC (c.take (k+1)));rw[y]at l r;have al:=aq y;clear y v;rcases qd k with h0|h0
   case' inl=>
    rw[ab h0]at l;have bc:¬(0:Int)<(k:Int):=by omega
    clear h0;have P:=g
   case' inr=>
    rw[aa (by omega)]at l;have bc:(0:Int)<(k:Int):=by omega
    subst l;simp only[ay]at r;go_wp2_with fail;refine(eL w0 _ _ dL tab _ g.1 (by simp only[ay];omega)).mono ?_;rintro a7 c8 ⟨rfl,ad,L⟩;have P:=gI ad (g.2.trans L);clear ad L
   all_goals
    try subst l
    try simp only[ay]at r
    have ba:=i.hL;obtain⟨z0,b3,b4⟩:=P.1.cells;have bf:=P.1.lt;obtain⟨cz,cB,cF,cI,c0,c2,c3,c4,c5,_,_⟩:=i.rd _ P.1.bel;have a:=aq (Bx.new P.1 p (M a2 ao a6) (M a0 am a5));rcases bk with⟨e,F,f,c7,E,b5,a8,ch,ap,b6,rfl⟩|⟨F,f,E,a8,ap,⟨e,rfl⟩|⟨e,rfl⟩⟩;all_goals
     try simp only[ay]at r
     obtain⟨c6,rfl⟩:=i.ks.ptr;obtain rfl:=ba.symm.trans F;have o:=aq i;first|have a9:=kqs e;have f:=kqf e|have a9:(p.k==41)=false:=by simpa using e.1
     try have cl:(p.k==42)=false:=by simpa using e.2
     clear e;obtain⟨bo,br,bs,bt,bw,bx,bA,bD,bE⟩:=a.cells
     (try have bF:=a.kid0 o.ks (by with_reducible assumption))
     (try have b0:=a.kid o.ks (j:=1) (by with_reducible assumption) (by decide))
     clear i b4 b3 K
     repeat (go_wp2_with fail;refine Bx.stp a (by first|exact ah _ _|exact cK _ _) (by with_reducible first|exact aq (CE _)|assumption) bf (by simp only[ay];omega) ?_;intro ar a;have a:=aq a;obtain⟨bo,br,bs,bt,bw,bx,bA,bD,bE⟩:=a.cells;(try have bF:=a.kid0 o.ks (by with_reducible assumption));(try have b0:=a.kid o.ks (j:=1) (by with_reducible assumption) (by decide)))
     go_wp2_with fail;exact⟨⟨k+1,by omega,by go_num,by rw[al.out];have:=a.pr;simpa only[bq] using this,P.2.trans a.kq⟩,by simp[intOf];omega⟩
  ·obtain rfl:k=d:=by omega
   go_wp2_with fail;refine(eL w0 _ _ ⟨#[125]⟩ _ _ g.1 (by have:=Bf c k;simp only[ay];omega)).mono ?_;rintro a7 c9 ⟨rfl,af,bl⟩;go_wp2_with fail;go_end0
   refine⟨rfl,?_,g.2.trans bl⟩;rw[cA (by rw[h.out.2.2.2.2];exact ag _)]at af;rw[<-bq,<-bq];exact af
theorem Sq.new{W:Ax}{b d:Nat}{e:Array U}{fr:Nat×Nat}(f:W.heap[b]?=O (A5 e 67 fr))(l:TkR e tk n)(m:n<=1048576){o:Obj}{c:Ax}(k:(W.alloc o).alloc (A5 #[M (O ⟨b,0,Q⟩) n d,A0 A2 0,M Q 0 0] 83)=c):Hid (Sq ⟨W.heap.size,W.heap.size+1,b,d,n,tk⟩ c Q [] c 0 [] .nil [] [] []):=by
 obtain⟨q,i,j,r⟩:=DB k;have:=ai f;have p:=(j.block _ this).trans f;have h:c.heap[W.heap.size+1]?=O (pC ⟨W.heap.size,W.heap.size+1,b,d,n,tk⟩ ((0:Nat):Int) (M Q 0 0)):=i;refine⟨⟨by show W.heap.size<=W.heap.size+1;omega,by show W.heap.size+1<_;omega,by show b<_;omega,m⟩,⟨e,fr,p,l⟩,⟨_,h,dr _ _ _ _⟩,⟨fun s a=>?_,fun g a=>(by cases a)⟩,fun t a=>(by cases a),Ac.nil _ _,rfl,ah _ _,fun _ _ _ _=>rfl,fun g a=>(by cases a),uD,fun g a=>(by cases a),.nil⟩;have:=(nbI h).1 a;simp[Value.ownBlock]at this
theorem ajA(s:ByteArray)(W:Ax)(w y n j:Nat)(tk:Nat->Tk)(bf:Array U)(fr:Nat×Nat)(bt:W.heap[w]?=O (.cells bf 67 fr))(bh:TkR bf tk n)(ca:n<=1048576)(c5:s.size<=1048576){R:Fo}(hS:CL ⟨W.heap.size,W.heap.size+1,w,y,n,tk⟩ 27 #[pV ⟨W.heap.size,W.heap.size+1,w,y,n,tk⟩,.int .i64 6] 0 R j)(c1:R.sz<=40000000):
  Calls Tryz.prog 11 #[.string s,.slice (O ⟨w,0,Q⟩) n y] W fun e w'=>∃v a8,e= .returned (.agg #[v])/\Lw w' W.heap.size v a8/\a8.map Mb.N=(one ⟨1,0,(s.size:Nat),1,0,0,⟨#[]⟩,[],[]⟩ R).flat 0/\Below W.heap.size W w':=by
 obtain⟨cx,a3⟩:=az ((W.alloc (.cells #[.slice Q 0 0] 26)).alloc (.cells #[.slice (O ⟨w,0,Q⟩) n y,.int .i64 0,.slice Q 0 0] 83));have S:=Sq.new (tk:=tk) bt bh ca a3;obtain⟨m,B⟩:∃m:Pe,(⟨W.heap.size,W.heap.size+1,w,y,n,tk⟩:Pe)=m:=⟨_,rfl⟩;rw[B]at S hS;have G:Hid (m.pb=W.heap.size+1):=by rw[<-B];rfl
 have bn:Hid (m.base=W.heap.size):=by rw[<-B];rfl
 rw[show pV m= .pointer (O ⟨W.heap.size+1,0,Q⟩) by rw[<-B]]at hS;obtain⟨bF, -,bc,cb⟩:=DB a3;have a7:=gI bF bc;have ba:=Sq.box (cs:=#[.int .i64 1,.int .i64 0,.int .i64 (s.size:Nat),.int .i64 1,.int .i64 0,.int .i64 0,.string ⟨#[]⟩,s0,s0]) (t:=45) S;rw[cb]at ba;clear bF bc bt bh S B;go_in;go_wp2_with fail;refine Sq.cq ba hS (by simp;omega) ?_;clear a3;rintro c9 _ a9 ad _ ⟨c,d,rfl,rfl⟩ S;have cr:=Sq.rd S;obtain⟨g,b9⟩:=az ad.length;rw[b9]at S⊢;replace S:=Sq.set (q:=8) (u:= .slice c g d) S;clear hS;go_wp2_with fail;clear cr;generalize World.setCell _ _ _=b at S⊢;obtain⟨v,F,ar⟩:=S.row;obtain⟨x,z,rfl⟩:=bI ar;have a1:=F;rw[G.out]at F;have ao:b.cell? ⟨W.heap.size+1,2,Q⟩=O (.slice x a9.length z):=by rw[au _ _ _ _ _ _ F];rfl
 obtain⟨k,bs⟩:=az a9.length;rw[bs]at ao F ar a1;have a4:b.heap[W.heap.size+1+1]?=O (.cells #[.int .i64 1,.int .i64 0,.int .i64 (s.size:Nat),.int .i64 1,.int .i64 0,.int .i64 0,.string ⟨#[]⟩,.slice Q 0 0,.slice c g d] 45 (0,0)):=Sq.hd S;refine wp_region_held_drew (S:=fun al=>al.heap[W.heap.size+1+1]?=O (.cells #[.int .i64 1,.int .i64 0,.int .i64 (s.size:Nat),.int .i64 1,.int .i64 0,.int .i64 0,.string ⟨#[]⟩,.slice Q 0 0,.slice c g d] 45 (0,0))) (by kernel_rfl) a4 (fun l=>?_);simp only[gj,bB,dl,Nat.reduceAdd,gD,iw,ix,dt,ej];refine bG 0 (.pointer (O ⟨W.heap.size+1,0,Q⟩)) rfl rfl (by kernel_rfl) (fun _ _ _=>id) l (fun w' p=>by go_simp) ?_;simp only[List.set];refine bG 1 (.pointer (O ⟨W.heap.size+1,0,Q⟩)) rfl rfl (by kernel_rfl) (fun _ _ _=>id) l (fun w' p=>by go_simp) ?_;simp only[List.set];refine bG 2 (.pointer (O ⟨W.heap.size+1,0,Q⟩)) rfl rfl (by kernel_rfl) (fun _ _ _=>id) l (fun w' p=>by go_simp) ?_;simp only[List.set];refine bG 3 (.pointer (O ⟨W.heap.size+1,2,Q⟩)) rfl rfl (by kernel_rfl) (fun _ _ _=>id) l (fun w' p=>by go_simp) ?_;simp only[List.set];refine fC 5 21 (.agg #[.int .i64 1,.int .i64 0,.int .i64 (s.size:Nat),.int .i64 1,.int .i64 0,.int .i64 0,.string ⟨#[]⟩,.slice Q 0 0,.slice c g d]) rfl rfl (by kernel_rfl) (by kernel_rfl) (by kernel_rfl) (fun _ _ _ a2=>a2) (by rfl) l (fun w' p=>by have dk:=cd (N:=⟨1,0,(s.size:Nat),1,0,0,⟨#[]⟩,[],ad⟩) (vn:= .slice Q 0 0) (vk:= .slice c g d) p;go_simp) ?_;simp only[Act.put,aD,aE,aF];have b8:=ao;refine re (S:=fun al=>al.cell? ⟨W.heap.size+1,2,Q⟩=O (.slice x k z)) (C:=fun j=>!(j==7||j==8||j==9||j==10)) (i:=4) (v:= .slice x k z) rfl (xn (by kernel_rfl)) (fun _ _ _ a2=>a2) ?hC _ _ _ _ (xo rfl (by kernel_rfl)) (List.contains_iff_mem.1 (by kernel_rfl)) (Or.inl ⟨by rfl,fun w' p=>by go_simp⟩) l b8 ?_
 case hC=>
  intro j c6 br f;simp only[Bool.not_eq_false',xu,ja]at f;rcases f with((rfl|rfl)|rfl)|rfl
  ·obtain rfl:=bp br;exact⟨{on:=4,ground:=Ground.data},by simp,rfl,rfl⟩
  all_goals
   obtain rfl:=bp br;exact⟨{on:=4,ground:=Ground.phase},by simp,rfl,rfl⟩
 simp only[Act.put,aD,aE,aF];refine dC (i:=6) (by kernel_rfl) rfl (fun h a=>?_);go_simp;have an:∀bx,Below b.heap.size b (b.drew.alloc bx):=fun bx=>(aw (ah _ _)).alloc (by simp) _;refine a _ _ (((an _).block _ (ai a4)).trans a4) (fun _=>aj (an _) ao) ?_;clear a h l an;try simp only[aD,aE,aF]
 have E:=aw (cK b (.cells #[.int .i64 1,.int .i64 0,.int .i64 (s.size:Nat),.int .i64 1,.int .i64 0,.int .i64 0,.string ⟨#[]⟩,.slice Q 0 0,.slice c g d] 45));have b0:(b.alloc (.cells #[.int .i64 1,.int .i64 0,.int .i64 (s.size:Nat),.int .i64 1,.int .i64 0,.int .i64 0,.string ⟨#[]⟩,.slice Q 0 0,.slice c g d] 45)).drew.heap[b.heap.size]?=_:=aA b _;generalize World.drew (World.alloc _ _)=b4 at E b0⊢;have bE:=Sq.below S E;have cm:=(E.block _ (ai a1)).trans a1;have c3:=bE.low;have c2:k<=40000000:=by have q:=Sq.ln S;simp only[dl,Fo.sz_app,Fo.sz]at q;omega
 obtain⟨cc,cf,cg,ch,cl⟩:=du Gn;refine dC (i:=7) (by kernel_rfl) rfl (fun h a=>?_);refine step_append_lies _ (by rfl) _ _ 24 (by rfl) m.base 45 cc _ 9 112 Tryz.underlying24 cf cg ch cl rfl (by decide) (.slice x k z) k _ (by rfl) (cJ ar E) ⟨b.heap.size,0,Q⟩ 1 1 (LD ⟨1,0,(s.size:Nat),1,0,0,⟨#[]⟩,[],ad⟩ s0 (.slice c g d)).toList (by rfl) rfl (World.news_of_block b0) (by intro u bw;simp at bw;rcases bw with rfl|rfl|rfl|rfl|rfl|rfl|rfl|rfl|rfl<;>rfl) (by decide) (by unfold maxLen;omega) (by omega) (by omega) b4.heap.size rfl ?_;intro a0 ap a6 bA bo bk c4;obtain⟨K,I⟩:=bE.push cm (by rw[bs]) ⟨⟨1,0,(s.size:Nat),1,0,0,⟨#[]⟩,[],ad⟩,s0,.slice c g d⟩ (by rw[Cc];exact bA) bo bk (.inl ⟨rfl,rfl⟩) (.inr (.head _)) rfl;rw[G.out]at K I;have b1:_=O (Obj.cells #[.int .i64 1,.int .i64 0,.int .i64 (s.size:Nat),.int .i64 1,.int .i64 0,.int .i64 0,.string ⟨#[]⟩,.slice Q 0 0,.slice c g d] 45 (0,0)):=Sq.hd K;have af:=b1;rw[aB _ _ _ _ (by show W.heap.size+1+1≠W.heap.size+1;omega)]at af;have cz:a6.cell? ⟨W.heap.size+1,2,Q⟩=O (.slice x k z):=by rw[au _ _ _ _ _ _ I];rfl
 have c0:a6.frozen? ⟨W.heap.size+1,2,Q⟩=false:=co _ _ _ _ _ I;have J:=bz a6 (W.heap.size+1) 2 _ _ (.slice (O ⟨a0,0,Q⟩) (k+1) ap) I;have o:=aq K;clear K bA bo bk;refine a _ _ af (fun f=>by cases f) ?_;clear a h;simp only[Act.put,aD,aE,aF];refine dC (i:=8) (by kernel_rfl) rfl (fun h a=>?_);go_simp;refine a _ _ af (fun f=>by cases f) ?_;clear a h;try simp only[aD,aE,aF]
 refine dC (i:=9) (by kernel_rfl) rfl (fun h a=>?_);go_simp;refine a _ _ af (fun f=>by cases f) ?_;clear a h;try simp only[aD,aE,aF]
 refine dC (i:=10) (by kernel_rfl) rfl (fun h a=>?_);go_simp;refine a _ _ b1 (fun f=>by cases f) ?_;clear a h;refine uc (by kernel_rfl) ?_ _;generalize World.setCell _ _ _=am at o J⊢;have cB:am.cell? ⟨W.heap.size+1,2,Q⟩=O (.slice (O ⟨a0,0,Q⟩) (k+1) ap):=by rw[au _ _ _ _ _ _ J];rfl
 have r:=(o.fz W.heap.size (by omega) (by rw[G.out];omega) (by simp)).trans a7.out.1;have cF:am.cell? ⟨W.heap.size,0,Q⟩=O (.slice Q 0 0):=by rw[au _ _ _ _ _ _ r];rfl
 have cI:am.frozen? ⟨W.heap.size,0,Q⟩=false:=co _ _ _ _ _ r;have b2:=aq J;clear J;go_wp2_with fail;obtain⟨cn,bD,a5⟩:=o.row;rw[G.out]at bD;obtain rfl:cn= .slice (O ⟨a0,0,Q⟩) (k+1) ap:=by have e:=b2.out;rw[bD]at e;simp at e;exact e
 obtain⟨cw,b5,b7,_⟩:=o.ac;rw[bn.out]at a5;have A:=o.each;have bd:=o.bl;rw[bn.out]at bd A;exact aI (eu rfl _ _ W.heap.size _ _ _ _ rfl (bz _ _ 0 _ _ _ r) Tryz.underlying26 rfl (by kernel_rfl)) rfl ⟨_,rfl,_,⟨Bi a5 (jw a5 r (by decide)) 0 _,fun L H=>⟨Bi (A L H).1 (jw (A L H).1 r (by decide)) 0 _,Bi (A L H).2 (jw (A L H).2 r (by decide)) 0 _⟩⟩,by rw[b5,dt,b7];rfl,a7.out.2.trans (bd.setCell (ag _) _)⟩
def xj(z:Int):Prop:= -9223372036854775808<=z/\z<=9223372036854775807
theorem nG(z:Int)(a:0<=z)(b:z<=1000000):xj z:=⟨by omega,by omega⟩
theorem akp(s:ByteArray)(p:Nat):xj (rdI s p).n:=by
 have a:xj 0:=nG _ (by decide) (by decide);unfold rdI;split
 ·exact a
 split
 ·split
  ·show xj (vC s p).2.1;unfold vC;split
   ·show xj (wrap64 _);unfold wrap64 xj;omega
   ·split
    ·rename_i c b;split at b
     ·cases b
     ·have:=aeE _ _ _ _ b;exact⟨by show _<=(c:Int);omega,by show(c:Int)<=_;omega⟩
    ·exact a
  ·exact a
 split
 ·split<;>exact a
 split<;>exact a
