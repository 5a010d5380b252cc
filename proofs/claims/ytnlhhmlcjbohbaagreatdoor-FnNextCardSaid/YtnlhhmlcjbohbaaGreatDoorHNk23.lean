import Derived.Test.YtnlhhmlcjbohbaaGreatDoorHNk19
import Derived.Test.YtnlhhmlcjbohbaaGreatDoorHNk20
import Derived.Test.YtnlhhmlcjbohbaaGreatDoorHNk21
import Derived.Test.YtnlhhmlcjbohbaaGreatDoorHNk18
set_option linter.all false
set_option maxRecDepth 100000
set_option maxHeartbeats 6400000
open Go renaming undef->M,World->A9,wpAnyH_ready->B0,Value->B1,grownBy_putObj'->B6,KeepsFrom->Ce
open Option renaming some->O,none->U
open Go.World renaming putObj_heap_other->X,setCell->B4
open Go.RowKit renaming Below->Y
open Bool renaming false->Z,true->A2
open List renaming set->Ax
open Go.AllReadyH renaming cons->A0,nil->Br
open Go.Obj renaming cells->A5
open Go.Proofs.Tryz renaming prog->B3
open Go.Value renaming int->B7,slice->Ck,ownBlock->Cr,tuple->C2,agg->C4
namespace Go.Proofs.YtnlhhmlcjbohbaaGreatDoor
open Go.RowKit Go.Maps Go.WideMaps
variable{B b base gb i j mg n p r tv:Nat}{I:Nat->Int->World->Prop}{W W' w:World}{cs:Array Value}{fr:Nat×Nat}{l:Int}{ns:List ByteArray}{out ts:List Tk}{s:ByteArray}{st st':List Int}{t:TypeId}
inductive Fd:List Int->List Tk->List Int->Prop where
 |nil {st:List Int}:Fd st [] st
 |cons {st:List Int}{T:Tk}{ts:List Tk}{st':List Int}:1<=T.k->T.k<=78->T.k≠6->(feedL st T.k).2=true->Fd (feedL st T.k).1 ts st'->Fd st (T::ts) st'
theorem abh(V:Array B1)(base:Int)(r:ByteArray)(b:40<=base):∀(f i:Nat)(a:Int×Nat),a.1≠6->(xz V base r f i a).1≠6
 |0,i,a,h=>h
 |f+1,i,a,h=>by
  unfold xz;refine abh V base r b f (i+1) _ ?_;split
  ·show base+(i:Int)≠6;omega
  ·exact h
theorem ak9(s:ByteArray)(p:Nat)(h:(rdI s p).ok=A2):oI s p≠6:=by
 unfold oI;rw[ab h];unfold rdI at h⊢;split
 ·simp only;unfold zH;cases hf:wg eu (s.extract p (mi s (s.size+1) p)) 22 0 with
  |none=>simp
  |some e=>simp only;omega
 split
 ·split
  ·simp only;unfold qz;split
   ·simp
   ·split<;>simp
  ·rename_i a b c;rw[aa a,ab b,aa c]at h;cases h
 split
 ·split
  ·simp
  ·rename_i a b c d;rw[aa a,aa b,ab c,aa d]at h;cases h
 split
 ·rename_i a b c d;rw[aa a,aa b,aa c,ab d]at h;cases h
 ·simp only;unfold na;split
  ·omega
  split
  ·omega
  ·exact abh _ _ _ (by omega) _ _ _ (abh _ _ _ (by omega) _ _ _ (by simp))
theorem Ed(s:ByteArray):∀(f:Nat)(st:List Int)(p:Nat)(l:Int)(out:List Tk)(b:List Tk)(c:List Int),ov s f st p l out=(b,c, -1)->∃ts d,b=out++ts++[⟨6,(s.size:Nat),(s.size:Nat),d,0,⟨#[]⟩⟩]/\Fd st ts c
 |0,st,p,l,out,b,c,h=>by simp[ov]at h
 |f+1,st,p,l,out,b,c,h=>by
  rw[ov]at h;split at h
  ·simp only[gD]at h;exact⟨[],l,by rw[eo];exact h.1.symm,by rw[<-h.2.1];exact .nil⟩
  split at h
  ·split at h
   ·rename_i g;obtain⟨ts,d,e,i⟩:=Ed s f _ _ _ _ b c h;exact⟨⟨5,(p:Nat),((rdI s p).a:Nat),l,(rdI s p).n,(rdI s p).x⟩::ts,d,by rw[e];simp,.cons (by show(1:Int)<=5;omega) (by show(5:Int)<=78;omega) (by show(5:Int)≠6;omega) g i⟩
   ·exact Ed s f _ _ _ _ b c h
  split at h
  ·rename_i m g;split at h
   ·rename_i j;obtain⟨q,r⟩:=KD s p j;have o:oI s p=(rdI s p).k:=by unfold oI;rw[ab j]
    rw[show wF st (oI s p)=feedL st (oI s p) by unfold wF;rw[ab (by omega)]]at g;obtain⟨ts,d,e,i⟩:=Ed s f _ _ _ _ b c h;exact⟨⟨oI s p,(p:Nat),((rdI s p).a:Nat),l,(rdI s p).n,(rdI s p).x⟩::ts,d,by rw[e];simp,.cons (by show 1<=oI s p;omega) (by show oI s p<=78;omega) (ak9 s p j) g i⟩
   ·simp only[gD]at h;omega
  ·simp only[gD]at h;omega
theorem ams(h:Fd st ts st'):∀{T:Tk},T∈ts->1<=T.k/\T.k<=78/\T.k≠6:=by
 induction h with
 |nil=>intro T hT;cases hT
 |cons a b c e f d=>
  intro T hT;rcases List.mem_cons.1 hT with rfl|hT
  ·exact⟨a,b,c⟩
  ·exact d hT
def zTk:Tk:=⟨0,0,0,0,0,⟨#[]⟩⟩
def zJ(ts:List Tk)(q:Nat):Tk:=ts.getD q zTk
theorem IA{q:Nat}{T:Tk}(h:ts[q]?=O T):zJ ts q=T:=by unfold zJ;rw[aK,h];rfl
def Fo.all(p:Nd->Prop):Fo->Prop
 | .nil=>True
 | .cons N k r=>p N/\k.all p/\r.all p
theorem zw(p:Nd->Prop):∀(a b:Fo),(a.app b).all p↔a.all p/\b.all p
 | .nil,b=>by simp[Fo.app,Fo.all]
 | .cons N k r,b=>by simp only[Fo.app,Fo.all,zw p r b,and_assoc]
theorem jE(p:Nd->Prop)(N:Nd)(k:Fo):(one N k).all p↔p N/\k.all p:=by simp[one,Fo.all]
def Gd(tk:Nat->Tk)(n:Nat)(N:Nd):Prop:=(N.x=z0\/∃a,N.x=(tk a).x)/\N.nm.length<=n/\∀b∈N.nm,∃a,b=(tk a).x
def aqh(tk:Nat->Tk)(n:Nat):A8->Prop
 | .more _ _ x=>x.all (Gd tk n)
 | .post _ B=>B.all (Gd tk n)
 |_=>True
section
variable {tk : Nat → Tk} {n : Nat}
theorem gd0(k:Int)(s:Tk)(e op m:Int):Gd tk n (nd k s e op m z0 []):=⟨.inl rfl,aF _,fun b a=>by cases a⟩
theorem gdx(k:Int)(s:Tk)(e op m:Int)(q:Nat):Gd tk n (nd k s e op m (tk q).x []):=⟨.inr ⟨q,rfl⟩,aF _,fun x a=>by cases a⟩
theorem gd1(h:0<n)(k:Int)(s:Tk)(e op m:Int)(q:Nat):Gd tk n (nd k s e op m z0 [(tk q).x]):=⟨.inl rfl,h,fun x a=>⟨q,List.mem_singleton.1 a⟩⟩
theorem gdb(k:Int)(s:Tk)(e:Int):Gd tk n (He k s e):=by unfold He;split;exact gd0 ..;split;exact gd0 ..;exact gd0 ..
theorem gdh(N:Nd)(ks:Fo)(s:Tk)(e:Int)(h:Gd tk n N)(a:ks.all (Gd tk n)):(qi N ks s e).all (Gd tk n):=by
 unfold qi;split
 ·rw[jE,jE];exact⟨gd0 ..,h,a⟩
 ·rw[jE];exact⟨h,a⟩
theorem ej.gd(h:ej tk n i ns j):i+2*ns.length<=j/\j<n/\∀x∈ns,∃q,x=(tk q).x:=by
 induction h with
 |stop c a=>exact⟨by simp,a,fun x hx=>by cases hx⟩
 |go c a d _ b=>
  refine⟨by simp;omega,b.2.1,fun x hx=>?_⟩;rcases List.mem_cons.1 hx with rfl|hx
  ·exact⟨_,rfl⟩
  ·exact b.2.2 x hx
theorem Prm.gd{r:Bool}(h:Prm tk n i ns r j):i+ns.length<=j/\j<=n/\∀x∈ns,∃q,x=(tk q).x:=by
 induction h with
 |close a b=>exact⟨by simp,by omega,fun x hx=>by cases hx⟩
 |rest a b c=>exact⟨by simp,by omega,fun x hx=>by cases hx⟩
 |last a b c=>exact⟨by simp,by omega,fun x hx=>⟨_,List.mem_singleton.1 hx⟩⟩
 |go a b c _ d=>
  refine⟨by simp;omega,d.2.1,fun x hx=>?_⟩;rcases List.mem_cons.1 hx with rfl|hx
  ·exact⟨_,rfl⟩
  ·exact d.2.2 x hx
theorem gdn{q:Nat}(h:ej tk n i ns j)(k:Int)(s:Tk)(e op m:Int):Gd tk n (nd k s e op m z0 ((tk q).x::ns)):=by
 obtain⟨b,c,a⟩:=h.gd;refine⟨.inl rfl,by show ns.length+1<=n;omega,fun x hx=>?_⟩;rcases List.mem_cons.1 hx with rfl|hx
 ·exact⟨_,rfl⟩
 ·exact a x hx
theorem P.gd{t:A8}{a:Fo}(h:P tk n t i a j):aqh tk n t->a.all (Gd tk n):=by
 induction h
 case tlet0 h1 h2 h3 h4 h5=>intro _;rw[jE];exact⟨gdn h4 ..,trivial⟩
 case tlet h1 h2 h3 h4 h5 h6 ih=>intro _;rw[jE];exact⟨gdn h4 ..,ih trivial⟩
 case tfor h1 h2 h3 h4 h5 h6 h7 i1 i2=>intro _;rw[jE,zw];exact⟨gdn h4 ..,i1 trivial,i2 trivial⟩
 case teach h1 h2 h3 h4 h5 h6 h7 h8 h9 i1 i2=>intro _;rw[jE,zw];exact⟨gdn h4 ..,i1 trivial,i2 trivial⟩
 case ttry h1 h2 h3 h4 h5 h6 h7 h8 i1 i2=>intro _;rw[jE,zw];exact⟨gdn h7 ..,i1 trivial,i2 trivial⟩
 case body nm r B h1 h2 h3 h4 ih=>intro _;rw[jE];exact⟨⟨.inl rfl,by have:=h3.gd;show nm.length<=n;omega,h3.gd.2.2⟩,ih trivial⟩
 case bopen h1 h2 h3 h4 h5 h6 i1 i2=>intro _;have:=i1 trivial;rw[jE]at this;exact i2 (gdh _ _ _ _ this.1 this.2)
 case tcon h1 h2 h3 h4 h5 ih=>intro _;rw[jE];exact⟨gd1 (by omega) ..,ih trivial⟩
 case tfn h1 h2 h3 h4 h5 ih=>intro _;rw[jE];exact⟨gd1 (by omega) ..,ih trivial⟩
 all_goals
  intro b
  simp_all only[jE,zw,aqh,Fo.all,gdx,gd0,lg,gdb,and_self,true_implies,forall_const]
end
def Fo.nms:Fo->Nat
 | .nil=>0
 | .cons N k r=>N.nm.length+k.nms+r.nms
theorem rz:∀(a b:Fo),(a.app b).nms=a.nms+b.nms
 | .nil,b=>by simp[Fo.app,Fo.nms]
 | .cons N k r,b=>by simp only[Fo.app,Fo.nms,rz r b];omega
theorem pz(N:Nd)(k:Fo):(one N k).nms=N.nm.length+k.nms:=by simp[one,Fo.nms]
theorem ahy(N:Nd)(ks:Fo)(s:Tk)(e:Int):(qi N ks s e).nms=(one N ks).nms:=by
 unfold qi;split
 ·rw[pz];simp[lg,nd]
 ·rfl
theorem Ee(k:Int)(s:Tk)(e op m:Int)(x:ByteArray)(nm:List ByteArray):(nd k s e op m x nm).nm=nm:=rfl
theorem aoj(k:Int)(s:Tk)(e:Int):(He k s e).nm=[]:=by unfold He;split;rfl;split<;>rfl
def IB:A8->Nat
 | .more _ _ x=>x.nms
 | .post _ B=>B.nms
 |_=>0
theorem P.nms{tk:Nat->Tk}{t:A8}{a:Fo}(h:P tk n t i a j):a.nms+i<=IB t+j:=by
 induction h
 case tlet0 h1 h2 h3 h4 h5=>have:=h4.gd;simp only[pz,rz,IB,Ee,Fo.nms,bi]at *;omega
 case tlet h1 h2 h3 h4 h5 h6 ih=>have:=h4.gd;simp only[pz,rz,IB,Ee,Fo.nms,bi]at *;omega
 case tfor h1 h2 h3 h4 h5 h6 h7 i1 i2=>have:=h4.gd;simp only[pz,rz,IB,Ee,Fo.nms,bi]at *;omega
 case teach h1 h2 h3 h4 h5 h6 h7 h8 h9 i1 i2=>have:=h4.gd;simp only[pz,rz,IB,Ee,Fo.nms,bi]at *;omega
 case ttry h1 h2 h3 h4 h5 h6 h7 h8 i1 i2=>have:=h7.gd;simp only[pz,rz,IB,Ee,Fo.nms,bi]at *;omega
 case body h1 h2 h3 h4 ih=>have:=h3.gd;simp only[pz,rz,IB,Ee,Fo.nms,bi]at *;omega
 all_goals
  simp only[pz,rz,ahy,IB,lg,Ee,aoj,Fo.nms,bi,dH]at *;omega
theorem Ef:∀(R:Fo)(K b:Nat),cnt K (R.flat b)+R.len=K+8*R.sz+R.nms
 | .nil,K,b=>by simp[Fo.flat,cnt,Fo.len,Fo.sz,Fo.nms]
 | .cons N k r,K,b=>by
  have c:=Ef k K b;have d:=Ef r (nxt (cnt K (k.flat b)) {N with ks:=k.tops b}) (b+k.sz+1);have e:=k.tops_len b;rw[Fo.flat,afH,cnt];have a:nxt (cnt K (k.flat b)) {N with ks:=k.tops b}=cnt K (k.flat b)+7+N.nm.length+(k.tops b).length:=rfl;simp only[Fo.len,Fo.sz,Fo.nms];omega
theorem aqi(s:ByteArray)(p:Nat)(e:p<s.size):(rdI s p).x.size<=s.size:=by
 have c:∀a b,(s.extract a b).size<=s.size:=fun a b=>by rw[ik];omega
 unfold rdI;split
 ·show(zH s p).2.size<=_;unfold zH;split
  ·exact aF _
  ·exact c _ _
 split
 ·split
  ·show(qz s p).2.2.size<=_;unfold qz;split
   ·exact aF _
   split
   ·exact aF _
   ·exact c _ _
  ·exact aF _
 split
 ·split
  ·show(ey _).size<=_;have d:=(sa s (s.size+1) (p+1) [] e).2.2;rw[rL];simp at d;omega
  ·exact aF _
 split
 ·exact aF _
 ·exact aF _
theorem ac8(s:ByteArray):∀(f:Nat)(st:List Int)(p:Nat)(l:Int)(out:List Tk),(∀T∈out,T.x.size<=s.size)->∀T∈(ov s f st p l out).1,T.x.size<=s.size
 |0,st,p,l,out,h=>fun T hT=>by cases hT
 |f+1,st,p,l,out,h=>by
  have b:∀(a:Tk),a.x.size<=s.size->∀T∈out++[a],T.x.size<=s.size:=fun a d T hT=>by
   rcases List.mem_append.1 hT with hT|hT
   ·exact h T hT
   ·rw[List.mem_singleton.1 hT];exact d
  rw[ov];split
  ·exact b _ (aF _)
  ·rename_i e;have c:=aqi s p (by omega);split
   ·split
    ·exact ac8 s f _ _ _ _ (b _ c)
    ·exact ac8 s f _ _ _ _ h
   ·split
    ·split
     ·exact ac8 s f _ _ _ _ (b _ c)
     ·exact fun T hT=>by cases hT
    ·exact fun T hT=>by cases hT
theorem ac9(s:ByteArray):∀(f:Nat)(st:List Int)(p:Nat)(l:Int)(out:List Tk),p<=s.size->(ov s f st p l out).1.length<=out.length+(s.size-p)+1
 |0,st,p,l,out,h=>aF _
 |f+1,st,p,l,out,h=>by
  rw[ov];split
  ·simp
  ·rename_i i;have c:∀q,q<=s.size->q<=blk s (s.size+1) q/\blk s (s.size+1) q<=s.size:=fun q g=>jm s (s.size+1) q g;split
   ·rename_i d;have b:=iA s p (by omega) (KE s p d).1;have:=c _ b.2.1;split
    ·have:=ac9 s f (feedL st 5).1 (blk s (s.size+1) (rdI s p).a) (l+1) (out++[⟨5,(p:Nat),((rdI s p).a:Nat),l,(rdI s p).n,(rdI s p).x⟩]) (by omega);simp only[aB,yj]at this;omega
    ·have:=ac9 s f st (blk s (s.size+1) (rdI s p).a) (l+1) out (by omega);omega
   ·split
    ·split
     ·rename_i e;have b:=iA s p (by omega) e;have:=c _ b.2.1;have:=ac9 s f (feedL st (oI s p)).1 (blk s (s.size+1) (rdI s p).a) l (out++[⟨oI s p,(p:Nat),((rdI s p).a:Nat),l,(rdI s p).n,(rdI s p).x⟩]) (by omega);simp only[aB,yj]at this;omega
     ·exact aF _
    ·exact aF _
theorem IC(p:Nd->Prop)(c:∀(N:Nd) (ks:List Int),p N->p {N with ks:=ks}):∀(R:Fo)(b:Nat),R.all p->∀N∈R.flat b,p N/\N.ks.length<=R.sz
 | .nil,b,h=>fun N hN=>by cases hN
 | .cons e k r,b,h=>fun N hN=>by
  have f:=k.len_le;have g:=k.tops_len b;rw[Fo.flat,vG,pd]at hN;rcases hN with hN|rfl|hN
  ·obtain⟨a,d⟩:=IC p c k b h.2.1 N hN;exact⟨a,by rw[Fo.sz];omega⟩
  ·exact⟨c _ _ h.1,by rw[Fo.sz];show(k.tops b).length<=_;omega⟩
  ·obtain⟨a,d⟩:=IC p c r _ h.2.2 N hN;exact⟨a,by rw[Fo.sz];omega⟩
def E0(s:ByteArray)(a:Fo):List Nd:=(one ⟨1,0,(s.size:Nat),1,0,0,⟨#[]⟩,[],[]⟩ a).flat 0
structure PF (s:ByteArray) (toks:List Tk) (m:Nat) (R:Fo) (lz:Int):Prop where
 len:toks.length=m+1
 le:m<=s.size
 p:P (zJ toks) (m+1) .stats 0 R m
 k78:∀q,(zJ toks q).k<=78
 k6:∀q,q<m->(zJ toks q).k≠6
 end_:zJ toks m=⟨6,(s.size:Nat),(s.size:Nat),lz,0,⟨#[]⟩⟩
 sz:R.sz<=200000
 sm:∀N∈E0 s R,jC N
 ct:cnt 1 (E0 s R)<=2000000
theorem aqj(B:s.size<=65536){toks:List Tk}(h:gL s=(toks,st, -1)){m:Nat}{b:Fo}{l:Int}(p:toks.length=m+1)(r:zJ toks m=⟨6,(s.size:Nat),(s.size:Nat),l,0,⟨#[]⟩⟩)(e:P (zJ toks) (m+1) .stats 0 b m)(t:∀q,q<m->(zJ toks q).k≠6):PF s toks m b l:=by
 obtain⟨J,I,a,x⟩:=Ed s _ _ _ _ _ toks st h;rw[ep]at a;have G:=jm s (s.size+1) 0 (aF _);have j:=ac9 s (s.size+1) [100,6] (blk s (s.size+1) 0) 1 [] (by omega);have c:=ac8 s (s.size+1) [100,6] (blk s (s.size+1) 0) 1 [] (fun d w=>by cases w);have C:ov s (s.size+1) [100,6] (blk s (s.size+1) 0) 1 []=(toks,st, -1):=h;rw[C]at j c;simp only[dH]at j;have A:=e.pos;simp only[lj,slk,bas]at A;have z:=e.nms;have u:=e.gd trivial;have i:(one ⟨1,0,(s.size:Nat),1,0,0,⟨#[]⟩,[],[]⟩ b:Fo).sz=b.sz+1:=de _ _;have n:∀q,(zJ toks q).x.size<=65536:=fun q=>by
  unfold zJ;rw[aK];cases hq:toks[q]? with
  |none=>exact aF _
  |some d=>exact bg (c d (cG hq)) B
 have E:∀q,(zJ toks q).k<=78:=fun q=>by
  unfold zJ;rw[aK];cases hq:toks[q]? with
  |none=>show(0:Int)<=78;decide
  |some d=>
   have:=cG hq;rw[a,vG,List.mem_singleton]at this;rcases this with g|g
   ·have:=ams x g;show d.k<=78;omega
   ·rw[g];show(6:Int)<=78;decide
 refine⟨p,by omega,e,E,t,r,by omega,fun f v=>?_,?_⟩
 ·obtain⟨g,y⟩:=IC (Gd (zJ toks) (m+1)) (fun f H h=>h) _ 0 ((jE _ _ b).2 ⟨⟨.inl rfl,aF _,fun o c=>by cases c⟩,u⟩) f v;rw[i]at y;refine⟨by have:=g.2.1;omega,by omega,?_,fun o c=>?_⟩
  ·rcases g.1 with a|⟨q,a⟩
   ·rw[a];exact aF _
   ·rw[a];have:=n q;omega
  ·obtain⟨q,a⟩:=g.2.2 o c;rw[a];have:=n q;omega
 ·have:=Ef (one ⟨1,0,(s.size:Nat),1,0,0,⟨#[]⟩,[],[]⟩ b) 1 0;rw[i,pz]at this;simp only[IB]at z;have F:([]:List ByteArray).length=0:=rfl;unfold E0;show cnt 1 (Fo.flat (one ⟨1,0,(s.size:Nat),1,0,0,⟨#[]⟩,[],[]⟩ b) 0)<=_;simp only[dH]at this;omega
theorem ID:∀(ts:List Tk)(q i:Nat)(T:Tk),ts[q]?=O T->i<6->(ul ts)[q*6+i]?=(cTk T)[i]?
 |[],q,i,T,h,b=>by simp at h
 |a::r,0,i,T,h,b=>by
  simp at h;subst h;show(cTk a++ul r)[0*6+i]?=_;rw[ia (by show 0*6+i<6;omega),Nat.zero_mul,gq]
 |a::r,q+1,i,T,h,b=>by
  show(cTk a++ul r)[(q+1)*6+i]?=_;rw[fy (by show 6<=_;omega),show(q+1)*6+i-(cTk a).length=q*6+i by show _-6=_;omega];exact ID r q i T (by simpa using h) b
theorem aok{c:Array B1}{tk:Nat->Tk}(h:c.toList.take (n*6)=ul ts)(j:ts.length=n)(g:∀q T,ts[q]?=O T->{T with l:=(tk q).l}=tk q/\((tk q).k≠6->T.l=(tk q).l)):TkR c tk n:=by
 intro q m;have d:=aE (show q<ts.length by omega);obtain⟨e,f⟩:=g q _ d;generalize ts[q]=T at d e f;have a:∀b,b<6->c[q*6+b]?=(cTk T)[b]?:=fun b i=>by rw[<-ID ts q b T d i,<-h,mu,ab (by omega),vC]
 refine⟨T.l,?_,?_,?_,a 3 (by omega),?_,?_,f⟩;all_goals rw[<-e]
 ·exact a 0 (by omega)
 ·exact a 1 (by omega)
 ·exact a 2 (by omega)
 ·exact a 4 (by omega)
 ·exact a 5 (by omega)
def jt(s:ByteArray):List Tk×Int:=if 0<=(gL s).2.2 then([],(gL s).2.2) else if(feedL (gL s).2.1 6).2=A2 then((gL s).1, -1) else([],(s.size:Nat))
def TkP(s:ByteArray)(w:A9)(e:Ending)(c:A9):Prop:=∃a b,e= .returned (C2 #[Ck a (jt s).1.length b,B7 .i64 (jt s).2])/\c.ownsRow w.heap.size 49 6 (Ck a (jt s).1.length b) (jt s).1.length (ul (jt s).1)/\Y w.heap.size w c
theorem zx(w:A9)(s:ByteArray)(ao:s.size<=65536):Calls B3 12 #[.string s] w (TkP s w):=by
 have x:uF (w.alloc (A5 #[Ck U 0 0] 60)) w.heap.size w.heap.size []:=⟨⟨_,ay w _,cE _ _ _ _⟩,ae _⟩;have b:=D1 _ w.heap.size w.heap.size s x (by omega);have l:Hid (Y w.heap.size w (w.alloc (A5 #[Ck U 0 0] 60))):=bG w _;have e:Hid (jt s=if 0<=(gL s).2.2 then([],(gL s).2.2) else if(feedL (gL s).2.1 6).2=A2 then((gL s).1, -1) else([],(s.size:Nat))):=rfl;obtain⟨⟨m,n,A⟩,p⟩:∃E,gL s=E:=⟨_,rfl⟩;rw[p]at b e;unfold D0 at b;simp only at b e;obtain⟨ap,f⟩:=aA m.length;rw[f]at b;clear p x;go_in;go_wp2_with fail;generalize w.alloc (A5 #[Ck U 0 0] 60)=ak at b l⊢;refine b.mono ?_;rintro a z ⟨F,I,af,B,rfl,i,h,k,j,G,al,am⟩;have r:Y w.heap.size w z:=l.out.trans (G.mono (ae _));clear b;by_cases o:0<=A
 ·have a:=e.out;rw[ab o]at a;have c:=aw a;clear i h k j a f;go_wp2_with fail;go_ret2;exact(show TkP _ _ _ _ from⟨U,0,by rw[c.out];rfl,by rw[c.out];exact cE _ _ _ _,r⟩)
 ·have a:=e.out;rw[aa o]at a;have g:=ze z w.heap.size w.heap.size B n af 6 h k j (by decide) (by decide) (by omega);unfold uG at g;obtain⟨av,u,_⟩:=h.ex;have d:=iF i u f;obtain⟨J,t⟩:=aA ((feedL n 6).2);rw[t]at g a;have c:=aw a;clear a i h k j f u t;go_wp2_with fail;refine g.mono ?_;rintro a ag ⟨ar,D,rfl,L,ad,an,v,H⟩;have q:Y w.heap.size w ag:=r.trans (H.mono (ae _));have y:=v.row d.2.1 d.1 (by decide) (by decide);have C:=aw y;clear g L ad v y;cases J with
  |true=>
   go_wp2_with fail;go_ret2;have a:=c.out;rw[ab trivial]at a;have K:(jt s).1=m:=by rw[a]
   exact(show TkP _ _ _ _ from⟨F,I,by rw[a];simp only[d.out.2.2];rfl,by rw[K,d.out.2.2];exact C,q⟩)
  |false=>
   go_wp2_with fail;go_ret2;have a:=c.out;rw[aa (by simp)]at a;exact(show TkP _ _ _ _ from⟨U,0,by rw[a];rfl,by rw[a];exact cE _ _ _ _,q⟩)
theorem row3{a b c:B1}(h:w.heap[r]?=O (A5 #[a,b,c] t (0,0))):w.cell? ⟨r,0,U⟩=O a/\w.cell? ⟨r,1,U⟩=O b/\w.cell? ⟨r,2,U⟩=O c/\∀j,w.frozen? ⟨r,j,U⟩=Z:=
 ⟨by rw[au _ _ _ _ _ _ h];rfl,by rw[au _ _ _ _ _ _ h];rfl,by rw[au _ _ _ _ _ _ h];rfl,fun j=>bI _ _ _ _ _ h⟩
theorem set3{d e f:B1}(h:w.heap[r]?=O (A5 #[d,e,f] t (0,0)))(a b c:B1):(((w.setCell ⟨r,0,U⟩ a).setCell ⟨r,1,U⟩ b).setCell ⟨r,2,U⟩ c).heap[r]?=O (A5 #[a,b,c] t (0,0)):=
 aL _ r 2 _ _ _ (aL _ r 1 _ _ _ (aL _ r 0 _ _ _ h))
theorem aqk{k:Nat}(h:k≠r)(a b c:B1):(((w.setCell ⟨r,0,U⟩ a).setCell ⟨r,1,U⟩ b).setCell ⟨r,2,U⟩ c).heap[k]?=w.heap[k]?:=
 (aC _ _ _ _ h).trans ((aC _ _ _ _ h).trans (aC _ _ _ _ h))
theorem ahz{a:A9}(h:Y r a w)(b c f:B1):Y r a (((w.setCell ⟨r,0,U⟩ b).setCell ⟨r,1,U⟩ c).setCell ⟨r,2,U⟩ f):=by
 have d:Y r a (w.setCell ⟨r,0,U⟩ b):=h.setCell (ae _) _;have e:Y r a ((w.setCell ⟨r,0,U⟩ b).setCell ⟨r,1,U⟩ c):=d.setCell (ae _) _;exact e.setCell (ae _) _
def psV(c a:Int)(v:B1):B1:= C4 #[B7 .i64 c,B7 .i64 a,v]
def okC(ns:List Nd):Int:=if(dL ns).1=0 then 0 else 2
def okN(ns:List Nd):List Nd:=if(dL ns).1=0 then ns else []
structure lG (s:ByteArray) (R:List Tk×List Int×Int) (st stk:List Int) (p:Nat) (l:Int) (out:List Tk) (f:Nat):Prop where
 sim:EJ st stk
 wk:arC s f stk (blk s (s.size+1) p) l out R
 fu:s.size<blk s (s.size+1) p+f
 len:st.length<=45*p+2
 l0:0<=l
 l1:l<=(p:Int)+1
 le:p<=s.size
 ol:out.length<=p
 n23:N23 stk
theorem lG.move{a:List Tk×List Int×Int}{c:List Int}{q:Nat}{f:Nat}(h:lG s a st c p l out f)(b:blk s (s.size+1) p=blk s (s.size+1) q)(e:p<=q)(d:q<=s.size):lG s a st c q l out f:=
 ⟨h.sim,by rw[<-b];exact h.wk,by rw[<-b];exact h.fu,by have:=h.len;omega,h.l0,by have:=h.l1;omega,d,by have:=h.ol;omega,h.n23⟩
theorem lG.step{s:ByteArray}{i:List Tk×List Int×Int}{st b:List Int}{p:Nat}{l:Int}{c:List Tk}{f:Nat}(h:lG s i st b p l c f)(d:ry s p):∃g,f=g+1/\s.size<p+1+g/\
  (if oI s p=7 then
   (if(feedL b 5).2=A2 then ov s g (feedL b 5).1 (blk s (s.size+1) (rdI s p).a) (l+1) (c++[⟨5,(p:Nat),((rdI s p).a:Nat),l,(rdI s p).n,(rdI s p).x⟩]) else ov s g b (blk s (s.size+1) (rdI s p).a) (l+1) c)
  else if(wF b (oI s p)).2=A2 then
   (if(rdI s p).ok=A2 then ov s g (feedL b (oI s p)).1 (blk s (s.size+1) (rdI s p).a) l (c++[⟨oI s p,(p:Nat),((rdI s p).a:Nat),l,(rdI s p).n,(rdI s p).x⟩]) else([],b,((rdI s p).a:Nat)))
  else([],b,(wrongF s p (pu b):Nat)))=i:=by
 have j:=zb s p d.nb d.nd;have k:=h.fu;have e:=h.wk.out;rw[j]at k e;have m:=d.lt;obtain⟨g,rfl⟩:∃g,f=g+1:=⟨f-1,by omega⟩;rw[ov,aa (by omega)]at e;exact⟨g,rfl,by omega,e⟩
theorem ahA(h:(rdI s p).ok=A2):(rdI s p).d=if(rdI s p).k=7 then 1 else 0:=by
 unfold rdI at h⊢;split
 ·simp only;unfold zH;cases hf:wg eu (s.extract p (mi s (s.size+1) p)) 22 0 with
  |none=>simp
  |some k=>simp only;rw[aa (by omega)]
 split
 ·split
  ·simp only;unfold qz;split
   ·simp
   ·split<;>simp
  ·rename_i a b c;rw[aa a,ab b,aa c]at h;cases h
 split
 ·split
  ·simp
  ·rename_i a b c e;rw[aa a,aa b,ab c,aa e]at h;cases h
 split
 ·rename_i a b c e;rw[aa a,aa b,aa c,ab e]at h;cases h
 ·rfl
theorem IE(h:(rdI s p).ok=A2):oI s p=(rdI s p).k:=by unfold oI;rw[ab h]
section
variable {s : ByteArray} {R : List Tk × List Int × Int} {st stk : List Int} {p : Nat} {l : Int} {out : List Tk} {f : Nat}
theorem lG.next(h:lG s R st stk p l out f)(m:ry s p)(j:(rdI s p).ok=A2){b:List Int}{c:List Tk}{g:Nat}(y:s.size<p+1+g)(k:EJ st' b)(z:st'.length<=st.length+45)(A:c.length<=out.length+1)(i:N23 b)
  (n:ov s g b (blk s (s.size+1) (rdI s p).a) (l+(rdI s p).d) c=R):lG s R st' b (rdI s p).a (l+(rdI s p).d) c g:=by
 obtain⟨o,e,q,r⟩:=iA s p m.lt j;have x:=jm s (s.size+1) (rdI s p).a e;have t:=h.len;have u:=h.l0;have v:=h.l1;have w:=h.ol;exact⟨k,⟨n⟩,by omega,by omega,by omega,by omega,e,by omega,i⟩
theorem lG.sep(h:lG s R st stk p l out f)(i:ry s p)(b:(rdI s p).ok=A2)(e:(rdI s p).k=7)(q:iB st 5=A2){c:List Int}(r:EJ c (feedL stk 5).1)(o:c.length<=st.length+45):
  ∃g,lG s R c (feedL stk 5).1 (rdI s p).a (l+(rdI s p).d) (out++[⟨5,(p:Nat),((rdI s p).a:Nat),l,(rdI s p).n,(rdI s p).x⟩]) g:=by
 obtain⟨g,rfl,m,j⟩:=h.step i;rw[IE b,ab e,ab (by rw[<-h.sim.may (by decide) (by decide)];exact q)]at j;exact⟨g,h.next i b m r o (by simp) (aay (by decide) (by decide) stk h.sim.o2 h.n23) (by rw[ahA b,ab e];exact j)⟩
theorem lG.skip(h:lG s R st stk p l out f)(e:ry s p)(b:(rdI s p).ok=A2)(c:(rdI s p).k=7)(m:iB st 5=Z):∃g,lG s R st stk (rdI s p).a (l+(rdI s p).d) out g:=by
 obtain⟨g,rfl,j,i⟩:=h.step e;rw[IE b,ab c,aa (by rw[<-h.sim.may (by decide) (by decide),m];simp)]at i;exact⟨g,h.next e b j h.sim (by omega) (by omega) h.n23 (by rw[ahA b,ab c];exact i)⟩
theorem Lg{k:Int}(a:1<=k)(st:List Int):wF st k=feedL st k:=by unfold wF;rw[ab (by omega)]
theorem lG.tok(h:lG s R st stk p l out f)(j:ry s p)(b:(rdI s p).ok=A2)(i:(rdI s p).k≠7)(t:iB st (rdI s p).k=A2){e:List Int}(u:EJ e (feedL stk (rdI s p).k).1)(r:e.length<=st.length+45):
  ∃g,lG s R e (feedL stk (rdI s p).k).1 (rdI s p).a (l+(rdI s p).d) (out++[⟨(rdI s p).k,(p:Nat),((rdI s p).a:Nat),l,(rdI s p).n,(rdI s p).x⟩]) g:=by
 obtain⟨g,rfl,q,m⟩:=h.step j;obtain⟨c,o⟩:=KD s p b;rw[IE b,aa i,Lg c,ab (by rw[<-h.sim.may c o];exact t),ab b]at m;exact⟨g,h.next j b q u r (by simp) (aay c o stk h.sim.o2 h.n23) (by rw[ahA b,aa i,Int.add_zero];exact m)⟩
theorem lG.stop(h:lG s R st stk p l out f)(g:ry s p)(a:(rdI s p).ok=A2)(d:(rdI s p).k≠7)(e:iB st (rdI s p).k=Z):R.2.2=(wrongF s p (pu stk):Nat):=by
 obtain⟨j,rfl,m,b⟩:=h.step g;obtain⟨c,i⟩:=KD s p a;rw[IE a,aa d,Lg c,aa (by rw[<-h.sim.may c i,e];simp)]at b;rw[<-b]
theorem lG.bad(h:lG s R st stk p l out f)(e:ry s p)(b:(rdI s p).ok=Z):0<=R.2.2:=by
 obtain⟨g,rfl,i,a⟩:=h.step e;have d:¬oI s p=7:=fun c=>by have:=KE s p c;rw[b]at this;cases this.1
 rw[aa d]at a;split at a
 ·rw[aa (by rw[b];simp)]at a;rw[<-a];simp
 ·rw[<-a];simp
theorem lG.fin(h:lG s R st stk s.size l out f):R=(out++[⟨6,(s.size:Nat),(s.size:Nat),l,0,⟨#[]⟩⟩],stk, -1):=by
 have c:=wo s s.size (ae _);have d:=h.fu;have a:=h.wk.out;rw[c]at d a;obtain⟨b,rfl⟩:∃b,f=b+1:=⟨f-1,by omega⟩;rw[ov,ab (ae _)]at a;exact a.symm
end
theorem lG.begin(s:ByteArray):lG s (gL s) [100,6] [100,6] 0 1 [] (s.size+1):=
 ⟨ad7,⟨rfl⟩,by omega,by simp,by omega,by omega,aF _,by simp,by intro b a;simp at a;omega⟩
structure IF (s:ByteArray) (R:List Tk×List Int×Int) (z:Int):Prop where
 bad:0<=R.2.2
 ex:∃(p:Nat) (st stk:List Int) (l:Int) (out:List Tk) (f:Nat),ry s p/\lG s R st stk p l out f/\z=(p:Int)+(xL st (s.extract p (rdI s p).a):Nat)/\((rdI s p).ok=A2->(rdI s p).k≠7/\iB st (rdI s p).k=Z)
def okO(o:Obj):Prop:=(∃b a,o= .map b a)\/(∃cs t fr,o= A5 cs t fr/\t≠100)
def qr(W c:A9):Prop:=∀(b:Nat)(a:Obj),okO a->W.heap[b]?=O a->c.heap[b]?=O a
theorem qr.cells(h:qr W W'){k:Nat}(a:W.heap[k]?=O (A5 cs t fr))(b:t≠100):W'.heap[k]?=O (A5 cs t fr):=h k _ (.inr ⟨_,_,_,rfl,b⟩) a
theorem qr.row(h:qr W W'){e size:Nat}{v:B1}{b:List B1}(a:W.ownsRow base e size v n b)(i:e≠100):W'.ownsRow base e size v n b:=by
 refine⟨a.1,?_⟩;rcases a.2 with g|⟨f,c,d,j,k,l,m⟩
 ·exact .inl g
 ·exact .inr ⟨f,c,d,j,k,h.cells l i,m⟩
theorem qr.of_gr(g:W.grownBy W' (O b))(j:ScX b W):qr W W':=by
 intro d q h a;obtain⟨l,o,f⟩:=j;refine(g.block d (az a) ?_).trans a;intro e;obtain rfl:d=b:=by simpa using e
 rw[f]at a;obtain rfl:=bu a;rcases h with⟨n,k,c⟩|⟨m,r,p,c,i⟩
 ·cases c
 ·cases c;exact i rfl
theorem qr.of_put{l:Nat}{r:Loop}(c:W.heap[l]?=O (.loop r))(e:Obj):qr W (W.putObj l e):=by
 intro k m d a;refine(X ?_).trans a;rintro rfl;rw[c]at a;obtain rfl:=bu a;rcases d with⟨h,f,b⟩|⟨g,n,i,b,j⟩<;>cases b
theorem qr.of_putD{l:Nat}{q:Option (List Deferred)}(c:W.heap[l]?=O (.deferred q))(e:Obj):qr W (W.putObj l e):=by
 intro k m d a;refine(X ?_).trans a;rintro rfl;rw[c]at a;obtain rfl:=bu a;rcases d with⟨h,f,b⟩|⟨g,n,i,b,j⟩<;>cases b
theorem qr.of_below(h:Y W.heap.size W W'):qr W W':=fun b c _ a=>(h.block b (az a)).trans a
theorem GQ.kept(h:GQ W base gb mg st)(a:qr W W'):GQ W' base gb mg st:=by
 obtain⟨e,c,d⟩:=h.g.ex;exact⟨⟨⟨e,a.cells c (by decide),a.row d (by decide)⟩,h.g.lo⟩,h.r.same (fun i f b=>a _ _ (.inl ⟨_,_,rfl⟩) b) (fun k g j b=>a.cells b (by decide)),h.ok,h.len⟩
theorem GQ.same(h:GQ W base gb mg st)(b:∀(k:Nat) (o:Obj),W.heap[k]?=O o->(∀cs fr,o≠ A5 cs 49 fr)->(∀cs fr,o≠ A5 cs 27 fr)->W'.heap[k]?=O o):GQ W' base gb mg st:=by
 obtain⟨p,i,d⟩:=h.g.ex;refine⟨⟨⟨p,b _ _ i (by intro cs fr a;cases a) (by intro cs fr a;cases a),d.1,?_⟩,h.g.lo⟩,h.r.same (fun s q a=>b _ _ a (by intro cs fr a;cases a) (by intro cs fr a;cases a)) (fun c cs fr a=>b _ _ a (by intro cs fr a;cases a) (by intro cs fr a;cases a)),h.ok,h.len⟩;rcases d.2 with g|⟨c,e,f,j,l,m,n⟩
 ·exact .inl g
 ·exact .inr ⟨c,e,f,j,l,b _ _ m (by intro cs fr a;cases a) (by intro cs fr a;cases a),n⟩
structure vw (w:A9) (base gb mg tv:Nat) (s:ByteArray) (st:List Int) (out:List Tk) (W:A9):Prop where
 q:GQ W base gb mg st
 bl:Y base w W
 b0:W.heap[w.heap.size]?=O (.cells #[.pointer (O ⟨gb,0,U⟩)] 53 (0,0))
 b1:W.heap[w.heap.size+1]?=O (.cells #[.string s] 9 (0,0))
 tk:∃v,W.heap[tv]?=O (.cells #[v] 27 (0,0))/\W.ownsRow w.heap.size 49 6 v out.length (ul out)
theorem vw.kept(h:vw w base gb mg tv s st out W)(a:qr W W')(b:Y base W W'):vw w base gb mg tv s st out W':=by
 obtain⟨e,c,d⟩:=h.tk;exact⟨h.q.kept a,h.bl.trans b,a.cells h.b0 (by decide),a.cells h.b1 (by decide),⟨e,a.cells c (by decide),a.row d (by decide)⟩⟩
theorem vw.below(h:vw w base gb mg tv s st out W)(a:Y W.heap.size W W')(b:base<=W.heap.size):vw w base gb mg tv s st out W':=h.kept (.of_below a) (a.mono b)
theorem vw.turn(h:vw w base gb mg tv s st out W)(k:GQ W' base gb mg st')(a:Gp gb W W')(i:Y base W W')(r:gb<w.heap.size)(t:w.heap.size<tv):vw w base gb mg tv s st' out W':=by
 obtain⟨p,o,c⟩:=h.tk;obtain⟨u,j,_⟩:=h.q.g.ex;refine⟨k,h.bl.trans i,jI a h.b0 (by omega),jI a h.b1 (by omega),⟨p,jI a o (by omega),c.1,?_⟩⟩;rcases c.2 with g|⟨f,d,e,l,m,b,n⟩
 ·exact .inl g
 ·refine .inr ⟨f,d,e,l,m,jI a b ?_,n⟩;rintro rfl;rw[j]at b;cases b
theorem vw.setTok{d:Nat}(h:vw w base gb mg tv s st out W)(n:W.heap[d]?=O (A5 cs 49 fr))(l:∀v,W.heap[tv]?=O (A5 #[v] 27 (0,0))->v.ownBlock≠O d)(j:base<=d)(u:B1):vw w base gb mg tv s st out (W.setCell ⟨d,0,U⟩ u):=by
 have a:∀(e:Nat)(c:Obj),W.heap[e]?=O c->(∀cs fr,c≠ A5 cs 49 fr)->(W.setCell ⟨d,0,U⟩ u).heap[e]?=O c:=fun e c a m=>(aC _ _ _ _ (by rintro rfl;rw[n]at a;exact m _ _ (bu a).symm)).trans a;obtain⟨v,f,o⟩:=h.tk;refine⟨h.q.same (fun e c g i _=>a e c g i),h.bl.setCell j _,a _ _ h.b0 (by intro cs fr b;cases b),a _ _ h.b1 (by intro cs fr b;cases b),⟨v,a _ _ f (by intro cs fr b;cases b),?_⟩⟩;exact B9 o (row:=O d) ⟨rfl,rfl,rfl,by simp[B4],fun q p k=>aC _ _ _ _ (fun b=>k (by rw[b]))⟩ (.inr (l v f))
theorem Iw.turn{mb:Nat}{q j:Nat}{i g:Int}(h:Iw b mb B s I W q i p l)(c:W.heap[gb]?=O (A5 cs 94 fr))(d:Gp gb W W')(r:Y base W W')(w:12<=base)(u:I j g W'):Iw b mb B s I W' q i j g:=by
 obtain⟨o,f⟩:=h.sc;have t:b≠gb:=by rintro rfl;rw[show W.heap[b]?=_ from f]at c;cases c
 refine⟨⟨o,jI d f t⟩,?_,h.ly.blocks (fun v x=>r.block v (by omega)),u,bg h.sz d.size⟩;obtain⟨n,k,a,m⟩:=h.mp;exact⟨n,k,(d.block _ (az a) (by rintro rfl;rw[a]at c;cases c) (fun cs fr e=>by rw[a]at e;cases e)).trans a,m⟩
theorem Iw.below{mb:Nat}{q i:Nat}{g f:Int}(h:Iw b mb B s I W q g p l)(a:Y W.heap.size W W')(m:12<=B)(k:I i f W'):Iw b mb B s I W' q g i f:=by
 obtain⟨j,e⟩:=h.sc;have n:=h.sz;exact⟨⟨j,(a.block _ (az e)).trans e⟩,h.mp.kept (row:=U) ⟨a.os,a.tape,a.output,a.size,fun c d _=>a.block c d⟩ (by simp),h.ly.blocks (fun c d=>a.block c (by omega)),k,bg h.sz a.size⟩
theorem Iw.put{mb a:Nat}{q:Nat}{f:Int}{r:Loop}(h:Iw b mb B s I W q f p l)(d:W.heap[a]?=O (.loop r))(o:Obj)(t:12<=a)(n:I p l (W.putObj a o)):Iw b mb B s I (W.putObj a o) q f p l:=by
 obtain⟨k,e⟩:=h.sc;have m:b≠a:=by rintro rfl;rw[show W.heap[b]?=_ from e]at d;cases d
 obtain⟨j,g,c,i⟩:=h.mp;exact⟨⟨k,(X m).trans e⟩,⟨j,g,(X (by rintro rfl;rw[d]at c;cases c)).trans c,i⟩,h.ly.blocks (fun v u=>X (by omega)),n,by simpa using h.sz⟩
theorem abi(s:ByteArray)(p:Nat)(d:p<s.size):p<=(rdI s p).a/\(rdI s p).a<=s.size:=by
 unfold rdI;split
 ·rename_i b;have:=Cp s p b;exact⟨by simp only;omega,(tw s _ p (by omega)).2⟩
 split
 ·have:=rj s p d;split<;>(simp only;omega)
 split
 ·have:=sa s (s.size+1) (p+1) [] (by omega);split<;>(simp only;omega)
 split
 ·simp only;omega
 ·rename_i c;have e:=jp s p s.size (ae _);have:=Hn (s.extract p s.size) (by omega) c;simp only;omega
theorem aeH{fn:Func}{P:Program}{a:Ending->A9->Prop}{tmps:Array B1}{D:Nat}{b:List PanicEntry}(c:W.heap[D]?=O (.deferred (O [])))(h:a (.panicked b) (W.putObj D (.deferred U))):LeavesInM Fence.wide n P fn tmps a [{target:= .collected D,args:=#[]}] (.panicking b) W:=
 ⟨by simp,.inl ⟨_,_,rfl,run_takeDeferred c,h⟩⟩
attribute [local go_sem] kH
theorem aol(W:A9)(b:Nat)(a c d e f g:B1):W.grownBy (Cl W b a c d e f g) (O b):=by
 unfold Cl;refine ng ?_ (py _ b 5 _);refine ng ?_ (py _ b 4 _);refine ng ?_ (py _ b 3 _);refine ng ?_ (py _ b 2 _);refine ng ?_ (py _ b 1 _);exact py _ b 0 _
theorem ada:(Tryz.prog.info? 49).map (fun i=>(i.zero,i.size,i.bytes))=O (O (C4 #[B7 .i64 0,B7 .i64 0,B7 .i64 0,B7 .i64 0,B7 .i64 0,.string ⟨#[]⟩]),6,56):=by kernel_rfl
structure Ad1 (w:A9) (gb:Nat) (s:ByteArray) (b mb:Nat) (W:A9):Prop where
 bl:Y w.heap.size w W
 b0:W.heap[w.heap.size]?=O (.cells #[.pointer (O ⟨gb,0,U⟩)] 53 (0,0))
 b1:W.heap[w.heap.size+1]?=O (.cells #[.string s] 9 (0,0))
 sc:gH b W s (.map (O mb)) 0 0 1 Z
 mp:W.ownsMap B3 9 (plainElem (H:=Unit) B3 3) mb 22 (yA 22)
 lo:w.heap.size+2<=b
 ne:mb≠b
structure aom (w:A9) (base gb mb:Nat) (s:ByteArray) (R:List Tk×List Int×Int) (e:Ending) (w':A9):Prop where
 out:(∃st stk toks l v,R=(toks++[⟨6,(s.size:Nat),(s.size:Nat),l,0,⟨#[]⟩⟩],stk, -1)/\EJ st stk/\e= .returned v/\w'.ownsRow w.heap.size 49 6 v toks.length (ul toks)/\GQ w' base gb mb st/\st.length<=45*s.size+2/\toks.length<=s.size/\Y base w w')\/(∃z,IF s R z/\e= .panicked (Iy z)/\Y base w w')
theorem zy(w:A9)(base E b5:Nat)(s:ByteArray)(h:GQ w base E b5 [100,6])(h0:Fy w)(m6:s.size<=65536)(kp:12<=base):
  Calls B3 17 #[.pointer (O ⟨E,0,U⟩),.string s] w fun e C=>aom w base E b5 s (gL s) e C:=by
 obtain⟨j7,fr,ei⟩:=h0.tabs.word;have ky:E<w.heap.size:=by obtain⟨an,ag,_⟩:=h.g.ex;exact az ag
 have kE:=h.g.lo;refine Ib (n:=5) Tryz.func17 rfl ?_;simp only[Tryz.ntmps17,iI,bi,dH,Nat.reduceAdd,Nat.reduceSub,iu,kF,kG,pc,ep,eC];refine sA (fun lx mv=>sy ?_);go_wp2_with fail;generalize iv:(w.alloc _).alloc _=bf;obtain⟨iy,df,fA,i7⟩:=GI iv;clear iv;refine sA (fun hf f5=>?_);have f6:∀(b u:Nat)(ao:A9),Ad1 w E s b u ao->hf {tmps:=#[.pointer (O ⟨E,0,U⟩),.string s,.pointer (O ⟨w.heap.size,0,U⟩),.pointer (O ⟨w.heap.size+1,0,U⟩),.slice U 0 0,.pointer (O ⟨b,0,U⟩),M,M,.string s,.map (O u),.agg #[.string s,.map (O u),.int .i64 0,.int .i64 0,.int .i64 1,.bool Z],M,M,M,M,M,M,M,M,M,M,M,M,M,M,M,M,M,M,M,M,M,M,M,M,M,M,M,M,M,M,M,M,M],defers:=[]} ao:=by
  intro b u ao L;refine f5 _ _ ?_;clear f5;obtain⟨d,g1⟩:=aA ao.heap.size;have ih:=az L.sc;have m0:=L.lo;refine sA (fun lz f6=>sy ?_);go_wp2_with fail;refine sA (fun a2 F=>?_);refine sA (fun l3 mx=>sy ?_);go_wp2_with fail;refine Kn ?_;have eg:=(ah ao.heap.size ao).alloc (ae _) (.cells #[.slice U 0 0] 27 (0,0));have eh:Y w.heap.size w (ao.alloc (.cells #[.slice U 0 0] 27 (0,0))):=L.bl.alloc L.bl.size _;have e8:xA b (ao.alloc (.cells #[.slice U 0 0] 27 (0,0))) s (.map (O u)) 0 1 Z:=⟨0,(eg.block _ ih).trans L.sc⟩;have e6:=L.mp.alloc (.cells #[.slice U 0 0] 27 (0,0));have en:vw w base E b5 d s [100,6] [] (ao.alloc (.cells #[.slice U 0 0] 27 (0,0))):=
   ⟨h.below eh,eh.mono (by omega),(eg.block _ (az L.b0)).trans L.b0,(eg.block _ (az L.b1)).trans L.b1,⟨.slice U 0 0,by rw[<-g1];exact ay ao _,cE _ _ _ _⟩⟩
  have el:Fy (ao.alloc (.cells #[.slice U 0 0] 27 (0,0))):=h0.below eh (ae _);have a4:(ao.alloc (.cells #[.slice U 0 0] 27 (0,0))).heap.size=d+1:=by simp;omega
  rw[g1]at ih;generalize ao.alloc (.cells #[.slice U 0 0] 27 (0,0))=kd at e8 e6 en el a4⊢;have e7:=L.ne;clear eg eh L g1;obtain⟨cm,ge⟩:=aA (gL s);have et:=lG.begin s;rw[ge]at et;obtain⟨I,al⟩:∃I:Nat->Int->A9->Prop,I=fun p l c=>∃f z v J,lG s cm f z p l v J/\vw w base E b5 d s f v c:=⟨_,rfl⟩;have ek:Iw b u (d+1) s I kd 0 1 0 1:=⟨e8,e6,el,by rw[al];exact⟨_,_,_,_,et,en⟩,by omega⟩;have gn:∀p l c ad,I p l c->ScX b c->c.grownBy ad (O b)->I p l ad:=by
   intro p l c ad h k8 ag;rw[al]at h⊢;obtain⟨f,z,v,J,j,g⟩:=h;exact⟨f,z,v,J,j,g.kept (.of_gr ag k8) ⟨ag.os,ag.tape,ag.output,by have:=g.bl.size;have:=ag.size;have:=az g.b0;omega,fun b4 ar=>ag.block b4 (by have:=az g.b0;omega) (by simp;omega)⟩⟩
  have gd:∀p k l c,blk s (s.size+1) p=blk s (s.size+1) k->p<=k->k<=s.size->I p l c->I k l c:=by
   intro p k l c eq k3 y h;rw[al]at h⊢;obtain⟨f,z,v,J,j,g⟩:=h;exact⟨f,z,v,J,j.move eq k3 y,g⟩
  have f9:∀p l c,I p l c->0<=l/\l<=(p:Int)+1/\p<=s.size:=by
   intro p l c h;rw[al]at h;obtain⟨f,z,v,J,j,g⟩:=h;exact⟨j.l0,j.l1,j.le⟩
  have dq:∀{c:A9}{k p:Nat}{g6 l:Int}{d8:Loop}(A:Obj),Iw b u (d+1) s I c k g6 p l->c.heap[d+1+1]?=O (.loop d8)->Iw b u (d+1) s I (c.putObj (d+1+1) A) k g6 p l:=by
   intro c k p g6 l d8 A h av;refine h.put av A (by omega) ?_;have G:=h.ii;rw[al]at G⊢;obtain⟨f,z,v,J,j,g⟩:=G;refine⟨f,z,v,J,j,g.kept (.of_put av A) ?_⟩;exact(ah base c).grown (B6 c (d+1+1) A) (by have:=h.sz;omega) (fun fb e=>by cases e;omega)
  refine akq (P:=B3) (α:=Nat×Int) (n:=5) Tryz.func17 (gf:=46) (bd:=#[.pointer (O ⟨b,0,U⟩)]) rfl (enters_of Tryz.func46 (by kernel_rfl) rfl) (fun i=>#[vTk ⟨(rdI s i.1).k,(i.1:Int),((rdI s i.1).a:Int),i.2,(rdI s i.1).n,(rdI s i.1).x⟩]) (fun _=>rfl)
   (fun i c=>ry s i.1/\(rdI s i.1).ok=A2/\Iw b u (d+1) s I c (rdI s i.1).a (i.2+(rdI s i.1).d) i.1 i.2)
   (fun i c=>Iw b u (d+1) s I c (rdI s i.1).a (i.2+(rdI s i.1).d) (rdI s i.1).a (i.2+(rdI s i.1).d))
   (fun i fg c=>(ry s i.1/\(rdI s i.1).ok=A2/\Iw b u (d+1) s I c (rdI s i.1).a (i.2+(rdI s i.1).d) i.1 i.2)/\∃B,d+1<=B/\(∀an,c.heap[d]?=O (.cells #[an] 27 (0,0))->an.ownBlock≠O B)/\dE B c (rdI s i.1).k (i.1:Int) ((rdI s i.1).a:Int) i.2 (rdI s i.1).n (rdI s i.1).x/\
    fg={tmps:=#[.pointer (O ⟨E,0,U⟩),.string s,.pointer (O ⟨w.heap.size,0,U⟩),.pointer (O ⟨w.heap.size+1,0,U⟩),.slice U 0 0,.pointer (O ⟨b,0,U⟩),.pointer (O ⟨d,0,U⟩),.pointer (O ⟨B,0,U⟩),.string s,.map (O u),.agg #[.string s,.map (O u),.int .i64 0,.int .i64 0,.int .i64 1,.bool Z],.func (.func 46) #[.pointer (O ⟨b,0,U⟩)] #[],vTk ⟨(rdI s i.1).k,(i.1:Int),((rdI s i.1).a:Int),i.2,(rdI s i.1).n,(rdI s i.1).x⟩,M,M,M,M,M,M,M,M,M,M,M,M,M,M,M,M,M,M,M,M,M,M,M,M,M,M,M,M,M,M,M],defers:=[]})
   (fun c=>ac5 b u (d+1) s I c)
   (fun bA c=>∃af,IF s cm af/\bA=Iy af/\Y base w c)
   ?pZ ?pAx ?pD ?assign ?body ?seq ?done ?pan
  case pZ=>
   rintro i c d8 A h av;rw[a4]at av⊢;exact dq A h av
  case pAx=>
   rintro i fg c d8 A ⟨⟨j,g,bD⟩,B,fz,ev,hB,ko⟩ av;rw[a4]at av⊢;exact⟨⟨j,g,dq A bD av⟩,B,fz,fun an c5=>ev an ((X (by omega)).symm.trans c5),(X (by rintro rfl;have:=(show c.heap[d+1+1]?=_ from hB).symm.trans av;cases this)).trans hB,ko⟩
  case pD=>
   rintro c d8 A h av;rw[a4]at av⊢;cases h with
   |fin l h=>exact .fin l (dq A h av)
   |bad p l dk ds hS fa d7 G=>
    refine .bad p l dk ds ((X (by omega)).trans hS) (fa.blocks (fun b4 ar=>X (by omega))) (by simpa using d7) ?_;rw[al]at G⊢;obtain⟨f,z,v,J,j,g⟩:=G;refine⟨f,z,v,J,j,g.kept (.of_put av A) ?_⟩;exact(ah base c).grown (B6 c (d+1+1) A) (by omega) (fun fb e=>by cases e;omega)
  case assign=>
   rintro l ⟨p,o⟩ c lw ⟨j,g,bD⟩ f1;unfold vTk at f1⊢;simp only at j g bD f1⊢;have m:=iF j g bD;clear j g bD
   gi_wp2
   have hJ:=(ah c.heap.size c).alloc (ae _) (.cells #[.int .i64 (rdI s p).k,.int .i64 (p:Int),.int .i64 ((rdI s p).a:Int),.int .i64 o,.int .i64 (rdI s p).n,.string (rdI s p).x] 49 (0,0));refine f1 _ _ ⟨⟨m.1,m.2.1,Iw.below m.2.2 hJ (by omega) ?_⟩,c.heap.size,m.2.2.sz,fun an c5=>?_,ay c _,rfl⟩ ((KeepsOthers.alloc c _).from _);all_goals
    have G:=m.2.2.ii;have d7:=m.2.2.sz;rw[al]at G;obtain⟨f,z,v,J,j,g⟩:=G
   ·rw[al];exact⟨f,z,v,J,j,g.below hJ (by omega)⟩
   ·obtain⟨nh,ck,cl⟩:=g.tk;rw[cC c _ d (by omega),ck]at c5;cases c5;intro e;have:=(cl.lt _ e).2;omega
  case body=>
   rintro l ⟨p,o⟩ fg c ⟨⟨cf,ce,a3⟩,B,m8,ev,bj,rfl⟩;rw[a4];unfold vTk;simp only at cf ce a3 bj⊢;have G:=a3.ii;rw[al]at G;obtain⟨f,z,v,J,b3,cI⟩:=G;obtain⟨j2,j4⟩:=KD s p ce;obtain⟨lf,lq,ls,lv⟩:=iA s p cf.lt ce;have j0:=a3.sz;have b2:=fun (ar:(rdI s p).k=7) (x:iB f 5=A2) b6 (j:EJ b6 (feedL z 5).1) (g:b6.length<=f.length+45)=>b3.sep cf ce ar x j g;have cy:=fun (ar:(rdI s p).k=7) (x:iB f 5=Z)=>b3.skip cf ce ar x;have a5:=fun (ar:(rdI s p).k≠7) (x:iB f (rdI s p).k=A2) b6 (j:EJ b6 (feedL z (rdI s p).k).1) (g:b6.length<=f.length+45)=>b3.tok cf ce ar x j g;have cb:(rdI s p).k≠7->iB f (rdI s p).k=Z->IF s cm ((p:Int)+(xL f (s.extract p (rdI s p).a):Nat)):=fun ar x=>⟨by rw[b3.stop cf ce ar x];omega,p,f,z,o,v,J,cf,b3,rfl,fun _=>⟨ar,x⟩⟩;have m3:=b3.len;have k2:=b3.ol;have k7:=b3.sim;generalize (rdI s p).k=b4 at bj j2 j4 b2 cy a5 cb⊢;generalize (rdI s p).a=q at bj lf lq a3 b2 cy a5 cb⊢;generalize (rdI s p).d=cn at ls lv a3 b2 cy a5⊢;generalize (rdI s p).n=a0 at bj b2 a5⊢;generalize (rdI s p).x=a1 at bj b2 a5⊢;clear b3 ce cf;refine wpIn_block ?_;refine wpIn_seq_k (fun ff f7=>?_);have d9:∀(K:Int)(ad:A9)(bn bo br bs bt bw bx:B1),1<=K->K<=78->Ce (d+1) c ad->Iw b u (d+1) s (fun _ _ _=>True) ad q (o+cn) p o->vw w base E b5 d s f v ad->d+1<=ad.heap.size->dE B ad K (p:Int) (q:Int) o a0 a1->
     (iB f K=A2->∀b6,EJ b6 (feedL z K).1->b6.length<=f.length+45->∃fu,lG s cm b6 (feedL z K).1 q (o+cn) (v++[⟨K,(p:Nat),(q:Nat),o,a0,a1⟩]) fu)->
     (iB f K=Z->IF s cm ((p:Int)+(xL f (s.extract p q):Nat)))->
     ff {tmps:=#[.pointer (O ⟨E,0,U⟩),.string s,.pointer (O ⟨w.heap.size,0,U⟩),.pointer (O ⟨w.heap.size+1,0,U⟩),.slice U 0 0,.pointer (O ⟨b,0,U⟩),.pointer (O ⟨d,0,U⟩),.pointer (O ⟨B,0,U⟩),.string s,.map (O u),.agg #[.string s,.map (O u),.int .i64 0,.int .i64 0,.int .i64 1,.bool Z],.func (.func 46) #[.pointer (O ⟨b,0,U⟩)] #[],.agg #[.int .i64 b4,.int .i64 (p:Int),.int .i64 (q:Int),.int .i64 o,.int .i64 a0,.string a1],bn,bo,br,bs,bt,bw,bx,M,M,M,M,M,M,M,M,M,M,M,M,M,M,M,M,M,M,M,M,M,M,M,M],defers:=[]} ad:=by
    intro K ad bn bo br bs bt bw bx j3 j5 gr cz cq m1 cr a5 cb;refine f7 _ _ ?_;clear f7;have c8:=dt cq.b0;have eb:=dt cq.b1;obtain⟨g7,ck,cl,g8,g9,hc,he⟩:=aJ cr;obtain⟨stF,fq,dc⟩:∃stF fq,iB f K=A2->passOk (f.length+45) fq f K stF/\stF.length<=f.length+45/\EJ stF (feedL z K).1:=by
     by_cases x:iB f K=A2
     ·obtain⟨A,cc,k5⟩:=k7.passOk j3 j5 x;exact⟨A,_,fun _=>⟨cc,xF cc,k5⟩⟩
     ·exact⟨[],0,fun e=>absurd e x⟩
    have fc:=CallsIn.inRound l (my (n:=2).2 (Gb ad base E b5 f stF ⟨K,(p:Int),(q:Int),o,a0,a1⟩ s fq cq.q cz.ly.tabs (by omega) j3 j5 (by simp only;omega) (by simp only;omega) (by simp only;omega) (fun e=>⟨(dc e).1,by have:=(dc e).2.1;omega,fun a cB=>by have:=aG ((dc e).2.2.o1 a cB);omega⟩)));unfold vTk at fc;simp only[jz]at fc
    gi_wp2_with (refine⟨trivial,?_⟩;gi_at_call 24;fail)
    refine⟨trivial,fc.mono ?_⟩;rintro e r ⟨(⟨x,rfl,i6,dn,ak⟩|⟨x,rfl,ak⟩)⟩
    ·obtain⟨_,kC,k6⟩:=dc x;obtain⟨fu,ji⟩:=a5 x stF k6 kC;obtain⟨nj,i4,_⟩:=cq.q.g.ex;have b9:=cq.turn i6 dn ak ky (by omega);have bh:dE B r K (p:Int) (q:Int) o a0 a1:=jI dn cr (by omega);have bk:Iw b u (d+1) s (fun _ _ _=>True) r q (o+cn) p o:=Iw.turn (I:=fun _ _ _=>True) (p:=p) (l:=o) ⟨cz.sc,cz.mp,cz.ly,trivial,cz.sz⟩ i4 dn ak kp trivial;have cu:Ce (d+1) c r:=gr.trans (amd i4 dn);obtain⟨an,dx,d6⟩:=b9.tk;obtain⟨j8,j9,rfl⟩:=cj d6;have kj:=dt dx;have mn:r.frozen? ⟨d,0,U⟩=Z:=bI _ _ _ _ _ dx;obtain⟨nl,nm,nn,no,nr,ns,nt⟩:=aJ bh;obtain⟨lc,kA,k9,la,lb⟩:=dD ada;obtain⟨on,gz⟩:=aA v.length;rw[gz]at dx d6 kj k2;have m9:d+1<=r.heap.size:=bk.sz;have g3:∀k,(Value.slice j8 on j9).ownBlock=O k->w.heap.size<=k/\∃cs fr,r.heap[k]?=O (.cells cs 49 fr):=fun k y=>by
      refine⟨(d6.lt k y).1,?_⟩;rcases d6.2 with⟨b7,_⟩|⟨hw,kh,ki,b7,_,c9,_⟩
      ·rw[b7]at y;cases y
      ·rw[b7]at y;obtain rfl:hw=k:=by simpa [Cr] using y
       exact⟨_,_,c9⟩
     have m:=amE ji b9 bk cu dx gz;clear ji b9 bk cu dx gz fc dc i6 dn ak cq cz gr cr a5 cb c8 eb g7 ck cl g8 g9 hc he bh
     gi_wp2_with (gi_at_builtin;refine wpListIn_append_own _ rfl _ _ 27 rfl w.heap.size 49 lc _ 6 56 Tryz.underlying27 kA k9 la lb rfl (by decide) _ _ _ rfl (d6.alloc _) ⟨r.heap.size,0,U⟩ 1 1 [.int .i64 K,.int .i64 (p:Int),.int .i64 (q:Int),.int .i64 o,.int .i64 a0,.string a1] rfl rfl (World.news_of_block (cs:=#[.int .i64 K,.int .i64 (p:Int),.int .i64 (q:Int),.int .i64 o,.int .i64 a0,.string a1]) (fr:=(0,0)) (ay r _)) (by intro nc i8;simp at i8;rcases i8 with rfl|rfl|rfl|rfl|rfl|rfl<;>rfl) (by unfold maxLen;omega) (by omega) (by simp;omega) ?_;intro nf c6 gv ew _;obtain⟨ee,fm,rfl⟩:=ownsRow_succ gv;have e9:c6.heap[d]?=O (.cells #[.slice j8 on j9] 27 (0,0)):=(ew.block d (by simp;omega) (fun e=>by obtain⟨_,cs,fr,b8⟩:=g3 d e.symm;rw[m.out.2.2.2.2.1]at b8;cases b8)).trans ((cC _ _ _ (by omega)).trans m.2.2.2.2.1);have l6:=dt e9;have mr:c6.frozen? ⟨d,0,U⟩=Z:=bI _ _ _ _ _ e9)
     have ca:∀(k:Nat)(A:Obj),r.heap[k]?=O A->(∀cs fr,A≠ .cells cs 49 fr)->k≠d->(c6.setCell ⟨d,0,U⟩ (.slice (O ⟨ee,0,U⟩) (on+1) fm)).heap[k]?=O A:=fun k A y cc e7=>by
      refine(aC _ _ _ _ e7).trans ((ew.block k (by simp;have:=az y;omega) (fun e=>?_)).trans ((cC _ _ _ (az y)).trans y));obtain⟨_,cs,fr,b8⟩:=g3 k e.symm;rw[y]at b8;exact cc cs fr (bu b8)
     have m7:r.heap.size<=c6.heap.size:=by have:=ew.size;simp at this;omega
     have i1:Y base r (c6.setCell ⟨d,0,U⟩ (.slice (O ⟨ee,0,U⟩) (on+1) fm)):=by
      have ke:Y base r (r.alloc (.cells #[.int .i64 K,.int .i64 (p:Int),.int .i64 (q:Int),.int .i64 o,.int .i64 a0,.string a1] 49)):=(ah _ r).alloc (by omega) _;exact(ke.grown ew (by simp;omega) (fun k y=>by have:=(g3 k y).1;omega)).setCell (by show base<=d;omega) _
     have kx:vw w base E b5 d s stF (v++[⟨K,(p:Nat),(q:Nat),o,a0,a1⟩]) (c6.setCell ⟨d,0,U⟩ (.slice (O ⟨ee,0,U⟩) (on+1) fm)):=by
      have cB:=m.2.1;refine⟨cB.q.same (fun k A y j g=>ca k A y j (by rintro rfl;rw[m.out.2.2.2.2.1]at y;exact g _ _ (bu y).symm)),cB.bl.trans i1,ca _ _ cB.b0 (by intro cs fr e;cases e) (by omega),ca _ _ cB.b1 (by intro cs fr e;cases e) (by omega),⟨_,aL _ _ 0 _ _ _ e9,?_⟩⟩;rw[aB,m.out.2.2.2.2.2,qh];refine B9 gv (row:=O d) ⟨rfl,rfl,rfl,by simp[B4],fun k y e7=>aC _ _ _ _ (fun e=>e7 (by rw[e]))⟩ (.inr ?_);intro e;have b8:ee=d:=by simpa [Cr] using e
      subst b8;rcases gv.2 with⟨b7,_⟩|⟨hw,kh,ki,b7,_,c9,_⟩
      ·cases b7
      ·cases b7;rw[e9]at c9;cases c9
     refine⟨m.2.2.2.1.trans ?_,?_⟩
     ·exact⟨by simp[B4];omega,fun k A _ y cc=>ca k A y (fun cs fr e=>by rw[e]at cc;cases cc) (by rintro rfl;rw[m.out.2.2.2.2.1]at y;obtain rfl:=bu y;cases cc)⟩
     ·obtain⟨fs,g0⟩:=m.2.2.1.sc;obtain⟨fp,fn,cp,fo⟩:=m.2.2.1.mp;refine⟨⟨fs,ca _ _ g0 (by intro cs fr e;cases e) (by omega)⟩,⟨fp,fn,ca _ _ cp (by intro cs fr e;cases e) (by rintro rfl;rw[m.out.2.2.2.2.1]at cp;cases cp),fo⟩,m.2.2.1.ly.blocks (fun k y=>i1.block k (by omega)),?_,by simp[B4];omega⟩;rw[al];exact⟨_,_,_,_,m.1,kx⟩
    ·refine⟨rfl,gr.trans (zh ak),_,cb x,rfl,cq.bl.trans (ak.mono (by omega))⟩
   clear f7;obtain⟨g7,ck,cl,g8,g9,hc,he⟩:=aJ bj;by_cases eF:b4=7
   ·subst eF;obtain⟨kc,gm⟩:=aA (iB f 5);have j6:=CallsIn.inRound l (my (n:=2).2 (cI.q.may (t:=5) (by decide) (by decide) gm));have c8:=dt cI.b0;have m:=CB cI a3 gm bj;clear cI a3 gm bj a5 cb
    gi_wp2_with (refine⟨trivial,?_⟩;gi_at_call 47;fail)
    refine⟨trivial,j6.mono ?_⟩;rintro e r ⟨rfl,ak⟩;have b9:=m.1.below ak (by omega);have bh:dE B r 7 (p:Int) (q:Int) o a0 a1:=(ak.block _ (az m.2.2.2)).trans m.2.2.2;have z0:r.cell? ⟨B,0,U⟩=O (.int .i64 7):=(aJ bh).1;have nu:r.frozen? ⟨B,0,U⟩=Z:=(aJ bh).2.2.2.2.2.2 0;have cu:Ce (d+1) c r:=zh ak;clear j6 c8 g7 ck cl g8 g9 hc he;cases kc with
    |false=>
     obtain⟨fu,ag⟩:=cy trivial m.2.2.1;have be:Hid (Ce (d+1) c r/\Iw b u (d+1) s I r q (o+cn) q (o+cn)):=⟨cu,Iw.below m.2.1 ak (by omega) (by rw[al];exact⟨_,_,_,_,ag,b9⟩)⟩;clear d9 b2 cy ag b9 bh cu m ak
     gi_wp2
     exact be
    |true=>
     have i3:∀an,r.heap[d]?=O (.cells #[an] 27 (0,0))->an.ownBlock≠O B:=fun an c5=>ev an ((ak.block _ (by omega)).symm.trans c5);have dd:vw w base E b5 d s f v (r.setCell ⟨B,0,U⟩ (.int .i64 5)):=b9.setTok bh i3 (by omega) _;have h7:dE B (r.setCell ⟨B,0,U⟩ (.int .i64 5)) 5 (p:Int) (q:Int) o a0 a1:=aL _ _ 0 _ _ _ bh;have bk:Iw b u (d+1) s (fun _ _ _=>True) r q (o+cn) p o:=Iw.below (I:=fun _ _ _=>True) (p:=p) (l:=o) ⟨m.2.1.sc,m.2.1.mp,m.2.1.ly,trivial,m.2.1.sz⟩ ak (by omega) trivial;have i5:Iw b u (d+1) s (fun _ _ _=>True) (r.setCell ⟨B,0,U⟩ (.int .i64 5)) q (o+cn) p o:=by
      obtain⟨fs,g0⟩:=bk.sc;obtain⟨fp,fn,cp,fo⟩:=bk.mp;exact⟨⟨fs,(aC _ _ _ _ (by show b≠B;omega)).trans g0⟩,⟨fp,fn,(aC _ _ _ _ (by rintro rfl;rw[show r.heap[_]?=_ from bh]at cp;cases cp)).trans cp,fo⟩,bk.ly.blocks (fun k y=>aC _ _ _ _ (by show k≠B;omega)),trivial,by simp[B4];exact bk.sz⟩
     have fd:Hid (∀(bn bo br bs bt bw bx:B1),ff {tmps:=#[.pointer (O ⟨E,0,U⟩),.string s,.pointer (O ⟨w.heap.size,0,U⟩),.pointer (O ⟨w.heap.size+1,0,U⟩),.slice U 0 0,.pointer (O ⟨b,0,U⟩),.pointer (O ⟨d,0,U⟩),.pointer (O ⟨B,0,U⟩),.string s,.map (O u),.agg #[.string s,.map (O u),.int .i64 0,.int .i64 0,.int .i64 1,.bool Z],.func (.func 46) #[.pointer (O ⟨b,0,U⟩)] #[],.agg #[.int .i64 7,.int .i64 (p:Int),.int .i64 (q:Int),.int .i64 o,.int .i64 a0,.string a1],bn,bo,br,bs,bt,bw,bx,M,M,M,M,M,M,M,M,M,M,M,M,M,M,M,M,M,M,M,M,M,M,M,M],defers:=[]} (r.setCell ⟨B,0,U⟩ (.int .i64 5))):=fun bn bo br bs bt bw bx=>d9 5 _ bn bo br bs bt bw bx (by decide) (by decide) (cu.trans ((KeepsOthers.setCell _ _ _).from _)) i5 dd (by simp[B4];exact bk.sz) h7 (fun x=>b2 trivial x) (fun x=>by rw[m.out.2.2.1]at x;cases x);clear d9 b2 cy b9 bh cu m ak i3 dd h7 bk i5 ev
     gi_wp2
     exact fd _ _ _ _ _ _ _
   ·have m2:(b4==7)=Z:=by rw[bH];exact eF
    have fd:Hid (∀(bn bo br bs bt bw bx:B1),ff {tmps:=#[.pointer (O ⟨E,0,U⟩),.string s,.pointer (O ⟨w.heap.size,0,U⟩),.pointer (O ⟨w.heap.size+1,0,U⟩),.slice U 0 0,.pointer (O ⟨b,0,U⟩),.pointer (O ⟨d,0,U⟩),.pointer (O ⟨B,0,U⟩),.string s,.map (O u),.agg #[.string s,.map (O u),.int .i64 0,.int .i64 0,.int .i64 1,.bool Z],.func (.func 46) #[.pointer (O ⟨b,0,U⟩)] #[],.agg #[.int .i64 b4,.int .i64 (p:Int),.int .i64 (q:Int),.int .i64 o,.int .i64 a0,.string a1],bn,bo,br,bs,bt,bw,bx,M,M,M,M,M,M,M,M,M,M,M,M,M,M,M,M,M,M,M,M,M,M,M,M],defers:=[]} c):=fun bn bo br bs bt bw bx=>d9 b4 c bn bo br bs bt bw bx j2 j4 (KeepsFrom.refl _ _) ⟨a3.sc,a3.mp,a3.ly,trivial,a3.sz⟩ cI (by omega) bj (fun x=>a5 eF x) (fun x=>cb eF x);clear d9 a5 cb b2 cy cI a3 bj
    gi_wp2
    exact fd _ _ _ _ _ _ _
  case seq=>
   rintro l ka hH dd c ca gs j0;rw[a4]at hH gs j0 dd⊢;refine(aeD 4 l b u (d+1) s (by omega) (by omega) (by omega) (by omega) I gn gd f9 ka hH (fun bA c=>(∃af,IF s cm af/\bA=Iy af/\Y base w c)/\c.heap[d+1]?=O (.deferred (O []))) (fun p o c j g bD fz=>(dd (p,o) c ⟨j,g,bD⟩ fz)) c 0 1 ?_ ca).mono ?_
   ·refine Iw.below ek (by rw[a4];exact gs) (by omega) ?_;have G:=ek.ii;rw[al]at G⊢;obtain⟨f,z,v,J,j,g⟩:=G;exact⟨f,z,v,J,j,g.below (by rw[a4];exact gs) (by omega)⟩
   ·rintro e l4 (h|⟨bA,j,g,bD⟩)
    ·exact .inl h
    ·exact .inr ⟨bA,j,g,bD⟩
  case done=>
   rintro c h bE;rw[a4]at bE⊢;refine F _ _ (sy ?_);clear F;rw[ge];cases h with
   |fin l h=>
    have G:=h.ii;rw[al]at G;obtain⟨f,z,v,J,j,g⟩:=G;obtain⟨an,ck,cl⟩:=g.tk;obtain⟨c8,fk,ea,kf,kg,kk,kl,kn⟩:=xA.cells h.sc;have l5:=dt ck;have be:=iF j g cl;clear j g ck cl h gn gd f9 dq ek et en e8 e6 el;go_wp2_with fail;refine⟨by simp,.inl ⟨_,_,rfl,run_takeDeferred bE,?_⟩⟩;have ar:=qr.of_putD bE (.deferred U);refine⟨_,results_tmp rfl _ _ _,⟨.inl ⟨f,z,v,l,an,be.1.fin,be.1.sim,rfl,ar.row be.2.2 (by decide),be.2.1.q.kept ar,be.1.len,be.1.ol,?_⟩⟩⟩;exact be.2.1.bl.grown (B6 c (d+1) (.deferred U)) (by have:=be.2.1.bl.size;have:=az bE;omega) (fun fb e=>by cases e;omega)
   |bad p l dk ds hS fa d7 G=>
    rw[al]at G;obtain⟨f,z,v,J,j,g⟩:=G;obtain⟨c8,fk,ea,kf,kg,kk,kl,kn⟩:=fK hS;obtain⟨hj,mm⟩:=GK hS;have hn:=dt g.b0;have eb:=dt g.b1;clear gn gd f9 dq ek et en e8 e6 el;obtain⟨kt,kv⟩:=abi s p dk.lt;have kz:base<=c.heap.size:=by have:=g.bl.size;omega
    have gp:Y c.heap.size c c.drew:=(ah _ c).drew;have h8:si c.drew:=(fa.tabs.below gp (ae _));have jv:(s.extract p (rdI s p).a).size<=1100000:=by have:=ik (a:=s) (b:=p) (e:=(rdI s p).a);omega
    have g5:=Ga c.drew base E b5 f (s.extract p (rdI s p).a) (g.q.below gp) h8 jv;have k4:(xL f (s.extract p (rdI s p).a):Nat)<=s.size:=by
     have:=Cx f (s.extract p (rdI s p).a);have:=ik (a:=s) (b:=p) (e:=(rdI s p).a);omega
    obtain⟨af,g4⟩:∃af:Nat,xL f (s.extract p (rdI s p).a)=af:=⟨_,rfl⟩;have kb:Hid (IF s cm ((p:Int)+(af:Nat))):=⟨j.bad dk ds,p,f,z,l,v,J,dk,j,by rw[g4],fun e=>by rw[ds]at e;cases e⟩;have c7:=iF g.bl bE kz;rw[g4]at g5 k4;obtain⟨q,hC⟩:∃q:Nat,(rdI s p).a=q:=⟨_,rfl⟩;rw[hC]at ea g5 kt kv;have m5:(p:Int)<=(q:Int):=by omega
    have mt:(q:Int)<=(s.size:Int):=by omega
    have m4:(0:Int)<=(p:Int):=by omega
    have nb:IntKind.i64.wrap ((p:Int)+(af:Int))=(p:Int)+(af:Int):=by rw[di];omega
    clear g4 hC j g hS fa jv h8 ds;go_wp2_with fail;refine Code.wp_mono (Q:=anm [{target:= .collected (d+1),args:=#[]}] (fun bA ad=>bA=Iy ((p:Int)+(af:Nat))/\Y c.heap.size c ad)) (fun e a ad h=>?_) ?_
    ·cases e with
     |panic bA=>
      obtain⟨kw,rfl,cr⟩:=h;show LeavesInM _ _ _ _ _ _ a.defers (.panicking _) ad;rw[kw];have kq:=(cr.block _ (az c7.2.1)).trans c7.2.1;refine aeH kq ⟨.inr ⟨_,kb,rfl,?_⟩⟩;have ku:=c7.1.trans (cr.mono c7.2.2);exact ku.grown (B6 ad (d+1) (.deferred U)) (by have:=cr.size;have:=c7.2.2;have:=kE;omega) (fun fb e=>by cases e;omega)
     |_=>exact h.elim
    refine uc (S:=fun C=>C.cell? ⟨b,2,U⟩=O (.int .i64 (p:Int))/\C.cell? ⟨b,3,U⟩=O (.int .i64 (q:Int))/\C.cell? ⟨w.heap.size,0,U⟩=O (.pointer (O ⟨E,0,U⟩))/\C.cell? ⟨w.heap.size+1,0,U⟩=O (.string s)) (by kernel_rfl) ⟨hj,ea,hn,eb⟩ (fun ap=>?_);refine dh 0 (.pointer (O ⟨b,2,U⟩)) rfl rfl (by kernel_rfl) (fun _ _ _=>id) ap (fun C ⟨a6,a7,a8,a9⟩=>by go_simp) ?_;simp only[Ax];refine dh 1 (.int .i64 (p:Int)) rfl rfl (by kernel_rfl) (fun _ _ _=>id) ap (fun C ⟨a6,a7,a8,a9⟩=>by go_simp) ?_;simp only[Ax];refine dh 2 (.pointer (O ⟨E,0,U⟩)) rfl rfl (by kernel_rfl) (fun _ _ _=>id) ap (fun C ⟨a6,a7,a8,a9⟩=>by go_simp) ?_;simp only[Ax];refine dh 3 (.string s) rfl rfl (by kernel_rfl) (fun _ _ _=>id) ap (fun C ⟨a6,a7,a8,a9⟩=>by go_simp) ?_;simp only[Ax];refine dh 4 (.pointer (O ⟨b,2,U⟩)) rfl rfl (by kernel_rfl) (fun _ _ _=>id) ap (fun C ⟨a6,a7,a8,a9⟩=>by go_simp) ?_;simp only[Ax];refine dh 5 (.int .i64 (p:Int)) rfl rfl (by kernel_rfl) (fun _ _ _=>id) ap (fun C ⟨a6,a7,a8,a9⟩=>by go_simp) ?_;simp only[Ax];refine dh 6 (.pointer (O ⟨b,3,U⟩)) rfl rfl (by kernel_rfl) (fun _ _ _=>id) ap (fun C ⟨a6,a7,a8,a9⟩=>by go_simp) ?_;simp only[Ax];refine dh 7 (.int .i64 (q:Int)) rfl rfl (by kernel_rfl) (fun _ _ _=>id) ap (fun C ⟨a6,a7,a8,a9⟩=>by go_simp) ?_;simp only[Ax];refine dh 8 (.string (s.extract p q)) rfl rfl (by kernel_rfl) (fun _ _ _=>id) ap (fun C ⟨a6,a7,a8,a9⟩=>by go_simp) ?_;simp only[Ax];refine B0 (rs:=[9]) (by kernel_rfl) (by simp) (A0 rfl (fun hh f8=>?_) Br);go_simp;refine g5.mono ?_;rintro e nk ⟨rfl,dg⟩;refine f8 _ _ ⟨aj dg hj,aj dg ea,aj dg hn,aj dg eb⟩ (fun ap=>?_);clear f8 hh;try simp only[Act.put,dv,dw,dy]
    refine dh 10 (.int .i64 ((p:Int)+(af:Int))) rfl rfl (by kernel_rfl) (fun _ _ _=>id) ap (fun C ⟨a6,a7,a8,a9⟩=>by go_simp) ?_;simp only[Ax];refine dh 11 (.agg #[.int .i64 ((p:Int)+(af:Int))]) rfl rfl (by kernel_rfl) (fun _ _ _=>id) ap (fun C ⟨a6,a7,a8,a9⟩=>by go_simp) ?_;simp only[Ax];refine dh 12 (.iface 51 (.agg #[.int .i64 ((p:Int)+(af:Int))])) rfl rfl (by kernel_rfl) (fun _ _ _=>id) ap (fun C ⟨a6,a7,a8,a9⟩=>by go_simp) ?_;simp only[Ax];refine B0 (rs:=[13]) (by kernel_rfl) (by simp) (A0 rfl (fun hh f8=>?_) Br);go_simp;exact⟨rfl,rfl,(gp.trans dg)⟩
  case pan=>
   rintro bA c ⟨af,d7,rfl,eq⟩ bE;rw[a4]at bE⊢;show LeavesInM _ _ _ _ _ _ [_] (.panicking _) c;refine⟨by simp,.inl ⟨_,_,rfl,run_takeDeferred bE,?_⟩⟩;rw[ge];exact⟨.inr ⟨af,d7,rfl,eq.grown (B6 c (d+1) (.deferred U)) (by have:=eq.size;have:=az bE;omega) (fun fb e=>by cases e;omega)⟩⟩
 clear f5;refine sy (Code.wp_mono (Q:=Exit.then hf (fun _ _ _=>False)) (fun e a w h=>by cases e<;>first|exact h|exact h.elim) ?_);have fk:bf.drew.cell? ⟨w.heap.size+1,0,U⟩=O (.string s):=dt df;refine uc (S:=fun C=>C.cell? ⟨w.heap.size+1,0,U⟩=O (.string s)) (by kernel_rfl) fk (fun hS=>?_);refine dh 0 (.string s) rfl rfl (by kernel_rfl) (fun _ _ _=>id) hS (fun C i9=>by go_simp) ?_;simp only[Ax];refine B0 (rs:=[1,3]) (by kernel_rfl) (by simp) (A0 rfl (fun a2 F=>?_) (A0 rfl (fun a2 F=>?_) Br))
 ·go_simp;have fB:Y w.heap.size w bf.drew:=fA.drew;refine(rB (H:=Unit) bf.drew fr j7 ((fB.block _ (az ei)).trans ei)).mono ?_;rintro e bb ⟨rfl,cw,am⟩;have i2:bf.drew.heap.size=w.heap.size+2:=i7;rw[i2]at cw am;have da:Y w.heap.size w bb:=fB.trans (am.mono (by omega));have a4:w.heap.size+2<=bb.heap.size:=by have:=am.size;omega
  have kK:=cw.lt;refine F _ _ (dt ((am.block _ (by omega)).trans df)) (fun hS=>?_);clear F a2;try simp only[Act.put,dv,dw,dy]
  simp only[i2];refine dh 2 (.agg #[.string s,.map (O (w.heap.size+2)),.int .i64 0,.int .i64 0,.int .i64 1,.bool Z]) rfl rfl (by kernel_rfl) (fun _ _ _=>id) hS (fun C i9=>by go_simp) ?_;simp only[Ax];refine B0 (rs:=[3]) (by kernel_rfl) (by simp) (A0 rfl (fun a2 F=>?_) Br);go_simp;refine F _ _ ((aj ((ah bb.heap.size bb).alloc (ae _) _) hS)) (fun hS=>?_);clear F a2;refine B0 (rs:=[4]) (by kernel_rfl) (by simp) (A0 rfl (fun a2 F=>?_) Br);go_simp;have L:Ad1 w E s bb.heap.size (w.heap.size+2) (bb.alloc (.cells #[.string s,.map (O (w.heap.size+2)),.int .i64 0,.int .i64 0,.int .i64 1,.bool Z] 100)):=
   ⟨da.alloc da.size _,(cC _ _ _ (by omega)).trans ((am.block _ (by omega)).trans iy),(cC _ _ _ (by omega)).trans ((am.block _ (by omega)).trans df),ay bb _,cw.alloc _,by omega,by omega⟩
  refine F _ _ (dt L.b1) (fun hS=>?_);clear F a2;refine wpAnyH_done (by kernel_rfl) ?_ _;exact f6 _ _ _ L
 ·go_simp;have fB:Y w.heap.size w bf.drew:=fA.drew;obtain⟨WA,em⟩:=aA ((bf.alloc (.cells #[.string ⟨#[]⟩,.map U,.int .i64 0,.int .i64 0,.int .i64 0,.bool Z] 100)).drew);have ef:Y (w.heap.size+2) bf WA:=by rw[<-em];exact((ah _ bf).alloc (by omega) _).drew
  have j1:WA.heap.size=w.heap.size+3:=by rw[<-em];show(bf.alloc _).heap.size=_;simp;omega
  have ks:WA.heap[w.heap.size+2]?=O (.cells #[.string ⟨#[]⟩,.map U,.int .i64 0,.int .i64 0,.int .i64 0,.bool Z] 100 (0,0)):=by rw[<-em,<-i7];exact ay bf _
  rw[em];refine F _ _ (aj (ef.mono (by omega)) (dt df)) (fun hS=>?_);clear F a2;refine B0 (rs:=[1]) (by kernel_rfl) (by simp) (A0 rfl (fun a2 F=>?_) Br);go_simp;have hE:Y w.heap.size w WA:=fA.trans (ef.mono (by omega));refine(rB (H:=Unit) WA fr j7 ((hE.block _ (az ei)).trans ei)).mono ?_;rintro e bb ⟨rfl,cw,am⟩;rw[j1]at cw am;have da:Y w.heap.size w bb:=hE.trans (am.mono (by omega));have kK:=cw.lt;refine F _ _ (aj (am.mono (by omega)) hS) (fun hS=>?_);clear F a2;try simp only[Act.put,dv,dw,dy]
  simp only[j1];refine dh 2 (.agg #[.string s,.map (O (w.heap.size+3)),.int .i64 0,.int .i64 0,.int .i64 1,.bool Z]) rfl rfl (by kernel_rfl) (fun _ _ _=>id) hS (fun C i9=>by go_simp) ?_;simp only[Ax];have gt:=(am.block _ (by omega)).trans ks;refine B0 (rs:=[4]) (by kernel_rfl) (by simp) (A0 rfl (fun a2 F=>?_) Br);obtain⟨l7,l8,l9,mc,md,me⟩:=gI gt;obtain⟨mf,b7,b8,c9,mk,ml⟩:=sf gt;go_simp;have ag:=aol bb (w.heap.size+2) (.string s) (.map (O (w.heap.size+3))) (.int .i64 0) (.int .i64 0) (.int .i64 1) (.bool Z);have L:Ad1 w E s (w.heap.size+2) (w.heap.size+3) (Cl bb (w.heap.size+2) (.string s) (.map (O (w.heap.size+3))) (.int .i64 0) (.int .i64 0) (.int .i64 1) (.bool Z)):=by
   have a4:=am.size;refine⟨da.grown ag da.size (fun b4 e=>by cases e;omega),?_,?_,GL gt _ _ _ _ _ _,cw.kept ag (by simp),by omega,by omega⟩
   ·exact(ag.block _ (by omega) (by simp)).trans ((am.block _ (by omega)).trans ((ef.block _ (by omega)).trans iy))
   ·exact(ag.block _ (by omega) (by simp)).trans ((am.block _ (by omega)).trans ((ef.block _ (by omega)).trans df))
  refine F _ _ (dt L.b1) (fun hS=>?_);clear F a2;refine wpAnyH_done (by kernel_rfl) ?_ _;exact f6 _ _ _ L
theorem ahB(z:Int)(w:A9):(Instr.typeAssert (.iface 51 (C4 #[B7 .i64 z])) 20 51 A2).run B3 w= .ok (C2 #[C4 #[B7 .i64 z],.bool A2]) w:=by kernel_rfl
theorem ahC(w:A9):(Instr.typeAssert .nilIface 20 51 A2).run B3 w= .ok (C2 #[C4 #[B7 .i64 0],.bool Z]) w:=by kernel_rfl
theorem aon(p:Addr)(v:B1)(z:Int)(w:A9)(c:w.cell? p=O v)(a:w.frozen? p=Z)(f:p.block<w.heap.size):
  CallsD B3 15 #[.pointer (O p)] (.panicking (Iy z)) w fun e i j=>
   e= .returned (C2 #[])/\i= .panicking [{v:= .iface 51 (C4 #[B7 .i64 z]),recovered:=A2}]/\j=(w.alloc (A5 #[B7 .i64 z] 51)).setCell p (Ck U 0 0):=by
 have b:=fun w=>ahB z w;unfold Iy;refine callsD_of_wpS Tryz.func15 rfl fun l k g=>?_;apply wpS_seq;apply og;simp[wpOpsS,go_sem,recoverD,g,Tryz.ntmps15,Exit.thenS,b];apply wpS_seq;apply og;simp[wpOpsS,go_sem,Exit.thenS,iu];refine wpS_cond (t:=A2) (by simp[Act.eval]) ?_;simp only[iK];have d:(w.alloc (A5 #[B7 .i64 z] 51)).cell? p=O v:=aj ((ah w.heap.size w).alloc (ae _) _) c;have h:(w.alloc (A5 #[B7 .i64 z] 51)).frozen? p=Z:=by
  unfold World.frozen? at a⊢;rw[cC w _ _ f];exact a
 apply og;simp[wpOpsS,go_sem,d,h,bodyPostS,results,Tryz.results15]
theorem aoo(p:Addr)(w:A9):
  CallsD B3 15 #[.pointer (O p)] .returning w fun e d f=>e= .returned (C2 #[])/\d= .returning/\f=w.alloc (A5 #[B7 .i64 0] 51):=by
 have b:=fun w=>ahC w;refine callsD_of_wpS Tryz.func15 rfl fun a g c=>?_;apply wpS_seq;apply og;simp[wpOpsS,go_sem,recoverD,c,Tryz.ntmps15,Exit.thenS,b];apply wpS_seq;apply og;simp[wpOpsS,go_sem,Exit.thenS,iu];refine wpS_cond (t:=Z) (by simp[Act.eval]) ?_;simp only[yq,if_false];refine wpS_of_wp (wp_skip ?_);cases a
 simp_all [bodyPostS,results,Tryz.results15]
def lm(s:ByteArray)(p:Nat):Nat:=wD 0 ((dF s).take p)
def rsA(s:ByteArray)(p:Nat):Nat:=uK (lm s p) ((dF s).drop p)
theorem Lh(h:p<s.size):(dF s)[p]?=O (aq s p):=by
 have a:p<s.data.toList.length:=by rw[eK];exact h
 unfold dF;rw[bK,aE a];rw[((fL s p _).1 (aE a)).2];rfl
theorem jL(h:p<s.size):lm s (p+1)=nC (lm s p) (aq s p):=by
 unfold lm;rw[iw,Lh h,ww];rfl
theorem sF(h:p<s.size):rsA s p=nA (lm s p) (aq s p)+rsA s (p+1):=by
 have a:p<(dF s).length:=by rw[xu];exact h
 have b:(dF s).drop p=aq s p::(dF s).drop (p+1):=by
  rw[iH a]
  congr 1
  have:=Lh h;rw[aE a]at this;exact bu this
 unfold rsA;rw[b,uK,jL h]
theorem ya(s:ByteArray):∀p,lm s p<=4:=by
 have e:∀(a:List Int)(b:Nat),b<=4->wD b a<=4:=by
  intro a
  induction a with
  |nil=>intro b c;exact c
  |cons f a d=>
   intro b c;rw[wD];apply d;unfold nC
   repeat' split
   all_goals omega
 intro p;exact e _ 0 (by omega)
theorem ahD(q:Nat)(c:Int)(h:c≠9\/q≠3):uw c<=nA q c:=by
 unfold uw nA;by_cases j:q=4
 ·rw[ab j]
  repeat' split
  all_goals omega
 rw[aa j];by_cases d:c=92
 ·rw[ab d,ab (by omega)];exact ae _
 rw[aa d];by_cases e:c=10
 ·rw[ab e,ab (by omega)];decide
 rw[aa e];by_cases f:c=32
 ·rw[ab f,ab (by omega)];exact ae _
 rw[aa f];by_cases g:c=9
 ·rw[ab g,ab (by omega),aa (by omega)];exact ae _
 rw[aa g];by_cases i:c=13
 ·rw[ab i,aa (by omega)];exact ae _
 rw[aa i];by_cases a:bc c=A2
 ·have:=fe a;rw[ab a,ab (by omega)]
  repeat' split
  all_goals omega
 rw[aa a];by_cases b:ba c=A2
 ·have:=pL b;rw[ab b,ab (by omega)]
  repeat' split
  all_goals omega
 rw[aa b]
 repeat' split
 all_goals omega
theorem ahE:∀(n p:Nat),p+n<=s.size->(∀i,p<=i->i<p+n->aq s i≠10)->(aq s p≠9\/lm s p≠3)->uS s p n+rsA s (p+n)<=rsA s p
 |0,p,_,_,_=>by simp[uS]
 |n+1,p,m,h,a=>by
  have b:p<s.size:=by omega
  have f:=sF b;have j:=ahD (lm s p) (aq s p) a;have d:lm s (p+1)≠3:=by
   rw[jL b];have e:=h p (ae _) (by omega);unfold nC;rw[aa e]
   repeat' split
   all_goals first|omega|(rename_i g;have:=g;omega)|skip
   all_goals (rcases a with g|g<;>simp_all)
  have i:=ahE n (p+1) (by omega) (fun i k l=>h i (by omega) (by omega)) (.inr d);have c:uS s p (n+1)=uw (aq s p)+uS s (p+1) n:=by
   rw[Nat.add_comm n 1,aa8,uS,uS];simp
  rw[show p+(n+1)=p+1+n by omega,c];omega
theorem Cy{a:Nat}(f:p<a)(m:a<=s.size)(h:∀i,p<=i->i<a->aq s i≠10)(d:aq s p≠9):uR s p a+(nA (lm s p) (aq s p)-uw (aq s p))+rsA s a<=rsA s p:=by
 have b:p<s.size:=by omega
 have g:=sF b;have j:=ahD (lm s p) (aq s p) (.inl d);have c:lm s (p+1)≠3:=by
  rw[jL b];have e:=h p (ae _) f;unfold nC;rw[aa e]
  repeat' split
  all_goals first|omega|skip
 have i:=ahE (s:=s) (a-(p+1)) (p+1) (by omega) (fun i k l=>h i (by omega) (by omega)) (.inr c);rw[show p+1+(a-(p+1))=a by omega]at i;rw[ag6 s (show p<=p+1 by omega) (by omega),anH];unfold uR;omega
def crA(s:ByteArray)(p:Nat):Nat:=if(lm s p=1\/lm s p=2)/\uq (aq s p)=A2 then 10 else 0
structure Bnd (s:ByteArray) (p:Nat):Prop where
 bs:lm s p=4->aq s p=10\/s.size<=p
 dg:lm s p=1->bc (aq s p)=Z
def gA(s:ByteArray)(p:Nat):Nat:=rsA s p+crA s p
def beK(k:Int):Nat:=if opn k=A2 then 10 else 6
theorem ahF(k:Int):beK k<=10:=by unfold beK;split<;>omega
theorem Li:∀n,p+n<=s.size->rsA s (p+n)<=rsA s p
 |0,_=>ae _
 |n+1,h=>by
  have:=Li n (by omega);have:=sF (s:=s) (p:=p+n) (by omega);rw[show p+(n+1)=p+n+1 by omega];omega
