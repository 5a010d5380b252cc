import Derived.Test.YthboboahkkhopaaGreatDoorHRo16
import Derived.Test.YthboboahkkhopaaGreatDoorHRo17
import Derived.Test.YthboboahkkhopaaGreatDoorHRo20
set_option linter.all false
set_option maxRecDepth 100000
set_option maxHeartbeats 6400000
open Go.Proofs.Tryz
open Option renaming some->M,none->A0
open Go renaming World->O,Value->U,TypeId->Ex,Calls->E0
open Go.Value renaming string->Z,slice->A9,pointer->Br,int->B0,ownBlock->B7,bool->Ce,tuple->Ck,nilIface->C2,iface->E1
open Go.Proofs.Tryz renaming prog->Ax
open Go.RowKit renaming Hid->A2
open Go.Calls renaming quiet_of_same->A5
open Go.Ending renaming returned->B1
open Go.Obj renaming cells->B2
open Bool renaming true->B3,false->B6
open Go.IntKind renaming i64->B4
namespace Go.Proofs.YthboboahkkhopaaGreatDoor
open Go.RowKit Go.Maps Go.WideMaps
variable{N:Nd}{T s:ByteArray}{W W' w0:World}{b i j mb n p:Nat}{kv v vn vs:Value}{ns:List ByteArray}{t:Tsk}{zs:List Int}
def alp(s:ByteArray)(p:Nat):Int:=if cJ (aA s p)=B3 then(if aA s p=48/\aA s (p+1)=120 then 2 else 3) else if aA s p=34 then 4 else 0
def zH(s:ByteArray)(p:Nat):Int:=if(du s p).ok=B3 then(du s p).k else alp s p
def aio(V:Array U)(s:ByteArray):∀(f k j:Nat),xr V s f k=M j->j<k+f
 |0,k,j,h=>by simp[xr]at h
 |f+1,k,j,h=>by
  rw[xr]at h;split at h
  .obtain rfl:=bz h;omega
  .have:=aio V s f (k+1) j h;omega
def ad1(s:ByteArray)(p:Nat)(h:(du s p).ok=B3):1<=(du s p).k/\(du s p).k<=78:=by
 unfold du at h⊢;split
 .simp only;unfold Ka;cases hf:xr gA (s.extract p (rv s (s.size+1) p)) 22 0 with
  |none=>simp
  |some k=>have:=aio _ _ _ _ _ hf;simp only;omega
 split
 .split
  .simp only;unfold yk;split
   .simp
   .split<;>simp
  .rename_i a b c;rw[aa a,ae b,aa c]at h;cases h
 split
 .split
  .simp
  .rename_i a b c d;rw[aa a,aa b,ae c,aa d]at h;cases h
 split
 .rename_i a b c d;rw[aa a,aa b,aa c,ae d]at h;cases h
 .rename_i a b c d;have:=ahn (s.extract p s.size);simp only;omega
def alq(s:ByteArray)(p:Nat):0<=alp s p/\alp s p<=4:=by
 unfold alp;split
 .split<;>omega
 .split<;>omega
def aay(st:List Int)(k:Int):List Int×Bool:=if 0<k then dz st k else(st,B6)
def xG(s:ByteArray):Nat->List Int->Nat->Int->List Tk->List Tk×List Int×Int
 |0,st,_,_,_=>([],st,0)
 |f+1,st,p,l,b=>
  if s.size<=p then(b++[⟨6,(s.size:Nat),(s.size:Nat),l,0,⟨#[]⟩⟩],st, -1)
  else if zH s p=7 then
   (if(dz st 5).2=B3 then xG s f (dz st 5).1 (blk s (s.size+1) (du s p).a) (l+1) (b++[⟨5,(p:Nat),((du s p).a:Nat),l,(du s p).n,(du s p).x⟩]) else xG s f st (blk s (s.size+1) (du s p).a) (l+1) b)
  else if(aay st (zH s p)).2=B3 then
   (if(du s p).ok=B3 then xG s f (dz st (zH s p)).1 (blk s (s.size+1) (du s p).a) l (b++[⟨zH s p,(p:Nat),((du s p).a:Nat),l,(du s p).n,(du s p).x⟩]) else([],st,((du s p).a:Nat)))
  else([],st,(aok s p (asn st):Nat))
def rD(s:ByteArray):List Tk×List Int×Int:=xG s (s.size+1) [100,6] (blk s (s.size+1) 0) 1 []
structure asD (s:ByteArray) (f:Nat) (st:List Int) (p:Nat) (l:Int) (out:List Tk) (R:List Tk×List Int×Int):Prop where
 out:xG s f st p l out=R
def aoH(s:ByteArray)(p:Nat)(h:zH s p=7):(du s p).ok=B3/\(du s p).k=7:=by
 unfold zH at h;split at h
 .rename_i a;exact⟨a,h⟩
 .have:=alq s p;omega
inductive Fd:List Int->List Tk->List Int->Prop where
 |nil {st:List Int}:Fd st [] st
 |cons {st:List Int}{T:Tk}{ts:List Tk}{st':List Int}:1<=T.k->T.k<=78->T.k≠6->(dz st T.k).2=true->Fd (dz st T.k).1 ts st'->Fd st (T::ts) st'
def ace(V:Array U)(base:Int)(r:ByteArray)(b:40<=base):∀(f i:Nat)(a:Int×Nat),a.1≠6->(zm V base r f i a).1≠6
 |0,i,a,h=>h
 |f+1,i,a,h=>by
  unfold zm;refine ace V base r b f (i+1) _ ?_;split
  .show base+(i:Int)≠6;omega
  .exact h
def ad2(s:ByteArray)(p:Nat)(h:(du s p).ok=B3):zH s p≠6:=by
 unfold zH;rw[ae h];unfold du at h⊢;split
 .simp only;unfold Ka;cases hf:xr gA (s.extract p (rv s (s.size+1) p)) 22 0 with
  |none=>simp
  |some e=>simp only;omega
 split
 .split
  .simp only;unfold yk;split
   .simp
   .split<;>simp
  .rename_i a b c;rw[aa a,ae b,aa c]at h;cases h
 split
 .split
  .simp
  .rename_i a b c d;rw[aa a,aa b,ae c,aa d]at h;cases h
 split
 .rename_i a b c d;rw[aa a,aa b,aa c,ae d]at h;cases h
 .simp only;unfold uv;split
  .omega
  split
  .omega
  .exact ace _ _ _ (by omega) _ _ _ (ace _ _ _ (by omega) _ _ _ (by simp))
def Ju(s:ByteArray):∀(f:Nat)(st:List Int)(p:Nat)(l:Int)(i:List Tk)(b:List Tk)(c:List Int),xG s f st p l i=(b,c, -1)->∃ts d,b=i++ts++[⟨6,(s.size:Nat),(s.size:Nat),d,0,⟨#[]⟩⟩]/\Fd st ts c
 |0,st,p,l,i,b,c,h=>by simp[xG]at h
 |f+1,st,p,l,i,b,c,h=>by
  rw[xG]at h;split at h
  .simp only[jJ]at h;exact⟨[],l,by rw[dC];exact h.1.symm,by rw[<-h.2.1];exact .nil⟩
  split at h
  .split at h
   .rename_i g;obtain⟨ts,d,e,j⟩:=Ju s f _ _ _ _ b c h;exact⟨⟨5,(p:Nat),((du s p).a:Nat),l,(du s p).n,(du s p).x⟩::ts,d,by rw[e];simp,.cons (by show(1:Int)<=5;omega) (by show(5:Int)<=78;omega) (by show(5:Int)≠6;omega) g j⟩
   .exact Ju s f _ _ _ _ b c h
  split at h
  .rename_i o g;split at h
   .rename_i m;have⟨r,t⟩:=ad1 s p m;have q:zH s p=(du s p).k:=by unfold zH;rw[ae m]
    rw[show aay st (zH s p)=dz st (zH s p) by unfold aay;rw[ae (by omega)]]at g;obtain⟨ts,d,e,j⟩:=Ju s f _ _ _ _ b c h;exact⟨⟨zH s p,(p:Nat),((du s p).a:Nat),l,(du s p).n,(du s p).x⟩::ts,d,by rw[e];simp,.cons (by show 1<=zH s p;omega) (by show zH s p<=78;omega) (ad2 s p m) g j⟩
   .simp only[jJ]at h;omega
  .simp only[jJ]at h;omega
def aqz{ts:List Tk}{st e:List Int}(h:Fd st ts e):∀{T:Tk},T∈ts->1<=T.k/\T.k<=78/\T.k≠6:=by
 induction h with
 |nil=>intro T hT;cases hT
 |cons a b c f g d=>
  intro T hT;rcases List.mem_cons.1 hT with rfl|hT
  .exact⟨a,b,c⟩
  .exact d hT
def zTk:Tk:=⟨0,0,0,0,0,⟨#[]⟩⟩
def xH(ts:List Tk)(a:Nat):Tk:=ts.getD a zTk
def Be{ts:List Tk}{a:Nat}{T:Tk}(h:ts[a]?=M T):xH ts a=T:=by unfold xH;rw[aD,h];rfl
def Fo.all(p:Nd->Prop):Fo->Prop
 | .nil=>True
 | .cons N k r=>p N/\k.all p/\r.all p
def ig(p:Nd->Prop):∀(a b:Fo),(a.app b).all p↔a.all p/\b.all p
 | .nil,b=>by simp[Fo.app,Fo.all]
 | .cons N k r,b=>by simp only[Fo.app,Fo.all,ig p r b,and_assoc]
def cH(p:Nd->Prop)(N:Nd)(k:Fo):(one N k).all p↔p N/\k.all p:=by simp[one,Fo.all]
def Gd(tk:Nat->Tk)(n:Nat)(N:Nd):Prop:=(N.x=z0\/∃a,N.x=(tk a).x)/\N.nm.length<=n/\∀b∈N.nm,∃a,b=(tk a).x
def aqA(tk:Nat->Tk)(n:Nat):Tsk->Prop
 | .more _ _ x=>x.all (Gd tk n)
 | .post _ B=>B.all (Gd tk n)
 |_=>True
section
variable {tk : Nat → Tk} {n : Nat}
def gd0(k:Int)(s:Tk)(e op m:Int):Gd tk n (nd k s e op m z0 []):=⟨.inl rfl,aH _,λb a=>by cases a⟩
def gdx(k:Int)(s:Tk)(e op m:Int)(a:Nat):Gd tk n (nd k s e op m (tk a).x []):=⟨.inr ⟨a,rfl⟩,aH _,λx b=>by cases b⟩
def gd1(h:0<n)(k:Int)(s:Tk)(e op m:Int)(a:Nat):Gd tk n (nd k s e op m z0 [(tk a).x]):=⟨.inl rfl,h,λx b=>⟨a,List.mem_singleton.1 b⟩⟩
def gdb(k:Int)(s:Tk)(e:Int):Gd tk n (As k s e):=by unfold As;split;exact gd0 ..;split;exact gd0 ..;exact gd0 ..
def gdh(N:Nd)(ks:Fo)(s:Tk)(e:Int)(h:Gd tk n N)(a:ks.all (Gd tk n)):(od N ks s e).all (Gd tk n):=by
 unfold od;split
 .rw[cH,cH];exact⟨gd0 ..,h,a⟩
 .rw[cH];exact⟨h,a⟩
def KH.gd(h:KH tk n i ns j):i+2*ns.length<=j/\j<n/\∀x∈ns,∃d,x=(tk d).x:=by
 induction h with
 |stop c a=>exact⟨by simp,a,λx hx=>by cases hx⟩
 |go c a e _ b=>
  refine⟨by simp;omega,b.2.1,λx hx=>?_⟩;rcases List.mem_cons.1 hx with rfl|hx
  .exact⟨_,rfl⟩
  .exact b.2.2 x hx
def Prm.gd{r:Bool}(h:Prm tk n i ns r j):i+ns.length<=j/\j<=n/\∀x∈ns,∃e,x=(tk e).x:=by
 induction h with
 |close a b=>exact⟨by simp,by omega,λx hx=>by cases hx⟩
 |rest a b c=>exact⟨by simp,by omega,λx hx=>by cases hx⟩
 |last a b c=>exact⟨by simp,by omega,λx hx=>⟨_,List.mem_singleton.1 hx⟩⟩
 |go a b c _ d=>
  refine⟨by simp;omega,d.2.1,λx hx=>?_⟩;rcases List.mem_cons.1 hx with rfl|hx
  .exact⟨_,rfl⟩
  .exact d.2.2 x hx
def gdn{b:Nat}(h:KH tk n i ns j)(k:Int)(s:Tk)(e op m:Int):Gd tk n (nd k s e op m z0 ((tk b).x::ns)):=by
 have⟨c,d,a⟩:=h.gd;refine⟨.inl rfl,by show ns.length+1<=n;omega,λx hx=>?_⟩;rcases List.mem_cons.1 hx with rfl|hx
 .exact⟨_,rfl⟩
 .exact a x hx
def P.gd{R:Fo}(h:P tk n t i R j):aqA tk n t->R.all (Gd tk n):=by
 induction h
 case tlet0 h1 h2 h3 h4 h5=>intro _;rw[cH];exact⟨gdn h4 ..,trivial⟩
 case tlet h1 h2 h3 h4 h5 h6 ih=>intro _;rw[cH];exact⟨gdn h4 ..,ih trivial⟩
 case tfor h1 h2 h3 h4 h5 h6 h7 i1 i2=>intro _;rw[cH,ig];exact⟨gdn h4 ..,i1 trivial,i2 trivial⟩
 case teach h1 h2 h3 h4 h5 h6 h7 h8 h9 i1 i2=>intro _;rw[cH,ig];exact⟨gdn h4 ..,i1 trivial,i2 trivial⟩
 case ttry h1 h2 h3 h4 h5 h6 h7 h8 i1 i2=>intro _;rw[cH,ig];exact⟨gdn h7 ..,i1 trivial,i2 trivial⟩
 case body nm r B h1 h2 h3 h4 ih=>intro _;rw[cH];exact⟨⟨.inl rfl,by have:=h3.gd;show nm.length<=n;omega,h3.gd.2.2⟩,ih trivial⟩
 case bopen h1 h2 h3 h4 h5 h6 i1 i2=>intro _;have:=i1 trivial;rw[cH]at this;exact i2 (gdh _ _ _ _ this.1 this.2)
 case tcon h1 h2 h3 h4 h5 ih=>intro _;rw[cH];exact⟨gd1 (by omega) ..,ih trivial⟩
 case tfn h1 h2 h3 h4 h5 ih=>intro _;rw[cH];exact⟨gd1 (by omega) ..,ih trivial⟩
 all_goals
  intro a
  simp_all only[cH,ig,aqA,Fo.all,gdx,gd0,mA,gdb,and_self,true_implies,forall_const]
end
def Fo.nms:Fo->Nat
 | .nil=>0
 | .cons N k r=>N.nm.length+k.nms+r.nms
def rE:∀(a b:Fo),(a.app b).nms=a.nms+b.nms
 | .nil,b=>by simp[Fo.app,Fo.nms]
 | .cons N k r,b=>by simp only[Fo.app,Fo.nms,rE r b];omega
def ql(N:Nd)(k:Fo):(one N k).nms=N.nm.length+k.nms:=by simp[one,Fo.nms]
def aip(N:Nd)(ks:Fo)(s:Tk)(e:Int):(od N ks s e).nms=(one N ks).nms:=by
 unfold od;split
 .rw[ql];simp[mA,nd]
 .rfl
def E6(k:Int)(s:Tk)(e op m:Int)(x:ByteArray)(nm:List ByteArray):(nd k s e op m x nm).nm=nm:=rfl
def aoI(k:Int)(s:Tk)(e:Int):(As k s e).nm=[]:=by unfold As;split;rfl;split<;>rfl
def Jv:Tsk->Nat
 | .more _ _ x=>x.nms
 | .post _ B=>B.nms
 |_=>0
def P.nms{tk:Nat->Tk}{R:Fo}(h:P tk n t i R j):R.nms+i<=Jv t+j:=by
 induction h
 case tlet0 h1 h2 h3 h4 h5=>have:=h4.gd;simp only[ql,rE,Jv,E6,Fo.nms,bB]at *;omega
 case tlet h1 h2 h3 h4 h5 h6 ih=>have:=h4.gd;simp only[ql,rE,Jv,E6,Fo.nms,bB]at *;omega
 case tfor h1 h2 h3 h4 h5 h6 h7 i1 i2=>have:=h4.gd;simp only[ql,rE,Jv,E6,Fo.nms,bB]at *;omega
 case teach h1 h2 h3 h4 h5 h6 h7 h8 h9 i1 i2=>have:=h4.gd;simp only[ql,rE,Jv,E6,Fo.nms,bB]at *;omega
 case ttry h1 h2 h3 h4 h5 h6 h7 h8 i1 i2=>have:=h7.gd;simp only[ql,rE,Jv,E6,Fo.nms,bB]at *;omega
 case body h1 h2 h3 h4 ih=>have:=h3.gd;simp only[ql,rE,Jv,E6,Fo.nms,bB]at *;omega
 all_goals
  simp only[ql,rE,aip,Jv,mA,E6,aoI,Fo.nms,bB,fs]at *;omega
def E7:∀(R:Fo)(a b:Nat),cnt a (R.flat b)+R.len=a+8*R.sz+R.nms
 | .nil,a,b=>by simp[Fo.flat,cnt,Fo.len,Fo.sz,Fo.nms]
 | .cons N k r,a,b=>by
  have d:=E7 k a b;have e:=E7 r (nxt (cnt a (k.flat b)) {N with ks:=k.tops b}) (b+k.sz+1);have f:=k.tops_len b;rw[Fo.flat,agC,cnt];have c:nxt (cnt a (k.flat b)) {N with ks:=k.tops b}=cnt a (k.flat b)+7+N.nm.length+(k.tops b).length:=rfl;simp only[Fo.len,Fo.sz,Fo.nms];omega
def aqB(s:ByteArray)(p:Nat)(e:p<s.size):(du s p).x.size<=s.size:=by
 have c:∀a b,(s.extract a b).size<=s.size:=λa b=>by rw[tK];omega
 unfold du;split
 .show(Ka s p).2.size<=_;unfold Ka;split
  .exact aH _
  .exact c _ _
 split
 .split
  .show(yk s p).2.2.size<=_;unfold yk;split
   .exact aH _
   split
   .exact aH _
   .exact c _ _
  .exact aH _
 split
 .split
  .show(eD _).size<=_;have d:=(yF s (s.size+1) (p+1) [] e).2.2;rw[sD];simp at d;omega
  .exact aH _
 split
 .exact aH _
 .exact aH _
def ad3(s:ByteArray):∀(f:Nat)(st:List Int)(p:Nat)(l:Int)(a:List Tk),(∀T∈a,T.x.size<=s.size)->∀T∈(xG s f st p l a).1,T.x.size<=s.size
 |0,st,p,l,a,h=>λT hT=>by cases hT
 |f+1,st,p,l,a,h=>by
  have c:∀(b:Tk),b.x.size<=s.size->∀T∈a++[b],T.x.size<=s.size:=λb e T hT=>by
   rcases List.mem_append.1 hT with hT|hT
   .exact h T hT
   .rw[List.mem_singleton.1 hT];exact e
  rw[xG];split
  .exact c _ (aH _)
  .rename_i g;have d:=aqB s p (by omega);split
   .split
    .exact ad3 s f _ _ _ _ (c _ d)
    .exact ad3 s f _ _ _ _ h
   .split
    .split
     .exact ad3 s f _ _ _ _ (c _ d)
     .exact λT hT=>by cases hT
    .exact λT hT=>by cases hT
def ad4(s:ByteArray):∀(f:Nat)(st:List Int)(p:Nat)(l:Int)(b:List Tk),p<=s.size->(xG s f st p l b).1.length<=b.length+(s.size-p)+1
 |0,st,p,l,b,h=>aH _
 |f+1,st,p,l,b,h=>by
  rw[xG];split
  .simp
  .rename_i k;have e:∀c,c<=s.size->c<=blk s (s.size+1) c/\blk s (s.size+1) c<=s.size:=λc j=>yl s (s.size+1) c j;split
   .rename_i g;have d:=uw s p (by omega) (aoH s p g).1;have:=e _ d.2.1;split
    .have:=ad4 s f (dz st 5).1 (blk s (s.size+1) (du s p).a) (l+1) (b++[⟨5,(p:Nat),((du s p).a:Nat),l,(du s p).n,(du s p).x⟩]) (by omega);simp only[bm,yx]at this;omega
    .have:=ad4 s f st (blk s (s.size+1) (du s p).a) (l+1) b (by omega);omega
   .split
    .split
     .rename_i i;have d:=uw s p (by omega) i;have:=e _ d.2.1;have:=ad4 s f (dz st (zH s p)).1 (blk s (s.size+1) (du s p).a) l (b++[⟨zH s p,(p:Nat),((du s p).a:Nat),l,(du s p).n,(du s p).x⟩]) (by omega);simp only[bm,yx]at this;omega
     .exact aH _
    .exact aH _
def Dh(p:Nd->Prop)(c:∀(N:Nd) (ks:List Int),p N->p {N with ks:=ks}):∀(R:Fo)(b:Nat),R.all p->∀N∈R.flat b,p N/\N.ks.length<=R.sz
 | .nil,b,h=>λN hN=>by cases hN
 | .cons e k r,b,h=>λN hN=>by
  have f:=k.len_le;have g:=k.tops_len b;rw[Fo.flat,CH,pd]at hN;rcases hN with hN|rfl|hN
  .obtain⟨a,d⟩:=Dh p c k b h.2.1 N hN;exact⟨a,by rw[Fo.sz];omega⟩
  .exact⟨c _ _ h.1,by rw[Fo.sz];show(k.tops b).length<=_;omega⟩
  .obtain⟨a,d⟩:=Dh p c r _ h.2.2 N hN;exact⟨a,by rw[Fo.sz];omega⟩
def nsF(s:ByteArray)(R:Fo):List Nd:=(one ⟨1,0,(s.size:Nat),1,0,0,⟨#[]⟩,[],[]⟩ R).flat 0
structure PF (s:ByteArray) (toks:List Tk) (m:Nat) (R:Fo) (lz:Int):Prop where
 len:toks.length=m+1
 le:m<=s.size
 p:P (xH toks) (m+1) .stats 0 R m
 k78:∀q,(xH toks q).k<=78
 k6:∀q,q<m->(xH toks q).k≠6
 end_:xH toks m=⟨6,(s.size:Nat),(s.size:Nat),lz,0,⟨#[]⟩⟩
 sz:R.sz<=200000
 sm:∀N∈nsF s R,jE N
 ct:cnt 1 (nsF s R)<=2000000
def aqC(B:s.size<=65536){b:List Tk}{st:List Int}(h:rD s=(b,st, -1)){m:Nat}{R:Fo}{n:Int}(q:b.length=m+1)(r:xH b m=⟨6,(s.size:Nat),(s.size:Nat),n,0,⟨#[]⟩⟩)(f:P (xH b) (m+1) .stats 0 R m)(t:∀a,a<m->(xH b a).k≠6):PF s b m R n:=by
 obtain⟨J,I,c,x⟩:=Ju s _ _ _ _ _ b st h;rw[dI]at c;have G:=yl s (s.size+1) 0 (aH _);have l:=ad4 s (s.size+1) [100,6] (blk s (s.size+1) 0) 1 [] (by omega);have d:=ad3 s (s.size+1) [100,6] (blk s (s.size+1) 0) 1 [] (λe w=>by cases w);have C:xG s (s.size+1) [100,6] (blk s (s.size+1) 0) 1 []=(b,st, -1):=h;rw[C]at l d;simp only[fs]at l;have A:=f.pos;simp only[gG,slk,bas]at A;have z:=f.nms;have u:=f.gd trivial;have j:(one ⟨1,0,(s.size:Nat),1,0,0,⟨#[]⟩,[],[]⟩ R:Fo).sz=R.sz+1:=dL _ _;have o:∀a,(xH b a).x.size<=65536:=λa=>by
  unfold xH;rw[aD];cases hq:b[a]? with
  |none=>exact aH _
  |some e=>exact di (d e (cG hq)) B
 have E:∀a,(xH b a).k<=78:=λa=>by
  unfold xH;rw[aD];cases hq:b[a]? with
  |none=>show(0:Int)<=78;decide
  |some e=>
   have:=cG hq;rw[c,CH,List.mem_singleton]at this;rcases this with g|g
   .have:=aqz x g;show e.k<=78;omega
   .rw[g];show(6:Int)<=78;decide
 refine⟨q,by omega,f,E,t,r,by omega,λi v=>?_,?_⟩
 .obtain⟨g,y⟩:=Dh (Gd (xH b) (m+1)) (λi H h=>h) _ 0 ((cH _ _ R).2 ⟨⟨.inl rfl,aH _,λp d=>by cases d⟩,u⟩) i v;rw[j]at y;refine⟨by have:=g.2.1;omega,by omega,?_,λp d=>?_⟩
  .rcases g.1 with c|⟨a,c⟩
   .rw[c];exact aH _
   .rw[c];have:=o a;omega
  .obtain⟨a,c⟩:=g.2.2 p d;rw[c];have:=o a;omega
 .have:=E7 (one ⟨1,0,(s.size:Nat),1,0,0,⟨#[]⟩,[],[]⟩ R) 1 0;rw[j,ql]at this;simp only[Jv]at z;have F:([]:List ByteArray).length=0:=rfl;unfold nsF;show cnt 1 (Fo.flat (one ⟨1,0,(s.size:Nat),1,0,0,⟨#[]⟩,[],[]⟩ R) 0)<=_;simp only[fs]at this;omega
def Pln(N:Nd):Prop:=0<=N.f/\N.f<=N.t/\0<=N.l
def aoJ(Q:Nd->Prop)(tk:Nat->Tk):Tsk->Nat->Prop
 | .more _ s x,i=>(∃a,a<i/\s=tk a)/\x.all Q
 | .post s B,i=>(∃a,a<i/\s=tk a)/\B.all Q
 | .body s,i=>∃a,a<=i/\s=tk a
 |_,_=>True
section
variable {tk : Nat → Tk} {n : Nat} {Q : Nd → Prop}
def aoK(Q:Nd->Prop)(tk:Nat->Tk)(n:Nat):Prop:=∀ ⦃b a:Nat⦄ ⦃c f d:Int⦄ ⦃g:ByteArray⦄ ⦃e:List ByteArray⦄,b<=a->a<n->Q (nd c (tk b) (tk a).t f d g e)
def gI(d:aoK Q tk n){a r:Nat}{k op m:Int}{x:ByteArray}{nm:List ByteArray}(b:a<=r:=by omega)(c:r<n:=by omega):Q (nd k (tk a) (tk r).t op m x nm):=d b c
def alr(c:aoK Q tk n){d r:Nat}{k:Int}(a:d<=r:=by omega)(b:r<n:=by omega):Q (As k (tk d) (tk r).t):=by
 unfold As;split
 .exact c a b
 split
 .exact c a b
 .exact c a b
def P.allq(d:aoK Q tk n){R:Fo}(h:P tk n t i R j):aoJ Q tk t i->R.all Q:=by
 induction h
 case mgo p s x y R k k1 j h1 h2 h3 h4 h5 e i2=>
  rintro ⟨⟨f,o,rfl⟩,g⟩;have:=h4.pos;simp only[gG]at this;exact i2 ⟨⟨f,by omega,rfl⟩,(cH _ _ _).2 ⟨alr d,(ig _ _ _).2 ⟨g,e trivial⟩⟩⟩
 case ex p i k j x R h1 h2 h3 h4 e i2=>
  intro _;have:=h3.pos;simp only[gG]at this;exact i2 ⟨⟨i,by omega,rfl⟩,e trivial⟩
 case bname i j R h1 h2 h3 ih=>intro _;exact ih ⟨⟨i,by omega,rfl⟩,(cH _ _ _).2 ⟨gI d,trivial⟩⟩
 case bopen i k j N ks R h1 h2 h3 h4 h5 h6 e i2=>
  intro _;have:=h3.pos;simp only[gG]at this;have e:=e trivial;refine i2 ⟨⟨i,by omega,rfl⟩,?_⟩;unfold od;split
  .exact(cH _ _ _).2 ⟨gI d,e⟩
  .exact e
 case pdot s B R k j h1 h2 h3 h4 ih=>
  rintro ⟨⟨f,o,rfl⟩,g⟩;exact ih ⟨⟨f,by omega,rfl⟩,(cH _ _ _).2 ⟨gI d,g⟩⟩
 case psq s B Y R k k1 j h1 h2 h3 h4 h5 h6 e i2=>
  rintro ⟨⟨f,o,rfl⟩,g⟩;have:=h3.pos;simp only[gG]at this;exact i2 ⟨⟨f,by omega,rfl⟩,(cH _ _ _).2 ⟨gI d,(ig _ _ _).2 ⟨g,e trivial⟩⟩⟩
 case pcall0 s B R k j h1 h2 h3 h4 ih=>
  rintro ⟨⟨f,o,rfl⟩,g⟩;exact ih ⟨⟨f,by omega,rfl⟩,(cH _ _ _).2 ⟨gI d,g⟩⟩
 case pcall s B Y R k k1 j h1 h2 h3 h4 h5 h6 h7 e i2=>
  rintro ⟨⟨f,o,rfl⟩,g⟩;have:=h4.pos;simp only[gG]at this;exact i2 ⟨⟨f,by omega,rfl⟩,(cH _ _ _).2 ⟨gI d,(ig _ _ _).2 ⟨g,e trivial⟩⟩⟩
 case body i k j s nm r B h1 h2 h3 h4 ih=>
  rintro ⟨f,o,rfl⟩;have:=h3.pos;have:=h4.pos;simp only[gG]at this;exact(cH _ _ _).2 ⟨gI d,ih trivial⟩
 case ufn i j R h1 h2 h3 ih=>intro _;exact ih ⟨i,by omega,rfl⟩
 case tfn i j B h1 h2 h3 h4 h5 ih=>
  intro _;have:=h5.pos;simp only[gG]at this;exact(cH _ _ _).2 ⟨gI d,ih ⟨i+2,af _,rfl⟩⟩
 case mstop h1 h2=>exact λh=>h.2
 case pstop h1 h2=>exact λh=>h.2
 case tlet0 i k ns h1 h2 h3 h4 h5=>intro _;have:=h4.pos;exact(cH _ _ _).2 ⟨gI d,trivial⟩
 case tlet i k j ns E h1 h2 h3 h4 h5 h6 ih=>intro _;have:=h4.pos;have:=h6.pos;simp only[gG]at this;exact(cH _ _ _).2 ⟨gI d,ih trivial⟩
 case tfor i k k1 j ns E b h1 h2 h3 h4 h5 h6 h7 e i2=>intro _;have:=h4.pos;have q:=h6.pos;have m:=h7.pos;simp only[gG]at q m;exact(cH _ _ _).2 ⟨gI d,(ig _ _ _).2 ⟨e trivial,i2 trivial⟩⟩
 case teach i k k1 j ns x b h1 h2 h3 h4 h5 h6 h7 h8 h9 e i2=>intro _;have:=h4.pos;have q:=h6.pos;have v:=h9.pos;simp only[gG]at q v;exact(cH _ _ _).2 ⟨gI d,(ig _ _ _).2 ⟨e trivial,i2 trivial⟩⟩
 case ttry i k k1 j ns a b h1 h2 h3 h4 h5 h6 h7 h8 e i2=>intro _;have:=h7.pos;have c:=h3.pos;have u:=h8.pos;simp only[gG]at c u;exact(cH _ _ _).2 ⟨gI d,(ig _ _ _).2 ⟨e trivial,i2 trivial⟩⟩
 case tset i k k1 j x R E h1 h2 h3 h4 h5 h6 h7 e i2 i3=>intro _;have c:=h3.pos;have l:=h4.pos;have m:=h7.pos;simp only[gG]at c l m;exact(cH _ _ _).2 ⟨gI d,(ig _ _ _).2 ⟨(ig _ _ _).2 ⟨e trivial,i2 trivial⟩,i3 trivial⟩⟩
 case belif i k k1 j x b z h1 h2 h3 h4 h5 h6 h7 e i2 i3=>intro _;have c:=h3.pos;have l:=h4.pos;have m:=h7.pos;simp only[gG]at c l m;exact(cH _ _ _).2 ⟨gI d,(ig _ _ _).2 ⟨(ig _ _ _).2 ⟨e trivial,i2 trivial⟩,i3 trivial⟩⟩
 case belse i k k1 j x b z h1 h2 h3 h4 h5 h6 h7 e i2 i3=>intro _;have c:=h3.pos;have l:=h4.pos;have m:=h7.pos;simp only[gG]at c l m;exact(cH _ _ _).2 ⟨gI d,(ig _ _ _).2 ⟨(ig _ _ _).2 ⟨e trivial,i2 trivial⟩,i3 trivial⟩⟩
 case bno i k k1 x b h1 h2 h3 h4 h5 h6 h7 e i2=>intro _;have c:=h3.pos;have l:=h4.pos;simp only[gG]at c l;exact(cH _ _ _).2 ⟨gI d,(ig _ _ _).2 ⟨e trivial,i2 trivial⟩⟩
 case pair i k j x y h1 h2 h3 h4 h5 h6 h7 e i2=>intro _;have c:=h3.pos;have m:=h7.pos;simp only[gG]at c m;exact(cH _ _ _).2 ⟨gI d,(ig _ _ _).2 ⟨e trivial,i2 trivial⟩⟩
 case twhile i k j x b h1 h2 h3 h4 e i2=>intro _;have c:=h3.pos;have l:=h4.pos;simp only[gG]at c l;exact(cH _ _ _).2 ⟨gI d,(ig _ _ _).2 ⟨e trivial,i2 trivial⟩⟩
 case block i k S h1 h2 h3 h4 h5 ih=>intro _;have c:=h3.pos;simp only[gG]at c;exact(cH _ _ _).2 ⟨gI d,ih trivial⟩
 case utab i j E h1 h2 h3 h4 h5 ih=>intro _;have c:=h3.pos;simp only[gG]at c;exact(cH _ _ _).2 ⟨gI d,ih trivial⟩
 case upre i j x h1 h2 h3 ih=>intro _;have c:=h3.pos;simp only[gG]at c;exact(cH _ _ _).2 ⟨gI d,ih trivial⟩
 case item i j x h1 h2 h3 h4 h5 ih=>intro _;have c:=h5.pos;simp only[gG]at c;exact(cH _ _ _).2 ⟨gI d,ih trivial⟩
 case named i j y h1 h2 h3 h4 h5 ih=>intro _;have c:=h5.pos;simp only[gG]at c;exact(cH _ _ _).2 ⟨gI d,ih trivial⟩
 case tcon i j x h1 h2 h3 h4 h5 ih=>intro _;have c:=h5.pos;simp only[gG]at c;exact(cH _ _ _).2 ⟨gI d,ih trivial⟩
 case tret i j E h1 h2 h3 h4 ih=>intro _;have c:=h4.pos;simp only[gG]at c;exact(cH _ _ _).2 ⟨gI d,ih trivial⟩
 case tthrow i j x h1 h2 h3 ih=>intro _;have c:=h3.pos;simp only[gG]at c;exact(cH _ _ _).2 ⟨gI d,ih trivial⟩
 case tdefer i j x h1 h2 h3 ih=>intro _;have c:=h3.pos;simp only[gG]at c;exact(cH _ _ _).2 ⟨gI d,ih trivial⟩
 case tdo i j x h1 h2 h3 h4 h5 h6 ih=>intro _;have c:=h3.pos;simp only[gG]at c;exact(cH _ _ _).2 ⟨gI d,ih trivial⟩
 all_goals first
  |(intro _;exact(cH _ _ _).2 ⟨gI d,trivial⟩)
  |(intro _;simp_all only[cH,ig,aoJ,Fo.all,and_self,true_implies,forall_const])
def P.pl(b:∀a r,a<=r->r<n->0<=(tk a).f/\(tk a).f<=(tk r).t/\0<=(tk a).l){R:Fo}(h:P tk n t i R j):(i+gG t<=j/\j<n)/\(aoJ Pln tk t i->R.all Pln):=⟨⟨h.pos.1,h.pos.2.1⟩,h.allq λa r _ _ _ _ _=>b a r⟩
end
structure Im where
 N:Nd
 b:Nat
 vn:U
 kv:U
def nV(x:Im):U:=gB x.N.k x.b
def pL(L:List Im)(ks:List Int):List U:=ks.map λb=>match L[b.toNat]? with|some a=>nV a|none=> C2
structure nG (W:O) (base:Nat) (vs:U) (L:List Im):Prop where
 row:W.ownsRow base 44 1 vs L.length (L.map nV)
 box:∀(i:Nat) x,L[i]?=M x->ic W x.b x.N x.vn i x.kv
 kid:∀(i:Nat) x,L[i]?=M x->W.ownsRow base 44 1 x.kv x.N.ks.length (pL (L.take i) x.N.ks)
 far:∀x∈L,x.kv.ownBlock=A0\/x.kv.ownBlock≠vs.ownBlock
 rng:∀(i:Nat) x z,L[i]?=M x->z∈x.N.ks->0<=z/\z<(i:Int)
def ic.below{a:Int}(h:ic W b N vn a kv)(c:be W W'):ic W' b N vn a kv:=(c.block _ (ai h)).trans h
def nG.below{base:Nat}{L:List Im}(h:nG W base vs L)(a:be W W'):nG W' base vs L:=
 ⟨de h.row a,λc d b=>(h.box c d b).below a,λc d b=>de (h.kid c d b) a,h.far,h.rng⟩
def sw{a:Nat}{f g:Array U}{d e:Ex}{h i:Nat×Nat}(j:W.heap[a]?=M (B2 f d h))(k:W.heap[b]?=M (B2 g e i))(ht:d≠e):a≠b:=by
 rintro rfl;have c:=j.symm.trans k;simp only[fI,nH]at c;exact ht c.2.1
def qG(c:Nat):yi c≠44/\yi c≠94/\yi c≠61:=by
 unfold yi;split<;>decide
def E8{cs:Array U}{t:Ex}{f:Nat×Nat}(h:W.ownsMap Ax 9 (plainElem (H:=Unit) Ax 3) mb 22 (Ai 22))(c:W.heap[b]?=M (B2 cs t f)):mb≠b:=by
 rintro rfl;obtain⟨e,d,a,g⟩:=h;rw[c]at a;cases a
def ad5(W:O)(g:Nat):Prop:=∃a,W.heap[g]?=M (B2 a 44 (0,0))
def qw{base g:Nat}{i:List U}(h:W.ownsRow base 44 1 v n i)(b:v.ownBlock=M g):ad5 W g/\base<=g:=by
 rcases bJ h with⟨_,rfl⟩|⟨d,j,rfl⟩
 .simp[B7]at b
 .obtain rfl:d=g:=by simpa [B7] using b
  rcases h.2 with⟨a,_⟩|⟨l,k,c,a,e,f,_⟩
  .cases a
  .cases a;exact⟨⟨c,f⟩,e⟩
structure Co (w0:O) (lb mb p bn:Nat) (vs:U) (L:List Im) (N:Nd) (vn vk kv:U) (j:Nat) (W:O):Prop where
 lk:Lk W lb mb vs
 ns:nG W w0.heap.size vs L
 rb:nA p W 61 N vn vk
 bx:ic W bn N vn L.length kv
 kr:W.ownsRow w0.heap.size 44 1 kv j (pL L (N.ks.take j))
 fr:kv.ownBlock=A0\/kv.ownBlock≠vs.ownBlock
 fo:∀x∈L,x.kv.ownBlock=A0\/x.kv.ownBlock≠kv.ownBlock
 bl:be w0 W
 lo:w0.heap.size<=lb/\w0.heap.size<=bn/\w0.heap.size<=p
def Co.below{lb b:Nat}{L:List Im}{c:U}(h:Co w0 lb mb p b vs L N vn c kv j W)(a:be W W'):Co w0 lb mb p b vs L N vn c kv j W':=
 ⟨h.lk.below a,h.ns.below a,h.rb.below a,h.bx.below a,de h.kr a,h.fr,h.fo,h.bl.trans (a.mono h.bl.size),h.lo⟩
def Co.kid{lb b:Nat}{L:List Im}{ad:U}(au:pH w0)(h:Co w0 lb mb p b vs L N vn ad kv j W)(t:W.grownBy W' kv.ownBlock){g i H:Nat}(w:W'.ownsRow w0.heap.size 44 1 (A9 (M ⟨g,0,A0⟩) (j+1) i) (j+1) (pL L (N.ks.take (j+1))))(ar:kv.ownBlock=M g\/g=H)(a0:W.heap.size=H):
  ic W' b N vn L.length kv/\Co w0 lb mb p b vs L N vn ad (A9 (M ⟨g,0,A0⟩) (j+1) i) (j+1) (W'.setCell ⟨b,5,A0⟩ (A9 (M ⟨g,0,A0⟩) (j+1) i)):=by
 have B:∀a,kv.ownBlock=M a->ad5 W a/\w0.heap.size<=a:=λa u=>qw h.kr u;have y:∀{q:Nat}{r:Array U}{l:Ex},W.heap[q]?=M (B2 r l (0,0))->l≠44->W'.heap[q]?=M (B2 r l (0,0)):=λf C=>
  (t.block _ (ai f) (λe=>by obtain⟨⟨v,s⟩,_⟩:=B _ e.symm;exact sw f s C rfl)).trans f
 have n:ic W' b N vn L.length kv:=y h.bx (qG _).1;have an:be w0 W':=h.bl.grown t h.bl.size (λa u=>(B a u).2);have I:be w0 (W'.setCell ⟨b,5,A0⟩ (A9 (M ⟨g,0,A0⟩) (j+1) i)):=an.setCell h.lo.2.1 _;have set:∀{q:Nat}{r:Array U}{l:Ex},W'.heap[q]?=M (B2 r l (0,0))->l≠yi (dF N.k)->(W'.setCell ⟨b,5,A0⟩ (A9 (M ⟨g,0,A0⟩) (j+1) i)).heap[q]?=M (B2 r l (0,0)):=λf C=>
  (aC _ _ _ _ (λe=>by exact sw f n C e)).trans f
 have E:∀{K:U}{J:Nat}{al:List U},W'.ownsRow w0.heap.size 44 1 K J al->(W'.setCell ⟨b,5,A0⟩ (A9 (M ⟨g,0,A0⟩) (j+1) i)).ownsRow w0.heap.size 44 1 K J al:=λw=>
  w.kept (row:=M b) ⟨rfl,rfl,rfl,by simp[World.setCell],λa u o=>aC _ _ _ _ (λe=>o (by rw[e]))⟩ (by
   cases hv:B7 _ with
   |none=>exact .inl rfl
   |some a=>exact .inr (λe=>by obtain⟨⟨v,s⟩,_⟩:=qw w hv;obtain rfl:=bz e;exact sw n s (qG _).1 rfl))
 have ak:vs.ownBlock=A0\/vs.ownBlock≠kv.ownBlock:=by
  rcases h.fr with e|e
  .cases hv:vs.ownBlock with
   |none=>exact .inl rfl
   |some a=>rw[e];exact .inr (by simp)
  .exact .inr (ez e)
 have F:∀a,a<W.heap.size->kv.ownBlock≠M a->M g≠M a:=λa u o e=>by
  obtain rfl:=bz e;rcases ar with e2|e2
  .exact o e2
  .omega
 refine⟨n,⟨⟨set (y h.lk.b (by decide)) (ez (qG _).2.1),?_,au.keep I⟩,⟨E (h.ns.row.kept t ak),?_,?_,h.ns.far,h.ns.rng⟩,set (y h.rb (by decide)) (ez (qG _).2.2),?_,E w,?_,?_,I,h.lo⟩⟩
 .have G:=uB h.lk.m (t.block _ h.lk.m.lt (λe=>by obtain⟨⟨v,s⟩,_⟩:=B _ e.symm;exact E8 h.lk.m s rfl));exact uB G (aC _ _ _ _ (λe=>by exact E8 G n e))
 .intro k c d;have f:=y (h.ns.box k c d) (qG _).1;by_cases o:c.b=b
  .exfalso;have z:=h.ns.box k c d;have e2:=h.bx;unfold ic at z e2;rw[o,e2]at z;have ao:=congrArg (λax=>match ax with|some (Obj.cells v _ _)=>v[4]?|_=>A0) z;simp at ao;have a1:k<L.length:=(List.getElem?_eq_some_iff.1 d).1;omega
  .exact(aC _ _ _ _ o).trans f
 .intro k c d;exact E ((h.ns.kid k c d).kept t (h.fo c (cG d)))
 .unfold ic at n⊢;have:=bg W' b 5 _ _ (A9 (M ⟨g,0,A0⟩) (j+1) i) n;rw[this];simp
 .refine .inr λe=>?_;have x:=e.symm;have A:=(h.ns.row.lt g x).2;exact F g A (by rcases ak with e2|e2;rw[e2]at x;cases x;rw[x]at e2;exact ez e2) rfl
 .intro c d;cases hxk:c.kv.ownBlock with
  |none=>exact .inl rfl
  |some a=>
   refine .inr λe=>?_;have⟨k,av,ap⟩:=iw d;have A:=((h.ns.kid k c (by rw[az av,ap])).lt a hxk).2;refine F a A ?_ e.symm;rcases h.fo c d with e2|e2
   .rw[hxk]at e2;cases e2
   .rw[hxk]at e2;exact ez e2
structure Ps (w0:O) (vb:Nat) (T:ByteArray) (W:O):Prop where
 pg:Pg w0 T W
 ne:vb≠w0.heap.size
 vi:W.heap[vb]?=M (.cells (abi vb) 100 (0,0))
def Ps.below{b:Nat}(h:Ps w0 b T W)(a:be W W'):Ps w0 b T W':=
 ⟨h.pg.below a,h.ne,(a.block _ (ai h.vi)).trans h.vi⟩
def Ps.next{a:Nat}{b:ByteArray}(h:Ps w0 a T W)(p:Pg w0 b W')(k:Kq w0.heap.size W W'):Ps w0 a b W':=
 ⟨p,h.ne,(k.block a (ai h.vi) h.ne (λd e c=>by rw[h.vi]at c;cases c)).trans h.vi⟩
def Pw(a:O)(c:Nat)(f:FuncId)(args:Array U)(e:ByteArray):Prop:=
 ∀(b:ByteArray)(W':O),Ps a c b W'->E0 Ax f args W' λg d=>g= B1 (Ck #[])/\Ps a c (b++e) d/\Kq a.heap.size W' d
abbrev vP(a:Nat):U:= Br (M ⟨a,0,A0⟩)
def lK(a:O)(i t:Nat)(s:ByteArray)(h:s.size<=100000000):Pw a i 329 #[ph a t,Z s] s:=λd e b=>
 (akc a t d s e b.pg h).mono λj k ⟨f,g,c⟩=>⟨f,b.next g c,c⟩
def Jw(a:O)(h t:Nat)(ht:t<=1000000):Pw a h 328 #[ph a t] (fD t):=λd e b=>
 (Le a t ht d e b.pg).mono λi j ⟨f,g,c⟩=>⟨f,b.next g c,c⟩
def imD:Im:=⟨ndD,0,C2,C2⟩
def ny(L:List Im)(z:Int):Im:=L.getD z.toNat imD
def sx(W:O)(L:List Im)(v:U)(c:List Int):Prop:=
 (c=[]/\∃a b,v= A9 a 0 b)\/∃a b,v= A9 (M a) c.length b/\c.length<=b/\∀j d,c[j]?=M d->W.cell? (a.add j)=M (nV (ny L d))
def sx.below{L:List Im}(h:sx W L v zs)(f:be W W'):sx W' L v zs:=by
 rcases h with h|⟨a,b,c,d,e⟩
 .exact .inl h
 .exact .inr ⟨a,b,c,d,λi j g=>ag f (e i j g)⟩
def sx.form{L:List Im}(h:sx W L v zs):∃a c,v= A9 a zs.length c:=by
 rcases h with⟨rfl,a,c,rfl⟩|⟨a,c,rfl,_⟩
 .exact⟨a,c,rfl⟩
 .exact⟨M a,c,rfl⟩
def sx.get{L:List Im}{a:Option Addr}{c:Nat}(h:sx W L (A9 a n c) zs){z:Int}(d:zs[j]?=M z):∃b,a=M b/\zs.length<=c/\W.cell? (b.add j)=M (nV (ny L z)):=by
 rcases h with⟨rfl,_⟩|⟨b,i,e,f,g⟩
 .simp at d
 .cases e;exact⟨b,rfl,f,g j z d⟩
def uK(c:U):Prop:=∀a n b,c= A9 (M a) n b->n<=b/\a=⟨a.block,a.off,A0⟩
structure Tp (w0:O) (ns:List Nd) (L:List Im) (base:Nat) (vs:U):Prop where
 at_:nG w0 base vs L
 map:L.map Im.N=ns
 nms:∀x∈L,bi w0 x.vn x.N.nm
 jn:∀x∈L,uK x.vn
def aqD{L:List Im}{ns:List Nd}(h:L.map Im.N=ns)(z:Int):(ny L z).N=ab ns z:=by
 unfold ny ab;rw[<-h,aD,aD,ci];cases L[z.toNat]?<;>rfl
structure NdQ (w0:O) (L:List Im) (N:Nd) (b:Nat) (vn:U) (a:Option Addr) (n c:Nat):Prop where
 hn:N.ks.length=n
 rd:∀W,be w0 W->∃num,ic W b N vn num (.slice a n c)
 ks:sx w0 L (.slice a n c) N.ks
 nm:bi w0 vn N.nm
 jn:uK vn
def xn{ns:List Nd}{L:List Im}{base:Nat}(T:Tp w0 ns L base vs)(q:i<ns.length):∃b vn a n c,nV (ny L i)= E1 (lH (dF (ab ns i).k)) (Br (M ⟨b,0,A0⟩))/\NdQ w0 L (ab ns i) b vn a n c:=by
 have B:i<L.length:=by rw[<-T.map,bC]at q;exact q
 have e:L[i]?=M (ny L i):=by
  unfold ny;rw[ix,aD,az B];rfl
 have g:=aqD T.map (i:Int);have z:=T.at_.box i _ e;have j:=T.at_.kid i _ e;obtain⟨a,c,r⟩:=cg j;have A:sx w0 L (ny L i).kv (ny L i).N.ks:=by
  rcases j.2 with⟨f,p⟩|⟨h,t,E,f,p,F,w,G,H,I⟩
  .exact .inl ⟨jb p,A0,0,f⟩
  .refine .inr ⟨⟨h,0,A0⟩,t,f,w,λm d l=>?_⟩;have J:=(List.getElem?_eq_some_iff.1 l).1;have o:=j;rw[f]at o;have x:(⟨h,0,A0⟩:Addr).add m=⟨h,m,A0⟩:=by unfold Addr.add;split<;>simp_all
   rw[x,o.cellAt m (by omega)];unfold pL;rw[ci,l];obtain⟨z0,K⟩:=T.at_.rng i _ d e (cG l);have s:d.toNat<L.length:=by omega
   have u:(L.take i)[d.toNat]?=M (L[d.toNat]):=by rw[lp,ae (by omega),az s]
   have v:ny L d=L[d.toNat]:=by unfold ny;rw[aD,az s];rfl
   simp only[ug,u,v]
 refine⟨(ny L i).b,(ny L i).vn,a,_,c,?_,rfl,λC y=>⟨i,?_⟩,?_,?_,T.jn _ (cG e)⟩
 .rw[<-g];rfl
 .rw[<-g,<-r];exact z.below y
 .rw[<-g,<-r];exact A
 .rw[<-g];exact T.nms _ (cG e)
def NdQ.cells{L:List Im}{a:Option Addr}{c:Nat}(h:NdQ w0 L N b vn a n c)(e:be w0 W):W.cell? ⟨b,0,A0⟩=M (B0 B4 N.k)/\W.cell? ⟨b,5,A0⟩=M (A9 a n c)/\∀v,(exT N vn (dF N.k))[0]?=M v->W.cell? ⟨b,6,A0⟩=M v:=by
 obtain⟨g,d⟩:=h.rd W e;unfold ic at d;refine⟨by rw[aj _ _ _ _ _ _ d];rfl,by rw[aj _ _ _ _ _ _ d];rfl,λv f=>?_⟩;rw[aj _ _ _ _ _ _ d];simpa using f
abbrev FD(b:O)(a:Nat)(L:List Im)(t:Nat)(z:Int)(c:ByteArray):Prop:=Pw b a 76 #[vP a,ju b t,nV (ny L z)] c
def qH(k:Nat)(b:Nat)(w:O):(method 438 (lH k) (Br (M ⟨b,0,A0⟩)) "loop.example/warp/impl.head").run Ax w= .ok (330,Br (M ⟨b,0,A0⟩)) w:=by
 match k with
 |0=>exact tr 0 b w
 |1=>exact tr 1 b w
 |2=>exact tr 2 b w
 |3=>exact tr 3 b w
 |4=>exact tr 4 b w
 |5=>exact tr 5 b w
 |k+6=>exact tr 6 b w
def Ps.mth{a:Nat}(h:Ps w0 a T W){k:Nat}(b:(abi a)[k]?=M v):W.cell? ⟨a,k,A0⟩=M v:=by
 rw[aj _ _ _ _ _ _ h.vi];exact b
def aiq(c:O)(a:Nat)(ns:List Nd)(L:List Im)(base:Nat)(G:U)(y:Tp c ns L base G)(t i:Nat)(B:i<ns.length)(b:Nat)(j:(ab ns i).k=(b:Int))(an:b<43)(f:FuncId)(o:(abi a)[b]?=M (mv a f))(ad:∀(args:Array U) (w:O),(callFunc f args).run Ax w= .ok (.enter f args) w)(n:ByteArray)
  (v:Pw c a f #[vP a,ju c t,nV (ny L i)] n):FD c a L t i n:=by
 intro m w e;obtain⟨h,av,I,ar,J,p,l⟩:=xn y B;rw[j]at p;have z:=(l.cells e.pg.bel).1;rw[j]at z;have K:=e.mth o;have F:=λw=>dw h w;have C:=λw=>qH (dF (b:Int)) h w;have g:A2 (Pw c a f #[vP a,ju c t,nV (ny L i)] n):=v;have u:Ps c a m w.drew:=e.below (aw (ah _ _));have q:A2 (Ps c a m w/\Ps c a m w.drew):=⟨e,u⟩;have sX:A2 (∀r d,Ps c a r d->d.cell? ⟨h,0,A0⟩=M (B0 B4 (b:Int))/\d.cell? ⟨a,b,A0⟩=M (mv a f)):=λr d s=>⟨by have:=(l.cells s.pg.bel).1;rwa [j]at this,s.mth o⟩;rw[p]at g⊢;generalize ju c t=ap at g⊢;generalize lH (dF (b:Int))=au at g C⊢;have ak:(0:Int)<=(b:Int):=by omega
 have al:(b:Int)<43:=by omega
 clear v p l e o j u;go_enter func76,ntmps76;go_wp2_with fail;go_region_held3 (λd=>d.cell? ⟨h,0,A0⟩=M (B0 B4 (b:Int))/\d.cell? ⟨a,b,A0⟩=M (mv a f)) (first|exact sX.out _ _ q.out.2|exact sX.out _ _ x|go_keep) (first|(go_at_call 330;refine(F _).mono ?_;rintro A H ⟨rfl,ao⟩;subst H)|(refine(g.out _ _ q.out.2).mono ?_;rintro A ax ⟨rfl,x,E⟩))
 go_wp2_with fail;go_end0
 exact⟨rfl,x,(Kq.of_below (aw (ah _ _))).trans E⟩
def aaz(a:O)(d:Nat)(L:List Im)(t:Nat)(e:List Int)(v:U)(p:sx a L v e)(a1:e.length<=1048576)(E:Int->ByteArray)(A:∀z∈e,FD a d L t z (E z)):
  Pw a d 118 #[vP d,ju a t,v] (bK (e.map E)):=by
 intro h r J;obtain⟨ar,av,rfl⟩:=p.form;obtain⟨f,o⟩:∃f,e.length=f:=⟨_,rfl⟩;rw[o]at p a1⊢;have u:A2 (Ps a d h r/\sx a L (A9 ar f av) e/\(∀z∈e,FD a d L t z (E z))/\e.length=f):=⟨J,p,A,o⟩;obtain⟨b,n⟩:∃b,e.map E=b:=⟨_,rfl⟩;rw[n];have F:A2 (e.map E=b/\b.length=f):=⟨n,by rw[<-n,bC];exact o⟩;have a0:=λr=>qz a.heap.size (gx t) r;have x:A2 (Pw a d 329 #[ph a t,Z dH] dH):=lK a d t dH (by decide);have w:A2 (∀z∈e,Pw a d 76 #[vP d,ju a t,nV (ny L z)] (E z)):=A;unfold ju ph at w x⊢;generalize gx t=a2 at a0 x w⊢;clear J p A o n;go_enter func118,ntmps118;go_wp2;go_loopw [10] (λB wr=>∃c:Nat,c<=f/\B= B0 B4 c/\A2 (Ps a d (h++bK (b.take c)) wr/\Kq a.heap.size r wr)) (λB _=>f-(intOf B).toNat)
 case atStart=>exact⟨0,by omega,rfl,by rw[show h++bK (b.take 0)=h from ByteArray.append_empty];exact u.out.1,Kq.refl _ _⟩
 case round=>
  obtain⟨c,a4,rfl,g⟩:=hrel;by_cases ax:c<f
  .obtain⟨z,q⟩:=cA u.out.2.2.2 ax;obtain⟨au,rfl,_,H⟩:=(u.out.2.1.below g.out.1.pg.bel).get q;have ak:b[c]?=M (E z):=by rw[<-F.out.1,ci,q];rfl
   have ad:=qu b c (E z) ak;have y:=w.out z (cG q);generalize nV (ny L z)=ao at H y;have G:A2 (Pw a d 76 #[vP d,E1 54 (.agg #[Br (M ⟨a.heap.size,0,A0⟩),Z a2]),ao] (E z)):=y;have m:A2 (bK (b.take (c+1))=(if c=0 then bK (b.take c) else bK (b.take c)++dH)++E z):=ad;clear ad q ak y;by_cases K:c=0
   .subst K;have k:bK (b.take (0+1))=bK (b.take 0)++E z:=by rw[m.out,ae rfl]
    have s:A2 (bK (b.take (0+1))=bK (b.take 0)++E z):=k;clear k m;have a3:wr.cell? au=M ao:=by simpa [Addr.add] using H
    go_wp2_with (go_at_call 76;fail);refine(G.out _ _ g.out.1).mono ?_;rintro I i ⟨rfl,p2,l⟩;have j:A2 (Ps a d (h++bK (b.take 0)++E z) i/\Kq a.heap.size wr i):=⟨p2,l⟩;clear p2 l;go_wp2_with fail;refine⟨⟨1,by omega,by go_num,?_,g.out.2.trans j.out.2⟩,by simp[intOf];omega⟩;rw[show(1:Nat)=0+1 from rfl,s.out,<-aK];exact j.out.1
   .have k:bK (b.take (c+1))=bK (b.take c)++dH++E z:=by rw[m.out,aa K]
    have s:A2 (bK (b.take (c+1))=bK (b.take c)++dH++E z):=k;clear k m;have a5:(0:Int)<(c:Int):=by omega
    go_wp2_with (go_at_call 329;fail);refine(x.out _ _ g.out.1).mono ?_;rintro I i ⟨rfl,p2,l⟩;have j:A2 (Ps a d (h++bK (b.take c)++dH) i/\Kq a.heap.size wr i):=⟨p2,l⟩;clear p2 l;go_wp2_with (go_at_call 76;fail);refine(G.out _ _ j.out.1).mono ?_;rintro I ap ⟨rfl,an,al⟩;have C:A2 (Ps a d (h++bK (b.take c)++dH++E z) ap/\Kq a.heap.size i ap):=⟨an,al⟩;clear an al;go_wp2_with fail;refine⟨⟨c+1,by omega,by go_num,?_,(g.out.2.trans j.out.2).trans C.out.2⟩,by simp[intOf];omega⟩;rw[s.out,<-aK,<-aK];exact C.out.1
  .obtain rfl:c=f:=by omega
   go_wp2_with fail;go_end0
   refine⟨rfl,?_,g.out.2⟩;have:=g.out.1
   rwa [cj (by rw[F.out.2];exact af _)]at this
def oL(a:O)(b:Nat)(t:Nat)(s X:ByteArray)(r:s.size<=100000000)(v:U)(h:Pw a b 118 #[vP b,ju a t,v] X):
  Pw a b 116 #[vP b,ju a t,Z s,v] (s++X):=by
 intro d c g;have u:=λc=>qz a.heap.size (gx t) c;have o:A2 (Pw a b 329 #[ph a t,Z s] s):=lK a b t s r;have p:A2 (Pw a b 118 #[vP b,ju a t,v] X):=h;have n:A2 (Ps a b d c):=g;unfold ju ph at *;generalize gx t=w at *;clear g h;go_enter func116,ntmps116;go_wp2_with (go_at_call 329;fail);refine(o.out _ _ n.out).mono ?_;rintro q l ⟨rfl,p2,i⟩;have e:A2 (Ps a b (d++s) l/\Kq a.heap.size c l):=⟨p2,i⟩;clear p2 i;go_wp2_with (go_at_call 118;fail);refine(p.out _ _ e.out.1).mono ?_;rintro q m ⟨rfl,k,j⟩;have f:A2 (Ps a b (d++s++X) m/\Kq a.heap.size c m):=⟨k,e.out.2.trans j⟩;clear k j;go_wp2_with fail;go_end0
 exact⟨rfl,by rw[<-aK];exact f.out.1,f.out.2⟩
def yo(a:O)(b:Nat)(t:Nat)(s X e:ByteArray)(v f:U)(l:Pw a b 116 #[vP b,ju a t,Z s,v] X)(m:Pw a b 76 #[vP b,ju a t,f] e):
  Pw a b 120 #[vP b,ju a t,Z s,v,f] (X++⟨#[32]⟩++e):=by
 intro d c k;have C:=λc=>qz a.heap.size (gx t) c;have z:A2 (Pw a b 116 #[vP b,ju a t,Z s,v] X):=l;have A:A2 (Pw a b 329 #[ph a t,Z ⟨#[32]⟩] ⟨#[32]⟩):=lK a b t _ (by decide);have B:A2 (Pw a b 76 #[vP b,ju a t,f] e):=m;have y:A2 (Ps a b d c):=k;unfold ju ph at *;generalize gx t=E at *;clear k l m;go_enter func120,ntmps120;go_wp2_with (go_at_call 116;fail);refine(z.out _ _ y.out).mono ?_;rintro j u ⟨rfl,p2,n⟩;have g:A2 (Ps a b (d++X) u/\Kq a.heap.size c u):=⟨p2,n⟩;clear p2 n;go_wp2_with (go_at_call 329;fail);refine(A.out _ _ g.out.1).mono ?_;rintro j w ⟨rfl,q,o⟩;have h:A2 (Ps a b (d++X++⟨#[32]⟩) w/\Kq a.heap.size c w):=⟨q,g.out.2.trans o⟩;clear q o;go_wp2_with (go_at_call 76;fail);refine(B.out _ _ h.out.1).mono ?_;rintro j x ⟨rfl,r,p⟩;have i:A2 (Ps a b (d++X++⟨#[32]⟩++e) x/\Kq a.heap.size c x):=⟨r,h.out.2.trans p⟩;clear r p;go_wp21
 go_end0
 exact⟨rfl,by have:=i.out.1;simpa only[aK] using this,i.out.2⟩
def ot(a:O)(f t:Nat)(s T:ByteArray)(l:s.size<=100000000)(u:FrameMode)(w:O)(h:Ps a f T w):
  CallsD Ax 329 #[ph a t,Z s] u w λe m w'=>m=u/\(e= B1 (Ck #[])/\Ps a f (T++s) w'/\Kq a.heap.size w w'):=by
 have c:∀d,be w (w.alloc d):=λd=>(ah _ w).alloc (af _) d;have i:A2 (∀b,be w b->E0 Ax 326 #[Br (M ⟨a.heap.size,0,A0⟩),Z s] b λe w'=>e= B1 (Ck #[])/\Pg a (T++s) w'/\Kq a.heap.size b w'):=λb k=>Is a T s b (h.pg.below k) l;have j:A2 (Ps a f T w):=h;unfold ph;generalize gx t=n;clear h;go_enter_d func329,ntmps329
 go_wp2_with (go_at_call 326;refine(i.out _ (c _)).mono ?_;rintro e o ⟨rfl,p2,g⟩);go_end0
 exact⟨rfl,j.out.next p2 ((Kq.of_below (c _)).trans g),(Kq.of_below (c _)).trans g⟩
def uC(b:Nat)(a s:ByteArray)(w:O):(invoke (.fn (.method "loop.example/warp/impl.put") #[]) #[E1 54 (.agg #[Br (M ⟨b,0,A0⟩),Z a]),Z s]).run Ax w= .ok (.enter 329 #[.agg #[Br (M ⟨b,0,A0⟩),Z a],Z s]) w:=by kernel_rfl
def zI(a:O)(b t:Nat)(v:U)(e:ByteArray)(l:Pw a b 76 #[vP b,ju a t,v] e):
  Pw a b 124 #[vP b,ju a t,v,Ce B3] (lB e):=by
 intro d c h;have B:=λc=>qz a.heap.size (gx t) c;have w:A2 (Pw a b 329 #[ph a t,Z ⟨#[40]⟩] ⟨#[40]⟩):=lK a b t _ (by decide);have x:A2 (Pw a b 76 #[vP b,ju a t,v] e):=l;have y:A2 (∀d c,Ps a b d c->∀i,CallsD Ax 329 #[ph a t,Z ⟨#[41]⟩] i c λg p q=>p=i/\(g= B1 (Ck #[])/\Ps a b (d++⟨#[41]⟩) q/\Kq a.heap.size c q)):=λd c h i=>ot a b t _ d (by decide) i c h;have u:A2 (Ps a b d c):=h;unfold ju ph at *;generalize gx t=C at *;clear h l;go_enter_defers func124,ntmps124
 go_wp2_with (go_at_call 329;fail);refine(w.out _ _ u.out).mono ?_;rintro g r ⟨rfl,p2,m⟩;have j:A2 (Ps a b (d++⟨#[40]⟩) r/\Kq a.heap.size c r):=⟨p2,m⟩;clear p2 m;go_wp2_with (go_at_call 76;fail);refine(x.out _ _ j.out.1).mono ?_;rintro g s ⟨rfl,o,n⟩;have k:A2 (Ps a b (d++⟨#[40]⟩++e) s/\Kq a.heap.size c s):=⟨o,j.out.2.trans n⟩;clear o n;go_wp2_with fail;refine rp (f:=329) (by simp) (uC _ _ _ _) ?_;refine(y.out _ _ k.out.1 .returning).mono ?_;rintro g p E ⟨rfl,rfl,A,z⟩;refine⟨_,fK rfl _ _ _,rfl,?_,k.out.2.trans z⟩;unfold lB;simpa only[aK] using A
def Jy(b:O)(a t:Nat)(v:U)(c:ByteArray)(e:Pw b a 76 #[vP a,ju b t,v] c):
  Pw b a 124 #[vP a,ju b t,v,Ce B6] c:=by
 intro h k d;have g:A2 (Pw b a 76 #[vP a,ju b t,v] c):=e;have f:A2 (Ps b a h k):=d;unfold ju ph at *;generalize gx t=m at *;clear d e;go_enter_defers func124,ntmps124
 go_wp2_with (go_at_call 76;fail);refine(g.out _ _ f.out).mono ?_;rintro l n ⟨rfl,j,i⟩;go_wp2;exact⟨_,fK rfl _ _ _,rfl,j,i⟩
def rF(b:O)(a t:Nat)(v:U)(c:ByteArray)(d:Bool)(e:Pw b a 76 #[vP a,ju b t,v] c):
  Pw b a 124 #[vP a,ju b t,v,Ce d] (if d=B3 then lB c else c):=by
 cases d
 .rw[aa (by simp)];exact Jy b a t v c e
 .rw[ae rfl];exact zI b a t v c e
def ad6(a:O)(b t:Nat)(v:U)(e:ByteArray)(l:Pw a b 76 #[vP b,ju a t,v] e):
  Pw a b 129 #[vP b,ju a t,v] (⟨#[91]⟩++e++⟨#[93]⟩):=by
 intro d c h;have B:=λc=>qz a.heap.size (gx t) c;have w:A2 (Pw a b 329 #[ph a t,Z ⟨#[91]⟩] ⟨#[91]⟩):=lK a b t _ (by decide);have x:A2 (Pw a b 76 #[vP b,ju a t,v] e):=l;have y:A2 (∀d c,Ps a b d c->∀i,CallsD Ax 329 #[ph a t,Z ⟨#[93]⟩] i c λg p q=>p=i/\(g= B1 (Ck #[])/\Ps a b (d++⟨#[93]⟩) q/\Kq a.heap.size c q)):=λd c h i=>ot a b t _ d (by decide) i c h;have u:A2 (Ps a b d c):=h;unfold ju ph at *;generalize gx t=C at *;clear h l;go_enter_defers func129,ntmps129
 go_wp2_with (go_at_call 329;fail);refine(w.out _ _ u.out).mono ?_;rintro g r ⟨rfl,p2,m⟩;have j:A2 (Ps a b (d++⟨#[91]⟩) r/\Kq a.heap.size c r):=⟨p2,m⟩;clear p2 m;go_wp2_with (go_at_call 76;fail);refine(x.out _ _ j.out.1).mono ?_;rintro g s ⟨rfl,o,n⟩;have k:A2 (Ps a b (d++⟨#[91]⟩++e) s/\Kq a.heap.size c s):=⟨o,j.out.2.trans n⟩;clear o n;go_wp2_with fail;refine rp (f:=329) (by simp) (uC _ _ _ _) ?_;refine(y.out _ _ k.out.1 .returning).mono ?_;rintro g p E ⟨rfl,rfl,A,z⟩;refine⟨_,fK rfl _ _ _,rfl,?_,k.out.2.trans z⟩;simpa only[aK] using A
def afB(a:O)(c:Nat)(ns:List Nd)(L:List Im)(base:Nat)(A:U)(w:Tp a ns L base A)(t i:Nat)(y:i<ns.length)(d:ByteArray)(q:FD a c L t i d):
  Pw a c 128 #[vP c,ju a t,nV (ny L i)] (if lF (ab ns i).k=B3 then d else lB d):=by
 intro v e g;obtain⟨o,al,E,ad,F,s,n⟩:=xn w y;have C:=(n.cells g.pg.bel).1;have u:=λe=>dw o e;have r:=λe=>qH (dF (ab ns i).k) o e;have b:A2 (Pw a c 124 #[vP c,ju a t,nV (ny L i),Ce (!lF (ab ns i).k)] (if lF (ab ns i).k=B3 then d else lB d)):=by
  have:=rF a c t (nV (ny L i)) d (!lF (ab ns i).k) q;cases hb:lF (ab ns i).k<;>simp[hb]at this⊢ <;>exact this
 have m:A2 (Ps a c v e):=g;rw[s]at b⊢;generalize (ab ns i).k=k at C r b⊢;generalize lH (dF k)=ak at r b⊢;generalize ju a t=K at b⊢;clear g n s q;cases hb:lF k with
 |true=>
  rw[hb]at b;have x:k=26\/k=32\/k=33\/k=34\/k=37:=by unfold lF at hb;simp at hb;omega
  clear hb;rcases x with rfl|rfl|rfl|rfl|rfl<;>
  .go_enter func128,ntmps128;go_wp2_with (first|(go_at_call 330;refine(u _).mono ?_;rintro f l ⟨rfl,z⟩;subst l)|(go_at_call 124;refine(b.out _ _ m.out).mono ?_;rintro f B ⟨rfl,j,k3⟩));go_end0
   exact⟨rfl,j,k3⟩
 |false=>
  rw[hb]at b;have p:(k==26)=B6/\(k==32)=B6/\(k==33)=B6/\(k==34)=B6/\(k==37)=B6:=by unfold lF at hb;simp at hb;simp;omega
  obtain⟨p,G,H,I,J⟩:=p;clear hb;go_enter func128,ntmps128;go_wp2_with (first|(go_at_call 330;refine(u _).mono ?_;rintro f l ⟨rfl,z⟩;subst l)|(go_at_call 124;refine(b.out _ _ m.out).mono ?_;rintro f B ⟨rfl,j,k3⟩));go_end0
  exact⟨rfl,j,k3⟩
attribute [local go_sem] mi
def qm(w:O)(b i:Nat)(v:U):w.grownBy (w.setCell ⟨b,i,A0⟩ v) (M b):=
 ⟨rfl,rfl,rfl,by simp[World.setCell],λd c a=>aC _ _ _ _ (by simpa using a)⟩
def air(s:ByteArray)(p:Nat)(w:O):E0 Ax 149 #[Z (s.extract p s.size),Z ⟨#[45,45]⟩] w (kL w (Ce (decide (aA s p=45/\aA s (p+1)=45)))):=by
 have a:=Tryz.strings_HasPrefix (s.extract p s.size) ⟨#[45,45]⟩ w;rw[show(⟨#[45,45]⟩:ByteArray).data.toList=[45,45] from rfl,IK]at a;exact a
structure amJ (q:Int->Bool) (s:ByteArray) (f p e:Nat):Prop where
 out:jD q s f p=e
attribute [local go_sem] mi
def ScX(b:Nat)(W:O):Prop:=∃a c,W.heap[b]?=M (B2 a 123 c)
def C6.x{m:U}{p l:Int}{k:Bool}(h:C6 b W s m p l k):ScX b W:=by obtain⟨a,h⟩:=h;exact⟨_,_,h⟩
structure Iw (b mb B:Nat) (s:ByteArray) (I:Nat->Int->O->Prop) (W:O) (q:Nat) (l2:Int) (p:Nat) (l:Int):Prop where
 sc:C6 b W s (.map (M mb)) q l2 B6
 mp:W.ownsMap Ax 9 (plainElem (H:=Unit) Ax 3) mb 22 (Ai 22)
 ly:Lay W
 ii:I p l W
 sz:B<=W.heap.size
def Iw.gr{B:Nat}{I:Nat->Int->O->Prop}{n e f:Nat}{l m c d:Int}(h:Iw b mb B s I W n m p l)(g:∀p l W W',I p l W->ScX b W->W.grownBy W' (M b)->I p l W')(j:mb≠b)(q:12<=b)(o:12<=B)(a:W.grownBy W' (M b))(hS:C6 b W' s (.map (M mb)) f d B6)(i:I p l W'->I e c W'):Iw b mb B s I W' f d e c:=
 ⟨hS,h.mp.kept a (by simp[j]),h.ly.blocks (λk r=>a.block k (by have:=h.sz;omega) (by simp;omega)),i (g _ _ _ _ h.ii h.sc.x a),di h.sz a.size⟩
structure E9 (s:ByteArray) (p:Nat):Prop where
 lt:p<s.size
 nb:¬kC (aA s p)=B3
 nd:¬(aA s p=45/\aA s (p+1)=45)
attribute [local go_sem] mi
def afC(n l b mb B:Nat)(s:ByteArray)(dc:s.size<=70000)(cz:b<B)(z:mb≠b)(y:12<=b)
  (I:Nat->Int->O->Prop) (H:∀p l W W',I p l W->ScX b W->W.grownBy W' (M b)->I p l W') (bl:∀p h l W,blk s (s.size+1) p=blk s (s.size+1) h->p<=h->h<=s.size->I p l W->I h l W) (cu:∀p l W,I p l W->0<=l/\l<=(p:Int)+1/\p<=s.size)
  (cv:∀p l W,E9 s p->I p l W->(du s p).ok=B3) (i:O->Prop) (cs:∀W W',KeepsFrom B W W'->i W->i W')
  (cx:∀p c W,E9 s p->(du s p).ok=B3->Iw b mb B s I W (du s p).a (c+(du s p).d) p c->i W->YieldAt Fence.wide (n-1) Ax l #[vTk ⟨(du s p).k,(p:Int),((du s p).a:Int),c,(du s p).n,(du s p).x⟩] W λe W'=>e= B1 (Ce B3)/\Iw b mb B s I W' (du s p).a (c+(du s p).d) (du s p).a (c+(du s p).d)/\i W')
  (W:O) (br:Nat) (bp:Int) (a6:Iw b mb B s I W br bp br bp) (cq:i W):
  CallsIn Fence.wide n Ax 88 #[Br (M ⟨b,0,A0⟩),.func (.yield l) #[] #[]] W λe W'=>(∃v,e= B1 v)/\(∃l,Iw b mb B s I W' s.size l s.size l)/\i W':=by
 have bb:∀{g bx:O},g.grownBy bx (M b)->i g->i bx:=λc7 f=>cs _ _ (KeepsFrom.of_grownBy c7 (λba e=>by cases e;exact cz)) f;refine callsIn_wide.2 ?_;go_in;go_wp2;go_step3
 go_wp2;go_step3
 go_wp2;have C:∀{g:O}{p:Nat}{c:Int}(h:Nat),Iw b mb B s I g p c p c->Iw b mb B s I (g.drewN h) p c p c:=λh f=>f.gr H z y (by omega) (vy (rq _ b) h) f.sc id;have o:∀{g:O}(h:Nat),i g->i (g.drewN h):=λh f=>bb (vy (rq _ b) h) f;have d0:∀{g:O}{p:Nat}{c:Int}(A:Nat),blk s (s.size+1) p=blk s (s.size+1) A->p<=A->A<=s.size->Iw b mb B s I g p c p c->Iw b mb B s I (g.setCell ⟨b,3,A0⟩ (B0 B4 (A:Int))) A c A c:=λA cI c9 dn f=>f.gr H z y (by omega) (qm _ b 3 _) (f.sc.setP _) (bl _ _ _ _ cI c9 dn);have ca:∀{g:O}(v:U),i g->i (g.setCell ⟨b,3,A0⟩ v):=λv f=>bb (qm _ b 3 v) f;go_loopw [] (λwr=>∃(p:Nat) (c:Int),Iw b mb B s I wr p c p c/\i wr) (λwr=>s.size-Gr b wr)
 case atStart=>exact⟨br,bp,a6,cq⟩
 case round=>
  obtain⟨p,c,ax,bD⟩:=hrel;have b3:=C6.pos ax.sc;obtain⟨da,d7,b2⟩:=cu _ _ _ ax.ii;have⟨K,L,ad,ak,al,an,ao,ap⟩:=C6.cells ax.sc;by_cases a2:p<s.size
  .have d9:(p:Int)<(s.size:Int):=by omega
   have ds:=λj=>fL a2 j;have bh:=am b3;go_wp2_with fail;go_quiet (fail)
   go_wp2_with fail;have a7:=C nq ax;have bk:=o nq bD;generalize wr.drewN nq=ce at a7 bk⊢;have⟨K,L,ad,ak,al,an,ao,ap⟩:=C6.cells a7.sc;have a3:∀j,E0 Ax 148 #[B0 .u8 (aA s p)] j (kL j (Ce (kC (aA s p)))):=λj=>(Kg _ j).mono λe eb f=>⟨f.1,f.2.symm⟩;cases hbl:kC (aA s p) with
   |true=>
    have a0:=AI s p a2 hbl;rw[hbl]at a3;generalize aA s p=cl at ds a3;go_quiet ((go_at_call 148;exact A5 (a3 _)))
    have r:=d0 (p+1) a0 (by omega) (by omega) (C nq a7);have E:=ca (B0 B4 ((p+1:Nat):Int)) (o nq bk);rw[show((p+1:Nat):Int)=(p:Int)+1 by omega]at r E;go_wp2;exact⟨⟨p+1,c,r,E⟩,by rw[C6.pos r.sc,bh.out];omega⟩
   |false=>
    rw[hbl]at a3;go_quiet ((go_at_call 148;exact A5 (a3 _)))
    go_wp2_with fail;have r:=C nq a7;have E:=o nq bk;generalize ce.drewN nq=bw at r E⊢;have⟨K,L,ad,ak,al,an,ao,ap⟩:=C6.cells r.sc;have bc:=λj=>air s p j;by_cases J:aA s p=45/\aA s (p+1)=45
    .rw[aI J]at bc;have a0:=Eg s p J.1 J.2;have d8:=zo s p J.1;go_quiet ((go_at_call 149;exact A5 (bc _)))
     go_wp2_with fail;have t:=C nq r;have au:=o nq E;generalize bw.drewN nq=cf at t au⊢;go_loopw [] (λwq=>∃(k q:Nat),p<=k/\k<=s.size/\s.size<k+q/\amJ nnB s q k (nlE s p)/\Iw b mb B s I wq k c p c/\i wq) (λwq=>s.size-Gr b wq)
     case atStart=>exact⟨p,s.size+1,af _,b2,by omega,⟨rfl⟩,t,au⟩
     case round=>
      obtain⟨k,q,df,c8,d5,b4,u,bA⟩:=hrel;obtain⟨q,rfl⟩:∃h,q=h+1:=⟨q-1,by omega⟩;have⟨K,L,ad,ak,al,an,ao,ap⟩:=C6.cells u.sc;have w:=b4.out;rw[jD]at w;have dg:=C6.pos u.sc;have cb:=am dg;have bj:∀{g:O}{h:Nat}(ba:Nat),Iw b mb B s I g h c p c->Iw b mb B s I (g.drewN ba) h c p c:=λba f=>f.gr H z y (by omega) (vy (rq _ b) ba) f.sc id;have dp:∀{g:O}{h:Nat}(bs:Nat),Iw b mb B s I g h c p c->Iw b mb B s I (g.setCell ⟨b,3,A0⟩ (B0 B4 (bs:Int))) bs c p c:=λbs f=>f.gr H z y (by omega) (qm _ b 3 _) (f.sc.setP _) id;by_cases b1:k<s.size
      .have d6:(k:Int)<(s.size:Int):=by omega
       have b6:=λj=>fL b1 j;go_wp2_with fail;go_quiet (fail)
       go_wp2_with fail;have G:=bj nq u;have av:=o nq bA;generalize wr.drewN nq=ck at G av⊢;obtain⟨K,L,ad,ak,al,an,ao,ap⟩:=C6.cells G.sc;by_cases ar:aA s k=10
       .rw[aa (by rw[ar];decide)]at w;rw[ar]at b6;have a5:=am w;clear w b4 ar;go_quiet (fail)
        go_wp2_with fail;have m:=bj nq G;have F:=o nq av;rw[<-a5.out]at a0;have a8:Iw b mb B s I (ck.drewN nq) k c k c:=⟨m.sc,m.mp,m.ly,bl _ _ _ _ a0 df c8 m.ii,m.sz⟩;exact⟨⟨k,c,a8,F⟩,by rw[C6.pos m.sc,bh.out];have:=a5.out;omega⟩
       .have dd:nnB (aA s k)=B3:=by
         have:=oa b1;unfold nnB;rw[Ct];exact⟨ar,by omega⟩
        rw[ae dd]at w;have cp:(aA s k==10)=B6:=by rw[eJ];exact ar
        generalize aA s k=cl at b6 cp;have cc:amJ nnB s q (k+1) (nlE s p):=⟨w⟩;go_quiet (fail)
        have m:=dp (k+1) (bj nq G);have F:=ca (B0 B4 ((k+1:Nat):Int)) (o nq av);rw[show((k+1:Nat):Int)=(k:Int)+1 by omega]at m F;go_wp2;exact⟨⟨k+1,q,by omega,by omega,by omega,cc,m,F⟩,by rw[C6.pos m.sc,cb.out];omega⟩
      .obtain rfl:k=s.size:=by omega
       rw[aa (by rw[dJ (Nat.lt_irrefl _)];decide)]at w;have a5:=am w;have ct:Iw b mb B s I wr s.size c s.size c:=⟨u.sc,u.mp,u.ly,bl _ _ _ _ (by rw[a0,<-a5.out]) b2 (af _) u.ii,u.sz⟩;go_wp2_with fail;go_quiet (fail)
       go_wp2;rw[Cz];refine bH (fK rfl _ _ _) rfl ?_;exact⟨⟨_,rfl⟩,⟨c,C _ ct⟩,o _ bA⟩
    .have cF:=J;rw[aE J]at bc;have cB:¬kC (aA s p)=B3:=by rw[hbl];simp
     have bv:E9 s p:=⟨a2,cB,cF⟩;have bo:=uw s p a2;have dx:=λ(j:O) (a6:Iw b mb B s I j p c p c) (cm:Int) (c6:je b j s (.map (M mb)) cm p c B6)=>afn s dc b mb j p c a2 da (by omega) z y c6 a6.mp a6.ly;have bn:=λW=>cx p c W bv;have a1:=cv p c;go_quiet ((go_at_call 149;exact A5 (bc _)))
     go_wp2_with fail;have t:=C nq r;have au:=o nq E;have⟨cn,bE⟩:=t.sc;have bd:=dx _ t cn bE;replace a1:=a1 _ bv t.ii;generalize bw.drewN nq=cf at t au bd bE⊢;generalize du s p=cd at bd bo bn a1;obtain⟨ea,a4,bt,b7,b8,b9⟩:=cd;simp only at bd bo bn a1;subst a1;refine bd.mono ?_;rintro e bf ⟨rfl,bF,a9⟩;have av:=bb bF au;have cy:=ai a9;have b3:=bo rfl;have b0:=World.grownBy_alloc bf (B2 #[B0 B4 b7,B0 B4 p,B0 B4 (a4:Int),B0 B4 c,B0 B4 b8,Z b9] 74) (M b);have G:Iw b mb B s I bf a4 (c+bt) p c:=t.gr H z y (by omega) bF ⟨_,a9⟩ id;have m:Iw b mb B s I (bf.alloc (B2 #[B0 B4 b7,B0 B4 p,B0 B4 (a4:Int),B0 B4 c,B0 B4 b8,Z b9] 74)) a4 (c+bt) p c:=G.gr H z y (by omega) b0 ⟨_,(fp bf _ b cy).trans a9⟩ id;have F:=bb b0 av;obtain⟨d4,tmps,d2,d3,b5,cw⟩:=bn _ rfl m F;unfold vTk at b5;simp only at b5;have⟨K,L,ad,ak,al,an,ao,ap⟩:=iC a9;go_upto_region 8 with fail
     refine(uh (n:=n)).1 ?_
     gi_wp2
     refine⟨λf=>by simp[Fence.wide]at f,cw.mono ?_⟩;rintro e d1 ⟨rfl,a8,cr⟩
     gi_wp2
     go_wp2;exact⟨⟨a4,c+bt,a8,cr⟩,by rw[C6.pos a8.sc,bh.out];omega⟩
  .obtain rfl:p=s.size:=by omega
   go_wp2_with fail;go_quiet (fail)
   go_wp2;try rw[Exit.noGoto_normal]
   go_end0
   exact⟨⟨_,rfl⟩,⟨c,C _ ax⟩,o _ bD⟩
