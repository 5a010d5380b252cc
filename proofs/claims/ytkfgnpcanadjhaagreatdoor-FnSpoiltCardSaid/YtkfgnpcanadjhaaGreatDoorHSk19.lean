import Derived.Test.YtkfgnpcanadjhaaGreatDoorHSk08
import Derived.Test.YtkfgnpcanadjhaaGreatDoorHSk13
import Derived.Test.YtkfgnpcanadjhaaGreatDoorHSk09
import Derived.Test.YtkfgnpcanadjhaaGreatDoorHSk15
import Derived.Test.YtkfgnpcanadjhaaGreatDoorHSk18
set_option linter.all false
set_option maxRecDepth 100000
set_option maxHeartbeats 25600000
namespace Go.Proofs.YtkfgnpcanadjhaaGreatDoor
open Go.RowKit Go.Maps Go.WideMaps
theorem aeg(i:Nat)(a:i<11):mA (40+(i:Int))=cC mz i:=by
 unfold mA
 rw[aa (by omega),aa (by omega),aa (by omega),ab (by omega)]
 rw[show(40+(i:Int)-40).toNat=i by omega]
theorem aeh(i:Nat)(a:i<18):mA (61+(i:Int))=cC ut i:=by
 unfold mA
 rw[aa (by omega),aa (by omega),aa (by omega),aa (by omega),ab (by omega)]
 rw[show(61+(i:Int)-61).toNat=i by omega]
def Sgn(r:ByteArray)(k:Int)(n:Nat):Prop:=(k=0/\n=0)\/(n=(mA k).size/\1<=n/\Lib.hasPrefix r.data.toList (mA k).data.toList=true/\k≠0)
theorem CC(V:Array Value)(base:Int)(r:ByteArray)(N:Nat)(d:0<base)(c:∀i,i<N->mA (base+(i:Int))=cC V i):∀(f i:Nat)(a:Int×Nat),i+f<=N->Sgn r a.1 a.2->Sgn r (J2 V base r f i a).1 (J2 V base r f i a).2
 |0,i,a,_,b=>b
 |f+1,i,a,g,b=>by
  unfold J2
  refine CC V base r N d c f (i+1) _ (by omega) ?_
  split
  ·rename_i e
   refine .inr ⟨?_,?_,?_,?_⟩
   ·show(cC V i).size=_;rw[c i (by omega)]
   ·show 1<=(cC V i).size;omega
   ·show Lib.hasPrefix _ (mA (base+(i:Int))).data.toList=true;rw[c i (by omega)];exact e.2
   ·show base+(i:Int)≠0;omega
  ·exact b
theorem aei(r x:ByteArray)(a:Lib.hasPrefix r.data.toList x.data.toList=true):x.size<=r.size:=by
 unfold Lib.hasPrefix at a
 rw[xb]at a
 have:=a.length_le
 rwa [gw,gw]at this
theorem aej(r:ByteArray)(h:0<r.size)(a:uA r≠0):1<=(mA (uA r)).size/\(mA (uA r)).size<=r.size:=by
 unfold uA at a⊢
 split
 ·exact⟨by decide,by show 1<=r.size;omega⟩
 split
 ·exact⟨by decide,by show 1<=r.size;omega⟩
 rename_i c d
 rw[aa c,aa d]at a
 have f:=CC mz 40 r 11 (by omega) aeg 11 0 (0,0) (by omega) (.inl ⟨rfl,rfl⟩)
 have g:=CC ut 61 r 18 (by omega) aeh 18 0 _ (by omega) f
 rcases g with⟨b,_⟩|⟨b,i,e,_⟩
 ·exact absurd b a
 ·exact⟨by omega,aei r _ e⟩
theorem aek(s:ByteArray)(p:Nat)(a:cD (aG s p)=true):p<pK s (s.size+1) p:=by
 have b:p<s.size:=by
  rcases ci p s.size with h1|h1
  ·exact h1
  ·exact absurd (.inl a) (Ca (by omega))
 rw[pK,ab (.inl a)]
 have:=yd s s.size (p+1) (by omega)
 omega
theorem jB(s:ByteArray)(p:Nat)(i:p<s.size)(b:(fh s p).ok=true):p<(fh s p).a/\(fh s p).a<=s.size/\0<=(fh s p).d/\(fh s p).d<=1:=by
 unfold fh at b⊢
 split
 ·rename_i h
  exact⟨aek s p h,(yd s _ p (by omega)).2,by simp,by simp⟩
 split
 ·rename_i c e
  rw[aa c,ab e]at b
  have:=Ie s p i
  split
  ·exact⟨this.1,this.2,by simp,by simp⟩
  ·rename_i f;rw[aa f]at b;cases b
 split
 ·rename_i c e f
  rw[aa c,aa e,ab f]at b
  have:=ta s (s.size+1) (p+1) [] (by omega)
  split
  ·exact⟨by simp only;omega,this.2.1,by simp,by simp⟩
  ·rename_i g;rw[aa g]at b;cases b
 ·rename_i c e f
  rw[aa c,aa e,aa f]at b
  split
  ·rename_i g;rw[ab g]at b;cases b
  ·rename_i g
   have j:=aaG s p s.size (ah _)
   have:=aej (s.extract p s.size) (by omega) g
   refine⟨by simp only;omega,by simp only;omega,?_,?_⟩
   ·simp only;split<;>omega
   ·simp only;split<;>omega
def nnB(c:Int):Bool:=decide (c≠10/\c≠ -1)
theorem abg:nnB (-1)=false:=by decide
def nlE(s:ByteArray)(p:Nat):Nat:=ja nnB s (s.size+1) p
def blk(s:ByteArray):Nat->Nat->Nat
 |0,p=>p
 |f+1,p=>if s.size<=p then p else if ur (aG s p)=true then blk s f (p+1) else if aG s p=45/\aG s (p+1)=45 then blk s f (nlE s p) else p
theorem Gv(s:ByteArray)(p:Nat)(a:p<=s.size):p<=nlE s p/\nlE s p<=s.size:=ng nnB abg s _ p a
theorem Iw(s:ByteArray)(p:Nat)(a:aG s p=45):p<nlE s p:=by
 have b:=dp a
 unfold nlE
 rw[ja,ab (by rw[a];decide)]
 have:=ng nnB abg s s.size (p+1) (by omega)
 omega
theorem yG(s:ByteArray):∀(f g p:Nat),p<=s.size->s.size<p+f->s.size<p+g->blk s f p=blk s g p
 |0,g,p,a,b,c=>by omega
 |f+1,0,p,a,b,c=>by omega
 |f+1,g+1,p,a,b,c=>by
  unfold blk
  split
  ·rfl
  split
  ·exact yG s f g (p+1) (by omega) (by omega) (by omega)
  split
  ·rename_i e
   have h:=Iw s p e.1
   have d:=Gv s p a
   exact yG s f g _ d.2 (by omega) (by omega)
  ·rfl
theorem jH(s:ByteArray):∀(f p:Nat),p<=s.size->p<=blk s f p/\blk s f p<=s.size
 |0,p,a=>⟨ah _,a⟩
 |f+1,p,a=>by
  unfold blk
  split
  ·exact⟨ah _,a⟩
  split
  ·have:=jH s f (p+1) (by omega);omega
  split
  ·have b:=Gv s p a
   have:=jH s f (nlE s p) b.2
   omega
  ·exact⟨ah _,a⟩
def scn(s:ByteArray):Nat->Nat->Int->Bool×Nat×List Tk
 |0,_,_=>(true,0,[])
 |f+1,p,l=>
  if s.size<=blk s (s.size+1) p then(true,0,[])
  else if(fh s (blk s (s.size+1) p)).ok=true then
   ((scn s f (fh s (blk s (s.size+1) p)).a (l+(fh s (blk s (s.size+1) p)).d)).1,(scn s f (fh s (blk s (s.size+1) p)).a (l+(fh s (blk s (s.size+1) p)).d)).2.1,
    ⟨(fh s (blk s (s.size+1) p)).k,(blk s (s.size+1) p:Nat),((fh s (blk s (s.size+1) p)).a:Nat),l,(fh s (blk s (s.size+1) p)).n,(fh s (blk s (s.size+1) p)).x⟩::(scn s f (fh s (blk s (s.size+1) p)).a (l+(fh s (blk s (s.size+1) p)).d)).2.2)
  else(false,(fh s (blk s (s.size+1) p)).a,[])
structure Rel (s:ByteArray) (E:Bool×Nat×List Tk) (pre:List Tk) (p:Nat) (l:Int) (f:Nat):Prop where
 fu:s.size<p+f
 le:p<=s.size
 l0:0<=l
 l1:l<=(p:Int)+1
 cn:pre.length<=p
 eq:E=((scn s f p l).1,(scn s f p l).2.1,pre++(scn s f p l).2.2)
theorem ael(s:ByteArray)(p q:Nat)(a:blk s (s.size+1) p=blk s (s.size+1) q):∀(f:Nat)(l:Int),scn s f p l=scn s f q l
 |0,_=>rfl
 |f+1,l=>by rw[scn,scn,a]
theorem Ke(s:ByteArray)(p:Nat)(b:p<s.size)(a:ur (aG s p)=true):blk s (s.size+1) p=blk s (s.size+1) (p+1):=by
 rw[blk,aa (by omega),ab a]
 exact yG s _ _ _ (by omega) (by omega) (by omega)
theorem aem(s:ByteArray)(p:Nat)(a:¬ur (aG s p)=true)(b:¬(aG s p=45/\aG s (p+1)=45)):blk s (s.size+1) p=p:=by
 rw[blk,aa a,aa b]
 split<;>rfl
theorem Rel.blank{s:ByteArray}{E:Bool×Nat×List Tk}{pre:List Tk}{p f:Nat}{l:Int}(a:Rel s E pre p l f)(c:p<s.size)(b:ur (aG s p)=true):Rel s E pre (p+1) l f:=
 ⟨by have:=a.fu;omega,by omega,a.l0,by have:=a.l1;omega,by have:=a.cn;omega,by rw[a.eq,ael s p (p+1) (Ke s p c b)]⟩
theorem Rel.tok{s:ByteArray}{E:Bool×Nat×List Tk}{pre:List Tk}{p f:Nat}{l:Int}(b:Rel s E pre p l f)(i:p<s.size)(g:¬ur (aG s p)=true)(h:¬(aG s p=45/\aG s (p+1)=45))(c:(fh s p).ok=true):
  Rel s E (pre++[⟨(fh s p).k,(p:Nat),((fh s p).a:Nat),l,(fh s p).n,(fh s p).x⟩]) (fh s p).a (l+(fh s p).d) (f-1):=by
 have j:=jB s p i c
 have m:=b.fu
 obtain⟨f,rfl⟩:∃e,f=e+1:=⟨f-1,by omega⟩
 refine⟨by omega,j.2.1,by have:=b.l0;omega,by have:=b.l1;omega,by have:=b.cn;simp;omega,?_⟩
 rw[b.eq,scn,aem s p g h,aa (by omega),ab c]
 simp
def pB(a b c:Int)(x:ByteArray):Bool:=decide ((x.size=0\/a=aG x 0)/\(x.size<=1\/b=aG x 1)/\(x.size<=2\/c=aG x 2))
theorem abh(r x:ByteArray)(i:Nat)(b:i<x.size):r.data.toList[i]?=x.data.toList[i]?↔aG r i=aG x i:=by
 have d:x.data.toList[i]?=some x[i]:=by rw[qD];exact qF b
 rw[d,jz]
 have c:aG x i=(x[i].toNat:Int):=by unfold aG;rw[pc b]
 rw[c]
 constructor
 ·exact fun a=>a.2
 ·intro a
  refine⟨?_,a⟩
  rcases ci i r.size with h1|h1
  ·exact h1
  ·rw[eu]at a;omega
theorem agG(r x:ByteArray)(h:x.size<=3):Lib.hasPrefix r.data.toList x.data.toList=pB (aG r 0) (aG r 1) (aG r 2) x:=by
 unfold Lib.hasPrefix pB
 rw[BD,xb,mD,List.prefix_iff_getElem?]
 have i:x.data.toList.length=x.size:=gw
 have f:(∀a (b:a<x.data.toList.length),r.data.toList[a]?=some x.data.toList[a])↔∀a,a<x.size->aG r a=aG x a:=by
  constructor
  ·intro g a b
   rw[<-abh r x a b,g a (by omega)]
   exact(aF (by omega)).symm
  ·intro g a b
   rw[(abh r x a (by omega)).2 (g a (by omega))]
   exact aF b
 rw[f]
 constructor
 ·intro g
  refine⟨?_,?_,?_⟩
  ·rcases mJ x.size with h0|h0
   ·exact .inl h0
   ·exact .inr (g 0 h0)
  ·rcases ci 1 x.size with h0|h0
   ·exact .inr (g 1 h0)
   ·exact .inl h0
  ·rcases ci 2 x.size with h0|h0
   ·exact .inr (g 2 h0)
   ·exact .inl h0
 ·rintro ⟨c,d,e⟩ a b
  rcases(show a=0\/a=1\/a=2 by omega) with rfl|rfl|rfl
  ·rcases c with g|g
   ·omega
   ·exact g
  ·rcases d with g|g
   ·omega
   ·exact g
  ·rcases e with g|g
   ·omega
   ·exact g
def CD(q:ByteArray->Bool)(V:Array Value)(base:Int):Nat->Nat->Int×Nat->Int×Nat
 |0,_,a=>a
 |f+1,i,a=>CD q V base f (i+1) (if a.2<(cC V i).size/\q (cC V i)=true then(base+(i:Int),(cC V i).size) else a)
def skq(a:Int)(q:ByteArray->Bool):Int:=if a=59 then 5 else if a=10 then 7 else(CD q ut 61 18 0 (CD q mz 40 11 0 (0,0))).1
def tD(q:ByteArray->Bool):Nat->Nat->Option Nat
 |0,_=>none
 |f+1,k=>if q (cC jG k)=true then some k else tD q f (k+1)
theorem abi(V:Array Value)(base:Int)(r:ByteArray):∀(f i:Nat)(a:Int×Nat),J2 V base r f i a=CD (fun x=>Lib.hasPrefix r.data.toList x.data.toList) V base f i a
 |0,i,a=>rfl
 |f+1,i,a=>by rw[J2,CD];exact abi V base r f (i+1) _
theorem sf(q b:ByteArray->Bool)(V:Array Value)(base:Int)(N:Nat)(c:∀i,i<N->q (cC V i)=b (cC V i)):∀(f i:Nat)(a:Int×Nat),i+f<=N->CD q V base f i a=CD b V base f i a
 |0,i,a,_=>rfl
 |f+1,i,a,d=>by rw[CD,CD,c i (by omega)];exact sf q b V base N c f (i+1) _ (by omega)
theorem yH(q a:ByteArray->Bool)(b:∀i,i<30->q (cC jG i)=a (cC jG i)):∀(f i:Nat),i+f<=30->tD q f i=tD a f i
 |0,i,_=>rfl
 |f+1,i,c=>by rw[tD,tD,b i (by omega),yH q a b f (i+1) (by omega)]
def zG(S:List Int)(b:Int):Int:=if b∈S then b else 0
theorem CE(S:List Int)(d:(0:Int) ∉ S)(b a:Int)(c:a∈S):zG S b=a↔b=a:=by
 unfold zG
 split
 ·exact Iff.rfl
 ·rename_i e
  constructor
  ·rintro rfl;exact absurd c d
  ·rintro rfl;exact absurd c e
def Lx:List Int:=[46,60,62,61,126,47,40,41,123,125,91,93,44,59,35,43,45,42,37,38,124]
def fb1:List Int:=[46,60,61,62,47]
def fb2:List Int:=[46]
def inB(x:ByteArray):Bool:=decide (x.size<=3/\(x.size=0\/aG x 0∈Lx)/\(x.size<=1\/aG x 1∈fb1)/\(x.size<=2\/aG x 2∈fb2))
theorem agH:∀i:Fin 11,inB (cC mz i.val)=true:=by decide+kernel
theorem agI:∀i:Fin 18,inB (cC ut i.val)=true:=by decide+kernel
theorem agJ:∀i:Fin 30,inB (cC jG i.val)=true:=by decide+kernel
theorem agK(a b c:Int)(x:ByteArray)(h:inB x=true):pB a b c x=pB (zG Lx a) (zG fb1 b) (zG fb2 c) x:=by
 unfold inB at h
 rw[mD]at h
 obtain⟨_,g,i,j⟩:=h
 have d:(x.size=0\/a=aG x 0)↔(x.size=0\/zG Lx a=aG x 0):=by
  rcases g with h|h
  ·simp[h]
  ·rw[CE Lx (by decide) a _ h]
 have e:(x.size<=1\/b=aG x 1)↔(x.size<=1\/zG fb1 b=aG x 1):=by
  rcases i with h|h
  ·simp[h]
  ·rw[CE fb1 (by decide) b _ h]
 have f:(x.size<=2\/c=aG x 2)↔(x.size<=2\/zG fb2 c=aG x 2):=by
  rcases j with h|h
  ·simp[h]
  ·rw[CE fb2 (by decide) c _ h]
 unfold pB
 rw[BH,d,e,f]
def afE(a b c:Int):Bool:=match tD (pB a b c) 30 0 with
 |some d=>decide (skq a (pB a b c)=we (cC jG d)/\(mA (skq a (pB a b c))).size=(cC jG d).size/\skq a (pB a b c)≠0/\skq a (pB a b c)≠7)
 |none=>decide (skq a (pB a b c)=0)
theorem abj:∀a∈0::Lx,∀b∈0::fb1,∀c∈0::fb2,afE a b c=true:=by decide+kernel
theorem Gw(S:List Int)(b:Int):zG S b∈0::S:=by
 unfold zG;split
 ·exact ep _ (by assumption)
 ·exact da
def CF(r:ByteArray):Prop:=match tD (fun b=>Lib.hasPrefix r.data.toList b.data.toList) 30 0 with
 |some a=>uA r=we (cC jG a)/\(mA (uA r)).size=(cC jG a).size/\uA r≠0/\uA r≠7
 |none=>uA r=0
theorem Iy(r:ByteArray)(h:aG r 0≠10):CF r:=by
 have g:∀a,inB a=true->Lib.hasPrefix r.data.toList a.data.toList=pB (zG Lx (aG r 0)) (zG fb1 (aG r 1)) (zG fb2 (aG r 2)) a:=fun a f=>by
  rw[<-agK _ _ _ a f]
  unfold inB at f
  rw[mD]at f
  exact agG r a f.1
 have l:uA r=skq (zG Lx (aG r 0)) (pB (zG Lx (aG r 0)) (zG fb1 (aG r 1)) (zG fb2 (aG r 2))):=by
  unfold uA skq
  rw[abi,abi,sf _ _ mz 40 11 (fun d c=>g _ (agH ⟨d,c⟩)) 11 0 _ (by omega),sf _ _ ut 61 18 (fun d c=>g _ (agI ⟨d,c⟩)) 18 0 _ (by omega)]
  have i:=CE Lx (by decide) (aG r 0) 59 (by decide)
  have k:zG Lx (aG r 0)≠10:=by
   unfold zG;split
   ·exact h
   ·decide
  rw[aa h,aa k]
  by_cases e:aG r 0=59
  ·rw[ab e,ab (i.2 e)]
  ·rw[aa e,aa (fun j=>e (i.1 j))]
 have b:=abj _ (Gw Lx (aG r 0)) _ (Gw fb1 (aG r 1)) _ (Gw fb2 (aG r 2))
 unfold CF
 rw[yH _ _ (fun d c=>g _ (agJ ⟨d,c⟩)) 30 0 (by omega),l]
 unfold afE at b
 cases hf:tD (pB (zG Lx (aG r 0)) (zG fb1 (aG r 1)) (zG fb2 (aG r 2))) 30 0 with
 |some m=>rw[hf]at b;exact bi b
 |none=>rw[hf]at b;exact bi b
theorem aen(s x:ByteArray)(p:Nat)(f:p<=s.size):Lib.hasPrefix (s.extract p s.size).data.toList x.data.toList=decide (p+x.size<=s.size/\((s.extract p (p+x.size)).toList==x.toList)=true):=by
 have e:s.data.toList.length=s.size:=gw
 have b:x.data.toList.length=x.size:=gw
 have c:(s.extract p s.size).data.toList=s.data.toList.drop p:=by
  rw[<-gc,Lib.extract_toList,bH]
  rw[dH,gw]
  exact ah _
 have d:(s.extract p (p+x.size)).toList=(s.data.toList.drop p).take x.size:=by
  rw[Lib.extract_toList];congr 1;omega
 rw[c,d,gc x]
 unfold Lib.hasPrefix
 rw[BD,xb,mD,List.prefix_iff_eq_take,b,ib]
 constructor
 ·intro a
  refine⟨?_,a.symm⟩
  have:=congrArg List.length a
  rw[dt,dH,e,b]at this
  omega
 ·exact fun a=>a.2.symm
theorem Kf(s:ByteArray)(f:s.size<=70000)(p:Nat)(b:p<s.size)(a:aG s p=10)(w:World):Calls Tryz.prog 179 #[.string s,.int .i64 p] w fun e d=>e= .returned (.tuple #[.agg #[.int .i64 7,.int .i64 p,.int .i64 ((p:Int)+1),.int .i64 0,.int .i64 0,.string ⟨#[]⟩],.int .i64 (-1)])/\Below w.heap.size w d:=by
 have c:=fun w=>dE b w
 rw[a]at c
 have g:(p:Int)<(s.size:Int):=by omega
 go_in
 go_wp2
 refine aH (v:= .tuple #[.agg #[.int .i64 7,.int .i64 p,.int .i64 ((p:Int)+1),.int .i64 0,.int .i64 0,.string ⟨#[]⟩],.int .i64 (-1)]) (by simp[results,Tryz.results179,go_sem]) rfl ⟨rfl,?_⟩
 exact((ag _ w).alloc (ah _) _).alloc (by simp) _
theorem abk(p:Nat)(R:Bool×Nat×List Int):∃(t:Int) (x:ByteArray),AF p R= .agg #[.int .i64 4,.int .i64 p,.int .i64 t,.int .i64 0,.int .i64 0,.string x]:=by
 unfold AF;split<;>exact⟨_,_,rfl⟩
theorem yI(s:ByteArray)(y:s.size<=70000)(p:Nat)(m:p<s.size)(x:aG s p=34)(w:World):Calls Tryz.prog 179 #[.string s,.int .i64 p] w fun e B=>e= .returned (.tuple #[AF p (ic s (s.size+1) (p+1) []),.int .i64 (Eg (ic s (s.size+1) (p+1) []))])/\Below w.heap.size w B:=by
 have n:=fun w=>dE m w
 have q:=fun w=>ip (c:=34) (b:=false) (by decide) w
 have o:=fun w=>di (c:=34) (b:=false) (by decide) w
 have a:=fun w=>Cl s y p m w
 generalize ic s (s.size+1) (p+1) []=f at a
 obtain⟨A,E,i⟩:=abk p f
 rw[i]at a⊢
 generalize Eg f=r at a
 rw[x]at n
 clear i
 go_in
 go_wp2_with (first|(go_at_call 180;refine dj (q _) ?_)|(go_at_call 178;refine dj (o _) ?_))
 generalize j:(w.alloc _).alloc _=t
 obtain⟨g, -,h,z⟩:=Dy j
 have k:fy w.heap.size t 0 0 0 0 0 ⟨#[]⟩:=g
 clear j g
 refine dG (a _) fun C d=>?_
 have l:=k.below d (by omega)
 have u:=h.trans (d.mono (by omega))
 clear d k h z a q o n
 obtain⟨z0,F,G,H,I,J,L⟩:=cE l
 have K:w.heap.size<C.heap.size:=aw l
 go_wp2
 refine aH (v:= .tuple #[.agg #[.int .i64 4,.int .i64 p,.int .i64 A,.int .i64 0,.int .i64 0,.string E],.int .i64 r]) (by simp[results,Tryz.results179,go_sem,z0,F,G,H,I,J]) rfl ⟨rfl,?_⟩
 iterate 6 refine eL ?_ (by simp) _
 exact u
structure Iz (q:ByteArray->Bool) (f k:Nat) (R:Option Nat):Prop where
 out:tD q f k=R
def aio(p:Nat)(R:Option Nat):Value:=match R with
 |some a=> .tuple #[.agg #[.int .i64 (we (cC jG a)),.int .i64 p,.int .i64 ((p:Int)+((cC jG a).size:Int)),.int .i64 0,.int .i64 0,.string ⟨#[]⟩],.int .i64 (-1)]
 |none=> .tuple #[.agg #[.int .i64 0,.int .i64 p,.int .i64 0,.int .i64 0,.int .i64 0,.string ⟨#[]⟩],.int .i64 p]
theorem agL:∀k:Fin 30,(cC jG k.val).size<=3:=by decide
theorem yJ(s:ByteArray)(bD:s.size<=70000)(p:Nat)(a3:p<s.size)(I:¬aG s p=10)(af:cD (aG s p)=false)(L:cL (aG s p)=false)(J:¬aG s p=34)(w:World):
  Calls Tryz.prog 179 #[.string s,.int .i64 p] w fun e a4=>e= .returned (aio p (tD (fun x=>Lib.hasPrefix (s.extract p s.size).data.toList x.data.toList) 30 0))/\Below w.heap.size w a4:=by
 have ap:=fun w=>dE a3 w
 have G:(aG s p==10)=false:=by rw[cJ];exact I
 have H:(aG s p==34)=false:=by rw[cJ];exact J
 have F:=fun w=>ip af w
 have E:=fun w=>di L w
 have bE:(p:Int)<(s.size:Int):=by omega
 generalize aG s p=bl at ap G H F E
 obtain⟨c,A⟩:∃c:ByteArray->Bool,(fun x=>Lib.hasPrefix (s.extract p s.size).data.toList x.data.toList)=c:=⟨_,rfl⟩
 have al:∀x,c x=decide (p+x.size<=s.size/\((s.extract p (p+x.size)).toList==x.toList)=true):=fun x=>by rw[<-A];exact aen s x p (by omega)
 rw[A]
 obtain⟨n,y⟩:=aE (tD c 30 0)
 rw[y]
 have q:Iz c 30 0 n:=⟨y⟩
 have ar:=aj al
 clear y A al I af L J
 go_in
 go_wp2_with (first|(go_at_call 180;refine dj (F _) ?_)|(go_at_call 178;refine dj (E _) ?_))
 generalize K:(w.alloc _).alloc _=g
 obtain⟨j,i,t, -⟩:=Dy K
 replace j:fy w.heap.size g 0 0 0 0 0 ⟨#[]⟩:=j
 replace i:fy (w.heap.size+1) g 0 p 0 0 0 ⟨#[]⟩:=i
 clear K
 refine dG (qg g) fun f l=>?_
 have r:fy (w.heap.size+1) f 0 p 0 0 0 ⟨#[]⟩:=by rw[l];exact(eo _ _ _ (aw i)).trans i
 have z:fy w.heap.size f 0 0 0 0 0 ⟨#[]⟩:=by rw[l];exact(eo _ _ _ (aw j)).trans j
 have u:Below w.heap.size w f:=by rw[l];exact t.alloc t.size _
 have a0:f.heap[g.heap.size]?=some (.cells jG 9 (0,0)):=by rw[l];exact ay g _
 clear l i j t F E ap G H
 go_wp2_with fail
 obtain⟨b2,b3,b4,b5,b6,b7,b8⟩:=cE r
 obtain⟨z0,bb,bc,bd,bf,bk,cb⟩:=cE z
 have an:w.heap.size<f.heap.size:=aw z
 have ao:w.heap.size+1<f.heap.size:=aw r
 go_loop [45,9] (fun C _=>∃a:Nat,a<=30/\C= .int .i64 a/\Iz c (30-a) a n) (fun C _=>30-(intOf C).toNat)
 case atStart=>exact⟨0,by omega,rfl,q⟩
 case round=>
  obtain⟨a,bA,rfl,m⟩:=hrel
  by_cases ak:a<30
  ·have a1:f.cell? ⟨g.heap.size,a,none⟩=some (.string (cC jG a)):=by rw[au _ _ _ _ _ _ a0];exact FE ⟨a,ak⟩
   have b:=m.out
   rw[show 30-a=(30-(a+1))+1 by omega,tD,ar.out]at b
   have am:=agL ⟨a,ak⟩
   simp only at am
   obtain⟨x,B⟩:=aE (cC jG a)
   rw[B]at a1 b am
   have av:=aj B
   clear B m q
   by_cases ad:p+x.size<=s.size
   ·have a2:(x.size:Int)<=(s.size:Int)-(p:Int):=by omega
    have bx:(p:Int)+(x.size:Int)<=(s.size:Int):=by omega
    by_cases o:((s.extract p (p+x.size)).toList==x.toList)=true
    ·rw[ab (bB ⟨ad,o⟩)]at b
     have d:=aj b
     clear b
     go_wp2_with (go_at_call 191;refine(rL x _).mono ?_;rintro e b9 ⟨rfl,k⟩;obtain⟨bn,bo,br,bs,bt,bv,bw⟩:=cE (r.below k ao);obtain⟨a5,a6,a7,a8,a9,ba,ca⟩:=cE (z.below k an);have b0:=fi an k.size;have b1:=fi ao k.size)
     refine aH (v:= .tuple #[.agg #[.int .i64 (we x),.int .i64 p,.int .i64 ((p:Int)+(x.size:Int)),.int .i64 0,.int .i64 0,.string ⟨#[]⟩],.int .i64 (-1)]) (by simp[results,Tryz.results179,go_sem,a5,a6,a7,a8,a9,ba]) rfl ⟨by rw[<-d.out];have h:=av.out;subst h;rfl,?_⟩
     iterate 8 refine eL ?_ (by simp) _
     exact u.trans (k.mono u.size)
    ·have bF:((s.extract p (p+x.size)).toList==x.toList)=false:=by simpa using o
     rw[aa (fun h=>o (bi h).2)]at b
     have d:Iz c (30-(a+1)) (a+1) n:=⟨b⟩
     clear b o
     go_wp2_with fail
     go_round
     case rel=>exact⟨a+1,by omega,by go_num,d⟩
     case measure=>simp[intOf];omega
   ·have a2:¬(x.size:Int)<=(s.size:Int)-(p:Int):=by omega
    rw[aa (fun h=>ad (bi h).1)]at b
    have d:Iz c (30-(a+1)) (a+1) n:=⟨b⟩
    clear b
    go_wp2_with fail
    go_round
    case rel=>exact⟨a+1,by omega,by go_num,d⟩
    case measure=>simp[intOf];omega
  ·obtain rfl:a=30:=by omega
   have d:=aj m.out
   clear m q
   go_wp2_with fail
   refine aH (v:= .tuple #[.agg #[.int .i64 0,.int .i64 p,.int .i64 0,.int .i64 0,.int .i64 0,.string ⟨#[]⟩],.int .i64 (p:Int)]) (by simp[results,Tryz.results179,go_sem,z0,bb,bc,bd,bf,bk]) rfl ⟨by rw[<-d.out];rfl,?_⟩
   iterate 6 refine eL ?_ (by simp) _
   exact u
structure aip (R:Rd) (k t n:Int) (x:ByteArray) (bad:Int):Prop where
 yes:R.ok=true->bad= -1/\k=R.k/\t=(R.a:Int)/\n=R.n/\x=R.x/\R.d=(if R.k=7 then 1 else 0)
 no:R.ok=false->bad=(R.a:Int)
theorem aiq(s:ByteArray)(p:Nat):(wdP s p).1≠7:=by
 unfold wdP;split
 ·simp only;omega
 ·simp
theorem air(s:ByteArray)(p:Nat):(Gf s p).1≠7:=by
 unfold Gf;split
 ·simp
 ·split<;>simp
theorem Gx(s:ByteArray)(q:s.size<=70000)(p:Nat)(f:p<s.size)(w:World):
  Calls Tryz.prog 179 #[.string s,.int .i64 p] w fun e c=>∃k t n x r,e= .returned (.tuple #[.agg #[.int .i64 k,.int .i64 p,.int .i64 t,.int .i64 0,.int .i64 n,.string x],.int .i64 r])/\aip (fh s p) k t n x r/\Below w.heap.size w c:=by
 unfold fh
 by_cases j:cD (aG s p)=true
 ·rw[ab j]
  refine dG (vw s (by omega) p f j w) fun c b=>?_
  rw[aig]
  exact⟨_,_,_,_,_,rfl,⟨fun _=>⟨rfl,rfl,rfl,rfl,rfl,by simp only;rw[aa (aiq s p)]⟩,fun a=>by cases a⟩,b⟩
 rw[aa j]
 by_cases i:cL (aG s p)=true
 ·rw[ab i]
  refine dG (sc s (by omega) p f i w) fun c b=>?_
  cases hok:(fp s p).2 with
  |true=>
   obtain⟨d,o⟩:=agr s p hok
   rw[d,o,ab rfl]
   exact⟨_,_,_,_,_,rfl,⟨fun _=>⟨rfl,rfl,rfl,rfl,rfl,by simp only;rw[aa (air s p)]⟩,fun a=>by cases a⟩,b⟩
  |false=>
   obtain⟨k,t,n,x,d⟩:=Ii s p
   rw[d,Ek s p hok,aa (by simp)]
   exact⟨_,_,_,_,_,rfl,⟨fun a=>by(try simp at a),fun a=>rfl⟩,b⟩
 rw[aa i]
 by_cases h:aG s p=34
 ·rw[ab h]
  refine dG (yI s q p f h w) fun c b=>?_
  generalize ic s (s.size+1) (p+1) []=m
  obtain⟨A,B,C⟩:=m
  cases A with
  |true=>exact⟨_,_,_,_,_,rfl,⟨fun _=>⟨rfl,rfl,rfl,rfl,rfl,rfl⟩,fun a=>by cases a⟩,b⟩
  |false=>exact⟨_,_,_,_,_,rfl,⟨fun a=>(by cases a),fun a=>rfl⟩,b⟩
 rw[aa h]
 have u:aG (s.extract p s.size) 0=aG s p:=Il s p s.size 0 (ah _)
 by_cases g:aG s p=10
 ·have y:uA (s.extract p s.size)=7:=by unfold uA;rw[u,g];rfl
  rw[y,aa (by decide)]
  refine dG (Kf s q p f g w) fun c b=>?_
  exact⟨_,_,_,_,_,rfl,⟨fun _=>⟨rfl,rfl,rfl,rfl,rfl,rfl⟩,fun a=>by cases a⟩,b⟩
 ·have l:=Iy (s.extract p s.size) (by rw[u];exact g)
  unfold CF at l
  refine dG (yJ s q p f g (by simpa using j) (by simpa using i) h w) fun c b=>?_
  generalize tD (fun x=>Lib.hasPrefix (s.extract p s.size).data.toList x.data.toList) 30 0=m at l
  cases m with
  |none=>
   rw[show uA (s.extract p s.size)=0 from l,ab rfl]
   exact⟨_,_,_,_,_,rfl,⟨fun a=>(by cases a),fun a=>rfl⟩,b⟩
  |some z=>
   obtain⟨d,o,v,E⟩:=(show _/\_/\_/\_ from l)
   rw[aa v]
   refine⟨_,_,_,_,_,rfl,⟨fun _=>⟨rfl,d.symm,?_,rfl,rfl,rfl⟩,fun a=>by cases a⟩,b⟩
   show(p:Int)+((cC jG z).size:Int)=((p+(mA (uA (s.extract p s.size))).size:Nat):Int)
   rw[o];omega
structure ag0 (s:ByteArray) (f k e:Nat):Prop where
 out:ja nnB s f k=e
structure IA (s:ByteArray) (f k e:Nat):Prop where
 out:blk s f k=e
theorem pD(s:ByteArray)(ar:s.size<=1100000)(p:Nat)(av:p<=s.size)(w:World):Calls Tryz.prog 194 #[.string s,.int .i64 p] w fun e a1=>e= .returned (.int .i64 (blk s (s.size+1) p))/\a1=w:=by
 obtain⟨u,B⟩:=aE (blk s (s.size+1) p)
 rw[B]
 have ak:IA s (s.size+1) p u:=⟨B⟩
 clear B
 go_in
 go_wp2_with fail
 go_loop [1,5] (fun k a2=>∃(a d:Nat),a<=s.size/\s.size<a+d/\k= .int .i64 a/\IA s d a u) (fun k _=>s.size-(intOf k).toNat)
 case atStart=>exact⟨p,s.size+1,av,by omega,rfl,ak⟩
 case round=>
  obtain⟨a,d,I,a3,rfl,q⟩:=hrel
  obtain⟨d,rfl⟩:∃g,d=g+1:=⟨d-1,by omega⟩
  have b:=q.out
  rw[blk]at b
  by_cases K:a<s.size
  ·have a7:(a:Int)<(s.size:Int):=by omega
   rw[aa (by omega)]at b
   have r:=fun w=>dE K w
   have v:=rK K
   by_cases i:ur (aG s a)=true
   ·rw[ab i]at b
    have f:IA s d (a+1) u:=⟨b⟩
    have n:aG s a=32\/aG s a=9\/aG s a=13:=bi i
    generalize aG s a=G at r n v
    clear b q i
    rcases n with rfl|rfl|rfl
    all_goals
     go_wp2_with fail
     go_round
     case rel=>exact⟨a+1,d,by omega,by omega,by go_num,f⟩
     case measure=>simp[intOf];omega
   ·rw[aa i]at b
    have n:¬(aG s a=32\/aG s a=9\/aG s a=13):=fun A=>i (bB A)
    have x:(aG s a==32)=false:=by rw[cJ];omega
    have y:(aG s a==9)=false:=by rw[cJ];omega
    have z:(aG s a==13)=false:=by rw[cJ];omega
    have t:=fun w=>fs s ar ((a:Int)+1) (a+1) (by omega) w
    have o:=qo s (a+1) 45
    by_cases h:aG s a=45/\aG s (a+1)=45
    ·rw[ab h]at b
     have f:IA s d (nlE s a) u:=⟨b⟩
     rw[h.2]at o
     have J:lk s (a+1)=45:=by simpa using o
     have ao:=Iw s a h.1
     have ap:=Gv s a I
     rw[h.1]at r
     rw[J]at t
     have E:ag0 s (s.size+1) a (nlE s a):=⟨rfl⟩
     generalize nlE s a=F at f ao ap E
     clear b q i n x y z o J h v
     go_wp2_with (go_at_call 223;refine dj (t _) ?_)
     go_loop [1] (fun k=>∃(c g:Nat),c<=s.size/\s.size<c+g/\k= .int .i64 c/\ag0 s g c F) (fun k=>s.size-(intOf k).toNat)
     case atStart=>exact⟨a,s.size+1,I,by omega,rfl,E⟩
     case round=>
      obtain⟨c,g,a5,a4,rfl,C⟩:=hrel
      obtain⟨g,rfl⟩:∃a0,g=a0+1:=⟨g-1,by omega⟩
      have b:=C.out
      rw[ja]at b
      clear r C
      by_cases H:c<s.size
      ·have a6:(c:Int)<(s.size:Int):=by omega
       have ad:=fun w=>dE H w
       have af:=rK H
       by_cases l:aG s c=10
       ·rw[aa (by rw[l];decide)]at b
        rw[l]at ad
        have j:=aj b
        clear b l af
        go_wp2_with fail
        go_round
        case rel=>exact⟨c,d,by omega,by have:=j.out;omega,by go_num,by rw[j.out];exact f⟩
        case measure=>have:=j.out;simp[intOf];omega
       ·rw[ab (by unfold nnB;rw[mD];exact⟨l,by omega⟩)]at b
        have j:ag0 s g (c+1) F:=⟨b⟩
        have al:(aG s c==10)=false:=by rw[cJ];exact l
        generalize aG s c=G at ad al
        clear b l af
        go_wp2_with fail
        go_round
        case rel=>exact⟨c+1,g,by omega,by omega,by go_num,j⟩
        case measure=>simp[intOf];omega
      ·obtain rfl:c=s.size:=by omega
       rw[aa (by rw[eu (Nat.lt_irrefl _)];decide)]at b
       have j:=aj b
       clear b
       go_wp2_with fail
       go_round
       case rel=>exact⟨s.size,d,by omega,by omega,by go_num,by rw[j.out];exact f⟩
       case measure=>simp[intOf];omega
    ·rw[aa h]at b
     have f:=aj b
     clear b q
     by_cases m:aG s a=45
     ·have L:aG s (a+1)≠45:=fun A=>h ⟨m,A⟩
      rw[az L]at o
      rw[m]at r
      generalize lk s (a+1)=a8 at t o
      clear i n x y z h v L m
      go_wp2_with (go_at_call 223;refine dj (t _) ?_)
      go_ret
      exact⟨by rw[<-f.out];rfl,rfl⟩
     ·have am:(aG s a==45)=false:=by rw[cJ];exact m
      have an:(aG s a !=45)=true:=by rw[lq];exact m
      generalize aG s a=G at r x y z am an
      clear i n h v m t o
      go_wp2_with fail
      go_ret
      exact⟨by rw[<-f.out];rfl,rfl⟩
  ·obtain rfl:a=s.size:=by omega
   rw[ab (ah _)]at b
   have f:=aj b
   clear b q
   go_wp2_with fail
   go_ret
   exact⟨by rw[<-f.out];rfl,rfl⟩
def yK(s:ByteArray)(p:Nat):Int:=if cL (aG s p)=true then(if aG s p=48/\aG s (p+1)=120 then 2 else 3) else if aG s p=34 then 4 else 0
theorem abl(s:ByteArray)(p:Nat)(b:(fp s p).2=false):∃(t n:Int) (x:ByteArray),wt s p= .agg #[.int .i64 (if aG s p=48/\aG s (p+1)=120 then 2 else 3),.int .i64 p,.int .i64 t,.int .i64 0,.int .i64 n,.string x]:=by
 unfold wt
 unfold fp at b
 by_cases a:aG s p=48/\aG s (p+1)=120
 ·rw[ab a]at b
  rw[ab a,ab a]
  unfold hxA
  rw[aa (by rw[b];simp)]
  exact⟨_,_,_,rfl⟩
 ·rw[aa a]at b
  rw[aa a,aa a]
  unfold nmA
  rw[aa (by rw[b];simp)]
  exact⟨_,_,_,rfl⟩
def tE(s:ByteArray)(p:Nat):Int:=if(fh s p).ok=true then(fh s p).k else yK s p
theorem abm(V:Array Value)(s:ByteArray):∀(f k j:Nat),td V s f k=some j->j<k+f
 |0,k,j,a=>by simp[td]at a
 |f+1,k,j,a=>by
  rw[td]at a
  split at a
  ·obtain rfl:=bh a;omega
  ·have:=abm V s f (k+1) j a;omega
theorem afF(s:ByteArray)(p:Nat)(a:(fh s p).ok=true):1<=(fh s p).k/\(fh s p).k<=78:=by
 unfold fh at a⊢
 split
 ·simp only
  unfold wdP
  cases hf:td ej (s.extract p (pK s (s.size+1) p)) 22 0 with
  |none=>simp
  |some k=>have:=abm _ _ _ _ _ hf;simp only;omega
 split
 ·split
  ·simp only
   unfold Gf
   split
   ·simp
   ·split<;>simp
  ·rename_i b c d
   rw[aa b,ab c,aa d]at a
   cases a
 split
 ·split
  ·simp
  ·rename_i b c d e
   rw[aa b,aa c,ab d,aa e]at a
   cases a
 split
 ·rename_i b c d e
  rw[aa b,aa c,aa d,ab e]at a
  cases a
 ·rename_i b c d e
  have:=ags (s.extract p s.size)
  simp only
  omega
theorem IB(s:ByteArray)(p:Nat):0<=yK s p/\yK s p<=4:=by
 unfold yK
 split
 ·split<;>omega
 ·split<;>omega
theorem Gy(s:ByteArray)(r:s.size<=70000)(p:Nat)(l:p<s.size)(w:World):
  Calls Tryz.prog 179 #[.string s,.int .i64 p] w fun e j=>∃t n x q,e= .returned (.tuple #[.agg #[.int .i64 (tE s p),.int .i64 p,.int .i64 t,.int .i64 0,.int .i64 n,.string x],.int .i64 q])/\aip (fh s p) (tE s p) t n x q/\Below w.heap.size w j:=by
 cases hok0:(fh s p).ok with
 |true=>
  refine(Gx s r p l w).mono ?_
  rintro e j ⟨ad,t,n,x,q,rfl,a,f⟩
  obtain⟨_,rfl,_⟩:=a.yes hok0
  have e:tE s p=(fh s p).k:=by unfold tE;rw[ab hok0]
  rw[e]
  exact⟨_,_,_,_,rfl,a,f⟩
 |false=>
  have C:tE s p=yK s p:=by unfold tE;rw[aa (by rw[hok0];simp)]
  rw[C]
  have b:=hok0
  unfold fh at b
  have h:¬cD (aG s p)=true:=fun a=>by rw[ab a]at b;cases b
  rw[aa h]at b
  by_cases c:cL (aG s p)=true
  ·rw[ab c]at b
   have u:(fp s p).2=false:=by
    cases i:(fp s p).2 with
    |true=>rw[ab i]at b;cases b
    |false=>rfl
   refine dG (sc s (by omega) p l c w) fun j f=>?_
   obtain⟨t,n,x,y⟩:=abl s p u
   have g:yK s p=(if aG s p=48/\aG s (p+1)=120 then 2 else 3):=by unfold yK;rw[ab c]
   rw[y,g,Ek s p u]
   refine⟨_,_,_,_,rfl,⟨fun a=>(by rw[hok0]at a;cases a),fun a=>?_⟩,f⟩
   unfold fh
   rw[aa h,ab c,aa (by rw[u];simp)]
  ·rw[aa c]at b
   by_cases d:aG s p=34
   ·have g:yK s p=4:=by unfold yK;rw[aa c,ab d]
    rw[g]
    refine dG (yI s r p l d w) fun j f=>?_
    have m:(fh s p).ok=(ic s (s.size+1) (p+1) []).1/\(fh s p).a=(ic s (s.size+1) (p+1) []).2.1:=by
     unfold fh
     rw[aa h,aa c,ab d]
     cases i:(ic s (s.size+1) (p+1) []).1 with
     |true=>rw[ab rfl];exact⟨rfl,rfl⟩
     |false=>rw[aa (by simp)];exact⟨rfl,rfl⟩
    rw[hok0]at m
    generalize K:ic s (s.size+1) (p+1) []=A at m
    obtain⟨af,I,J⟩:=A
    simp only at m
    obtain⟨F,G⟩:=m
    subst F
    refine⟨_,_,_,_,rfl,⟨fun a=>(by rw[hok0]at a;cases a),fun a=>?_⟩,f⟩
    rw[G]
    rfl
   ·rw[aa d]at b
    have g:yK s p=0:=by unfold yK;rw[aa c,aa d]
    rw[g]
    have o:uA (s.extract p s.size)=0:=by
     by_cases i:uA (s.extract p s.size)=0
     ·exact i
     ·rw[aa i]at b;cases b
    have z:aG (s.extract p s.size) 0=aG s p:=Il s p s.size 0 (ah _)
    have k:¬aG s p=10:=fun k=>by
     have H:uA (s.extract p s.size)=7:=by unfold uA;rw[z,k];rfl
     rw[H]at o;exact absurd o (by decide)
    have v:=Iy (s.extract p s.size) (by rw[z];exact k)
    unfold CF at v
    refine dG (yJ s r p l k (by simpa using h) (by simpa using c) d w) fun j f=>?_
    generalize tD (fun x=>Lib.hasPrefix (s.extract p s.size).data.toList x.data.toList) 30 0=B at v
    cases B with
    |none=>
     refine⟨_,_,_,_,rfl,⟨fun a=>(by rw[hok0]at a;cases a),fun a=>?_⟩,f⟩
     unfold fh
     rw[aa h,aa c,aa d,ab o]
    |some L=>
     obtain⟨y,_,E,_⟩:=(show _/\_/\_/\_ from v)
     exact absurd o E
def Gz(st:List Int)(k:Int):List Int×Bool:=if 0<k then dF st k else(st,false)
def tF(s:ByteArray):Nat->List Int->Nat->Int->List Tk->List Tk×List Int×Int
 |0,st,_,_,_=>([],st,0)
 |f+1,st,p,l,b=>
  if s.size<=p then(b++[⟨6,(s.size:Nat),(s.size:Nat),l,0,⟨#[]⟩⟩],st, -1)
  else if tE s p=7 then
   (if(dF st 5).2=true then tF s f (dF st 5).1 (blk s (s.size+1) (fh s p).a) (l+1) (b++[⟨5,(p:Nat),((fh s p).a:Nat),l,(fh s p).n,(fh s p).x⟩]) else tF s f st (blk s (s.size+1) (fh s p).a) (l+1) b)
  else if(Gz st (tE s p)).2=true then
   (if(fh s p).ok=true then tF s f (dF st (tE s p)).1 (blk s (s.size+1) (fh s p).a) l (b++[⟨tE s p,(p:Nat),((fh s p).a:Nat),l,(fh s p).n,(fh s p).x⟩]) else([],st,((fh s p).a:Nat)))
  else([],st,(wrongF s p (Ev st):Nat))
def js(s:ByteArray):List Tk×List Int×Int:=tF s (s.size+1) [100,6] (blk s (s.size+1) 0) 1 []
theorem GA(s:ByteArray)(p:Nat):0<=tE s p/\tE s p<=78:=by
 unfold tE
 split
 ·rename_i a;have:=afF s p a;omega
 ·have:=IB s p;omega
theorem abn(s:ByteArray)(p:Nat)(a:tE s p=7):(fh s p).ok=true/\(fh s p).k=7:=by
 unfold tE at a
 split at a
 ·rename_i b;exact⟨b,a⟩
 ·have:=IB s p;omega
inductive Fd:List Int->List Tk->List Int->Prop where
 |nil {st:List Int}:Fd st [] st
 |cons {st:List Int}{T:Tk}{ts:List Tk}{st':List Int}:1<=T.k->T.k<=78->T.k≠6->(dF st T.k).2=true->Fd (dF st T.k).1 ts st'->Fd st (T::ts) st'
theorem GB(V:Array Value)(base:Int)(r:ByteArray)(c:40<=base):∀(f i:Nat)(a:Int×Nat),a.1≠6->(J2 V base r f i a).1≠6
 |0,i,a,b=>b
 |f+1,i,a,b=>by
  unfold J2
  refine GB V base r c f (i+1) _ ?_
  split
  ·show base+(i:Int)≠6;omega
  ·exact b
theorem aeo(s:ByteArray)(p:Nat)(a:(fh s p).ok=true):tE s p≠6:=by
 unfold tE
 rw[ab a]
 unfold fh at a⊢
 split
 ·simp only
  unfold wdP
  cases hf:td ej (s.extract p (pK s (s.size+1) p)) 22 0 with
  |none=>simp
  |some f=>simp only;omega
 split
 ·split
  ·simp only
   unfold Gf
   split
   ·simp
   ·split<;>simp
  ·rename_i b c d
   rw[aa b,ab c,aa d]at a
   cases a
 split
 ·split
  ·simp
  ·rename_i b c d e
   rw[aa b,aa c,ab d,aa e]at a
   cases a
 split
 ·rename_i b c d e
  rw[aa b,aa c,aa d,ab e]at a
  cases a
 ·simp only
  unfold uA
  split
  ·omega
  split
  ·omega
  ·exact GB _ _ _ (by omega) _ _ _ (GB _ _ _ (by omega) _ _ _ (by simp))
theorem yL(s:ByteArray):∀(f:Nat)(st:List Int)(p:Nat)(l:Int)(j:List Tk)(c:List Tk)(d:List Int),tF s f st p l j=(c,d, -1)->∃g h,c=j++g++[⟨6,(s.size:Nat),(s.size:Nat),h,0,⟨#[]⟩⟩]/\Fd st g d
 |0,st,p,l,j,c,d,b=>by simp[tF]at b
 |f+1,st,p,l,j,c,d,b=>by
  rw[tF]at b
  split at b
  ·simp only[ll]at b
   exact⟨[],l,by rw[dA];exact b.1.symm,by rw[<-b.2.1];exact .nil⟩
  split at b
  ·split at b
   ·rename_i i
    obtain⟨g,h,e,m⟩:=yL s f _ _ _ _ c d b
    exact⟨⟨5,(p:Nat),((fh s p).a:Nat),l,(fh s p).n,(fh s p).x⟩::g,h,by rw[e];simp,.cons (by show(1:Int)<=5;omega) (by show(5:Int)<=78;omega) (by show(5:Int)≠6;omega) i m⟩
   ·exact yL s f _ _ _ _ c d b
  split at b
  ·rename_i q i
   split at b
   ·rename_i o
    obtain⟨t,u⟩:=afF s p o
    have r:tE s p=(fh s p).k:=by unfold tE;rw[ab o]
    rw[show Gz st (tE s p)=dF st (tE s p) by unfold Gz;rw[ab (by omega)]]at i
    obtain⟨g,h,e,m⟩:=yL s f _ _ _ _ c d b
    exact⟨⟨tE s p,(p:Nat),((fh s p).a:Nat),l,(fh s p).n,(fh s p).x⟩::g,h,by rw[e];simp,.cons (by show 1<=tE s p;omega) (by show tE s p<=78;omega) (aeo s p o) i m⟩
   ·simp only[ll]at b
    omega
  ·simp only[ll]at b
   omega
theorem afG{a:List Tk}{st g:List Int}(b:Fd st a g):∀{T:Tk},T∈a->1<=T.k/\T.k<=78/\T.k≠6:=by
 induction b with
 |nil=>intro T hT;cases hT
 |cons c d e h i f=>
  intro T hT
  rcases List.mem_cons.1 hT with rfl|hT
  ·exact⟨c,d,e⟩
  ·exact f hT
def zTk:Tk:=⟨0,0,0,0,0,⟨#[]⟩⟩
def rE(a:List Tk)(q:Nat):Tk:=a.getD q zTk
theorem GC{a:List Tk}{q:Nat}{T:Tk}(b:a[q]?=some T):rE a q=T:=by unfold rE;rw[aL,b];rfl
def xw:List Int:=[20,21,22,27,23,24,25,26,28,29,32,30,31,33,34,35,36,37,40,41,42]
theorem aep{w:World}{d:Value}{f:List Nd}{N:Nd}{vn vk:Value}(a:NArg w d f N vn vk)(b:∀c∈xw,N.k≠c):
  Calls Tryz.prog 47 #[.agg #[d],gF N vn vk] w fun e h=>e= .returned (.bool false)/\Below w.heap.size w h:=by
 obtain⟨i,m,rfl⟩:=a.t.form
 obtain⟨j,o,rfl⟩:=a.n.form
 obtain⟨l,p,rfl⟩:=a.k.form
 have g:=St.start a
 clear a
 have q:∀c:Int,20<=c->c<=37->(N.k==c)=false:=fun c _ _=>beq_eq_false_iff_ne.2 (b c (by simp[xw];omega))
 have r:∀c:Int,40<=c->c<=42->(N.k==c)=false:=fun c _ _=>beq_eq_false_iff_ne.2 (b c (by simp[xw];omega))
 clear b
 unfold gF
 go_in
 go_wp2
 go_ret
 exact⟨rfl,g.bel⟩
def Kg(a:List Nd)(N:Nd):Nat->Nat->Bool
 |0,_=>true
 |f+1,j=>decide (40<=eC a N j/\eC a N j<=42)&&Kg a N f (j+1)
structure ag1 (ns:List Nd) (N:Nd) (f j:Nat) (R:Bool):Prop where
 out:Kg ns N f j=R
theorem abo{w:World}{al:Value}{g:List Nd}{N:Nd}{vn vk:Value}(j:NArg w al g N vn vk)(F:N.k=35):
  Calls Tryz.prog 47 #[.agg #[al],gF N vn vk] w fun e o=>e= .returned (.bool (Kg g N N.ks.length 0&&bj N false false false false))/\Below w.heap.size w o:=by
 obtain⟨I,L,rfl⟩:=j.t.form
 obtain⟨J,ad,rfl⟩:=j.n.form
 obtain⟨K,af,rfl⟩:=j.k.form
 have b:=St.start j
 have a6:=j.l2
 clear j
 have a7:=Lj F
 have a8:=Hz F
 clear F
 obtain⟨E,G⟩:=aE (Kg g N N.ks.length 0)
 rw[G]
 have an:ag1 g N N.ks.length 0 E:=⟨G⟩
 clear G
 unfold gF
 go_in
 go_wp2_with fail
 generalize (w.alloc (.cells #[.slice I g.length L] 25)).alloc (.cells #[.int .i64 N.k,.int .i64 N.f,.int .i64 N.t,.int .i64 N.l,.int .i64 N.op,.int .i64 N.n,.string N.x,.slice J N.nm.length ad,.slice K N.ks.length af] 50)=av at b⊢
 go_loopw [6,7,200] (fun _ _ H wr=>∃(c:Nat),H= .int .i64 c/\c<=N.ks.length/\ag1 g N (N.ks.length-c) c E/\St w (.slice I g.length L) g N (.slice J N.nm.length ad) (.slice K N.ks.length af) wr) (fun _ _ H _=>N.ks.length-(intOf H).toNat)
 case atStart=>exact⟨0,rfl,by omega,an,b⟩
 case round=>
  clear b
  obtain⟨c,rfl,a5,am,b⟩:=hrel
  obtain⟨p,q,r,s,u,v,y,z,A,B⟩:=bz b.bn
  have C:=b.bt
  have d:=am.out
  by_cases ap:c<N.ks.length
  ·rw[show N.ks.length-c=(N.ks.length-(c+1))+1 by omega,Kg]at d
   have ao:(c:Int)<(N.ks.length:Int):=by omega
   have m:=nh b.a c ap
   unfold gF at m
   generalize eC g N c=ak at d m
   by_cases a0:ak<40
   ·rw[az (by omega),dC]at d
    have i:=aj d
    clear d
    go_wp2_with (go_at_call 125;refine m.mono ?_;rintro e o ⟨rfl,h⟩;replace b:=b.below h;clear h;obtain⟨p,q,r,s,u,v,y,z,A,B⟩:=bz b.bn;have C:=b.bt)
    go_ret
    exact⟨by rw[<-i.out];rfl,b.bel⟩
   by_cases a4:42<ak
   ·rw[az (by omega),dC]at d
    have i:=aj d
    clear d
    go_wp2_with (go_at_call 125;refine m.mono ?_;rintro e o ⟨rfl,h⟩;replace b:=b.below h;clear h;obtain⟨p,q,r,s,u,v,y,z,A,B⟩:=bz b.bn;have C:=b.bt)
    go_ret
    exact⟨by rw[<-i.out];rfl,b.bel⟩
   rw[bB (by omega),ez]at d
   have i:ag1 g N (N.ks.length-(c+1)) (c+1) E:=⟨d⟩
   clear d
   go_wp2_with (go_at_call 125;refine m.mono ?_;rintro e o ⟨rfl,h⟩;replace b:=b.below h;clear h;obtain⟨p,q,r,s,u,v,y,z,A,B⟩:=bz b.bn;have C:=b.bt)
   exact⟨⟨c+1,by go_num,by omega,i,b⟩,by simp[intOf];omega⟩
  ·rw[show N.ks.length-c=0 by omega,Kg]at d
   have i:=aj d
   have ao:¬(c:Int)<(N.ks.length:Int):=by omega
   clear d
   go_wp2_with (go_at_call 126;refine b.bare fun ar b=>?_;obtain⟨p,q,r,s,u,v,y,z,A,B⟩:=bz b.bn;have C:=b.bt)
   go_ret
   exact⟨by rw[<-i.out];rfl,b.bel⟩
def iu(a:List Nd)(N:Nd):Bool:=
 if N.k=20 then(((N.ks.length:Int)==0)&&bj N false false false false)
 else if N.k=21 then(((N.ks.length:Int)==0)&&bj N false false false false)
 else if N.k=22 then(((N.ks.length:Int)==0)&&bj N false false false false)
 else if N.k=27 then(((N.ks.length:Int)==0)&&bj N false false false false)
 else if N.k=23 then(((N.ks.length:Int)==0)&&bj N false true false false)
 else if N.k=24 then(((N.ks.length:Int)==0)&&bj N false false true false&&fok N.x)
 else if N.k=25 then(((N.ks.length:Int)==0)&&bj N false false true false&&decide ((N.x.size:Int)<=4000))
 else if N.k=26 then(((N.ks.length:Int)==0)&&bj N false false true false&&lK N.x)
 else if N.k=28 then(((N.ks.length:Int)==2)&&jj a N 2 0&&bj N false false false false)
 else if N.k=29 then(((N.ks.length:Int)==2)&&jj a N 2 0&&bj N false false false false)
 else if N.k=32 then(((N.ks.length:Int)==2)&&jj a N 2 0&&(eC a N 0 !=27)&&bj N false false false false)
 else if N.k=30 then(((N.ks.length:Int)==1)&&jj a N 1 0&&bj N true false false false&&decide ((19:Int)<=N.op)&&decide (N.op<=22))
 else if N.k=31 then(((N.ks.length:Int)==2)&&jj a N 2 0&&bj N true false false false&&decide ((1:Int)<=N.op)&&decide (N.op<=18))
 else if N.k=33 then(((N.ks.length:Int)==1)&&jj a N 1 0&&(eC a N 0 !=27)&&bj N false false true false&&lK N.x)
 else if N.k=34 then(decide ((1:Int)<=(N.ks.length:Int))&&jj a N N.ks.length 0&&(eC a N 0 !=27)&&bj N false false false false)
 else if N.k=35 then(Kg a N N.ks.length 0&&bj N false false false false)
 else if N.k=36 then(((N.ks.length:Int)==1)&&(eC a N 0==1)&&bj N true false false true&&ew N 0 200&&(N.op==0||N.op==1))
 else if N.k=37 then(((N.ks.length:Int)==1)&&(eC a N 0==34||eC a N 0==27)&&bj N false false false false)
 else if N.k=40 then(((N.ks.length:Int)==1)&&jj a N 1 0&&bj N false false false false)
 else if N.k=41 then(((N.ks.length:Int)==2)&&jj a N 2 0&&bj N false false false false)
 else if N.k=42 then(((N.ks.length:Int)==1)&&jj a N 1 0&&bj N false false true false&&lK N.x)
 else false
theorem ag2{w:World}{C:Value}{d:List Nd}{N:Nd}{vn vk:Value}(i:NArg w C d N vn vk)(hK:N.k=20\/N.k=21\/N.k=22\/N.k=27\/N.k=23\/N.k=24\/N.k=25\/N.k=26\/N.k=28\/N.k=29\/N.k=41\/N.k=32\/N.k=30\/N.k=31\/N.k=33\/N.k=34\/N.k=40\/N.k=42\/N.k=36\/N.k=37):
  Calls Tryz.prog 47 #[.agg #[C],gF N vn vk] w fun e E=>e= .returned (.bool (iu d N))/\Below w.heap.size w E:=by
 obtain⟨F,I,rfl⟩:=i.t.form
 obtain⟨G,J,rfl⟩:=i.n.form
 obtain⟨H,K,rfl⟩:=i.k.form
 have a:=St.start i
 have B:Hid (N.x.size<=1100000):=ch i.lx (by decide)
 clear i
 rcases hK with hK|hK|hK|hK|hK|hK|hK|hK|hK|hK|hK|hK|hK|hK|hK|hK|hK|hK|hK|hK
 all_goals
  unfold iu
  simp only[hK,reduceIte,Int.reduceEq]
  have ad:=Lj hK
  have L:=Hz hK
  first
  |(have b:N.k=20\/N.k=21\/N.k=22\/N.k=27:=by first|exact .inl hK|exact .inr (.inl hK)|exact .inr (.inr (.inl hK))|exact .inr (.inr (.inr (hK)))
    clear b hK
    cases t0:((N.ks.length:Int)==0)
    case' true=>
     cases t1:bj N false false false false)
  |(have b:N.k=23:=hK
    clear b hK
    cases t0:((N.ks.length:Int)==0)
    case' true=>
     cases t1:bj N false true false false)
  |(have b:N.k=24:=hK
    clear b hK
    cases t0:((N.ks.length:Int)==0)
    case' true=>
     cases t1:bj N false false true false
     case' true=>
      cases t2:fok N.x)
  |(have b:N.k=25:=hK
    clear b hK
    cases t0:((N.ks.length:Int)==0)
    case' true=>
     cases t1:bj N false false true false
     case' true=>
      cases t2:decide ((N.x.size:Int)<=4000))
  |(have b:N.k=26:=hK
    clear b hK
    cases t0:((N.ks.length:Int)==0)
    case' true=>
     cases t1:bj N false false true false
     case' true=>
      cases t2:lK N.x)
  |(have b:N.k=28\/N.k=29\/N.k=41:=by first|exact .inl hK|exact .inr (.inl hK)|exact .inr (.inr (hK))
    clear b hK
    cases t0:((N.ks.length:Int)==2)
    case' true=>
     have c:N.ks.length=2:=by have:=fI t0;omega
     have f:Hid (2<=N.ks.length):=by show _<=_;omega
     have g:Hid (0<N.ks.length):=by show _<_;omega
     have z:Hid (1<N.ks.length):=by show _<_;omega
     clear c
     cases t1:jj d N 2 0
     case' true=>
      cases t2:bj N false false false false)
  |(have b:N.k=32:=hK
    clear b hK
    cases t0:((N.ks.length:Int)==2)
    case' true=>
     have c:N.ks.length=2:=by have:=fI t0;omega
     have f:Hid (2<=N.ks.length):=by show _<=_;omega
     have g:Hid (0<N.ks.length):=by show _<_;omega
     have z:Hid (1<N.ks.length):=by show _<_;omega
     clear c
     cases t1:jj d N 2 0
     case' true=>
      cases t2:(eC d N 0 !=27)
      case' true=>
       cases t3:bj N false false false false)
  |(have b:N.k=30:=hK
    clear b hK
    cases t0:((N.ks.length:Int)==1)
    case' true=>
     have c:N.ks.length=1:=by have:=fI t0;omega
     have f:Hid (1<=N.ks.length):=by show _<=_;omega
     have g:Hid (0<N.ks.length):=by show _<_;omega
     clear c
     cases t1:jj d N 1 0
     case' true=>
      cases t2:bj N true false false false
      case' true=>
       cases t3:decide ((19:Int)<=N.op)
       case' true=>
        cases t4:decide (N.op<=22))
  |(have b:N.k=31:=hK
    clear b hK
    cases t0:((N.ks.length:Int)==2)
    case' true=>
     have c:N.ks.length=2:=by have:=fI t0;omega
     have f:Hid (2<=N.ks.length):=by show _<=_;omega
     have g:Hid (0<N.ks.length):=by show _<_;omega
     have z:Hid (1<N.ks.length):=by show _<_;omega
     clear c
     cases t1:jj d N 2 0
     case' true=>
      cases t2:bj N true false false false
      case' true=>
       cases t3:decide ((1:Int)<=N.op)
       case' true=>
        cases t4:decide (N.op<=18))
  |(have b:N.k=33:=hK
    clear b hK
    cases t0:((N.ks.length:Int)==1)
    case' true=>
     have c:N.ks.length=1:=by have:=fI t0;omega
     have f:Hid (1<=N.ks.length):=by show _<=_;omega
     have g:Hid (0<N.ks.length):=by show _<_;omega
     clear c
     cases t1:jj d N 1 0
     case' true=>
      cases t2:(eC d N 0 !=27)
      case' true=>
       cases t3:bj N false false true false
       case' true=>
        cases t4:lK N.x)
  |(have b:N.k=34:=hK
    clear b hK
    cases t0:decide ((1:Int)<=(N.ks.length:Int))
    case' true=>
     have g:Hid (0<N.ks.length):=by show _<_;have:=bi t0;omega
     cases t1:jj d N N.ks.length 0
     case' true=>
      cases t2:(eC d N 0 !=27)
      case' true=>
       cases t3:bj N false false false false)
  |(have b:N.k=40:=hK
    clear b hK
    cases t0:((N.ks.length:Int)==1)
    case' true=>
     have c:N.ks.length=1:=by have:=fI t0;omega
     have f:Hid (1<=N.ks.length):=by show _<=_;omega
     have g:Hid (0<N.ks.length):=by show _<_;omega
     clear c
     cases t1:jj d N 1 0
     case' true=>
      cases t2:bj N false false false false)
  |(have b:N.k=42:=hK
    clear b hK
    cases t0:((N.ks.length:Int)==1)
    case' true=>
     have c:N.ks.length=1:=by have:=fI t0;omega
     have f:Hid (1<=N.ks.length):=by show _<=_;omega
     have g:Hid (0<N.ks.length):=by show _<_;omega
     clear c
     cases t1:jj d N 1 0
     case' true=>
      cases t2:bj N false false true false
      case' true=>
       cases t3:lK N.x)
  |(have b:N.k=36:=hK
    clear b hK
    cases t0:((N.ks.length:Int)==1)
    case' true=>
     have c:N.ks.length=1:=by have:=fI t0;omega
     have f:Hid (1<=N.ks.length):=by show _<=_;omega
     have g:Hid (0<N.ks.length):=by show _<_;omega
     clear c
     cases t1:(eC d N 0==1)
     case' true=>
      cases t2:bj N true false false true
      case' true=>
       cases t3:ew N 0 200
       case' true=>
        cases u4:(N.op==0)
        case' false=>cases v4:(N.op==1))
  |(have b:N.k=37:=hK
    clear b hK
    cases t0:((N.ks.length:Int)==1)
    case' true=>
     have c:N.ks.length=1:=by have:=fI t0;omega
     have f:Hid (1<=N.ks.length):=by show _<=_;omega
     have g:Hid (0<N.ks.length):=by show _<_;omega
     clear c
     cases u1:(eC d N 0==34)
     case' false=>cases v1:(eC d N 0==27)
     all_goals
      cases t2:bj N false false false false)
 all_goals
  unfold gF
  go_in
  go_wp2_with (first|(go_at_call 126;with_reducible refine a.bare fun h a=>?_;obtain⟨j,l,m,o,p,q,r,s,u,v⟩:=bz a.bn;have y:=a.bt)|(go_at_call 127;with_reducible refine a.named fun h a=>?_;obtain⟨j,l,m,o,p,q,r,s,u,v⟩:=bz a.bn;have y:=a.bt)|(go_at_call 128;(first|with_reducible refine a.ex1 f.out fun h a=>?_|with_reducible refine a.ex2 f.out fun h a=>?_|with_reducible refine a.exL fun h a=>?_);obtain⟨j,l,m,o,p,q,r,s,u,v⟩:=bz a.bn;have y:=a.bt)|(go_at_call 125;(first|with_reducible refine a.kid0 g.out fun h a=>?_|with_reducible refine a.kid1 z.out fun h a=>?_);obtain⟨j,l,m,o,p,q,r,s,u,v⟩:=bz a.bn;have y:=a.bt)|(go_at_call 131;refine dG (th _ B.out _) fun h A=>?_;replace a:=a.below A;obtain⟨j,l,m,o,p,q,r,s,u,v⟩:=bz a.bn;have y:=a.bt)|(go_at_call 130;refine dG (Ee _ B.out _) fun h A=>?_;replace a:=a.below A;obtain⟨j,l,m,o,p,q,r,s,u,v⟩:=bz a.bn;have y:=a.bt))
  go_ret
  exact⟨rfl,a.bel⟩
theorem abp{w:World}{c:Value}{b:List Nd}{N:Nd}{vn vk:Value}(d:NArg w c b N vn vk)(h:0<N.ks.length):
  Calls Tryz.prog 125 #[.agg #[c],.agg #[.int .i64 N.k,.int .i64 N.f,.int .i64 N.t,.int .i64 N.l,.int .i64 N.op,.int .i64 N.n,.string N.x,vn,vk],.int .i64 ((N.ks.length:Int)-1)] w fun e g=>e= .returned (.int .i64 (eC b N (N.ks.length-1)))/\Below w.heap.size w g:=by
 have a:=nh d (N.ks.length-1) (by omega)
 rw[show((N.ks.length-1:Nat):Int)=(N.ks.length:Int)-1 by omega]at a
 exact a
theorem aeq{w:World}{c:Value}{b:List Nd}{N:Nd}{vn vk:Value}(a:NArg w c b N vn vk)(h:0<N.ks.length):
  Calls Tryz.prog 128 #[.agg #[c],.agg #[.int .i64 N.k,.int .i64 N.f,.int .i64 N.t,.int .i64 N.l,.int .i64 N.op,.int .i64 N.n,.string N.x,vn,vk],.int .i64 0,.int .i64 ((N.ks.length:Int)-1)] w fun e g=>e= .returned (.bool (jj b N (N.ks.length-1) 0))/\Below w.heap.size w g:=by
 have d:=jr w c b N vn vk 0 (N.ks.length-1) a.t a.n a.k a.ok (by omega) a.ln a.l2
 rw[show((N.ks.length-1:Nat):Int)=(N.ks.length:Int)-1 by omega]at d
 exact d
theorem aer{w:World}{y:Value}{c:List Nd}{N:Nd}{vn vk:Value}(d:NArg w y c N vn vk)(h:N.k=9):
  Calls Tryz.prog 46 #[.agg #[y],gF N vn vk] w fun e i=>e= .returned (.bool (bj N false false false true&&(ew N 1 1&&(((N.ks.length:Int)==3||(N.ks.length:Int)==4)&&(jj c N (N.ks.length-1) 0&&(eC c N (N.ks.length-1)==1))))))/\Below w.heap.size w i:=by
 obtain⟨A,E,rfl⟩:=d.t.form
 obtain⟨B,F,rfl⟩:=d.n.form
 obtain⟨C,G,rfl⟩:=d.k.form
 have b:=St.start d
 have H:=d.l2
 clear d
 have I:=Lj h
 have J:=kqt h 9 rfl
 clear h
 unfold gF
 cases t0:bj N false false false true
 case' true=>
  cases t1:ew N 1 1
  case' true=>
   cases t2:((N.ks.length:Int)==3)
   case' false=>cases t5:((N.ks.length:Int)==4)
   case' false.true=>
    have g:Hid (0<N.ks.length):=by show _<_;have:=fI t5;omega
    cases t3:jj c N (N.ks.length-1) 0
    case' true=>cases t4:(eC c N (N.ks.length-1)==1)
   case' true.true.true=>
    have g:Hid (0<N.ks.length):=by show _<_;have:=fI t2;omega
    cases t3:jj c N (N.ks.length-1) 0
    case' true=>cases t4:(eC c N (N.ks.length-1)==1)
 all_goals
  go_in
  go_wp2_with (first|(go_at_call 126;refine b.bare fun z b=>?_;obtain⟨j,l,m,o,p,q,r,s,u,v⟩:=bz b.bn;have x:=b.bt)|(go_at_call 127;refine b.named fun z b=>?_;obtain⟨j,l,m,o,p,q,r,s,u,v⟩:=bz b.bn;have x:=b.bt)|(go_at_call 128;with_reducible refine(aeq b.a g.out).mono ?_;rintro e i ⟨rfl,f⟩;replace b:=b.below f;clear f;obtain⟨j,l,m,o,p,q,r,s,u,v⟩:=bz b.bn;have x:=b.bt)|(go_at_call 125;with_reducible refine(abp b.a g.out).mono ?_;rintro e i ⟨rfl,f⟩;replace b:=b.below f;clear f;obtain⟨j,l,m,o,p,q,r,s,u,v⟩:=bz b.bn;have x:=b.bt))
  go_ret
  exact⟨rfl,b.bel⟩
def stB(a:List Nd)(N:Nd):Bool:=
 if N.k=1 then(JL a N N.ks.length 0&&bj N false false false false)
 else if N.k=2 then(bj N false false false true&&ew N 1 200&&jj a N N.ks.length 0)
 else if N.k=3 then(bj N false false false true&&ew N 1 1&&((N.ks.length:Int)==1)&&jj a N 1 0)
 else if N.k=4 then(bj N false false false true&&ew N 1 1&&((N.ks.length:Int)==1)&&(eC a N 0==36))
 else if N.k=5 then(bj N false true false false&&(decide (1<=N.n/\N.n<(N.ks.length:Int))&&(Iu a N N.n.toNat 0&&jj a N (N.ks.length-N.n.toNat) N.n.toNat)))
 else if N.k=6 then(bj N false false false false&&((N.ks.length:Int)==1)&&(eC a N 0==34))
 else if N.k=7 then(bj N false false false false&&(decide (2<=N.ks.length/\N.ks.length<=3)&&(jj a N 1 0&&(!(eC a N 1 !=1)&&((N.ks.length:Int)==2||(eC a N 2==1||eC a N 2==7))))))
 else if N.k=8 then(bj N false false false false&&((N.ks.length:Int)==2)&&jj a N 1 0&&(eC a N 1==1))
 else if N.k=9 then(bj N false false false true&&(ew N 1 1&&(((N.ks.length:Int)==3||(N.ks.length:Int)==4)&&(jj a N (N.ks.length-1) 0&&(eC a N (N.ks.length-1)==1)))))
 else if N.k=10 then(bj N false false false true&&ew N 1 200&&((N.ks.length:Int)==2)&&jj a N 1 0&&(eC a N 1==1))
 else if N.k=11 then(bj N false false false false&&((N.ks.length:Int)==0))
 else if N.k=12 then(bj N false false false false&&((N.ks.length:Int)==0))
 else if N.k=13 then(bj N false false false false&&jj a N N.ks.length 0)
 else if N.k=14 then(bj N false false false true&&ew N 1 2&&((N.ks.length:Int)==2)&&(eC a N 0==1)&&(eC a N 1==1))
 else if N.k=15 then(bj N false false false false&&((N.ks.length:Int)==1)&&jj a N 1 0)
 else if N.k=16 then(bj N false false false false&&((N.ks.length:Int)==1)&&(eC a N 0==34))
 else false
theorem ag3{w:World}{A:Value}{c:List Nd}{N:Nd}{vn vk:Value}(h:NArg w A c N vn vk)(hK:N.k=3\/N.k=8\/N.k=11\/N.k=12\/N.k=2\/N.k=4\/N.k=6\/N.k=16\/N.k=10\/N.k=13\/N.k=14\/N.k=15):
  Calls Tryz.prog 46 #[.agg #[A],gF N vn vk] w fun e B=>e= .returned (.bool (stB c N))/\Below w.heap.size w B:=by
 obtain⟨E,H,rfl⟩:=h.t.form
 obtain⟨F,I,rfl⟩:=h.n.form
 obtain⟨G,J,rfl⟩:=h.k.form
 have a:=St.start h
 have C:Hid (N.x.size<=1100000):=ch h.lx (by decide)
 clear h
 rcases hK with hK|hK|hK|hK|hK|hK|hK|hK|hK|hK|hK|hK
 all_goals
  unfold stB
  simp only[hK,reduceIte,Int.reduceEq]
  have L:=Lj hK
  have K:=Hz hK
  first
  |(have b:N.k=3:=hK
    clear b hK
    cases t0:bj N false false false true
    case' true=>
     cases t1:ew N 1 1
     case' true=>
      cases t2:((N.ks.length:Int)==1)
      case' true=>
       have d:N.ks.length=1:=by have:=fI t2;omega
       have f:Hid (1<=N.ks.length):=by show _<=_;omega
       have g:Hid (0<N.ks.length):=by show _<_;omega
       clear d
       cases t3:jj c N 1 0)
  |(have b:N.k=8:=hK
    clear b hK
    cases t0:bj N false false false false
    case' true=>
     cases t1:((N.ks.length:Int)==2)
     case' true=>
      have d:N.ks.length=2:=by have:=fI t1;omega
      have f:Hid (1<=N.ks.length):=by show _<=_;omega
      have g:Hid (0<N.ks.length):=by show _<_;omega
      have j:Hid (1<N.ks.length):=by show _<_;omega
      clear d
      cases t2:jj c N 1 0
      case' true=>
       cases t3:(eC c N 1==1))
  |(have b:N.k=11\/N.k=12:=by first|exact .inl hK|exact .inr (hK)
    clear b hK
    cases t0:bj N false false false false
    case' true=>
     cases t1:((N.ks.length:Int)==0))
  |(have b:N.k=2:=hK
    clear b hK
    cases t0:bj N false false false true
    case' true=>
     cases t1:ew N 1 200
     case' true=>
      cases t2:jj c N N.ks.length 0)
  |(have b:N.k=4:=hK
    clear b hK
    cases t0:bj N false false false true
    case' true=>
     cases t1:ew N 1 1
     case' true=>
      cases t2:((N.ks.length:Int)==1)
      case' true=>
       have d:N.ks.length=1:=by have:=fI t2;omega
       have f:Hid (1<=N.ks.length):=by show _<=_;omega
       have g:Hid (0<N.ks.length):=by show _<_;omega
       clear d
       cases t3:(eC c N 0==36))
  |(have b:N.k=6\/N.k=16:=by first|exact .inl hK|exact .inr (hK)
    clear b hK
    cases t0:bj N false false false false
    case' true=>
     cases t1:((N.ks.length:Int)==1)
     case' true=>
      have d:N.ks.length=1:=by have:=fI t1;omega
      have f:Hid (1<=N.ks.length):=by show _<=_;omega
      have g:Hid (0<N.ks.length):=by show _<_;omega
      clear d
      cases t2:(eC c N 0==34))
  |(have b:N.k=10:=hK
    clear b hK
    cases t0:bj N false false false true
    case' true=>
     cases t1:ew N 1 200
     case' true=>
      cases t2:((N.ks.length:Int)==2)
      case' true=>
       have d:N.ks.length=2:=by have:=fI t2;omega
       have f:Hid (1<=N.ks.length):=by show _<=_;omega
       have g:Hid (0<N.ks.length):=by show _<_;omega
       have j:Hid (1<N.ks.length):=by show _<_;omega
       clear d
       cases t3:jj c N 1 0
       case' true=>
        cases t4:(eC c N 1==1))
  |(have b:N.k=13:=hK
    clear b hK
    cases t0:bj N false false false false
    case' true=>
     cases t1:jj c N N.ks.length 0)
  |(have b:N.k=14:=hK
    clear b hK
    cases t0:bj N false false false true
    case' true=>
     cases t1:ew N 1 2
     case' true=>
      cases t2:((N.ks.length:Int)==2)
      case' true=>
       have d:N.ks.length=2:=by have:=fI t2;omega
       have f:Hid (1<=N.ks.length):=by show _<=_;omega
       have g:Hid (0<N.ks.length):=by show _<_;omega
       have j:Hid (1<N.ks.length):=by show _<_;omega
       clear d
       cases t3:(eC c N 0==1)
       case' true=>
        cases t4:(eC c N 1==1))
  |(have b:N.k=15:=hK
    clear b hK
    cases t0:bj N false false false false
    case' true=>
     cases t1:((N.ks.length:Int)==1)
     case' true=>
      have d:N.ks.length=1:=by have:=fI t1;omega
      have f:Hid (1<=N.ks.length):=by show _<=_;omega
      have g:Hid (0<N.ks.length):=by show _<_;omega
      clear d
      cases t2:jj c N 1 0)
 all_goals
  unfold gF
  go_in
  go_wp2_with (first|(go_at_call 126;with_reducible refine a.bare fun i a=>?_;obtain⟨l,m,o,p,q,r,s,u,v,y⟩:=bz a.bn;have z:=a.bt)|(go_at_call 127;with_reducible refine a.named fun i a=>?_;obtain⟨l,m,o,p,q,r,s,u,v,y⟩:=bz a.bn;have z:=a.bt)|(go_at_call 128;(first|with_reducible refine a.ex1 f.out fun i a=>?_|with_reducible refine a.ex2 f.out fun i a=>?_|with_reducible refine a.exL fun i a=>?_);obtain⟨l,m,o,p,q,r,s,u,v,y⟩:=bz a.bn;have z:=a.bt)|(go_at_call 125;(first|with_reducible refine a.kid0 g.out fun i a=>?_|with_reducible refine a.kid1 j.out fun i a=>?_);obtain⟨l,m,o,p,q,r,s,u,v,y⟩:=bz a.bn;have z:=a.bt))
  go_ret
  exact⟨rfl,a.bel⟩
section
variable {w : World} {vt : Value} {ns : List Nd} {N : Nd} {vn vk : Value} (A : NArg w vt ns N vn vk)
include A
theorem ww(a:gI N.k=true):Calls Tryz.prog 46 #[.agg #[vt],gF N vn vk] w fun e b=>e= .returned (.bool (stB ns N))/\Below w.heap.size w b:=by
 have c:=bi a
 rcases(show(N.k=3\/N.k=8\/N.k=11\/N.k=12\/N.k=2\/N.k=4\/N.k=6\/N.k=16\/N.k=10\/N.k=13\/N.k=14\/N.k=15)\/N.k=1\/N.k=5\/N.k=7\/N.k=9 by omega) with hK|hK|hK|hK|hK
 ·exact ag3 A hK
 all_goals
  unfold stB
  simp only[hK,reduceIte,Int.reduceEq]
  first|exact adI A hK|exact aef A hK|exact aee A hK|exact aer A hK
theorem uF:Calls Tryz.prog 47 #[.agg #[vt],gF N vn vk] w fun e d=>e= .returned (.bool (iu ns N))/\Below w.heap.size w d:=by
 by_cases b:N.k=20\/N.k=21\/N.k=22\/N.k=27\/N.k=23\/N.k=24\/N.k=25\/N.k=26\/N.k=28\/N.k=29\/N.k=41\/N.k=32\/N.k=30\/N.k=31\/N.k=33\/N.k=34\/N.k=40\/N.k=42\/N.k=36\/N.k=37
 ·exact ag2 A b
 by_cases a:N.k=35
 ·unfold iu
  simp only[a,reduceIte,Int.reduceEq]
  exact abo A a
 rw[show iu ns N=false by unfold iu;repeat rw[aa (by omega)]]
 refine aep A fun f c=>?_
 simp only[xw,gi,mE,mI]at c
 omega
end
def Dw(l:List Int)(i:Int):Nat->Nat->Bool
 |0,_=>true
 |f+1,j=>decide (0<=l.getD j 0/\l.getD j 0<i)&&Dw l i f (j+1)
structure ag4 (l:List Int) (i:Int) (f j:Nat) (R:Bool):Prop where
 out:Dw l i f j=R
theorem tG(l:List Int)(i:Int):∀(f j:Nat),Dw l i f j=true->∀k,j<=k->k<j+f->0<=l.getD k 0/\l.getD k 0<i
 |0,j,_,k,b,c=>by omega
 |f+1,j,a,k,b,c=>by
  rw[Dw,dr]at a
  rcases iD b with rfl|h3
  ·exact bi a.1
  ·exact tG l i f (j+1) a.2 k h3 (by omega)
theorem ag5{a:List Nd}{N:Nd}{i:Nat}(b:Dw N.ks i N.ks.length 0=true)(f:i<=a.length):uw a N:=by
 refine⟨fun g d=>?_⟩
 obtain⟨e,c,rfl⟩:=gh d
 have:=tG N.ks i N.ks.length 0 b e (by omega) (by omega)
 rw[aL,aF c]at this
 simp only[fH]at this
 omega
def GD(N:Nd):Bool:=decide (0<=N.f/\N.f<=N.t/\0<=N.l/\N.ks.length<=200)
def lF(a:List Nd)(N:Nd):Bool:=if gI N.k=true then stB a N else iu a N
def gJ(a:List Nd)(i:Nat)(N:Nd):Bool:=GD N&&(Dw N.ks i N.ks.length 0&&lF a N)
structure fm (N:Nd):Prop where
 l1:N.nm.length<=1048576
 l2:N.ks.length<=1048576
 lx:N.x.size<=1048576
 ls:∀s∈N.nm,s.size<=1048576
theorem CG(w:World)(an:Value)(c:List Nd)(i:Nat)(N:Nd)(ht:dK w an c)(bd:c.length<=1048576)(p:c[i]?=some N)(hS:fm N):
  Calls Tryz.prog 18 #[.agg #[an],.int .i64 i] w fun e bk=>e= .returned (.bool (gJ c i N))/\Below w.heap.size w bk:=by
 obtain⟨bn,K,rfl⟩:=ht.form
 obtain⟨am,rfl,b0,bF,a9⟩:=ht.get p
 have bb:i<c.length:=by rcases ci i c.length with h|h;exact h;rw[iC h]at p;cases p
 have bv:(i:Int)<(c.length:Int):=by omega
 have bt:(0:Int)<=(i:Int):=by omega
 obtain⟨af,ar,av,a0,a4,a5,a6,a7,a8,A,z⟩:=a9
 obtain⟨I,L,rfl⟩:=A.form
 obtain⟨J,ad,rfl⟩:=z.form
 have bD:=tg af
 have n:=aj hS
 have o:=jw ht A z
 have bA:=hS.l2
 clear ht A z hS p
 unfold gJ
 by_cases u:N.f<0\/N.t<N.f\/N.l<0\/(200:Int)<(N.ks.length:Int)
 ·rw[show GD N=false from az (by omega)]
  go_in
  go_wp2
  all_goals (go_ret;exact⟨rfl,(Dy rfl).2.2.1⟩)
 rw[show GD N=true from bB (by omega)]
 simp only[not_or]at u
 obtain⟨u,bo,br,bs⟩:=u
 obtain⟨H,hS⟩:=aE (lF c N)
 rw[hS]
 have G:=aj hS
 clear hS
 obtain⟨r,v⟩:=aE (Dw N.ks i N.ks.length 0)
 rw[v]
 have F:ag4 N.ks i N.ks.length 0 r:=⟨v⟩
 clear v
 go_in
 go_wp2_with fail
 generalize ak:(w.alloc _).alloc _=s
 obtain⟨al,y,d, -⟩:=Dy ak
 replace al:s.cell? ⟨w.heap.size,0,none⟩=some (.slice (some am) c.length K):=(au _ _ _ _ _ _ al).trans rfl
 replace y:nc (w.heap.size+1) s 50 N (.slice I N.nm.length L) (.slice J N.ks.length ad):=y
 clear ak
 clear af ar av a0 a4 a5 a6 a7 a8
 go_loop [7,37] (fun _ E=>∃a:Nat,E= .int .i64 a/\a<=N.ks.length/\ag4 N.ks i (N.ks.length-a) a r) (fun _ E=>N.ks.length-(intOf E).toNat)
 case atStart=>exact⟨0,rfl,by omega,F⟩
 case round=>
  obtain⟨a,rfl,bw,ap⟩:=hrel
  have b:=ap.out
  by_cases bf:a<N.ks.length
  ·have C:N.ks[a]?=some N.ks[a]:=aF bf
   obtain⟨bE,rfl,ba⟩:=(o.2.2.below d).get C
   rw[show N.ks.length-a=(N.ks.length-(a+1))+1 by omega,Dw,aL,C,fH]at b
   have bc:(a:Int)<(N.ks.length:Int):=by omega
   have bx:(0:Int)<=(a:Int):=by omega
   generalize N.ks[a]=ao at b ba
   clear C
   by_cases z0:ao<0
   ·rw[az (by omega),dC]at b
    have g:=aj b
    clear b
    go_wp2_with fail
    go_ret
    exact⟨by rw[<-g.out];rfl,d⟩
   by_cases cb:(i:Int)<=ao
   ·rw[az (by omega),dC]at b
    have g:=aj b
    clear b
    go_wp2_with fail
    go_ret
    exact⟨by rw[<-g.out];rfl,d⟩
   rw[bB (by omega),ez]at b
   have g:ag4 N.ks i (N.ks.length-(a+1)) (a+1) r:=⟨b⟩
   clear b
   go_wp2_with fail
   go_round
   case rel=>exact⟨a+1,by go_num,by omega,g⟩
   case measure=>simp[intOf];omega
  ·rw[show N.ks.length-a=0 by omega,Dw]at b
   have g:=aj b
   have bc:¬(a:Int)<(N.ks.length:Int):=by omega
   have B:uw c N:=ag5 (by rw[F.out,<-g.out]) (jv bb)
   have m:NArg s (.slice (some am) c.length K) c N (.slice I N.nm.length L) (.slice J N.ks.length ad):=⟨o.1.below d,o.2.1.below d,o.2.2.below d,B,bd,n.l1,n.l2,n.lx,n.ls⟩
   obtain⟨b1,b2,b3,b4,b5,b6,b7,b8,b9,ca⟩:=bz y
   have q:=fun w=>yk N.k w
   clear b
   cases hx:gI N.k with
   |true=>
    have j:=ww m hx
    rw[hx]at q
    rw[show stB c N=H by rw[<-G.out];unfold lF;rw[ab hx]]at j
    unfold gF at j
    clear hx m B
    go_wp2_with (first|(go_at_call 45;refine dj (q _) ?_)|(go_at_call 46;refine j.mono ?_;rintro e bl ⟨rfl,x⟩))
    go_ret
    exact⟨by rw[<-g.out];rfl,d.trans (x.mono d.size)⟩
   |false=>
    have j:=uF m
    rw[hx]at q
    rw[show iu c N=H by rw[<-G.out];unfold lF;rw[aa (by rw[hx];simp)]]at j
    unfold gF at j
    clear hx m B
    go_wp2_with (first|(go_at_call 45;refine dj (q _) ?_)|(go_at_call 47;refine j.mono ?_;rintro e bl ⟨rfl,x⟩))
    go_ret
    exact⟨by rw[<-g.out];rfl,d.trans (x.mono d.size)⟩
def IC:Array Value:=#[.int .i64 26,.int .i64 1,.int .i64 2,.int .i64 10,.int .i64 2,.int .i64 3,.int .i64 73,.int .i64 3,.int .i64 4,.int .i64 74,.int .i64 3,.int .i64 4,.int .i64 75,.int .i64 3,.int .i64 4,.int .i64 76,.int .i64 3,.int .i64 4,.int .i64 77,.int .i64 3,.int .i64 4,.int .i64 78,.int .i64 3,.int .i64 4,
 .int .i64 72,.int .i64 4,.int .i64 4,.int .i64 68,.int .i64 5,.int .i64 6,.int .i64 69,.int .i64 6,.int .i64 7,.int .i64 67,.int .i64 7,.int .i64 8,.int .i64 70,.int .i64 8,.int .i64 9,.int .i64 71,.int .i64 8,.int .i64 9,.int .i64 61,.int .i64 9,.int .i64 10,.int .i64 62,.int .i64 9,.int .i64 10,
 .int .i64 63,.int .i64 10,.int .i64 11,.int .i64 64,.int .i64 10,.int .i64 11,.int .i64 65,.int .i64 10,.int .i64 11,.int .i64 66,.int .i64 10,.int .i64 11]
def A9:List Int:=[26,10,73,74,75,76,77,78,72,68,69,67,70,71,61,62,63,64,65,66]
def nw(k:Nat):Int:=match IC.getD k (.int .i64 0) with| .int _ a=>a|_=>0
theorem ais(k:Nat)(a:k<20)(w:World):(Instr.index 234 (.agg IC) (.int .i64 (k:Int))).run Tryz.prog w= .ok (.agg #[.int .i64 (A9.getD k 0),.int .i64 (nw (3*k+1)),.int .i64 (nw (3*k+2))]) w:=by
 rcases(show k=0\/k=1\/k=2\/k=3\/k=4\/k=5\/k=6\/k=7\/k=8\/k=9\/k=10\/k=11\/k=12\/k=13\/k=14\/k=15\/k=16\/k=17\/k=18\/k=19 by omega) with rfl|rfl|rfl|rfl|rfl|rfl|rfl|rfl|rfl|rfl|rfl|rfl|rfl|rfl|rfl|rfl|rfl|rfl|rfl|rfl
 all_goals kernel_rfl
theorem mi{b:Func}{p q:Tmp}{u:TypeId}(d:b.results=#[.cell q u,.tmp p])(tmps:Array Value)(P:Program)(w:World)(a:Addr)(v c:Value)(f:tmps.getD p undef=v)(h:tmps.getD q undef= .pointer (some a))
  (e:(loadVar u a).run P w= .ok c w):(results b tmps).run P w= .ok (.tuple #[c,v]) w:=by
 have g:tmps[p]?.getD undef=v:=by simpa using f
 have i:tmps[q]?.getD undef= .pointer (some a):=by simpa using h
 simp only[results,d]
 simp[Result.andThen,g,i,asAddr,e]
def fd(b:Nat)(W:World)(x a z:Int):Prop:=W.heap[b]?=some (.cells #[.int .i64 x,.int .i64 a,.int .i64 z] 165 (0,0))
theorem tH(w:World)(b:Nat)(x a z:Int)(c:fd b w x a z):(loadVar 165 ⟨b,0,none⟩).run Tryz.prog w= .ok (.agg #[.int .i64 x,.int .i64 a,.int .i64 z]) w:=
 Hu w b 165 165 _ _ _ c Tryz.underlying165 rfl (by kernel_rfl)
theorem fd.put{b:Nat}{W:World}{x f z:Int}(e:fd b W x f z)(a c d:Int):fd b (((W.setCell ⟨b,0,none⟩ (.int .i64 a)).setCell ⟨b,1,none⟩ (.int .i64 c)).setCell ⟨b,2,none⟩ (.int .i64 d)) a c d:=
 bI _ b 2 _ _ _ (bI _ b 1 _ _ _ (bI _ b 0 _ _ _ e))
theorem fd.cells{b:Nat}{W:World}{x c z:Int}(a:fd b W x c z):W.cell? ⟨b,0,none⟩=some (.int .i64 x)/\W.cell? ⟨b,1,none⟩=some (.int .i64 c)/\W.cell? ⟨b,2,none⟩=some (.int .i64 z)/\∀j,W.frozen? ⟨b,j,none⟩=false:=by
 unfold fd at a
 exact⟨by rw[au _ _ _ _ _ _ a];rfl,by rw[au _ _ _ _ _ _ a];rfl,by rw[au _ _ _ _ _ _ a];rfl,fun j=>cA _ _ _ _ _ a⟩
theorem sh(w:World)(z:TypeId)(fr:Nat×Nat)(u:w.heap[3]?=some (.cells IC z fr))(j:Nat)(ak:j<20)(c:Int)(k:A9.getD j 0=c)(y:∀i,i<j->A9.getD i 0≠c):
  Calls Tryz.prog 183 #[.int .i64 c] w fun e J=>e= .returned (.tuple #[.agg #[.int .i64 c,.int .i64 (nw (3*j+1)),.int .i64 (nw (3*j+2))],.bool true])/\Below w.heap.size w J:=by
 have F:=aw u
 have v:∀a,Below w.heap.size w (w.alloc a):=fun a=>(ag _ w).alloc (ah _) a
 have r:fd w.heap.size (w.alloc (.cells #[.int .i64 0,.int .i64 0,.int .i64 0] 165)) 0 0 0:=ay w _
 have A:Hid (fd w.heap.size (w.alloc (.cells #[.int .i64 0,.int .i64 0,.int .i64 0] 165)) 0 0 0/\Below w.heap.size w (w.alloc (.cells #[.int .i64 0,.int .i64 0,.int .i64 0] 165))):=⟨r,v _⟩
 have B:=aj y
 have C:=aj k
 clear y k r
 go_in
 go_wp2_with (refine Hs rfl 234 _ rfl 3 rfl z _ fr _ (((v _).block _ F).trans u) Tryz.underlying234 rfl (by kernel_rfl) ?_)
 go_loopw [7] (fun q wr=>∃b:Nat,b<=j/\q= .int .i64 b/\Hid (fd w.heap.size wr 0 0 0/\Below w.heap.size w wr)) (fun q _=>20-(intOf q).toNat)
 case atStart=>exact⟨0,by omega,rfl,A⟩
 case round=>
  obtain⟨b,k,rfl,g⟩:=hrel
  have G:b<20:=by omega
  have h:=fun w=>ais b G w
  have I:=aw g.1
  obtain⟨K,L,ad,af⟩:=g.1.cells
  have x:∀a,Below wr.heap.size wr (wr.alloc a):=fun a=>(ag _ wr).alloc (ah _) a
  rcases iD k with rfl|hlt
  ·rw[C.out]at h
   obtain⟨d,n⟩:=aE (nw (3*b+1))
   obtain⟨f,o⟩:=aE (nw (3*b+2))
   rw[n,o]at h
   have t:=eJ n o
   clear n o
   have p:=fd.put g.1 c d f
   have l:Below w.heap.size w (((wr.setCell ⟨w.heap.size,0,none⟩ (.int .i64 c)).setCell ⟨w.heap.size,1,none⟩ (.int .i64 d)).setCell ⟨w.heap.size,2,none⟩ (.int .i64 f)):=((g.2.setCell (ah _) _).setCell (ah _) _).setCell (ah _) _
   have m:∀a,Below (((wr.setCell ⟨w.heap.size,0,none⟩ (.int .i64 c)).setCell ⟨w.heap.size,1,none⟩ (.int .i64 d)).setCell ⟨w.heap.size,2,none⟩ (.int .i64 f)).heap.size (((wr.setCell ⟨w.heap.size,0,none⟩ (.int .i64 c)).setCell ⟨w.heap.size,1,none⟩ (.int .i64 d)).setCell ⟨w.heap.size,2,none⟩ (.int .i64 f)) ((((wr.setCell ⟨w.heap.size,0,none⟩ (.int .i64 c)).setCell ⟨w.heap.size,1,none⟩ (.int .i64 d)).setCell ⟨w.heap.size,2,none⟩ (.int .i64 f)).alloc a):=fun a=>(ag _ _).alloc (ah _) a
   have s:Hid ((∀a,fd w.heap.size ((((wr.setCell ⟨w.heap.size,0,none⟩ (.int .i64 c)).setCell ⟨w.heap.size,1,none⟩ (.int .i64 d)).setCell ⟨w.heap.size,2,none⟩ (.int .i64 f)).alloc a) c d f)/\(∀a,Below w.heap.size w ((((wr.setCell ⟨w.heap.size,0,none⟩ (.int .i64 c)).setCell ⟨w.heap.size,1,none⟩ (.int .i64 d)).setCell ⟨w.heap.size,2,none⟩ (.int .i64 f)).alloc a))):=⟨fun a=>((m a).block _ (aw p)).trans p,fun a=>l.trans ((m a).mono l.size)⟩
   clear p l m
   go_wp21
   exact aH (mi rfl _ _ _ ⟨w.heap.size,0,none⟩ (.bool true) _ rfl rfl (tH _ _ _ _ _ (s.1 _))) rfl ⟨by rw[t.out.1,t.out.2],s.2 _⟩
  ·have H:=B.out b hlt
   generalize nw (3*b+1)=d at h
   generalize nw (3*b+2)=f at h
   generalize A9.getD b 0=al at h H
   have E:Hid (∀a,fd w.heap.size (wr.alloc a) 0 0 0/\Below w.heap.size w (wr.alloc a)):=fun a=>⟨((x a).block _ I).trans g.1,g.2.trans ((x a).mono g.2.size)⟩
   go_wp21
   exact⟨⟨b+1,by omega,by go_num,E _⟩,by simp[intOf];omega⟩
open Go.Lib (strCells strCells_length wpList_append_own_string)
structure Pg (w0:World) (T:ByteArray) (W:World):Prop where
 bel:Below w0.heap.size w0 W
 row:∃(o:Value) (X:ByteArray) (ov:Bool),W.heap[w0.heap.size]?=some (.cells #[o,.bool ov] 55 (0,0))/\W.ownsRow (w0.heap.size+1) 5 1 o X.size (strCells X)/\X.size<=65536/\(T.size<=65536->ov=false/\X=T)/\(65536<T.size->ov=true)
theorem Pg.lt{a:World}{T:ByteArray}{W:World}(b:Pg a T W):a.heap.size<W.heap.size:=by
 obtain⟨f,d,g,c,e⟩:=b.row
 exact aw c
theorem Pg.below{e:World}{T:ByteArray}{W c:World}(a:Pg e T W)(b:Below W.heap.size W c):Pg e T c:=by
 obtain⟨k,f,l,d,g,h,i,j⟩:=a.row
 exact⟨a.bel.trans (b.mono a.bel.size),k,f,l,(b.block _ (aw d)).trans d,cF g b,h,i,j⟩
theorem CH(a:World)(T s:ByteArray)(w:World)(y:Pg a T w)(ba:s.size<=100000000):
  Calls Tryz.prog 303 #[.pointer (some ⟨a.heap.size,0,none⟩),.string s] w fun e I=>e= .returned (.tuple #[])/\Pg a (T++s) I/\Kq a.heap.size w I:=by
 obtain⟨bb,l,p,i,o,F,C,E⟩:=y.row
 have G:=y.bel
 obtain⟨b,z⟩:∃b,l.size=b:=⟨_,rfl⟩
 rw[z]at o F
 obtain⟨g,h,rfl⟩:=bG o
 obtain⟨ao,ap,ar,a0,a1⟩:=dD aaI
 have an:=aw i
 have a2:w.cell? ⟨a.heap.size,0,none⟩=some (.slice g b h):=by rw[au _ _ _ _ _ _ i];rfl
 have a3:w.cell? ⟨a.heap.size,1,none⟩=some (.bool p):=by rw[au _ _ _ _ _ _ i];rfl
 have a6:∀H,w.frozen? ⟨a.heap.size,H,none⟩=false:=fun H=>cA _ _ _ _ _ i
 have A:=Em i (by decide) o
 have c:Hid (w.ownsRow (a.heap.size+1) 5 1 (.slice g b h) b (strCells l)/\w.heap[a.heap.size]?=some (.cells #[.slice g b h,.bool p] 55 (0,0))/\l.size=b/\Below a.heap.size a w):=⟨o,i,z,G⟩
 have q:Hid ((T.size<=65536->p=false/\l=T)/\(65536<T.size->p=true)):=⟨C,E⟩
 clear o i z y G C E
 by_cases a8:b+s.size>65536
 ·have al:((b:Int)+(s.size:Int))>65536:=by omega
  have x:Pg a (T++s) (w.setCell ⟨a.heap.size,1,none⟩ (.bool true)):=by
   refine⟨c.out.2.2.2.setCell (ah _) _,.slice g b h,l,true,bI _ _ 1 _ _ _ c.out.2.1,?_,by rw[c.out.2.2.1];exact F,fun f=>?_,fun _=>rfl⟩
   ·rw[c.out.2.2.1]
    exact c.out.1.kept (row:=some a.heap.size) ⟨rfl,rfl,rfl,by simp[World.setCell],fun k m n=>aK _ _ _ _ (fun e=>n (by rw[e]))⟩ (by
     cases hv:(Value.slice g b h).ownBlock with
     |none=>exact .inl rfl
     |some L=>exact .inr (fun e=>by cases e;exact(A _ hv).1 rfl))
   ·rw[ax]at f
    obtain⟨_,d⟩:=q.out.1 (by omega)
    have:=c.out.2.2.1
    rw[d]at this
    omega
  go_enter Tryz.func303,Tryz.ntmps303
  go_wp21
  exact aH (gx rfl _ _ _) rfl ⟨rfl,x,Kq.putP _ _ _ _⟩
 ·have al:¬((b:Int)+(s.size:Int))>65536:=by omega
  go_enter Tryz.func303,Tryz.ntmps303
  go_wp2_with (at_builtin;refine wpList_append_own_string _ rfl _ _ 22 9 rfl (a.heap.size+1) 5 ao Tryz.underlying22 Tryz.underlying9 ap ar a0 a1 _ _ _ rfl c.out.1 s rfl (by unfold maxLen;omega) (by omega) (by omega) ?_;intro bc v B j a9;obtain⟨r,t,rfl⟩:=bG B;have u:=(j.block _ an (fun e=>(A _ e.symm).1 rfl)).trans c.out.2.1;have bd:v.cell? ⟨a.heap.size,0,none⟩=some (.slice g b h):=(by rw[au _ _ _ _ _ _ u];rfl);have a7:v.frozen? ⟨a.heap.size,0,none⟩=false:=cA _ _ _ _ _ u)
  have x:Pg a (T++s) (v.setCell ⟨a.heap.size,0,none⟩ (.slice r (b+s.size) t)):=by
   refine⟨(c.out.2.2.2.grown j (by omega) (fun k m=>by have:=(A k m).2;omega)).setCell (ah _) _,.slice r (b+s.size) t,l++s,p,bI _ _ 0 _ _ _ u,?_,by rw[ax,c.out.2.2.1];omega,fun f=>?_,fun f=>?_⟩
   ·rw[ax,c.out.2.2.1,tw]
    exact B.kept (row:=some a.heap.size) ⟨rfl,rfl,rfl,by simp[World.setCell],fun k m n=>aK _ _ _ _ (fun e=>n (by rw[e]))⟩ (by
     cases hv:(Value.slice r (b+s.size) t).ownBlock with
     |none=>exact .inl rfl
     |some L=>exact .inr (fun e=>by cases e;exact(Em u (by decide) B _ hv).1 rfl))
   ·rw[ax]at f
    obtain⟨J,d⟩:=q.out.1 (by omega)
    exact⟨J,by rw[d]⟩
   ·rw[ax]at f
    by_cases af:T.size<=65536
    ·obtain⟨_,d⟩:=q.out.1 af
     have:=c.out.2.2.1
     rw[d]at this
     omega
    ·exact q.out.2 (by omega)
  have K:Kq a.heap.size w (v.setCell ⟨a.heap.size,0,none⟩ (.slice r (b+s.size) t)):=by
   refine⟨j.os,j.tape,j.output,by simp[World.setCell];exact j.size,fun k m n am=>?_⟩
   rw[aK _ _ _ _ n]
   refine j.block k m (fun e=>?_)
   have d:(Value.slice g b h).ownBlock=some k:=e.symm
   rcases c.out.1.2 with⟨f,_⟩|⟨ad,a4,a5,f,_,ak,_⟩
   ·rw[f]at d;simp[Value.ownBlock]at d
   ·rw[f]at d
    obtain rfl:ad=k:=by simpa [Value.ownBlock] using d
    exact am _ _ ak
  go_end0
  exact⟨rfl,x,K⟩
def kF(a:World)(t:Nat):Value:= .agg #[.pointer (some ⟨a.heap.size,0,none⟩),.string (ek t)]
def fJ(a:World)(t:Nat):Value:= .iface 60 (kF a t)
theorem mj(b:Nat)(s:ByteArray)(w:World):(method 413 60 (.agg #[.pointer (some ⟨b,0,none⟩),.string s]) "loop.example/warp/impl.put").run Tryz.prog w= .ok (306,.agg #[.pointer (some ⟨b,0,none⟩),.string s]) w:=by kernel_rfl
theorem CJ(b:Nat)(s:ByteArray)(w:World):(method 413 60 (.agg #[.pointer (some ⟨b,0,none⟩),.string s]) "loop.example/warp/impl.newLine").run Tryz.prog w= .ok (305,.agg #[.pointer (some ⟨b,0,none⟩),.string s]) w:=by kernel_rfl
theorem ID(b:Nat)(s:ByteArray)(w:World):(method 413 60 (.agg #[.pointer (some ⟨b,0,none⟩),.string s]) "loop.example/warp/impl.inner").run Tryz.prog w= .ok (304,.agg #[.pointer (some ⟨b,0,none⟩),.string s]) w:=by kernel_rfl
theorem aes(a:World)(t:Nat)(T s:ByteArray)(w:World)(f:Pg a T w)(j:s.size<=100000000):
  Calls Tryz.prog 306 #[kF a t,.string s] w fun e c=>e= .returned (.tuple #[])/\Pg a (T++s) c/\Kq a.heap.size w c:=by
 have g:∀d,Below w.heap.size w (w.alloc d):=fun d=>(ag _ w).alloc (ah _) d
 have h:Hid (∀b,Below w.heap.size w b->Calls Tryz.prog 303 #[.pointer (some ⟨a.heap.size,0,none⟩),.string s] b fun e c=>e= .returned (.tuple #[])/\Pg a (T++s) c/\Kq a.heap.size b c):=fun b i=>CH a T s b (f.below i) j
 unfold kF
 generalize ek t=l
 clear f
 go_enter Tryz.func306,Tryz.ntmps306
 go_wp2_with (go_at_call 303;refine(h.out _ (g _)).mono ?_;rintro e m ⟨rfl,p2,k⟩)
 go_end0
 exact⟨rfl,p2,(Kq.of_below (g _)).trans k⟩
theorem EE(a:World)(t:Nat)(ht:t<=1000000)(T:ByteArray)(w:World)(g:Pg a T w):
  Calls Tryz.prog 305 #[kF a t] w fun e c=>e= .returned (.tuple #[])/\Pg a (T++fK t) c/\Kq a.heap.size w c:=by
 have h:∀f,Below w.heap.size w (w.alloc f):=fun f=>(ag _ w).alloc (ah _) f
 have d:Hid (∀b,Below w.heap.size w b->Calls Tryz.prog 303 #[.pointer (some ⟨a.heap.size,0,none⟩),.string (fK t)] b fun e c=>e= .returned (.tuple #[])/\Pg a (T++fK t) c/\Kq a.heap.size b c):=fun b i=>CH a T (fK t) b (g.below i) (by rw[jk];omega)
 have j:=oe t
 unfold kF
 unfold fK at d⊢
 generalize ek t=l at d j
 clear g
 go_enter Tryz.func305,Tryz.ntmps305
 go_wp2_with (go_at_call 303;refine(d.out _ (h _)).mono ?_;rintro e m ⟨rfl,p2,k⟩)
 go_end0
 exact⟨rfl,p2,(Kq.of_below (h _)).trans k⟩
theorem Kh(c:World)(t:Nat)(ht:t<=1000000)(w:World):
  Calls Tryz.prog 304 #[kF c t] w fun e g=>e= .returned (fJ c (t+1))/\Below w.heap.size w g:=by
 have d:∀a,Below w.heap.size w (w.alloc a):=fun a=>(ag _ w).alloc (ah _) a
 have f:=oe t
 have b:ek (t+1)=ek t++⟨#[9]⟩:=rfl
 unfold fJ kF
 rw[b]
 generalize ek t=h at f
 clear b
 go_enter Tryz.func304,Tryz.ntmps304
 go_wp2_with fail
 go_ret
 exact⟨rfl,d _⟩
