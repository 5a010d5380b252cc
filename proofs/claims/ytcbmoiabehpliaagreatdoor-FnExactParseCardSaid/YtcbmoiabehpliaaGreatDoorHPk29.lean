import Derived.Test.YtcbmoiabehpliaaGreatDoorHPk14
import Derived.Test.YtcbmoiabehpliaaGreatDoorHPk01
import Derived.Test.YtcbmoiabehpliaaGreatDoorHPk15
import Derived.Test.YtcbmoiabehpliaaGreatDoorHPk13
import Derived.Test.YtcbmoiabehpliaaGreatDoorHPk04
import Derived.Test.YtcbmoiabehpliaaGreatDoorHPk28
set_option linter.unusedVariables false
set_option maxRecDepth 100000
set_option maxHeartbeats 12800000
namespace Go.Proofs.YtcbmoiabehpliaaGreatDoor
open Go.RowKit Go.Maps Go.WideMaps
def pB(b a c:Int)(x:ByteArray):Bool:=decide ((x.size=0\/b=ae x 0)/\(x.size<=1\/a=ae x 1)/\(x.size<=2\/c=ae x 2))
theorem BS(r x:ByteArray)(i:Nat)(b:i<x.size):r.data.toList[i]?=x.data.toList[i]?↔ae r i=ae x i:=by
 have c:x.data.toList[i]?=some x[i]:=by rw[Array.getElem?_toList];exact Array.getElem?_eq_getElem b
 rw[c,dL];have d:ae x i=(x[i].toNat:Int):=by unfold ae;rw[dif_pos b]
 rw[d];constructor
 ·exact fun a=>a.2
 ·intro a;refine⟨?_,a⟩;rcases Nat.lt_or_ge i r.size with h1|h1
  ·exact h1
  ·rw[aX (by omega)]at a;omega
theorem wD(r x:ByteArray)(h:x.size<=3):Lib.hasPrefix r.data.toList x.data.toList=pB (ae r 0) (ae r 1) (ae r 2) x:=by
 unfold Lib.hasPrefix pB;rw[Bool.eq_iff_iff,List.isPrefixOf_iff_prefix,decide_eq_true_iff,List.prefix_iff_getElem?];have i:x.data.toList.length=x.size:=Array.length_toList;have f:(∀a (b:a<x.data.toList.length),r.data.toList[a]?=some x.data.toList[a])↔∀a,a<x.size->ae r a=ae x a:=by
  constructor
  ·intro g a b;rw[<-BS r x a b,g a (by omega)];exact(List.getElem?_eq_getElem (by omega)).symm
  ·intro g a b;rw[(BS r x a (by omega)).2 (g a (by omega))];exact List.getElem?_eq_getElem b
 rw[f];constructor
 ·intro g;refine⟨?_,?_,?_⟩
  ·rcases Nat.eq_zero_or_pos x.size with h0|h0
   ·exact .inl h0
   ·exact .inr (g 0 h0)
  ·rcases Nat.lt_or_ge 1 x.size with h0|h0
   ·exact .inr (g 1 h0)
   ·exact .inl h0
  ·rcases Nat.lt_or_ge 2 x.size with h0|h0
   ·exact .inr (g 2 h0)
   ·exact .inl h0
 ·rintro ⟨c,e,d⟩ a b;rcases(show a=0\/a=1\/a=2 by omega) with rfl|rfl|rfl
  ·rcases c with g|g
   ·omega
   ·exact g
  ·rcases e with g|g
   ·omega
   ·exact g
  ·rcases d with g|g
   ·omega
   ·exact g
def rL(q:ByteArray->Bool)(V:Array Value)(base:Int):Nat->Nat->Int×Nat->Int×Nat
 |0,_,a=>a
 |f+1,i,a=>rL q V base f (i+1) (if a.2<(aD V i).size/\q (aD V i)=true then(base+(i:Int),(aD V i).size) else a)
def GT(a:Int)(q:ByteArray->Bool):Int:=if a=59 then 5 else if a=10 then 7 else(rL q dV 61 18 0 (rL q cY 40 11 0 (0,0))).1
def iW(q:ByteArray->Bool):Nat->Nat->Option Nat
 |0,_=>none
 |f+1,k=>if q (aD cL k)=true then some k else iW q f (k+1)
theorem BT(V:Array Value)(base:Int)(r:ByteArray):∀(f i:Nat)(a:Int×Nat),qz V base r f i a=rL (fun x=>Lib.hasPrefix r.data.toList x.data.toList) V base f i a
 |0,i,a=>rfl
 |f+1,i,a=>by rw[qz,rL];exact BT V base r f (i+1) _
theorem jC(q b:ByteArray->Bool)(V:Array Value)(base:Int)(N:Nat)(h:∀i,i<N->q (aD V i)=b (aD V i)):∀(f i:Nat)(a:Int×Nat),i+f<=N->rL q V base f i a=rL b V base f i a
 |0,i,a,_=>rfl
 |f+1,i,a,c=>by rw[rL,rL,h i (by omega)];exact jC q b V base N h f (i+1) _ (by omega)
theorem oF(q a:ByteArray->Bool)(h:∀i,i<30->q (aD cL i)=a (aD cL i)):∀(f i:Nat),i+f<=30->iW q f i=iW a f i
 |0,i,_=>rfl
 |f+1,i,b=>by rw[iW,iW,h i (by omega),oF q a h f (i+1) (by omega)]
def pz(S:List Int)(b:Int):Int:=if b∈S then b else 0
theorem rM(S:List Int)(e:(0:Int) ∉ S)(b a:Int)(c:a∈S):pz S b=a↔b=a:=by
 unfold pz;split
 ·exact Iff.rfl
 ·rename_i d;constructor
  ·rintro rfl;exact absurd c e
  ·rintro rfl;exact absurd c d
def Ai:List Int:=[46,60,62,61,126,47,40,41,123,125,91,93,44,59,35,43,45,42,37,38,124]
def EO:List Int:=[46,60,61,62,47]
def EP:List Int:=[46]
def FO(x:ByteArray):Bool:=decide (x.size<=3/\(x.size=0\/ae x 0∈Ai)/\(x.size<=1\/ae x 1∈EO)/\(x.size<=2\/ae x 2∈EP))
theorem GU:∀i:Fin 11,FO (aD cY i.val)=true:=by decide+kernel
theorem GV:∀i:Fin 18,FO (aD dV i.val)=true:=by decide+kernel
theorem BU:∀i:Fin 30,FO (aD cL i.val)=true:=by decide+kernel
theorem GW(a b c:Int)(x:ByteArray)(h:FO x=true):pB a b c x=pB (pz Ai a) (pz EO b) (pz EP c) x:=by
 unfold FO at h;rw[decide_eq_true_iff]at h;obtain⟨_,e,j,i⟩:=h;have g:(x.size=0\/a=ae x 0)↔(x.size=0\/pz Ai a=ae x 0):=by
  rcases e with h|h
  ·simp[h]
  ·rw[rM Ai (by decide) a _ h]
 have d:(x.size<=1\/b=ae x 1)↔(x.size<=1\/pz EO b=ae x 1):=by
  rcases j with h|h
  ·simp[h]
  ·rw[rM EO (by decide) b _ h]
 have f:(x.size<=2\/c=ae x 2)↔(x.size<=2\/pz EP c=ae x 2):=by
  rcases i with h|h
  ·simp[h]
  ·rw[rM EP (by decide) c _ h]
 unfold pB;rw[decide_eq_decide,g,d,f]
def FP(a b c:Int):Bool:=match iW (pB a b c) 30 0 with
 |some d=>decide (GT a (pB a b c)=jR (aD cL d)/\(bR (GT a (pB a b c))).size=(aD cL d).size/\GT a (pB a b c)≠0/\GT a (pB a b c)≠7)
 |none=>decide (GT a (pB a b c)=0)
theorem BW:∀b∈0::Ai,∀a∈0::EO,∀c∈0::EP,FP b a c=true:=by decide+kernel
theorem wE(S:List Int)(b:Int):pz S b∈0::S:=by
 unfold pz;split
 ·exact List.mem_cons_of_mem _ (by assumption)
 ·exact List.mem_cons_self
def oG(r:ByteArray):Prop:=match iW (fun b=>Lib.hasPrefix r.data.toList b.data.toList) 30 0 with
 |some a=>gU r=jR (aD cL a)/\(bR (gU r)).size=(aD cL a).size/\gU r≠0/\gU r≠7
 |none=>gU r=0
theorem rN(r:ByteArray)(i:ae r 0≠10):oG r:=by
 have g:∀a,FO a=true->Lib.hasPrefix r.data.toList a.data.toList=pB (pz Ai (ae r 0)) (pz EO (ae r 1)) (pz EP (ae r 2)) a:=fun a f=>by
  rw[<-GW _ _ _ a f];unfold FO at f;rw[decide_eq_true_iff]at f;exact wD r a f.1
 have j:gU r=GT (pz Ai (ae r 0)) (pB (pz Ai (ae r 0)) (pz EO (ae r 1)) (pz EP (ae r 2))):=by
  unfold gU GT;rw[BT,BT,jC _ _ cY 40 11 (fun b c=>g _ (GU ⟨b,c⟩)) 11 0 _ (by omega),jC _ _ dV 61 18 (fun b c=>g _ (GV ⟨b,c⟩)) 18 0 _ (by omega)];have h:=rM Ai (by decide) (ae r 0) 59 (by decide);have k:pz Ai (ae r 0)≠10:=by
   unfold pz;split
   ·exact i
   ·decide
  rw[if_neg i,if_neg k];by_cases e:ae r 0=59
  ·rw[if_pos e,if_pos (h.2 e)]
  ·rw[if_neg e,if_neg (fun l=>e (h.1 l))]
 have d:=BW _ (wE Ai (ae r 0)) _ (wE EO (ae r 1)) _ (wE EP (ae r 2));unfold oG;rw[oF _ _ (fun b c=>g _ (BU ⟨b,c⟩)) 30 0 (by omega),j];unfold FP at d;cases hf:iW (pB (pz Ai (ae r 0)) (pz EO (ae r 1)) (pz EP (ae r 2))) 30 0 with
 |some m=>rw[hf]at d;exact of_decide_eq_true d
 |none=>rw[hf]at d;exact of_decide_eq_true d
theorem EQ(s x:ByteArray)(p:Nat)(f:p<=s.size):Lib.hasPrefix (s.extract p s.size).data.toList x.data.toList=decide (p+x.size<=s.size/\((s.extract p (p+x.size)).toList==x.toList)=true):=by
 have d:s.data.toList.length=s.size:=Array.length_toList;have b:x.data.toList.length=x.size:=Array.length_toList;have e:(s.extract p s.size).data.toList=s.data.toList.drop p:=by
  rw[<-ByteArray.toList_eq,Lib.extract_toList,List.take_of_length_le];rw[List.length_drop,Array.length_toList];exact Nat.le_refl _
 have c:(s.extract p (p+x.size)).toList=(s.data.toList.drop p).take x.size:=by
  rw[Lib.extract_toList];congr 1;omega
 rw[e,c,ByteArray.toList_eq x];unfold Lib.hasPrefix;rw[Bool.eq_iff_iff,List.isPrefixOf_iff_prefix,decide_eq_true_iff,List.prefix_iff_eq_take,b,beq_iff_eq];constructor
 ·intro a;refine⟨?_,a.symm⟩;have:=congrArg List.length a;rw[List.length_take,List.length_drop,d,b]at this;omega
 ·exact fun a=>a.2.symm
theorem zF(s:ByteArray)(g:s.size<=70000)(p:Nat)(b:p<s.size)(c:ae s p=10)(w:World):Calls Tryz.prog 43 #[.string s,.int .i64 p] w fun e d=>e= .returned (.tuple #[.agg #[.int .i64 7,.int .i64 p,.int .i64 ((p:Int)+1),.int .i64 0,.int .i64 0,.string ⟨#[]⟩],.int .i64 (-1)])/\Below w.heap.size w d:=by
 have a:=fun w=>aI b w;rw[c]at a;have f:(p:Int)<(s.size:Int):=by omega
 go_in;go_wp2;refine bodyPost_ret (v:= .tuple #[.agg #[.int .i64 7,.int .i64 p,.int .i64 ((p:Int)+1),.int .i64 0,.int .i64 0,.string ⟨#[]⟩],.int .i64 (-1)]) (by simp[results,Tryz.results43,go_sem]) rfl ⟨rfl,?_⟩;exact((Below.refl _ w).alloc (Nat.le_refl _) _).alloc (by simp) _
theorem BX(p:Nat)(R:Bool×Nat×List Int):∃(t:Int) (x:ByteArray),qA p R= .agg #[.int .i64 4,.int .i64 p,.int .i64 t,.int .i64 0,.int .i64 0,.string x]:=by
 unfold qA;split<;>exact⟨_,_,rfl⟩
theorem oH(s:ByteArray)(F:s.size<=70000)(p:Nat)(n:p<s.size)(q:ae s p=34)(w:World):Calls Tryz.prog 43 #[.string s,.int .i64 p] w fun e y=>e= .returned (.tuple #[qA p (bX s (s.size+1) (p+1) []),.int .i64 (tU (bX s (s.size+1) (p+1) []))])/\Below w.heap.size w y:=by
 have m:=fun w=>aI n w;have i:=fun w=>db (c:=34) (b:=false) (by decide) w;have j:=fun w=>aT (c:=34) (b:=false) (by decide) w;have a:=fun w=>rB s F p n w;generalize bX s (s.size+1) (p+1) []=k at a;obtain⟨t,E,g⟩:=BX p k;rw[g]at a⊢;generalize tU k=u at a;rw[q]at m;clear g;have l:aO w.heap.size ((w.alloc (.cells #[.int .i64 0,.int .i64 0,.int .i64 0,.int .i64 0,.int .i64 0,.string ⟨#[]⟩] 45)).alloc (.cells #[.int .i64 0,.int .i64 p,.int .i64 0,.int .i64 0,.int .i64 0,.string ⟨#[]⟩] 45)) 0 0 0 0 0 ⟨#[]⟩:=(Below.heap_alloc _ _ _ (by simp)).trans (heap_alloc_new w _);have h:Below w.heap.size w ((w.alloc (.cells #[.int .i64 0,.int .i64 0,.int .i64 0,.int .i64 0,.int .i64 0,.string ⟨#[]⟩] 45)).alloc (.cells #[.int .i64 0,.int .i64 p,.int .i64 0,.int .i64 0,.int .i64 0,.string ⟨#[]⟩] 45)):=(((Below.refl _ w).alloc (Nat.le_refl _) _).alloc (by simp) _);go_in;go_wp2_with (first|(go_at_call 81;refine bc (i _) ?_)|(go_at_call 83;refine bc (j _) ?_));refine au (a _) fun B d=>?_;have f:=l.below d (by simp;omega);have x:=h.trans (d.mono (by simp;omega));clear d l h a i j m;obtain⟨z0,C,A,z,r,o,G⟩:=aw f;have H:w.heap.size<B.heap.size:=lt_of_block f;go_wp2;refine bodyPost_ret (v:= .tuple #[.agg #[.int .i64 4,.int .i64 p,.int .i64 t,.int .i64 0,.int .i64 0,.string E],.int .i64 u]) (by simp[results,Tryz.results43,go_sem,z0,C,A,z,r,o]) rfl ⟨rfl,?_⟩
 iterate 6 refine Below.setCell ?_ (by simp) _
 exact x
structure yh (q:ByteArray->Bool) (f k:Nat) (R:Option Nat):Prop where
 out:iW q f k=R
def IV(p:Nat)(R:Option Nat):Value:=match R with
 |some a=> .tuple #[.agg #[.int .i64 (jR (aD cL a)),.int .i64 p,.int .i64 ((p:Int)+((aD cL a).size:Int)),.int .i64 0,.int .i64 0,.string ⟨#[]⟩],.int .i64 (-1)]
 |none=> .tuple #[.agg #[.int .i64 0,.int .i64 p,.int .i64 0,.int .i64 0,.int .i64 0,.string ⟨#[]⟩],.int .i64 p]
theorem GX:∀k:Fin 30,(aD cL k.val).size<=3:=by decide
theorem oI(s:ByteArray)(bx:s.size<=70000)(p:Nat)(Z:p<s.size)(N:¬ae s p=10)(I:aC (ae s p)=false)(S:aG (ae s p)=false)(H:¬ae s p=34)(w:World):
  Calls Tryz.prog 43 #[.string s,.int .i64 p] w fun e ao=>e= .returned (IV p (iW (fun x=>Lib.hasPrefix (s.extract p s.size).data.toList x.data.toList) 30 0))/\Below w.heap.size w ao:=by
 have U:=fun w=>aI Z w;have R:(ae s p==10)=false:=by rw[beq_eq_false_iff_ne];exact N
 have J:(ae s p==34)=false:=by rw[beq_eq_false_iff_ne];exact H
 have E:=fun w=>db I w;have u:=fun w=>aT S w;have bD:(p:Int)<(s.size:Int):=by omega
 generalize ae s p=bh at U R J E u;obtain⟨c,A⟩:∃c:ByteArray->Bool,(fun x=>Lib.hasPrefix (s.extract p s.size).data.toList x.data.toList)=c:=⟨_,rfl⟩;have T:∀x,c x=decide (p+x.size<=s.size/\((s.extract p (p+x.size)).toList==x.toList)=true):=fun x=>by rw[<-A];exact EQ s x p (by omega)
 rw[A];obtain⟨n,q⟩:=ah (iW c 30 0);rw[q];have C:yh c 30 0 n:=⟨q⟩;have av:=ab T;clear q A T N I S H;obtain⟨f,k⟩:=ah ((w.alloc (.cells #[.int .i64 0,.int .i64 0,.int .i64 0,.int .i64 0,.int .i64 0,.string ⟨#[]⟩] 45)).alloc (.cells #[.int .i64 0,.int .i64 p,.int .i64 0,.int .i64 0,.int .i64 0,.string ⟨#[]⟩] 45));have y:aO w.heap.size f 0 0 0 0 0 ⟨#[]⟩:=by rw[<-k];exact(Below.heap_alloc _ _ _ (by simp)).trans (heap_alloc_new w _)
 have t:aO (w.heap.size+1) f 0 p 0 0 0 ⟨#[]⟩:=by
  rw[<-k];have:=heap_alloc_new (w.alloc (.cells #[.int .i64 0,.int .i64 0,.int .i64 0,.int .i64 0,.int .i64 0,.string ⟨#[]⟩] 45)) (.cells #[.int .i64 0,.int .i64 p,.int .i64 0,.int .i64 0,.int .i64 0,.string ⟨#[]⟩] 45);rw[World.size_alloc]at this;exact this
 have B:Below w.heap.size w f:=by rw[<-k];exact(((Below.refl _ w).alloc (Nat.le_refl _) _).alloc (by simp) _)
 have O:=ab k;clear k;go_in;go_wp2_with (first|(go_at_call 81;refine bc (E _) ?_)|(go_at_call 83;refine bc (u _) ?_));rw[O.out];refine au (lR f) fun g j=>?_;have z:aO (w.heap.size+1) g 0 p 0 0 0 ⟨#[]⟩:=by rw[j];exact(Below.heap_alloc _ _ _ (lt_of_block t)).trans t
 have r:aO w.heap.size g 0 0 0 0 0 ⟨#[]⟩:=by rw[j];exact(Below.heap_alloc _ _ _ (lt_of_block y)).trans y
 have o:Below w.heap.size w g:=by rw[j];exact B.alloc B.size _
 have ar:g.heap[f.heap.size]?=some (.cells cL 9 (0,0)):=by rw[j];exact heap_alloc_new f _
 clear j t y B E u U O R J;go_wp2_with fail;obtain⟨bl,bA,a7,bk,a8,bE,a9⟩:=aw z;obtain⟨z0,a0,ap,ak,a2,W,bd⟩:=aw r;have M:w.heap.size<g.heap.size:=lt_of_block r;have K:w.heap.size+1<g.heap.size:=lt_of_block z;go_loop [45,9] (fun G _=>∃a:Nat,a<=30/\G= .int .i64 a/\yh c (30-a) a n) (fun G _=>30-(intOf G).toNat)
 case atStart=>exact⟨0,by omega,rfl,C⟩
 case round=>
  obtain⟨a,bn,rfl,l⟩:=hrel;by_cases L:a<30
  ·have al:g.cell? ⟨f.heap.size,a,none⟩=some (.string (aD cL a)):=by rw[cell_of_row _ _ _ _ _ _ ar];exact Ap ⟨a,L⟩
   have b:=l.out;rw[show 30-a=(30-(a+1))+1 by omega,iW,av.out]at b;have Q:=GX ⟨a,L⟩;simp only at Q;obtain⟨x,F⟩:=ah (aD cL a);rw[F]at al b Q;have a3:=ab F;clear F l C;by_cases V:p+x.size<=s.size
   ·have af:(x.size:Int)<=(s.size:Int)-(p:Int):=by omega
    have bo:(p:Int)+(x.size:Int)<=(s.size:Int):=by omega
    by_cases m:((s.extract p (p+x.size)).toList==x.toList)=true
    ·rw[if_pos (decide_eq_true ⟨V,m⟩)]at b;have d:=ab b;clear b;go_wp2_with (go_at_call 87;refine(jr x _).mono ?_;rintro e b0 ⟨rfl,i⟩;obtain⟨a6,b3,bs,b1,bt,bN,a5⟩:=aw (z.below i K);obtain⟨a1,a4,an,am,X,Y,b2⟩:=aw (r.below i M);have bw:=Nat.lt_of_lt_of_le M i.size;have br:=Nat.lt_of_lt_of_le K i.size);refine bodyPost_ret (v:= .tuple #[.agg #[.int .i64 (jR x),.int .i64 p,.int .i64 ((p:Int)+(x.size:Int)),.int .i64 0,.int .i64 0,.string ⟨#[]⟩],.int .i64 (-1)]) (by simp[results,Tryz.results43,go_sem,a1,a4,an,am,X,Y]) rfl ⟨by rw[<-d.out];have h:=a3.out;subst h;rfl,?_⟩
     iterate 8 refine Below.setCell ?_ (by simp) _
     exact o.trans (i.mono o.size)
    ·have bb:((s.extract p (p+x.size)).toList==x.toList)=false:=by simpa using m
     rw[if_neg (fun h=>m (of_decide_eq_true h).2)]at b;have d:yh c (30-(a+1)) (a+1) n:=⟨b⟩;clear b m;go_wp2_with fail;go_round
     case rel=>exact⟨a+1,by omega,by go_num,d⟩
     case measure=>simp[intOf];omega
   ·have af:¬(x.size:Int)<=(s.size:Int)-(p:Int):=by omega
    rw[if_neg (fun h=>V (of_decide_eq_true h).1)]at b;have d:yh c (30-(a+1)) (a+1) n:=⟨b⟩;clear b;go_wp2_with fail;go_round
    case rel=>exact⟨a+1,by omega,by go_num,d⟩
    case measure=>simp[intOf];omega
  ·obtain rfl:a=30:=by omega
   have d:=ab l.out;clear l C;go_wp2_with fail;refine bodyPost_ret (v:= .tuple #[.agg #[.int .i64 0,.int .i64 p,.int .i64 0,.int .i64 0,.int .i64 0,.string ⟨#[]⟩],.int .i64 (p:Int)]) (by simp[results,Tryz.results43,go_sem,z0,a0,ap,ak,a2,W]) rfl ⟨by rw[<-d.out];rfl,?_⟩
   iterate 6 refine Below.setCell ?_ (by simp) _
   exact o
structure IW (R:Rd) (k t n:Int) (x:ByteArray) (bad:Int):Prop where
 yes:R.ok=true->bad= -1/\k=R.k/\t=(R.a:Int)/\n=R.n/\x=R.x/\R.d=(if R.k=7 then 1 else 0)
 no:R.ok=false->bad=(R.a:Int)
theorem IY(s:ByteArray)(p:Nat):(wf s p).1≠7:=by
 unfold wf;split
 ·simp only;omega
 ·simp
theorem IZ(s:ByteArray)(p:Nat):(kE s p).1≠7:=by
 unfold kE;split
 ·simp
 ·split<;>simp
theorem wF(s:ByteArray)(q:s.size<=70000)(p:Nat)(f:p<s.size)(w:World):
  Calls Tryz.prog 43 #[.string s,.int .i64 p] w fun e c=>∃k t n x u,e= .returned (.tuple #[.agg #[.int .i64 k,.int .i64 p,.int .i64 t,.int .i64 0,.int .i64 n,.string x],.int .i64 u])/\IW (rdI s p) k t n x u/\Below w.heap.size w c:=by
 unfold rdI;by_cases i:aC (ae s p)=true
 ·rw[if_pos i];refine au (lU s (by omega) p f i w) fun c b=>?_;rw[IL];exact⟨_,_,_,_,_,rfl,⟨fun _=>⟨rfl,rfl,rfl,rfl,rfl,by simp only;rw[if_neg (IY s p)]⟩,fun a=>by cases a⟩,b⟩
 rw[if_neg i];by_cases g:aG (ae s p)=true
 ·rw[if_pos g];refine au (jz s (by omega) p f g w) fun c b=>?_;cases hok:(aP s p).2 with
  |true=>
   obtain⟨d,m⟩:=GE s p hok;rw[d,m,if_pos rfl];exact⟨_,_,_,_,_,rfl,⟨fun _=>⟨rfl,rfl,rfl,rfl,rfl,by simp only;rw[if_neg (IZ s p)]⟩,fun a=>by cases a⟩,b⟩
  |false=>
   obtain⟨k,t,n,x,d⟩:=xN s p;rw[d,tR s p hok,if_neg (by simp)];exact⟨_,_,_,_,_,rfl,⟨fun a=>by(try simp at a),fun a=>rfl⟩,b⟩
 rw[if_neg g];by_cases h:ae s p=34
 ·rw[if_pos h];refine au (oH s q p f h w) fun c b=>?_;generalize bX s (s.size+1) (p+1) []=o;obtain⟨A,E,B⟩:=o;cases A with
  |true=>exact⟨_,_,_,_,_,rfl,⟨fun _=>⟨rfl,rfl,rfl,rfl,rfl,rfl⟩,fun a=>by cases a⟩,b⟩
  |false=>exact⟨_,_,_,_,_,rfl,⟨fun a=>(by cases a),fun a=>rfl⟩,b⟩
 rw[if_neg h];have r:ae (s.extract p s.size) 0=ae s p:=cV s p s.size 0 (Nat.le_refl _) (by omega);by_cases l:ae s p=10
 ·have v:gU (s.extract p s.size)=7:=by unfold gU;rw[r,l];rfl
  rw[v,if_neg (by decide)];refine au (zF s q p f l w) fun c b=>?_;exact⟨_,_,_,_,_,rfl,⟨fun _=>⟨rfl,rfl,rfl,rfl,rfl,rfl⟩,fun a=>by cases a⟩,b⟩
 ·have j:=rN (s.extract p s.size) (by rw[r];exact l);unfold oG at j;refine au (oI s q p f l (by simpa using i) (by simpa using g) h w) fun c b=>?_;generalize iW (fun x=>Lib.hasPrefix (s.extract p s.size).data.toList x.data.toList) 30 0=o at j;cases o with
  |none=>
   rw[show gU (s.extract p s.size)=0 from j,if_pos rfl];exact⟨_,_,_,_,_,rfl,⟨fun a=>(by cases a),fun a=>rfl⟩,b⟩
  |some y=>
   obtain⟨d,m,z,C⟩:=(show _/\_/\_/\_ from j);rw[if_neg z];refine⟨_,_,_,_,_,rfl,⟨fun _=>⟨rfl,d.symm,?_,rfl,rfl,rfl⟩,fun a=>by cases a⟩,b⟩;show(p:Int)+((aD cL y).size:Int)=((p+(bR (gU (s.extract p s.size))).size:Nat):Int);rw[m];omega
structure GY (s:ByteArray) (f k e:Nat):Prop where
 out:cZ Ds s f k=e
structure yi (s:ByteArray) (f k e:Nat):Prop where
 out:blk s f k=e
theorem gI(s:ByteArray)(U:s.size<=1100000)(p:Nat)(Q:p<=s.size)(w:World):Calls Tryz.prog 42 #[.string s,.int .i64 p] w fun e T=>e= .returned (.int .i64 (blk s (s.size+1) p))/\T=w:=by
 obtain⟨u,B⟩:=ah (blk s (s.size+1) p);rw[B];have W:yi s (s.size+1) p u:=⟨B⟩;clear B;go_in;go_wp2_with fail;go_loop [1,5] (fun k af=>∃(a d:Nat),a<=s.size/\s.size<a+d/\k= .int .i64 a/\yi s d a u) (fun k _=>s.size-(intOf k).toNat)
 case atStart=>exact⟨p,s.size+1,Q,by omega,rfl,W⟩
 case round=>
  obtain⟨a,d,N,ao,rfl,q⟩:=hrel;obtain⟨d,rfl⟩:∃g,d=g+1:=⟨d-1,by omega⟩;have b:=q.out;rw[blk]at b;by_cases H:a<s.size
  ·have ak:(a:Int)<(s.size:Int):=by omega
   rw[if_neg (by omega)]at b;have t:=fun w=>aI H w;have v:=dj H;by_cases i:dJ (ae s a)=true
   ·rw[if_pos i]at b;have f:yi s d (a+1) u:=⟨b⟩;have n:ae s a=32\/ae s a=9\/ae s a=13:=of_decide_eq_true i;generalize ae s a=L at t n v;clear b q i;rcases n with rfl|rfl|rfl;all_goals
     go_wp2_with fail;go_round
     case rel=>exact⟨a+1,d,by omega,by omega,by go_num,f⟩
     case measure=>simp[intOf];omega
   ·rw[if_neg i]at b;have n:¬(ae s a=32\/ae s a=9\/ae s a=13):=fun z=>i (decide_eq_true z);have y:(ae s a==32)=false:=by rw[beq_eq_false_iff_ne];omega
    have x:(ae s a==9)=false:=by rw[beq_eq_false_iff_ne];omega
    have A:(ae s a==13)=false:=by rw[beq_eq_false_iff_ne];omega
    have r:=fun w=>bS s U ((a:Int)+1) (a+1) (by omega) w;have l:=ip s (a+1) 45 (by omega);by_cases h:ae s a=45/\ae s (a+1)=45
    ·rw[if_pos h]at b;have f:yi s d (Af s a) u:=⟨b⟩;rw[h.2]at l;have G:lk s (a+1)=45:=by simpa using l
     have S:=mT s a h.1;have Y:=oh s a N;rw[h.1]at t;rw[G]at r;have M:GY s (s.size+1) a (Af s a):=⟨rfl⟩;generalize Af s a=K at f S Y M;clear b q i n y x A l G h v;go_wp2_with (go_at_call 80;refine bc (r _) ?_);go_loop [1] (fun k=>∃(c g:Nat),c<=s.size/\s.size<c+g/\k= .int .i64 c/\GY s g c K) (fun k=>s.size-(intOf k).toNat)
     case atStart=>exact⟨a,s.size+1,N,by omega,rfl,M⟩
     case round=>
      obtain⟨c,g,am,an,rfl,I⟩:=hrel;obtain⟨g,rfl⟩:∃R,g=R+1:=⟨g-1,by omega⟩;have b:=I.out;rw[cZ]at b;clear t I;by_cases C:c<s.size
      ·have Z:(c:Int)<(s.size:Int):=by omega
       have J:=fun w=>aI C w;have F:=dj C;by_cases m:ae s c=10
       ·rw[if_neg (by rw[m];decide)]at b;rw[m]at J;have j:=ab b;clear b m F;go_wp2_with fail;go_round
        case rel=>exact⟨c,d,by omega,by have:=j.out;omega,by go_num,by rw[j.out];exact f⟩
        case measure=>have:=j.out;simp[intOf];omega
       ·rw[if_pos (by unfold Ds;rw[decide_eq_true_iff];exact⟨m,by omega⟩)]at b;have j:GY s g (c+1) K:=⟨b⟩;have V:(ae s c==10)=false:=by rw[beq_eq_false_iff_ne];exact m
        generalize ae s c=L at J V;clear b m F;go_wp2_with fail;go_round
        case rel=>exact⟨c+1,g,by omega,by omega,by go_num,j⟩
        case measure=>simp[intOf];omega
      ·obtain rfl:c=s.size:=by omega
       rw[if_neg (by rw[aX (Nat.lt_irrefl _)];decide)]at b;have j:=ab b;clear b;go_wp2_with fail;go_round
       case rel=>exact⟨s.size,d,by omega,by omega,by go_num,by rw[j.out];exact f⟩
       case measure=>simp[intOf];omega
    ·rw[if_neg h]at b;have f:=ab b;clear b q;by_cases o:ae s a=45
     ·have E:ae s (a+1)≠45:=fun z=>h ⟨o,z⟩;rw[decide_eq_false E]at l;rw[o]at t;generalize lk s (a+1)=al at r l;clear i n y x A h v E o;go_wp2_with (go_at_call 80;refine bc (r _) ?_);go_ret;exact⟨by rw[<-f.out];rfl,rfl⟩
     ·have X:(ae s a==45)=false:=by rw[beq_eq_false_iff_ne];exact o
      have O:(ae s a !=45)=true:=by rw[bne_iff_ne];exact o
      generalize ae s a=L at t y x A X O;clear i n h v o r l;go_wp2_with fail;go_ret;exact⟨by rw[<-f.out];rfl,rfl⟩
  ·obtain rfl:a=s.size:=by omega
   rw[if_pos (Nat.le_refl _)]at b;have f:=ab b;clear b q;go_wp2_with fail;go_ret;exact⟨by rw[<-f.out];rfl,rfl⟩
def gW(s:ByteArray)(p:Nat):Int:=if aG (ae s p)=true then(if ae s p=48/\ae s (p+1)=120 then 2 else 3) else if ae s p=34 then 4 else 0
theorem BY(s:ByteArray)(p:Nat)(h:(aP s p).2=false):∃(t n:Int) (x:ByteArray),mH s p= .agg #[.int .i64 (if ae s p=48/\ae s (p+1)=120 then 2 else 3),.int .i64 p,.int .i64 t,.int .i64 0,.int .i64 n,.string x]:=by
 unfold mH;unfold aP at h;by_cases a:ae s p=48/\ae s (p+1)=120
 ·rw[if_pos a]at h;rw[if_pos a,if_pos a];unfold Dq;rw[if_neg (by rw[h];simp)];exact⟨_,_,_,rfl⟩
 ·rw[if_neg a]at h;rw[if_neg a,if_neg a];unfold Dr;rw[if_neg (by rw[h];simp)];exact⟨_,_,_,rfl⟩
def gX(s:ByteArray)(p:Nat):Int:=if(rdI s p).ok=true then(rdI s p).k else gW s p
theorem BZ(V:Array Value)(s:ByteArray):∀(f k j:Nat),jb V s f k=some j->j<k+f
 |0,k,j,h=>by simp[jb]at h
 |f+1,k,j,h=>by
  rw[jb]at h;split at h
  ·obtain rfl:=Option.some.inj h;omega
  ·have:=BZ V s f (k+1) j h;omega
theorem ul(s:ByteArray)(p:Nat)(h:(rdI s p).ok=true):1<=(rdI s p).k/\(rdI s p).k<=78:=by
 unfold rdI at h⊢;split
 ·simp only;unfold wf;cases hf:jb bj (s.extract p (eo s (s.size+1) p)) 22 0 with
  |none=>simp
  |some k=>have:=BZ _ _ _ _ _ hf;simp only;omega
 split
 ·split
  ·simp only;unfold kE;split
   ·simp
   ·split<;>simp
  ·rename_i c b a;rw[if_neg c,if_pos b,if_neg a]at h;cases h
 split
 ·split
  ·simp
  ·rename_i c b a d;rw[if_neg c,if_neg b,if_pos a,if_neg d]at h;cases h
 split
 ·rename_i c b a d;rw[if_neg c,if_neg b,if_neg a,if_pos d]at h;cases h
 ·rename_i c b a d;have:=AY (s.extract p s.size);simp only;omega
theorem rO(s:ByteArray)(p:Nat):0<=gW s p/\gW s p<=4:=by
 unfold gW;split
 ·split<;>omega
 ·split<;>omega
theorem wG(s:ByteArray)(u:s.size<=70000)(p:Nat)(m:p<s.size)(w:World):
  Calls Tryz.prog 43 #[.string s,.int .i64 p] w fun e i=>∃t n x v,e= .returned (.tuple #[.agg #[.int .i64 (gX s p),.int .i64 p,.int .i64 t,.int .i64 0,.int .i64 n,.string x],.int .i64 v])/\IW (rdI s p) (gX s p) t n x v/\Below w.heap.size w i:=by
 cases hok0:(rdI s p).ok with
 |true=>
  refine(wF s u p m w).mono ?_;rintro e i ⟨J,t,n,x,v,rfl,a,f⟩;obtain⟨_,rfl,_⟩:=a.yes hok0;have e:gX s p=(rdI s p).k:=by unfold gX;rw[if_pos hok0]
  rw[e];exact⟨_,_,_,_,rfl,a,f⟩
 |false=>
  have G:gX s p=gW s p:=by unfold gX;rw[if_neg (by rw[hok0];simp)]
  rw[G];have b:=hok0;unfold rdI at b;have h:¬aC (ae s p)=true:=fun a=>by rw[if_pos a]at b;cases b
  rw[if_neg h]at b;by_cases c:aG (ae s p)=true
  ·rw[if_pos c]at b;have r:(aP s p).2=false:=by
    cases j:(aP s p).2 with
    |true=>rw[if_pos j]at b;cases b
    |false=>rfl
   refine au (jz s (by omega) p m c w) fun i f=>?_;obtain⟨t,n,x,y⟩:=BY s p r;have g:gW s p=(if ae s p=48/\ae s (p+1)=120 then 2 else 3):=by unfold gW;rw[if_pos c]
   rw[y,g,tR s p r];refine⟨_,_,_,_,rfl,⟨fun a=>(by rw[hok0]at a;cases a),fun a=>?_⟩,f⟩;unfold rdI;rw[if_neg h,if_pos c,if_neg (by rw[r];simp)]
  ·rw[if_neg c]at b;by_cases d:ae s p=34
   ·have g:gW s p=4:=by unfold gW;rw[if_neg c,if_pos d]
    rw[g];refine au (oH s u p m d w) fun i f=>?_;have l:(rdI s p).ok=(bX s (s.size+1) (p+1) []).1/\(rdI s p).a=(bX s (s.size+1) (p+1) []).2.1:=by
     unfold rdI;rw[if_neg h,if_neg c,if_pos d];cases j:(bX s (s.size+1) (p+1) []).1 with
     |true=>rw[if_pos rfl];exact⟨rfl,rfl⟩
     |false=>rw[if_neg (by simp)];exact⟨rfl,rfl⟩
    rw[hok0]at l;generalize N:bX s (s.size+1) (p+1) []=A at l;obtain⟨L,K,M⟩:=A;simp only at l;obtain⟨E,H⟩:=l;subst E;refine⟨_,_,_,_,rfl,⟨fun a=>(by rw[hok0]at a;cases a),fun a=>?_⟩,f⟩;rw[H];rfl
   ·rw[if_neg d]at b;have g:gW s p=0:=by unfold gW;rw[if_neg c,if_neg d]
    rw[g];have k:gU (s.extract p s.size)=0:=by
     by_cases j:gU (s.extract p s.size)=0
     ·exact j
     ·rw[if_neg j]at b;cases b
    have z:ae (s.extract p s.size) 0=ae s p:=cV s p s.size 0 (Nat.le_refl _) (by omega);have o:¬ae s p=10:=fun o=>by
     have F:gU (s.extract p s.size)=7:=by unfold gU;rw[z,o];rfl
     rw[F]at k;exact absurd k (by decide)
    have q:=rN (s.extract p s.size) (by rw[z];exact o);unfold oG at q;refine au (oI s u p m o (by simpa using h) (by simpa using c) d w) fun i f=>?_;generalize iW (fun x=>Lib.hasPrefix (s.extract p s.size).data.toList x.data.toList) 30 0=C at q;cases C with
    |none=>
     refine⟨_,_,_,_,rfl,⟨fun a=>(by rw[hok0]at a;cases a),fun a=>?_⟩,f⟩;unfold rdI;rw[if_neg h,if_neg c,if_neg d,if_pos k]
    |some I=>
     obtain⟨y,_,B,_⟩:=(show _/\_/\_/\_ from q);exact absurd k B
def mJ(st:List Int)(k:Int):List Int×Bool:=if 0<k then feedL st k else(st,false)
def kH(s:ByteArray):Nat->List Int->Nat->Int->List Tk->List Tk×List Int×Int
 |0,st,_,_,_=>([],st,0)
 |f+1,st,p,l,b=>
  if s.size<=p then(b++[⟨6,(s.size:Nat),(s.size:Nat),l,0,⟨#[]⟩⟩],st, -1)
  else if gX s p=7 then
   (if(feedL st 5).2=true then kH s f (feedL st 5).1 (blk s (s.size+1) (rdI s p).a) (l+1) (b++[⟨5,(p:Nat),((rdI s p).a:Nat),l,(rdI s p).n,(rdI s p).x⟩]) else kH s f st (blk s (s.size+1) (rdI s p).a) (l+1) b)
  else if(mJ st (gX s p)).2=true then
   (if(rdI s p).ok=true then kH s f (feedL st (gX s p)).1 (blk s (s.size+1) (rdI s p).a) l (b++[⟨gX s p,(p:Nat),((rdI s p).a:Nat),l,(rdI s p).n,(rdI s p).x⟩]) else([],st,((rdI s p).a:Nat)))
  else([],st,(wrongF s p (lG st):Nat))
def du(s:ByteArray):List Tk×List Int×Int:=kH s (s.size+1) [100,6] (blk s (s.size+1) 0) 1 []
structure J3 (s:ByteArray) (f:Nat) (st:List Int) (p:Nat) (l:Int) (out:List Tk) (R:List Tk×List Int×Int):Prop where
 out:kH s f st p l out=R
theorem GZ(s:ByteArray)(p:Nat):0<=gX s p/\gX s p<=78:=by
 unfold gX;split
 ·rename_i a;have:=ul s p a;omega
 ·have:=rO s p;omega
theorem ER(s:ByteArray)(p:Nat)(h:gX s p=7):(rdI s p).ok=true/\(rdI s p).k=7:=by
 unfold gX at h;split at h
 ·rename_i a;exact⟨a,h⟩
 ·have:=rO s p;omega
theorem ES:(Tryz.prog.info? 45).map (fun i=>(i.zero,i.size,i.bytes))=some (some (.agg #[.int .i64 0,.int .i64 0,.int .i64 0,.int .i64 0,.int .i64 0,.string ⟨#[]⟩]),6,56):=by kernel_rfl
theorem um{W f:World}{o:Obj}{base e size n:Nat}{v:Value}{g:List Value}(l:W.ownsRow base e size v n g)(m:(W.alloc o).grownBy f v.ownBlock){k:Nat}{cs:Array Value}{t:TypeId}{fr:Nat×Nat}(a:W.heap[k]?=some (.cells cs t fr))(h:t≠e):f.heap[k]?=some (.cells cs t fr):=by
 refine(m.block k (by simp;have:=lt_of_block a;omega) (fun j=>?_)).trans ((Below.heap_alloc _ _ _ (lt_of_block a)).trans a);have b:v.ownBlock=some k:=j.symm;rcases l.2 with⟨d,_⟩|⟨i,p,q,d,_,c,_⟩
 ·rw[d]at b;simp[Value.ownBlock]at b
 ·rw[d]at b;obtain rfl:i=k:=by simpa [Value.ownBlock] using b
  rw[a]at c;simp only[Option.some.injEq,Obj.cells.injEq]at c;exact h c.2.1
theorem im.app{W d:World}{o:Obj}{base mb:Nat}{C:List (Int×Int)}(h:im W base mb C){t e size n:Nat}{v:Value}{f:List Value}(b:W.ownsRow t e size v n f)(c:(W.alloc o).grownBy d v.ownBlock)(w:58≠e)(u:111≠e):im d base mb C:=by
 obtain⟨m,r,j,a⟩:=h.ex;refine⟨⟨m,um b c r w,j,?_⟩,h.lo⟩;rcases a with a|⟨i,k,p,l,s,g,q⟩
 ·exact .inl a
 ·exact .inr ⟨i,k,p,l,s,um b c g u,q⟩
theorem im.other{W:World}{base mb b:Nat}{C:List (Int×Int)}(h:im W base mb C){cs:Array Value}{t:TypeId}{fr:Nat×Nat}(r:W.heap[b]?=some (.cells cs t fr))(A:t≠58)(z:t≠111)(j:Nat)(v:Value):im (W.setCell ⟨b,j,none⟩ v) base mb C:=by
 obtain⟨s,g,m,a⟩:=h.ex;have i:∀{f:Nat}{q:Array Value}{d:TypeId}{y:Nat×Nat},W.heap[f]?=some (.cells q d y)->t≠d->f≠b:=fun c k o=>by
  subst o;rw[r]at c;simp only[Option.some.injEq,Obj.cells.injEq]at c;exact k c.2.1
 refine⟨⟨s,(heap_setCell_other _ _ _ _ (i g A)).trans g,m,?_⟩,h.lo⟩;rcases a with a|⟨l,n,u,p,x,e,w⟩
 ·exact .inl a
 ·exact .inr ⟨l,n,u,p,x,(heap_setCell_other _ _ _ _ (i e z)).trans e,w⟩
theorem oJ{W:World}{base e size n b:Nat}{v:Value}{a:List Value}(h:W.ownsRow base e size v n a)(d:∀g,v.ownBlock=some g->g<b)(j:Nat)(u:Value):(W.setCell ⟨b,j,none⟩ u).ownsRow base e size v n a:=by
 refine h.kept (row:=some b) ⟨rfl,rfl,rfl,by simp[World.setCell],fun f i c=>heap_setCell_other _ _ _ _ (fun e=>c (by rw[e]))⟩ ?_;cases hv:v.ownBlock with
 |none=>exact .inl rfl
 |some g=>exact .inr (fun e=>by have:=d g hv;obtain rfl:=Option.some.inj e;omega)
structure un (w:World) (base mb:Nat) (s:ByteArray) (R:List Tk×List Int×Int) (p:Nat) (st:List Int) (top:Int) (C:List (Int×Int)) (l:Int) (out:List Tk) (f:Nat) (vo:Value) (W:World):Prop where
 m:im W base mb C
 sk:dT C top st
 o:mR st
 bl:Below base w W
 row:W.ownsRow base 45 6 vo out.length (mD out)
 eq:kH s f st p l out=R
 cl:2<=C.length/\C.length<=2+20*p
 ol:out.length<=p
 l0:1<=l/\l<=(p:Int)+1
theorem un.below{w:World}{base mb:Nat}{s:ByteArray}{R:List Tk×List Int×Int}{p:Nat}{st:List Int}{d:Int}{C:List (Int×Int)}{l:Int}{e:List Tk}{f:Nat}{b:Value}{W c:World}(h:un w base mb s R p st d C l e f b W)(a:Below W.heap.size W c)(g:base<=W.heap.size):un w base mb s R p st d C l e f b c:=
 ⟨h.m.below a,h.sk,h.o,h.bl.trans (a.mono g),ai h.row a,h.eq,h.cl,h.ol,h.l0⟩
def uo(w:World)(base mb:Nat)(s:ByteArray)(R:List Tk×List Int×Int)(e:Ending)(b:World):Prop:=
 ∃(d:Option Addr) (c:Nat) (f:Int) (a:List (Int×Int)),e= .returned (.tuple #[.slice d R.1.length c,.int .i64 f,.int .i64 R.2.2])/\b.ownsRow base 45 6 (.slice d R.1.length c) R.1.length (mD R.1)/\im b base mb a/\dT a f R.2.1/\mR R.2.1/\Below base w b/\2<=a.length/\a.length<=2000000
theorem wH(w:World)(base mb:Nat)(s:ByteArray)(h:im w base mb [])(d0:s.size<=70000):
  Calls Tryz.prog 22 #[.pointer (some ⟨mb,0,none⟩),.string s] w (uo w base mb s (du s)):=by
 unfold du;obtain⟨I,ck⟩:=ah (kH s (s.size+1) [100,6] (blk s (s.size+1) 0) 1 []);rw[ck];have fg:base<=w.heap.size:=by obtain⟨v,ff,_⟩:=h.ex;have:=lt_of_block ff;have:=h.lo;omega
 have es:=zD w base mb h;have cr:=fun w=>gI s (by omega) 0 (Nat.zero_le _) w;have eb:=ir s (s.size+1) 0 (Nat.zero_le _);obtain⟨ek,ea⟩:=ah (blk s (s.size+1) 0);rw[ea]at ck cr eb;rw[show(((0:Nat):Int))=0 from rfl]at cr;have ep:=ab ck;clear ck h ea;go_in;go_wp2_with fail;refine es.mono ?_;rintro A K ⟨rfl,ev,fu,g⟩;clear es;have eg:un w base mb s I ek [100,6] 1 [(6, -1),(100,0)] 1 [] (s.size+1) (.slice none 0 0) K:=by
  refine⟨ev,⟨1,0,rfl,rfl,0, -1,rfl,rfl,rfl⟩,?_,g,World.ownsRow_nil _ _ _ _,ep.out,⟨by simp,by simp⟩,by simp,⟨by omega,by omega⟩⟩;intro i ak;simp at ak;omega
 have en:=ab eg;clear eg ev fu g;go_wp2_with (go_at_call 42;refine bc (cr _) ?_);clear cr;obtain⟨c0,cz,cT,d4,cB⟩:=info_parts ES;go_loopw [7,8,9,10] (fun ge em f1 d3 wr=>∃(a:Nat) (e:List Int) (t:Int) (q:List (Int×Int)) (d:Int) (x:List Tk) (r:Nat),d3= .int .i64 a/\f1= .int .i64 d/\ge= .int .i64 t/\(∃fc f8,∃fz:Nat,em= .slice fc fz f8)/\a<=s.size/\s.size<a+r/\Hid (un w base mb s I a e t q d x r em wr)) (fun _ _ _ d3 _=>s.size+1-(intOf d3).toNat)
 case atStart=>exact⟨ek,_,1,_,1,[],s.size+1,rfl,rfl,rfl,⟨_,_,_,rfl⟩,eb.2,by omega,en⟩
 case round=>
  obtain⟨a,e,t,q,d,x,r,rfl,rfl,rfl,⟨cc,ch,b0,rfl⟩,g1,gu,z⟩:=hrel;clear en ep;obtain⟨r,rfl⟩:∃a1,r=a1+1:=⟨r-1,by omega⟩;obtain⟨gz,g3,eN⟩:=aB z.out.row;cases eN;have c:=z.out.eq;rw[kH]at c;have eh:base<=wr.heap.size:=Nat.le_trans fg z.out.bl.size;have ed:=z.out.ol;by_cases bx:a<s.size
  ·rw[if_neg (by omega)]at c;have gm:(a:Int)<(s.size:Int):=by omega
   have cF:=fun w=>wG s d0 a bx w;have c2:=GZ s a;obtain⟨f,cx⟩:=ah (gX s a);rw[cx]at cF c c2;have cn:=ab cx;obtain⟨b0,W⟩:=ah x.length;have G:=ab W;rw[W]at ed⊢;have ca:Hid ((if f=7 then(if(feedL e 5).2=true then kH s r (feedL e 5).1 (blk s (s.size+1) (rdI s a).a) (d+1) (x++[⟨5,(a:Nat),((rdI s a).a:Nat),d,(rdI s a).n,(rdI s a).x⟩]) else kH s r e (blk s (s.size+1) (rdI s a).a) (d+1) x)
    else if(mJ e f).2=true then(if(rdI s a).ok=true then kH s r (feedL e f).1 (blk s (s.size+1) (rdI s a).a) d (x++[⟨f,(a:Nat),((rdI s a).a:Nat),d,(rdI s a).n,(rdI s a).x⟩]) else([],e,((rdI s a).a:Nat)))
    else([],e,(wrongF s a (lG e):Nat)))=I):=c
   clear c cx W;go_wp2_with fail;refine(cF _).mono ?_;rintro A K ⟨l,k,i,d5,rfl,el,d6⟩;have cf:Hid (un w base mb s I a e t q d x (r+1) (.slice cc x.length ch) K):=z.out.below d6 eh;have fA:=d6.size;have V:=ab el;clear cF d6 z el;obtain⟨g,d1⟩:=ah K.heap.size;go_upto_region 8 with fail
   have ap:aO g (K.alloc (.cells #[.int .i64 f,.int .i64 a,.int .i64 l,.int .i64 d,.int .i64 k,.string i] 45)) f a l d k i:=by rw[<-d1];exact heap_alloc_new K _
   have b:Hid (un w base mb s I a e t q d x (r+1) (.slice cc x.length ch) (K.alloc (.cells #[.int .i64 f,.int .i64 a,.int .i64 l,.int .i64 d,.int .i64 k,.string i] 45))):=cf.out.below (ax K _) (by omega);have cq:∀a1,(Value.slice cc b0 ch).ownBlock=some a1->a1<g:=fun a1 fo=>by
    have d9:=cf.out.row;rw[G.out]at d9;have:=(d9.lt a1 fo).2;omega
   have cg:g≠mb:=by
    obtain⟨dn,L,_⟩:=cf.out.m.ex;have:=lt_of_block L;omega
   have e2:(K.alloc (.cells #[.int .i64 f,.int .i64 a,.int .i64 l,.int .i64 d,.int .i64 k,.string i] 45)).heap.size=g+1:=by rw[World.size_alloc,d1]
   generalize K.alloc (.cells #[.int .i64 f,.int .i64 a,.int .i64 l,.int .i64 d,.int .i64 k,.string i] 45)=c3 at ap b e2⊢;have gr:=b.out.cl.2;have g4:=b.out.cl.1;have gv:base<=g:=by omega
   have gt:=b.out.l0;obtain⟨e0,e1,gd,f0,e7,fq,fk⟩:=aw ap;clear cf d1 fA eh;by_cases dq:f=7
   ·subst dq;obtain⟨c1,fB⟩:=ER s a cn.out;obtain⟨ar,c8,Y,a4,ak,df⟩:=V.out.yes c1;clear c8 df;have O:=fD s a bx c1;have c:=ca.out;rw[if_pos rfl,<-a4,<-ak]at c;obtain⟨H,bk⟩:=ah ((rdI s a).a);rw[bk]at c Y O;subst ar;have S:=fun w=>gI s (by omega) H (by omega) w;have a0:=ir s (s.size+1) H (by omega);obtain⟨bE,bd⟩:=ah (blk s (s.size+1) H);rw[bd]at c S a0;rw[<-Y]at S c;have bN:=jV b.out.o (show(1:Int)<=5 by omega) (by omega);have p:=jY c3 base mb q e t 5 b.out.m b.out.sk b.out.o (by omega) (by omega) (by omega);obtain⟨a6,a7⟩:=ah (feedL e 5);rw[a7]at p c bN;unfold io at p;obtain⟨c5,b4⟩:=ah a6.2;rw[b4]at p c;have e3:a<H/\H<=s.size:=⟨O.1,O.2.1⟩;clear a4 ak a7 b4 c1 fB O bk bd cn V ca Y;go_wp2_with fail;refine p.mono ?_;rintro A n ⟨a2,D,rfl,F,R,an,m,B⟩;cases c5 with
    |false=>
     rw[if_neg (by simp)]at c;have br:=ab c;have y:aO g n 7 a l d k i:=m.blk ap (by decide) cg;obtain⟨dn,L,_⟩:=b.out.m.ex;have row3:=m.row L b.out.row (by decide) (by decide);have f5:Hid (un w base mb s I bE e t (q++D) (d+1) x r (.slice cc b0 ch) n):=
      ⟨F,b.out.sk.app D,b.out.o,b.out.bl.trans B,by rw[<-G.out]at *;exact row3,br.out,⟨by rw[List.length_append];omega,by rw[List.length_append];omega⟩,by rw[G.out];omega,⟨by omega,by omega⟩⟩
     obtain⟨b8,bn,b2,b5,bh,cb,a3⟩:=aw y;clear p c ap y row3 L F R m B b e0 e1 gd f0 e7 fq fk;go_wp2_with (go_at_call 42;refine bc (S _) ?_);exact⟨⟨bE,e,t,q++D,d+1,x,r,rfl,by go_num,rfl,⟨_,_,_,rfl⟩,a0.2,by omega,f5⟩,by simp[intOf];omega⟩
    |true=>
     rw[if_pos rfl]at c;have br:=ab c;clear c;have y:aO g n 7 a l d k i:=m.blk ap (by decide) cg;obtain⟨dn,L,_⟩:=b.out.m.ex;have row3:=m.row L b.out.row (by decide) (by decide);rw[G.out]at row3;have bo:=b.out.bl.trans B;have fv:=m.size;have E:aO g (n.setCell ⟨g,0,none⟩ (.int .i64 5)) 5 a l d k i:=y.setKind 5;have a5:=F.other (j:=0) (v:= .int .i64 5) (show n.heap[g]?=some (.cells _ _ _) from y) (by decide) (by decide);have al:=oJ (j:=0) (u:= .int .i64 5) row3 cq;have bw:Below base w (n.setCell ⟨g,0,none⟩ (.int .i64 5)):=bo.setCell (by simp;omega) _;have bD:=cK R an;obtain⟨b8,bn,b2,b5,bh,cb,a3⟩:=aw y;clear p y F row3 bo L R an m B;go_upto_region 24 with fail
     generalize n.setCell ⟨g,0,none⟩ (.int .i64 5)=af at E a5 al bw⊢;obtain⟨gf,gp,f7,f6,e5,e6,fF⟩:=aw E;have C:=ab al;have ct:=ab E;have d7:g<af.heap.size:=lt_of_block E;clear E al b8 bn b2 b5 bh cb a3;go_wp2_with (first|(at_builtin;refine wpList_append_own _ rfl _ _ 31 rfl base 45 c0 _ 6 56 Tryz.underlying31 cz cT d4 cB rfl (by decide) _ _ _ rfl (C.out.alloc _) ⟨af.heap.size,0,none⟩ 1 1 [.int .i64 5,.int .i64 a,.int .i64 l,.int .i64 d,.int .i64 k,.string i] rfl rfl (World.news_of_block (cs:=#[.int .i64 5,.int .i64 a,.int .i64 l,.int .i64 d,.int .i64 k,.string i]) (fr:=(0,0)) (heap_alloc_new af _)) (by intro u Q;simp at Q;rcases Q with rfl|rfl|rfl|rfl|rfl|rfl<;>rfl) (by unfold maxLen;omega) (by omega) (by simp;omega) ?_;intro ey X T J ei;obtain⟨cP,cI,rfl⟩:=ownsRow_succ T;have d2:aO g X 5 a l d k i:=(J.block g (by simp;omega) (fun A=>by have:=cq g A.symm;omega)).trans ((Below.heap_alloc _ _ _ d7).trans ct.out);obtain⟨fd,f9,f2,f4,gb,fb,gn⟩:=aw d2)|(go_at_call 42;refine bc (S _) ?_));have bt:=a5.app C.out J (by decide) (by decide);have b9:Below base w X:=(bw.alloc (by omega) _).grown J (by simp;omega) (fun a8 bs=>(C.out.lt a8 bs).1);refine⟨⟨bE,a6.1,a2,q++D,d+1,x++[⟨5,(a:Nat),l,d,k,i⟩],r,rfl,by go_num,rfl,⟨_,_,_,rfl⟩,a0.2,by omega,⟨bt,bD.out.1,?_,b9,?_,?_,?_,?_,?_⟩⟩,by simp[intOf];omega⟩
     ·exact bN
     ·rw[List.length_append,G.out,hU];exact T
     ·exact br.out
     ·have:=b.out.cl;have:=bD.out.2;rw[List.length_append];omega
     ·rw[List.length_append,G.out];simp;omega
     ·have:=b.out.l0;omega
   ·have c:=ca.out;rw[if_neg dq]at c;have gs:(f==7)=false:=beq_eq_false_iff_ne.2 dq;by_cases fm:f=0
    ·subst fm;rw[show mJ e 0=(e,false) from rfl,if_neg (by simp)]at c;have U:=ab c;clear c ca V cn;obtain⟨ao,N⟩:=ah (lG e);have e8:ao.length<=78:=by rw[<-N];exact iR e 78
     have Z:=ye c3 base mb q e t b.out.m b.out.sk b.out.o (by omega) (by omega);rw[N]at Z;have M:Hid ((([]:List Tk),e,((wrongF s a ao:Nat):Int))=I):=by rw[<-N];exact U.out
     clear N;go_wp2_with fail;refine Z.mono ?_;rintro A d8 ⟨e4,fn,rfl,cw,c4,dk,ds⟩;have cN:=ma d8 s a _ ao (ga cw) (by omega) d0 bx;clear Z;go_wp2_with (go_at_call 44;refine cN.mono ?_;rintro A fa ⟨rfl,bb⟩);go_ret3
     refine⟨none,0,t,q,?_,?_,c4.below bb,?_,?_,?_,?_,?_⟩
     ·rw[<-M.out];rfl
     ·rw[<-M.out];exact World.ownsRow_nil _ _ _ _
     ·rw[<-M.out];exact b.out.sk
     ·rw[<-M.out];exact b.out.o
     ·exact(b.out.bl.trans ds).trans (bb.mono (by have:=dk.size;first|omega|(have:=m.size;omega)))
     ·have:=b.out.cl;omega
     ·have:=b.out.cl;omega
    ·have f3:0<f:=by omega
     have et:mJ e f=feedL e f:=by unfold mJ;rw[if_pos f3]
     rw[et]at c;have bN:=jV b.out.o (show(1:Int)<=f by omega) c2.2;have p:=jY c3 base mb q e t f b.out.m b.out.sk b.out.o (by omega) c2.2 (by omega);obtain⟨a6,a7⟩:=ah (feedL e f);rw[a7]at p c bN;unfold io at p;obtain⟨c5,b4⟩:=ah a6.2;rw[b4]at p c;clear a7 b4 et ca cn;cases c5 with
     |false=>
      rw[if_neg (by simp)]at c;have U:=ab c;clear c V;go_wp2_with fail;refine p.mono ?_;rintro A n ⟨a2,D,rfl,F,R,an,m,B⟩;have y:aO g n f a l d k i:=m.blk ap (by decide) cg;obtain⟨b8,bn,b2,b5,bh,cb,a3⟩:=aw y;clear p;obtain⟨ao,N⟩:=ah (lG e);have e8:ao.length<=78:=by rw[<-N];exact iR e 78
      have Z:=ye n base mb (q++D) e t F (b.out.sk.app D) b.out.o (by rw[List.length_append];omega) (by rw[List.length_append];omega);rw[N]at Z;have M:Hid ((([]:List Tk),e,((wrongF s a ao:Nat):Int))=I):=by rw[<-N];exact U.out
      clear N;go_wp2_with fail;refine Z.mono ?_;rintro A d8 ⟨e4,fn,rfl,cw,c4,dk,ds⟩;have cN:=ma d8 s a _ ao (ga cw) (by omega) d0 bx;clear Z;go_wp2_with (go_at_call 44;refine cN.mono ?_;rintro A fa ⟨rfl,bb⟩);go_ret3
      refine⟨none,0,t,q++D,?_,?_,c4.below bb,?_,?_,?_,?_,?_⟩
      ·rw[<-M.out];rfl
      ·rw[<-M.out];exact World.ownsRow_nil _ _ _ _
      ·rw[<-M.out];exact(b.out.sk.app D)
      ·rw[<-M.out];exact b.out.o
      ·exact((b.out.bl.trans B).trans ds).trans (bb.mono (by have:=dk.size;first|omega|(have:=m.size;omega)))
      ·have:=b.out.cl;rw[List.length_append];omega
      ·have:=b.out.cl;rw[List.length_append];omega
     |true=>
      rw[if_pos rfl]at c;cases hokI:(rdI s a).ok with
      |false=>
       rw[hokI,if_neg (by simp)]at c;have ar:=V.out.no hokI;have g2:¬d5<0:=by omega
       have U:Hid ((([]:List Tk),e,d5)=I):=by rw[ar];exact c
       clear c V ar hokI;go_wp2_with fail;refine p.mono ?_;rintro A n ⟨a2,D,rfl,F,R,an,m,B⟩;have g0:(0:Int)<=d5:=by omega
       clear p;go_wp2_with fail;go_ret3
       refine⟨none,0,t,q++D,?_,?_,F,?_,?_,b.out.bl.trans B,?_,?_⟩
       ·rw[<-U.out];rfl
       ·rw[<-U.out];exact World.ownsRow_nil _ _ _ _
       ·rw[<-U.out];exact b.out.sk.app D
       ·rw[<-U.out];exact b.out.o
       ·rw[List.length_append];omega
       ·rw[List.length_append];omega
      |true=>
       rw[hokI,if_pos rfl]at c;obtain⟨ar,c8,Y,a4,ak,df⟩:=V.out.yes hokI;clear c8 df;have O:=fD s a bx hokI;rw[<-a4,<-ak]at c;obtain⟨H,bk⟩:=ah ((rdI s a).a);rw[bk]at c Y O;subst ar;have S:=fun w=>gI s (by omega) H (by omega) w;have a0:=ir s (s.size+1) H (by omega);obtain⟨bE,bd⟩:=ah (blk s (s.size+1) H);rw[bd]at c S a0;rw[<-Y]at S c;have e3:a<H/\H<=s.size:=⟨O.1,O.2.1⟩;have br:=ab c;clear c a4 ak O bk bd V Y hokI;go_wp2_with fail;refine p.mono ?_;rintro A n ⟨a2,D,rfl,F,R,an,m,B⟩;have y:aO g n f a l d k i:=m.blk ap (by decide) cg;obtain⟨dn,L,_⟩:=b.out.m.ex;have row3:=m.row L b.out.row (by decide) (by decide);rw[G.out]at row3;have bo:=b.out.bl.trans B;have fv:=m.size;have E:aO g (n.setCell ⟨g,0,none⟩ (.int .i64 f)) f a l d k i:=y.setKind f;have a5:=F.other (j:=0) (v:= .int .i64 f) (show n.heap[g]?=some (.cells _ _ _) from y) (by decide) (by decide);have al:=oJ (j:=0) (u:= .int .i64 f) row3 cq;have bw:Below base w (n.setCell ⟨g,0,none⟩ (.int .i64 f)):=bo.setCell (by simp;omega) _;have bD:=cK R an;obtain⟨b8,bn,b2,b5,bh,cb,a3⟩:=aw y;clear p y F row3 bo L R an m B;go_upto_region 24 with fail
       generalize n.setCell ⟨g,0,none⟩ (.int .i64 f)=af at E a5 al bw⊢;obtain⟨gf,gp,f7,f6,e5,e6,fF⟩:=aw E;have C:=ab al;have ct:=ab E;have d7:g<af.heap.size:=lt_of_block E;clear E al b8 bn b2 b5 bh cb a3;go_wp2_with (first|(at_builtin;refine wpList_append_own _ rfl _ _ 31 rfl base 45 c0 _ 6 56 Tryz.underlying31 cz cT d4 cB rfl (by decide) _ _ _ rfl (C.out.alloc _) ⟨af.heap.size,0,none⟩ 1 1 [.int .i64 f,.int .i64 a,.int .i64 l,.int .i64 d,.int .i64 k,.string i] rfl rfl (World.news_of_block (cs:=#[.int .i64 f,.int .i64 a,.int .i64 l,.int .i64 d,.int .i64 k,.string i]) (fr:=(0,0)) (heap_alloc_new af _)) (by intro u Q;simp at Q;rcases Q with rfl|rfl|rfl|rfl|rfl|rfl<;>rfl) (by unfold maxLen;omega) (by omega) (by simp;omega) ?_;intro ey X T J ei;obtain⟨cP,cI,rfl⟩:=ownsRow_succ T;have d2:aO g X f a l d k i:=(J.block g (by simp;omega) (fun A=>by have:=cq g A.symm;omega)).trans ((Below.heap_alloc _ _ _ d7).trans ct.out);obtain⟨fd,f9,f2,f4,gb,fb,gn⟩:=aw d2)|(go_at_call 42;refine bc (S _) ?_));have bt:=a5.app C.out J (by decide) (by decide);have b9:Below base w X:=(bw.alloc (by omega) _).grown J (by simp;omega) (fun a8 bs=>(C.out.lt a8 bs).1);refine⟨⟨bE,a6.1,a2,q++D,d,x++[⟨f,(a:Nat),l,d,k,i⟩],r,rfl,rfl,rfl,⟨_,_,_,rfl⟩,a0.2,by omega,⟨bt,bD.out.1,?_,b9,?_,?_,?_,?_,?_⟩⟩,by simp[intOf];omega⟩
       ·exact bN
       ·rw[List.length_append,G.out,hU];exact T
       ·exact br.out
       ·have:=b.out.cl;have:=bD.out.2;rw[List.length_append];omega
       ·rw[List.length_append,G.out];simp;omega
       ·have:=b.out.l0;omega
  ·rw[if_pos (by omega)]at c;have ef:a=s.size:=by omega
   obtain⟨b0,W⟩:=ah x.length;have G:=cK W ef;have c7:=z.out.row;rw[W]at ed c7⊢;have C:=ab c7;have bA:=ab c;have gm:¬(a:Int)<(s.size:Int):=by omega
   clear c W c7 ef;go_wp2_with (at_builtin;refine wpList_append_own _ rfl _ _ 31 rfl base 45 c0 _ 6 56 Tryz.underlying31 cz cT d4 cB rfl (by decide) _ _ _ rfl (C.out.alloc _) ⟨wr.heap.size,0,none⟩ 1 1 [.int .i64 6,.int .i64 s.size,.int .i64 s.size,.int .i64 d,.int .i64 0,.string ⟨#[]⟩] rfl rfl (World.news_of_block (cs:=#[.int .i64 6,.int .i64 s.size,.int .i64 s.size,.int .i64 d,.int .i64 0,.string ⟨#[]⟩]) (fr:=(0,0)) (heap_alloc_new wr _)) (by intro u Q;simp at Q;rcases Q with rfl|rfl|rfl|rfl|rfl<;>rfl) (by unfold maxLen;omega) (by omega) (by simp;omega) ?_;intro ey X T J ei;obtain⟨cP,cI,rfl⟩:=ownsRow_succ T);go_ret3
   have bt:=z.out.m.app C.out J (by decide) (by decide);have b9:Below base w X:=(z.out.bl.alloc (by omega) _).grown J (by simp;omega) (fun a8 bs=>(C.out.lt a8 bs).1);have ec:I.1.length=b0+1:=by rw[<-bA.out,List.length_append,G.out.1];rfl
   refine⟨some ⟨cP,0,none⟩,cI,t,q,?_,?_,bt,?_,?_,b9,z.out.cl.1,?_⟩
   ·rw[ec,<-bA.out];rfl
   ·rw[ec,<-bA.out,hU];exact T
   ·rw[<-bA.out];exact z.out.sk
   ·rw[<-bA.out];exact z.out.o
   ·have:=z.out.cl.2;omega
end Go.Proofs.YtcbmoiabehpliaaGreatDoor
