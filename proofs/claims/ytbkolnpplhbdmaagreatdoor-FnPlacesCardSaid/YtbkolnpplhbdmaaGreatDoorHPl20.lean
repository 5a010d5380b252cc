import Derived.Test.YtbkolnpplhbdmaaGreatDoorHPl14
import Derived.Test.YtbkolnpplhbdmaaGreatDoorHPl16
import Derived.Test.YtbkolnpplhbdmaaGreatDoorHPl19
import Derived.Test.YtbkolnpplhbdmaaGreatDoorHPl12
import Derived.Lib.ItoaLen
set_option linter.all false
set_option maxRecDepth 100000
set_option maxHeartbeats 25600000
open Go.Proofs.Tryz
open Go.IntKind renaming i64->M
open Go.Value renaming int->O,string->Y,slice->Z,int->A0,tuple->A1,agg->A9,ownBlock->B1,bool->B2
open Bool renaming false->Q,true->X
open Option renaming some->U,none->A5
open Go.RowKit renaming intOf->Ad,Hid->Bk
open Go.Lib renaming hasPrefix->Ak
open Go.Proofs.Tryz renaming prog->Ax
open Go renaming Value->A2,World->Bc,Calls->Bn
open List renaming replicate->A3
open Go.Obj renaming cells->Br
open Go.Ending renaming returned->B0
namespace Go.Proofs.YtbkolnpplhbdmaaGreatDoor
open Go.RowKit Go.Maps Go.WideMaps
variable{C:List (Int×Int)}{N:Nd}{W W' w:World}{b base i j n p:Nat}{c:Int}{ns:List Nd}{t:TypeId}{v:Value}{xs:List Value}
def pB(a b c:Int)(x:ByteArray):Bool:=decide ((x.size=0\/a=aq x 0)/\(x.size<=1\/b=aq x 1)/\(x.size<=2\/c=aq x 2))
def ahu(r x:ByteArray)(i:Nat)(b:i<x.size):r.data.toList[i]?=x.data.toList[i]?↔aq r i=aq x i:=by
 have d:x.data.toList[i]?=U x[i]:=by rw[vy];exact Ci b
 rw[d,iz];have c:aq x i=(x[i].toNat:Int):=by unfold aq;rw[ni b]
 rw[c];constructor
 .exact λa=>a.2
 .intro a;refine⟨?_,a⟩;rcases bg i r.size with h1|h1
  .exact h1
  .rw[dy]at a;omega
def aom(r x:ByteArray)(h:x.size<=3):Ak r.data.toList x.data.toList=pB (aq r 0) (aq r 1) (aq r 2) x:=by
 unfold Ak pB;rw[vE,yd,py,List.prefix_iff_getElem?];have i:x.data.toList.length=x.size:=fK;have f:(∀a (b:a<x.data.toList.length),r.data.toList[a]?=U x.data.toList[a])↔∀a,a<x.size->aq r a=aq x a:=by
  constructor
  .intro g a b;rw[<-ahu r x a b,g a (by omega)];exact(aw (by omega)).symm
  .intro g a b;rw[(ahu r x a (by omega)).2 (g a (by omega))];exact aw b
 rw[f];constructor
 .intro g;refine⟨?_,?_,?_⟩
  .rcases oz x.size with h0|h0
   .exact .inl h0
   .exact .inr (g 0 h0)
  .rcases bg 1 x.size with h0|h0
   .exact .inr (g 1 h0)
   .exact .inl h0
  .rcases bg 2 x.size with h0|h0
   .exact .inr (g 2 h0)
   .exact .inl h0
 .rintro ⟨c,d,e⟩ a b;rcases(show a=0\/a=1\/a=2 by omega) with rfl|rfl|rfl
  .rcases c with g|g
   .omega
   .exact g
  .rcases d with g|g
   .omega
   .exact g
  .rcases e with g|g
   .omega
   .exact g
def IK(q:ByteArray->Bool)(V:Array A2)(base:Int):Nat->Nat->Int×Nat->Int×Nat
 |0,_,a=>a
 |f+1,i,a=>IK q V base f (i+1) (if a.2<(ch V i).size/\q (ch V i)=X then(base+(i:Int),(ch V i).size) else a)
def skq(a:Int)(q:ByteArray->Bool):Int:=if a=59 then 5 else if a=10 then 7 else(IK q lH 61 18 0 (IK q jr 40 11 0 (0,0))).1
def AF(q:ByteArray->Bool):Nat->Nat->Option Nat
 |0,_=>A5
 |f+1,k=>if q (ch pd k)=X then U k else AF q f (k+1)
def ahv(V:Array A2)(base:Int)(r:ByteArray):∀(f i:Nat)(a:Int×Nat),xA V base r f i a=IK (λx=>Ak r.data.toList x.data.toList) V base f i a
 |0,i,a=>rfl
 |f+1,i,a=>by rw[xA,IK];exact ahv V base r f (i+1) _
def xF(q b:ByteArray->Bool)(V:Array A2)(base:Int)(N:Nat)(h:∀i,i<N->q (ch V i)=b (ch V i)):∀(f i:Nat)(a:Int×Nat),i+f<=N->IK q V base f i a=IK b V base f i a
 |0,i,a,_=>rfl
 |f+1,i,a,c=>by rw[IK,IK,h i (by omega)];exact xF q b V base N h f (i+1) _ (by omega)
def En(q a:ByteArray->Bool)(h:∀i,i<30->q (ch pd i)=a (ch pd i)):∀(f i:Nat),i+f<=30->AF q f i=AF a f i
 |0,i,_=>rfl
 |f+1,i,b=>by rw[AF,AF,h i (by omega),En q a h f (i+1) (by omega)]
def Fp(S:List Int)(b:Int):Int:=if b∈S then b else 0
def IL(S:List Int)(d:(0:Int) ∉ S)(b a:Int)(c:a∈S):Fp S b=a↔b=a:=by
 unfold Fp;split
 .exact Iff.rfl
 .rename_i e;constructor
  .rintro rfl;exact absurd c d
  .rintro rfl;exact absurd c e
def fb0:List Int:=[46,60,62,61,126,47,40,41,123,125,91,93,44,59,35,43,45,42,37,38,124]
def fb1:List Int:=[46,60,61,62,47]
def fb2:List Int:=[46]
def inB(x:ByteArray):Bool:=decide (x.size<=3/\(x.size=0\/aq x 0∈fb0)/\(x.size<=1\/aq x 1∈fb1)/\(x.size<=2\/aq x 2∈fb2))
def aon:∀i:Fin 11,inB (ch jr i.val)=X:=by decide+kernel
def aoo:∀i:Fin 18,inB (ch lH i.val)=X:=by decide+kernel
def aop:∀i:Fin 30,inB (ch pd i.val)=X:=by decide+kernel
def aoq(a b c:Int)(x:ByteArray)(h:inB x=X):pB a b c x=pB (Fp fb0 a) (Fp fb1 b) (Fp fb2 c) x:=by
 unfold inB at h;rw[py]at h;obtain⟨_,g,i,j⟩:=h;have d:(x.size=0\/a=aq x 0)↔(x.size=0\/Fp fb0 a=aq x 0):=by
  rcases g with h|h
  .simp[h]
  .rw[IL fb0 (by decide) a _ h]
 have e:(x.size<=1\/b=aq x 1)↔(x.size<=1\/Fp fb1 b=aq x 1):=by
  rcases i with h|h
  .simp[h]
  .rw[IL fb1 (by decide) b _ h]
 have f:(x.size<=2\/c=aq x 2)↔(x.size<=2\/Fp fb2 c=aq x 2):=by
  rcases j with h|h
  .simp[h]
  .rw[IL fb2 (by decide) c _ h]
 unfold pB;rw[Hn,d,e,f]
def amw(a b c:Int):Bool:=match AF (pB a b c) 30 0 with
 |some j=>decide (skq a (pB a b c)=BG (ch pd j)/\(dK (skq a (pB a b c))).size=(ch pd j).size/\skq a (pB a b c)≠0/\skq a (pB a b c)≠7)
 |none=>decide (skq a (pB a b c)=0)
def ahw:∀a∈0::fb0,∀b∈0::fb1,∀c∈0::fb2,amw a b c=X:=by decide+kernel
def abg(S:List Int)(b:Int):Fp S b∈0::S:=by
 unfold Fp;split
 .exact cG _ (by assumption)
 .exact aI
def abh(r:ByteArray):Prop:=match AF (λa=>Ak r.data.toList a.data.toList) 30 0 with
 |some j=>pc r=BG (ch pd j)/\(dK (pc r)).size=(ch pd j).size/\pc r≠0/\pc r≠7
 |none=>pc r=0
def akI(r:ByteArray)(h:aq r 0≠10):abh r:=by
 have g:∀a,inB a=X->Ak r.data.toList a.data.toList=pB (Fp fb0 (aq r 0)) (Fp fb1 (aq r 1)) (Fp fb2 (aq r 2)) a:=λa f=>by
  rw[<-aoq _ _ _ a f];unfold inB at f;rw[py]at f;exact aom r a f.1
 have l:pc r=skq (Fp fb0 (aq r 0)) (pB (Fp fb0 (aq r 0)) (Fp fb1 (aq r 1)) (Fp fb2 (aq r 2))):=by
  unfold pc skq;rw[ahv,ahv,xF _ _ jr 40 11 (λd c=>g _ (aon ⟨d,c⟩)) 11 0 _ (by omega),xF _ _ lH 61 18 (λd c=>g _ (aoo ⟨d,c⟩)) 18 0 _ (by omega)];have i:=IL fb0 (by decide) (aq r 0) 59 (by decide);have k:Fp fb0 (aq r 0)≠10:=by
   unfold Fp;split
   .exact h
   .decide
  rw[aa h,aa k];by_cases e:aq r 0=59
  .rw[ab e,ab (i.2 e)]
  .rw[aa e,aa (λj=>e (i.1 j))]
 have b:=ahw _ (abg fb0 (aq r 0)) _ (abg fb1 (aq r 1)) _ (abg fb2 (aq r 2));unfold abh;rw[En _ _ (λd c=>g _ (aop ⟨d,c⟩)) 30 0 (by omega),l];unfold amw at b;cases hf:AF (pB (Fp fb0 (aq r 0)) (Fp fb1 (aq r 1)) (Fp fb2 (aq r 2))) 30 0 with
 |some m=>rw[hf]at b;exact aB b
 |none=>rw[hf]at b;exact aB b
structure Le (s:ByteArray) (f p:Nat) (a:List Int) (R:Bool×Nat×List Int):Prop where
 out:gc s f p a=R
def GH(p:Nat)(R:Bool×Nat×List Int):A2:=if R.1=X then A9 #[O M 4,O M p,O M (R.2.1:Int),O M 0,O M 0,Y (fH R.2.2)] else A9 #[O M 4,O M p,O M 0,O M 0,O M 0,Y ⟨#[]⟩]
def Lg(R:Bool×Nat×List Int):Int:=if R.1=X then -1 else(R.2.1:Int)
def GI{a:Nat}{c:List Int}{R:Bool×Nat×List Int}(h:(X,a,c)=R):(Ending.returned (A1 #[A9 #[O M 4,O M p,O M (a:Int),O M 0,O M 0,Y (fH c)],O M (-1)]))= B0 (A1 #[GH p R,O M (Lg R)]):=by
 subst h;rfl
def uL{a:Nat}{c:List Int}{R:Bool×Nat×List Int}(h:(Q,a,c)=R):(Ending.returned (A1 #[A9 #[O M 4,O M p,O M 0,O M 0,O M 0,Y ⟨#[]⟩],O M (a:Int)]))= B0 (A1 #[GH p R,O M (Lg R)]):=by
 subst h;rfl
def I0(s:ByteArray)(c0:s.size<=70000)(p:Nat)(c4:p<s.size)(w:Bc):Bn Ax 132 #[Y s,A9 #[O M 0,O M p,O M 0,O M 0,O M 0,Y ⟨#[]⟩]] w λe bA=>
  e= B0 (A1 #[GH p (gc s (s.size+1) (p+1) []),O M (Lg (gc s (s.size+1) (p+1) []))])/\cg w bA:=by
 have⟨C,bn⟩:=aC (gc s (s.size+1) (p+1) []);rw[bn];have b0:Le s (s.size+1) (p+1) [] C:=⟨bn⟩;go_in;go_wp2;go_loopw [6,7,8,9] (λbf cl d0 d1 wr=>∃(b j i:Nat) (g:List Int),bf= O M b/\fa w.heap.size wr 4 p 0 0 0 ⟨#[]⟩/\fa (w.heap.size+1) wr 0 0 0 0 0 ⟨#[]⟩/\wr.ownsRow (w.heap.size+2) 5 1 cl j (B8 g)/\s.size<b+i/\b<=s.size/\j<=b/\Le s i b g C/\cg w wr/\w.heap.size+2<=wr.heap.size) (λbf _ _ _ _=>s.size-(Ad bf).toNat)
 case atStart=>
  generalize b9:(w.alloc _).alloc _=cr;have⟨x,y,b7,c9⟩:=CD b9;exact⟨p+1,0,s.size+1,[],by go_num,x,y,fs _ _ _ _,by omega,by omega,by omega,b0,b7,by omega⟩
 case round=>
  obtain⟨b,j,i,g,rfl,x,y,z,cI,c7,c1,b1,l,m⟩:=hrel;have⟨cs,ct,cu,cv,cw,cx,cy⟩:=bm x;have⟨z0,L,ad,ak,al,an,d2⟩:=bm y;obtain⟨i,rfl⟩:∃H,i=H+1:=⟨i-1,by omega⟩;have c:=b1.out;unfold gc at c;by_cases bo:b<s.size
  .have ck:=jF bo;have ce:=λw=>dG bo w;have c6:(b:Int)<(s.size:Int):=by omega
   rw[aa (by omega)]at c;have⟨t,cb⟩:=aC (aq s b);rw[cb]at ck ce c;by_cases aK:t=34
   .subst aK;rw[ab rfl]at c;have f:=am c;rcases z.2 with⟨rfl,cc⟩|⟨H,ao,cz,rfl,df⟩
    .have ca:g=[]:=by have:=yo z;rw[cc]at this;exact lD this
     have bD:=am ca;have cf:=yq;go_wp2_with fail;refine aL (v:= A1 #[A9 #[O M 4,O M p,O M ((b:Int)+1),O M 0,O M 0,Y ByteArray.empty],O M (-1)]) (by simp[results,results132,go_sem,z0,L,ad,ak,al,an]) rfl ⟨by have h:=f.out;rw[bD.out]at h;exact GI h,?_⟩
     iterate 8 refine gx ?_ (by simp) _
     exact l
    .have cf:=oD (sE (a:=⟨w.heap.size,2,A5⟩) z (by simp) (O M ((b:Int)+1)));go_wp2_with fail;refine aL (v:= A1 #[A9 #[O M 4,O M p,O M ((b:Int)+1),O M 0,O M 0,Y (fH g)],O M (-1)]) (by simp[results,results132,go_sem,z0,L,ad,ak,al,an]) rfl ⟨GI f,?_⟩
     iterate 8 refine gx ?_ (by simp) _
     exact l
   rw[aa aK]at c;have da:(t==34)=Q:=by simp[aK]
   by_cases a6:t=10
   .subst a6;rw[ab rfl]at c;have f:=am c;go_wp2_with fail;refine aL (v:= A1 #[A9 #[O M 4,O M p,O M 0,O M 0,O M 0,Y ⟨#[]⟩],O M (b:Int)]) (by simp[results,results132,go_sem,z0,L,ad,ak,al,an]) rfl ⟨uL f,?_⟩
    iterate 6 refine gx ?_ (by simp) _
    exact l
   rw[aa a6]at c;have dc:(t==10)=Q:=by simp[a6]
   by_cases a7:t=92
   .subst a7;rw[ab rfl]at c;have k:=λw=>jb s (by omega) ((b:Int)+1) (b+1) (by omega) w;by_cases u:aq s (b+1)=110
    .have q:=aH u;rw[show iG s (b+1)=(10,b+1+1,X) by unfold iG;rw[ab u],ab rfl]at c;rw[tq q,u]at k;have f:Le s i (b+1+1) (g++[10]) C:=⟨c⟩;go_wp2_with (first|(go_at_call 127;refine fC (k _) ?_)|(at_builtin;refine ny rfl (.tmp 51) (.tmp 52) rfl (w.heap.size+2) _ j g rfl z m (by omega) [10] 1 rfl (by decide) (by decide) _ rfl rfl ?_;intro H ao w1 o d));go_roundw
     case rel=>exact⟨b+1+1,j+1,i,g++[10],by go_num,x.below d (by omega),y.below d (by omega),o,by omega,by omega,by omega,f,l.trans (d.mono (by omega)),bG m d.size⟩
     case measure=>simp[Ad];omega
    by_cases E:aq s (b+1)=116
    .have q:=aH E;rw[show iG s (b+1)=(9,b+1+1,X) by unfold iG;rw[aa u,ab E],ab rfl]at c;rw[tq q,E]at k;have f:Le s i (b+1+1) (g++[9]) C:=⟨c⟩;go_wp2_with (first|(go_at_call 127;refine fC (k _) ?_)|(at_builtin;refine ny rfl (.tmp 56) (.tmp 57) rfl (w.heap.size+2) _ j g rfl z m (by omega) [9] 1 rfl (by decide) (by decide) _ rfl rfl ?_;intro H ao w1 o d));go_roundw
     case rel=>exact⟨b+1+1,j+1,i,g++[9],by go_num,x.below d (by omega),y.below d (by omega),o,by omega,by omega,by omega,f,l.trans (d.mono (by omega)),bG m d.size⟩
     case measure=>simp[Ad];omega
    by_cases F:aq s (b+1)=34
    .have q:=aH F;rw[show iG s (b+1)=(34,b+1+1,X) by unfold iG;rw[aa u,aa E,ab (Or.inl F),F],ab rfl]at c;rw[tq q,F]at k;have ba:=λw=>yr q w;rw[F]at ba;have f:Le s i (b+1+1) (g++[34]) C:=⟨c⟩;go_wp2_with (first|(go_at_call 127;refine fC (k _) ?_)|(at_builtin;refine ny rfl (.tmp 62) (.tmp 66) rfl (w.heap.size+2) _ j g rfl z m (by omega) [34] 1 rfl (by decide) (by decide) _ rfl rfl ?_;intro H ao w1 o d));go_roundw
     case rel=>exact⟨b+1+1,j+1,i,g++[34],by go_num,x.below d (by omega),y.below d (by omega),o,by omega,by omega,by omega,f,l.trans (d.mono (by omega)),bG m d.size⟩
     case measure=>simp[Ad];omega
    by_cases G:aq s (b+1)=92
    .have q:=aH G;rw[show iG s (b+1)=(92,b+1+1,X) by unfold iG;rw[aa u,aa E,ab (Or.inr G),G],ab rfl]at c;rw[tq q,G]at k;have ba:=λw=>yr q w;rw[G]at ba;have f:Le s i (b+1+1) (g++[92]) C:=⟨c⟩;go_wp2_with (first|(go_at_call 127;refine fC (k _) ?_)|(at_builtin;refine ny rfl (.tmp 62) (.tmp 66) rfl (w.heap.size+2) _ j g rfl z m (by omega) [92] 1 rfl (by decide) (by decide) _ rfl rfl ?_;intro H ao w1 o d));go_roundw
     case rel=>exact⟨b+1+1,j+1,i,g++[92],by go_num,x.below d (by omega),y.below d (by omega),o,by omega,by omega,by omega,f,l.trans (d.mono (by omega)),bG m d.size⟩
     case measure=>simp[Ad];omega
    by_cases ar:aq s (b+1)=120
    .have q:=aH ar;rw[tq q,ar]at k;have b8:iG s (b+1)=hexI s (b+1+1):=by unfold iG;rw[aa u,aa E,aa (λh=>h.elim F G),ab ar]
     rw[b8]at c;unfold hexI at c;have K:=λw=>jb s (by omega) ((b:Int)+1+1) (b+1+1) (by omega) w;have av:=λw=>jb s (by omega) ((b:Int)+1+2) (b+1+1+1) (by omega) w;have bj:=acq s (b+1+1);have bk:=acq s (b+1+1+1);have n:=λw=>Ab (lk s (b+1+1)) bj.1 bj.2 w;have A:=λw=>Ab (lk s (b+1+1+1)) bk.1 bk.2 w;rw[acu]at n A;have cn:=oA (aq s (b+1+1));have cp:=oA (aq s (b+1+1+1));by_cases J:ic (aq s (b+1+1))<0
     .rw[ab J,aa (by simp)]at c;have f:=am c;generalize lk s (b+1+1)=bh at K n;generalize ic (aq s (b+1+1))=r at n J;go_wp2_with (go_at_call 127;refine fC (k _) ?_);refine qF 3 ?_;rw[jL];go_wp2_with (first|(go_at_call 127;refine fC (K _) ?_)|(go_at_call 199;refine fC (n _) ?_));refine aL (v:= A1 #[A9 #[O M 4,O M p,O M 0,O M 0,O M 0,Y ⟨#[]⟩],O M ((b:Int)+1+1)]) (by simp[results,results132,go_sem,z0,L,ad,ak,al,an]) rfl ⟨uL f,?_⟩
      iterate 6 refine gx ?_ (by simp) _
      exact l
     rw[aa J]at c;have br:0<=ic (aq s (b+1+1)):=by omega
     by_cases ap:ic (aq s (b+1+1+1))<0
     .rw[ab ap,aa (by simp)]at c;have f:=am c;generalize lk s (b+1+1)=bh at K n;generalize ic (aq s (b+1+1))=r at n J br;generalize lk s (b+1+1+1)=b4 at av A;generalize ic (aq s (b+1+1+1))=I at A ap;go_wp2_with (go_at_call 127;refine fC (k _) ?_);refine qF 3 ?_;rw[jL];go_wp2_with (first|(go_at_call 127;refine fC (K _) ?_)|(go_at_call 199;refine fC (n _) ?_));rw[jL];go_wp2_with (first|(go_at_call 127;refine fC (av _) ?_)|(go_at_call 199;refine fC (A _) ?_));refine aL (v:= A1 #[A9 #[O M 4,O M p,O M 0,O M 0,O M 0,Y ⟨#[]⟩],O M ((b:Int)+1+2)]) (by simp[results,results132,go_sem,z0,L,ad,ak,al,an]) rfl ⟨by have h:=uL (p:=p) f.out;rw[show((b+1+1+1:Nat):Int)=(b:Int)+1+2 by omega]at h;exact h,?_⟩
      iterate 6 refine gx ?_ (by simp) _
      exact l
     have a8:b+1+1<s.size:=by
      rcases bg (b+1+1) s.size with h|h
      .exact h
      .rw[dy]at J;exact absurd (by decide) J
     have a9:b+1+1+1<s.size:=by
      rcases bg (b+1+1+1) s.size with h|h
      .exact h
      .rw[dy]at ap;exact absurd (by decide) ap
     have bb:=λw=>dG a8 w;have bd:=λw=>dG a9 w;rw[show((b+1+1:Nat):Int)=(b:Int)+1+1 by omega]at bb;rw[show((b+1+1+1:Nat):Int)=(b:Int)+1+2 by omega]at bd;rw[aa ap,ab rfl]at c;rw[tq a8]at K n;rw[tq a9]at av A;have cd:0<=ic (aq s (b+1+1+1)):=by omega
     have f:Le s i (b+1+1+1+1) (g++[ic (aq s (b+1+1))*16+ic (aq s (b+1+1+1))]) C:=⟨c⟩;have b5:=jF a8;have b6:=jF a9;generalize ic (aq s (b+1+1))=r at n J br cn f;generalize ic (aq s (b+1+1+1))=I at A ap cd cp f;generalize aq s (b+1+1)=bh at K n bb b5;generalize aq s (b+1+1+1)=b4 at av A bd b6;rw[show r*16+I=16*r+I by omega]at f;go_wp2_with (go_at_call 127;refine fC (k _) ?_);refine qF 3 ?_;rw[jL];go_wp2_with (first|(go_at_call 127;refine fC (K _) ?_)|(go_at_call 199;refine fC (n _) ?_));rw[jL];go_wp2_with (first|(go_at_call 127;refine fC (av _) ?_)|(go_at_call 199;refine fC (A _) ?_));rw[jL];go_wp2_with fail;obtain⟨B,bl⟩:∃B:Int,(b:Int)+1=B:=⟨_,rfl⟩;rw[bl]at bb bd⊢;have bE:=am bl;have dg:IntKind.i64.wrap (B+1)=B+1:=CA _ (by omega);have dn:IntKind.i64.wrap (B+2)=B+2:=CA _ (by omega);have dq:IntKind.i64.wrap (16*r)=16*r:=CA _ (by omega);have ds:IntKind.i64.wrap (16*r+I)=16*r+I:=CA _ (by omega);have dx:IntKind.u8.wrap (16*r+I)=16*r+I:=IntWalk.u8_in _ (by omega);have cB:0<=B:=by omega
     have cF:B<=70001:=by omega
     go_region_held3 (λbA=>True) (trivial) ((first|(go_at_call 199;with_reducible refine fC (n _) ?_)|(go_at_call 199;with_reducible refine fC (A _) ?_)|(refine acj (by rfl) _ _ (by rfl) (w.heap.size+2) _ j g (by rfl) z m (by omega) [_] 1 (by rfl) (by decide) (by decide) _ (by rfl) (by rfl) ?_;intro H ao w1 o d)))
     all_goals
      go_wp2_with fail;have c8:=bE.out;exact⟨⟨b+1+1+1+1,j+1,i,g++[16*r+I],by congr 1<;>omega,x.below d (by omega),y.below d (by omega),o,by omega,by omega,by omega,f,l.trans (d.mono (by omega)),bG m d.size⟩,by simp[Ad];omega⟩
    rw[show iG s (b+1)=(0,b+1,Q) by unfold iG;rw[aa u,aa E,aa (λh=>h.elim F G),aa ar],aa (by simp)]at c;have f:=am c;have bs:=uB s (b+1) 110;have bt:=uB s (b+1) 116;have bv:=uB s (b+1) 34;have bw:=uB s (b+1) 92;have bx:=uB s (b+1) 120;rw[az u]at bs;rw[az E]at bt;rw[az F]at bv;rw[az G]at bw;rw[az ar]at bx;generalize lk s (b+1)=cq at k bs bt bv bw bx;go_wp2_with (go_at_call 127;refine fC (k _) ?_);refine aL (v:= A1 #[A9 #[O M 4,O M p,O M 0,O M 0,O M 0,Y ⟨#[]⟩],O M ((b:Int)+1)]) (by simp[results,results132,go_sem,z0,L,ad,ak,al,an]) rfl ⟨uL f,?_⟩
    iterate 6 refine gx ?_ (by simp) _
    exact l
   rw[aa a7]at c;have dd:(t==92)=Q:=by simp[a7]
   have f:Le s i (b+1) (g++[t]) C:=⟨c⟩;go_wp2_with (at_builtin;refine ny rfl (.tmp 36) (.tmp 38) rfl (w.heap.size+2) _ j g rfl z m (by omega) [t] 1 rfl (by decide) (by decide) _ rfl rfl ?_;intro H ao w1 o d);go_roundw
   case rel=>exact⟨b+1,j+1,i,g++[t],by go_num,x.below d (by omega),y.below d (by omega),o,by omega,by omega,by omega,f,l.trans (d.mono (by omega)),bG m d.size⟩
   case measure=>simp[Ad];omega
  .rw[ab (by omega)]at c;have f:=am c;obtain rfl:b=s.size:=by omega
   go_wp2_with fail;refine aL (v:= A1 #[A9 #[O M 4,O M p,O M 0,O M 0,O M 0,Y ⟨#[]⟩],O M (s.size:Int)]) (by simp[results,results132,go_sem,z0,L,ad,ak,al,an]) rfl ⟨uL f,?_⟩
   iterate 6 refine gx ?_ (by simp) _
   exact l
def akJ(s x:ByteArray)(p:Nat)(f:p<=s.size):Ak (s.extract p s.size).data.toList x.data.toList=decide (p+x.size<=s.size/\((s.extract p (p+x.size)).toList==x.toList)=X):=by
 have e:s.data.toList.length=s.size:=fK;have b:x.data.toList.length=x.size:=fK;have c:(s.extract p s.size).data.toList=s.data.toList.drop p:=by
  rw[<-gH,Lib.extract_toList,dl];rw[ir,fK];exact ag _
 have d:(s.extract p (p+x.size)).toList=(s.data.toList.drop p).take x.size:=by
  rw[Lib.extract_toList];congr 1;omega
 rw[c,d,gH x];unfold Ak;rw[vE,yd,py,List.prefix_iff_eq_take,b,jD];constructor
 .intro a;refine⟨?_,a.symm⟩;have:=congrArg List.length a;rw[gJ,ir,e,b]at this;omega
 .exact λa=>a.2.symm
def afd(s:ByteArray)(d:s.size<=70000)(p:Nat)(b:p<s.size)(a:aq s p=10)(w:Bc):Bn Ax 69 #[Y s,O M p] w (jf w (A1 #[A9 #[O M 7,O M p,O M ((p:Int)+1),O M 0,O M 0,Y ⟨#[]⟩],O M (-1)])):=by
 have c:=λw=>dG b w;rw[a]at c;have e:(p:Int)<(s.size:Int):=by omega
 go_in;go_wp2;refine aL (v:= A1 #[A9 #[O M 7,O M p,O M ((p:Int)+1),O M 0,O M 0,Y ⟨#[]⟩],O M (-1)]) (by simp[results,results69,go_sem]) rfl ⟨rfl,?_⟩;exact((ah _ w).alloc (ag _) _).alloc (by simp) _
def ahx(p:Nat)(R:Bool×Nat×List Int):∃(t:Int) (x:ByteArray),GH p R= A9 #[O M 4,O M p,O M t,O M 0,O M 0,Y x]:=by
 unfold GH;split<;>exact⟨_,_,rfl⟩
def abi(s:ByteArray)(x:s.size<=70000)(p:Nat)(l:p<s.size)(u:aq s p=34)(w:Bc):Bn Ax 69 #[Y s,O M p] w (jf w (A1 #[GH p (gc s (s.size+1) (p+1) []),O M (Lg (gc s (s.size+1) (p+1) []))])):=by
 have m:=λw=>dG l w;have o:=λw=>xu (c:=34) (b:=Q) (by decide) w;have n:=λw=>gh (c:=34) (b:=Q) (by decide) w;have a:=λw=>I0 s x p l w;generalize gc s (s.size+1) (p+1) []=e at a;have⟨z,B,h⟩:=ahx p e;rw[h]at a⊢;generalize Lg e=q at a;rw[u]at m;clear h;go_in;go_wp2_with (first|(go_at_call 128;refine fC (o _) ?_)|(go_at_call 130;refine fC (n _) ?_));generalize i:(w.alloc _).alloc _=r;obtain⟨f, -,g,y⟩:=CD i;have j:fa w.heap.size r 0 0 0 0 0 ⟨#[]⟩:=f;clear i f;refine dt (a _) λA d=>?_;have k:=j.below d (by omega);have t:=g.trans (d.mono (by omega));clear d j g y a o n m;have⟨z0,C,E,F,G,H,J⟩:=bm k;have I:w.heap.size<A.heap.size:=ai k;go_wp2;refine aL (v:= A1 #[A9 #[O M 4,O M p,O M z,O M 0,O M 0,Y B],O M q]) (by simp[results,results69,go_sem,z0,C,E,F,G,H]) rfl ⟨rfl,?_⟩
 iterate 6 refine gx ?_ (by simp) _
 exact t
structure adb (q:ByteArray->Bool) (f k:Nat) (R:Option Nat):Prop where
 out:AF q f k=R
def aq6(p:Nat)(R:Option Nat):A2:=match R with
 |some j=> A1 #[A9 #[O M (BG (ch pd j)),O M p,O M ((p:Int)+((ch pd j).size:Int)),O M 0,O M 0,Y ⟨#[]⟩],O M (-1)]
 |none=> A1 #[A9 #[O M 0,O M p,O M 0,O M 0,O M 0,Y ⟨#[]⟩],O M p]
def aor:∀k:Fin 30,(ch pd k.val).size<=3:=by decide
def abj(s:ByteArray)(bx:s.size<=70000)(p:Nat)(a2:p<s.size)(H:¬aq s p=10)(ad:bI (aq s p)=Q)(K:cm (aq s p)=Q)(I:¬aq s p=34)(w:Bc):
  Bn Ax 69 #[Y s,O M p] w (jf w (aq6 p (AF (λx=>Ak (s.extract p s.size).data.toList x.data.toList) 30 0))):=by
 have ap:=λw=>dG a2 w;have F:(aq s p==10)=Q:=by rw[du];exact H
 have G:(aq s p==34)=Q:=by rw[du];exact I
 have E:=λw=>xu ad w;have C:=λw=>gh K w;have bA:(p:Int)<(s.size:Int):=by omega
 generalize aq s p=bh at ap F G E C;obtain⟨c,z⟩:∃c:ByteArray->Bool,(λx=>Ak (s.extract p s.size).data.toList x.data.toList)=c:=⟨_,rfl⟩;have ak:∀x,c x=decide (p+x.size<=s.size/\((s.extract p (p+x.size)).toList==x.toList)=X):=λx=>by rw[<-z];exact akJ s x p (by omega)
 rw[z];have⟨m,u⟩:=aC (AF c 30 0);rw[u];have o:adb c 30 0 m:=⟨u⟩;have ar:=am ak;clear u z ak H ad K I;go_in;go_wp2_with (first|(go_at_call 128;refine fC (E _) ?_)|(go_at_call 130;refine fC (C _) ?_));generalize J:(w.alloc _).alloc _=f;obtain⟨i,h,r, -⟩:=CD J;replace i:fa w.heap.size f 0 0 0 0 0 ⟨#[]⟩:=i;replace h:fa (w.heap.size+1) f 0 p 0 0 0 ⟨#[]⟩:=h;clear J;refine dt (Ba f) λe k=>?_;have q:fa (w.heap.size+1) e 0 p 0 0 0 ⟨#[]⟩:=by rw[k];exact(eI _ _ _ (ai h)).trans h
 have y:fa w.heap.size e 0 0 0 0 0 ⟨#[]⟩:=by rw[k];exact(eI _ _ _ (ai i)).trans i
 have t:cg w e:=by rw[k];exact r.alloc r.size _
 have aK:e.heap[f.heap.size]?=U (Br pd 9 (0,0)):=by rw[k];exact aA f _
 clear k h i r E C ap F G;go_wp2_with fail;have⟨b1,b2,b3,b4,b5,b6,b7⟩:=bm q;have⟨z0,a9,ba,bb,bd,bf,ca⟩:=bm y;have an:w.heap.size<e.heap.size:=ai y;have ao:w.heap.size+1<e.heap.size:=ai q;go_loop [45,9] (λB _=>∃a:Nat,a<=30/\B= O M a/\adb c (30-a) a m) (λB _=>30-(Ad B).toNat)
 case atStart=>exact⟨0,by omega,rfl,o⟩
 case round=>
  obtain⟨a,bw,rfl,l⟩:=hrel;by_cases af:a<30
  .have a0:e.cell? ⟨f.heap.size,a,A5⟩=U (Y (ch pd a)):=by rw[aj _ _ _ _ _ _ aK];exact af0 ⟨a,af⟩
   have b:=l.out;rw[show 30-a=(30-(a+1))+1 by omega,AF,ar.out]at b;have al:=aor ⟨a,af⟩;simp only at al;have⟨x,A⟩:=aC (ch pd a);rw[A]at a0 b al;have av:=am A;clear A l o;by_cases L:p+x.size<=s.size
   .have a1:(x.size:Int)<=(s.size:Int)-(p:Int):=by omega
    have bv:(p:Int)+(x.size:Int)<=(s.size:Int):=by omega
    by_cases n:((s.extract p (p+x.size)).toList==x.toList)=X
    .rw[ab (be ⟨L,n⟩)]at b;have d:=am b;clear b;go_wp2_with (go_at_call 134;refine(xl x _).mono ?_;rintro bt b8 ⟨rfl,j⟩;obtain⟨bj,bk,bl,bn,bo,br,bs⟩:=bm (q.below j ao);obtain⟨a3,a4,a5,a6,a7,a8,b9⟩:=bm (y.below j an);have bE:=iB an j.size;have b0:=iB ao j.size);refine aL (v:= A1 #[A9 #[O M (BG x),O M p,O M ((p:Int)+(x.size:Int)),O M 0,O M 0,Y ⟨#[]⟩],O M (-1)]) (by simp[results,results69,go_sem,a3,a4,a5,a6,a7,a8]) rfl ⟨by rw[<-d.out];have g:=av.out;subst g;rfl,?_⟩
     iterate 8 refine gx ?_ (by simp) _
     exact t.trans (j.mono t.size)
    .have bD:((s.extract p (p+x.size)).toList==x.toList)=Q:=by simpa using n
     rw[aa (λg=>n (aB g).2)]at b;have d:adb c (30-(a+1)) (a+1) m:=⟨b⟩;clear b n;go_wp2;go_round
     case rel=>exact⟨a+1,by omega,by go_num,d⟩
     case measure=>simp[Ad];omega
   .have a1:¬(x.size:Int)<=(s.size:Int)-(p:Int):=by omega
    rw[aa (λg=>L (aB g).1)]at b;have d:adb c (30-(a+1)) (a+1) m:=⟨b⟩;clear b;go_wp2;go_round
    case rel=>exact⟨a+1,by omega,by go_num,d⟩
    case measure=>simp[Ad];omega
  .obtain rfl:a=30:=by omega
   have d:=am l.out;clear l o;go_wp2_with fail;refine aL (v:= A1 #[A9 #[O M 0,O M p,O M 0,O M 0,O M 0,Y ⟨#[]⟩],O M (p:Int)]) (by simp[results,results69,go_sem,z0,a9,ba,bb,bd,bf]) rfl ⟨by rw[<-d.out];rfl,?_⟩
   iterate 6 refine gx ?_ (by simp) _
   exact t
structure asz (R:Rd) (k t n:Int) (x:ByteArray) (bad:Int):Prop where
 yes:R.ok=X->bad= -1/\k=R.k/\t=(R.a:Int)/\n=R.n/\x=R.x/\R.d=(if R.k=7 then 1 else 0)
 no:R.ok=Q->bad=(R.a:Int)
def amx(s:ByteArray)(p:Nat):(C0 s p).1≠7:=by
 unfold C0;split
 .simp only;omega
 .simp
def amy(s:ByteArray)(p:Nat):(ue s p).1≠7:=by
 unfold ue;split
 .simp
 .split<;>simp
def abk(s:ByteArray)(q:s.size<=70000)(p:Nat)(f:p<s.size)(w:Bc):
  Bn Ax 69 #[Y s,O M p] w λe c=>∃k t n x r,e= B0 (A1 #[A9 #[O M k,O M p,O M t,O M 0,O M n,Y x],O M r])/\asz (db s p) k t n x r/\cg w c:=by
 unfold db;by_cases j:bI (aq s p)=X
 .rw[ab j];refine dt (Bf s (by omega) p f j w) λc b=>?_;rw[aqF];exact⟨_,_,_,_,_,rfl,⟨λ_=>⟨rfl,rfl,rfl,rfl,rfl,by simp only;rw[aa (amx s p)]⟩,λa=>by cases a⟩,b⟩
 rw[aa j];by_cases i:cm (aq s p)=X
 .rw[ab i];refine dt (DF s (by omega) p f i w) λc b=>?_;cases hok:(dF s p).2 with
  |true=>
   have⟨d,o⟩:=an4 s p hok;rw[d,o,ab rfl];exact⟨_,_,_,_,_,rfl,⟨λ_=>⟨rfl,rfl,rfl,rfl,rfl,by simp only;rw[aa (amy s p)]⟩,λa=>by cases a⟩,b⟩
  |false=>
   have⟨k,t,n,x,d⟩:=acw s p;rw[d,ag1 s p hok,aa (by simp)];exact⟨_,_,_,_,_,rfl,⟨λa=>by(try simp at a),λa=>rfl⟩,b⟩
 rw[aa i];by_cases h:aq s p=34
 .rw[ab h];refine dt (abi s q p f h w) λc b=>?_;generalize gc s (s.size+1) (p+1) []=m;obtain⟨A,B,C⟩:=m;cases A with
  |true=>exact⟨_,_,_,_,_,rfl,⟨λ_=>⟨rfl,rfl,rfl,rfl,rfl,rfl⟩,λa=>by cases a⟩,b⟩
  |false=>exact⟨_,_,_,_,_,rfl,⟨λa=>(by cases a),λa=>rfl⟩,b⟩
 rw[aa h];have u:aq (s.extract p s.size) 0=aq s p:=ga s p s.size 0 (ag _);by_cases g:aq s p=10
 .have y:pc (s.extract p s.size)=7:=by unfold pc;rw[u,g];rfl
  rw[y,aa (by decide)];refine dt (afd s q p f g w) λc b=>?_;exact⟨_,_,_,_,_,rfl,⟨λ_=>⟨rfl,rfl,rfl,rfl,rfl,rfl⟩,λa=>by cases a⟩,b⟩
 .have l:=akI (s.extract p s.size) (by rw[u];exact g);unfold abh at l;refine dt (abj s q p f g (by simpa using j) (by simpa using i) h w) λc b=>?_;generalize AF (λx=>Ak (s.extract p s.size).data.toList x.data.toList) 30 0=m at l;cases m with
  |none=>
   rw[show pc (s.extract p s.size)=0 from l,ab rfl];exact⟨_,_,_,_,_,rfl,⟨λa=>(by cases a),λa=>rfl⟩,b⟩
  |some z=>
   obtain⟨d,o,v,E⟩:=(show _/\_/\_/\_ from l);rw[aa v];refine⟨_,_,_,_,_,rfl,⟨λ_=>⟨rfl,d.symm,?_,rfl,rfl,rfl⟩,λa=>by cases a⟩,b⟩;show(p:Int)+((ch pd z).size:Int)=((p+(dK (pc (s.extract p s.size))).size:Nat):Int);rw[o];omega
structure aos (s:ByteArray) (f k e:Nat):Prop where
 out:ix JB s f k=e
structure adc (s:ByteArray) (f k e:Nat):Prop where
 out:blk s f k=e
def zm(s:ByteArray)(ar:s.size<=1100000)(p:Nat)(av:p<=s.size)(w:Bc):Bn Ax 68 #[Y s,O M p] w (jt w (O M (blk s (s.size+1) p))):=by
 have⟨t,A⟩:=aC (blk s (s.size+1) p);rw[A];have af:adc s (s.size+1) p t:=⟨A⟩;clear A;go_in;go_wp2;go_loop [1,5] (λj a0=>∃(a d:Nat),a<=s.size/\s.size<a+d/\j= O M a/\adc s d a t) (λj _=>s.size-(Ad j).toNat)
 case atStart=>exact⟨p,s.size+1,av,by omega,rfl,af⟩
 case round=>
  obtain⟨a,d,H,a1,rfl,o⟩:=hrel;obtain⟨d,rfl⟩:∃f,d=f+1:=⟨d-1,by omega⟩;have b:=o.out;rw[blk]at b;by_cases J:a<s.size
  .have a5:(a:Int)<(s.size:Int):=by omega
   rw[aa (by omega)]at b;have q:=λw=>dG J w;have u:=jF J;by_cases h:ja (aq s a)=X
   .rw[ab h]at b;have e:adc s d (a+1) t:=⟨b⟩;have m:aq s a=32\/aq s a=9\/aq s a=13:=aB h;generalize aq s a=F at q m u;clear b o h;rcases m with rfl|rfl|rfl;all_goals
     go_wp2;go_round
     case rel=>exact⟨a+1,d,by omega,by omega,by go_num,e⟩
     case measure=>simp[Ad];omega
   .rw[aa h]at b;have m:¬(aq s a=32\/aq s a=9\/aq s a=13):=λz=>h (be z);have v:(aq s a==32)=Q:=by rw[du];omega
    have x:(aq s a==9)=Q:=by rw[du];omega
    have y:(aq s a==13)=Q:=by rw[du];omega
    have r:=λw=>jb s ar ((a:Int)+1) (a+1) (by omega) w;have n:=uB s (a+1) 45;by_cases g:aq s a=45/\aq s (a+1)=45
    .rw[ab g]at b;have e:adc s d (xL s a) t:=⟨b⟩;rw[g.2]at n;have I:lk s (a+1)=45:=by simpa using n
     have ao:=rh s a g.1;have ap:=xB s a H;rw[g.1]at q;rw[I]at r;have C:aos s (s.size+1) a (xL s a):=⟨rfl⟩;generalize xL s a=E at e ao ap C;clear b o h m v x y n I g u;go_wp2_with (go_at_call 127;refine fC (r _) ?_);go_loop [1] (λj=>∃(c f:Nat),c<=s.size/\s.size<c+f/\j= O M c/\aos s f c E) (λj=>s.size-(Ad j).toNat)
     case atStart=>exact⟨a,s.size+1,H,by omega,rfl,C⟩
     case round=>
      obtain⟨c,f,a3,a2,rfl,B⟩:=hrel;obtain⟨f,rfl⟩:∃aK,f=aK+1:=⟨f-1,by omega⟩;have b:=B.out;rw[ix]at b;clear q B;by_cases G:c<s.size
      .have a4:(c:Int)<(s.size:Int):=by omega
       have L:=λw=>dG G w;have ad:=jF G;by_cases k:aq s c=10
       .rw[aa (by rw[k];decide)]at b;rw[k]at L;have i:=am b;clear b k ad;go_wp2;go_round
        case rel=>exact⟨c,d,by omega,by have:=i.out;omega,by go_num,by rw[i.out];exact e⟩
        case measure=>have:=i.out;simp[Ad];omega
       .rw[ab (by unfold JB;rw[py];exact⟨k,by omega⟩)]at b;have i:aos s f (c+1) E:=⟨b⟩;have ak:(aq s c==10)=Q:=by rw[du];exact k
        generalize aq s c=F at L ak;clear b k ad;go_wp2;go_round
        case rel=>exact⟨c+1,f,by omega,by omega,by go_num,i⟩
        case measure=>simp[Ad];omega
      .obtain rfl:c=s.size:=by omega
       rw[aa (by rw[dy (CC _)];decide)]at b;have i:=am b;clear b;go_wp2;go_round
       case rel=>exact⟨s.size,d,by omega,by omega,by go_num,by rw[i.out];exact e⟩
       case measure=>simp[Ad];omega
    .rw[aa g]at b;have e:=am b;clear b o;by_cases l:aq s a=45
     .have K:aq s (a+1)≠45:=λz=>g ⟨l,z⟩;rw[az K]at n;rw[l]at q;generalize lk s (a+1)=a6 at r n;clear h m v x y g u K l;go_wp2_with (go_at_call 127;refine fC (r _) ?_);go_ret;exact⟨by rw[<-e.out];rfl,rfl⟩
     .have al:(aq s a==45)=Q:=by rw[du];exact l
      have an:(aq s a !=45)=X:=by rw[yl];exact l
      generalize aq s a=F at q v x y al an;clear h m g u l r n;go_wp2;go_ret;exact⟨by rw[<-e.out];rfl,rfl⟩
  .obtain rfl:a=s.size:=by omega
   rw[ab (ag _)]at b;have e:=am b;clear b o;go_wp2;go_ret;exact⟨by rw[<-e.out];rfl,rfl⟩
def akK(s:ByteArray)(p:Nat):Int:=if cm (aq s p)=X then(if aq s p=48/\aq s (p+1)=120 then 2 else 3) else if aq s p=34 then 4 else 0
def ya(s:ByteArray)(p:Nat):Int:=if(db s p).ok=X then(db s p).k else akK s p
def ahy(V:Array A2)(s:ByteArray):∀(f k j:Nat),vK V s f k=U j->j<k+f
 |0,k,j,h=>by simp[vK]at h
 |f+1,k,j,h=>by
  rw[vK]at h;split at h
  .obtain rfl:=aJ h;omega
  .have:=ahy V s f (k+1) j h;omega
def ade(s:ByteArray)(p:Nat)(h:(db s p).ok=X):1<=(db s p).k/\(db s p).k<=78:=by
 unfold db at h⊢;split
 .simp only;unfold C0;cases hf:vK fD (s.extract p (qC s (s.size+1) p)) 22 0 with
  |none=>simp
  |some k=>have:=ahy _ _ _ _ _ hf;simp only;omega
 split
 .split
  .simp only;unfold ue;split
   .simp
   .split<;>simp
  .rename_i a b c;rw[aa a,ab b,aa c]at h;cases h
 split
 .split
  .simp
  .rename_i a b c d;rw[aa a,aa b,ab c,aa d]at h;cases h
 split
 .rename_i a b c d;rw[aa a,aa b,aa c,ab d]at h;cases h
 .rename_i a b c d;have:=ag3 (s.extract p s.size);simp only;omega
def akL(s:ByteArray)(p:Nat):0<=akK s p/\akK s p<=4:=by
 unfold akK;split
 .split<;>omega
 .split<;>omega
def Lh(st:List Int)(k:Int):List Int×Bool:=if 0<k then dm st k else(st,Q)
def sD(s:ByteArray):Nat->List Int->Nat->Int->List Tk->List Tk×List Int×Int
 |0,st,_,_,_=>([],st,0)
 |f+1,st,p,l,b=>
  if s.size<=p then(b++[⟨6,(s.size:Nat),(s.size:Nat),l,0,⟨#[]⟩⟩],st, -1)
  else if ya s p=7 then
   (if(dm st 5).2=X then sD s f (dm st 5).1 (blk s (s.size+1) (db s p).a) (l+1) (b++[⟨5,(p:Nat),((db s p).a:Nat),l,(db s p).n,(db s p).x⟩]) else sD s f st (blk s (s.size+1) (db s p).a) (l+1) b)
  else if(Lh st (ya s p)).2=X then
   (if(db s p).ok=X then sD s f (dm st (ya s p)).1 (blk s (s.size+1) (db s p).a) l (b++[⟨ya s p,(p:Nat),((db s p).a:Nat),l,(db s p).n,(db s p).x⟩]) else([],st,((db s p).a:Nat)))
  else([],st,(an2 s p (asp st):Nat))
def mj(s:ByteArray):List Tk×List Int×Int:=sD s (s.size+1) [100,6] (blk s (s.size+1) 0) 1 []
structure asA (s:ByteArray) (f:Nat) (st:List Int) (p:Nat) (l:Int) (out:List Tk) (R:List Tk×List Int×Int):Prop where
 out:sD s f st p l out=R
def ak0(s:ByteArray)(p:Nat)(h:ya s p=7):(db s p).ok=X/\(db s p).k=7:=by
 unfold ya at h;split at h
 .rename_i a;exact⟨a,h⟩
 .have:=akL s p;omega
inductive Fd:List Int->List Tk->List Int->Prop where
 |nil {st:List Int}:Fd st [] st
 |cons {st:List Int}{T:Tk}{ts:List Tk}{st':List Int}:1<=T.k->T.k<=78->T.k≠6->(dm st T.k).2=true->Fd (dm st T.k).1 ts st'->Fd st (T::ts) st'
def abl(V:Array A2)(base:Int)(r:ByteArray)(b:40<=base):∀(f i:Nat)(a:Int×Nat),a.1≠6->(xA V base r f i a).1≠6
 |0,i,a,h=>h
 |f+1,i,a,h=>by
  unfold xA;refine abl V base r b f (i+1) _ ?_;split
  .show base+(i:Int)≠6;omega
  .exact h
def adf(s:ByteArray)(p:Nat)(h:(db s p).ok=X):ya s p≠6:=by
 unfold ya;rw[ab h];unfold db at h⊢;split
 .simp only;unfold C0;cases hf:vK fD (s.extract p (qC s (s.size+1) p)) 22 0 with
  |none=>simp
  |some e=>simp only;omega
 split
 .split
  .simp only;unfold ue;split
   .simp
   .split<;>simp
  .rename_i a b c;rw[aa a,ab b,aa c]at h;cases h
 split
 .split
  .simp
  .rename_i a b c d;rw[aa a,aa b,ab c,aa d]at h;cases h
 split
 .rename_i a b c d;rw[aa a,aa b,aa c,ab d]at h;cases h
 .simp only;unfold pc;split
  .omega
  split
  .omega
  .exact abl _ _ _ (by omega) _ _ _ (abl _ _ _ (by omega) _ _ _ (by simp))
def I1(s:ByteArray):∀(f:Nat)(st:List Int)(p:Nat)(l:Int)(i:List Tk)(b:List Tk)(c:List Int),sD s f st p l i=(b,c, -1)->∃ts d,b=i++ts++[⟨6,(s.size:Nat),(s.size:Nat),d,0,⟨#[]⟩⟩]/\Fd st ts c
 |0,st,p,l,i,b,c,h=>by simp[sD]at h
 |f+1,st,p,l,i,b,c,h=>by
  rw[sD]at h;split at h
  .simp only[jo]at h;exact⟨[],l,by rw[dk];exact h.1.symm,by rw[<-h.2.1];exact .nil⟩
  split at h
  .split at h
   .rename_i g;obtain⟨ts,d,e,j⟩:=I1 s f _ _ _ _ b c h;exact⟨⟨5,(p:Nat),((db s p).a:Nat),l,(db s p).n,(db s p).x⟩::ts,d,by rw[e];simp,.cons (by show(1:Int)<=5;omega) (by show(5:Int)<=78;omega) (by show(5:Int)≠6;omega) g j⟩
   .exact I1 s f _ _ _ _ b c h
  split at h
  .rename_i o g;split at h
   .rename_i m;have⟨r,t⟩:=ade s p m;have q:ya s p=(db s p).k:=by unfold ya;rw[ab m]
    rw[show Lh st (ya s p)=dm st (ya s p) by unfold Lh;rw[ab (by omega)]]at g;obtain⟨ts,d,e,j⟩:=I1 s f _ _ _ _ b c h;exact⟨⟨ya s p,(p:Nat),((db s p).a:Nat),l,(db s p).n,(db s p).x⟩::ts,d,by rw[e];simp,.cons (by show 1<=ya s p;omega) (by show ya s p<=78;omega) (adf s p m) g j⟩
   .simp only[jo]at h;omega
  .simp only[jo]at h;omega
def aq7{ts:List Tk}{st e:List Int}(h:Fd st ts e):∀{T:Tk},T∈ts->1<=T.k/\T.k<=78/\T.k≠6:=by
 induction h with
 |nil=>intro T hT;cases hT
 |cons a b c f g d=>
  intro T hT;rcases List.mem_cons.1 hT with rfl|hT
  .exact⟨a,b,c⟩
  .exact d hT
def zTk:Tk:=⟨0,0,0,0,0,⟨#[]⟩⟩
def rj(ts:List Tk)(q:Nat):Tk:=ts.getD q zTk
def rC{ts:List Tk}{q:Nat}{T:Tk}(h:ts[q]?=U T):rj ts q=T:=by unfold rj;rw[aF,h];rfl
def C8(ns:List Nd)(N:Nd):Nat->Nat->Bool
 |0,_=>X
 |f+1,j=>ud (fl ns N j)&&C8 ns N f (j+1)
structure aot (ns:List Nd) (N:Nd) (f j:Nat) (R:Bool):Prop where
 out:C8 ns N f j=R
def ak1{K:A2}{vn vk:A2}(A:NArg w K ns N vn vk)(B:N.k=5):
  Bn Ax 78 #[A9 #[K],jI N vn vk] w (jf w (B2 (bu N Q X Q Q&&(decide (1<=N.n/\N.n<(N.ks.length:Int))&&(C8 ns N N.n.toNat 0&&lj ns N (N.ks.length-N.n.toNat) N.n.toNat))))):=by
 obtain⟨al,ar,rfl⟩:=A.t.form;obtain⟨an,av,rfl⟩:=A.n.form;obtain⟨ao,aK,rfl⟩:=A.k.form;have b:=St.start A;have a7:=A.l2;clear A;have ba:=kqf B;have bb:=kqt B 5 rfl;clear B;unfold jI;cases t0:bu N Q X Q Q with
 |false=>
  go_in;go_wp2_with (first|(go_at_call 154;refine b.bare λz b=>?_;obtain⟨g,h,i,j,l,m,o,p,q,r⟩:=bK b.bn;have s:=b.bt));go_ret;exact⟨rfl,b.bel⟩
 |true=>
  by_cases a4:N.n<1
  .rw[az (by omega)];go_in;go_wp2_with (first|(go_at_call 154;refine b.bare λz b=>?_;obtain⟨g,h,i,j,l,m,o,p,q,r⟩:=bK b.bn;have s:=b.bt));go_ret;exact⟨rfl,b.bel⟩
  by_cases a5:(N.ks.length:Int)<=N.n
  .rw[az (by omega)];go_in;go_wp2_with (first|(go_at_call 154;refine b.bare λz b=>?_;obtain⟨g,h,i,j,l,m,o,p,q,r⟩:=bK b.bn;have s:=b.bt));go_ret;exact⟨rfl,b.bel⟩
  rw[be (by omega)];obtain⟨d,I⟩:∃d:Nat,N.n=(d:Int):=⟨N.n.toNat,by omega⟩;have J:N.n.toNat=d:=by omega
  rw[J];have a9:d<N.ks.length:=by omega
  have af:=am I;have⟨y,C⟩:=aC (C8 ns N d 0);rw[C];have ak:aot ns N d 0 y:=⟨C⟩;clear C I J;go_in;go_wp2_with (first|(go_at_call 154;refine b.bare λz b=>?_;obtain⟨g,h,i,j,l,m,o,p,q,r⟩:=bK b.bn;have s:=b.bt));go_loopw [7] (λG wr=>∃(c:Nat),G= O M c/\c<=d/\aot ns N (d-c) c y/\St w (Z al ns.length ar) ns N (Z an N.nm.length av) (Z ao N.ks.length aK) wr) (λG _=>d-(Ad G).toNat)
  case atStart=>exact⟨0,rfl,by omega,ak,b⟩
  case round=>
   clear b;obtain⟨c,rfl,a6,ad,b⟩:=hrel;have⟨bd,bf,bh,bj,bk,bl,bo,br,bs,bv⟩:=bK b.bn;have bw:=b.bt;have e:=ad.out;have E:=af.out;by_cases a8:c<d
   .rw[show d-c=(d-(c+1))+1 by omega,C8]at e;have a0:(c:Int)<N.n:=by omega
    have x:=rf b.a c (by omega);unfold jI at x;have v:=λw=>Hz (fl ns N c) w;clear E;generalize fl ns N c=ap at e x v;cases hx:ud ap with
    |false=>
     rw[hx,fE]at e;rw[hx]at v;have u:=am e;clear e hx;go_wp2_with (first|(go_at_call 153;refine x.mono ?_;rintro H L ⟨rfl,f⟩;replace b:=b.below f;clear f;obtain⟨g,h,i,j,l,m,o,p,q,r⟩:=bK b.bn;have s:=b.bt)|(go_at_call 157;refine fC (v _) ?_));go_ret;exact⟨by rw[<-u.out];rfl,b.bel⟩
    |true=>
     rw[hx,gI]at e;rw[hx]at v;have u:aot ns N (d-(c+1)) (c+1) y:=⟨e⟩;clear e hx;go_wp2_with (first|(go_at_call 153;refine x.mono ?_;rintro H L ⟨rfl,f⟩;replace b:=b.below f;clear f;obtain⟨g,h,i,j,l,m,o,p,q,r⟩:=bK b.bn;have s:=b.bt)|(go_at_call 157;refine fC (v _) ?_));exact⟨⟨c+1,by go_num,by omega,u,b⟩,by simp[Ad];omega⟩
   .rw[show d-c=0 by omega,C8]at e;have u:=am e;have a0:¬(c:Int)<N.n:=by omega
    have F:=mK _ _ ns N _ _ d N.ks.length b.a.t b.a.n b.a.k b.a.ok (ag _) b.a.ln b.a.l2;unfold jI at F;rw[<-E]at F;clear e E;go_wp2_with (go_at_call 156;refine F.mono ?_;rintro H L ⟨rfl,f⟩;replace b:=b.below f;clear f;obtain⟨g,h,i,j,l,m,o,p,q,r⟩:=bK b.bn;have s:=b.bt);go_ret;exact⟨by rw[<-u.out];rfl,b.bel⟩
def stB(ns:List Nd)(N:Nd):Bool:=
 if N.k=1 then(C7 ns N N.ks.length 0&&bu N Q Q Q Q)
 else if N.k=2 then(bu N Q Q Q X&&fy N 1 200&&lj ns N N.ks.length 0)
 else if N.k=3 then(bu N Q Q Q X&&fy N 1 1&&((N.ks.length:Int)==1)&&lj ns N 1 0)
 else if N.k=4 then(bu N Q Q Q X&&fy N 1 1&&((N.ks.length:Int)==1)&&(fl ns N 0==36))
 else if N.k=5 then(bu N Q X Q Q&&(decide (1<=N.n/\N.n<(N.ks.length:Int))&&(C8 ns N N.n.toNat 0&&lj ns N (N.ks.length-N.n.toNat) N.n.toNat)))
 else if N.k=6 then(bu N Q Q Q Q&&((N.ks.length:Int)==1)&&(fl ns N 0==34))
 else if N.k=7 then(bu N Q Q Q Q&&(decide (2<=N.ks.length/\N.ks.length<=3)&&(lj ns N 1 0&&(!(fl ns N 1 !=1)&&((N.ks.length:Int)==2||(fl ns N 2==1||fl ns N 2==7))))))
 else if N.k=8 then(bu N Q Q Q Q&&((N.ks.length:Int)==2)&&lj ns N 1 0&&(fl ns N 1==1))
 else if N.k=9 then(bu N Q Q Q X&&(fy N 1 1&&(((N.ks.length:Int)==3||(N.ks.length:Int)==4)&&(lj ns N (N.ks.length-1) 0&&(fl ns N (N.ks.length-1)==1)))))
 else if N.k=10 then(bu N Q Q Q X&&fy N 1 200&&((N.ks.length:Int)==2)&&lj ns N 1 0&&(fl ns N 1==1))
 else if N.k=11 then(bu N Q Q Q Q&&((N.ks.length:Int)==0))
 else if N.k=12 then(bu N Q Q Q Q&&((N.ks.length:Int)==0))
 else if N.k=13 then(bu N Q Q Q Q&&lj ns N N.ks.length 0)
 else if N.k=14 then(bu N Q Q Q X&&fy N 1 2&&((N.ks.length:Int)==2)&&(fl ns N 0==1)&&(fl ns N 1==1))
 else if N.k=15 then(bu N Q Q Q Q&&((N.ks.length:Int)==1)&&lj ns N 1 0)
 else if N.k=16 then(bu N Q Q Q Q&&((N.ks.length:Int)==1)&&(fl ns N 0==34))
 else Q
def aou{v:A2}{vn vk:A2}(A:NArg w v ns N vn vk)(hK:N.k=3\/N.k=8\/N.k=11\/N.k=12\/N.k=2\/N.k=4\/N.k=6\/N.k=16\/N.k=10\/N.k=13\/N.k=14\/N.k=15):
  Bn Ax 78 #[A9 #[v],jI N vn vk] w (jf w (B2 (stB ns N))):=by
 obtain⟨z,E,rfl⟩:=A.t.form;obtain⟨B,F,rfl⟩:=A.n.form;obtain⟨C,G,rfl⟩:=A.k.form;have a:=St.start A;have y:Bk (N.x.size<=1100000):=bG A.lx (by decide);clear A;rcases hK with hK|hK|hK|hK|hK|hK|hK|hK|hK|hK|hK|hK;all_goals
  unfold stB;simp only[hK,reduceIte,Int.reduceEq];have I:=kqf hK;have H:=kqs hK;first
  |(have b:N.k=3:=hK
    clear b hK;cases t0:bu N Q Q Q X
    case' true=>
     cases t1:fy N 1 1
     case' true=>
      cases t2:((N.ks.length:Int)==1)
      case' true=>
       have c:N.ks.length=1:=by have:=jg t2;omega
       have d:Bk (1<=N.ks.length):=by show _<=_;omega
       have e:Bk (0<N.ks.length):=by show _<_;omega
       clear c;cases t3:lj ns N 1 0)
  |(have b:N.k=8:=hK
    clear b hK;cases t0:bu N Q Q Q Q
    case' true=>
     cases t1:((N.ks.length:Int)==2)
     case' true=>
      have c:N.ks.length=2:=by have:=jg t1;omega
      have d:Bk (1<=N.ks.length):=by show _<=_;omega
      have e:Bk (0<N.ks.length):=by show _<_;omega
      have g:Bk (1<N.ks.length):=by show _<_;omega
      clear c;cases t2:lj ns N 1 0
      case' true=>
       cases t3:(fl ns N 1==1))
  |(have b:N.k=11\/N.k=12:=by first|exact .inl hK|exact .inr (hK)
    clear b hK;cases t0:bu N Q Q Q Q
    case' true=>
     cases t1:((N.ks.length:Int)==0))
  |(have b:N.k=2:=hK
    clear b hK;cases t0:bu N Q Q Q X
    case' true=>
     cases t1:fy N 1 200
     case' true=>
      cases t2:lj ns N N.ks.length 0)
  |(have b:N.k=4:=hK
    clear b hK;cases t0:bu N Q Q Q X
    case' true=>
     cases t1:fy N 1 1
     case' true=>
      cases t2:((N.ks.length:Int)==1)
      case' true=>
       have c:N.ks.length=1:=by have:=jg t2;omega
       have d:Bk (1<=N.ks.length):=by show _<=_;omega
       have e:Bk (0<N.ks.length):=by show _<_;omega
       clear c;cases t3:(fl ns N 0==36))
  |(have b:N.k=6\/N.k=16:=by first|exact .inl hK|exact .inr (hK)
    clear b hK;cases t0:bu N Q Q Q Q
    case' true=>
     cases t1:((N.ks.length:Int)==1)
     case' true=>
      have c:N.ks.length=1:=by have:=jg t1;omega
      have d:Bk (1<=N.ks.length):=by show _<=_;omega
      have e:Bk (0<N.ks.length):=by show _<_;omega
      clear c;cases t2:(fl ns N 0==34))
  |(have b:N.k=10:=hK
    clear b hK;cases t0:bu N Q Q Q X
    case' true=>
     cases t1:fy N 1 200
     case' true=>
      cases t2:((N.ks.length:Int)==2)
      case' true=>
       have c:N.ks.length=2:=by have:=jg t2;omega
       have d:Bk (1<=N.ks.length):=by show _<=_;omega
       have e:Bk (0<N.ks.length):=by show _<_;omega
       have g:Bk (1<N.ks.length):=by show _<_;omega
       clear c;cases t3:lj ns N 1 0
       case' true=>
        cases t4:(fl ns N 1==1))
  |(have b:N.k=13:=hK
    clear b hK;cases t0:bu N Q Q Q Q
    case' true=>
     cases t1:lj ns N N.ks.length 0)
  |(have b:N.k=14:=hK
    clear b hK;cases t0:bu N Q Q Q X
    case' true=>
     cases t1:fy N 1 2
     case' true=>
      cases t2:((N.ks.length:Int)==2)
      case' true=>
       have c:N.ks.length=2:=by have:=jg t2;omega
       have d:Bk (1<=N.ks.length):=by show _<=_;omega
       have e:Bk (0<N.ks.length):=by show _<_;omega
       have g:Bk (1<N.ks.length):=by show _<_;omega
       clear c;cases t3:(fl ns N 0==1)
       case' true=>
        cases t4:(fl ns N 1==1))
  |(have b:N.k=15:=hK
    clear b hK;cases t0:bu N Q Q Q Q
    case' true=>
     cases t1:((N.ks.length:Int)==1)
     case' true=>
      have c:N.ks.length=1:=by have:=jg t1;omega
      have d:Bk (1<=N.ks.length):=by show _<=_;omega
      have e:Bk (0<N.ks.length):=by show _<_;omega
      clear c;cases t2:lj ns N 1 0)
 all_goals
  unfold jI;go_in;go_wp2_with (first|(go_at_call 154;with_reducible refine a.bare λf a=>?_;obtain⟨h,i,j,l,m,o,p,q,r,s⟩:=bK a.bn;have u:=a.bt)|(go_at_call 155;with_reducible refine a.named λf a=>?_;obtain⟨h,i,j,l,m,o,p,q,r,s⟩:=bK a.bn;have u:=a.bt)|(go_at_call 156;(first|with_reducible refine a.ex1 d.out λf a=>?_|with_reducible refine a.ex2 d.out λf a=>?_|with_reducible refine a.exL λf a=>?_);obtain⟨h,i,j,l,m,o,p,q,r,s⟩:=bK a.bn;have u:=a.bt)|(go_at_call 153;(first|with_reducible refine a.kid0 e.out λf a=>?_|with_reducible refine a.kid1 g.out λf a=>?_);obtain⟨h,i,j,l,m,o,p,q,r,s⟩:=bK a.bn;have u:=a.bt));go_ret;exact⟨rfl,a.bel⟩
section
variable {w : World} {vt : Value} {ns : List Nd} {N : Nd} {vn vk : Value} (A : NArg w vt ns N vn vk)
include A
def BL(h:iK N.k=X):Bn Ax 78 #[A9 #[vt],jI N vn vk] w (jf w (B2 (stB ns N))):=by
 have a:=aB h;rcases(show(N.k=3\/N.k=8\/N.k=11\/N.k=12\/N.k=2\/N.k=4\/N.k=6\/N.k=16\/N.k=10\/N.k=13\/N.k=14\/N.k=15)\/N.k=1\/N.k=5\/N.k=7\/N.k=9 by omega) with hK|hK|hK|hK|hK
 .exact aou A hK
 all_goals
  unfold stB;simp only[hK,reduceIte,Int.reduceEq];first|exact akw A hK|exact ak1 A hK|exact akH A hK|exact aky A hK
def AG:Bn Ax 79 #[A9 #[vt],jI N vn vk] w (jf w (B2 (jj ns N))):=by
 by_cases b:N.k=20\/N.k=21\/N.k=22\/N.k=27\/N.k=23\/N.k=24\/N.k=25\/N.k=26\/N.k=28\/N.k=29\/N.k=41\/N.k=32\/N.k=30\/N.k=31\/N.k=33\/N.k=34\/N.k=40\/N.k=42\/N.k=36\/N.k=37
 .exact aod A b
 by_cases a:N.k=35
 .unfold jj;simp only[a,reduceIte,Int.reduceEq];exact ahg A a
 rw[show jj ns N=Q by unfold jj;repeat rw[aa (by omega)]];refine akv A λd c=>?_;simp only[C6,gK,mC,mE]at c;omega
end
def GJ(l:List Int)(i:Int):Nat->Nat->Bool
 |0,_=>X
 |f+1,j=>decide (0<=l.getD j 0/\l.getD j 0<i)&&GJ l i f (j+1)
structure aov (l:List Int) (i:Int) (f j:Nat) (R:Bool):Prop where
 out:GJ l i f j=R
def zn(l:List Int)(i:Int):∀(f j:Nat),GJ l i f j=X->∀k,j<=k->k<j+f->0<=l.getD k 0/\l.getD k 0<i
 |0,j,_,k,a,b=>by omega
 |f+1,j,h,k,a,b=>by
  rw[GJ,bB]at h;rcases ie a with rfl|h3
  .exact aB h.1
  .exact zn l i f (j+1) h.2 k h3 (by omega)
def aow(h:GJ N.ks i N.ks.length 0=X)(d:i<=ns.length):Ae ns N:=by
 refine⟨λe b=>?_⟩;obtain⟨c,a,rfl⟩:=iq b;have:=zn N.ks i N.ks.length 0 h c (by omega) (by omega);rw[aF,aw a]at this;simp only[gy]at this;omega
def I2(N:Nd):Bool:=decide (0<=N.f/\N.f<=N.t/\0<=N.l/\N.ks.length<=200)
def mJ(ns:List Nd)(N:Nd):Bool:=if iK N.k=X then stB ns N else jj ns N
def jK(ns:List Nd)(i:Nat)(N:Nd):Bool:=I2 N&&(GJ N.ks i N.ks.length 0&&mJ ns N)
structure lL (N:Nd):Prop where
 l1:N.nm.length<=1048576
 l2:N.ks.length<=1048576
 lx:N.x.size<=1048576
 ls:∀s∈N.nm,s.size<=1048576
def I3(w:Bc)(al:A2)(ns:List Nd)(i:Nat)(N:Nd)(ht:gg w al ns)(bd:ns.length<=1048576)(n:ns[i]?=U N)(hS:lL N):
  Bn Ax 39 #[A9 #[al],O M i] w (jf w (B2 (jK ns i N))):=by
 obtain⟨bj,I,rfl⟩:=ht.form;obtain⟨ak,rfl,bD,bA,a8⟩:=ht.get n;have ba:i<ns.length:=by rcases bg i ns.length with h|h;exact h;rw[jC h]at n;cases n
 have br:(i:Int)<(ns.length:Int):=by omega
 have bo:(0:Int)<=(i:Int):=by omega
 obtain⟨L,ap,ar,av,aK,a0,a4,a5,a6,y,x⟩:=a8;obtain⟨G,J,rfl⟩:=y.form;obtain⟨H,K,rfl⟩:=x.form;have bw:=yw L;have j:=am hS;have m:=kK ht y x;have bv:=hS.l2;clear ht y x hS n;unfold jK;by_cases r:N.f<0\/N.t<N.f\/N.l<0\/(200:Int)<(N.ks.length:Int)
 .rw[show I2 N=Q from az (by omega)];go_in;go_wp2;all_goals (go_ret;exact⟨rfl,(CD rfl).2.2.1⟩)
 rw[show I2 N=X from be (by omega)];simp only[not_or]at r;obtain⟨r,bk,bl,bn⟩:=r;have⟨F,hS⟩:=aC (mJ ns N);rw[hS];have E:=am hS;clear hS;have⟨p,s⟩:=aC (GJ N.ks i N.ks.length 0);rw[s];have C:aov N.ks i N.ks.length 0 p:=⟨s⟩;clear s;go_in;go_wp2_with fail;generalize ad:(w.alloc _).alloc _=q;obtain⟨af,v,c, -⟩:=CD ad;replace af:q.cell? ⟨w.heap.size,0,A5⟩=U (Z (U ak) ns.length I):=(aj _ _ _ _ _ _ af).trans rfl;replace v:qK (w.heap.size+1) q 34 N (Z G N.nm.length J) (Z H N.ks.length K):=v;clear ad;clear L ap ar av aK a0 a4 a5 a6;go_loop [7,37] (λ_ B=>∃a:Nat,B= O M a/\a<=N.ks.length/\aov N.ks i (N.ks.length-a) a p) (λ_ B=>N.ks.length-(Ad B).toNat)
 case atStart=>exact⟨0,rfl,by omega,C⟩
 case round=>
  obtain⟨a,rfl,bs,ao⟩:=hrel;have b:=ao.out;by_cases bf:a<N.ks.length
  .have A:N.ks[a]?=U N.ks[a]:=aw bf;obtain⟨bx,rfl,a9⟩:=(m.2.2.below c).get A;rw[show N.ks.length-a=(N.ks.length-(a+1))+1 by omega,GJ,aF,A,gy]at b;have bb:(a:Int)<(N.ks.length:Int):=by omega
   have bt:(0:Int)<=(a:Int):=by omega
   generalize N.ks[a]=an at b a9;clear A;by_cases z0:an<0
   .rw[az (by omega),fE]at b;have d:=am b;clear b;go_wp2;go_ret;exact⟨by rw[<-d.out];rfl,c⟩
   by_cases b9:(i:Int)<=an
   .rw[az (by omega),fE]at b;have d:=am b;clear b;go_wp2;go_ret;exact⟨by rw[<-d.out];rfl,c⟩
   rw[be (by omega),gI]at b;have d:aov N.ks i (N.ks.length-(a+1)) (a+1) p:=⟨b⟩;clear b;go_wp2;go_round
   case rel=>exact⟨a+1,by go_num,by omega,d⟩
   case measure=>simp[Ad];omega
  .rw[show N.ks.length-a=0 by omega,GJ]at b;have d:=am b;have bb:¬(a:Int)<(N.ks.length:Int):=by omega
   have z:Ae ns N:=aow (by rw[C.out,<-d.out]) (fG ba);have g:NArg q (Z (U ak) ns.length I) ns N (Z G N.nm.length J) (Z H N.ks.length K):=⟨m.1.below c,m.2.1.below c,m.2.2.below c,z,bd,j.l1,j.l2,j.lx,j.ls⟩;have⟨bE,b0,b1,b2,b3,b4,b5,b6,b7,b8⟩:=bK v;have o:=λw=>DA N.k w;clear b;cases hx:iK N.k with
   |true=>
    have e:=BL g hx;rw[hx]at o;rw[show stB ns N=F by rw[<-E.out];unfold mJ;rw[ab hx]]at e;unfold jI at e;clear hx g z;go_wp2_with (first|(go_at_call 77;refine fC (o _) ?_)|(go_at_call 78;refine e.mono ?_;rintro a7 bh ⟨rfl,u⟩));go_ret;exact⟨by rw[<-d.out];rfl,c.trans (u.mono c.size)⟩
   |false=>
    have e:=AG g;rw[hx]at o;rw[show jj ns N=F by rw[<-E.out];unfold mJ;rw[aa (by rw[hx];simp)]]at e;unfold jI at e;clear hx g z;go_wp2_with (first|(go_at_call 77;refine fC (o _) ?_)|(go_at_call 79;refine e.mono ?_;rintro a7 bh ⟨rfl,u⟩));go_ret;exact⟨by rw[<-d.out];rfl,c.trans (u.mono c.size)⟩
def Fo.all(p:Nd->Prop):Fo->Prop
 | .nil=>True
 | .cons N k r=>p N/\k.all p/\r.all p
def ig(p:Nd->Prop):∀(a b:Fo),(a.app b).all p↔a.all p/\b.all p
 | .nil,b=>by simp[Fo.app,Fo.all]
 | .cons N k r,b=>by simp only[Fo.app,Fo.all,ig p r b,and_assoc]
def cj(p:Nd->Prop)(N:Nd)(k:Fo):(one N k).all p↔p N/\k.all p:=by simp[one,Fo.all]
def Gd(tk:Nat->Tk)(n:Nat)(N:Nd):Prop:=(N.x=z0\/∃a,N.x=(tk a).x)/\N.nm.length<=n/\∀b∈N.nm,∃a,b=(tk a).x
def aq8(tk:Nat->Tk)(n:Nat):uE->Prop
 | .more _ _ x=>x.all (Gd tk n)
 | .post _ B=>B.all (Gd tk n)
 |_=>True
section
variable {tk : Nat → Tk} {n : Nat}
def gd0(k:Int)(s:Tk)(e op m:Int):Gd tk n (nd k s e op m z0 []):=⟨.inl rfl,aD _,λb a=>by cases a⟩
def gdx(k:Int)(s:Tk)(e op m:Int)(q:Nat):Gd tk n (nd k s e op m (tk q).x []):=⟨.inr ⟨q,rfl⟩,aD _,λx a=>by cases a⟩
def gd1(h:0<n)(k:Int)(s:Tk)(e op m:Int)(q:Nat):Gd tk n (nd k s e op m z0 [(tk q).x]):=⟨.inl rfl,h,λx a=>⟨q,List.mem_singleton.1 a⟩⟩
def gdb(k:Int)(s:Tk)(e:Int):Gd tk n (sn k s e):=by unfold sn;split;exact gd0 ..;split;exact gd0 ..;exact gd0 ..
def gdh(N:Nd)(ks:Fo)(s:Tk)(e:Int)(h:Gd tk n N)(a:ks.all (Gd tk n)):(mh N ks s e).all (Gd tk n):=by
 unfold mh;split
 .rw[cj,cj];exact⟨gd0 ..,h,a⟩
 .rw[cj];exact⟨h,a⟩
def FE.gd{ns:List ByteArray}(h:FE tk n i ns j):i+2*ns.length<=j/\j<n/\∀x∈ns,∃q,x=(tk q).x:=by
 induction h with
 |stop c a=>exact⟨by simp,a,λx hx=>by cases hx⟩
 |go c a d _ b=>
  refine⟨by simp;omega,b.2.1,λx hx=>?_⟩;rcases List.mem_cons.1 hx with rfl|hx
  .exact⟨_,rfl⟩
  .exact b.2.2 x hx
def Prm.gd{ns:List ByteArray}{r:Bool}(h:Prm tk n i ns r j):i+ns.length<=j/\j<=n/\∀x∈ns,∃q,x=(tk q).x:=by
 induction h with
 |close a b=>exact⟨by simp,by omega,λx hx=>by cases hx⟩
 |rest a b c=>exact⟨by simp,by omega,λx hx=>by cases hx⟩
 |last a b c=>exact⟨by simp,by omega,λx hx=>⟨_,List.mem_singleton.1 hx⟩⟩
 |go a b c _ d=>
  refine⟨by simp;omega,d.2.1,λx hx=>?_⟩;rcases List.mem_cons.1 hx with rfl|hx
  .exact⟨_,rfl⟩
  .exact d.2.2 x hx
def gdn{q:Nat}{ns:List ByteArray}(h:FE tk n i ns j)(k:Int)(s:Tk)(e op m:Int):Gd tk n (nd k s e op m z0 ((tk q).x::ns)):=by
 have⟨b,c,a⟩:=h.gd;refine⟨.inl rfl,by show ns.length+1<=n;omega,λx hx=>?_⟩;rcases List.mem_cons.1 hx with rfl|hx
 .exact⟨_,rfl⟩
 .exact a x hx
def P.gd{t:uE}{R:Fo}(h:P tk n t i R j):aq8 tk n t->R.all (Gd tk n):=by
 induction h
 case tlet0 h1 h2 h3 h4 h5=>intro _;rw[cj];exact⟨gdn h4 ..,trivial⟩
 case tlet h1 h2 h3 h4 h5 h6 ih=>intro _;rw[cj];exact⟨gdn h4 ..,ih trivial⟩
 case tfor h1 h2 h3 h4 h5 h6 h7 i1 i2=>intro _;rw[cj,ig];exact⟨gdn h4 ..,i1 trivial,i2 trivial⟩
 case teach h1 h2 h3 h4 h5 h6 h7 h8 h9 i1 i2=>intro _;rw[cj,ig];exact⟨gdn h4 ..,i1 trivial,i2 trivial⟩
 case ttry h1 h2 h3 h4 h5 h6 h7 h8 i1 i2=>intro _;rw[cj,ig];exact⟨gdn h7 ..,i1 trivial,i2 trivial⟩
 case body nm r B h1 h2 h3 h4 ih=>intro _;rw[cj];exact⟨⟨.inl rfl,by have:=h3.gd;show nm.length<=n;omega,h3.gd.2.2⟩,ih trivial⟩
 case bopen h1 h2 h3 h4 h5 h6 i1 i2=>intro _;have:=i1 trivial;rw[cj]at this;exact i2 (gdh _ _ _ _ this.1 this.2)
 case tcon h1 h2 h3 h4 h5 ih=>intro _;rw[cj];exact⟨gd1 (by omega) ..,ih trivial⟩
 case tfn h1 h2 h3 h4 h5 ih=>intro _;rw[cj];exact⟨gd1 (by omega) ..,ih trivial⟩
 all_goals
  intro a
  simp_all only[cj,ig,aq8,Fo.all,gdx,gd0,jx,gdb,and_self,true_implies,forall_const]
end
def Fo.nms:Fo->Nat
 | .nil=>0
 | .cons N k r=>N.nm.length+k.nms+r.nms
def rl:∀(a b:Fo),(a.app b).nms=a.nms+b.nms
 | .nil,b=>by simp[Fo.app,Fo.nms]
 | .cons N k r,b=>by simp only[Fo.app,Fo.nms,rl r b];omega
def pK(N:Nd)(k:Fo):(one N k).nms=N.nm.length+k.nms:=by simp[one,Fo.nms]
def ahz(N:Nd)(ks:Fo)(s:Tk)(e:Int):(mh N ks s e).nms=(one N ks).nms:=by
 unfold mh;split
 .rw[pK];simp[jx,nd]
 .rfl
def Eo(k:Int)(s:Tk)(e op m:Int)(x:ByteArray)(nm:List ByteArray):(nd k s e op m x nm).nm=nm:=rfl
def aox(k:Int)(s:Tk)(e:Int):(sn k s e).nm=[]:=by unfold sn;split;rfl;split<;>rfl
def I4:uE->Nat
 | .more _ _ x=>x.nms
 | .post _ B=>B.nms
 |_=>0
def P.nms{tk:Nat->Tk}{t:uE}{R:Fo}(h:P tk n t i R j):R.nms+i<=I4 t+j:=by
 induction h
 case tlet0 h1 h2 h3 h4 h5=>have:=h4.gd;simp only[pK,rl,I4,Eo,Fo.nms,bc]at *;omega
 case tlet h1 h2 h3 h4 h5 h6 ih=>have:=h4.gd;simp only[pK,rl,I4,Eo,Fo.nms,bc]at *;omega
 case tfor h1 h2 h3 h4 h5 h6 h7 i1 i2=>have:=h4.gd;simp only[pK,rl,I4,Eo,Fo.nms,bc]at *;omega
 case teach h1 h2 h3 h4 h5 h6 h7 h8 h9 i1 i2=>have:=h4.gd;simp only[pK,rl,I4,Eo,Fo.nms,bc]at *;omega
 case ttry h1 h2 h3 h4 h5 h6 h7 h8 i1 i2=>have:=h7.gd;simp only[pK,rl,I4,Eo,Fo.nms,bc]at *;omega
 case body h1 h2 h3 h4 ih=>have:=h3.gd;simp only[pK,rl,I4,Eo,Fo.nms,bc]at *;omega
 all_goals
  simp only[pK,rl,ahz,I4,jx,Eo,aox,Fo.nms,bc,dE]at *;omega
def Ep:∀(R:Fo)(a b:Nat),cnt a (R.flat b)+R.len=a+8*R.sz+R.nms
 | .nil,a,b=>by simp[Fo.flat,cnt,Fo.len,Fo.sz,Fo.nms]
 | .cons N k r,a,b=>by
  have d:=Ep k a b;have e:=Ep r (nxt (cnt a (k.flat b)) {N with ks:=k.tops b}) (b+k.sz+1);have f:=k.tops_len b;rw[Fo.flat,agc,cnt];have c:nxt (cnt a (k.flat b)) {N with ks:=k.tops b}=cnt a (k.flat b)+7+N.nm.length+(k.tops b).length:=rfl;simp only[Fo.len,Fo.sz,Fo.nms];omega
def aq9(s:ByteArray)(p:Nat)(e:p<s.size):(db s p).x.size<=s.size:=by
 have c:∀a b,(s.extract a b).size<=s.size:=λa b=>by rw[qE];omega
 unfold db;split
 .show(C0 s p).2.size<=_;unfold C0;split
  .exact aD _
  .exact c _ _
 split
 .split
  .show(ue s p).2.2.size<=_;unfold ue;split
   .exact aD _
   split
   .exact aD _
   .exact c _ _
  .exact aD _
 split
 .split
  .show(fH _).size<=_;have d:=(yu s (s.size+1) (p+1) [] e).2.2;rw[rH];simp at d;omega
  .exact aD _
 split
 .exact aD _
 .exact aD _
def adg(s:ByteArray):∀(f:Nat)(st:List Int)(p:Nat)(l:Int)(a:List Tk),(∀T∈a,T.x.size<=s.size)->∀T∈(sD s f st p l a).1,T.x.size<=s.size
 |0,st,p,l,a,h=>λT hT=>by cases hT
 |f+1,st,p,l,a,h=>by
  have c:∀(b:Tk),b.x.size<=s.size->∀T∈a++[b],T.x.size<=s.size:=λb e T hT=>by
   rcases List.mem_append.1 hT with hT|hT
   .exact h T hT
   .rw[List.mem_singleton.1 hT];exact e
  rw[sD];split
  .exact c _ (aD _)
  .rename_i g;have d:=aq9 s p (by omega);split
   .split
    .exact adg s f _ _ _ _ (c _ d)
    .exact adg s f _ _ _ _ h
   .split
    .split
     .exact adg s f _ _ _ _ (c _ d)
     .exact λT hT=>by cases hT
    .exact λT hT=>by cases hT
def adh(s:ByteArray):∀(f:Nat)(st:List Int)(p:Nat)(l:Int)(b:List Tk),p<=s.size->(sD s f st p l b).1.length<=b.length+(s.size-p)+1
 |0,st,p,l,b,h=>aD _
 |f+1,st,p,l,b,h=>by
  rw[sD];split
  .simp
  .rename_i j;have d:∀q,q<=s.size->q<=blk s (s.size+1) q/\blk s (s.size+1) q<=s.size:=λq i=>ou s (s.size+1) q i;split
   .rename_i e;have c:=nC s p (by omega) (ak0 s p e).1;have:=d _ c.2.1;split
    .have:=adh s f (dm st 5).1 (blk s (s.size+1) (db s p).a) (l+1) (b++[⟨5,(p:Nat),((db s p).a:Nat),l,(db s p).n,(db s p).x⟩]) (by omega);simp only[aG,Ch]at this;omega
    .have:=adh s f st (blk s (s.size+1) (db s p).a) (l+1) b (by omega);omega
   .split
    .split
     .rename_i g;have c:=nC s p (by omega) g;have:=d _ c.2.1;have:=adh s f (dm st (ya s p)).1 (blk s (s.size+1) (db s p).a) l (b++[⟨ya s p,(p:Nat),((db s p).a:Nat),l,(db s p).n,(db s p).x⟩]) (by omega);simp only[aG,Ch]at this;omega
     .exact aD _
    .exact aD _
def zo(p:Nd->Prop)(c:∀(N:Nd) (ks:List Int),p N->p {N with ks:=ks}):∀(R:Fo)(b:Nat),R.all p->∀N∈R.flat b,p N/\N.ks.length<=R.sz
 | .nil,b,h=>λN hN=>by cases hN
 | .cons e k r,b,h=>λN hN=>by
  have f:=k.len_le;have g:=k.tops_len b;rw[Fo.flat,yj,gK]at hN;rcases hN with hN|rfl|hN
  .obtain⟨a,d⟩:=zo p c k b h.2.1 N hN;exact⟨a,by rw[Fo.sz];omega⟩
  .exact⟨c _ _ h.1,by rw[Fo.sz];show(k.tops b).length<=_;omega⟩
  .obtain⟨a,d⟩:=zo p c r _ h.2.2 N hN;exact⟨a,by rw[Fo.sz];omega⟩
def rm(s:ByteArray)(R:Fo):List Nd:=(one ⟨1,0,(s.size:Nat),1,0,0,⟨#[]⟩,[],[]⟩ R).flat 0
structure PF (s:ByteArray) (toks:List Tk) (m:Nat) (R:Fo) (lz:Int):Prop where
 len:toks.length=m+1
 le:m<=s.size
 p:P (rj toks) (m+1) .stats 0 R m
 k78:∀q,(rj toks q).k<=78
 k6:∀q,q<m->(rj toks q).k≠6
 end_:rj toks m=⟨6,(s.size:Nat),(s.size:Nat),lz,0,⟨#[]⟩⟩
 sz:R.sz<=200000
 sm:∀N∈rm s R,lL N
 ct:cnt 1 (rm s R)<=2000000
def ara{s:ByteArray}(B:s.size<=65536){a:List Tk}{st:List Int}(h:mj s=(a,st, -1)){m:Nat}{R:Fo}{l:Int}(p:a.length=m+1)(r:rj a m=⟨6,(s.size:Nat),(s.size:Nat),l,0,⟨#[]⟩⟩)(e:P (rj a) (m+1) .stats 0 R m)(t:∀q,q<m->(rj a q).k≠6):PF s a m R l:=by
 obtain⟨J,I,b,x⟩:=I1 s _ _ _ _ _ a st h;rw[dI]at b;have G:=ou s (s.size+1) 0 (aD _);have j:=adh s (s.size+1) [100,6] (blk s (s.size+1) 0) 1 [] (by omega);have c:=adg s (s.size+1) [100,6] (blk s (s.size+1) 0) 1 [] (λd w=>by cases w);have C:sD s (s.size+1) [100,6] (blk s (s.size+1) 0) 1 []=(a,st, -1):=h;rw[C]at j c;simp only[dE]at j;have A:=e.pos;simp only[bH,slk,bas]at A;have z:=e.nms;have u:=e.gd trivial;have i:(one ⟨1,0,(s.size:Nat),1,0,0,⟨#[]⟩,[],[]⟩ R:Fo).sz=R.sz+1:=bz _ _;have n:∀q,(rj a q).x.size<=65536:=λq=>by
  unfold rj;rw[aF];cases hq:a[q]? with
  |none=>exact aD _
  |some d=>exact bG (c d (dj hq)) B
 have E:∀q,(rj a q).k<=78:=λq=>by
  unfold rj;rw[aF];cases hq:a[q]? with
  |none=>show(0:Int)<=78;decide
  |some d=>
   have:=dj hq;rw[b,yj,List.mem_singleton]at this;rcases this with g|g
   .have:=aq7 x g;show d.k<=78;omega
   .rw[g];show(6:Int)<=78;decide
 refine⟨p,by omega,e,E,t,r,by omega,λf v=>?_,?_⟩
 .obtain⟨g,y⟩:=zo (Gd (rj a) (m+1)) (λf H h=>h) _ 0 ((cj _ _ R).2 ⟨⟨.inl rfl,aD _,λo c=>by cases c⟩,u⟩) f v;rw[i]at y;refine⟨by have:=g.2.1;omega,by omega,?_,λo c=>?_⟩
  .rcases g.1 with b|⟨q,b⟩
   .rw[b];exact aD _
   .rw[b];have:=n q;omega
  .obtain⟨q,b⟩:=g.2.2 o c;rw[b];have:=n q;omega
 .have:=Ep (one ⟨1,0,(s.size:Nat),1,0,0,⟨#[]⟩,[],[]⟩ R) 1 0;rw[i,pK]at this;simp only[I4]at z;have F:([]:List ByteArray).length=0:=rfl;unfold rm;show cnt 1 (Fo.flat (one ⟨1,0,(s.size:Nat),1,0,0,⟨#[]⟩,[],[]⟩ R) 0)<=_;simp only[dE]at this;omega
def ak2:(Tryz.prog.info? 49).map (λi=>(i.zero,i.size,i.bytes))=U (U (A9 #[O M 0,O M 0,O M 0,O M 0,O M 0,Y ⟨#[]⟩]),6,56):=by kernel_rfl
def Li{w5:Bc}{o:Obj}{e size:Nat}(i:W.ownsRow base e size v n xs)(h:(W.alloc o).grownBy w5 v.ownBlock){k:Nat}{cs:Array A2}{fr:Nat×Nat}(b:W.heap[k]?=U (Br cs t fr))(ht:t≠e):w5.heap[k]?=U (Br cs t fr):=by
 refine(h.block k (by simp;have:=ai b;omega) (λf=>?_)).trans ((eI _ _ _ (ai b)).trans b);have a:v.ownBlock=U k:=f.symm;rcases i.2 with⟨c,_⟩|⟨g,j,l,c,_,d,_⟩
 .rw[c]at a;simp[B1]at a
 .rw[c]at a;obtain rfl:g=k:=by simpa [B1] using a
  rw[b]at d;simp only[fw,lF]at d;exact ht d.2.1
def CH.app{w5:Bc}{o:Obj}{mb:Nat}(h:CH W base mb C){d e size:Nat}(c:W.ownsRow d e size v n xs)(b:(W.alloc o).grownBy w5 v.ownBlock)(j:102≠e)(k:170≠e):CH w5 base mb C:=by
 have⟨t,q,r,a⟩:=h.ex;refine⟨⟨t,Li c b q j,r,?_⟩,h.lo⟩;rcases a with a|⟨i,f,g,p,m,l,s⟩
 .exact .inl a
 .exact .inr ⟨i,f,g,p,m,Li c b l k,s⟩
def CH.other{mb:Nat}(h:CH W base mb C){cs:Array A2}{fr:Nat×Nat}(s:W.heap[b]?=U (Br cs t fr))(q:t≠102)(r:t≠170)(j:Nat)(v:A2):CH (W.setCell ⟨b,j,A5⟩ v) base mb C:=by
 have⟨A,e,y,c⟩:=h.ex;have g:∀{f:Nat}{l:Array A2}{i:TypeId}{o:Nat×Nat},W.heap[f]?=U (Br l i o)->t≠i->f≠b:=λa w n=>by
  subst n;rw[s]at a;simp only[fw,lF]at a;exact w a.2.1
 refine⟨⟨A,(ay _ _ _ _ (g e q)).trans e,y,?_⟩,h.lo⟩;rcases c with c|⟨p,k,m,x,u,d,z⟩
 .exact .inl c
 .exact .inr ⟨p,k,m,x,u,(ay _ _ _ _ (g d r)).trans d,z⟩
def abm{e size:Nat}(h:W.ownsRow base e size v n xs)(a:∀g,v.ownBlock=U g->g<b)(j:Nat)(u:A2):(W.setCell ⟨b,j,A5⟩ u).ownsRow base e size v n xs:=by
 refine h.kept (row:=U b) ⟨rfl,rfl,rfl,by simp[World.setCell],λf d c=>ay _ _ _ _ (λe=>c (by rw[e]))⟩ ?_;cases hv:v.ownBlock with
 |none=>exact .inl rfl
 |some g=>exact .inr (λe=>by have:=a g hv;obtain rfl:=aJ e;omega)
structure abn (w:Bc) (base mb:Nat) (s:ByteArray) (R:List Tk×List Int×Int) (p:Nat) (st:List Int) (top:Int) (C:List (Int×Int)) (l:Int) (out:List Tk) (f:Nat) (vo:A2) (W:Bc):Prop where
 m:CH W base mb C
 sk:qu C top st
 o:yG st
 bl:Below base w W
 row:W.ownsRow base 49 6 vo out.length (Am out)
 eq:sD s f st p l out=R
 cl:2<=C.length/\C.length<=2+20*p
 ol:out.length<=p
 l0:1<=l/\l<=(p:Int)+1
def abn.below{mb:Nat}{s:ByteArray}{R:List Tk×List Int×Int}{st:List Int}{c:Int}{l:Int}{b:List Tk}{f:Nat}{d:A2}(h:abn w base mb s R p st c C l b f d W)(a:cg W W')(e:base<=W.heap.size):abn w base mb s R p st c C l b f d W':=
 ⟨h.m.below a,h.sk,h.o,h.bl.trans (a.mono e),dA h.row a,h.eq,h.cl,h.ol,h.l0⟩
def Ll(w:Bc)(base mb:Nat)(s:ByteArray)(R:List Tk×List Int×Int)(e:Ending)(a:Bc):Prop:=
 ∃(b:Option Addr) (c:Nat) (d:Int) (C:List (Int×Int)),e= B0 (A1 #[Z b R.1.length c,O M d,O M R.2.2])/\a.ownsRow base 49 6 (Z b R.1.length c) R.1.length (Am R.1)/\CH a base mb C/\qu C d R.2.1/\yG R.2.1/\Below base w a/\2<=C.length/\C.length<=2000000
def qD(S:List Int):List Int->Int->Option Int
 |[],a=>U a
 |k::r,a=>if k=a-1/\S.getD k.toNat 0≠0 then qD S r (a-S.getD k.toNat 0) else A5
def ov(S:List Int)(i:Nat)(ks:List Int):Int:=match qD S ks.reverse i with|some a=>(i:Int)-a+1|none=>0
def iL(ns:List Nd):List Int:=ns.foldl (λa N=>a++[ov a a.length N.ks]) []
def tB(ns:List Nd)(N:Nd):iL (ns++[N])=iL ns++[ov (iL ns) (iL ns).length N.ks]:=by simp[iL]
def zq{α:Type}{p:List α->Prop}(h0:p [])(h1:∀a x,p a->p (a++[x]))(l:List α):p l:=by
 rw[<-List.reverse_reverse l]
 induction l.reverse with
 |nil=>exact h0
 |cons x r ih=>rw[List.reverse_cons];exact h1 _ x ih
def ma:∀(ns:List Nd),(iL ns).length=ns.length:=by
 intro ns;refine zq (p:=λns=>(iL ns).length=ns.length) rfl (λc b a=>?_) ns;rw[tB];simp[a]
structure aoy (S:List Int) (l:List Int) (a:Int) (R:Option Int):Prop where
 out:qD S l a=R
def F6(S:List Int):Prop:=∀(j:Nat) z,S[j]?=U z->0<=z/\z<=(j:Int)+1
def abo{S:List Int}(hS:F6 S):∀(l:List Int)(a b:Int),(∀k∈l,0<=k)->0<=a->qD S l a=U b->0<=b/\b<=a
 |[],a,b,_,f,h=>by simp[qD]at h;omega
 |k::r,a,b,d,f,h=>by
  rw[qD]at h;split at h
  .rename_i g;have i:=d k (by simp);have e:0<=S.getD k.toNat 0/\S.getD k.toNat 0<=k+1:=by
    rw[aF];cases hs:S[k.toNat]? with
    |none=>simp;omega
    |some c=>have:=hS _ c hs;simp;omega
   have:=abo hS r _ b (λc e=>d c (by simp[e])) (by omega) h;omega
  .cases h
def ak4{S:List Int}(hS:F6 S)(i:Nat)(ks:List Int)(b:∀k∈ks,0<=k):0<=ov S i ks/\ov S i ks<=(i:Int)+1:=by
 unfold ov;cases h:qD S ks.reverse i with
 |none=>simp;omega
 |some a=>
  have:=abo hS ks.reverse i a (λk c=>b k (by simpa using c)) (by omega) h;simp;omega
def AH(ns:List Nd):(∀N∈ns,∀k∈N.ks,0<=k)->F6 (iL ns):=by
 refine zq (p:=λns=>(∀N∈ns,∀k∈N.ks,0<=k)->F6 (iL ns)) (λ_ b h a=>by simp[iL]at a) (λc N n e=>?_) ns;have f:=n (λi l=>e i (by simp[l]));intro b h a;rw[tB]at a;rcases bg b (iL c).length with g|g
 .rw[gw g]at a;exact f b h a
 .rw[eD g]at a;obtain⟨j,d⟩:=List.getElem?_eq_some_iff.1 a;simp at j d;subst d;obtain rfl:b=(iL c).length:=by omega
  exact ak4 f _ _ (λk m=>e N (by simp) k m)
def GK(A:List Int)(n k:Nat)(z:Int)(a:A.length=k)(c:k<n):(A.map (A0 M)++A3 (n-k) (A0 M 0)).set k (O M z)=(A++[z]).map (A0 M)++A3 (n-(k+1)) (A0 M 0):=by
 have b:(A.map (A0 M)).length=k:=by rw[bq,a]
 rw[List.set_append_right _ _ (by omega),b,fx,show n-k=(n-(k+1))+1 by omega,List.replicate_succ,cA];simp
def Lm(w:Bc)(v:A2)(ns:List Nd)(h:gg w v ns)(b4:ns.length<=3000)(L:∀N∈ns,N.ks.length<=1048576)(s:∀(i:Nat) N,ns[i]?=U N->∀k∈N.ks,0<=k/\k<(i:Int)):
  Bn Ax 40 #[A9 #[v]] w λe bn=>∃g,e= B0 (Z (U ⟨g,0,A5⟩) ns.length ns.length)/\bn.ownsRow w.heap.size 3 1 (Z (U ⟨g,0,A5⟩) ns.length ns.length) ns.length ((iL ns).map (A0 M))/\cg w bn:=by
 obtain⟨y,z,rfl⟩:=h.form;have⟨a,ap⟩:=aC ns.length;have F:=am ap;have br:Bk (gg w (Z y a z) ns):=by rw[<-ap];exact h
 have I:Bk ((∀N∈ns,N.ks.length<=1048576)/\(∀(i:Nat) N,ns[i]?=U N->∀k∈N.ks,0<=k/\k<(i:Int))/\∀k,F6 (iL (ns.take k))):=⟨L,s,λk=>AH _ (λN L a1 m=>by
  have⟨i,ao,e⟩:=iq (Cz L);exact(s i N (by rw[aw ao,e]) a1 m).1)⟩
 rw[ap]at b4⊢;have⟨cb,ao,b7,b9,ca⟩:=fh yy;go_in;go_wp2_with (at_make;refine Cx _ rfl _ _ 32 rfl w.heap.size 3 cb (O M 0) 1 underlying32 ao b7 b9 M M _ _ a rfl rfl rfl rfl (by rw[ca];omega) (by unfold maxLen;omega) (by simp) ?_;intro bo bj r;have ba:Below (w.alloc (Br #[Z y a z] 26)).heap.size (w.alloc (Br #[Z y a z] 26)) bo:=⟨r.os,r.tape,r.output,r.size,λk s=>r.block k s (by simp)⟩;have ds:bo.cell? ⟨w.heap.size,0,A5⟩=U (Z y a z):=by {rw[aj _ _ _ _ _ _ ((ba.block _ (by simp)).trans (aA w _))];rfl});have bv:=((ah _ w).alloc (ag _) _).trans (ba.mono (by simp));rw[fe,show(madeCells (A0 M 0).cells (a*1)).toList=A3 a (A0 M 0) by rw[sH];exact Cl _ a]at bj;go_loopw [17] (λaK wr=>∃k:Nat,k<=a/\aK= O M k/\Bk (wr.ownsRow w.heap.size 3 1 (Z (U ⟨w.heap.size+1,0,A5⟩) a a) a ((iL (ns.take k)).map (A0 M)++A3 (a-k) (O M 0)))/\cg w wr) (λaK _=>a-(Ad aK).toNat)
 case atStart=>exact⟨0,aD _,rfl,bj,bv⟩
 case round=>
  obtain⟨k,s,rfl,G,B⟩:=hrel;by_cases bf:k<a
  .obtain⟨N,E⟩:=cJ F.out bf;have b2:=I.1 N (dj E);have b3:=I.2.1 k N E;have bh:=I.2.2 k;obtain⟨cf,rfl,dq,dn,bD⟩:=(br.below B).get E;obtain⟨cp,cq,cr,cs,ct,c5,cu,bw,bx,b5,bd⟩:=bD;obtain⟨cl,cw,rfl⟩:=b5.form;obtain⟨a5,a6,rfl⟩:=bd.form;have⟨b,ad⟩:=aC (iL (ns.take k));have a9:b.length=k:=by rw[<-ad,ma,gJ,F.out];omega
   have b6:iL (ns.take (k+1))=b++[ov b k N.ks]:=by
    rw[iC,E];show iL (ns.take k++[N])=_;rw[tB,ad,a9]
   rw[ad]at G bh;have⟨o,A⟩:=aC N.ks.length;rw[A]at bx b2;have b1:dH wr (Z a5 o a6) N.ks:=by rw[<-A];exact bd
   have j:=ajy A b1 b3 bh a9 b6;have a3:aoy b (N.ks.take o).reverse k (qD b N.ks.reverse k):=⟨by rw[<-A,Ct]⟩;have⟨a4,a8⟩:=aC (qD b N.ks.reverse k);rw[a8]at a3;have a2:=am a8;generalize N.nm.length=ce at bw;go_wp2_with fail;generalize bE:wr.alloc _=x;obtain⟨a7,af, -⟩:=al1 bE;replace a7:x.cell? ⟨wr.heap.size,8,A5⟩=U (Z a5 o a6):=(aj _ _ _ _ _ _ a7).trans rfl;have ar:=dA G.out af;have bs:=j.2.1.below af;have H:=am ar;have al:=B.trans (af.mono B.size);have c9:=ar.frozenAt k;have cB:x.cell? ⟨w.heap.size+1,k,A5⟩=U (O M 0):=by
    rw[ar.cellAt k (by omega),eD (by rw[bq,j.out.2.2.2.2.1];exact ag _),bq,j.out.2.2.2.2.1,fx,yh,ab (by omega)]
   go_loop [6,7,8] (λcc cd a0=>∃(c:Nat) (d:Int),cc= O M d/\cd= B2 X/\a0= O M ((c:Int)-1)/\c<=o/\0<=d/\d<=(k:Int)/\aoy b (N.ks.take c).reverse d a4) (λ_ _ a0=>(Ad a0+1).toNat)
   case atStart=>exact⟨o,k,rfl,rfl,rfl,ag _,by omega,by omega,a3⟩
   case round=>
    obtain⟨c,d,rfl,rfl,rfl,da,cx,cy,J⟩:=hrel;have f:=J.out;cases c with
    |zero=>
     have m:ov b k N.ks=(k:Int)-d+1:=by
      unfold ov;rw[a2.out];rw[Cj,List.reverse_nil,qD]at f;rw[<-f]
     have K:=am m;have bl:=(H.stored k (O M ((k:Int)-d+1))).1;rw[GK b a k _ j.out.2.2.2.2.1 bf]at bl;have u:=am bl;go_wp2_with fail;refine⟨⟨k+1,by omega,by go_num,?_,al.setCell (by simp) _⟩,by simp[Ad];omega⟩;show World.ownsRow _ _ _ _ _ _ _;rw[j.out.2.2.2.2.2,K.out];exact u
    |succ c=>
     have⟨a1,m⟩:=cJ j.1 (show c<o by omega);have⟨cn,b0,cI⟩:=bs.get m;subst b0;have⟨b8,dg⟩:=j.2.2.1 a1 (dj m);rw[iC,m]at f;simp only[Hm,List.reverse_append,List.reverse_cons,List.reverse_nil,dI,sG]at f;rw[qD]at f;obtain⟨l,rfl⟩:=iE b8;have bk:l<k:=by omega
     obtain⟨n,t⟩:=cJ j.2.2.2.2.1 bk;have cz:=j.2.2.2.1 l n t;have cF:x.cell? ⟨w.heap.size+1,l,A5⟩=U (O M n):=by
      rw[H.out.cellAt l (by omega),gw (by rw[bq,j.out.2.2.2.2.1];exact bk),cD,t];rfl
     have an:b.getD l 0=n:=by rw[aF,t];rfl
     simp only[iF,an]at f;have bA:(((c+1:Nat)):Int)-1=(c:Int):=by omega
     rw[bA];have dc:(0:Int)<=(c:Int):=by omega
     have dd:(c:Int)<(o:Int):=by omega
     have df:(l:Int)<(a:Int):=by omega
     by_cases p:(l:Int)=d-1/\n≠0
     .rw[ab p]at f;have bt:aoy b (N.ks.take c).reverse (d-n) a4:=⟨f⟩;have bb:=p.2;have C:=p.1;clear f J m t an p;obtain rfl:d=(l:Int)+1:=by omega
      clear C;go_wp2_with fail;go_round
      case rel=>exact⟨c,(l:Int)+1-n,by go_num,rfl,by go_num,by omega,by omega,by omega,bt⟩
      case measure=>simp[Ad]
     .rw[aa p]at f;have K:Bk (ov b k N.ks=0):=by
       show ov b k N.ks=0;unfold ov;rw[a2.out,<-f]
      have u:Bk (x.ownsRow w.heap.size 3 1 (Z (U ⟨w.heap.size+1,0,A5⟩) a a) a ((iL (ns.take (k+1))).map (A0 M)++A3 (a-(k+1)) (O M 0))):=by
       have q:=H.out;show World.ownsRow _ _ _ _ _ _ _;rw[j.out.2.2.2.2.2,K.out,eJ];rw[show a-k=(a-(k+1))+1 by omega,List.replicate_succ]at q;rw[bC];exact q
      by_cases C:(l:Int)=d-1
      .have bb:n=0:=by
        rcases Int.lt_trichotomy n 0 with g|g|g
        .omega
        .exact g
        .exact absurd ⟨C,by omega⟩ p
       subst bb;obtain rfl:d=(l:Int)+1:=by omega
       clear C;go_wp2_with fail;exact⟨⟨k+1,by omega,by go_num,u,al⟩,by simp[Ad];omega⟩
      .clear f J m t an p;go_wp2;exact⟨⟨k+1,by omega,by go_num,u,al⟩,by simp[Ad];omega⟩
  .obtain rfl:k=a:=by omega
   go_wp2;go_ret;refine⟨_,rfl,?_,B⟩;have q:=G.out;rw[dl (by rw[F.out];exact ag _),fx,List.replicate_zero,dk]at q;exact q
def jH(p:Nat->Bool):Nat->Nat->Option Nat
 |0,_=>A5
 |f+1,j=>if p j=X then U j else jH p f (j+1)
structure B5 (p:Nat->Bool) (f j:Nat) (R:Option Nat):Prop where
 out:jH p f j=R
def Er(i:Nat):List Int->List Int->List Int
 |[],D=>D
 |k::r,D=>Er i r (D.set k.toNat (D.getD i 0+1))
def dpN(ns:List Nd):Nat->List Int->List Int
 |0,D=>D
 |m+1,D=>dpN ns m (Er m (ns.getD m Gk).ks D)
def C9(ns:List Nd):List Int:=dpN ns ns.length (A3 ns.length 0)
def iu(ns:List Nd):Bool:=decide (ns.length=0\/3000<ns.length\/(ns.getD (ns.length-1) Gk).k≠1)
def fI(ns:List Nd)(i:Nat):Bool:=!(jK ns i (ns.getD i Gk))
def iJ(S:List Int)(i:Nat):Bool:=S.getD i 0==0
def jh(D:List Int)(i:Nat):Bool:=decide (100<D.getD i 0)
def tf4:Option Nat->Int×Int
 |some i=>(4,(i:Int))
 |none=>(0,0)
def tf3(S D:List Int)(n:Nat):Option Nat->Int×Int
 |some i=>(3,(i:Int))
 |none=>if S.getD (n-1) 0≠(n:Int) then(3,(n:Int)-1) else tf4 (jH (jh D) n 0)
def tf2(S D:List Int)(n:Nat):Option Nat->Int×Int
 |some i=>(2,(i:Int))
 |none=>tf3 S D n (jH (iJ S) n 0)
def eG(ns:List Nd):Int×Int:=if iu ns=X then(1,0) else tf2 (iL ns) (C9 ns) ns.length (jH (fI ns) ns.length 0)
def afe(n:Nat)(D:List Int):Prop:=D.length=n/\∀(j:Nat) z,D[j]?=U z->0<=z/\z<=(n:Int)-1-j
def afe.set{D:List Int}(h:afe n D)(i q:Nat)(g:i<n)(j:q<i):afe n (D.set q (D.getD i 0+1)):=by
 obtain⟨e,b⟩:=h;refine⟨by simp[e],λd f a=>?_⟩;by_cases c:q=d
 .subst c;rw[List.getElem?_set_self (by omega)]at a;obtain rfl:=aJ a;rw[aF,aw (by omega)];have:=b i D[i] (aw (by omega));simp;omega
 .rw[Hd c]at a;exact b d f a
def lB{p:Nat->Bool}:∀{f j:Nat},jH p f j=A5->∀k,j<=k->k<j+f->p k=Q
 |0,j,_,k,a,b=>by omega
 |f+1,j,h,k,a,b=>by
  rw[jH]at h;split at h
  .cases h
  .rename_i c;rcases ie a with rfl|g
   .simpa using c
   .exact lB h k g (by omega)
def nJ(b:Nat)(W:Bc)(c n:Int):Prop:=W.heap[b]?=U (Br #[O M c,O M n] 58 (0,0))
def oH{n:Int}(h:nJ b W c n):W.cell? ⟨b,0,A5⟩=U (O M c)/\W.cell? ⟨b,1,A5⟩=U (O M n)/\∀j,W.frozen? ⟨b,j,A5⟩=Q:=by
 unfold nJ at h;exact⟨by rw[aj _ _ _ _ _ _ h];rfl,by rw[aj _ _ _ _ _ _ h];rfl,λj=>cH _ _ _ _ _ h⟩
def xG{n:Int}(h:nJ b W c n)(a n2:Int):nJ b ((W.setCell ⟨b,0,A5⟩ (O M a)).setCell ⟨b,1,A5⟩ (O M n2)) a n2:=bp _ b 1 _ _ _ (bp _ b 0 _ _ _ h)
def nJ.below{n:Int}(h:nJ b W c n)(a:cg W W'):nJ b W' c n:=(a.block _ (ai h)).trans h
def Lp(w:Bc)(v:A2)(ns:List Nd)(h:gg w v ns)(q:ns.length<=1048576)(y:iu ns=X):
  Bn Ax 19 #[A9 #[v]] w (jf w (A9 #[O M 1,O M 0])):=by
 obtain⟨E,F,rfl⟩:=h.form;have f:∀b c,cg w ((w.alloc b).alloc c):=λb c=>((ah _ w).alloc (ag _) b).alloc (by simp) c;have m:∀b (d:Array A2) (g:TypeId),((w.alloc b).alloc (Br d g)).heap[w.heap.size+1]?=U (Br d g (0,0)):=λb d g=>by
  have:=aA (w.alloc b) (Br d g);rw[fe]at this;exact this
 have z:=aB y;by_cases l:ns.length=0
 .rw[l];go_in;go_wp2;exact aL (io rfl _ _ (w.heap.size+1) _ _ _ _ rfl (m _ _ _) underlying58 rfl (by kernel_rfl)) rfl ⟨rfl,f _ _⟩
 by_cases o:3000<ns.length
 .have u:(3000:Int)<(ns.length:Int):=by omega
  have t:¬(ns.length:Int)=0:=by omega
  generalize ns.length=n at t u q⊢;go_in;go_wp2;exact aL (io rfl _ _ (w.heap.size+1) _ _ _ _ rfl (m _ _ _) underlying58 rfl (by kernel_rfl)) rfl ⟨rfl,f _ _⟩
 .have x:(ns.getD (ns.length-1) Gk).k≠1:=by rcases z with e|e|e;exact absurd e l;exact absurd e o;exact e
  have r:ns.length-1<ns.length:=by omega
  obtain⟨i,p⟩:∃i,ns[ns.length-1]?=U i:=⟨_,aw r⟩;rw[aF,p,gy]at x;obtain⟨s,rfl,an,al,A⟩:=h.get p;have j:=A.c0;have⟨n,C⟩:=aC ns.length;rw[C]at j l o q r⊢;obtain⟨a,B⟩:∃a:Nat,n=a+1:=⟨n-1,by omega⟩;subst B;rw[lh]at j;have I:((a+1:Nat):Int)-1=(a:Int):=by omega
  have L:¬((a+1:Nat):Int)=0:=by omega
  have ad:¬(3000:Int)<((a+1:Nat):Int):=by omega
  have af:(a:Int)<((a+1:Nat):Int):=by omega
  have K:(0:Int)<=(a:Int):=by omega
  have G:(((a:Int)+1)==0)=Q:=by rw[du];omega
  have H:decide ((3000:Int)<(a:Int)+1)=Q:=az (by omega);have ak:(a:Int)<(a:Int)+1:=by omega
  have J:∀b c,((w.alloc b).alloc c).cell? (s.add (a*9))=U (O M i.k):=λb c=>cell_kept (f b c) j;go_in;go_wp2;exact aL (io rfl _ _ (w.heap.size+1) _ _ _ _ rfl (m _ _ _) underlying58 rfl (by kernel_rfl)) rfl ⟨rfl,f _ _⟩
structure Lq (w:Bc) (v:A2) (W:Bc):Prop where
 tb:W.heap[w.heap.size]?=U (.cells #[v] 26 (0,0))
 fb:nJ (w.heap.size+1) W 0 0
 bl:cg w W
def Lq.below(h:Lq w v W)(a:cg W W'):Lq w v W':=
 ⟨(a.block _ (ai h.tb)).trans h.tb,h.fb.below a,h.bl.trans (a.mono h.bl.size)⟩
structure aoz (w:Bc) (v:A2) (gd n:Nat) (ns:List Nd) (t:Nat) (D:List Int) (W:Bc):Prop where
 tk:Lq w v W
 row:W.ownsRow w.heap.size 3 1 (.slice (U ⟨gd,0,A5⟩) n n) n (D.map (A0 .i64))
 ok:afe n D
 rest:dpN ns t D=C9 ns
structure aoA (w:Bc) (v:A2) (gd n t:Nat) (ks D:List Int) (j:Nat) (E:List Int) (W:Bc):Prop where
 tk:Lq w v W
 row:W.ownsRow w.heap.size 3 1 (.slice (U ⟨gd,0,A5⟩) n n) n (E.map (A0 .i64))
 ok:afe n E
 rest:Er t (ks.drop j) E=Er t ks D
def fp(h:W.heap[b]?=U (Br #[v] t (0,0))):W.cell? ⟨b,0,A5⟩=U v:=by
 rw[aj _ _ _ _ _ _ h];rfl
def Lr(w:Bc)(v:A2)(ns:List Nd)(h:gg w v ns)(es:ns.length<=1048576)(dq:∀N∈ns,lL N)(b4:iu ns=Q):
  Bn Ax 19 #[A9 #[v]] w (jf w (A9 #[O M (eG ns).1,O M (eG ns).2])):=by
 obtain⟨fg,x,rfl⟩:=h.form;have bn:=mA b4;have G:=kK h dq b4;have cB:¬ns.length=0:=λI=>bn (.inl I);have eg:¬3000<ns.length:=λI=>bn (.inr (.inl I));have b0:(ns.getD (ns.length-1) Gk).k=1:=by
  by_cases a7:(ns.getD (ns.length-1) Gk).k=1
  .exact a7
  .exact absurd (.inr (.inr a7)) bn
 obtain⟨N,C⟩:∃N,ns[ns.length-1]?=U N:=⟨_,aw (by omega)⟩;rw[aF,C,gy]at b0;obtain⟨r,rfl,gn,gl,c6⟩:=h.get C;have a6:=c6.c0;rw[b0]at a6;have el:∀ap z,cg w ((w.alloc ap).alloc z):=λap z=>((ah _ w).alloc (ag _) ap).alloc (by simp) z;obtain⟨ao,b9⟩:=aC ns.length;obtain⟨A,hF⟩:=aC (eG ns);have n:=gF b9 hF;rw[hF];rw[b9]at G a6 cB eg⊢;obtain⟨a,ez⟩:∃a:Nat,ao=a+1:=⟨ao-1,by omega⟩;have df:ao-1=a:=by omega
 rw[df]at a6;have dn:(0:Int)<=(a:Int):=by omega
 have e5:¬(ao:Int)=0:=by omega
 have e6:¬(3000:Int)<(ao:Int):=by omega
 have e7:(a:Int)<(ao:Int):=by omega
 have e8:(ao:Int)-1=(a:Int):=by omega
 have fr:(((a:Int)+1)==0)=Q:=by rw[du];omega
 have ft:decide ((3000:Int)<(a:Int)+1)=Q:=az (by omega);have gf:(a:Int)<(a:Int)+1:=by omega
 have en:∀ap z,((w.alloc ap).alloc z).cell? (r.add (a*9))=U (O M 1):=λap z=>cell_kept (el ap z) a6;clear h b4 bn cB b0 C c6 b9 es dq hF df a6 e5 e6 e7 e8;subst ez;go_in;go_wp2_with fail;generalize c2:(w.alloc _).alloc _=d8;obtain⟨cy,cn,cl, -⟩:=CD c2;have ds:Lq w (Z (U r) (a+1) x) d8:=⟨cy,cn,cl⟩;clear c2;obtain⟨bA,b2⟩:=aC (jH (fI ns) (a+1) 0);have bw:=am b2;have cr:B5 (fI ns) (a+1-0) 0 bA:=⟨b2⟩;clear b2 cy cn cl en;go_loopw [39] (λi wr=>∃b:Nat,b<=a+1/\i= O M b/\B5 (fI ns) (a+1-b) b bA/\Lq w (Z (U r) (a+1) x) wr) (λi _=>a+1-(Ad i).toNat)
 case atStart=>exact⟨0,aD _,rfl,cr,ds⟩
 case round=>
  obtain⟨b,da,rfl,l,u⟩:=hrel;clear ds cr;have c:=l.out;by_cases ew:b<a+1
  .obtain⟨bf,a8⟩:=cJ n.1 ew;have dd:(b:Int)<(a:Int)+1:=by omega
   have dc:(0:Int)<=(b:Int):=by omega
   have bt:=I3 wr (Z (U r) (a+1) x) ns b bf (G.1.below u.bl) (by rw[n.out.1];omega) a8 (G.2.1 bf (dj a8));have aK:=fp u.tb;obtain⟨ad,af,al⟩:=oH u.fb;rw[show a+1-b=(a+1-(b+1))+1 by omega,jH]at c;have y:fI ns b=!(jK ns b bf):=by unfold fI;rw[aF,a8];rfl
   rw[y]at c;have bd:=am u;cases hx:jK ns b bf with
   |true=>
    rw[hx]at bt c;rw[aa (by decide)]at c;have ba:B5 (fI ns) (a+1-(b+1)) (b+1) bA:=⟨c⟩;clear c hx y a8 u l ad af al;go_wp2_with (go_at_call 39;refine bt.mono ?_;rintro I K ⟨rfl,an⟩);exact⟨⟨b+1,by omega,by go_num,ba,bd.below an⟩,by simp[Ad];omega⟩
   |false=>
    rw[hx]at bt c;rw[ab (by decide)]at c;have F:Bk (A=(2,(b:Int))):=by
     show A=(2,(b:Int));rw[<-n.out.2];unfold eG;rw[G.out.2.2,aa (by decide),n.out.1,bw.out,<-c];rfl
    clear c hx y a8 u l ad af al;go_wp2_with fail;refine bt.mono ?_;rintro I K ⟨rfl,an⟩;have f:=bd.below an;obtain⟨ad,af,al⟩:=oH f.fb;have o:=am f;clear f an;go_wp2_with fail;have f:=o.out;exact aL (io rfl _ _ (w.heap.size+1) _ _ _ _ rfl (xG f.fb 2 b) underlying58 rfl (by kernel_rfl)) rfl ⟨by rw[F.out],(f.bl.setCell (by simp) _).setCell (by simp) _⟩
  .obtain rfl:b=a+1:=by omega
   rw[fx,jH]at c;have d5:=am c.symm;have c3:=lB (show jH (fI ns) (a+1) 0=A5 by rw[bw.out];exact c.symm);have a4:∀(E:Nat) N,ns[E]?=U N->∀g∈N.ks,0<=g/\g<(E:Int):=λE N C g d=>by
    have br:E<a+1:=by rw[<-n.out.1];exact(List.getElem?_eq_some_iff.1 C).1
    have H:=c3 E (aD _) (by omega);unfold fI at H;rw[aF,C,gy]at H;have b1:jK ns E N=X:=by simpa using H
    unfold jK at b1;have eh:GJ N.ks E N.ks.length 0=X:=by
     rw[bB,bB]at b1;exact b1.2.1
    obtain⟨m,cc,rfl⟩:=iq d;have:=zn N.ks E N.ks.length 0 eh m (by omega) (by omega);rw[aF,aw cc]at this;simpa using this
   have cd:=Lm wr (Z (U r) (a+1) x) ns (G.1.below u.bl) (by rw[n.out.1];omega) (λN C=>(G.2.1 N C).l2) a4;rw[n.out.1]at cd;have cu:=am a4;have aK:=fp u.tb;have bd:=am u;have e0:=u.bl.size;have gb:w.heap.size+1<wr.heap.size:=ai u.fb;clear c c3 a4 u l;go_wp2_with fail;refine cd.mono ?_;rintro I K ⟨a7,rfl,ca,an⟩;have f:=bd.below an;obtain⟨p,hS⟩:=aC (iL ns);have cI:p.length=a+1:=by rw[<-hS,ma,n.out.1]
   rw[hS]at ca;have cv:Bk (iL ns=p/\p.length=a+1/\F6 p):=⟨hS,cI,by rw[<-hS];exact AH ns (λN C g d=>by
    obtain⟨E,br,I⟩:=iq C;exact(cu E N (by rw[aw br,I]) g d).1)⟩
   have o:=gF f ca;obtain⟨bh,bk⟩:=aC (jH (iJ p) (a+1) 0);have fd:=am bk;have ba:B5 (iJ p) (a+1-0) 0 bh:=⟨bk⟩;have bx:Bk (eG ns=tf3 p (C9 ns) (a+1) bh):=by
    show eG ns=_;unfold eG;rw[G.out.2.2,aa (by decide),n.out.1,bw.out,d5.out,hS];show tf3 p (C9 ns) (a+1) (jH (iJ p) (a+1) 0)=_;rw[bk]
   clear hS cI bk f ca an cd aK;go_wp2_with fail;go_loop [53] (λi=>∃b:Nat,b<=a+1/\i= O M b/\B5 (iJ p) (a+1-b) b bh) (λi=>a+1-(Ad i).toNat)
   case atStart=>exact⟨0,aD _,rfl,ba⟩
   case round=>
    obtain⟨b,f2,rfl,l⟩:=hrel;clear ba;have c:=l.out;by_cases ex:b<a+1
    .have dd:(b:Int)<(a:Int)+1:=by omega
     have dc:(0:Int)<=(b:Int):=by omega
     obtain⟨g,d⟩:=cJ cv.2.1 ex;have bE:K.cell? ⟨a7,b,A5⟩=U (O M g):=by rw[o.out.2.cellAt b (by omega),cD,d];rfl
     rw[show a+1-b=(a+1-(b+1))+1 by omega,jH]at c;have y:iJ p b=(g==0):=by unfold iJ;rw[aF,d];rfl
     rw[y]at c;by_cases bs:g=0
     .subst bs;rw[ab (by decide)]at c;have F:Bk (A=(3,(b:Int))):=by
       show A=(3,(b:Int));rw[<-n.out.2,bx.out,<-c];rfl
      obtain⟨ad,af,al⟩:=oH o.1.fb;clear c y d l;go_wp2_with fail;have f:=o.1;exact aL (io rfl _ _ (w.heap.size+1) _ _ _ _ rfl (xG f.fb 3 b) underlying58 rfl (by kernel_rfl)) rfl ⟨by rw[F.out],(f.bl.setCell (by simp) _).setCell (by simp) _⟩
     .rw[aa (by simpa using bs)]at c;have bv:B5 (iJ p) (a+1-(b+1)) (b+1) bh:=⟨c⟩;clear c y d l;go_wp2_with fail;go_round
      case rel=>exact⟨b+1,by omega,by go_num,bv⟩
      case measure=>simp[Ad];omega
    .obtain rfl:b=a+1:=by omega
     rw[fx,jH]at c;have d6:=am c.symm;obtain⟨g,d⟩:=cJ cv.2.1 (show a<a+1 by omega);have bE:K.cell? ⟨a7,a,A5⟩=U (O M g):=by rw[o.out.2.cellAt a (by omega),cD,d];rfl
     have a1:p.getD a 0=g:=by rw[aF,d];rfl
     have s:=bx.out;rw[d6.out,tf3,lh,a1]at s;by_cases e4:g=(a:Int)+1
     .rw[aa (by omega)]at s;have d7:=am s;subst e4;have aK:=fp o.1.tb;clear c s d a1 l;obtain⟨dn,br,bs,e2,e3⟩:=fh yy;have eF:=o.1.bl.size;go_wp2_with (at_make;refine Cx _ rfl _ _ 32 rfl w.heap.size 3 dn (O M 0) 1 underlying32 br bs e2 M M _ _ (a+1) rfl rfl rfl rfl (by rw[e3];omega) (by unfold maxLen;omega) eF ?_;intro d0 cb a3;have b5:cg K d0:=⟨a3.os,a3.tape,a3.output,a3.size,λb da=>a3.block b da (by simp)⟩;have ea:=cell_kept b5 aK);rw[show(madeCells (A0 M 0).cells ((a+1)*1)).toList=A3 (a+1) (A0 M 0) by rw[sH];exact Cl _ _]at cb;have cf:aoz w (Z (U r) (a+1) x) K.heap.size (a+1) ns (a+1) (A3 (a+1) 0) d0:=by
       refine⟨o.1.below b5,?_,⟨by simp,λt g d=>?_⟩,?_⟩
       .rw[List.map_replicate];exact cb
       .rw[yh]at d;split at d
        .obtain rfl:=aJ d;omega
        .cases d
       .unfold C9;rw[n.out.1]
      have eL:w.heap.size+1<K.heap.size:=ai o.1.fb;clear cb a3 b5 ea aK bE;obtain⟨q,a1⟩:=aC K.heap.size;rw[a1]at cf eL⊢;have cw:=am cf;clear cf a1 o bx;go_loopw [8] (λi wr=>∃(e:Nat) (D:List Int),e<=a+1/\i= O M ((e:Int)-1)/\Bk (aoz w (Z (U r) (a+1) x) q (a+1) ns e D wr)) (λi _=>(Ad i+1).toNat)
      case atStart=>exact⟨a+1,_,ag _,by congr 1;omega,cw⟩
      case round=>
       obtain⟨e,D,f7,rfl,k⟩:=hrel;clear cw;cases e with
       |zero=>
        have f4:¬(0:Int)<=((0:Nat):Int)-1:=by omega
        have cF:D=C9 ns:=k.rest;have ar:=kK k.tk k.row k.ok.1;have s:=d7.out;rw[<-cF]at s;obtain⟨bD,b3⟩:=aC (jH (jh D) (a+1) 0);rw[b3,n.out.2]at s;have cx:=am s;have cs:B5 (jh D) (a+1-0) 0 bD:=⟨b3⟩;clear s b3 cF k;go_wp2_with fail;go_loop [110] (λi=>∃b:Nat,b<=a+1/\i= O M b/\B5 (jh D) (a+1-b) b bD) (λi=>a+1-(Ad i).toNat)
        case atStart=>exact⟨0,aD _,rfl,cs⟩
        case round=>
         obtain⟨b,f3,rfl,l⟩:=hrel;clear cs;have c:=l.out;by_cases ey:b<a+1
         .have dd:(b:Int)<(a:Int)+1:=by omega
          have dc:(0:Int)<=(b:Int):=by omega
          obtain⟨g,d⟩:=cJ ar.2.2 ey;have bE:wr.cell? ⟨q,b,A5⟩=U (O M g):=by rw[ar.out.2.1.cellAt b (by omega),cD,d];rfl
          rw[show a+1-b=(a+1-(b+1))+1 by omega,jH]at c;have y:jh D b=decide (100<g):=by unfold jh;rw[aF,d];rfl
          rw[y]at c;by_cases dg:100<g
          .rw[ab (be dg)]at c;have F:Bk (A=(4,(b:Int))):=by
            show A=(4,(b:Int));rw[cx.out,<-c];rfl
           obtain⟨ad,af,al⟩:=oH ar.1.fb;clear c y d l;go_wp2_with fail;have f:=ar.1;exact aL (io rfl _ _ (w.heap.size+1) _ _ _ _ rfl (xG f.fb 4 b) underlying58 rfl (by kernel_rfl)) rfl ⟨by rw[F.out],(f.bl.setCell (by simp) _).setCell (by simp) _⟩
          .rw[aa (by simpa using dg)]at c;have bv:B5 (jh D) (a+1-(b+1)) (b+1) bD:=⟨c⟩;clear c y d l;go_wp2_with fail;go_round
           case rel=>exact⟨b+1,by omega,by go_num,bv⟩
           case measure=>simp[Ad];omega
         .obtain rfl:b=a+1:=by omega
          rw[fx,jH]at c;have F:Bk (A=(0,0)):=by
           show A=(0,0);rw[cx.out,<-c];rfl
          obtain⟨ad,af,al⟩:=oH ar.1.fb;clear c l;go_wp2_with fail;have f:=ar.1;exact aL (io rfl _ _ (w.heap.size+1) _ _ _ _ rfl (xG f.fb 0 0) underlying58 rfl (by kernel_rfl)) rfl ⟨by rw[F.out],(f.bl.setCell (by simp) _).setCell (by simp) _⟩
       |succ e=>
        have ee:(((e+1:Nat)):Int)-1=(e:Int):=by omega
        rw[ee];have f9:(e:Int)<(a:Int)+1:=by omega
        have f8:(0:Int)<=(e:Int):=by omega
        obtain⟨B,a0⟩:=cJ n.1 (show e<a+1 by omega);obtain⟨fk,ei,gp,gm,b6⟩:=G.1.get a0;obtain rfl:=aJ ei;have ec:=cell_kept k.tk.bl b6.c8;have a4:=cu.out e B a0;have b8:=b6.hk;obtain⟨d9,ed,rfl⟩:=b8.form;obtain⟨av,bj⟩:=aC B.ks.length;have ev:=(G.2.1 B (dj a0)).l2;rw[bj]at ec ev;have er:k.rest=k.rest:=rfl;have a9:dpN ns e (Er e B.ks D)=C9 ns:=by
         have:=k.rest;rw[dpN,aF,a0,gy]at this;exact this
        have bb:=Ft bj a4 a9 a0;have aK:=fp k.tk.tb;have d4:Bk (dH w (Z d9 av ed) B.ks):=by rw[<-bj];exact b8
        have cp:Bk (aoA w (Z (U r) (a+1) x) q (a+1) e B.ks D 0 D wr):=⟨k.tk,k.row,k.ok,rfl⟩;have e0:=k.tk.bl.size;clear a4 b8 a9 b6 a0 bj k er;go_wp2_with fail;go_loopw [95] (λi e9=>∃(t:Nat) (L:List Int),t<=av/\i= O M t/\Bk (aoA w (Z (U r) (a+1) x) q (a+1) e B.ks D t L e9)) (λi _=>av-(Ad i).toNat)
        case atStart=>exact⟨0,D,aD _,rfl,cp⟩
        case round=>
         obtain⟨t,L,fA,rfl,j⟩:=hrel;clear cp;by_cases eq:t<av
         .have fF:(t:Int)<(av:Int):=by omega
          have fB:(0:Int)<=(t:Int):=by omega
          obtain⟨g,d⟩:=cJ bb.1 eq;obtain⟨fm,ek,fz⟩:=(d4.below j.tk.bl).get d;subst ek;obtain⟨e1,ge⟩:=bb.2.1 g (dj d);obtain⟨m,rfl⟩:=iE e1;have cc:m<e:=by omega
          obtain⟨J,bo⟩:=cJ j.ok.1 (show e<a+1 by omega);obtain⟨ef,c7⟩:=cJ j.ok.1 (show m<a+1 by omega);have fv:=j.ok.2 e J bo;have a5:=j.row;have fo:wr.cell? ⟨q,e,A5⟩=U (O M J):=by rw[a5.cellAt e (by omega),cD,bo];rfl
          have fn:wr.cell? ⟨q,m,A5⟩=U (O M ef):=by rw[a5.cellAt m (by omega),cD,c7];rfl
          have fu:=a5.frozenAt m;have ep:=(a5.lt q rfl).1;have b7:L.getD e 0=J:=by rw[aF,bo];rfl
          have z:=(a5.stored m (O M (J+1))).1;rw[<-List.map_set]at z;have ce:=j.ok.set e m (by omega) cc;rw[b7]at ce;have a9:Er e (B.ks.drop (t+1)) (L.set m (J+1))=Er e B.ks D:=by
           have H:=j.rest;have c9:=(List.getElem?_eq_some_iff.1 d);rw[kL c9.1,c9.2,Er,b7]at H;exact H
          have eB:q≠w.heap.size:=by omega
          have eA:q≠w.heap.size+1:=by omega
          have dx:Lq w (Z (U r) (a+1) x) (wr.setCell ⟨q,m,A5⟩ (O M (J+1))):=
           ⟨(ay _ _ _ _ (dB eB)).trans j.tk.tb,(ay _ _ _ _ (dB eA)).trans j.tk.fb,j.tk.bl.setCell ep _⟩
          have d3:Bk (aoA w (Z (U r) (a+1) x) q (a+1) e B.ks D (t+1) (L.set m (J+1)) (wr.setCell ⟨q,m,A5⟩ (O M (J+1)))):=⟨dx,z,ce,a9⟩;have f6:(m:Int)<(a:Int)+1:=by omega
          have f5:(0:Int)<=(m:Int):=by omega
          clear d j z ce a9 dx a5 bo c7 b7;go_wp2_with fail;exact⟨⟨t+1,_,by omega,by go_num,d3⟩,by simp[Ad];omega⟩
         .obtain rfl:t=av:=by omega
          have eo:Bk (aoz w (Z (U r) (a+1) x) q (a+1) ns e L wr):=by
           refine⟨j.tk,j.row,j.ok,?_⟩;have H:=j.rest;rw[lE (by rw[bb.out.1];exact ag _),Er]at H;rw[H];exact bb.2.2.1
          clear j;go_wp2_with fail;exact⟨⟨e,L,by omega,rfl,eo⟩,by simp[Ad]⟩
     .rw[ab (by omega)]at s;have F:Bk (A=(3,(a:Int))):=by
       show A=(3,(a:Int));rw[<-n.out.2,s]
       congr 1
       omega
      obtain⟨ad,af,al⟩:=oH o.1.fb;clear c s d a1 l;go_wp2_with fail;have f:=o.1;exact aL (io rfl _ _ (w.heap.size+1) _ _ _ _ rfl (xG f.fb 3 a) underlying58 rfl (by kernel_rfl)) rfl ⟨by rw[F.out],(f.bl.setCell (by simp) _).setCell (by simp) _⟩
def Et(w:Bc)(v:A2)(ns:List Nd)(h:gg w v ns)(a:ns.length<=1048576)(c:∀N∈ns,lL N):
  Bn Ax 19 #[A9 #[v]] w (jf w (A9 #[O M (eG ns).1,O M (eG ns).2])):=by
 cases hb:iu ns with
 |true=>
  have b:eG ns=(1,0):=by unfold eG;rw[ab hb]
  rw[b];exact Lp w v ns h a hb
 |false=>exact Lr w v ns h a c hb
structure aoB (ns:List Nd):Prop where
 len:1<=ns.length/\ns.length<=3000
 kid:∀(i:Nat) N,ns[i]?=U N->∀z∈N.ks,0<=z/\z<(i:Int)
 kn:∀N∈ns,N.ks.length<=200
def Lt{o:Option Nat}(h:(tf4 o).1=0):o=A5:=by
 cases o with
 |none=>rfl
 |some a=>simp[tf4]at h
def su(h:(eG ns).1=0):aoB ns:=by
 unfold eG at h;by_cases i:iu ns=X
 .rw[ab i]at h;exact absurd h (by decide)
 rw[aa i]at h;have q:iu ns=Q:=by simpa using i
 have k:=mA q;obtain⟨e,j⟩:∃e,jH (fI ns) ns.length 0=e:=⟨_,rfl⟩;rw[j]at h;cases e with
 |some a=>rw[tf2]at h;exact absurd h (by simp)
 |none=>
  have p:=lB j;have m:∀(a:Nat) b,ns[a]?=U b->jK ns a b=X:=λa b d=>by
   have l:a<ns.length:=(List.getElem?_eq_some_iff.1 d).1;have f:=p a (aD _) (by omega);unfold fI at f;rw[aF,d,gy]at f;simpa using f
  refine⟨⟨?_,?_⟩,λa b d u s=>?_,λb d=>?_⟩
  .rcases oz ns.length with g|g
   .exact absurd (.inl g) k
   .exact g
  .rcases bg 3000 ns.length with g|g
   .exact absurd (.inr (.inl g)) k
   .exact g
  .have c:=m a b d;unfold jK at c;have o:GJ b.ks a b.ks.length 0=X:=by
    rw[bB,bB]at c;exact c.2.1
   obtain⟨t,r,rfl⟩:=iq s;have:=zn b.ks a b.ks.length 0 o t (by omega) (by omega);rw[aF,aw r]at this;simpa using this
  .obtain⟨a,l,n⟩:=iq d;have c:=m a b (by rw[aw l,n]);unfold jK I2 at c;rw[bB]at c;exact(aB c.1).2.2.2
def aoC(s:ByteArray):ByteArray:=fH (ej s)
def abp(x:List Int):(fH x).size=x.length:=by
 have d:∀(x:List Int)(a:ByteArray),(x.foldl (λb e=>b.push (UInt8.ofNat e.toNat)) a).size=a.size+x.length:=by
  intro x
  induction x with
  |nil=>intro a;rfl
  |cons f b c=>intro a;show(b.foldl _ (a.push _)).size=_;rw[c];simp;omega
 have:=d x ByteArray.empty;unfold fH;rw[this];simp
def aff(s:ByteArray):(aoC s).size<=2+4*s.size:=by
 unfold aoC;rw[abp];unfold ej;have:=Hq s s.size (ag _);simp;omega
