import Derived.Test.YtcbmoiabehpliaaGreatDoorHPk01
import Derived.Test.YtcbmoiabehpliaaGreatDoorHPk04
import Derived.Test.YtcbmoiabehpliaaGreatDoorHPk02
import Derived.Test.YtcbmoiabehpliaaGreatDoorHPk11
import Derived.Test.YtcbmoiabehpliaaGreatDoorHPk14
import Derived.Test.YtcbmoiabehpliaaGreatDoorHPk28
import Derived.Deep.CutBlock
import Derived.Test.YtcbmoiabehpliaaGreatDoorHPk41
import Derived.Test.YtcbmoiabehpliaaGreatDoorHPk25
set_option linter.unusedVariables false
set_option maxRecDepth 100000
set_option maxHeartbeats 6400000
namespace Go.Proofs.YtcbmoiabehpliaaGreatDoor
open Go.RowKit
def vA(a b:ByteArray):Nat->Nat->Nat
 |0,n=>n
 |f+1,n=>if n<a.size/\n<b.size/\ae a n=ae b n then vA a b f (n+1) else n
def wY(a b:ByteArray):Nat:=vA a b (a.size+1) 0
structure Hj (a b:ByteArray) (f n R:Nat):Prop where
 out:vA a b f n=R
theorem oR(w:World)(a b:ByteArray)(F:a.size<=1100000)(H:b.size<=1100000):
  Calls Tryz.prog 63 #[.string a,.string b] w fun e x=>e= .returned (.int .i64 (wY a b))/\Below w.heap.size w x:=by
 unfold wY;obtain⟨l,k⟩:=ah (vA a b (a.size+1) 0);rw[k];have t:Hj a b (a.size+1) 0 l:=⟨k⟩;clear k;go_in;go_wp2_with fail;go_loopw [5] (fun p wr=>∃(c f:Nat),c<=a.size/\a.size<c+f/\p= .int .i64 c/\Hj a b f c l/\Below w.heap.size w wr) (fun p _=>a.size+1-(intOf p).toNat)
 case atStart=>exact⟨0,a.size+1,by omega,by omega,rfl,t,Below.refl _ _⟩
 case round=>
  obtain⟨c,f,C,I,rfl,s,m⟩:=hrel;clear t;obtain⟨f,rfl⟩:∃v,f=v+1:=⟨f-1,by omega⟩;have d:=s.out;rw[vA]at d;have G:=ab m;have j:∀q,Below w.heap.size w (wr.drewN q):=fun q=>m.trans (yS _ wr q);clear s m;by_cases n:c<a.size
  ·have z:(c:Int)<(a.size:Int):=by omega
   by_cases o:c<b.size
   ·have A:(c:Int)<(b.size:Int):=by omega
    have r:=fun w=>aI n w;have u:=fun w=>aI o w;by_cases g:ae a c=ae b c
    ·rw[if_pos ⟨n,o,g⟩]at d;rw[g]at r;have y:Hj a b f (c+1) l:=⟨d⟩;clear d g;generalize ae b c=B at r u;go_wp2_with fail;go_quiet (fail)
     go_wp2_with fail;exact⟨⟨c+1,f,by omega,by omega,by go_num,y,j _⟩,by simp[intOf];omega⟩
    ·rw[if_neg (fun i=>g i.2.2)]at d;have h:=ab d;have E:(ae a c==ae b c)=false:=beq_eq_false_iff_ne.2 g;clear d g;go_wp2_with fail;go_quiet (fail)
     go_wp2_with fail;go_ret;exact⟨by rw[<-h.out];rfl,j _⟩
   ·rw[if_neg (fun i=>o i.2.1)]at d;have h:=ab d;have A:¬(c:Int)<(b.size:Int):=by omega
    clear d;go_wp2_with fail;go_quiet (fail)
    go_wp2_with fail;go_ret;exact⟨by rw[<-h.out];rfl,j _⟩
  ·rw[if_neg (fun i=>n i.1)]at d;have h:=ab d;have z:¬(c:Int)<(a.size:Int):=by omega
   clear d;go_wp2_with fail;go_quiet (fail)
   go_wp2_with fail;go_ret;exact⟨by rw[<-h.out];rfl,j _⟩
def Fe(k c:Int):Bool:=if k=1 then aC c else if k=2 then aG c else if k=3 then aG c else decide (c=34)
def wZ(k:Int)(x:ByteArray):Nat:=if x.size=0 then 0 else if k=1\/k=2\/k=3\/k=4 then(if Fe k (ae x 0)=true then x.size else 0) else wY x (bR k)
theorem CE(k:Int):(bR k).size<=6:=by
 by_cases c:0<=k/\k<=78
 ·have a:∀b:Fin 79,(bR (b.val:Int)).size<=6:=by decide+kernel
  have:=a ⟨k.toNat,by omega⟩;rw[show(((⟨k.toNat,by omega⟩:Fin 79).val:Nat):Int)=k by simp;omega]at this;exact this
 ·unfold bR;rw[if_neg (by omega),if_neg (by omega),if_neg (by omega),if_neg (by omega),if_neg (by omega)];decide
theorem pU(w:World)(k:Int)(x:ByteArray)(l:fV w)(r:x.size<=1100000)(I:1<=k)(H:k<=78):
  Calls Tryz.prog 65 #[.int .i64 k,.string x] w fun e c=>e= .returned (.int .i64 (wZ k x))/\Below w.heap.size w c:=by
 unfold wZ;by_cases g:x.size=0
 ·rw[if_pos g];have e:x=⟨#[]⟩:=by
   obtain⟨o⟩:=x;have:o.size=0:=g
   congr
   exact Array.eq_empty_of_size_eq_zero this
  subst e;go_in;go_wp2_with fail;go_ret;exact⟨rfl,Below.refl _ _⟩
 ·rw[if_neg g];have E:(x.toList==[])=false:=by
   have:x.toList.length=x.size:=by rw[ByteArray.toList_eq];simp
   cases hs:x.toList with
   |nil=>rw[hs]at this;simp at this;omega
   |cons B v=>rfl
  have j:=fun w=>aI (s:=x) (i:=0) (by omega) w;rw[show(((0:Nat):Int))=0 from rfl]at j;have p:(k=1\/k=2\/k=3\/k=4)\/¬(k=1\/k=2\/k=3\/k=4):=Classical.em _;rcases p with h|h
  ·rw[if_pos h];generalize ae x 0=a at j⊢;have f:=fun w=>dK a w;have d:=fun w=>cG a w;rcases h with rfl|rfl|rfl|rfl
   ·rw[show Fe 1 a=aC a from rfl];clear d;cases b:aC a;all_goals
     rw[b]at f;go_in;go_wp2_with (go_at_call 115;refine(f _).mono ?_;rintro e c ⟨rfl,rfl⟩);go_ret;exact⟨rfl,Below.refl _ _⟩
   ·rw[show Fe 2 a=aG a from rfl];clear f;cases b:aG a;all_goals
     rw[b]at d;go_in;go_wp2_with (go_at_call 117;refine(d _).mono ?_;rintro e c ⟨rfl,rfl⟩);go_ret;exact⟨rfl,Below.refl _ _⟩
   ·rw[show Fe 3 a=aG a from rfl];clear f;cases b:aG a;all_goals
     rw[b]at d;go_in;go_wp2_with (go_at_call 117;refine(d _).mono ?_;rintro e c ⟨rfl,rfl⟩);go_ret;exact⟨rfl,Below.refl _ _⟩
   ·rw[show Fe 4 a=decide (a=34) from rfl];clear f d;by_cases b:a=34
    ·subst b;go_in;go_wp2_with fail;go_ret;exact⟨rfl,Below.refl _ _⟩
    ·rw[decide_eq_false b];have C:(a==34)=false:=beq_eq_false_iff_ne.2 b;go_in;go_wp2_with fail;go_ret;exact⟨rfl,Below.refl _ _⟩
  ·rw[if_neg h];have z:¬k=1:=by omega
   have G:¬k=2:=by omega
   have F:¬k=3:=by omega
   have y:¬k=4:=by omega
   have m:=jc k (by omega) (by omega) w l;have q:=CE k;have n:=fun w=>oR w x (bR k) r (by omega);generalize bR k=A at m n q⊢;clear h j l;go_in;go_wp2_with (first|(go_at_call 123;refine m.mono ?_;rintro e c ⟨rfl,u⟩;subst c)|(go_at_call 63;refine(n _).mono ?_;rintro e J ⟨rfl,t⟩));go_ret;exact⟨rfl,t⟩
end Go.Proofs.YtcbmoiabehpliaaGreatDoor
namespace Go.Proofs.YtcbmoiabehpliaaGreatDoor
open Go.RowKit Go.Maps Go.WideMaps
attribute [local go_sem] Oper.semAt_some
structure Iv (b mb B:Nat) (s:ByteArray) (T:List Tk->World->Prop) (pre:List Tk) (W:World) (p:Nat) (l:Int):Prop where
 sc:jA b W s (.map (some mb)) p l false
 mp:W.ownsMap Tryz.prog 9 (plainElem (H:=Unit) Tryz.prog 3) mb 22 (kV 22)
 ly:tO W
 tt:T pre W
 sz:B<=W.heap.size
theorem Iv.gr{b mb B:Nat}{s:ByteArray}{T:List Tk->World->Prop}{pre:List Tk}{W a:World}{p e:Nat}{l d:Int}(h:Iv b mb B s T pre W p l)(f:∀k W a,T k W->W.grownBy a (some b)->T k a)(g:mb≠b)(m:12<=b)(i:12<=B)(c:W.grownBy a (some b))(hS:jA b a s (.map (some mb)) e d false):Iv b mb B s T pre a e d:=
 ⟨hS,h.mp.kept c (by simp[g]),h.ly.blocks (fun k j=>c.block k (by have:=h.sz;omega) (by simp;omega)),f _ _ _ h.tt c,Nat.le_trans h.sz c.size⟩
theorem eL(w:World)(b i:Nat)(v:Value):w.grownBy (w.setCell ⟨b,i,none⟩ v) (some b):=
 ⟨rfl,rfl,rfl,by simp[World.setCell],fun c d a=>heap_setCell_other _ _ _ _ (by simpa using a)⟩
theorem CF(s:ByteArray)(p:Nat)(w:World):Calls Tryz.prog 58 #[.string (s.extract p s.size),.string ⟨#[45,45]⟩] w fun e b=>e= .returned (.bool (decide (ae s p=45/\ae s (p+1)=45)))/\b=w:=by
 have a:=Tryz.strings_HasPrefix (s.extract p s.size) ⟨#[45,45]⟩ w;rw[show(⟨#[45,45]⟩:ByteArray).data.toList=[45,45] from rfl,qT]at a;exact a
structure FX (q:Int->Bool) (s:ByteArray) (f p e:Nat):Prop where
 out:cZ q s f p=e
attribute [local go_sem] Oper.semAt_some
def Ja(b:Nat)(W:World):Prop:=∃c a,W.heap[b]?=some (.cells c 85 a)
theorem jA.x{b:Nat}{W:World}{s:ByteArray}{m:Value}{p l:Int}{k:Bool}(h:jA b W s m p l k):Ja b W:=by obtain⟨a,h⟩:=h;exact⟨_,_,h⟩
structure Iw (b mb B:Nat) (s:ByteArray) (I:Nat->Int->World->Prop) (W:World) (q:Nat) (l2:Int) (p:Nat) (l:Int):Prop where
 sc:jA b W s (.map (some mb)) q l2 false
 mp:W.ownsMap Tryz.prog 9 (plainElem (H:=Unit) Tryz.prog 3) mb 22 (kV 22)
 ly:tO W
 ii:I p l W
 sz:B<=W.heap.size
theorem Iw.gr{b mb B:Nat}{s:ByteArray}{I:Nat->Int->World->Prop}{W a:World}{p q e g:Nat}{l j d f:Int}(h:Iw b mb B s I W q j p l)(k:∀p l W a,I p l W->Ja b W->W.grownBy a (some b)->I p l a)(m:mb≠b)(t:12<=b)(o:12<=B)(c:W.grownBy a (some b))(hS:jA b a s (.map (some mb)) g f false)(n:I p l a->I e d a):Iw b mb B s I a g f e d:=
 ⟨hS,h.mp.kept c (by simp[m]),h.ly.blocks (fun i r=>c.block i (by have:=h.sz;omega) (by simp;omega)),n (k _ _ _ _ h.ii h.sc.x c),Nat.le_trans h.sz c.size⟩
structure fG (s:ByteArray) (p:Nat):Prop where
 lt:p<s.size
 nb:¬dJ (ae s p)=true
 nd:¬(ae s p=45/\ae s (p+1)=45)
inductive yw (b mb B:Nat) (s:ByteArray) (I:Nat->Int->World->Prop) (W:World):Prop
 |fin (l:Int) (h:Iw b mb B s I W s.size l s.size l)
 |bad (p:Nat) (l:Int) (hp:fG s p) (hr:(rdI s p).ok=false) (hS:bO b W s (.map (some mb)) (p:Int) ((rdI s p).a:Int) (l+(rdI s p).d) true) (hy:tO W) (hz:B<=W.heap.size) (hi:I p l W)
theorem zR(n l b mb B:Nat)(s:ByteArray)(d8:s.size<=70000)(ea:b<B)(T:mb≠b)(af:12<=b)
  (I:Nat->Int->World->Prop) (O:∀p l W o,I p l W->Ja b W->W.grownBy o (some b)->I p l o) (bs:∀p q l W,blk s (s.size+1) p=blk s (s.size+1) q->p<=q->q<=s.size->I p l W->I q l W) (d4:∀p l W,I p l W->0<=l/\l<=(p:Int)+1/\p<=s.size)
  (h:World->Prop) (dk:∀W o,KeepsFrom B W o->h W->h o) (Pn:List PanicEntry->World->Prop)
  (cn:∀p c W,fG s p->(rdI s p).ok=true->Iw b mb B s I W (rdI s p).a (c+(rdI s p).d) p c->h W->YieldAt Fence.wide (n-1) Tryz.prog l #[vw ⟨(rdI s p).k,(p:Int),((rdI s p).a:Int),c,(rdI s p).n,(rdI s p).x⟩] W fun e o=>(e= .returned (.bool true)/\Iw b mb B s I o (rdI s p).a (c+(rdI s p).d) (rdI s p).a (c+(rdI s p).d)/\h o)\/(∃Z,e= .panicked Z/\Pn Z o))
  (W:World) (b1:Nat) (bE:Int) (a8:Iw b mb B s I W b1 bE b1 bE) (d7:h W):
  CallsIn Fence.wide n Tryz.prog 30 #[.pointer (some ⟨b,0,none⟩),.func (.yield l) #[] #[]] W fun e o=>((∃v,e= .returned v)/\yw b mb B s I o/\h o)\/(∃Z,e= .panicked Z/\Pn Z o):=by
 have a1:∀{g b5:World},g.grownBy b5 (some b)->h g->h b5:=fun c9 f=>dk _ _ (KeepsFrom.of_grownBy c9 (fun a9 e=>by cases e;exact ea)) f;refine callsIn_wide.2 ?_;go_in;go_wp2;go_step3
 go_wp2;go_step3
 go_wp2;have U:∀{g:World}{p:Nat}{c:Int}(q:Nat),Iw b mb B s I g p c p c->Iw b mb B s I (g.drewN q) p c p c:=fun q f=>f.gr O T af (by omega) (nh (qQ _ b) q) f.sc id;have G:∀{g:World}(q:Nat),h g->h (g.drewN q):=fun q f=>a1 (nh (qQ _ b) q) f;have cT:∀{g:World}{p:Nat}{c:Int}(Y:Nat),blk s (s.size+1) p=blk s (s.size+1) Y->p<=Y->Y<=s.size->Iw b mb B s I g p c p c->Iw b mb B s I (g.setCell ⟨b,3,none⟩ (.int .i64 (Y:Int))) Y c Y c:=fun Y c6 ds d0 f=>f.gr O T af (by omega) (eL _ b 3 _) (f.sc.setP _) (bs _ _ _ _ c6 ds d0);have cr:∀{g:World}(v:Value),h g->h (g.setCell ⟨b,3,none⟩ v):=fun v f=>a1 (eL _ b 3 v) f;go_loopw [] (fun wr=>∃(p:Nat) (c:Int),Iw b mb B s I wr p c p c/\h wr) (fun wr=>s.size-qj b wr)
 case atStart=>exact⟨b1,bE,a8,d7⟩
 case round=>
  obtain⟨p,c,al,bo⟩:=hrel;have bA:=jA.pos al.sc;obtain⟨cF,ef,bx⟩:=d4 _ _ _ al.ii;obtain⟨t,u,r,C,A,z,w,y⟩:=jA.cells al.sc;by_cases a3:p<s.size
  ·have en:(p:Int)<(s.size:Int):=by omega
   have b3:=fun i=>aI a3 i;have bt:=ab bA;clear bA;go_wp2_with fail;go_quiet (fail)
   go_wp2_with fail;have a4:=U nq al;have bd:=G nq bo;generalize wr.drewN nq=cN at a4 bd⊢;clear t u r C A z w y al bo;obtain⟨t,u,r,C,A,z,w,y⟩:=jA.cells a4.sc;have an:∀i,Calls Tryz.prog 57 #[.int .u8 (ae s p)] i fun e cb=>e= .returned (.bool (dJ (ae s p)))/\cb=i:=fun i=>(sL _ i).mono fun e cb f=>⟨f.1,f.2.symm⟩;cases hbl:dJ (ae s p) with
   |true=>
    have a7:=zw s p a3 hbl;rw[hbl]at an;generalize ae s p=d5 at b3 an;clear hbl;go_quiet ((go_at_call 57;exact Calls.quiet_of_same (an _)))
    have H:=cT (p+1) a7 (by omega) (by omega) (U nq a4);have R:=cr (.int .i64 ((p+1:Nat):Int)) (G nq bd);rw[show((p+1:Nat):Int)=(p:Int)+1 by omega]at H R;go_wp2_with fail;exact⟨⟨p+1,c,H,R⟩,by rw[jA.pos H.sc,bt.out];omega⟩
   |false=>
    rw[hbl]at an;go_quiet ((go_at_call 57;exact Calls.quiet_of_same (an _)))
    go_wp2_with fail;have H:=U nq a4;have R:=G nq bd;generalize cN.drewN nq=cl at H R⊢;clear t u r C A z w y a4 bd an;obtain⟨t,u,r,C,A,z,w,y⟩:=jA.cells H.sc;have ak:=fun i=>CF s p i;by_cases V:ae s p=45/\ae s (p+1)=45
    ·rw[decide_eq_true V]at ak;have a7:=Bb s p V.1 V.2;have eg:=oh s p bx;have ei:=mT s p V.1;go_quiet ((go_at_call 58;exact Calls.quiet_of_same (ak _)))
     go_wp2_with fail;have j:=U nq H;have a2:=G nq R;generalize cl.drewN nq=cx at j a2⊢;clear t u r C A z w y H R ak b3;go_loopw [] (fun bk=>∃(k Q:Nat),p<=k/\k<=s.size/\s.size<k+Q/\FX Ds s Q k (Af s p)/\Iw b mb B s I bk k c p c/\h bk) (fun bk=>s.size-qj b bk)
     case atStart=>exact⟨p,s.size+1,Nat.le_refl _,bx,by omega,⟨rfl⟩,j,a2⟩
     case round=>
      obtain⟨k,Q,d6,dn,ep,bl,L,br⟩:=hrel;obtain⟨Q,rfl⟩:∃q,Q=q+1:=⟨Q-1,by omega⟩;obtain⟨t,u,r,C,A,z,w,y⟩:=jA.cells L.sc;have J:=bl.out;rw[cZ]at J;have b4:=jA.pos L.sc;have cz:=ab b4;clear b4;have b0:∀{g:World}{q:Nat}(a9:Nat),Iw b mb B s I g q c p c->Iw b mb B s I (g.drewN a9) q c p c:=fun a9 f=>f.gr O T af (by omega) (nh (qQ _ b) a9) f.sc id;have dp:∀{g:World}{q:Nat}(b2:Nat),Iw b mb B s I g q c p c->Iw b mb B s I (g.setCell ⟨b,3,none⟩ (.int .i64 (b2:Int))) b2 c p c:=fun b2 f=>f.gr O T af (by omega) (eL _ b 3 _) (f.sc.setP _) id;by_cases ct:k<s.size
      ·have ed:(k:Int)<(s.size:Int):=by omega
       have b9:=fun i=>aI ct i;go_wp2_with fail;go_quiet (fail)
       go_wp2_with fail;have ar:=b0 nq L;have ap:=G nq br;generalize wr.drewN nq=d1 at ar ap⊢;clear t u r C A z w y L br;obtain⟨t,u,r,C,A,z,w,y⟩:=jA.cells ar.sc;by_cases am:ae s k=10
       ·rw[if_neg (by rw[am];decide)]at J;rw[am]at b9;have bn:=ab J;clear J bl am;go_quiet (fail)
        go_wp2_with fail;have F:=b0 nq ar;have K:=G nq ap;rw[<-bn.out]at a7;have bb:Iw b mb B s I (d1.drewN nq) k c k c:=⟨F.sc,F.mp,F.ly,bs _ _ _ _ a7 d6 dn F.ii,F.sz⟩;exact⟨⟨k,c,bb,K⟩,by rw[jA.pos F.sc,bt.out];have:=bn.out;omega⟩
       ·have cq:Ds (ae s k)=true:=by
         have:=dj ct;unfold Ds;rw[decide_eq_true_iff];exact⟨am,by omega⟩
        rw[if_pos cq]at J;have d9:(ae s k==10)=false:=by rw[beq_eq_false_iff_ne];exact am
        generalize ae s k=d5 at b9 d9;clear cq am bl;have cB:FX Ds s Q (k+1) (Af s p):=⟨J⟩;clear J;go_quiet (fail)
        have F:=dp (k+1) (b0 nq ar);have K:=cr (.int .i64 ((k+1:Nat):Int)) (G nq ap);rw[show((k+1:Nat):Int)=(k:Int)+1 by omega]at F K;go_wp2_with fail;exact⟨⟨k+1,Q,by omega,by omega,by omega,cB,F,K⟩,by rw[jA.pos F.sc,cz.out];omega⟩
      ·obtain rfl:k=s.size:=by omega
       rw[if_neg (by rw[aX (Nat.lt_irrefl _)];decide)]at J;have bn:=ab J;clear J bl;have c7:Iw b mb B s I wr s.size c s.size c:=⟨L.sc,L.mp,L.ly,bs _ _ _ _ (by rw[a7,<-bn.out]) bx (Nat.le_refl _) L.ii,L.sz⟩;go_wp2_with fail;go_quiet (fail)
       go_wp2;rw[Exit.noGoto_ret];refine bodyPost_ret (results_none rfl _ _ _) rfl ?_;exact .inl ⟨⟨_,rfl⟩,.fin c (U _ c7),G _ br⟩
    ·have b8:¬(ae s p=45/\ae s (p+1)=45):=V;rw[decide_eq_false V]at ak;have ca:¬dJ (ae s p)=true:=by rw[hbl];simp
     have cc:fG s p:=⟨a3,ca,b8⟩;have bD:=fD s p a3;have b7:=fun (i:World) (a8:Iw b mb B s I i p c p c) (eb:Int) (df:bO b i s (.map (some mb)) eb p c false)=>zu s d8 b mb i p c a3 cF (by omega) T af df a8.mp a8.ly;have av:=fun W=>cn p c W cc;go_quiet ((go_at_call 58;exact Calls.quiet_of_same (ak _)))
     go_wp2_with fail;have j:=U nq H;have a2:=G nq R;obtain⟨c8,bN⟩:=j.sc;have a0:=b7 _ j c8 bN;have a6:=fun (W:World) (l:Int) (c5:(rdI s p).ok=false)=>yw.bad (b:=b) (mb:=mb) (B:=B) (I:=I) (W:=W) p l cc c5;generalize cl.drewN nq=cx at j a2 a0 bN⊢;clear t u r C A z w y H R ak b3 b7 hbl ca V b8 cn bN;generalize rdI s p=cI at a0 bD av a6;obtain⟨cP,E,bh,S,M,N⟩:=cI;simp only at a0 bD av a6;refine a0.mono ?_;rintro e m ⟨rfl,ao,X⟩;have ap:=a1 ao a2;have b6:b<m.heap.size:=lt_of_block X;clear a0;cases cP with
     |false=>
      have ck:=O _ _ _ _ j.ii j.sc.x ao;have a5:=World.grownBy_alloc m (.cells #[.int .i64 S,.int .i64 p,.int .i64 (E:Int),.int .i64 c,.int .i64 M,.string N] 45) (some b);have cw:=O _ _ _ _ ck ⟨_,_,X⟩ a5;have K:=a1 a5 ap;have cg:bO b (m.alloc (.cells #[.int .i64 S,.int .i64 p,.int .i64 (E:Int),.int .i64 c,.int .i64 M,.string N] 45)) s (.map (some mb)) (p:Int) (E:Int) (c+bh) true:=(Below.heap_alloc m _ b b6).trans X;have cs:tO (m.alloc (.cells #[.int .i64 S,.int .i64 p,.int .i64 (E:Int),.int .i64 c,.int .i64 M,.string N] 45)):=j.ly.blocks (fun k eh=>((Below.heap_alloc m _ k (by have:=j.sz;have:=ao.size;omega)).trans (ao.block k (by have:=j.sz;omega) (by simp;omega))));have cf:B<=(m.alloc (.cells #[.int .i64 S,.int .i64 p,.int .i64 (E:Int),.int .i64 c,.int .i64 M,.string N] 45)).heap.size:=by have:=j.sz;have:=ao.size;simp;omega
      obtain⟨t,u,r,C,A,z,w,y⟩:=bB X;have cm:Hid (yw b mb B s I (m.alloc (.cells #[.int .i64 S,.int .i64 p,.int .i64 (E:Int),.int .i64 c,.int .i64 M,.string N] 45))/\h (m.alloc (.cells #[.int .i64 S,.int .i64 p,.int .i64 (E:Int),.int .i64 c,.int .i64 M,.string N] 45))):=⟨a6 _ c rfl cg cs cf cw,K⟩;clear ck cw cg cs cf K a6 av;go_wp2;rw[Exit.noGoto_ret];refine bodyPost_ret (results_none rfl _ _ _) rfl ?_;exact .inl ⟨⟨_,rfl⟩,cm.out.1,cm.out.2⟩
     |true=>
      have bA:=bD rfl;have a5:=World.grownBy_alloc m (.cells #[.int .i64 S,.int .i64 p,.int .i64 (E:Int),.int .i64 c,.int .i64 M,.string N] 45) (some b);have ar:Iw b mb B s I m E (c+bh) p c:=j.gr O T af (by omega) ao ⟨_,X⟩ id;have F:Iw b mb B s I (m.alloc (.cells #[.int .i64 S,.int .i64 p,.int .i64 (E:Int),.int .i64 c,.int .i64 M,.string N] 45)) E (c+bh) p c:=ar.gr O T af (by omega) a5 ⟨_,(Below.heap_alloc m _ b b6).trans X⟩ id;have K:=a1 a5 ap;obtain⟨ec,tmps,el,ek,bw,cv⟩:=av _ rfl F K;unfold vw at bw;simp only at bw;obtain⟨t,u,r,C,A,z,w,y⟩:=bB X;clear a6 av;go_upto_region 8 with fail
      refine(wpIn_wide (n:=n)).1 ?_
      gi_wp2
      refine⟨fun f=>by simp[Fence.wide]at f,cv.mono ?_⟩;rintro e em (⟨rfl,bb,d3⟩|⟨Z,rfl,d2⟩)
      ·clear t u r C A z w y bw cv
       gi_wp2
       go_wp2_with fail;exact⟨⟨E,c+bh,bb,d3⟩,by rw[jA.pos bb.sc,bt.out];omega⟩
      ·exact⟨rfl,.inr ⟨Z,rfl,d2⟩⟩
  ·obtain rfl:p=s.size:=by omega
   go_wp2_with fail;go_quiet (fail)
   go_wp2;try rw[Exit.noGoto_normal]
   go_end0
   exact .inl ⟨⟨_,rfl⟩,.fin c (U _ al),G _ bo⟩
theorem xa(w:World)(m:TypeId)(fr:Nat×Nat)(l:w.heap[1]?=some (.cells uI m fr))(kind:Int)(o:∀i,i<20->gQ.getD i 0≠kind):
  Calls Tryz.prog 191 #[.int .i64 kind] w fun e t=>e= .returned (.tuple #[.agg #[.int .i64 0,.int .i64 0,.int .i64 0],.bool false])/\Below w.heap.size w t:=by
 have s:=lt_of_block l;have g:∀a,Below w.heap.size w (w.alloc a):=fun a=>(Below.refl _ w).alloc (Nat.le_refl _) a;have v:Hid (dQ w.heap.size (w.alloc (.cells #[.int .i64 0,.int .i64 0,.int .i64 0] 179)) 0 0 0/\Below w.heap.size w (w.alloc (.cells #[.int .i64 0,.int .i64 0,.int .i64 0] 179))):=⟨heap_alloc_new w _,g _⟩;have p:=ab o;clear o;go_in;go_wp2_with (refine wpList_load_row rfl 180 _ rfl 1 rfl m _ fr _ (((g _).block _ s).trans l) Tryz.underlying180 rfl (by kernel_rfl) ?_);go_loopw [7] (fun d wr=>∃b:Nat,b<=20/\d= .int .i64 b/\Hid (dQ w.heap.size wr 0 0 0/\Below w.heap.size w wr)) (fun d _=>20-(intOf d).toNat)
 case atStart=>exact⟨0,by omega,rfl,v.out⟩
 case round=>
  obtain⟨b,y,rfl,c⟩:=hrel;by_cases k:b<20
  ·have B:(b:Int)<20:=by omega
   have f:=fun w=>FW b k w;have u:=lt_of_block c.out.1;have n:∀a,Below wr.heap.size wr (wr.alloc a):=fun a=>(Below.refl _ wr).alloc (Nat.le_refl _) a;have j:=p.out b k;generalize gR (3*b+1)=x at f;generalize gR (3*b+2)=C at f;generalize gQ.getD b 0=r at f j;have G:(r==kind)=false:=by simpa using j
   have q:Hid (∀a,dQ w.heap.size (wr.alloc a) 0 0 0/\Below w.heap.size w (wr.alloc a)):=fun a=>⟨((n a).block _ u).trans c.out.1,c.out.2.trans ((n a).mono c.out.2.size)⟩;go_wp2_with fail;exact⟨⟨b+1,by omega,by go_num,q.out _⟩,by simp[intOf];omega⟩
  ·obtain rfl:b=20:=by omega
   obtain⟨z,E,A,F⟩:=c.out.1.cells;have h:Hid (dQ w.heap.size (((wr.setCell ⟨w.heap.size,0,none⟩ (.int .i64 0)).setCell ⟨w.heap.size,1,none⟩ (.int .i64 0)).setCell ⟨w.heap.size,2,none⟩ (.int .i64 0)) 0 0 0/\Below w.heap.size w (((wr.setCell ⟨w.heap.size,0,none⟩ (.int .i64 0)).setCell ⟨w.heap.size,1,none⟩ (.int .i64 0)).setCell ⟨w.heap.size,2,none⟩ (.int .i64 0))):=⟨dQ.put c.out.1 0 0 0,((c.out.2.setCell (Nat.le_refl _) _).setCell (Nat.le_refl _) _).setCell (Nat.le_refl _) _⟩;go_wp2_with fail;exact bodyPost_ret (oQ rfl _ _ _ ⟨w.heap.size,0,none⟩ (.bool false) _ rfl rfl (yv _ _ _ _ _ h.out.1)) rfl ⟨rfl,h.out.2⟩
theorem yx:∀j,j<20->gR (3*j+1)=sH (gQ.getD j 0)/\gR (3*j+2)=FL (gQ.getD j 0)/\cu (gQ.getD j 0)=true/\∀i,i<j->gQ.getD i 0≠gQ.getD j 0:=by decide
theorem Hk{k:Int}(a:cu k=true)(d:k<=78):∃j,j<20/\gQ.getD j 0=k:=by
 have c:k=10\/k=26\/60<k:=of_decide_eq_true a;have b:k=10\/k=26\/k=61\/k=62\/k=63\/k=64\/k=65\/k=66\/k=67\/k=68\/k=69\/k=70\/k=71\/k=72\/k=73\/k=74\/k=75\/k=76\/k=77\/k=78:=by omega
 rcases b with rfl|rfl|rfl|rfl|rfl|rfl|rfl|rfl|rfl|rfl|rfl|rfl|rfl|rfl|rfl|rfl|rfl|rfl|rfl|rfl
 ·exact⟨1,by decide,rfl⟩
 ·exact⟨0,by decide,rfl⟩
 ·exact⟨14,by decide,rfl⟩
 ·exact⟨15,by decide,rfl⟩
 ·exact⟨16,by decide,rfl⟩
 ·exact⟨17,by decide,rfl⟩
 ·exact⟨18,by decide,rfl⟩
 ·exact⟨19,by decide,rfl⟩
 ·exact⟨11,by decide,rfl⟩
 ·exact⟨9,by decide,rfl⟩
 ·exact⟨10,by decide,rfl⟩
 ·exact⟨12,by decide,rfl⟩
 ·exact⟨13,by decide,rfl⟩
 ·exact⟨8,by decide,rfl⟩
 ·exact⟨2,by decide,rfl⟩
 ·exact⟨3,by decide,rfl⟩
 ·exact⟨4,by decide,rfl⟩
 ·exact⟨5,by decide,rfl⟩
 ·exact⟨6,by decide,rfl⟩
 ·exact⟨7,by decide,rfl⟩
end Go.Proofs.YtcbmoiabehpliaaGreatDoor
