import Derived.Test.YtoahhnnflblfaaaGreatDoorHVk16
import Derived.Test.YtoahhnnflblfaaaGreatDoorHVk23
import Derived.Test.YtoahhnnflblfaaaGreatDoorHVk27
set_option linter.all false
set_option maxRecDepth 100000
set_option maxHeartbeats 12800000
open Option renaming none->M,some->O
open Go.Value renaming int->Q,slice->T,pointer->X,string->A1,ownBlock->A2,bool->A5,iface->A8,string->Br,agg->B0
open Go.IntKind renaming i64->S
open Go.Proofs.Tryz renaming prog->U
open Go.RowKit renaming Hid->V,Below->A6,intOf->A9
open Go.Ending renaming returned->Y
open Go renaming World->Z,Value->Ax,Calls->A4
open Bool renaming false->A0,true->A3
open Go.Obj renaming cells->A7
namespace Go.Proofs.YtoahhnnflblfaaaGreatDoor
open Go.RowKit
def bgC(c k:Int):Bool:=decide ((k=1/\bC c=A3)\/((k=2\/k=3)/\ch c=A3)\/(k=4/\c=34))
def bgT(x:ByteArray)(k:Int):Bool:=decide (x.size<=(vw k).size)&&(((vw k).extract 0 x.size).toList==x.toList)
def bgL(x:ByteArray):List Int->Bool
 |[]=>A0
 |k::r=>if bgC (aw x 0) k=A3 then A3 else if bgT x k=A3 then A3 else bgL x r
def EI(ks:List Int)(x:ByteArray):Bool:=if x.size=1/\aw x 0=45 then A3 else bgL x ks
structure akI (x:ByteArray) (ks:List Int) (R:Bool):Prop where
 out:bgL x ks=R
theorem Hf(w:Z)(v:Ax)(ks:List Int)(x:ByteArray)(h:aK w v ks)(a8:ks.length<=1000)(a5:0<x.size)(bp:x.size<=70000):
  A4 U 78 #[v,A1 x] w fun e d=>e= Y (A5 (EI ks x))/\A6 w.heap.size w d:=by
 have J:=fun w=>eI a5 w;rw[show(((0:Nat):Int))=0 from rfl]at J;obtain⟨bd,bj,rfl⟩:=h.form;unfold EI;by_cases n:x.size=1/\aw x 0=45
 ·rw[ab n];rw[n.2]at J;have bq:=n.1;clear h n;go_in;go_wp2_with fail;go_ret;exact⟨rfl,ai _ _⟩
 ·rw[aa n];obtain⟨A,B⟩:=aA (bgL x ks);rw[B];obtain⟨t,I⟩:=aA ks.length;rw[I]at h a8⊢;have y:=eH h I;have an:akI x (ks.drop 0) A:=⟨B⟩;obtain⟨f,F⟩:=aA (aw x 0);have a0:=aj F;rw[F]at J n;have a6:((x.size:Int)=1/\(f==45)=A0)\/((x.size:Int)==1)=A0:=by
   rcases Classical.em (x.size=1) with g|g
   ·exact .inl ⟨by omega,by rw[aL];exact fun e=>n ⟨g,e⟩⟩
   ·exact .inr (by rw[aL];omega)
  clear h I B F n;rcases a6 with⟨p1,p2⟩|p1;all_goals
   go_in;go_wp2_with fail;clear p1;try clear p2
   go_loopw [18] (fun am wr=>∃j:Nat,j<=t/\am= Q S j/\akI x (ks.drop j) A/\A6 w.heap.size w wr) (fun am _=>t-(A9 am).toNat)
   case atStart=>exact⟨0,aG _,rfl,an,ai _ _⟩
   case round=>
    obtain⟨j,bl,rfl,z,u⟩:=hrel;clear an;have c:=z.out;by_cases a7:j<t
    ·have bo:(j:Int)<(t:Int):=by omega
     have bn:(0:Int)<=(j:Int):=by omega
     obtain⟨a,H⟩:=bH y.out.2 a7;obtain⟨bf,rfl,bk⟩:=(y.out.1.below u).get H;have G:=List.getElem?_eq_some_iff.1 H;rw[ly G.1,G.2,bgL,a0.out]at c;have l:=aj u;clear H G z u;by_cases s:bgC f a=A3
     ·rw[ab s]at c;have m:=aj c;have q:=aH s;clear c s;rcases q with⟨rfl,b⟩|⟨rfl|rfl,b⟩|⟨rfl,rfl⟩
      ·go_wp2_with (go_at_call 71;refine(jz b _).mono ?_;rintro e d ⟨rfl,r⟩;subst d);go_ret;exact⟨by rw[<-m.out];rfl,l.out⟩
      ·go_wp2_with (go_at_call 73;refine(dK b _).mono ?_;rintro e d ⟨rfl,r⟩;subst d);go_ret;exact⟨by rw[<-m.out];rfl,l.out⟩
      ·go_wp2_with (go_at_call 73;refine(dK b _).mono ?_;rintro e d ⟨rfl,r⟩;subst d);go_ret;exact⟨by rw[<-m.out];rfl,l.out⟩
      ·go_wp2_with fail;go_ret;exact⟨by rw[<-m.out];rfl,l.out⟩
     ·rw[aa s]at c;have q:¬((a=1/\bC f=A3)\/((a=2\/a=3)/\ch f=A3)\/(a=4/\f=34)):=fun k=>s (bg k);have ao:(a=1/\bC f=A0)\/(a=2/\ch f=A0)\/(a=3/\ch f=A0)\/(a=4/\(f==34)=A0)\/((a==1)=A0/\(a==2)=A0/\(a==3)=A0/\(a==4)=A0):=by
       by_cases K:a=1
       ·refine .inl ⟨K,?_⟩;cases k:bC f with
        |false=>rfl
        |true=>exact absurd (.inl ⟨K,k⟩) q
       by_cases L:a=2
       ·refine .inr (.inl ⟨L,?_⟩);cases k:ch f with
        |false=>rfl
        |true=>exact absurd (.inr (.inl ⟨.inl L,k⟩)) q
       by_cases af:a=3
       ·refine .inr (.inr (.inl ⟨af,?_⟩));cases k:ch f with
        |false=>rfl
        |true=>exact absurd (.inr (.inl ⟨.inr af,k⟩)) q
       by_cases ak:a=4
       ·exact .inr (.inr (.inr (.inl ⟨ak,beq_eq_false_iff_ne.2 fun k=>q (.inr (.inr ⟨ak,k⟩))⟩)))
       ·exact .inr (.inr (.inr (.inr ⟨beq_eq_false_iff_ne.2 K,beq_eq_false_iff_ne.2 L,beq_eq_false_iff_ne.2 af,beq_eq_false_iff_ne.2 ak⟩)))
      have al:=fun w=>zF a w;unfold bgT at c;generalize vw a=o at al c;clear q s;by_cases p:(decide (x.size<=o.size)&&((o.extract 0 x.size).toList==x.toList))=A3
      ·rw[ab p]at c;have m:=aj c;rw[cL]at p;obtain⟨ap,ba⟩:=p;have t3:(x.size:Int)<=(o.size:Int):=by have:=aH ap;omega
       clear c ap;rcases ao with⟨rfl,b⟩|⟨rfl,b⟩|⟨rfl,b⟩|⟨rfl,b⟩|⟨a1,a2,a3,a4⟩;all_goals
        go_wp2_with (first|(go_at_call 71;refine(jz b _).mono ?_;rintro e d ⟨rfl,r⟩;subst d)|(go_at_call 73;refine(dK b _).mono ?_;rintro e d ⟨rfl,r⟩;subst d)|(go_at_call 118;refine(al _).mono ?_;rintro e bb ⟨rfl,C⟩));go_ret;exact⟨by rw[<-m.out];rfl,l.out.trans (C.mono l.out.size)⟩
      ·rw[aa p]at c;have av:akI x (ks.drop (j+1)) A:=⟨c⟩;clear c;have a9:(x.size:Int)<=(o.size:Int)/\((o.extract 0 x.size).toList==x.toList)=A0\/¬(x.size:Int)<=(o.size:Int):=by
        rcases bv o.size x.size with g|g
        ·exact .inr (by omega)
        ·refine .inl ⟨by omega,?_⟩;rw[bg g,fC]at p;simpa using p
       clear p;rcases a9 with⟨t3,ba⟩|t3;all_goals
        rcases ao with⟨rfl,b⟩|⟨rfl,b⟩|⟨rfl,b⟩|⟨rfl,b⟩|⟨a1,a2,a3,a4⟩;all_goals
         go_wp2_with (first|(go_at_call 71;refine(jz b _).mono ?_;rintro e d ⟨rfl,r⟩;subst d)|(go_at_call 73;refine(dK b _).mono ?_;rintro e d ⟨rfl,r⟩;subst d)|(go_at_call 118;refine(al _).mono ?_;rintro e bb ⟨rfl,C⟩));exact⟨⟨j+1,by omega,by go_num,av,l.out.trans (C.mono l.out.size)⟩,by simp[A9];omega⟩
    ·obtain rfl:j=t:=by omega
     rw[lA (by rw[y.out.2];exact ag _),bgL]at c;have m:=aj c;clear c z;go_wp2_with fail;go_ret;exact⟨by rw[<-m.out];rfl,u⟩
def aeF(s:ByteArray)(p n:Nat):Bool:=bC (aw s p)&&(!(bC (lk s (p+n)))&&!(ch (lk s (p+n))))
def wrL(s:ByteArray)(p:Nat)(ks:List Int):Nat->Nat->Nat
 |0,n=>n
 |f+1,n=>if p+n<s.size/\EI ks (s.extract p (p+n+1))=A3 then(if aeF s p (n+1)=A3 then n+1 else wrL s p ks f (n+1)) else n
def wrongF(s:ByteArray)(p:Nat)(ks:List Int):Nat:=p+wrL s p ks (s.size+1) 0
structure aeG (s:ByteArray) (p:Nat) (ks:List Int) (f n R:Nat):Prop where
 out:wrL s p ks f n=R
theorem ye(w:Z)(s:ByteArray)(p:Nat)(v:Ax)(ks:List Int)(h:aK w v ks)(ak:ks.length<=1000)(bo:s.size<=70000)(ba:p<s.size):
  A4 U 37 #[A1 s,Q S p,v] w fun e bd=>e= Y (Q S (wrongF s p ks))/\A6 w.heap.size w bd:=by
 have bb:=fun w=>eI ba w;obtain⟨K,L,rfl⟩:=h.form;unfold wrongF;obtain⟨l,y⟩:=aA (wrL s p ks (s.size+1) 0);rw[y];obtain⟨an,F⟩:=aA ks.length;have H:V (aK w (T K an L) ks/\ks.length<=1000):=⟨by rw[<-F];exact h,ak⟩;have I:aeG s p ks (s.size+1) 0 l:=⟨y⟩;rw[F];obtain⟨a2,C⟩:=aA (aw s p);have ap:=aj C;rw[C]at bb;have bp:(p:Int)<(s.size:Int):=by omega
 clear h ak y C F;go_in;go_wp2_with fail;go_loopw [7] (fun G wr=>∃(a d:Nat),p+a<=s.size/\s.size<p+a+d/\G= Q S a/\aeG s p ks d a l/\A6 w.heap.size w wr) (fun G _=>s.size+1-(A9 G).toNat)
 case atStart=>exact⟨0,s.size+1,by omega,by omega,rfl,I,ai _ _⟩
 case round=>
  obtain⟨a,d,bl,bk,rfl,q,m⟩:=hrel;clear I;obtain⟨d,rfl⟩:∃a6,d=a6+1:=⟨d-1,by omega⟩;have b:=q.out;rw[wrL]at b;by_cases al:p+a<s.size
  ·have a9:(p:Int)+(a:Int)<(s.size:Int):=by omega
   have bn:(0:Int)<=(p:Int)+(a:Int):=by omega
   have am:(s.extract p (p+a+1)).size=a+1:=by rw[oy];omega
   have n:=fun (J:Z) (a7:A6 w.heap.size w J)=>Hf J (T K an L) ks (s.extract p (p+a+1)) (H.out.1.below a7) H.out.2 (by omega) (by omega);have a3:(p:Int)+(a:Int)+1<=(s.size:Int):=by omega
   have a4:IntKind.i64.wrap ((p:Int)+(a:Int)+1)=(p:Int)+(a:Int)+1:=by rw[cw];omega
   have a5:((p:Int)+(a:Int)+1).toNat=p+a+1:=by omega
   have c:=aj m;obtain⟨ao,x⟩:=aA (EI ks (s.extract p (p+a+1)));rw[x]at n b;have a8:=c.out;cases ao with
   |false=>
    rw[aa (fun h=>by cases h.2)]at b;have f:=aj b;clear b q m x am;go_wp2_with fail;refine cd (n _ c.out) fun bf g=>?_;clear n;go_wp2_with fail;go_ret;exact⟨by first|(rw[<-f.out,uL];rfl)|(rw[<-f.out];rfl),c.out.trans (g.mono c.out.size)⟩
   |true=>
    rw[ab ⟨al,rfl⟩]at b;unfold aeF at b;rw[ap.out]at b;have o:=fun w=>gD s (by omega) ((p:Int)+((a:Int)+1)) (p+(a+1)) (by omega) w;generalize lk s (p+(a+1))=af at o b;obtain⟨av,z⟩:=aA (bC a2);obtain⟨a0,A⟩:=aA (bC af);obtain⟨a1,B⟩:=aA (ch af);rw[z,A,B]at b;have t:=fun w=>jz z w;have u:=fun w=>jz A w;have r:=fun w=>dK B w;have bj:=aj m;clear z A B q m x am a8;go_wp2_with fail;refine cd (n _ c.out) fun bf g=>?_;clear n a3 a4 a5;cases av with
    |false=>
     have k:aeG s p ks d (a+1) l:=⟨b⟩;clear b u r o;go_wp2_with (first|(go_at_call 71;with_reducible refine fc (t _) ?_));exact⟨⟨a+1,d,by omega,by omega,by go_num,k,c.out.trans (g.mono c.out.size)⟩,by simp[A9];omega⟩
    |true=>
     cases a0 with
     |true=>
      have k:aeG s p ks d (a+1) l:=⟨b⟩;clear b r;go_wp2_with (first|(go_at_call 71;with_reducible refine fc (t _) ?_)|(go_at_call 71;with_reducible refine fc (u _) ?_)|(go_at_call 70;refine fc (o _) ?_));exact⟨⟨a+1,d,by omega,by omega,by go_num,k,c.out.trans (g.mono c.out.size)⟩,by simp[A9];omega⟩
     |false=>
      cases a1 with
      |true=>
       have k:aeG s p ks d (a+1) l:=⟨b⟩;clear b;go_wp2_with (first|(go_at_call 71;with_reducible refine fc (t _) ?_)|(go_at_call 71;with_reducible refine fc (u _) ?_)|(go_at_call 73;refine fc (r _) ?_)|(go_at_call 70;refine fc (o _) ?_));exact⟨⟨a+1,d,by omega,by omega,by go_num,k,c.out.trans (g.mono c.out.size)⟩,by simp[A9];omega⟩
      |false=>
       have f:=aj b;clear b;go_wp2_with (first|(go_at_call 71;with_reducible refine fc (t _) ?_)|(go_at_call 71;with_reducible refine fc (u _) ?_)|(go_at_call 73;refine fc (r _) ?_)|(go_at_call 70;refine fc (o _) ?_));go_ret;exact⟨by first|(rw[<-f.out,uL,uL];rfl)|(rw[<-f.out,uL];rfl)|(rw[<-f.out];rfl),c.out.trans (g.mono c.out.size)⟩
  ·rw[aa (fun h=>al h.1)]at b;have f:=aj b;have a9:¬(p:Int)+(a:Int)<(s.size:Int):=by omega
   clear b q;go_wp2_with fail;go_ret;exact⟨by first|(rw[<-f.out,uL];rfl)|(rw[<-f.out];rfl),m⟩
open Go.Maps Go.WideMaps
inductive Ss (E:Pe) (C:Nat->Fo->Nat->Prop):Nat->Nat->Fo->Nat->Prop where
 |stop {k:Nat}:k<E.n->Ss E C 0 k .nil k
 |sep {m k j:Nat}{R:Fo}:(E.tk k).k=5->k<E.n->Ss E C m (k+1) R j->Ss E C (m+1) k R j
 |go {m k k1 j:Nat}{x R:Fo}:(E.tk k).k≠5->(E.tk k).k≠6->(E.tk k).k≠43->k<E.n->C k x k1->Ss E C m k1 R j->Ss E C (m+1) k (x.app R) j
section
variable {E : Pe} {i j : Nat}
abbrev CSt(E:Pe)(i:Nat)(x:Fo)(j:Nat):Prop:=CI E 43 #[pV E] i x j
theorem LJ{R:Fo}{m:Nat}{u:Int}(a0:u=43\/u=6)(bq:(E.tk j).k=u)(ao:Ss E (CSt E) m i R j):CL E 21 #[pV E,Q S u] i R j:=by
 intro o a q al br;have a7:V (fH E o a q o i a .nil M 0 0):=⟨gL.start al,Ac.nil _ a,rfl,bi _ _ _ _,Fr.nil _ _ _,fun b0 bD bA bp=>by simp[A2]at bp⟩;have ba:=aj ao;clear al ao;go_in;go_wp2_with fail;go_loopg [5,6] m (fun gk bt bE wr=>∃(k:Nat) (D w:Fo) (g:Option Addr) (c h:Nat) (bb:List Mb),bt= T g c h/\V (Ss E (CSt E) gk k w j/\fH E o a q wr k bb D g c h/\D.app w=R))
 case atStart=>exact⟨i,.nil,R,M,0,0,a,rfl,ba.out,a7.out,rfl⟩
 case round=>
  obtain⟨y,D,w,g,c,h,v,rfl,t⟩:=hrel;obtain⟨bo,b,d⟩:=t.out;cases bo with
  |stop p=>
   have n:=b.nw;have e:=eH b d;clear b d t;have ak:(u !=u)=A0:=by simp
   go_wp2_with fail;refine cd (jb bq n p) fun a5 f=>?_;go_wp2_with fail;go_ret;obtain⟨b,d⟩:=e.out;have l:=b.below f;rw[Fo.app_nil]at d;rw[<-d];exact⟨_,v,rfl,⟨l.fr,l.sv⟩,by rw[l.ln];exact l.ow,l.ac,l.nw.out.sp,l.nw.out.kt,l.nw.out.bl⟩
  |@sep H _ _ _ x p s=>
   have n:=b.nw;have e:=jn b d s;clear b d t s;have ak:((5:Int)!=u)=A3:=by rcases a0 with rfl|rfl<;>rfl
   go_wp2_with fail;refine cd (jb x n p) fun a5 f=>?_;have F:=nB n f;go_wp2_with fail;refine cd (isY x F p) fun J a4=>?_;have a8:V (fH E o a q J (y+1) v D g c h):=(e.out.1.below f).move a4;clear a4 f;go_wp2_with fail;go_roundg H
   case measure=>omega
   case rel=>exact⟨y+1,D,w,g,c,h,v,rfl,e.out.2.2,a8.out,e.out.2.1⟩
  |@go H _ G _ A K x bf bj p bk s=>
   have n:=b.nw;have e:=jn b d s;have ap:V (a.length+(D.app (A.app K)).sz<=50000000):=by rw[d];exact br
   clear b d t s;have ak:((E.tk y).k !=u)=A3:=by rcases a0 with rfl|rfl<;>simp[bf,bj]
   go_wp2_with fail;refine cd (jb rfl n p) fun a5 f=>?_;have F:=nB n f;go_wp2_with fail;refine cd (isN x F p) fun J L=>?_;have B:V (fH E o a q J y v D g c h):=(e.out.1.below f).below L;clear f L;go_wp2_with fail;refine(bk _ _ _ B.out.nw.out.sp (by have I:=ap.out;rw[B.out.ac.len];simp only[Fo.sz_app]at I;omega)).mono ?_;rintro bd z ⟨a6,C,rfl,a1,a3⟩;have r:V (pE E o a q z G C D A a6 g c h):=B.out.up a3 a1;clear a3 a1;have bs:c<=50000000:=by have I:=ap.out;have bd:=r.out.ln;have bx:=D.len_le;simp only[Fo.sz_app]at I;omega
   go_wp2_with (at_builtin;refine eJ rfl _ _ rfl E.base g c h (D.tops a.length) rfl (by rw[Fo.tops_len];exact r.out.ln) (aI r.out.ow (bI z _)) (by rw[bu];have:=r.out.nw.out.sp.lt.2;omega) z.heap.size a6 rfl (ar z _) bs ?_;intro bn af bw a2 an am;have a9:V (fH E o a q bw G C (D.app A) (O ⟨bn,0,M⟩) (c+1) af):=r.out.put a2 an am;clear a2 an am);go_roundg H
   case measure=>omega
   case rel=>exact⟨G,D.app A,K,_,c+1,af,C,rfl,e.out.2.2,a9.out,by rw[Fo.app_app];exact e.out.2.1⟩
end
section
variable {E : Pe} {i j : Nat}
theorem ab5{k a:Nat}{q:Int}(am:q=20\/q=15)(m:(E.tk i).k=q)(br:i<E.n){x y:Fo}(av:CI E 91 #[pV E,Q S 0] (i+1) x k)(a0:CI E 84 #[pV E] k y a)(bt:a<E.n)(ao:(E.tk a).k≠15)(ap:(E.tk a).k≠16)(bs:i+1<=a):CI E 93 #[pV E,B0 (jL q (E.tk i))] (i+1) (one (iB 7 (E.tk i) (E.tk (a-1)).t) (x.app y)) (a):=by
 intro al bl bk J o;have L:=gL.start J;clear J;have bq:((E.tk a).k==15)=A0:=by simp[ao]
 rcases am with rfl|rfl;all_goals
  obtain⟨bD,K,af,ak⟩:=tL (w:=al) m L;simp only[jL]at K;obtain⟨b7,b8,ca,cb,cc,ce⟩:=tC ak m;go_in;go_wp2_with fail;refine cd (gA m _ _) fun bE G=>?_;have B:=nB af G;have an:=aj B.out.sp.lt.2;have d:=nA B (dE (nN 7 (E.tk i)) s0 s0);clear G;clear K;go_wp2_with fail;refine(av _ _ _ d.out.sp (by simp only[aJ,Fo.sz_app]at o;omega)).mono ?_;rintro I b4 ⟨v,bo,rfl,a1,r⟩;have h:=nP d r;have ac:=nL d r;clear r;go_wp2_with fail;refine(a0 _ _ _ h.out.sp (by rw[ac.out.len];simp only[aJ,Fo.sz_app]at o;omega)).mono ?_;rintro I b6 ⟨z,bp,rfl,a3,s⟩;have e:=nP h s;have F:=nL h s;clear s;obtain⟨b2,bw,g,c,bx⟩:=nKI [v,z] #[Q S v,Q S z] rfl 2 rfl e an.out (by decide);have u:=nCA e;have cf:=fun p=>(u p).1;have ck:=fun p=>(u p).2;clear u;obtain⟨a5,a6,a7,a8,a9,ba,bb,bd,bf,bj⟩:=nC g;go_wp2_with fail;refine cd (jb rfl g (by omega)) fun b3 b=>?_;have C:=nB g b;have H:=b;clear b;replace c:=oK c (Kt.of_below H) (.inl rfl);clear H;go_wp2_with fail;refine cd (isN ap C (by omega)) fun bA b=>?_;have A:=nB C b;replace c:=oK c (Kt.of_below b) (.inl rfl);clear b;obtain⟨a5,a6,a7,a8,a9,ba,bb,bd,bf,bj⟩:=nC A;go_wp2_with fail;refine(ni A (by omega) (by omega) ⟨7,(E.tk i).f,0,(E.tk i).l,0,0,⟨#[]⟩,[],[v,z]⟩ M _ 0 0 _ _ (bi _ _ _ _) c.out (by rw[F.out.len,ac.out.len];simp only[aJ,Fo.sz_app]at o;omega) (Fr.nil _ _ _) (Fr.new e.out.kt.size) (iB 7 (E.tk i) (E.tk (a-1)).t) (ac.out.app F.out) (by rw[Fo.tops_app,a1,<-ac.out.len,a3];rfl)).mono ?_;rintro I b0 ⟨cl,bn,rfl,a2,a4⟩;go_wp2_with fail;go_ret;exact⟨_,_,rfl,a2,(pT a4).out⟩
theorem Hg{k b:Nat}{q:Int}(bo:q=20\/q=15)(A:(E.tk i).k=q)(cq:i<E.n){x y g:Fo}(bs:CI E 91 #[pV E,Q S 0] (i+1) x k)(bt:CI E 84 #[pV E] k y b)(bq:b<E.n)(ao:(E.tk b).k=15)(bw:CI E 93 #[pV E,B0 (jL 15 (E.tk b))] (b+1) g j)(cr:i+1<=j)(bp:j<=E.n):CI E 93 #[pV E,B0 (jL q (E.tk i))] (i+1) (one (iB 7 (E.tk i) (E.tk (j-1)).t) ((x.app y).app g)) (j):=by
 intro d a cm an m;have bd:=gL.start an;clear an;rcases bo with rfl|rfl;all_goals
  have br:2<=50000000:=by decide
  obtain⟨c4,a1,bf,bl⟩:=tL (w:=d) A bd;simp only[jL]at a1;obtain⟨c8,c9,da,dc,dd,df⟩:=tC bl A;go_in;go_wp2_with fail;refine cd (gA A _ _) fun c5 af=>?_;have L:=nB bf af;have av:=aj L.out.sp.lt.2;have s:=nA L (dE (nN 7 (E.tk i)) s0 s0);clear af;clear a1;go_wp2_with fail;refine(bs _ _ _ s.out.sp (by simp only[aJ,Fo.sz_app]at m;omega)).mono ?_;rintro z c7 ⟨a8,cp,rfl,a2,C⟩;have v:=nP s C;have ac:=nL s C;clear C;go_wp2_with fail;refine(bt _ _ _ v.out.sp (by rw[ac.out.len];simp only[aJ,Fo.sz_app]at m;omega)).mono ?_;rintro z G ⟨a9,r,rfl,a3,F⟩;have h:=nP v F;have bn:=nL v F;clear F;obtain⟨ce,cs,u,bk,ct⟩:=nKI [a8,a9] #[Q S a8,Q S a9] rfl 2 rfl h av.out (by decide);have H:=nCA h;have ck:=fun B=>(H B).1;have cl:=fun B=>(H B).2;clear H;obtain⟨bE,b0,b1,b2,b3,b4,b6,b7,b8,ca⟩:=nC u;have bb:V (fH E d a _ ce b r (x.app y) (O ⟨G.heap.size,0,M⟩) 2 2):=⟨u,ac.out.app bn.out,by rw[<-Fo.tops_len _ a.length,Fo.tops_app,a2,<-ac.out.len,a3];rfl,by rw[Fo.tops_app,a2,<-ac.out.len,a3];exact bk.out,Fr.new h.out.kt.size,sw h.out.sp (ag _)⟩;go_wp2_with fail;refine cd (jb ao u (by omega)) fun cf ak=>?_;have I:V (fH E d a _ cf b r (x.app y) (O ⟨G.heap.size,0,M⟩) 2 2):=bb.out.below ak;clear ak;go_wp2_with fail;refine cd (ix ao I.out.nw bq (by omega)) fun cb a7=>?_;have p:V (fH E d a _ cb (b+1) r (x.app y) (O ⟨G.heap.size,0,M⟩) 2 2):=I.out.move a7;clear a7;go_wp2_with fail;refine(bw _ _ _ p.out.nw.out.sp (by rw[p.out.ac.len];simp only[aJ,Fo.sz_app]at m⊢;omega)).mono ?_;rintro z o ⟨ba,J,rfl,a4,a6⟩;have e:V (pE E d a _ o j J (x.app y) g ba _ 2 2):=p.out.up a6 a4;clear a6 a4;obtain⟨dg,dj,dn,dp,ds,dx,d0,d1,ck,cl⟩:=nC e.out.nw;go_wp2_with (at_builtin;refine eJ rfl _ _ rfl E.base _ 2 2 (Fo.tops (x.app y) a.length) rfl ((Fo.tops_len _ _).trans e.out.ln) (aI e.out.ow (bI o _)) (by rw[bu];have:=e.out.nw.out.sp.lt.2;omega) o.heap.size ba rfl (ar o _) br ?_;intro am al cc a5 a0 ap;have c:V (fH E d a _ cc j J (Fo.app (x.app y) g) (O ⟨am,0,M⟩) (3) al):=e.out.put a5 a0 ap;obtain⟨cu,cv,cx,cy,cz,cB,c0,c1,c2,c3⟩:=nC c.out.nw;obtain⟨K,bA⟩:=nK c.out.nw av.out (T (O ⟨am,0,M⟩) (3) al);obtain⟨bE,b0,b1,b2,b3,b4,b6,b7,b8,ca⟩:=nC K;clear a5 a0 ap);have bj:=oK (E:=E) c.out.ow bA (.inl rfl);refine(ni K (by omega) bp ⟨7,(E.tk i).f,0,(E.tk i).l,0,0,⟨#[]⟩,[],((x.app y).app g).tops a.length⟩ M _ 0 0 _ _ (bi _ _ _ _) (by rw[Fo.tops_len,c.out.ln];exact bj.out) (by rw[c.out.ac.len];simp only[aJ,Fo.sz_app]at m⊢;omega) (Fr.nil _ _ _) c.out.fr (iB 7 (E.tk i) (E.tk (j-1)).t) c.out.ac rfl).mono ?_;rintro z c6 ⟨d2,cn,rfl,bx,bD⟩;go_wp2_with fail;go_ret;exact⟨_,_,rfl,bx,(pT bD).out⟩
theorem Hh{k c:Nat}{q:Int}(bo:q=20\/q=15)(A:(E.tk i).k=q)(cq:i<E.n){x y g:Fo}(bs:CI E 91 #[pV E,Q S 0] (i+1) x k)(bt:CI E 84 #[pV E] k y c)(bq:c<E.n)(ao:(E.tk c).k=16)(bw:CI E 84 #[pV E] (c+1) g j)(cr:i+1<=j)(bp:j<=E.n):CI E 93 #[pV E,B0 (jL q (E.tk i))] (i+1) (one (iB 7 (E.tk i) (E.tk (j-1)).t) ((x.app y).app g)) (j):=by
 intro d a cm an m;have bd:=gL.start an;clear an;rcases bo with rfl|rfl;all_goals
  have br:2<=50000000:=by decide
  obtain⟨c4,a1,bf,bl⟩:=tL (w:=d) A bd;simp only[jL]at a1;obtain⟨c8,c9,da,dc,dd,df⟩:=tC bl A;go_in;go_wp2_with fail;refine cd (gA A _ _) fun c5 af=>?_;have L:=nB bf af;have av:=aj L.out.sp.lt.2;have s:=nA L (dE (nN 7 (E.tk i)) s0 s0);clear af;clear a1;go_wp2_with fail;refine(bs _ _ _ s.out.sp (by simp only[aJ,Fo.sz_app]at m;omega)).mono ?_;rintro z c7 ⟨a8,cp,rfl,a2,C⟩;have v:=nP s C;have ac:=nL s C;clear C;go_wp2_with fail;refine(bt _ _ _ v.out.sp (by rw[ac.out.len];simp only[aJ,Fo.sz_app]at m;omega)).mono ?_;rintro z G ⟨a9,r,rfl,a3,F⟩;have h:=nP v F;have bn:=nL v F;clear F;obtain⟨ce,cs,u,bk,ct⟩:=nKI [a8,a9] #[Q S a8,Q S a9] rfl 2 rfl h av.out (by decide);have H:=nCA h;have ck:=fun B=>(H B).1;have cl:=fun B=>(H B).2;clear H;obtain⟨bE,b0,b1,b2,b3,b4,b6,b7,b8,ca⟩:=nC u;have bb:V (fH E d a _ ce c r (x.app y) (O ⟨G.heap.size,0,M⟩) 2 2):=⟨u,ac.out.app bn.out,by rw[<-Fo.tops_len _ a.length,Fo.tops_app,a2,<-ac.out.len,a3];rfl,by rw[Fo.tops_app,a2,<-ac.out.len,a3];exact bk.out,Fr.new h.out.kt.size,sw h.out.sp (ag _)⟩;go_wp2_with fail;refine cd (jb ao u (by omega)) fun cf ak=>?_;have I:V (fH E d a _ cf c r (x.app y) (O ⟨G.heap.size,0,M⟩) 2 2):=bb.out.below ak;clear ak;go_wp2_with fail;refine cd (isY ao I.out.nw bq) fun cb a7=>?_;have p:V (fH E d a _ cb (c+1) r (x.app y) (O ⟨G.heap.size,0,M⟩) 2 2):=I.out.move a7;clear a7;go_wp2_with fail;refine(bw _ _ _ p.out.nw.out.sp (by rw[p.out.ac.len];simp only[aJ,Fo.sz_app]at m⊢;omega)).mono ?_;rintro z o ⟨ba,J,rfl,a4,a6⟩;have e:V (pE E d a _ o j J (x.app y) g ba _ 2 2):=p.out.up a6 a4;clear a6 a4;obtain⟨dg,dj,dn,dp,ds,dx,d0,d1,ck,cl⟩:=nC e.out.nw;go_wp2_with (at_builtin;refine eJ rfl _ _ rfl E.base _ 2 2 (Fo.tops (x.app y) a.length) rfl ((Fo.tops_len _ _).trans e.out.ln) (aI e.out.ow (bI o _)) (by rw[bu];have:=e.out.nw.out.sp.lt.2;omega) o.heap.size ba rfl (ar o _) br ?_;intro am al cc a5 a0 ap;have b:V (fH E d a _ cc j J (Fo.app (x.app y) g) (O ⟨am,0,M⟩) (3) al):=e.out.put a5 a0 ap;obtain⟨cu,cv,cx,cy,cz,cB,c0,c1,c2,c3⟩:=nC b.out.nw;obtain⟨K,bA⟩:=nK b.out.nw av.out (T (O ⟨am,0,M⟩) (3) al);obtain⟨bE,b0,b1,b2,b3,b4,b6,b7,b8,ca⟩:=nC K;clear a5 a0 ap);have bj:=oK (E:=E) b.out.ow bA (.inl rfl);refine(ni K (by omega) bp ⟨7,(E.tk i).f,0,(E.tk i).l,0,0,⟨#[]⟩,[],((x.app y).app g).tops a.length⟩ M _ 0 0 _ _ (bi _ _ _ _) (by rw[Fo.tops_len,b.out.ln];exact bj.out) (by rw[b.out.ac.len];simp only[aJ,Fo.sz_app]at m⊢;omega) (Fr.nil _ _ _) b.out.fr (iB 7 (E.tk i) (E.tk (j-1)).t) b.out.ac rfl).mono ?_;rintro z c6 ⟨d2,cn,rfl,bx,bD⟩;go_wp2_with fail;go_ret;exact⟨_,_,rfl,bx,(pT bD).out⟩
end
section
variable {E : Pe} {i j : Nat}
theorem amF(a b c d e f:Ax)(w:Z):(Instr.field 88 (B0 #[a,b,c,d,e,f]) 0).run U w= .ok a w:=by kernel_rfl
theorem Hi{w w1:Z}{base e n f c r:Nat}{v u:Ax}{d y:List Ax}(o:w.ownsRow base e 1 v n d)(m:w.grownBy w1 u.ownBlock)(s:w.ownsRow f c 1 u r y)(l:e≠c):w1.ownsRow base e 1 v n d:=by
 obtain⟨t,b⟩:=o;refine⟨t,?_⟩;rcases b with b|⟨k,g,h,q,p,a,x⟩
 ·exact .inl b
 ·exact .inr ⟨k,g,h,q,p,(m.block _ (au a) (fun e=>gi s a l e.symm)).trans a,x⟩
theorem aeH{k L:Nat}(u:(E.tk i).k=19)(cz:i<E.n){c:List ByteArray}(cb:CM E (i+1) c k)(c0:k<E.n)(b8:(E.tk k).k=47){a y:Fo}(b9:CL E 89 #[pV E] (k+1) a L)(ce:CI E 84 #[pV E] L y j)(cB:i+1<=j)(ca:j<=E.n):CI E 94 #[pV E,B0 (jL 19 (E.tk i))] (i+1) (one (nd 9 (E.tk i) (E.tk (j-1)).t 0 0 z0 c) (a.app y)) (j):=by
 intro e m bA a7 v;have b1:=gL.start a7;clear a7;obtain⟨d2,a9,B,a3⟩:=tL (w:=e) u b1;simp only[jL]at a9;obtain⟨cq,cr,cs,ct,cu,cv⟩:=tC a3 u;go_in;go_wp2_with fail;refine(cb _ _ _ B.out.sp).mono ?_;clear a9;rintro I d3 ⟨cm,rfl,q,g,ao⟩;have b3:=nX B ao;have b:=aj g;have bE:V (Fr e.heap.size _):=q.le B.out.kt.size;obtain⟨o,p,rfl⟩:=cH g;have b7:=tK a3 ao.2.1;clear q g ao;obtain⟨cq,cr,cs,ct,cu,cv⟩:=tC b7 u;go_wp2_with fail;refine cd (gA u _ _) fun cp H=>?_;have a1:=nB b3 H;have J:=aj a1.out.sp.lt.2;replace b:=oK b (Kt.of_below H) (.inr rfl);have a2:=nA a1 (dE (nN 10 (E.tk i)) (T o c.length p) s0);replace b:=oK b (Kt.of_below (bI cp (A7 (dE (nN 10 (E.tk i)) (T o c.length p) s0) 36))) (.inr rfl);clear H;go_wp2_with fail;refine cd (ix b8 a2 (by omega) (by omega)) fun d5 am=>?_;have C:=nX a2 am;replace b:=oK b am.2.1 (.inr rfl);clear am;simp only[jL];have cy:=amF;obtain⟨bk,bl,bn,bo,bp,bq,br,bs,bt,bw⟩:=nC C;have r:V (gL E e _ _ _ ((_,dE {nN 10 (E.tk i) with k:=9} (T o c.length p) s0)::bA)):=nS C J.out 0 (Q S 9);replace b:=oK b (C.out.sp.kset 0 (Q S 9)) (.inr rfl);go_wp2_with fail;refine(b9 _ _ _ r.out.sp (by simp only[aJ,Fo.sz_app]at v;omega)).mono ?_;rintro I d1 ⟨cm,b0,rfl,⟨q,bf⟩,g,x⟩;have av:=nP r x;have F:=aj g;have bD:V (Fr e.heap.size _):=q.le r.out.kt.size;have ac:=nL r x;obtain⟨a4,s,rfl⟩:=cH g;replace b:=oK b x.kt (.inr rfl);have b6:=aj bf;clear bf q g x;obtain⟨bk,bl,bn,bo,bp,bq,br,bs,bt,bw⟩:=nC av;obtain⟨b2,af⟩:=nK av J.out (T a4 a.len s);replace F:=oK F af (.inl rfl);replace b:=oK b af (.inr rfl);clear af;have A:V (fH E e m _ _ L b0 a a4 a.len s):=⟨b2,ac.out,rfl,F.out,bD.out,b6.out⟩;have cc:a.len<=50000000:=by have:=a.len_le;simp only[aJ,Fo.sz_app]at v;omega
 go_wp2_with fail;refine(ce _ _ _ A.out.nw.out.sp (by rw[A.out.ac.len];simp only[aJ,Fo.sz_app]at v⊢;omega)).mono ?_;rintro I z ⟨bx,ap,rfl,ba,al⟩;have h:V (pE E e m _ z j ap a y bx _ a.len s):=A.out.up al ba;replace b:=oK b al.kt (.inr rfl);clear al ba;obtain⟨bk,bl,bn,bo,bp,bq,br,bs,bt,bw⟩:=nC h.out.nw;go_wp2_with (at_builtin;refine eJ rfl _ _ rfl E.base _ a.len s (Fo.tops a m.length) rfl ((Fo.tops_len _ _).trans h.out.ln) (aI h.out.ow (bI z _)) (by rw[bu];have:=h.out.nw.out.sp.lt.2;omega) z.heap.size bx rfl (ar z _) cc ?_;intro a6 a5 bj bd K a8;have G:V (bj.ownsRow E.base 9 1 (T o c.length p) c.length (c.map Br)):=Hi (aI b.out (bI _ _)) K (aI h.out.ow (bI _ _)) (by decide);have d:V (fH E e m _ bj j ap (Fo.app a y) (O ⟨a6,0,M⟩) (a.len+1) a5):=h.out.put bd K a8;obtain⟨c1,c2,c3,c4,c5,c6,c7,c8,c9,da⟩:=nC d.out.nw;obtain⟨a0,bb⟩:=nK d.out.nw J.out (T (O ⟨a6,0,M⟩) (a.len+1) a5);obtain⟨dc,dd,df,dg,dj,dn,dp,ds,dx,d0⟩:=nC a0;clear bd K a8);have b4:=oK (E:=E) d.out.ow bb (.inl rfl);replace G:=oK (E:=E) G bb (.inr rfl);refine(ni a0 (by omega) ca ⟨9,(E.tk i).f,0,(E.tk i).l,0,0,⟨#[]⟩,c,(a.app y).tops m.length⟩ o _ _ p _ _ G.out (by rw[Fo.tops_len,d.out.ln];exact b4.out) (by rw[d.out.ac.len];simp only[aJ,Fo.sz_app]at v⊢;omega) bE.out d.out.fr (nd 9 (E.tk i) (E.tk (j-1)).t 0 0 z0 c) d.out.ac rfl).mono ?_;rintro I d4 ⟨d6,cx,rfl,cf,cl⟩;go_wp2_with fail;go_ret;exact⟨_,_,rfl,cf,(pT cl).out⟩
theorem ab6{k G:Nat}(p:(E.tk i).k=19)(cy:i<E.n){b:List ByteArray}(bt:CM E (i+1) b k)(cB:k<E.n)(br:(E.tk k).k=21){x y:Fo}(bx:CI E 91 #[pV E,Q S 0] (k+1) x G)(bA:CI E 84 #[pV E] G y j)(cz:i+1<=j)(bs:j<=E.n):CI E 94 #[pV E,B0 (jL 19 (E.tk i))] (i+1) (one (nd 10 (E.tk i) (E.tk (j-1)).t 0 0 z0 b) (x.app y)) (j):=by
 intro g d cu a3 F;have bl:=gL.start a3;clear a3;obtain⟨dd,a6,u,av⟩:=tL (w:=g) p bl;simp only[jL]at a6;obtain⟨ck,cl,cm,cp,cq,cr⟩:=tC av p;go_in;go_wp2_with fail;refine(bt _ _ _ u.out.sp).mono ?_;clear a6;rintro B df ⟨dc,rfl,a1,I,L⟩;have bn:=nX u L;have a:=aj I;have bj:V (Fr g.heap.size _):=a1.le u.out.kt.size;obtain⟨m,o,rfl⟩:=cH I;have bq:=tK av L.2.1;clear a1 I L;obtain⟨ck,cl,cm,cp,cq,cr⟩:=tC bq p;go_wp2_with fail;refine cd (gA p _ _) fun cc A=>?_;have am:=nB bn A;have a5:=aj am.out.sp.lt.2;replace a:=oK a (Kt.of_below A) (.inr rfl);have ao:=nA am (dE (nN 10 (E.tk i)) (T m b.length o) s0);replace a:=oK a (Kt.of_below (bI cc (A7 (dE (nN 10 (E.tk i)) (T m b.length o) s0) 36))) (.inr rfl);clear A;go_wp2_with fail;refine cd (ix br ao (by omega) (by omega)) fun dj K=>?_;have v:=nX ao K;replace a:=oK a K.2.1 (.inr rfl);clear K;simp only[jL];have cx:=amF;go_wp2_with fail;refine(bx _ _ _ v.out.sp (by simp only[aJ,Fo.sz_app]at F;omega)).mono ?_;rintro B cf ⟨bd,bk,rfl,a7,q⟩;have h:=nP v q;have ac:=nL v q;replace a:=oK a q.kt (.inr rfl);clear q;obtain⟨ce,c0,ap,bp,bE⟩:=nKI [bd] #[Q S bd] rfl 1 rfl h a5.out (by decide);have af:=nCA h;have cs:=fun H=>(af H).1;have ct:=fun H=>(af H).2;clear af;obtain⟨b1,b2,b3,b4,b6,b7,b8,b9,ca,cb⟩:=nC ap;replace a:=oK a bE (.inr rfl);have s:V (fH E g d _ ce G bk x (O ⟨cf.heap.size,0,M⟩) 1 1):=⟨ap,ac.out,by rw[<-Fo.tops_len _ d.length,a7];rfl,by rw[a7];exact bp.out,Fr.new h.out.kt.size,sw h.out.sp (ag _)⟩;have bw:1<=50000000:=by decide
 go_wp2_with fail;refine(bA _ _ _ s.out.nw.out.sp (by rw[s.out.ac.len];simp only[aJ,Fo.sz_app]at F⊢;omega)).mono ?_;rintro B r ⟨bf,ak,rfl,a8,J⟩;have e:V (pE E g d _ r j ak x y bf _ 1 1):=s.out.up J a8;replace a:=oK a J.kt (.inr rfl);clear J a8;obtain⟨dn,dp,ds,dx,d0,d1,d2,d3,cs,ct⟩:=nC e.out.nw;go_wp2_with (at_builtin;refine eJ rfl _ _ rfl E.base _ 1 1 (Fo.tops x d.length) rfl ((Fo.tops_len _ _).trans e.out.ln) (aI e.out.ow (bI r _)) (by rw[bu];have:=e.out.nw.out.sp.lt.2;omega) r.heap.size bf rfl (ar r _) bw ?_;intro a2 a0 bb ba C a4;have z:V (bb.ownsRow E.base 9 1 (T m b.length o) b.length (b.map Br)):=Hi (aI a.out (bI _ _)) C (aI e.out.ow (bI _ _)) (by decide);have c:V (fH E g d _ bb j ak (Fo.app x y) (O ⟨a2,0,M⟩) (2) a0):=e.out.put ba C a4;obtain⟨c1,c2,c3,c4,c5,c6,c7,c8,c9,da⟩:=nC c.out.nw;obtain⟨al,a9⟩:=nK c.out.nw a5.out (T (O ⟨a2,0,M⟩) (2) a0);obtain⟨b1,b2,b3,b4,b6,b7,b8,b9,ca,cb⟩:=nC al;clear ba C a4);have bo:=oK (E:=E) c.out.ow a9 (.inl rfl);replace z:=oK (E:=E) z a9 (.inr rfl);refine(ni al (by omega) bs ⟨10,(E.tk i).f,0,(E.tk i).l,0,0,⟨#[]⟩,b,(x.app y).tops d.length⟩ m _ _ o _ _ z.out (by rw[Fo.tops_len,c.out.ln];exact bo.out) (by rw[c.out.ac.len];simp only[aJ,Fo.sz_app]at F⊢;omega) bj.out c.out.fr (nd 10 (E.tk i) (E.tk (j-1)).t 0 0 z0 b) c.out.ac rfl).mono ?_;rintro B dg ⟨d4,cv,rfl,bD,b0⟩;go_wp2_with fail;go_ret;exact⟨_,_,rfl,bD,(pT b0).out⟩
end
section
variable {E : Pe} {i j : Nat}
theorem Ju(bd:(E.tk i).k≠48)(bb:(E.tk i).k≠44)(a7:(E.tk i).k≠6)(bs:i<E.n){x:Fo}(an:CI E 91 #[pV E,Q S 0] i x j)(bA:i+1<=j)(ba:j<=E.n):CI E 151 #[pV E] i (one (iB 40 (E.tk i) (E.tk (j-1)).t) x) (j):=by
 intro a e bp h am;obtain⟨J,K,a5⟩:=h.cells;obtain⟨p,r,s,u,v,w⟩:=h.tkw (q:=i) (by omega) a7;have bw:(i:Int)<(E.n:Int):=by omega
 have bt:(0:Int)<=(i:Int):=by omega
 have bx:=h.hn;have bD:IntKind.i64.wrap (i:Int)=(i:Int):=by rw[cw];omega
 have A:=gL.start h;clear h;go_in;go_wp2_with fail;go_region_held3 (fun c=>c.cell? ⟨E.pb,0,M⟩=O (T (O ⟨E.tb,0,M⟩) E.n E.cap)/\c.cell? ⟨E.pb,1,M⟩=O (Q S (i:Int))/\c.cell? ⟨E.tb,i*6,M⟩=O (Q S (E.tk i).k)/\c.cell? ⟨E.tb,i*6+1,M⟩=O (Q S (E.tk i).f)/\c.cell? ⟨E.tb,i*6+2,M⟩=O (Q S (E.tk i).t)/\c.cell? ⟨E.tb,i*6+3,M⟩=O (Q S (E.tk i).l)/\c.cell? ⟨E.tb,i*6+4,M⟩=O (Q S (E.tk i).n)/\c.cell? ⟨E.tb,i*6+5,M⟩=O (A1 (E.tk i).x)) (first|go_keep|exact⟨J,K,p,r,s,u,v,w⟩) (fail)
 obtain⟨a0,m⟩:=aA ((a.alloc (A7 (jL (E.tk i).k (E.tk i)) 88)).drew);have b:A6 a.heap.size a a0:=by rw[<-m];exact be (bI a _)
 have a2:=nB A b;have H:V (TB a0 a.heap.size (E.tk i)):=by rw[<-m];exact ar a _
 simp only[jL]at m;rw[m];clear m b J K a5 p r s u v w A;obtain⟨cp,cq,cr,cs,ct,cu⟩:=tC H rfl;go_wp2_with fail;refine cd (gA (q:=i) rfl _ _) fun cl I=>?_;have C:=nB a2 I;have a8:=aj C.out.sp.lt.2;have F:=nA C (dE (nN 40 (E.tk i)) s0 s0);clear I H;go_wp2_with fail;refine cd (isN bd F (by omega)) fun cm b=>?_;have G:=nB F b;clear b;go_wp2_with fail;refine cd (isN bb G (by omega)) fun bo b=>?_;have a3:=nB G b;clear b;have y:V (fH E a e _ bo (i) e .nil M 0 0):=⟨a3,Ac.nil _ e,rfl,bi _ _ _ _,Fr.nil _ _ _,fun x an br a9=>by simp[A2]at a9⟩;have bf:0<=50000000:=by decide
 go_wp2_with fail;refine(an _ _ _ y.out.nw.out.sp (by simp only[aJ]at am;omega)).mono ?_;rintro a6 o ⟨a1,z,rfl,ao,av⟩;have g:V (pE E a e _ o j z .nil x a1 _ 0 0):=y.out.up av ao;clear av ao;obtain⟨cv,cx,cy,cz,cB,c2,c3,c4,c5,c6⟩:=nC g.out.nw;go_wp2_with (at_builtin;refine eJ rfl _ _ rfl E.base _ 0 0 (Fo.tops .nil e.length) rfl ((Fo.tops_len _ _).trans g.out.ln) (aI g.out.ow (bI o _)) (by rw[bu];have:=g.out.nw.out.sp.lt.2;omega) o.heap.size a1 rfl (ar o _) bf ?_;intro af L bn ap al ak;have d:V (fH E a e _ bn j z (Fo.app .nil x) (O ⟨af,0,M⟩) (1) L):=g.out.put ap al ak;obtain⟨p,r,s,u,v,w,bE,b0,b2,b3⟩:=nC d.out.nw;obtain⟨B,bk⟩:=nK d.out.nw a8.out (T (O ⟨af,0,M⟩) (1) L);obtain⟨b4,b6,b7,b8,b9,ca,cb,cc,ce,ck⟩:=nC B;clear ap al ak);have a4:=oK (E:=E) d.out.ow bk (.inl rfl);refine(ni B (by omega) ba ⟨40,(E.tk i).f,0,(E.tk i).l,0,0,⟨#[]⟩,[],(Fo.app .nil x).tops e.length⟩ M _ 0 0 _ _ (bi _ _ _ _) (by rw[Fo.tops_len,d.out.ln];exact a4.out) (by rw[d.out.ac.len];simp only[aJ,Fo.app]at am⊢;omega) (Fr.nil _ _ _) d.out.fr (iB 40 (E.tk i) (E.tk (j-1)).t) d.out.ac rfl).mono ?_;rintro a6 cn ⟨c7,bq,rfl,bj,bl⟩;go_wp2_with fail;go_ret;exact⟨_,_,rfl,bj,(pT bl).out⟩
theorem Hj(a8:(E.tk i).k=48)(o:(E.tk (i+1)).k=1)(bx:(E.tk (i+2)).k=47)(cr:i+2<E.n){x:Fo}(ba:CI E 91 #[pV E,Q S 0] (i+3) x j)(cv:i+3<=j)(bE:j<=E.n):CI E 151 #[pV E] i (one (nd 42 (E.tk i) (E.tk (j-1)).t 0 0 (E.tk (i+1)).x []) x) (j):=by
 intro a e bl m a9;have bA:(E.tk i).k≠6:=by omega
 have bn:=aj a8;clear a8;obtain⟨a2,a3,bt⟩:=m.cells;obtain⟨y,z,A,B,C,F⟩:=m.tkw (q:=i) (by omega) bA;have ct:(i:Int)<(E.n:Int):=by omega
 have cs:(0:Int)<=(i:Int):=by omega
 have cu:=m.hn;have cx:IntKind.i64.wrap (i:Int)=(i:Int):=by rw[cw];omega
 have al:=gL.start m;clear m;go_in;go_wp2_with fail;go_region_held3 (fun c=>c.cell? ⟨E.pb,0,M⟩=O (T (O ⟨E.tb,0,M⟩) E.n E.cap)/\c.cell? ⟨E.pb,1,M⟩=O (Q S (i:Int))/\c.cell? ⟨E.tb,i*6,M⟩=O (Q S (E.tk i).k)/\c.cell? ⟨E.tb,i*6+1,M⟩=O (Q S (E.tk i).f)/\c.cell? ⟨E.tb,i*6+2,M⟩=O (Q S (E.tk i).t)/\c.cell? ⟨E.tb,i*6+3,M⟩=O (Q S (E.tk i).l)/\c.cell? ⟨E.tb,i*6+4,M⟩=O (Q S (E.tk i).n)/\c.cell? ⟨E.tb,i*6+5,M⟩=O (A1 (E.tk i).x)) (first|go_keep|exact⟨a2,a3,y,z,A,B,C,F⟩) (fail)
 obtain⟨bj,b⟩:=aA ((a.alloc (A7 (jL (E.tk i).k (E.tk i)) 88)).drew);have a0:A6 a.heap.size a bj:=by rw[<-b];exact be (bI a _)
 have bo:=nB al a0;have av:V (TB bj a.heap.size (E.tk i)):=by rw[<-b];exact ar a _
 simp only[jL]at b;rw[b];clear b a0 a2 a3 bt y z A B C F al;obtain⟨G,H,I,J,K,L⟩:=tC av rfl;go_wp2_with fail;refine cd (gA (q:=i) rfl _ _) fun dp a1=>?_;have an:=nB bo a1;have u:=aj an.out.sp.lt.2;have ao:=nA an (dE (nN 40 (E.tk i)) s0 s0);clear a1 av;go_wp2_with fail;refine cd (isY bn.out ao (by omega)) fun ds v=>?_;have bp:=nX ao v;clear v;go_wp2_with fail;refine cd (jB o bp (by omega) (by omega)) fun b7 bq=>?_;obtain⟨d0,b,ap,g⟩:=tL (w:=b7) o bq;simp only[jL]at b;obtain⟨G,H,I,J,K,L⟩:=tC g o;go_wp2_with fail;clear b;refine cd (ix bx ap (by omega) (by omega)) fun d1 p=>?_;have s:=nX ap p;replace g:=tK g p.2.1;clear p G H I J K L;obtain⟨G,H,I,J,K,L⟩:=tC g o;obtain⟨b8,b9,ca,cb,cc,ce,ck,cl,cm,cn⟩:=nC s;have br:V (gL E a _ _ _ ((_,dE {nN 40 (E.tk i) with k:=42,x:=(E.tk (i+1)).x} s0 s0)::bl)):=nS (nS s u.out 0 (Q S 42)) u.out 6 (A1 (E.tk (i+1)).x);obtain⟨cy,v,cz,p,cB,c2⟩:=tC (tK g (s.out.sp.kset 0 (Q S 42))) o;have af:V (fH E a e _ _ (i+3) e .nil M 0 0):=⟨br,Ac.nil _ e,rfl,bi _ _ _ _,Fr.nil _ _ _,fun x ba cq bD=>by simp[A2]at bD⟩;have b0:0<=50000000:=by decide
 go_wp2_with fail;refine(ba _ _ _ af.out.nw.out.sp (by simp only[aJ]at a9;omega)).mono ?_;rintro bw r ⟨bk,ak,rfl,bb,bf⟩;have h:V (pE E a e _ r j ak .nil x bk _ 0 0):=af.out.up bf bb;clear bf bb;obtain⟨b8,b9,ca,cb,cc,ce,ck,cl,cm,cn⟩:=nC h.out.nw;go_wp2_with (at_builtin;refine eJ rfl _ _ rfl E.base _ 0 0 (Fo.tops .nil e.length) rfl ((Fo.tops_len _ _).trans h.out.ln) (aI h.out.ow (bI r _)) (by rw[bu];have:=h.out.nw.out.sp.lt.2;omega) r.heap.size bk rfl (ar r _) b0 ?_;intro a5 a4 b6 bd a7 a6;have d:V (fH E a e _ b6 j ak (Fo.app .nil x) (O ⟨a5,0,M⟩) (1) a4):=h.out.put bd a7 a6;obtain⟨y,z,A,B,C,F,c3,c4,c5,c6⟩:=nC d.out.nw;obtain⟨am,b3⟩:=nK d.out.nw u.out (T (O ⟨a5,0,M⟩) (1) a4);obtain⟨c7,c8,c9,da,dc,dd,df,dg,dj,dn⟩:=nC am;clear bd a7 a6);have bs:=oK (E:=E) d.out.ow b3 (.inl rfl);refine(ni am (by omega) bE ⟨42,(E.tk i).f,0,(E.tk i).l,0,0,(E.tk (i+1)).x,[],(Fo.app .nil x).tops e.length⟩ M _ 0 0 _ _ (bi _ _ _ _) (by rw[Fo.tops_len,d.out.ln];exact bs.out) (by rw[d.out.ac.len];simp only[aJ,Fo.app]at a9⊢;omega) (Fr.nil _ _ _) d.out.fr (nd 42 (E.tk i) (E.tk (j-1)).t 0 0 (E.tk (i+1)).x []) d.out.ac rfl).mono ?_;rintro bw dx ⟨d2,cp,rfl,b2,b4⟩;go_wp2_with fail;go_ret;exact⟨_,_,rfl,b2,(pT b4).out⟩
theorem pE.to{b w c:Z}{L a:List Mb}{m d:List (Nat×Array Ax)}{k g:Nat}{D x:Fo}{l:Int}{e:Option Addr}{n f:Nat}(h:pE E b L m w k a D x l e n f)(N:V (gL E b c g a d))(o:Kt w c):pE E b L d c g a D x l e n f:=⟨N,h.ac,h.ln,h.one,h.tp,o.row h.ow (by decide) (by decide),h.fr,h.sv⟩
theorem Jv{k:Nat}(bj:(E.tk i).k=44)(d3:i<E.n){x y:Fo}(bk:CI E 91 #[pV E,Q S 0] (i+1) x k)(b4:(E.tk k).k=45)(b6:(E.tk (k+1)).k=47)(d8:k+1<E.n)(ck:CI E 91 #[pV E,Q S 0] (k+2) y j)(d7:i+1<=j)(ca:j<=E.n):CI E 151 #[pV E] i (one (iB 41 (E.tk i) (E.tk (j-1)).t) (x.app y)) (j):=by
 intro a b bx s ak;have b8:(E.tk i).k≠6:=by omega
 have b7:V ((E.tk i).k≠48):=by show _≠_;omega
 have bA:=aj bj;clear bj;obtain⟨a5,a6,b3⟩:=s.cells;obtain⟨z,A,B,C,F,G⟩:=s.tkw (q:=i) (by omega) b8;have d5:(i:Int)<(E.n:Int):=by omega
 have d4:(0:Int)<=(i:Int):=by omega
 have d6:=s.hn;have d9:IntKind.i64.wrap (i:Int)=(i:Int):=by rw[cw];omega
 have ao:=gL.start s;clear s;go_in;go_wp2_with fail;go_region_held3 (fun d=>d.cell? ⟨E.pb,0,M⟩=O (T (O ⟨E.tb,0,M⟩) E.n E.cap)/\d.cell? ⟨E.pb,1,M⟩=O (Q S (i:Int))/\d.cell? ⟨E.tb,i*6,M⟩=O (Q S (E.tk i).k)/\d.cell? ⟨E.tb,i*6+1,M⟩=O (Q S (E.tk i).f)/\d.cell? ⟨E.tb,i*6+2,M⟩=O (Q S (E.tk i).t)/\d.cell? ⟨E.tb,i*6+3,M⟩=O (Q S (E.tk i).l)/\d.cell? ⟨E.tb,i*6+4,M⟩=O (Q S (E.tk i).n)/\d.cell? ⟨E.tb,i*6+5,M⟩=O (A1 (E.tk i).x)) (first|go_keep|exact⟨a5,a6,z,A,B,C,F,G⟩) (fail)
 obtain⟨bs,u⟩:=aA ((a.alloc (A7 (jL (E.tk i).k (E.tk i)) 88)).drew);have p:A6 a.heap.size a bs:=by rw[<-u];exact be (bI a _)
 have bD:=nB ao p;have a3:V (TB bs a.heap.size (E.tk i)):=by rw[<-u];exact ar a _
 simp only[jL]at u;rw[u];clear u p a5 a6 b3 z A B C F G ao;obtain⟨en,eo,ep,eq,er,es⟩:=tC a3 rfl;go_wp2_with fail;refine cd (gA (q:=i) rfl _ _) fun c9 a4=>?_;have a0:=nB bD a4;have af:=aj a0.out.sp.lt.2;have a1:=nA a0 (dE (nN 40 (E.tk i)) s0 s0);clear a4 a3;go_wp2_with fail;refine cd (isN b7.out a1 (by omega)) fun el p=>?_;have a2:=nB a1 p;clear p;go_wp2_with fail;refine cd (isY bA.out a2 (by omega)) fun da c=>?_;have bE:=nX a2 c;clear c;have am:V (fH E a b _ da (i+1) b .nil M 0 0):=⟨bE,Ac.nil _ b,rfl,bi _ _ _ _,Fr.nil _ _ _,fun x bk d2 b9=>by simp[A2]at b9⟩;have cb:0<=50000000:=by decide
 go_wp2_with fail;refine(bk _ _ _ am.out.nw.out.sp (by simp only[aJ,Fo.sz_app]at ak;omega)).mono ?_;rintro a8 c6 ⟨v,h,rfl,bn,bq⟩;have J:V (pE E a b _ c6 k h .nil x v _ 0 0):=am.out.up bq bn;clear bq bn;go_wp2_with fail;refine cd (ix b4 J.out.nw (by omega) (by omega)) fun wt c=>?_;have K:V (pE E a b _ wt (k+1) h .nil x v M 0 0):=J.out.to (nX J.out.nw c) c.2.1;clear c;go_wp2_with fail;refine cd (ix b6 K.out.nw (by omega) (by omega)) fun bt c=>?_;have w:V (pE E a b _ bt (k+2) h .nil x v M 0 0):=K.out.to (nX K.out.nw c) c.2.1;clear c;obtain⟨s0,ea,eb,ec,ee,ef,eg,eh,ei,ek⟩:=nC w.out.nw;have m:V (pE E a b ((_,dE {nN 40 (E.tk i) with k:=41} Go.Proofs.YtoahhnnflblfaaaGreatDoor.s0 Go.Proofs.YtoahhnnflblfaaaGreatDoor.s0)::bx) _ (k+2) h .nil x v M 0 0):=w.out.to (nS w.out.nw af.out 0 (Q S 41)) (w.out.nw.out.sp.kset 0 (Q S 41));obtain⟨al,ce⟩:=aA (bt.setCell ⟨c9.heap.size,0,M⟩ (Q S 41));rw[ce]at m;obtain⟨dc,dd,df,dg,dj,dn,dp,ds,dx,d0⟩:=nC m.out.nw;go_wp2_with (at_builtin;refine eJ rfl _ _ rfl E.base _ 0 0 (Fo.tops .nil b.length) rfl ((Fo.tops_len _ _).trans m.out.ln) (aI m.out.ow (bI al _)) (by rw[bu];have:=m.out.nw.out.sp.lt.2;omega) al.heap.size v rfl (ar al _) cb ?_;intro L r c7 bo bd ba;have e:V (fH E a b _ c7 (k+2) h (Fo.app .nil x) (O ⟨L,0,M⟩) (1) r):=m.out.put bo bd ba;obtain⟨z,A,B,C,F,G,cq,cr,cs,ct⟩:=nC e.out.nw;obtain⟨ap,cm⟩:=nK e.out.nw af.out (T (O ⟨L,0,M⟩) (1) r);obtain⟨cu,cv,cx,cy,cz,cB,c2,c3,c4,c5⟩:=nC ap;clear bo bd ba);have b0:=oK (E:=E) e.out.ow cm (.inl rfl);have I:V (fH E a b _ _ (k+2) h (Fo.app .nil x) (O ⟨L,0,M⟩) 1 r):=⟨ap,e.out.ac,e.out.ln,b0.out,e.out.fr,e.out.sv⟩;have cc:1<=50000000:=by decide
 refine(ck _ _ _ I.out.nw.out.sp (by rw[I.out.ac.len];simp only[aJ,Fo.sz_app,Fo.app]at ak⊢;omega)).mono ?_;rintro a8 H ⟨bw,an,rfl,bl,br⟩;have o:V (pE E a b _ H j an (Fo.app .nil x) y bw _ 1 r):=I.out.up br bl;clear br bl;obtain⟨dc,dd,df,dg,dj,dn,dp,ds,dx,d0⟩:=nC o.out.nw;go_wp2_with (at_builtin;refine eJ rfl _ _ rfl E.base _ 1 r (Fo.tops (Fo.app .nil x) b.length) rfl ((Fo.tops_len _ _).trans o.out.ln) (aI o.out.ow (bI H _)) (by rw[bu];have:=o.out.nw.out.sp.lt.2;omega) H.heap.size bw rfl (ar H _) cc ?_;intro a9 a7 c8 bp bf bb;have g:V (fH E a b _ c8 j an (Fo.app (Fo.app .nil x) y) (O ⟨a9,0,M⟩) (2) a7):=o.out.put bp bf bb;obtain⟨z,A,B,C,F,G,cq,cr,cs,ct⟩:=nC g.out.nw;obtain⟨av,cn⟩:=nK g.out.nw af.out (T (O ⟨a9,0,M⟩) (2) a7);obtain⟨cu,cv,cx,cy,cz,cB,c2,c3,c4,c5⟩:=nC av;clear bp bf bb);have b2:=oK (E:=E) g.out.ow cn (.inl rfl);refine(ni av (by omega) ca ⟨41,(E.tk i).f,0,(E.tk i).l,0,0,⟨#[]⟩,[],(Fo.app (Fo.app .nil x) y).tops b.length⟩ M _ 0 0 _ _ (bi _ _ _ _) (by rw[Fo.tops_len,g.out.ln];exact b2.out) (by rw[g.out.ac.len];simp only[aJ,Fo.sz_app,Fo.app]at ak⊢;omega) (Fr.nil _ _ _) g.out.fr (iB 41 (E.tk i) (E.tk (j-1)).t) g.out.ac rfl).mono ?_;rintro a8 em ⟨et,d1,rfl,cl,cp⟩;go_wp2_with fail;go_ret;exact⟨_,_,rfl,cl,(pT cp).out⟩
end
inductive Es (E:Pe) (C:Nat->Fo->Nat->Prop):Nat->Nat->Fo->Nat->Prop where
 |stop {k:Nat}:(E.tk k).k=43->k<E.n->Es E C 0 k .nil k
 |com {m k k1 j:Nat}{x R:Fo}:(E.tk k).k≠43->k<E.n->C k x k1->(E.tk k1).k=46->k1<E.n->Es E C m (k1+1) R j->Es E C (m+1) k (x.app R) j
 |last {m k k1 j:Nat}{x R:Fo}:(E.tk k).k≠43->k<E.n->C k x k1->(E.tk k1).k≠46->k1<E.n->Es E C m k1 R j->Es E C (m+1) k (x.app R) j
section
variable {E : Pe} {i j : Nat}
abbrev CEn(E:Pe)(i:Nat)(x:Fo)(j:Nat):Prop:=CI E 151 #[pV E] i x j
theorem aeI{K:Fo}{m:Nat}(J:(E.tk i).k=42)(ec:i<E.n)(b4:Es E (CEn E) m (i+1) K j)(b3:(E.tk j).k=43)(ee:j+1<E.n):CI E 130 #[pV E] i (one (iB 35 (E.tk i) (E.tk j).t) K) (j+1):=by
 intro o a r bE an;have cr:=gL.start bE;have bt:=aj b4;clear bE b4;go_in;go_wp2_with fail;refine cd (du J cr (by omega)) fun w1 cs=>?_;go_wp2_with fail;refine cd (du J cs (by omega)) fun ek ct=>?_;go_wp2_with fail;refine cd (jB J ct (by omega) (by omega)) fun d3 cu=>?_;obtain⟨el,b6,cx,bx⟩:=tL (w:=d3) J cu;simp only[jL]at b6;obtain⟨d5,d6,h,d7,d8,d9⟩:=tC bx J;go_wp2_with fail;refine cd (aek (b:=A0) (by decide) _) fun d2 ef=>?_;subst d2;clear b6;go_wp2_with fail;refine cd (gA J _ _) fun v bD=>?_;have bw:=nB cx bD;have b2:=aj bw.out.sp.lt.2;have cy:=nA bw (dE (nN 35 (E.tk i)) s0 s0);clear bD bx d5 d6 h d7 d8 d9;have bs:V (fH E o a _ _ (i+1) a .nil M 0 0):=⟨cy,Ac.nil _ a,rfl,bi _ _ _ _,Fr.nil _ _ _,fun em eg eb c1=>by simp[A2]at c1⟩;go_wp2_with fail;go_loopg [10] m (fun gk eh wr=>∃(k:Nat) (D bf:Fo) (e:Option Addr) (n c:Nat) (cq:List Mb),V (Es E (CEn E) gk k bf j/\fH E o a ((v.heap.size,dE (nN 35 (E.tk i)) s0 (T e n c))::r) wr k cq D e n c/\D.app bf=K))
 case atStart=>exact⟨i+1,.nil,K,M,0,0,a,bt.out,bs.out,rfl⟩
 case round=>
  clear bs bt;obtain⟨a9,D,bf,e,n,c,a6,a5⟩:=hrel;obtain⟨c0,z,C⟩:=a5.out;cases c0 with
  |stop a8 I=>
   have L:=z.nw;have y:=eH z C;clear z C a5;go_wp2_with fail;refine cd (jb b3 L I) fun a3 B=>?_;have x:V (fH E o a ((v.heap.size,dE (nN 35 (E.tk i)) s0 (T e n c))::r) a3 _ a6 D e n c):=y.out.1.below B;clear B;go_wp2_with fail;refine cd (ix b3 x.out.nw I (by omega)) fun d4 a2=>?_;have F:V (fH E o a ((v.heap.size,dE (nN 35 (E.tk i)) s0 (T e n c))::r) d4 (j+1) a6 D e n c):=x.out.move a2;clear a2;obtain⟨ca,cb,cc,ce,cf,ck,cl,cm,cn,cp⟩:=nC F.out.nw;have b0:D=K:=by have:=y.out.2;rwa [Fo.app_nil]at this
   go_wp2_with fail;refine(ni F.out.nw (by omega) (by omega) ⟨35,(E.tk i).f,0,(E.tk i).l,0,0,⟨#[]⟩,[],D.tops a.length⟩ M _ 0 0 _ _ (bi _ _ _ _) (by rw[Fo.tops_len,F.out.ln];exact F.out.ow) (by rw[F.out.ac.len,b0];simp only[aJ]at an;omega) (Fr.nil _ _ _) F.out.fr (iB 35 (E.tk i) (E.tk j).t) F.out.ac rfl).mono ?_;rintro a7 ei ⟨en,ea,rfl,b7,b9⟩;rw[b0]at b7 b9;go_wp2_with fail;go_ret;exact⟨_,_,rfl,b7,(pT b9).out⟩
  |@com bp _ u _ h af a8 I bj bk bl ak=>
   have L:=z.nw;have y:=jn z C ak;have ao:V (a.length+(D.app (h.app af)).sz+1<=50000000):=by rw[C];rw[aJ]at an;exact an
   clear z C a5 ak;have cB:((E.tk a9).k !=43)=A3:=by simp[a8]
   go_wp2_with fail;refine cd (jb rfl L I) fun a3 B=>?_;have x:V (fH E o a ((v.heap.size,dE (nN 35 (E.tk i)) s0 (T e n c))::r) a3 a9 a6 D e n c):=y.out.1.below B;clear B;go_wp2_with fail;refine(bj _ _ _ x.out.nw.out.sp (by have H:=ao.out;rw[x.out.ac.len];simp only[Fo.sz_app]at H;omega)).mono ?_;rintro a7 A ⟨a4,s,rfl,ap,a1⟩;have p:V (pE E o a ((v.heap.size,dE (nN 35 (E.tk i)) s0 (T e n c))::r) A u s D h a4 e n c):=x.out.up a1 ap;clear a1 ap;have bn:n<=50000000:=by have H:=ao.out;have a7:=p.out.ln;have cz:=D.len_le;simp only[Fo.sz_app]at H;omega
   obtain⟨ca,cb,cc,ce,cf,ck,cl,cm,cn,cp⟩:=nC p.out.nw;go_wp2_with (at_builtin;refine eJ rfl _ _ rfl E.base _ n c (Fo.tops D a.length) rfl ((Fo.tops_len _ _).trans p.out.ln) (aI p.out.ow (bI A _)) (by rw[bu];have:=p.out.nw.out.sp.lt.2;omega) A.heap.size a4 rfl (ar A _) bn ?_;intro q g bq a0 am al;have d:V (fH E o a _ bq u s (Fo.app D h) (O ⟨q,0,M⟩) (n+1) g):=p.out.put a0 am al;obtain⟨c2,c3,c4,c5,c6,c7,c8,c9,da,dc⟩:=nC d.out.nw;obtain⟨G,bo⟩:=nK d.out.nw b2.out (T (O ⟨q,0,M⟩) (n+1) g);obtain⟨dd,df,dg,dj,dn,dp,ds,dx,d0,d1⟩:=nC G;clear a0 am al);have bd:=oK (E:=E) d.out.ow bo (.inl rfl);have ba:V (fH E o a ((v.heap.size,dE (nN 35 (E.tk i)) s0 (T (O ⟨q,0,M⟩) (n+1) g))::r) _ u s (Fo.app D h) (O ⟨q,0,M⟩) (n+1) g):=⟨G,d.out.ac,d.out.ln,bd.out,d.out.fr,d.out.sv⟩;refine cd (isY bk G bl) fun br a2=>?_;have bb:V (fH E o a ((v.heap.size,dE (nN 35 (E.tk i)) s0 (T (O ⟨q,0,M⟩) (n+1) g))::r) br (u+1) s (Fo.app D h) (O ⟨q,0,M⟩) (n+1) g):=ba.out.move a2;clear a2;go_wp2_with fail;go_roundg bp
   case measure=>omega
   case rel=>exact⟨u+1,Fo.app D h,af,_,n+1,g,s,y.out.2.2,bb.out,by rw[Fo.app_app];exact y.out.2.1⟩
  |@last bp _ u _ h af a8 I bj bk bl ak=>
   have L:=z.nw;have y:=jn z C ak;have ao:V (a.length+(D.app (h.app af)).sz+1<=50000000):=by rw[C];rw[aJ]at an;exact an
   clear z C a5 ak;have cB:((E.tk a9).k !=43)=A3:=by simp[a8]
   go_wp2_with fail;refine cd (jb rfl L I) fun a3 B=>?_;have x:V (fH E o a ((v.heap.size,dE (nN 35 (E.tk i)) s0 (T e n c))::r) a3 a9 a6 D e n c):=y.out.1.below B;clear B;go_wp2_with fail;refine(bj _ _ _ x.out.nw.out.sp (by have H:=ao.out;rw[x.out.ac.len];simp only[Fo.sz_app]at H;omega)).mono ?_;rintro a7 A ⟨a4,s,rfl,ap,a1⟩;have p:V (pE E o a ((v.heap.size,dE (nN 35 (E.tk i)) s0 (T e n c))::r) A u s D h a4 e n c):=x.out.up a1 ap;clear a1 ap;have bn:n<=50000000:=by have H:=ao.out;have a7:=p.out.ln;have cz:=D.len_le;simp only[Fo.sz_app]at H;omega
   obtain⟨ca,cb,cc,ce,cf,ck,cl,cm,cn,cp⟩:=nC p.out.nw;go_wp2_with (at_builtin;refine eJ rfl _ _ rfl E.base _ n c (Fo.tops D a.length) rfl ((Fo.tops_len _ _).trans p.out.ln) (aI p.out.ow (bI A _)) (by rw[bu];have:=p.out.nw.out.sp.lt.2;omega) A.heap.size a4 rfl (ar A _) bn ?_;intro q g bq a0 am al;have d:V (fH E o a _ bq u s (Fo.app D h) (O ⟨q,0,M⟩) (n+1) g):=p.out.put a0 am al;obtain⟨c2,c3,c4,c5,c6,c7,c8,c9,da,dc⟩:=nC d.out.nw;obtain⟨G,bo⟩:=nK d.out.nw b2.out (T (O ⟨q,0,M⟩) (n+1) g);obtain⟨dd,df,dg,dj,dn,dp,ds,dx,d0,d1⟩:=nC G;clear a0 am al);have bd:=oK (E:=E) d.out.ow bo (.inl rfl);have ba:V (fH E o a ((v.heap.size,dE (nN 35 (E.tk i)) s0 (T (O ⟨q,0,M⟩) (n+1) g))::r) _ u s (Fo.app D h) (O ⟨q,0,M⟩) (n+1) g):=⟨G,d.out.ac,d.out.ln,bd.out,d.out.fr,d.out.sv⟩;refine cd (isN bk G bl) fun br bA=>?_;have bb:V (fH E o a ((v.heap.size,dE (nN 35 (E.tk i)) s0 (T (O ⟨q,0,M⟩) (n+1) g))::r) br u s (Fo.app D h) (O ⟨q,0,M⟩) (n+1) g):=ba.out.below bA;clear bA;go_wp2_with fail;go_roundg bp
   case measure=>omega
   case rel=>exact⟨u,Fo.app D h,af,_,n+1,g,s,y.out.2.2,bb.out,by rw[Fo.app_app];exact y.out.2.1⟩
end
structure Lk (W:Z) (lb mb:Nat) (vs:Ax):Prop where
 b:W.heap[lb]?=O (.cells #[.map (O mb),vs] 80 (0,0))
 m:W.ownsMap U 9 (plainElem (H:=Unit) U 3) mb 22 (Iq 22)
 e:ql W
theorem rn{a b:Z}{mb n:Nat}{D:DataW Unit}(h:a.ownsMap U 9 (plainElem (H:=Unit) U 3) mb n D)(e:b.heap[mb]?=a.heap[mb]?):b.ownsMap U 9 (plainElem (H:=Unit) U 3) mb n D:=by
 obtain⟨d,c,f,g⟩:=h;exact⟨d,c,e.trans f,g⟩
theorem ql.keep{a b:Z}(h:ql a)(c:A6 a.heap.size a b):ql b:=by
 obtain⟨⟨d,e,k⟩,⟨f,g,l⟩⟩:=h;exact⟨⟨d,e,ah c k⟩,⟨f,g,ah c l⟩⟩
theorem Lk.below{a d:Z}{lb mb:Nat}{f:Ax}(h:Lk a lb mb f)(c:A6 a.heap.size a d):Lk d lb mb f:=
 ⟨(c.block _ (au h.b)).trans h.b,rn h.m (c.block _ h.m.lt),h.e.keep c⟩
theorem sA(w:Z)(lb mb:Nat)(n:Ax)(s:ByteArray)(l:s.size<=1100000)(h:Lk w lb mb n):
  A4 U 133 #[X (O ⟨lb,0,M⟩),A1 s] w fun e g=>e= Y (A5 (jo s))/\g=w:=by
 have p:w.cell? ⟨lb,0,M⟩=O (.map (O mb)):=by rw[ay _ _ _ _ _ _ h.b];rfl
 have c:=Is s l mb w h.m;by_cases f:s.size<=40
 ·have e:decide (bC (aw s 0)=A3/\pC s (s.size+1) 0=s.size/\rB s=A0)=jo s:=by
   unfold jo;by_cases a:bC (aw s 0)=A3/\pC s (s.size+1) 0=s.size/\rB s=A0
   ·rw[bg a,bg ⟨f,a⟩]
   ·rw[az a,az (fun d=>a d.2)]
  rw[e]at c;generalize jo s=o at c⊢;clear e h;have k:(s.size:Int)<=40:=by omega
  go_in;go_wp2_with (go_at_call 152;refine c.mono ?_;rintro e g ⟨rfl,rfl⟩);go_ret;exact⟨rfl,rfl⟩
 ·have e:jo s=A0:=by unfold jo;rw[az (fun d=>f d.1)]
  rw[e];have k:¬(s.size:Int)<=40:=by omega
  clear c;go_in;go_wp2;go_ret;exact⟨rfl,rfl⟩
theorem wv(w:Z)(lb mb:Nat)(r:Ax)(vn:Ax)(l:List ByteArray)(h:Lk w lb mb r)(o:bF w vn l)(y:l.length<=1048576)(q:∀s∈l,s.size<=1048576):
  A4 U 105 #[X (O ⟨lb,0,M⟩),vn] w fun e A=>e= Y (A5 (sc l l.length 0))/\A=w:=by
 have d:=jn o q h;obtain⟨C,F,rfl⟩:=o.form;obtain⟨m,f⟩:=aA (sc l l.length 0);rw[f];obtain⟨a,n⟩:=aA l.length;have u:=aj n;rw[n]at d y f⊢;have v:C3 l a 0 m:=⟨f⟩;clear n o q h f;go_in;go_wp2_with fail;go_loop [9] (fun p=>∃(j:Nat),p= Q S j/\j<=a/\C3 l (a-j) j m) (fun p=>a-(A9 p).toNat)
 case atStart=>exact⟨0,rfl,by omega,v⟩
 case round=>
  obtain⟨j,rfl,H,t⟩:=hrel;have b:=t.out;by_cases z:j<a
  ·obtain⟨s,g⟩:=bH u.out z;have J:=d.out.2.1 s (dl g);obtain⟨K,rfl,G⟩:=d.out.1.get g;rw[show a-j=(a-(j+1))+1 by omega,sc,bc,g,ii]at b;have x:(j:Int)<(a:Int):=by omega
   have I:(0:Int)<=(j:Int):=by omega
   have k:=sA w lb mb r s (by omega) d.out.2.2;clear g;cases hx:jo s with
   |true=>
    rw[hx,fC]at b;rw[hx]at k;have c:C3 l (a-(j+1)) (j+1) m:=⟨b⟩;clear b hx;go_wp2_with (go_at_call 133;refine k.mono ?_;rintro e B ⟨rfl,rfl⟩);go_round
    case rel=>exact⟨j+1,by go_num,by omega,c⟩
    case measure=>simp[A9];omega
   |false=>
    rw[hx,eG]at b;rw[hx]at k;have c:=aj b;clear b hx;go_wp2_with (go_at_call 133;refine k.mono ?_;rintro e B ⟨rfl,rfl⟩);go_ret;exact⟨by rw[<-c.out];rfl,rfl⟩
  ·rw[show a-j=0 by omega,sc]at b;have c:=aj b;have x:¬(j:Int)<(a:Int):=by omega
   clear b;go_wp2_with fail;go_ret;exact⟨by rw[<-c.out];rfl,rfl⟩
def txB(k:Int)(x:ByteArray):Bool:=if k=24 then fok x else if k=25 then decide ((x.size:Int)<=4000) else jo x
theorem EJ(w:Z)(lb mb:Nat)(m:Ax)(k:Int)(s:ByteArray)(l:s.size<=1100000)(h:Lk w lb mb m):
  A4 U 106 #[X (O ⟨lb,0,M⟩),Q S k,A1 s] w fun e d=>e= Y (A5 (txB k s))/\A6 w.heap.size w d:=by
 have b:=sA w lb mb m s l h;have a:=Gi s l w h.e;unfold txB;by_cases c:k=24
 ·subst c;rw[ab rfl];unfold fok;by_cases g:s.size<=40
  ·have p:(s.size:Int)<=40:=by omega
   rw[bg g,fC];generalize pi s=n at a⊢;clear b h;go_in;go_wp2_with (go_at_call 134;refine a.mono ?_;rintro e d ⟨rfl,o⟩);go_ret;exact⟨rfl,o⟩
  ·have p:¬(s.size:Int)<=40:=by omega
   rw[az g,eG];clear b a h;go_in;go_wp2;go_ret;exact⟨rfl,ai _ _⟩
 by_cases f:k=25
 ·subst f;rw[aa (by decide),ab rfl];clear b a h c;go_in;go_wp2;go_ret;exact⟨rfl,ai _ _⟩
 rw[aa c,aa f];generalize jo s=n at b⊢;clear a h;go_in;go_wp2_with (go_at_call 133;refine b.mono ?_;rintro e d ⟨rfl,rfl⟩);go_ret;exact⟨rfl,ai _ _⟩
def AI(k:Int):Int:=if k=2\/k=10 then 200 else if k=14 then 2 else 1
theorem yx(k:Int)(w:Z):A4 U 104 #[Q S k] w fun e b=>e= Y (.tuple #[Q S 1,Q S (AI k)])/\b=w:=by
 unfold AI;rcases(show k=2\/k=10\/k=14\/(¬k=2/\¬k=10/\¬k=14) by omega) with rfl|rfl|rfl|⟨c,d,a⟩
 ·rw[ab (by decide)];go_in;go_wp2;go_ret2;exact⟨rfl,rfl⟩
 ·rw[ab (by decide)];go_in;go_wp2;go_ret2;exact⟨rfl,rfl⟩
 ·rw[aa (by decide),ab rfl];go_in;go_wp2;go_ret2;exact⟨rfl,rfl⟩
 ·rw[aa (by omega),aa a];go_in;go_wp2;go_ret2;exact⟨rfl,rfl⟩
theorem ff0(w:Z)(lb mb:Nat)(r:Ax)(h:Lk w lb mb r)(b:Nat)(c z B A C:Int)(vk:Ax)(vn:Ax)(l:List ByteArray)(k:bF w vn l)(o:l.length<=1048576)(p:∀s∈l,s.size<=1048576)
  (g:w.heap[b]?=O (A7 #[Q S c,Q S z,Q S B,Q S A,Q S C,vk,vn] 142 (0,0))):
  A4 U 50 #[X (O ⟨lb,0,M⟩),A8 140 (X (O ⟨b,0,M⟩))] w fun e t=>e= Y (A5 (decide (1<=(l.length:Int)/\(l.length:Int)<=AI c)&&sc l l.length 0))/\t=w:=by
 have H:=fun w=>asT b w;have I:=fun w=>asF b w;have d:=fun w=>yx c w;have a:=wv w lb mb r vn l h k o p;obtain⟨v,y,rfl⟩:=k.form;have G:w.cell? ⟨b,0,M⟩=O (Q S c):=by rw[ay _ _ _ _ _ _ g];rfl
 have x:w.cell? ⟨b,6,M⟩=O (T v l.length y):=by rw[ay _ _ _ _ _ _ g];rfl
 generalize sc l l.length 0=F at a⊢;generalize l.length=q at o a x⊢;generalize AI c=u at d⊢;clear g k p h;by_cases m:1<=(q:Int)
 ·by_cases n:(q:Int)<=u
  ·rw[bg ⟨m,n⟩,fC];go_in;go_wp2_with (first|(go_at_call 104;refine fc (d _) ?_)|(go_at_call 105;refine a.mono ?_;rintro e t ⟨rfl,rfl⟩));go_ret;exact⟨rfl,rfl⟩
  ·rw[az (fun f=>n f.2),eG];clear a;go_in;go_wp2_with (go_at_call 104;refine fc (d _) ?_);go_ret;exact⟨rfl,rfl⟩
 ·rw[az (fun f=>m f.1),eG];clear a;go_in;go_wp2_with (go_at_call 104;refine fc (d _) ?_);go_ret;exact⟨rfl,rfl⟩
theorem ff1(w:Z)(lb:Nat)(b:Nat)(m l o n p a:Int)(h:Option Addr)(L ck:Nat)(t:L<=1048576)
  (g:w.heap[b]?=O (A7 #[Q S m,Q S l,Q S o,Q S n,Q S p,T h L ck,Q S a] 145 (0,0))):
  A4 U 50 #[X (O ⟨lb,0,M⟩),A8 143 (X (O ⟨b,0,M⟩))] w fun e q=>e= Y (A5 (decide (1<=a/\a<(L:Int))))/\A6 w.heap.size w q:=by
 have u:=fun w=>asT b w;have x:=fun w=>asF b w;have r:w.cell? ⟨b,5,M⟩=O (T h L ck):=by rw[ay _ _ _ _ _ _ g];rfl
 have s:w.cell? ⟨b,6,M⟩=O (Q S a):=by rw[ay _ _ _ _ _ _ g];rfl
 clear g;by_cases d:1<=a
 ·by_cases f:a<(L:Int)
  ·rw[bg ⟨d,f⟩];go_in;go_wp2_with fail;go_quiet (fail)
   go_wp2_with fail;go_ret;exact⟨rfl,lH (ai _ _) _⟩
  ·rw[az (fun c=>f c.2)];have k:=aj f;go_in;go_wp2_with fail;go_quiet (fail)
   go_wp2_with fail;go_ret;exact⟨by show Ending.returned (A5 (decide (a<(L:Int))))=_;rw[az (by have:=k.out;omega)],lH (ai _ _) _⟩
 ·rw[az (fun c=>d c.1)];have v:decide ((1:Int)<=a)=A0:=az d;go_in;go_wp2_with fail;go_quiet (fail)
  go_wp2_with fail;go_ret;exact⟨rfl,lH (ai _ _) _⟩
theorem ff2(w:Z)(lb:Nat)(b:Nat):
  A4 U 50 #[X (O ⟨lb,0,M⟩),A8 146 (X (O ⟨b,0,M⟩))] w fun e a=>e= Y (A5 A3)/\a=w:=by
 have c:=fun w=>asT b w;have d:=fun w=>asF b w;go_in;go_wp2;go_ret;exact⟨rfl,rfl⟩
theorem ff6(w:Z)(lb:Nat)(b:Nat):
  A4 U 50 #[X (O ⟨lb,0,M⟩),A8 158 (X (O ⟨b,0,M⟩))] w fun e a=>e= Y (A5 A3)/\a=w:=by
 have c:=fun w=>asT b w;have d:=fun w=>asF b w;go_in;go_wp2;go_ret;exact⟨rfl,rfl⟩
theorem ff3(w:Z)(lb mb:Nat)(k:Ax)(h:Lk w lb mb k)(b:Nat)(a o q p r:Int)(vk:Ax)(x:ByteArray)(n:x.size<=1100000)
  (d:w.heap[b]?=O (A7 #[Q S a,Q S o,Q S q,Q S p,Q S r,vk,A1 x] 151 (0,0))):
  A4 U 50 #[X (O ⟨lb,0,M⟩),A8 149 (X (O ⟨b,0,M⟩))] w fun e c=>e= Y (A5 (txB a x))/\A6 w.heap.size w c:=by
 have t:=fun w=>asT b w;have u:=fun w=>asF b w;have g:=EJ w.drew lb mb k a x n (h.below (be (ai _ w)));have l:w.cell? ⟨b,0,M⟩=O (Q S a):=by rw[ay _ _ _ _ _ _ d];rfl
 have m:w.cell? ⟨b,6,M⟩=O (A1 x):=by rw[ay _ _ _ _ _ _ d];rfl
 generalize txB a x=s at g⊢;clear d h;go_in;go_wp2_with fail;go_region_held3 (fun c=>c.cell? ⟨b,0,M⟩=O (Q S a)/\c.cell? ⟨b,6,M⟩=O (A1 x)) (first|go_keep|exact⟨ah f l,ah f m⟩) ((go_at_call 106;refine g.mono ?_;rintro e v ⟨rfl,f⟩))
 go_wp2_with fail;go_ret;exact⟨rfl,(be (ai _ w)).trans f⟩
theorem ff4(w:Z)(lb:Nat)(b:Nat)(d h l k m a:Int)(vk:Ax)
  (f:w.heap[b]?=O (A7 #[Q S d,Q S h,Q S l,Q S k,Q S m,vk,Q S a] 154 (0,0))):
  A4 U 50 #[X (O ⟨lb,0,M⟩),A8 152 (X (O ⟨b,0,M⟩))] w fun e n=>e= Y (A5 (if d=30 then(decide ((19:Int)<=a)&&decide (a<=22)) else(decide ((1:Int)<=a)&&decide (a<=18))))/\n=w:=by
 have q:=fun w=>asT b w;have r:=fun w=>asF b w;have o:w.cell? ⟨b,0,M⟩=O (Q S d):=by rw[ay _ _ _ _ _ _ f];rfl
 have p:w.cell? ⟨b,6,M⟩=O (Q S a):=by rw[ay _ _ _ _ _ _ f];rfl
 clear f;by_cases g:d=30
 ·rw[ab g];by_cases c:(19:Int)<=a
  ·rw[bg c,fC];go_in;go_wp2;go_ret;exact⟨rfl,rfl⟩
  ·rw[az c,eG];go_in;go_wp2;go_ret;exact⟨rfl,rfl⟩
 ·rw[aa g];by_cases c:(1:Int)<=a
  ·rw[bg c,fC];go_in;go_wp2;go_ret;exact⟨rfl,rfl⟩
  ·rw[az c,eG];go_in;go_wp2;go_ret;exact⟨rfl,rfl⟩
theorem ff5(w:Z)(lb mb:Nat)(k:Ax)(h:Lk w lb mb k)(b:Nat)(t r v u x:Int)(vk:Ax)(vn:Ax)(o:Bool)(l:List ByteArray)(a:bF w vn l)(f:l.length<=1048576)(g:∀s∈l,s.size<=1048576)
  (d:w.heap[b]?=O (A7 #[Q S t,Q S r,Q S v,Q S u,Q S x,vk,vn,A5 o] 157 (0,0))):
  A4 U 50 #[X (O ⟨lb,0,M⟩),A8 155 (X (O ⟨b,0,M⟩))] w fun e m=>e= Y (A5 (sc l l.length 0))/\m=w:=by
 have z:=fun w=>asT b w;have A:=fun w=>asF b w;have c:=wv w lb mb k vn l h a f g;obtain⟨n,q,rfl⟩:=a.form;have p:w.cell? ⟨b,6,M⟩=O (T n l.length q):=by rw[ay _ _ _ _ _ _ d];rfl
 generalize sc l l.length 0=y at c⊢;generalize l.length=B at f c p⊢;clear d a g h;go_in;go_wp2_with (go_at_call 105;refine c.mono ?_;rintro e m ⟨rfl,rfl⟩);go_ret;exact⟨rfl,rfl⟩
