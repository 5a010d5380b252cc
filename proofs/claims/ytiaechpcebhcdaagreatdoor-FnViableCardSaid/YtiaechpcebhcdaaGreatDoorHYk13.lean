import Derived.Test.YtiaechpcebhcdaaGreatDoorHYk04
set_option linter.all false
set_option maxRecDepth 100000
set_option maxHeartbeats 6400000
open List renaming length->M
open Go.Value renaming int->S,slice->Y,bool->Ax,string->A9,agg->B0
open Go.IntKind renaming i64->T
open Go.Proofs.Tryz renaming prog->V
open Go.Ending renaming returned->X
open Go renaming Value->A0,Calls->A3,World->Br
open Go.RowKit renaming Below->A2,intOf->B1
open Bool renaming false->A5,true->B2
open Go.Obj renaming cells->A6
namespace Go.Proofs.YtiaechpcebhcdaaGreatDoor
open Go.RowKit Go.Maps Go.WideMaps
variable{N:Nd}{ns:List Nd}{vt:Value}{w:World}
def wh(l:List Bz):Nat->Nat->Bool
 |0,_=>B2
 |f+1,j=>qp (l.getD j ByteArray.empty)&&wh l f (j+1)
structure Hg (l:List Bz) (f j:Nat) (R:Bool):Prop where
 out:wh l f j=R
def gg(N:Nd)(a b:Int):Bool:=decide (a<=(M N.nm:Int)/\(M N.nm:Int)<=b)&&wh N.nm (M N.nm) 0
theorem aaf(w:Br)(N:Nd)(vn vk:A0)(o p:Int)(hn:dv w vn N.nm)(ag:dz w vk N.ks)(ak:M N.nm<=1048576)(am:∀s∈N.nm,s.size<=1048576):
  A3 V 158 #[jA N vn vk,S T o,S T p] w λe an=>e= X (Ax (gg N o p))/\A2 w.heap.size w an:=by
 have j:∀A,A2 w.heap.size w (w.alloc A):=λA=>(ai _ w).alloc cJ A;have q:=fD hn am;obtain⟨F,H,rfl⟩:=hn.form;obtain⟨G,K,rfl⟩:=ag.form;have⟨g,i⟩:=aw (gg N o p);rw[i];unfold gg at i;unfold jA;have⟨a,L⟩:=aw (M N.nm);rw[L]at q ak i⊢;generalize M N.ks=C;by_cases ap:(a:Int)<o
 .have d:Hid (A5=g):=U;go_in;go_wp2;go_ret;exact⟨by rw[<-d.out];rfl,j _⟩
 by_cases ar:p<(a:Int)
 .have d:Hid (A5=g):=U;go_in;go_wp2;go_ret;exact⟨by rw[<-d.out];rfl,j _⟩
 have d:Hg N.nm a 0 g:=⟨U⟩;clear i;go_in;go_wp21
 have r:=j (A6 #[S T N.k,S T N.f,S T N.t,S T N.l,S T N.op,S T N.n,A9 N.x,Y F a H,Y G C K] 100);generalize w.alloc (A6 #[S T N.k,S T N.f,S T N.t,S T N.l,S T N.op,S T N.n,A9 N.x,Y F a H,Y G C K] 100)=E at r⊢;clear j;go_loopw [24,8] (λB _ wr=>∃(b:Nat),B= S T b/\b<=a/\Hg N.nm (a-b) b g/\A2 E.heap.size E wr) (λB _ _=>a-(B1 B).toNat)
 case atStart=>exact⟨0,rfl,O,d,ai _ _⟩
 case round=>
  obtain⟨b,rfl,aL,ad,u⟩:=hrel;have y:=r.trans (u.mono r.size);have c:=ad.out;by_cases al:b<a
  .have⟨s,z⟩:=dh (aj L).out al;have a0:=q.2 s (da z);obtain⟨a1,rfl,av⟩:=(q.1.below y).get z;rw[(O:a-b=(a-(b+1))+1),wh,er,z,jF]at c;have af:(b:Int)<(a:Int):=O;have m:=zJ s O wr;cases hx:qp s with
   |true=>
    rw[hx,gK]at c;rw[hx]at m;have h:Hg N.nm (a-(b+1)) (b+1) g:=⟨c⟩;clear c hx;go_wp2_with (go_at_call 162;apply m.mono;rintro e ao ⟨rfl,v⟩);exact⟨⟨b+1,by go_num,O,h,u.trans (v.mono u.size)⟩,by simp[B1];omega⟩
   |false=>
    rw[hx,gJ]at c;rw[hx]at m;have h:=aj c;clear c hx;go_wp2_with (go_at_call 162;apply m.mono;rintro e ao ⟨rfl,v⟩);go_ret;exact⟨by rw[<-h.out];rfl,y.trans (v.mono y.size)⟩
  .rw[(O:a-b=0),wh]at c;have h:=aj c;have af:¬(b:Int)<(a:Int):=O;go_wp21
   go_ret
   simp_all
def Er(x:Bz):Bool:=decide (x.toList=[])
def bK(N:Nd)(op b c a:Bool):Bool:=(op||N.op==0)&&(b||N.n==0)&&(c||Er N.x)&&(a||decide (M N.nm=0))
def aci(w:Br)(N:Nd)(vn vk:A0)(hn:dv w vn N.nm)(g:dz w vk N.ks)(p:M N.nm<=1048576)(a b c d:Bool):
  A3 V 157 #[jA N vn vk,Ax a,Ax b,Ax c,Ax d] w λe i=>e= X (Ax (bK N a b c d))/\A2 w.heap.size w i:=by
 obtain⟨l,n,rfl⟩:=hn.form;obtain⟨m,o,rfl⟩:=g.form;have⟨k,f⟩:=aw (bK N a b c d);rw[f];unfold jA;generalize M N.ks=j;unfold bK Er at f;by_cases h:N.x.toList=[];all_goals
  simp only[h,decide_true,decide_false]at f;cases t4:((M N.nm:Int)==0);all_goals
   go_in;go_wp2;all_goals
    go_ret;exact⟨by rw[<-(aj f).out];simp at t4;simp[*],(aj (de w)) _⟩
structure NArg (W:Br) (vt:A0) (ns:List Nd) (N:Nd) (vn vk:A0):Prop where
 t:fj W vt ns
 n:dv W vn N.nm
 k:dz W vk N.ks
 ok:AD ns N
 ln:M ns<=1048576
 l1:M N.nm<=1048576
 l2:M N.ks<=1048576
 lx:N.x.size<=1048576
 ls:∀s∈N.nm,s.size<=1048576
def NArg.below{W b:Br}{vn vk:A0}(h:NArg W vt ns N vn vk)(a:A2 W.heap.size W b):NArg b vt ns N vn vk:=
 ⟨h.t.below a,h.n.below a,h.k.below a,h.ok,h.ln,h.l1,h.l2,h.lx,h.ls⟩
structure St (w:Br) (vt:A0) (ns:List Nd) (N:Nd) (vn vk:A0) (W:Br):Prop where
 a:NArg W vt ns N vn vk
 bt:W.cell? ⟨w.heap.size,0,none⟩=some vt
 bn:rA (w.heap.size+1) W 100 N vn vk
 bel:A2 w.heap.size w W
def St.below{vn vk:A0}{W c:Br}(h:St w vt ns N vn vk W)(b:A2 W.heap.size W c):St w vt ns N vn vk c:=
 ⟨h.a.below b,aq b h.bt,h.bn.below b,h.bel.trans (b.mono h.bel.size)⟩
theorem St.start{vn vk:A0}(h:NArg w vt ns N vn vk):St w vt ns N vn vk ((w.alloc (A6 #[vt] 26)).alloc (A6 #[S T N.k,S T N.f,S T N.t,S T N.l,S T N.op,S T N.n,A9 N.x,vn,vk] 100)):=by
 have a:A2 w.heap.size w ((w.alloc (A6 #[vt] 26)).alloc (A6 #[S T N.k,S T N.f,S T N.t,S T N.l,S T N.op,S T N.n,A9 N.x,vn,vk] 100)):=((ai _ w).alloc cJ _).alloc I _;refine⟨h.below a,?_,?_,a⟩
 .simp_all
 .have:=ay (w.alloc (A6 #[vt] 26)) (A6 #[S T N.k,S T N.f,S T N.t,S T N.l,S T N.op,S T N.n,A9 N.x,vn,vk] 100);rw[fp]at this;exact this
def rD{vn vk:A0}(a:NArg w vt ns N vn vk)(i:Nat)(g:i<M N.ks):
  A3 V 156 #[B0 #[vt],jA N vn vk,S T i] w λe h=>e= X (S T (gq ns N i))/\A2 w.heap.size w h:=by
 have⟨j,b,c,d,f,l⟩:=a.ok.get g;rw[f];exact aft w vt ns N b vn vk i j a.t a.n a.k c d a.ln a.l2
abbrev aN(N:Nd)(vn vk:A0):A0:= B0 #[S T N.k,S T N.f,S T N.t,S T N.l,S T N.op,S T N.n,A9 N.x,vn,vk]
section
variable {w W : World} {vt vn vk : Value} {ns : List Nd} {N : Nd} {Q : Ending → World → Prop} (s : St w vt ns N vn vk W)
include s
def St.bare{a b c d:Bool}(k:∀e,St w vt ns N vn vk e->Q (X (Ax (bK N a b c d))) e):A3 V 157 #[aN N vn vk,Ax a,Ax b,Ax c,Ax d] W Q:=dm (aci _ N _ _ s.a.n s.a.k s.a.l1 _ _ _ _) λg f=>k g (s.below f)
def St.named{a b:Int}(k:∀c,St w vt ns N vn vk c->Q (X (Ax (gg N a b))) c):A3 V 158 #[aN N vn vk,S T a,S T b] W Q:=dm (aaf _ N _ _ a b s.a.n s.a.k s.a.l1 s.a.ls) λe d=>k e (s.below d)
def St.ex1(d:1<=M N.ks)(k:∀b,St w vt ns N vn vk b->Q (X (Ax (mD ns N 1 0))) b):A3 V 159 #[B0 #[vt],aN N vn vk,S T 0,S T 1] W Q:=dm (mE _ _ ns N _ _ 0 1 s.a.t s.a.n s.a.k s.a.ok d s.a.ln s.a.l2) λe c=>k e (s.below c)
def St.ex2(d:2<=M N.ks)(k:∀b,St w vt ns N vn vk b->Q (X (Ax (mD ns N 2 0))) b):A3 V 159 #[B0 #[vt],aN N vn vk,S T 0,S T 2] W Q:=dm (mE _ _ ns N _ _ 0 2 s.a.t s.a.n s.a.k s.a.ok d s.a.ln s.a.l2) λe c=>k e (s.below c)
def St.exL(k:∀b,St w vt ns N vn vk b->Q (X (Ax (mD ns N (M N.ks) 0))) b):A3 V 159 #[B0 #[vt],aN N vn vk,S T 0,S T (M N.ks:Int)] W Q:=dm (mE _ _ ns N _ _ 0 _ s.a.t s.a.n s.a.k s.a.ok cJ s.a.ln s.a.l2) λd c=>k d (s.below c)
def St.kid0(d:0<M N.ks)(k:∀b,St w vt ns N vn vk b->Q (X (S T (gq ns N 0))) b):A3 V 156 #[B0 #[vt],aN N vn vk,S T 0] W Q:=dm (rD s.a 0 d) λe c=>k e (s.below c)
def St.kid1(d:1<M N.ks)(k:∀b,St w vt ns N vn vk b->Q (X (S T (gq ns N 1))) b):A3 V 156 #[B0 #[vt],aN N vn vk,S T 1] W Q:=dm (rD s.a 1 d) λe c=>k e (s.below c)
end
def Dk:List Int:=[20,21,22,27,23,24,25,26,28,29,32,30,31,33,34,35,36,37,40,41,42]
def al0{vn vk:A0}(a:NArg w vt ns N vn vk)(b:∀c∈Dk,N.k≠c):
  A3 V 97 #[B0 #[vt],jA N vn vk] w λe f=>e= X (Ax A5)/\A2 w.heap.size w f:=by
 obtain⟨g,j,rfl⟩:=a.t.form;obtain⟨h,l,rfl⟩:=a.n.form;obtain⟨i,m,rfl⟩:=a.k.form;have d:=St.start a;clear a;have o:∀c:Int,20<=c->c<=37->(N.k==c)=A5:=λc _ _=>beq_eq_false_iff_ne.2 (b c (by simp[Dk];omega));have p:∀c:Int,40<=c->c<=42->(N.k==c)=A5:=λc _ _=>beq_eq_false_iff_ne.2 (b c (by simp[Dk];omega));clear b;unfold jA;go_in;go_wp2;go_ret;exact⟨rfl,d.bel⟩
def enB(ns:List Nd)(N:Nd):Nat->Nat->Bool
 |0,_=>B2
 |f+1,j=>decide (40<=gq ns N j/\gq ns N j<=42)&&enB ns N f (j+1)
structure ao5 (ns:List Nd) (N:Nd) (f j:Nat) (R:Bool):Prop where
 out:enB ns N f j=R
theorem aie{vn vk:A0}(i:NArg w vt ns N vn vk)(E:N.k=35):
  A3 V 97 #[B0 #[vt],jA N vn vk] w λe m=>e= X (Ax (enB ns N (M N.ks) 0&&bK N A5 A5 A5 A5))/\A2 w.heap.size w m:=by
 obtain⟨H,ad,rfl⟩:=i.t.form;obtain⟨K,af,rfl⟩:=i.n.form;obtain⟨L,ag,rfl⟩:=i.k.form;have b:=St.start i;have a4:=i.l2;clear i;have a5:=kqf E;have a6:=kqs E;clear E;have⟨C,F⟩:=aw (enB ns N (M N.ks) 0);rw[F];have ao:ao5 ns N (M N.ks) 0 C:=⟨F⟩;clear F;unfold jA;go_in;go_wp2_with fail;generalize (w.alloc (A6 #[Y H (M ns) ad] 26)).alloc (A6 #[S T N.k,S T N.f,S T N.t,S T N.l,S T N.op,S T N.n,A9 N.x,Y K (M N.nm) af,Y L (M N.ks) ag] 100)=ar at b⊢;go_loopw [6,7,200] (λ_ _ G wr=>∃(c:Nat),G= S T c/\c<=M N.ks/\ao5 ns N (M N.ks-c) c C/\St w (Y H (M ns) ad) ns N (Y K (M N.nm) af) (Y L (M N.ks) ag) wr) (λ_ _ G _=>M N.ks-(B1 G).toNat)
 case atStart=>grind
 case round=>
  clear b;obtain⟨c,rfl,a0,al,b⟩:=hrel;have⟨o,p,q,r,s,u,v,y,z,A⟩:=co b.bn;have B:=b.bt;have d:=al.out;by_cases an:c<M N.ks
  .rw[(O:M N.ks-c=(M N.ks-(c+1))+1),enB]at d;have am:(c:Int)<(M N.ks:Int):=O;have j:=rD b.a c an;unfold jA at j;generalize gq ns N c=ak at d j;by_cases av:ak<40
   .rw[aG O,gJ]at d;have h:=aj d;clear d;go_wp2_with (go_at_call 156;refine j.mono ?_;rintro e m ⟨rfl,g⟩;replace b:=b.below g;clear g;obtain⟨o,p,q,r,s,u,v,y,z,A⟩:=co b.bn;have B:=b.bt);go_ret;exact⟨by rw[<-h.out];rfl,b.bel⟩
   by_cases aL:42<ak
   .rw[aG O,gJ]at d;have h:=aj d;clear d;go_wp2_with (go_at_call 156;refine j.mono ?_;rintro e m ⟨rfl,g⟩;replace b:=b.below g;clear g;obtain⟨o,p,q,r,s,u,v,y,z,A⟩:=co b.bn;have B:=b.bt);go_ret;exact⟨by rw[<-h.out];rfl,b.bel⟩
   rw[dB O,gK]at d;have h:ao5 ns N (M N.ks-(c+1)) (c+1) C:=⟨d⟩;clear d;go_wp2_with (go_at_call 156;refine j.mono ?_;rintro e m ⟨rfl,g⟩;replace b:=b.below g;clear g;obtain⟨o,p,q,r,s,u,v,y,z,A⟩:=co b.bn;have B:=b.bt);exact⟨⟨c+1,by go_num,O,h,b⟩,by simp[B1];omega⟩
  .rw[(O:M N.ks-c=0),enB]at d;have h:=aj d;have am:¬(c:Int)<(M N.ks:Int):=O;clear d;go_wp2_with (go_at_call 157;refine b.bare λap b=>?_;obtain⟨o,p,q,r,s,u,v,y,z,A⟩:=co b.bn;have B:=b.bt);go_ret;exact⟨by rw[<-h.out];rfl,b.bel⟩
def sbB(ns:List Nd)(N:Nd):Nat->Nat->Bool
 |0,_=>B2
 |f+1,j=>ll (gq ns N j)&&sbB ns N f (j+1)
structure ao6 (ns:List Nd) (N:Nd) (f j:Nat) (R:Bool):Prop where
 out:sbB ns N f j=R
theorem al3{vn vk:A0}(g:NArg w vt ns N vn vk)(am:N.k=1):
  A3 V 96 #[B0 #[vt],jA N vn vk] w λe r=>e= X (Ax (sbB ns N (M N.ks) 0&&bK N A5 A5 A5 A5))/\A2 w.heap.size w r:=by
 obtain⟨H,ad,rfl⟩:=g.t.form;obtain⟨K,af,rfl⟩:=g.n.form;obtain⟨L,ag,rfl⟩:=g.k.form;have b:=St.start g;have a0:=g.l2;clear g;have a4:(N.k==1)=B2:=U;clear am;have⟨o,p⟩:=aw (sbB ns N (M N.ks) 0);rw[p];have ap:ao6 ns N (M N.ks) 0 o:=⟨p⟩;clear p;unfold jA;go_in;go_wp2_with fail;generalize (w.alloc (A6 #[Y H (M ns) ad] 26)).alloc (A6 #[S T N.k,S T N.f,S T N.t,S T N.l,S T N.op,S T N.n,A9 N.x,Y K (M N.nm) af,Y L (M N.ks) ag] 100)=av at b⊢;go_loopw [6,18] (λ_ q wr=>∃(c:Nat),q= S T c/\c<=M N.ks/\ao6 ns N (M N.ks-c) c o/\St w (Y H (M ns) ad) ns N (Y K (M N.nm) af) (Y L (M N.ks) ag) wr) (λ_ q _=>M N.ks-(B1 q).toNat)
 case atStart=>grind
 case round=>
  clear b;obtain⟨c,rfl,aL,al,b⟩:=hrel;have⟨s,u,v,y,z,A,B,C,E,F⟩:=co b.bn;have G:=b.bt;have d:=al.out;by_cases ao:c<M N.ks
  .rw[(O:M N.ks-c=(M N.ks-(c+1))+1),sbB]at d;have an:(c:Int)<(M N.ks:Int):=O;have j:=rD b.a c ao;unfold jA at j;generalize gq ns N c=ak at d j;have m:=λw=>DD ak w;cases hx:ll ak with
   |false=>
    rw[hx,gJ]at d;rw[hx]at m;have h:=aj d;clear d hx;go_wp2_with (first|(go_at_call 156;refine j.mono ?_;rintro e r ⟨rfl,i⟩;replace b:=b.below i;clear i;obtain⟨s,u,v,y,z,A,B,C,E,F⟩:=co b.bn;have G:=b.bt)|(go_at_call 95;refine eE (m _) ?_));go_ret;exact⟨by rw[<-h.out];rfl,b.bel⟩
   |true=>
    rw[hx,gK]at d;rw[hx]at m;have h:ao6 ns N (M N.ks-(c+1)) (c+1) o:=⟨d⟩;clear d hx;go_wp2_with (first|(go_at_call 156;refine j.mono ?_;rintro e r ⟨rfl,i⟩;replace b:=b.below i;clear i;obtain⟨s,u,v,y,z,A,B,C,E,F⟩:=co b.bn;have G:=b.bt)|(go_at_call 95;refine eE (m _) ?_));exact⟨⟨c+1,by go_num,O,h,b⟩,by simp[B1];omega⟩
  .rw[(O:M N.ks-c=0),sbB]at d;have h:=aj d;have an:¬(c:Int)<(M N.ks:Int):=O;clear d;go_wp2_with (go_at_call 157;refine b.bare λar b=>?_;obtain⟨s,u,v,y,z,A,B,C,E,F⟩:=co b.bn;have G:=b.bt);go_ret;exact⟨by rw[<-h.out];rfl,b.bel⟩
def aif{vn vk:A0}(a:NArg w vt ns N vn vk)(b:1<M N.ks):
  A3 V 156 #[B0 #[vt],B0 #[S T N.k,S T N.f,S T N.t,S T N.l,S T N.op,S T N.n,A9 N.x,vn,vk],S T 1] w λe c=>e= X (S T (gq ns N 1))/\A2 w.heap.size w c:=rD a 1 b
theorem aag{s t:Bz}(h:s≠t):(s.toList==t.toList)=A5:=by
 rw[qK];intro a;apply h;rw[fL,fL]at a;cases s;simp_all
def aig{s t:Bz}(h:s=t):(s.toList==t.toList)=B2:=U
theorem acj(w:Br)(u v:A0)(b c:List Bz)(F:dv w u b)(G:dv w v c)(o:M b<=1048576)(K:M c<=1048576):
  A3 V 200 #[u,v] w λe al=>e= X (Ax (decide (b=c)))/\A2 w.heap.size w al:=by
 obtain⟨A,C,rfl⟩:=F.form;obtain⟨B,E,rfl⟩:=G.form;by_cases L:M b=M c
 .obtain⟨i,n⟩:=aw (decide (b=c));rw[n];have⟨f,q⟩:=aw (M b);have r:M c=f:=O;have j:=jB q r n;have l:Hid (dv w (Y A f C) b/\dv w (Y B f E) c):=⟨U,U⟩;rw[q]at o⊢;rw[r];go_in;go_wp21
  go_loopw [13] (λk wr=>∃d:Nat,d<=f/\k= S T d/\Hid (∀a,a<d->b[a]?=c[a]?)/\A2 w.heap.size w wr) (λk _=>f-(B1 k).toNat)
  case atStart=>exact⟨0,O,rfl,λa H=>O,ai _ _⟩
  case round=>
   obtain⟨d,av,rfl,m,h⟩:=hrel;by_cases p:d<f
   .obtain⟨ag,ad⟩:=dh j.1 p;have⟨ak,af⟩:=dh j.2.1 p;obtain⟨am,rfl,ao⟩:=(l.1.below h).get ad;obtain⟨an,rfl,ap⟩:=(l.2.below h).get af;by_cases t:ag=ak
    .subst t;have x:Hid (∀a,a<d+1->b[a]?=c[a]?):=λa H=>by
      rcases aH a d with g|g
      .exact m a g
      grind
     go_wp21
     go_quiet (fail)
     go_wp21
     exact⟨⟨d+1,O,by go_num,x,mi h _⟩,by simp[B1];omega⟩
    .have y:Hid (i=A5):=by
      show i=A5;grind
     have ar:=aag t;go_wp21
     go_quiet (fail)
     go_wp21
     go_ret;exact⟨by rw[y.out];rfl,mi h _⟩
   .obtain rfl:d=f:=O;have z:Hid (i=B2):=by
     show i=B2;rw[<-j.out.2.2];refine dB (List.ext_getElem? λa=>?_);rcases aH a d with g|g
     .exact m a g
     grind
    go_wp21
    go_ret;exact⟨by rw[z.out];rfl,h⟩
 .rw[aG (λe=>L (by rw[e]))];have s:¬(M b:Int)=(M c:Int):=O;generalize M b=aL at s o⊢;generalize M c=a0 at s K⊢;go_in;go_wp2;go_ret;exact⟨rfl,ai _ _⟩
def Et(a N:Nd):Bool:=decide (a.op=N.op/\a.n=N.n/\a.x=N.x/\a.nm=N.nm)
theorem Eu(w:Br)(b N:Nd)(K ad vn vk:A0)(L:dv w K b.nm)(hn:dv w vn N.nm)(ak:∃a n c,ad= Y a n c)(ag:∃a n c,vk= Y a n c)(al:M b.nm<=1048576)(am:M N.nm<=1048576):
  A3 V 139 #[jA b K ad,jA N vn vk] w λe an=>e= X (Ax (Et b N))/\A2 w.heap.size w an:=by
 have l:∀d f,A2 w.heap.size w ((w.alloc d).alloc f):=λd f=>((ai _ w).alloc cJ d).alloc I f;have j:=λd f=>acj ((w.alloc d).alloc f) K vn b.nm N.nm (L.below (l d f)) (hn.below (l d f)) al am;obtain⟨av,a6,rfl⟩:=L.form;obtain⟨aL,a7,rfl⟩:=hn.form;obtain⟨a0,ba,a8,rfl⟩:=ak;obtain⟨a5,bb,a9,rfl⟩:=ag;unfold jA Et;generalize M b.nm=ao at j⊢;generalize M N.nm=ap at j⊢;by_cases h:b.op=N.op
 .by_cases i:b.n=N.n
  .by_cases k:b.x=N.x
   .have e:decide (b.op=N.op/\b.n=N.n/\b.x=N.x/\b.nm=N.nm)=decide (b.nm=N.nm):=by
     grind
    rw[e];have H:=aig k;generalize decide (b.nm=N.nm)=ar at j⊢;obtain⟨o,m,t,p,s,q,u,r,mks⟩:=b;obtain⟨y,v,F,A,E,B,G,C,z⟩:=N;simp only at h i H⊢;go_in;go_wp2_with (go_at_call 200;refine(j _ _).mono ?_;rintro e bc ⟨rfl,af⟩);go_ret;exact⟨rfl,(l _ _).trans (af.mono byT)⟩
   .rw[aG (λg=>k g.2.2.1)];have H:=aag k;obtain⟨o,m,t,p,s,q,u,r,mks⟩:=b;obtain⟨y,v,F,A,E,B,G,C,z⟩:=N;simp only at h i H⊢;go_in;go_wp2;go_ret
    simp_all
  .rw[aG (λg=>i g.2.1)];obtain⟨o,m,t,p,s,q,u,r,mks⟩:=b;obtain⟨y,v,F,A,E,B,G,C,z⟩:=N;simp only at h i⊢;go_in;go_wp2;go_ret
   simp_all
 .rw[aG (λg=>h g.1)];obtain⟨o,m,t,p,s,q,u,r,mks⟩:=b;obtain⟨y,v,F,A,E,B,G,C,z⟩:=N;simp only at h⊢;go_in;go_wp2;go_ret
  simp_all
