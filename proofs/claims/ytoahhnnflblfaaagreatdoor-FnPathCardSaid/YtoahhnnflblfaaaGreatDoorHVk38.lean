import Derived.Test.YtoahhnnflblfaaaGreatDoorHVk37
set_option linter.all false
set_option maxRecDepth 100000
set_option maxHeartbeats 12800000
open Go.Value renaming slice->M,int->N,string->Z
open Go.IntKind renaming i64->O
open Go.RowKit renaming Below->S,intOf->A0
open Go.Proofs.Tryz renaming prog->T
open Bool renaming false->U,true->Ax
open Go renaming World->V,Calls->Y
open Option renaming some->X
namespace Go.Proofs.YtoahhnnflblfaaaGreatDoor
open Go.RowKit Go.Maps Go.WideMaps
structure anl (w:V) (Q:ByteArray->List Nd->Prop):Prop where
 q:∀s ns,Q s ns->ns.length<=1048576/\GdO s ns
 ip:∀W v s ns at_,S w.heap.size w W->co W v ns->Q s ns->Y T 7 #[.agg #[v],.int .i64 at_] W fun e w'=>∃vo,e= .returned vo/\aK w' vo (lr ns at_)/\S W.heap.size W w'
 sp:∀W v s ns at_,S w.heap.size w W->co W v ns->Q s ns->Y T 9 #[.agg #[v],.int .i64 at_] W fun e w'=>∃vo,e= .returned vo/\aK w' vo (lr ns at_)/\S W.heap.size W w'
theorem BK{b:Nat}{a:V}{v:Value}{t:TypeId}(h:a.heap[b]?=X (.cells #[v] t (0,0))):a.cell? ⟨b,0,none⟩=X v:=by
 rw[ay _ _ _ _ _ _ h];rfl
structure Py (w:V) (tb n cv m:Nat) (av ap:Option Addr) (cp:Nat) (s:ByteArray) (at_:Int) (ns:List Nd) (R:List Int) (W:V):Prop where
 bel:S w.heap.size w W
 t:W.heap[tb]?=X (.cells #[.slice av n cv] 26 (0,0))
 nd:co W (.slice av n cv) ns
 p:aK W (.slice ap m cp) R
 n_:ns.length=n
 m_:R.length=m
 f:ank s ns at_ R
theorem Py.below{w b c:V}{j n i m g:Nat}{e d:Option Addr}{s:ByteArray}{at_:Int}{ns:List Nd}{R:List Int}(h:Py w j n i m e d g s at_ ns R b)(a:S b.heap.size b c):Py w j n i m e d g s at_ ns R c:=
 ⟨h.bel.trans (a.mono h.bel.size),(a.block _ (au h.t)).trans h.t,h.nd.below a,h.p.below a,h.n_,h.m_,h.f⟩
theorem Ik{l:List Int}(p:Int->Bool){i:Nat}{a:Int}(h:l[i]?=X a):(l.take (i+1)).any p=((l.take i).any p||p a):=by
 rw[gG,h,List.any_append];simp
theorem alF{a:Nat}{w b:V}(h:S a w b)(n:Nat):S a w (b.drewN n):=⟨h.os,h.tape,h.output,h.size,h.block⟩
theorem Kf(w:V)(ea bD:Option Addr)(am cap I cs:Nat)(ha:am<=9223372036854775807)(hc:I<=9223372036854775807){d9:ByteArray->List Nd->Prop}(dn:anl w d9)(er:Code w.heap.size w bD I)
  (e3:am<=1048576->Y T 4 #[M ea am cap] w fun e J=>∃s:ByteArray,e= .returned (Z s)/\(s.size<=1048576/\GdX s)/\S w.heap.size w J)
  (e5:∀w1 (s:ByteArray),s.size<=1048576/\GdX s->S w.heap.size w w1->∃c a ns,d9 s ns/\Y T 5 #[Z s] w1 fun e J=>∃v,e= .returned (.agg #[N O c,N O a,v])/\co J v ns/\S w1.heap.size w1 J):
  Y T 3 #[M ea am cap,M bD I cs] w fun e J=>e= .returned (.bool Ax)/\S w.heap.size w J:=by
 by_cases gv:1048576<am
 ·have c4:(1048576:Int)<(am:Int):=by omega
  go_in;go_wp2_with fail;go_ret;exact⟨rfl,ai _ _⟩
 have c4:¬(1048576:Int)<(am:Int):=by omega
 by_cases gz:1048576<I
 ·have es:(1048576:Int)<(I:Int):=by omega
  go_in;go_wp2_with fail;go_ret;exact⟨rfl,ai _ _⟩
 have es:¬(1048576:Int)<(I:Int):=by omega
 have e4:=e3 (by omega);have eL:∀(a9:V),S w.heap.size w a9->∀g:Int,0<=g->g<=1->Y T 6 #[M bD I cs,N O g] a9 fun e J=>∃h:Int,e= .returned (N O h)/\0<=h/\h<=255/\J=a9:=fun a9 bd g gd gf=>
  aco a9 bD I cs (by omega) (by
   have:=er.below bd;rcases this with gb|⟨fk,ht,e,af,A⟩
   ·exact .inl gb
   ·exact .inr ⟨fk,ht,e,jq af bd.size,A⟩) g gd gf
 have B:=jn dn e5 eL;clear e3 e5 dn eL er;go_in;go_wp2_with fail;refine e4.mono ?_;rintro e w1 ⟨s,rfl,c7,x⟩;obtain⟨c,a,ns,bj,e6⟩:=B.out.2.1 w1 s c7 x;have i5:=c7.1;clear e4 c7;go_wp2_with fail;refine e6.mono ?_;rintro e cf ⟨v,rfl,H,E⟩;have ih:∀(hw hy e8:Value)(w:V),(Instr.field 28 (.agg #[hw,hy,e8]) 2).run T w= .ok (.agg #[e8]) w:=fun _ _ _ _=>by kernel_rfl
 obtain⟨n,c6⟩:=aA ns.length;obtain⟨bE,b9,rfl⟩:=H.form;rw[c6]at H⊢;have a7:=tH (x.trans (E.mono x.size)) H bj c6;clear e6 x E H bj c6 c4 es gv gz ha hc;go_wp2_with fail;obtain⟨hC,eF⟩:=aA (cf.alloc (.cells #[M bE n b9] 26));have bo:=ar cf (.cells #[M bE n b9] 26);have b0:=bI cf (.cells #[M bE n b9] 26);rw[eF]at bo b0⊢;obtain⟨hv,ey⟩:=aA cf.heap.size;rw[ey]at bo⊢;have bs:=a7.out.1.trans (b0.mono a7.out.1.size);have dx:=a7.out.2.1.below b0;refine(B.out.2.2 hC bs 0 (by decide) (by decide)).mono ?_;rintro e hD ⟨z0,rfl,hH,hI,rfl⟩;go_wp2_with fail;refine(B.out.2.2 hD bs 1 (by decide) (by decide)).mono ?_;rintro e hE ⟨br,rfl,hJ,hK,rfl⟩;have hg:IntKind.i64.wrap (256*br)=256*br:=by rw[cw];omega
 have hh:IntKind.i64.wrap (z0+256*br)=z0+256*br:=by rw[cw];omega
 have ew:IntKind.i64.wrap ((s.size:Int)+2)=(s.size:Int)+2:=by rw[cw];omega
 have fo:=BK bo;have r:=tH bs bo dx a7.out.2.2;obtain⟨d,cb⟩:=aA ((z0+256*br)%((s.size:Int)+2));have gr:0<=d:=by rw[<-cb];exact Int.emod_nonneg _ (by omega)
 have gs:d<(s.size:Int)+2:=by rw[<-cb];exact Int.emod_lt_of_pos _ (by omega)
 clear eF b0 bo ey bs dx a7;go_wp2_with fail;rw[cb];clear cb hg hh ew hH hI hJ hK gs;obtain⟨C,bb⟩:=aA (lr ns d);obtain⟨j,bf⟩:=aA C.length;have ew:j<=3000:=by rw[<-bf,<-bb];exact acn ns d
 refine(B.out.1.ip hE _ s ns d r.out.1 r.out.2.2.1 r.out.2.2.2.1).mono ?_;rintro e hG ⟨j8,rfl,bn,b4⟩;rw[bb]at bn;obtain⟨ee,ei,rfl⟩:=bn.form;rw[bf]at bn⊢;have dd:=r.out.1.trans (b4.mono r.out.1.size);have c9:=(b4.block _ (au r.out.2.1)).trans r.out.2.1;have fq:=BK c9;have m:=ags dd c9 (r.out.2.2.1.below b4) bn r.out.2.2.2;clear fo r bn b4 dd c9;go_wp2_with fail;refine(B.out.1.sp hG _ s ns d m.out.1 m.out.2.2.1 m.out.2.2.2.2.1).mono ?_;rintro e fb ⟨j9,rfl,is,a5⟩;rw[bb]at is;obtain⟨fg,fn,rfl⟩:=is.form;rw[bf]at is⊢;have e7:=acp fb (M ee j ei) (M fg j fn) C (m.out.2.2.2.1.below a5) is (by omega);have ds:Py w hv n b9 j bE ee ei s d ns C fb:=⟨m.out.1.trans (a5.mono m.out.1.size),(a5.block _ (au m.out.2.1)).trans m.out.2.1,m.out.2.2.1.below a5,m.out.2.2.2.1.below a5,m.out.2.2.2.2.2,bf,by rw[<-bb];exact alC (B.out.1.q s ns m.out.2.2.2.2.1).2 gr⟩;have i3:n<=1048576:=by rw[<-m.out.2.2.2.2.2];exact(B.out.1.q s ns m.out.2.2.2.2.1).1
 have df:=aj ds;clear ds is a5 m fq bb bf B;go_wp2_with fail;refine e7.mono ?_;rintro e ao ⟨rfl,ef⟩;have o:=df.out.below ef;clear df e7 ef;by_cases g4:(s.size:Int)<=d
 ·have hf:j=0:=by rw[<-o.m_,o.f.ge g4];rfl
  have cl:=aj o.bel;clear o;subst hf;go_wp2_with fail;go_ret;exact⟨rfl,cl.out⟩
 obtain⟨hp,j3,ce⟩:=o.f.hd (by omega);rw[o.n_]at hp ce;have i2:0<j:=by rw[<-o.m_,ce];simp
 obtain⟨F,rfl,ct⟩:=o.p.get (k:=0) (s:=(n:Int)-1) (by rw[ce];rfl);have f5:ao.cell? F=X (N O ((n:Int)-1)):=by
  have e:F.add 0=F:=by cases F with|mk cq j2 hu=>cases hu<;>simp[Addr.add]
  rw[e]at ct;exact ct
 have fr:=BK o.t;have f6:((j:Int)==0)=U:=by rw[aL];omega
 have hj:(0:Int)<(j:Int):=by omega
 have ho:IntKind.i64.wrap ((n:Int)-1)=(n:Int)-1:=by rw[cw];omega
 have f7:(((n:Int)-1)!=((n:Int)-1))=U:=by simp
 have ff:=aj o;clear o ce;go_wp2_with fail;go_quiet (fail)
 have eo:S ao.heap.size ao (ao.drewN nq):=alF (ai _ _) _;generalize ao.drewN nq=ka at eo⊢;clear fr ct f5 f6 hj ho f7;go_wp2_with fail;go_loopw [70] (fun c8 wr=>∃i:Nat,c8= N O i/\i<=j/\Hid (S ao.heap.size ao wr)) (fun c8 _=>j-(A0 c8).toNat)
 case atStart=>exact⟨0,rfl,aG _,eo⟩
 case round=>
  obtain⟨i,rfl,i1,b5⟩:=hrel;have u:=ff.out.below b5.out;have ek:=BK u.t;by_cases he:i<j
  ·obtain⟨k,c5⟩:=bH u.m_ he;obtain⟨dc,b,rfl,H,⟨h9,ia,g9⟩,ev,eq⟩:=u.f.st i k c5;obtain⟨cr,cc,a6⟩:=u.p.get c5;obtain rfl:F=cr:=db cc;obtain⟨hL,gt,j6,j4,g0⟩:=u.nd.get H;subst gt;obtain⟨fu,fv,fz,fA,fB,f0,f3,f4,el,ex,al⟩:=g0;obtain⟨ec,eh,rfl⟩:=ex.form;obtain⟨eb,eg,rfl⟩:=al.form;have i7:dc<n:=by rw[<-u.n_];exact(List.getElem?_eq_some_iff.1 H).1
   have i9:(dc:Int)<(n:Int):=by omega
   have i8:(0:Int)<=(dc:Int):=by omega
   have g8:(i:Int)<(j:Int):=by omega
   have i0:(0:Int)<=(i:Int):=by omega
   have f8:¬d<b.f:=by omega
   have f9:¬b.t<=d:=by omega
   obtain⟨L,cx⟩:=aA b.ks.length;rw[cx]at el al g9;have a8:=tH ev eq cx al;clear c5 H ev eq cc cx;go_wp2_with fail;have ba:=bI wr (.cells #[N O b.k,N O b.f,N O b.t,N O b.l,N O b.op,N O b.n,Z b.x,M ec b.nm.length eh,M eb L eg] 36);obtain⟨e9,eA⟩:=aA (wr.alloc (.cells #[N O b.k,N O b.f,N O b.t,N O b.l,N O b.op,N O b.n,Z b.x,M ec b.nm.length eh,M eb L eg] 36));rw[eA]at ba⊢;have cm:=u.below ba;have h7:=BK cm.t;have K:=jn cm (a8.out.2.2.2.below ba) (b5.out.trans (ba.mono b5.out.size));clear cm u ek fu fv fz fA fB f0 f3 f4 el ex al a6 eA ba b5 f8 f9;go_loop [12,13,93] (fun hA hB da=>∃g:Nat,g<=L/\da= N O g/\hA= .bool ((b.ks.take g).any fun h=>decide (C[i+1]?=X h))/\hB= .bool ((b.ks.take g).any fun h=>kI (ns.getD h.toNat nI) d)) (fun _ _ da=>L-(A0 da).toNat)
   case atStart=>exact⟨0,aG _,rfl,rfl,rfl⟩
   case round=>
    obtain⟨g,c4,rfl,rfl,rfl⟩:=hrel;by_cases g6:g<L
    ·obtain⟨h,bl⟩:=bH a8.out.2.2.1 g6;obtain⟨h4,gu,ib⟩:=K.out.2.1.get bl;subst gu;obtain⟨a4,z,rfl,ca⟩:=a8.out.1 h (dl bl);obtain⟨h3,ep,j7,j5,c3⟩:=K.out.1.nd.get ca;obtain rfl:=db ep;have h5:=c3.c1;have h6:=c3.c2;have j1:a4<n:=by rw[<-K.out.1.n_];exact(List.getElem?_eq_some_iff.1 ca).1
     have j0:(a4:Int)<(n:Int):=by omega
     have ji:(0:Int)<=(a4:Int):=by omega
     have g5:(g:Int)<(L:Int):=by omega
     have iv:(0:Int)<=(g:Int):=by omega
     have cu:=Ik (fun h=>kI (ns.getD h.toNat nI) d) bl;have G:=Ik (fun h=>decide (C[i+1]?=X h)) bl;rw[show kI (ns.getD ((a4:Int)).toNat nI) d=decide (z.f<=d/\d<z.t) by rw[fD,bc,ca];rfl]at cu;obtain⟨bt,cy⟩:=aA ((b.ks.take (g+1)).any fun h=>kI (ns.getD h.toNat nI) d);obtain⟨bA,cz⟩:=aA ((b.ks.take (g+1)).any fun h=>decide (C[i+1]?=X h));obtain⟨x,cB⟩:=aA ((b.ks.take g).any fun h=>kI (ns.getD h.toNat nI) d);obtain⟨E,c0⟩:=aA ((b.ks.take g).any fun h=>decide (C[i+1]?=X h));rw[cy,cB]at cu;rw[cz,c0]at G;have dg:=eH cy cz;rw[cB,c0];have g7:(x=Ax/\bt=Ax)\/(x=U/\¬z.f<=d/\bt=U)\/(x=U/\z.f<=d/\d<z.t/\bt=Ax)\/(x=U/\z.f<=d/\¬d<z.t/\bt=U):=by
      cases x
      ·by_cases af:z.f<=d<;>by_cases A:d<z.t<;>simp_all
      ·simp_all
     obtain⟨y,bj⟩:∃y:Nat,i+1=y:=⟨_,rfl⟩;have i6:IntKind.i64.wrap ((i:Int)+1)=(y:Int):=by rw[cw];omega
     have i4:(0:Int)<=(y:Int):=by omega
     have hl:(E=Ax/\bA=Ax)\/(E=U/\¬(y:Int)<(j:Int)/\bA=U)\/(∃q,E=U/\(y:Int)<(j:Int)/\e9.cell? (F.add y)=X (N O q)/\(q==(a4:Int))=Ax/\bA=Ax)\/(∃q,E=U/\(y:Int)<(j:Int)/\e9.cell? (F.add y)=X (N O q)/\(q==(a4:Int))=U/\bA=U):=by
      rw[bj]at G;cases E
      ·by_cases af:y<j
       ·obtain⟨q,al⟩:=bH K.out.1.m_ af;obtain⟨cr,cc,a6⟩:=K.out.1.p.get al;obtain rfl:F=cr:=db cc;rw[al]at G;by_cases A:q=(a4:Int)
        ·exact .inr (.inr (.inl ⟨q,rfl,by omega,a6,by simp[A],by rw[G];simp[A]⟩))
        ·exact .inr (.inr (.inr ⟨q,rfl,by omega,a6,by simp[A],by rw[G];simp[A]⟩))
       ·refine .inr (.inl ⟨rfl,by omega,?_⟩);rw[G,fm (by rw[K.out.1.m_];omega)];simp
      ·exact .inl ⟨rfl,by rw[G];rfl⟩
     clear cu G cB c0 cy cz bl ca c3 ep bj;rcases g7 with⟨rfl,rfl⟩|⟨rfl,af,rfl⟩|⟨rfl,af,A,rfl⟩|⟨rfl,af,A,rfl⟩;all_goals rcases hl with⟨rfl,rfl⟩|⟨rfl,en,rfl⟩|⟨q,rfl,en,a6,gm,rfl⟩|⟨q,rfl,en,a6,gm,rfl⟩
     all_goals
      go_wp2_with fail;go_round
      case rel=>exact⟨g+1,by omega,by go_num,by rw[dg.out.2],by rw[dg.out.1]⟩
      case measure=>simp[A0];omega
    ·obtain rfl:g=L:=by omega
     have g5:¬(g:Int)<(g:Int):=by omega
     have em:b.ks.take g=b.ks:=cI (by rw[a8.out.2.2.1];exact ag _);rw[em,a8.out.2.1];obtain⟨cq,bd⟩:=aA (b.ks.any fun h=>decide (C[i+1]?=X h));rw[bd];have h8:(cq !=cq)=U:=by simp
     clear bd em;go_wp2_with fail;go_roundw
     case rel=>exact⟨i+1,by go_num,by omega,K.out.2.2⟩
     case measure=>simp[A0];omega
  ·obtain rfl:i=j:=by omega
   have g8:¬(i:Int)<(i:Int):=by omega
   have cl:=aj u.bel;clear u ek;go_wp2_with fail;go_ret;exact⟨rfl,cl.out⟩
