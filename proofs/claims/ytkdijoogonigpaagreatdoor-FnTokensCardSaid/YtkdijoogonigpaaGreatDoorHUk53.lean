import Derived.Test.YtkdijoogonigpaaGreatDoorHUk52
set_option linter.all false
set_option maxRecDepth 100000
set_option maxHeartbeats 6400000
open Go.Value renaming int->M,string->R,slice->U,bool->W
open Go.IntKind renaming i64->N
open Option renaming some->O,none->T
open Go.Obj renaming cells->Q
open Go.Proofs.Tryz renaming prog->V
namespace Go.Proofs.YtkdijoogonigpaaGreatDoor
open Go.RowKit Go.Maps Go.WideMaps
theorem Tc.b{c:World}{b:Nat}{a:Tk}(d:c.heap[b]?=O (Q #[M N a.k,M N a.f,M N a.t,M N a.l,M N a.n,R a.x] 29 (0,0))):c.cell? ⟨b,0,T⟩=O (M N a.k)/\c.cell? ⟨b,1,T⟩=O (M N a.f)/\c.cell? ⟨b,2,T⟩=O (M N a.t)/\c.cell? ⟨b,3,T⟩=O (M N a.l)/\c.cell? ⟨b,4,T⟩=O (M N a.n)/\c.cell? ⟨b,5,T⟩=O (R a.x):=by
 have:=C7 d;exact this
theorem aga(op:BinOp)(x y:Operand)(a b:Array Value)(w:World):(eqGuard op 29 x y (.agg a) (.agg b)).run V w= .ok () w:=run_eqGuard_agg w op 29 x y a b (by kernel_rfl)
theorem agb(k b t l n:Int)(x:ByteArray)(w:World):(binOp .neq 29 (.agg #[.int .i64 k,.int .i64 b,.int .i64 t,.int .i64 l,.int .i64 n,.string x]) (.agg #[.int .i64 k,.int .i64 b,.int .i64 t,.int .i64 l,.int .i64 n,.string x])).run V w= .ok (.bool false) w:=by
 rw[run_neq_struct,run_equalIn_agg w 9999 29 _ _ (by kernel_rfl) (by kernel_rfl)];have c:∀a w,(Op.equalIn 9999 3 (.int .i64 a) (.int .i64 a)).run V w= .ok true w:=fun a w=>by rw[run_equalIn_int w 9998 3 .i64 .i64 a a (by kernel_rfl)];simp
 have d:∀a w,(Op.equalIn 9999 2 (.int .i64 a) (.int .i64 a)).run V w= .ok true w:=fun a w=>by rw[run_equalIn_int w 9998 2 .i64 .i64 a a (by kernel_rfl)];simp
 have e:∀a w,(Op.equalIn 9999 9 (.string a) (.string a)).run V w= .ok true w:=fun a w=>by rw[run_equalIn_string w 9998 9 a a (by kernel_rfl)];simp
 simp[Op.eqFields,Program.fieldsOf,Tryz.underlying29,c,d,e,go_sem]
theorem aeE{a b:List Tk}(e:a.map GC=b.map GC){i:Nat}{S c:Tk}(hS:a[i]?=O S)(g:b[i]?=O c):S.k=c.k/\S.n=c.n/\S.x=c.x:=by
 have d:(a.map GC)[i]?=O (GC S):=by rw[dj,hS];rfl
 have f:(b.map GC)[i]?=O (GC c):=by rw[dj,g];rfl
 rw[e,f]at d;have:=dr d;unfold GC at this;simp only[oE]at this;exact⟨this.1.symm,this.2.1.symm,this.2.2.symm⟩
theorem aac{a:List Tk}{i:Nat}{b:Tk}(c:a[i]?=O b):fK (a.take (i+1))=fK (a.take i)++(Dv b++⟨#[32]⟩):=by
 rw[iq,c];exact Jc _ _
theorem ab8{b:List Tk}{i:Nat}{a:Tk}(d:∀t∈b.take i,(Dv t).size≠0)(f:b[i]?=O a)(e:(Dv a).size≠0):∀t∈b.take (i+1),(Dv t).size≠0:=fun t ht=>by
 rw[iq,f]at ht;rcases List.mem_append.1 ht with ht|ht
 ·exact d t ht
 ·have c:t=a:=by simpa using ht
  rw[c];exact e
theorem CI(w:World)(es:Option Addr)(G ev:Nat)(hm:G<=9223372036854775807)(dn:zr w)(dk:8<=w.heap.size)
  (cl:G<=1048576->Calls V 4 #[U es G ev] w fun e d=>∃t:ByteArray,e= .returned (R t)/\uT t<=65536/\Below w.heap.size w d):
  Calls V 3 #[U es G ev] w fun e d=>e= .returned (W true)/\Below w.heap.size w d:=by
 by_cases hh:1048576<G
 ·have hg:(1048576:Int)<(G:Int):=by omega
  go_in;go_wp2_with fail;go_ret;exact⟨rfl,aq _ _⟩
 have hi:¬(1048576:Int)<(G:Int):=by omega
 have cl:=cl (by omega);go_in;go_wp2_with fail;refine cl.mono ?_;rintro e w1 ⟨bj,rfl,fc,b0⟩;have af:=Bz bj w1 (dn.below b0 (ag _)) (bA dk b0.size);have ak:=fun w=>AC bj (bA (Az (n:=32768) (by omega)) (by decide)) w;have cf:=tsp fc;generalize fi (pH bj)=h at af ak cf;generalize tA (pH bj)=u at af ak;generalize (pH bj).1=s at af ak;have bt:=ar cf;have ge:=cf.len;obtain⟨n,d6⟩:=aD h.length;rw[d6]at af ak ge;have H:=gy b0 dn dk;clear cl fc b0 cf dn dk;go_wp2_with fail;refine af.mono ?_;rintro e cp ⟨hr,rfl,eb,c6⟩;obtain⟨bE,a4,rfl⟩:=ey eb;have bl:=ax cp (Q #[W s,M N u,U bE n a4] 26);have ca:=dF cp (Q #[W s,M N u,U bE n a4] 26);go_wp2_with fail;obtain⟨g4,fg⟩:=aD (cp.alloc (Q #[W s,M N u,U bE n a4] 26));rw[fg]at bl ca⊢;obtain⟨fB,e7⟩:=aD cp.heap.size;rw[e7]at bl⊢;have cy:=(H.out.1.trans (c6.mono H.out.1.size)).trans (ca.mono (bA H.out.1.size c6.size));have fA:=qs eb ca;refine(ak g4).mono ?_;rintro e am ⟨hs,rfl,ec,c7⟩;obtain⟨av,L,rfl⟩:=ey ec;have f3:=ax am (Q #[W s,M N u,U av n L] 26);have c9:=dF am (Q #[W s,M N u,U av n L] 26);have cb:=c7.trans (c9.mono c7.size);have K:Tl w fB am.heap.size n a4 L s u bE av h (am.alloc (Q #[W s,M N u,U av n L] 26)):=⟨cy.trans (cb.mono cy.size),(cb.block _ (au bl)).trans bl,f3,⟨_,qs fA cb⟩,⟨_,qs ec c9⟩,d6⟩;clear af ak eb ec fA bl f3 c6 ca c7 c9 cb cy e7 d6;go_upto_region 6 with fail
 obtain⟨fF,fk⟩:=aD (am.alloc (Q #[W s,M N u,U av n L] 26));rw[fk]at K⊢;obtain⟨gt,e8⟩:=aD am.heap.size;rw[e8]at K⊢;obtain⟨ct,cu,bn⟩:=sc3 K.x1;obtain⟨z0,cv,an⟩:=sc3 K.x2;have f5:=ar K;clear K fg fk e8;go_wp2_with fail;go_loopw [6,46] (fun gs E wr=>∃c:Nat,E= M N c/\c<=n/\gs= R (fK (h.take c))/\Hid (∀t∈h.take c,(Dv t).size≠0)/\Hid (Below fF.heap.size fF wr)) (fun _ E _=>n-(intOf E).toNat)
 case atStart=>exact⟨0,rfl,aG _,rfl,(fun t gr=>by simp at gr),aq _ _⟩
 case round=>
  obtain⟨c,rfl,hj,rfl,bs,cz⟩:=hrel;have m:=f5.out.below cz.out;have d8:=bt.out.out c;by_cases a7:c<n
  ·obtain⟨a,a5,q,r,rfl,rfl,cm,cn⟩:=m.get a7;have f9:(0:Int)<=(c:Int):=by omega
   have gd:(c:Int)<(n:Int):=by omega
   have a6:=bt.out.inn a (dC r);have d7:=aac r;have a9:=bt.out.out (c+1);rw[d7]at a9;have ap:=gy r d7 (fun f6=>ab8 bs.out r f6);have d9:=fun c3 f7=>abw a.k a.f a.t a.l a.n a.x (by omega) (by omega) a6.2.1.1 a6.2.1.2 (by omega) c3 f7;have ea:=fun c3=>aaE a.k a.f a.t a.l a.n a.x a6.2.1.1 a6.2.1.2 (by omega) c3;rw[show Dv a=fh a.k a.n a.x from rfl]at a9 ap;generalize fh a.k a.n a.x=c4 at a9 ap d9 ea;generalize fK (h.take c)=eq at d8 a9 ap;rw[ae,ae]at a9;obtain⟨eg,eh,p2,ej,ek,el⟩:=cm;clear r d7 a6 ct cu bn z0 cv an;have o:=ax wr (Q #[M N a.k,M N a.f,M N a.t,M N a.l,M N a.n,R a.x] 29);have i:=dF wr (Q #[M N a.k,M N a.f,M N a.t,M N a.l,M N a.n,R a.x] 29);go_upto_region 12 with fail
   obtain⟨cr,bf⟩:=aD (wr.alloc (Q #[M N a.k,M N a.f,M N a.t,M N a.l,M N a.n,R a.x] 29));rw[bf]at o i⊢;obtain⟨al,e9⟩:=aD wr.heap.size;rw[e9]at o⊢;have v:=m.below i;obtain⟨x,y,z,A,B,C⟩:=Tc.b o;obtain⟨ew,dd,df,dg,ex,eF⟩:=cn.below i;have an:=(sc3 v.x2).2.2;have p:=wI v o i m;have gf:=agb a.k a.f a.t a.l a.n a.x;have f8:=fun g7 ha g9 hb w=>aga .neq g7 ha g9 hb w;clear v m o i bf e9 eg eh p2 ej ek el cn;go_region_held3 (fun d=>d.cell? ⟨al,0,T⟩=O (M N a.k)/\d.cell? ⟨al,1,T⟩=O (M N a.f)/\d.cell? ⟨al,2,T⟩=O (M N a.t)/\d.cell? ⟨al,3,T⟩=O (M N a.l)/\d.cell? ⟨al,4,T⟩=O (M N a.n)/\d.cell? ⟨al,5,T⟩=O (R a.x)/\d.cell? ⟨gt,2,T⟩=O (U (O ⟨q,0,T⟩) n L)/\d.cell? ⟨q,c*6,T⟩=O (M N a.k)/\d.cell? ⟨q,c*6+1,T⟩=O (M N a.f)/\d.cell? ⟨q,c*6+2,T⟩=O (M N a.t)/\d.cell? ⟨q,c*6+3,T⟩=O (M N a.l)/\d.cell? ⟨q,c*6+4,T⟩=O (M N a.n)/\d.cell? ⟨q,c*6+5,T⟩=O (R a.x)) (go_keep) (fail)
   clear gf f8 x y z A B C ew dd df dg ex eF an;have a3:=af8 cr;obtain⟨g6,fq⟩:=aD cr.drew;rw[fq]at a3⊢;have c0:=p.out.1.below a3;have en:=(a3.block _ (au p.out.2.1)).trans p.out.2.1;obtain⟨x,y,z,A,B,C⟩:=Tc.b en;have fr:=d9 g6 (H.out.2.1.below c0.bel (ag _));have I:=gy c0 en (p.out.2.2.1.trans (a3.mono p.out.2.2.1.size));clear c0 en a3 fq d9;go_wp2_with fail;refine lc fr fun g5 cc=>?_;clear x y z A B C fr;have f4:=(cc.block _ (au I.out.2.1)).trans I.out.2.1;obtain⟨x,y,z,A,B,C⟩:=Tc.b f4;have fu:=ea g5;have bo:=cH (I.out.1.below cc) (I.out.2.2.trans (cc.mono I.out.2.2.size));clear f4 cc ea I;go_wp2_with fail;refine lc fu fun hw da=>?_;clear x y z A B C fu;have er:=cH (bo.out.1.below da) (bo.out.2.trans (da.mono bo.out.2.size));clear da bo;by_cases dx:c4.size=0
   ·obtain rfl:=aaa dx;go_wp2_with fail;go_ret;exact⟨rfl,er.out.1.bel⟩
   ·have hp:=af9 dx;have hf:(⟨#[32]⟩:ByteArray).size=1:=rfl;have hc:¬9223372036854775807<c4.size+1:=by omega
    have hd:¬9223372036854775807<eq.size+(c4.size+1):=by omega
    go_wp2_with fail;go_roundw
    case rel=>exact⟨c+1,by go_num,by omega,by rw[ap.out.2.1],ap.out.2.2 dx,cz.out.trans (er.out.2.mono cz.out.size)⟩
    case measure=>simp[intOf];omega
  ·obtain rfl:c=n:=by omega
   have e6:h.take c=h:=cC (by have:=m.ln;omega);rw[e6]at d8 bs⊢;have ck:=bt.out.agn bs.out;have F:=Bz (fK h) wr (H.out.2.1.below m.bel (ag _)) (bA H.out.2.2 m.bel.size);generalize fi (pH (fK h))=g3 at F ck;generalize tA (pH (fK h))=ep at F;generalize (pH (fK h)).1=ef at F;have ff:g3.length=c:=by have:=congrArg List.length ck;rw[du,du,m.ln]at this;exact this
   rw[ff]at F;generalize fK h=eq at F d8;have br:=gy ck ff m;clear ck m e6 bs ct cu bn z0 cv an;go_wp2_with fail;refine F.mono ?_;rintro e cq ⟨hv,rfl,ee,et⟩;obtain⟨c5,dc,rfl⟩:=ey ee;have cs:=ax cq (Q #[W ef,M N ep,U c5 c dc] 26);have ce:=dF cq (Q #[W ef,M N ep,U c5 c dc] 26);have bw:=(br.out.2.2.below et).below ce;go_upto_region 22 with fail
   obtain⟨f0,fn⟩:=aD (cq.alloc (Q #[W ef,M N ep,U c5 c dc] 26));rw[fn]at cs ce bw⊢;obtain⟨hq,fa⟩:=aD cq.heap.size;rw[fa]at cs⊢;obtain⟨ct,cu,bn⟩:=sc3 bw.x1;obtain⟨z0,cv,an⟩:=sc3 cs;have bp:=wI bw (qs ee ce) br.out.1 br.out.2.1;clear bw ee et ce F cs fn fa br;go_wp2_with fail;go_loopw [83] (fun E wr=>∃j:Nat,E= M N j/\j<=c/\Hid (Below f0.heap.size f0 wr)) (fun E _=>c-(intOf E).toNat)
   case atStart=>exact⟨0,rfl,aG _,aq _ _⟩
   case round=>
    obtain⟨j,rfl,hk,J⟩:=hrel;have bx:=bp.out.1.below J.out;by_cases a7:j<c
    ·obtain⟨a,a5,q,r,rfl,rfl,cm,cn⟩:=bx.get a7;obtain⟨g,ds⟩:=eA bp.out.2.2.2 a7;obtain⟨he,rfl,g0⟩:=Ej (qs bp.out.2.1 J.out) a7 ds;have cF:=ar (aeE bp.out.2.2.1 ds r);have f9:(0:Int)<=(j:Int):=by omega
     have gd:(j:Int)<(c:Int):=by omega
     obtain⟨eg,eh,p2,ej,ek,el⟩:=g0;clear r ds cn ct cu bn z0 cv an;have o:=ax wr (Q #[M N g.k,M N g.f,M N g.t,M N g.l,M N g.n,R g.x] 29);have i:=dF wr (Q #[M N g.k,M N g.f,M N g.t,M N g.l,M N g.n,R g.x] 29);go_upto_region 27 with fail
     obtain⟨cr,bf⟩:=aD (wr.alloc (Q #[M N g.k,M N g.f,M N g.t,M N g.l,M N g.n,R g.x] 29));rw[bf]at o i⊢;obtain⟨em,fb⟩:=aD wr.heap.size;rw[fb]at o⊢;have v:=bx.below i;obtain⟨x,y,z,A,B,C⟩:=Tc.b o;rw[cF.out.1]at x;rw[cF.out.2.1]at B;rw[cF.out.2.2]at C;obtain⟨ew,dd,df,dg,ex,eF⟩:=cm.below i;have bn:=(sc3 v.x1).2.2;have p:=cH v i;clear v bx o i bf fb eg eh p2 ej ek el cm y z A dd df dg;go_region_held3 (fun d=>d.cell? ⟨em,0,T⟩=O (M N a.k)/\d.cell? ⟨em,4,T⟩=O (M N a.n)/\d.cell? ⟨em,5,T⟩=O (R a.x)/\d.cell? ⟨fB,2,T⟩=O (U (O ⟨a5,0,T⟩) c a4)/\d.cell? ⟨a5,j*6,T⟩=O (M N a.k)/\d.cell? ⟨a5,j*6+4,T⟩=O (M N a.n)/\d.cell? ⟨a5,j*6+5,T⟩=O (R a.x)) (go_keep) (fail)
     go_wp2_with fail;go_roundw
     case rel=>exact⟨j+1,by go_num,by omega,(J.out.trans (p.out.2.mono J.out.size)).trans ((af8 cr).mono (J.out.trans (p.out.2.mono J.out.size)).size)⟩
     case measure=>simp[intOf];omega
    ·obtain rfl:j=c:=by omega
     go_wp2_with fail;go_ret;exact⟨rfl,bx.bel⟩
