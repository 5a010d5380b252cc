import Derived.Test.YtnlhhmlcjbohbaaGreatDoorHNk30
import Derived.Test.YtnlhhmlcjbohbaaGreatDoorHNk31
set_option linter.all false
set_option maxRecDepth 100000
set_option maxHeartbeats 12800000
open Go.Proofs.Tryz renaming prog->M
open Bool renaming false->N,true->S
open Go.Value renaming bool->O,agg->X,int->Y
open Go renaming World->Q,Value->U,Calls->V
namespace Go.Proofs.YtnlhhmlcjbohbaaGreatDoor
open Go.RowKit Go.Maps Go.WideMaps
variable{R:List Int}{W w:World}{g:Nat}
def Fe(a:List Int):List U:=(List.range 100).map fun b:Nat=> O (decide ((b:Int)∈a))
theorem abJ(a:List Int){i:Nat}(h:i<100):(Fe a)[i]?=some (O (decide ((i:Int)∈a))):=by
 unfold Fe;rw[bK,List.getElem?_range h];rfl
theorem al5(a:List Int){k:Nat}(h:k<100):(Fe a).set k (O S)=Fe (a++[(k:Int)]):=by
 apply List.ext_getElem?;intro b;have d:(Fe a).length=100:=by unfold Fe;simp
 rcases aH b 100 with hi|hi
 ·rw[abJ _ hi,List.getElem?_set];by_cases c:k=b
  ·subst c;rw[ab rfl,ab (by omega)];simp
  ·rw[aa c,abJ _ hi];have:¬(b:Int)=(k:Int):=by omega
   simp[this]
 ·rw[gE (by rw[List.length_set];omega),gE (by unfold Fe;simp;omega)]
theorem al6:Fe []=List.replicate 100 (O N):=by
 unfold Fe;apply List.ext_getElem?;intro a;rw[bK,Cb];rcases aH a 100 with h|h
 ·rw[List.getElem?_range h,ab h];simp
 ·rw[gE (by simpa using h),aa (by omega)];rfl
theorem ajk:(Tryz.prog.info? 4).map (fun i=>(i.zero,i.size,i.bytes))=some (some (O N),1,1):=by kernel_rfl
theorem apD{s:ByteArray}{k:Int}(h:k∈ie s):1<=k/\k<=78:=by
 unfold ie at h;split at h
 ·cases h
 split at h
 ·cases h
 ·have:=(zr _ _ 78).1 h;omega
structure NxP (T:ByteArray) (R:List Int):Prop where
 fin:∀{c a:Int}{ns:List Nd},Out T c a ns->(c≠1↔6∈R)
 tok:(vv (scR (T++⟨#[32,55]⟩))).length=(vv (scR T)).length\/∀k:Int,1<=k->k<=78->k≠7->(Eb k).size≠0->∀(c a:Int)(ns:List Nd),Out (oJ T (Eb k)) c a ns->((c≠1\/a=(T.size:Nat)+((Eb k).size:Nat)+2)↔k∈R)
theorem nxp{T:ByteArray}(g:ie T≠[])(l:T.size<=60000):NxP T (ie T):=by
 obtain⟨e,a⟩:=ash g (by omega);refine⟨e,a.imp id fun a m b c h i k j o f=>?_⟩;obtain⟨n,p,d⟩:=ak7 i;exact a d h b c (by have:=Ld b c;omega) f
structure NxL (w:Q) (g:Nat) (R:List Int) (W:Q):Prop where
 row:W.ownsRow w.heap.size 4 1 (.slice (some ⟨g,0,none⟩) 100 100) 100 (Fe R)
 bel:Below w.heap.size w W
theorem NxL.below{a:Q}(h:NxL w g R W)(b:Below W.heap.size W a):NxL w g R a:=⟨bJ h.row b,h.bel.trans (b.mono h.bel.size)⟩
theorem NxL.at_(h:NxL w g R W){i:Nat}(a:i<100):W.cell? ⟨g,i,none⟩=some (O (decide ((i:Int)∈R))):=by rw[h.row.cellAt i (by omega),abJ _ a]
theorem NxL.put(h:NxL w g R W){k:Nat}(c:k<100):NxL w g (R++[(k:Int)]) (W.setCell ⟨g,k,none⟩ (O S)):=by
 obtain⟨a,d⟩:=h.row.stored k (O S);rw[al5 _ c]at a;exact⟨a,h.bel.grown d h.bel.size (fun e b=>by cases b;exact(h.row.lt _ rfl).1)⟩
theorem adB{T:ByteArray}(j:T.size<=1048576)(h:PL W){c a:Int}{ns:List Nd}(i:Out T c a ns):V M 9 #[.string T] W fun e b=>∃x n k,e= .returned (X #[.int .i64 c,.int .i64 a,.slice x n k])/\Below W.heap.size W b:=(Fc W T j h i).mono fun e b ⟨m,l,d,_,f,g⟩=>by
 obtain⟨x,k,rfl⟩:=cj f.row;exact⟨x,_,k,d,g⟩
theorem asl(x y z:U)(w:Q):(Instr.field 29 (X #[x,y,z]) 2).run M w= .ok z w:=by kernel_rfl
theorem asm(x y z:U)(w:Q):(Instr.field 36 (X #[x,y,z]) 0).run M w= .ok x w:=by kernel_rfl
theorem abK(w:Q)(cc:Option Addr)(n cp:Nat)(d3:n<=9223372036854775807)(a8:PL w)
  (ad:n<=1048576->V M 4 #[.slice cc n cp] w fun e bD=>∃t:ByteArray,e= .returned (.string t)/\t.size<=60000/\Below w.heap.size w bD):
  V M 3 #[.slice cc n cp] w fun e bD=>e= .returned (.bool S)/\Below w.heap.size w bD:=by
 by_cases e0:1048576<n
 ·have ex:(1048576:Int)<(n:Int):=by omega
  go_in;go_wp2_with fail;go_ret;exact⟨rfl,ah _ _⟩
 have e1:¬(1048576:Int)<(n:Int):=by omega
 have ad:=ad (by omega);go_in;go_wp2_with fail;refine ad.mono ?_;rintro e w1 ⟨T,rfl,d0,am⟩;have G:=a8.below am (ae _);obtain⟨ec,ds,ct⟩:=G.pow;have K:=I6 w1 T (by omega) G.lay G.gn ec ds ct;have L:=fun w=>Iq w T (by omega);have I:=fun k (a:k∈ie T)=>apD a;have cx:=aey T;have bb:=fun a=>nxp (T:=T) a d0;have p:=dC a8 am;obtain⟨c,cu⟩:=aA (ie T);obtain⟨f,bn⟩:=aA c.length;rw[cu]at K L I cx bb;rw[bn]at K L cx;have m:=iF bn I bb;clear ad ct G a8 am cu bn I bb d3;go_wp2_with fail;refine K.mono ?_;rintro e f1 ⟨cb,cl,rfl,c1,an⟩;go_wp2_with fail;refine(L _).mono ?_;rintro e da ⟨dn,dq,rfl,c3,ao⟩;have bo:dm da (.slice cb f cl) c:=(pE (by rw[m.out.1];exact c1)).below ao;have cB:=aeE da (.slice cb f cl) (.slice dn f dq) c bo (pE (by rw[m.out.1];exact c3)) (by rw[m.out.1];omega);have A:=dC bo ((p.2.trans (an.mono p.2.size)).trans (ao.mono (bg p.2.size an.size)));clear K L c1 c3 an ao bo;go_wp2_with fail;refine cJ cB fun f2 ap=>?_;have r:=dC (A.1.below ap) (A.2.trans (ap.mono A.2.size));clear cB ap A;by_cases o:f=0
 ·subst o;go_wp2_with fail;go_ret;exact⟨rfl,r.2⟩
 have fa:((f:Int)==0)=N:=by rw[bH];omega
 have ca:=aw (m.2.2 (fun e=>o (by rw[<-m.out.1,e];rfl)));have bs:=fun w=>zv (T++⟨#[32,55]⟩) (by rw[ax];have:(⟨#[32,55]⟩:ByteArray).size=2:=rfl;omega) w;have bt:=fun w=>zv T (by omega) w;have ev:=asl;obtain⟨cF,bj⟩:=aA (vv (scR (T++⟨#[32,55]⟩))).length;obtain⟨cI,bl⟩:=aA (vv (scR T)).length;rw[bj]at bs;rw[bl]at bt;have al:=ca.tok;rw[bj,bl]at al;have b0:=aw al;clear bj bl al o;go_wp2_with fail;refine(bs _).mono ?_;rintro e f3 ⟨fA,rfl,c4,ar⟩;obtain⟨eg,ei,rfl⟩:=cj c4;have B:=dC (r.1.below ar) (r.2.trans (ar.mono r.2.size));clear bs c4 ar r;go_wp2_with fail;refine(bt _).mono ?_;rintro e b ⟨fB,rfl,c7,av⟩;obtain⟨eh,cn,rfl⟩:=cj c7;have l:=dC (B.1.below av) (B.2.trans (av.mono B.2.size));clear bt c7 av B;by_cases bh:cF=cI
 ·subst bh;go_wp2_with fail;go_ret;exact⟨rfl,l.2⟩
 have e9:((cF:Int)==(cI:Int))=N:=by rw[bH];omega
 have dk:=aw (b0.resolve_left bh);obtain⟨d9,cw,cy,cz,x⟩:=dD ajk;clear bh b0;go_wp2_with (at_make;refine yr _ rfl _ _ 31 rfl b.heap.size 4 d9 (.bool N) 1 Tryz.underlying31 cw cy cz .i64 .i64 _ _ 100 rfl rfl rfl rfl (by rw[x];decide) (by unfold maxLen;decide) (ae _) ?_;intro ee c8 cr);have b7:NxL b b.heap.size [] ee:=⟨by rw[al6];exact(show(madeCells (Value.bool N).cells (100*1)).toList=List.replicate 100 (Value.bool N) from ym _ 100) ▸ c8,(ah _ _).grown cr (ae _) (fun k e=>by cases e)⟩;have bE:=aw b7;obtain⟨d,bf⟩:=aA b.heap.size;rw[bf]at bE⊢;have e3:=aw bf;clear c8 cr b7 cw cy cz x bf;go_loopw [7,40] (fun _ bx wr=>∃i:Nat,i<=f/\bx= .int .i64 i/\Hid (NxL b d (c.take i) wr)) (fun _ bx _=>f-(intOf bx).toNat)
 case atStart=>exact⟨0,by omega,rfl,bE⟩
 case round=>
  obtain⟨i,I,rfl,h⟩:=hrel;by_cases d4:i<f
  ·obtain⟨dc,J⟩:=co m.1 d4;have d8:=m.2.1 dc (cG J);obtain⟨q,rfl⟩:=gl (show 0<=dc by omega);obtain⟨fv,rfl,em⟩:=(l.1.below h.bel).get J;have e4:(0:Int)<=(i:Int):=by omega
   have d1:(i:Int)<(f:Int):=by omega
   have fb:(0:Int)<=(q:Int):=by omega
   have fc:(q:Int)<100:=by omega
   have el:=h.at_ (i:=q) (by omega);have et:=h.row.frozenAt q;have df:Hid (NxL b d (c.take (i+1)) (wr.setCell ⟨d,q,none⟩ (.bool S))):=by rw[iw,J];exact h.put (by omega)
   clear J d8 h;go_wp2_with fail;exact⟨⟨i+1,by omega,by go_num,df⟩,by simp[intOf];omega⟩
  ·obtain rfl:i=f:=by omega
   have d1:¬(i:Int)<(i:Int):=by omega
   have cv:Hid (NxL b d c wr):=by have:=h.out;rwa [dj (by rw[m.out.1];exact ae _)]at this
   obtain⟨cm,ef,fu,a7⟩:=ai8 T;have y:=aw fun j (a9:Below b.heap.size b j)=>adB (T:=T) (by omega) (p.1.below (l.2.trans (a9.mono l.2.size)) (ae _)) a7;have hF:=ca.fin a7;have u:=aw (cv.below (dJ (ah _ _)));have cn:=u.at_ (i:=6) (by decide);have es:=asm;have H:∃v,decide ((6:Int)∈c)=v/\(!(v==(cm !=1)))=N:=⟨_,rfl,by
    by_cases a:cm=1
    ·have a4:¬(6:Int)∈c:=fun ea=>hF.2 ea a;simp[a,a4]
    ·have a4:=hF.1 a;simp[a,a4]⟩
   obtain⟨v,H,eF⟩:=H;have ag:=aw fun (j:Q) (a:NxL b d c j)=>(H ▸ a.at_ (i:=6) (by decide):j.cell? ⟨d,6,none⟩=some (.bool v));clear hF cn H a7 h;go_wp2_with fail;go_region_held3 (fun dg=>dg.cell? ⟨d,6,none⟩=some (.bool v)) (first|exact ag _ ak|exact ag _ u.out|go_keep) (first|(go_at_call 9;refine(y _ u.bel).mono ?_;rintro e f4 ⟨fF,fo,fm,rfl,ch⟩;have ak:=u.below ch))
   have dd:=aw ak;clear y ak u ch ag cv;go_wp2_with fail;go_loopw [8,9] (fun bA _ wr=>∃k:Nat,1<=k/\k<=79/\bA= .int .i64 k/\Hid (NxL b d c wr)) (fun bA _ _=>79-(intOf bA).toNat)
   case atStart=>exact⟨1,by decide,by decide,rfl,dd⟩
   case round=>
    obtain⟨k,e6,e8,rfl,h⟩:=hrel;by_cases e5:k<79
    ·have d2:(k:Int)<79:=by omega
     have bw:=Le (k:Int);have d6:=Ld (k:=(k:Int)) (by omega) (by omega);have bd:=dk.out k (by omega) (by omega);obtain⟨g,d7⟩:=aA (Eb (k:Int));rw[d7]at bw d6 bd;go_wp2_with fail;refine cJ (bw _) fun f0 cf=>?_;have s:=aw (h.below cf);clear bw cf h;have nxt:∀j,NxL b d c j->(∃br:Nat,1<=br/\br<=79/\Y .i64 ((k:Int)+1)= .int .i64 br/\Hid (NxL b d c j))/\79-(intOf (.int .i64 ((k:Int)+1))).toNat<79-(intOf (.int .i64 (k:Int))).toNat:=fun j a=>⟨⟨k+1,by omega,by omega,by congr 1,a⟩,by simp[intOf];omega⟩;have af:=aw nxt;clear nxt;by_cases o:g.size=0
     ·obtain rfl:g=⟨#[]⟩:=oc (Array.eq_empty_of_size_eq_zero o);go_wp2_with fail;exact af _ s
     have fg:=C1 (q:=g) (by omega);by_cases dx:k=7
     ·subst dx;go_wp2_with fail;exact af _ s
     have eq:((k:Int)==7)=N:=by rw[bH];omega
     obtain⟨E,ce,eb,F⟩:=ai8 (oJ T g);have hF:=bd (by omega) o E ce eb F;have a3:T++⟨#[32]⟩++g++⟨#[32]⟩=oJ T g:=by unfold oJ;simp only[fh];rfl
     rw[<-a3]at F;have x:(T++⟨#[32]⟩++g++⟨#[32]⟩).size<=1048576:=by rw[a3,zt];omega
     have y:=aw fun j (a9:Below b.heap.size b j)=>adB x (p.1.below (l.2.trans (a9.mono l.2.size)) (ae _)) F;clear a3 F x bd;have fd:IntKind.i64.wrap ((T.size:Int)+(g.size:Int))=(T.size:Int)+(g.size:Int):=by rw[di];omega
     have ff:IntKind.i64.wrap ((T.size:Int)+(g.size:Int)+2)=(T.size:Int)+(g.size:Int)+2:=by rw[di];omega
     go_wp2_with fail;refine(y _ s.bel).mono ?_;rintro e c9 ⟨fz,fn,fk,rfl,cg⟩;have b8:=aw fun z=>(s.below cg).below (bG c9 z);obtain⟨C,be⟩:=aA (decide ((k:Int)∈c));have ek:∀z,(c9.alloc z).cell? ⟨d,k,none⟩=some (.bool C):=fun z=>be ▸ (b8 z).at_ (i:=k) (by omega);have d5:(E=1/\(ce==(T.size:Int)+(g.size:Int)+2)=C)\/((E !=1)=S/\C=S):=by
      rw[<-be];by_cases a:E=1
      ·refine .inl ⟨a,?_⟩;rw[vH,jk,iJ,<-hF];exact⟨.inr,fun d=>d.resolve_left (fun f=>f a)⟩
      ·exact .inr ⟨by simpa using a,bv (hF.1 (.inl a))⟩
     clear y cg s hF be;rcases d5 with⟨rfl,ew⟩|⟨e2,rfl⟩
     case' inl=>cases C
     all_goals
      go_wp2_with fail;exact af _ (b8 _)
    ·have d2:¬(k:Int)<79:=by omega
     go_wp2_with fail;go_ret;exact⟨rfl,l.2.trans (h.bel.mono l.2.size)⟩
