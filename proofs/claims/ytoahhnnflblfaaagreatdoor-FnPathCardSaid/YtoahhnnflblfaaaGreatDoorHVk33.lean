import Derived.Test.YtoahhnnflblfaaaGreatDoorHVk32
set_option linter.all false
set_option maxRecDepth 100000
set_option maxHeartbeats 12800000
open Option renaming some->M,none->N
namespace Go.Proofs.YtoahhnnflblfaaaGreatDoor
open Go.Lib (strCells strCells_length)
open Go.RowKit Go.Maps Go.WideMaps
section
variable {E : Bs} {W w : World} {y : Int} {v tv : Value} {t : ByteArray} {ts : List Tk}
theorem Lo.conv(h:Lo E W w y v t tv ts):(convert 22 9 v).run Tryz.prog w= .ok (.string t) w:=by
 rcases bK h.out with⟨b,rfl⟩|⟨d,c,rfl⟩
 ·have a:t=ByteArray.empty:=by
   have:t.data=#[]:=Array.eq_empty_of_size_eq_zero b;cases t;simp_all;first|rfl|done
  rw[a];exact zD w
 ·exact acg h.out
theorem Lo.cells{a:Option Addr}{n c:Nat}(h:Lo E W w y v t (.slice a n c) ts)(j:ts.length=n){i:Nat}{T:Tk}(e:ts[i]?=M T):∃g,a=M ⟨g,0,N⟩/\w.cell? ⟨g,i*6,N⟩=M (.int .i64 T.k)/\w.cell? ⟨g,i*6+1,N⟩=M (.int .i64 T.f)/\w.cell? ⟨g,i*6+2,N⟩=M (.int .i64 T.t)/\w.cell? ⟨g,i*6+3,N⟩=M (.int .i64 T.l)/\w.cell? ⟨g,i*6+4,N⟩=M (.int .i64 T.n)/\w.cell? ⟨g,i*6+5,N⟩=M (.string T.x):=by
 subst j;have r:i<ts.length:=(List.getElem?_eq_some_iff.1 e).1;rcases bK h.tok with⟨q,_⟩|⟨g,o,d⟩
 ·omega
 ·have p:=d;cases d;have k:=h.tok;refine⟨g,rfl,?_⟩;have c:∀b,b<6->w.cell? ⟨g,i*6+b,N⟩=(cTk T)[b]?:=fun b m=>by rw[k.cellAt (i*6+b) (by omega),Fh ts i b T e m]
  exact⟨c 0 (by omega),c 1 (by omega),c 2 (by omega),c 3 (by omega),c 4 (by omega),c 5 (by omega)⟩
end
def LoR(s:ByteArray)(ts:List Tk)(t:ByteArray):Prop:=∃a,Dn s (ts.take a) t/\(ts.length<=a\/∃b,ts[a]?=M b/\b.k=6)
theorem aln{s t c:ByteArray}{ts:List Tk}{i:Nat}{T:Tk}(h:Dn s (ts.take i) t)(b:ts[i]?=M T)(a:T.k=5)(d:c∈Jq):Dn s (ts.take (i+1)) (t++c):=by
 rw[gG,b];exact h.snoc ⟨by omega,.inl ⟨a,d⟩⟩
theorem J5{s t c:ByteArray}{ts:List Tk}{i f q:Nat}{T:Tk}(h:Dn s (ts.take i) t)(d:ts[i]?=M T)(b:T.k≠6)(a:T.k≠5)(g:T.f=(f:Int))(j:T.t=(q:Int))(e:c∈G7\/(Lj T.k=true/\c∈Jp)):Dn s (ts.take (i+1)) (t++s.extract f q++c):=by
 rw[gG,d,aB];exact h.snoc ⟨b,.inr ⟨a,c,e,by rw[g,j];rfl⟩⟩
theorem alo{E:Bs}{W:World}{y:Int}(h:Cu E W y)(ef:y<=30000000)(s:ByteArray)(ct:s.size<=65536):Calls Tryz.prog 17 #[cV E,.string s] W fun e b1=>∃t:ByteArray,e= .returned (.string t)/\(t.size<=1048576/\LoR s (kD s).1 t)/\Cu E b1 40000000/\Below E.base W b1:=by
 have q:=rv W s ct;have a2:=af0 s;have bw:(kD s).1.length<=65537:=by have:=ain s;omega
 unfold TkP at q;generalize (kD s).1=ts at q a2 bw⊢;generalize (kD s).2=en at q;obtain⟨j,al⟩:=aA ts.length;rw[al]at q bw;go_in;go_wp2_with fail;refine q.mono ?_;rintro e w1 ⟨bj,bp,rfl,bA,i⟩;have cq:=h.lo;have b9:Lo E W w1 y (.slice N 0 0) ⟨#[]⟩ (.slice bj j bp) ts:=⟨h.below i h.lt,bi _ _ _ _,by rw[al];exact vI bA (fun cl _ d0 d1=>⟨rfl,by omega⟩),i.mono cq.2⟩;have n:=eH al a2;clear q bA i al a2;go_wp2_with fail;go_loopw [7,20] (fun v a5 wr=>∃(a:Nat) (t:ByteArray) (H:Int),a5= .int .i64 a/\a<=j/\Lo E W wr (y+3*a) v t (.slice bj j bp) ts/\0<=H/\(t.size:Int)<=H+10*a/\(∀b,ts[a]?=M b->H<=b.f)/\H<=65536/\Hid (Dn s (ts.take a) t)) (fun _ a5 _=>j-(intOf a5).toNat)
 case atStart=>exact⟨0,⟨#[]⟩,0,rfl,aG _,by simpa using b9,by decide,by decide,fun b c=>(n.out.2.each b (dl c)).1,by decide,Dn.nil⟩
 case round=>
  obtain⟨a,t,H,rfl,d6,d,d9,ea,cv,eb,m⟩:=hrel;by_cases d4:a<j
  ·obtain⟨b,c⟩:∃b,ts[a]?=M b:=⟨_,aE (by have:=n.out.1;omega)⟩;have d2:=n.out.2.each b (dl c);have ec:=cv b c;obtain⟨cl,rfl,bq,ce,cf,dg,dj,dn⟩:=d.cells n.out.1 c;have d5:(0:Int)<=(a:Int):=by omega
   have cp:(a:Int)<(j:Int):=by omega
   have am:∀a1,ts[a+1]?=M a1->b.t<=a1.f:=fun a1 cm=>n.out.2.at_ c cm;have d8:=d.out.1;by_cases p:b.k=6
   ·rw[p]at bq;have cz:=fun l=>(d.below (bI wr l)).conv;have bf:=aj fun l=>d.below (bI wr l);go_wp2_with fail;go_ret;exact⟨t,rfl,⟨by omega,a,m.out,.inr ⟨b,c,p⟩⟩,(bf.out _).cu.wide (by omega),(bf.out _).bel⟩
   have dx:(b.k==6)=false:=by simpa using p
   obtain⟨F,ak⟩:=gc (show 0<=b.f by omega);obtain⟨r,an⟩:=gc (show 0<=b.t by omega);rw[ak]at ce;rw[an]at cf;have d3:F<=r/\r<=s.size:=by omega
   have cn:(s.extract F r).size<=r-F:=by rw[oy];omega
   by_cases o:b.k=5
   ·rw[o]at bq;have A:=aj fun (b0 c6:Obj)=>GL (((d.below (bI wr b0)).below (bI (wr.alloc b0) c6)).cu) 6 (by decide) (by decide) (by omega);go_wp2_with fail;refine(A.out _ _).mono ?_;rintro e c9 ⟨u,rfl,eg,ba,J,bk⟩;have ca:=((d.below (bI wr _)).below (bI (wr.alloc _) _)).kb ba J bk;have bo:=J.blk (((bI (wr.alloc _) _).block wr.heap.size (by simp)).trans (ar wr _)) (by decide);have a6:=J.blk (ar (wr.alloc _) _) (by decide);rw[bu]at a6;have cr:=fun a=>ay c9 (wr.heap.size+1) a _ _ _ a6;clear A ba J bk a6;rcases(show u=0\/u=1\/u=2\/u=3\/u=4\/u=5 by omega) with rfl|rfl|rfl|rfl|rfl|rfl;all_goals
     go_wp2_with (at_builtin;refine ca.app _ 5 (by decide) (by omega) rfl _ _ rfl rfl rfl ?_;intro c7 a8 f cx z;have af:=z _ _ _ _ bo (by decide);have bD:=fun a=>ay a8 wr.heap.size a _ _ _ af);clear cr bo z;refine fc (yh _ _) ?_;go_wp2_with fail;go_roundw
     case rel=>exact⟨a+1,_,b.t,by go_num,by omega,⟨f.cu.wide (by omega),f.out,f.tok,f.bel⟩,by omega,by omega,am,by omega,aln m.out c o (by simp[Jq])⟩
     case measure=>simp[intOf];omega
   ·have ds:(b.k==5)=false:=by simpa using o
    have bs:=fun l=>d.below (bI wr l);have bt:=fun ck=>ar wr (.cells ck 88);have ao:=eH bs bt;clear bs bt;go_wp2_with (at_builtin;refine(ao.out.1 _).app (s.extract F r) (r-F) cn (by omega) rfl _ _ rfl rfl rfl ?_;intro c7 a8 f cx z;have af:=z _ _ _ _ (ao.out.2 _) (by decide);have bD:=fun a=>ay a8 wr.heap.size a _ _ _ af);clear z ao;refine fc (yh _ _) ?_;cases i:Lj b.k
    case false=>
     clear i;have G:=afL f.cu (by omega);go_wp2_with fail;refine G.mono ?_;rintro e dc ⟨a7,rfl,⟨a4,a3⟩,x,B,C⟩;have a0:=f.kb x B C;clear G x B C;go_wp2_with (at_builtin;refine a0.app a7 5 a4 (by omega) rfl _ _ rfl rfl rfl ?_;intro c8 dd g cy b4);go_roundw
     case rel=>exact⟨a+1,_,b.t,by go_num,by omega,⟨g.cu.wide (by omega),g.out,g.tok,g.bel⟩,by omega,by omega,am,by omega,J5 m.out c p o ak an (.inl a3)⟩
     case measure=>simp[intOf];omega
    case true=>
     have b7:=aj i;clear i;have bE:=GL f.cu 4 (by decide) (by decide) (by omega);go_wp2_with fail;refine bE.mono ?_;rintro e I ⟨b3,rfl,eh,bb,ap,bl⟩;have K:=f.kb bb ap bl;have cc:=ap.blk af (by decide);have ee:=fun a=>ay I wr.heap.size a _ _ _ cc;clear bE bb ap bl bD;by_cases br:b3=0
     ·subst br;have A:=aj fun (l:Obj)=>GL ((K.below (bI I l)).cu) 3 (by decide) (by decide) (by omega);go_wp2_with fail;refine(A.out _).mono ?_;rintro e da ⟨a9,rfl,ei,bd,av,bn⟩;have cb:=(K.below (bI I _)).kb bd av bn;have cB:=av.blk (ar I _) (by decide);have d7:=fun a=>ay da I.heap.size a _ _ _ cB;clear A bd av bn;rcases(show a9=0\/a9=1\/a9=2 by omega) with rfl|rfl|rfl;all_goals
       go_wp2_with (at_builtin;refine cb.app _ 5 (by decide) (by omega) rfl _ _ rfl rfl rfl ?_;intro el em L ek df);go_roundw
       case rel=>exact⟨a+1,_,b.t,by go_num,by omega,⟨L.cu.wide (by omega),L.out,L.tok,L.bel⟩,by omega,by omega,am,by omega,J5 m.out c p o ak an (.inr ⟨b7.out,by simp[Jp]⟩)⟩
       case measure=>simp[intOf];omega
     ·have dp:(b3==0)=false:=by simpa using br
      have G:=afL K.cu (by omega);go_wp2_with fail;refine G.mono ?_;rintro e dc ⟨a7,rfl,⟨a4,a3⟩,x,B,C⟩;have a0:=K.kb x B C;clear G x B C;go_wp2_with (at_builtin;refine a0.app a7 5 a4 (by omega) rfl _ _ rfl rfl rfl ?_;intro c8 dd g cy b4);go_roundw
      case rel=>exact⟨a+1,_,b.t,by go_num,by omega,⟨g.cu.wide (by omega),g.out,g.tok,g.bel⟩,by omega,by omega,am,by omega,J5 m.out c p o ak an (.inl a3)⟩
      case measure=>simp[intOf];omega
  ·have cp:¬(a:Int)<(j:Int):=by omega
   have cz:=d.conv;go_wp2_with fail;go_ret;exact⟨t,rfl,⟨by omega,a,m.out,.inl (by have:=n.out.1;omega)⟩,d.cu.wide (by omega),d.bel⟩
