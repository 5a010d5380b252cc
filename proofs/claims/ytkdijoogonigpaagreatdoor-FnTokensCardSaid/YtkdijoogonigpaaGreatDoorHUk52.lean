import Derived.Test.YtkdijoogonigpaaGreatDoorHUk16
import Derived.Test.YtkdijoogonigpaaGreatDoorHUk51
set_option linter.all false
set_option maxRecDepth 100000
set_option maxHeartbeats 6400000
open Option renaming none->M,some->N
open Go renaming World->O,Value->S,Calls->Ax,ownsRow_succ->B0
open Go.Proofs.Tryz renaming prog->Q
open Bool renaming false->R,true->A2
open Go.RowKit renaming Below->T,intOf->B2
open Go.Value renaming int->U,slice->A0,string->Br,pointer->B1,bool->B3
open Go.IntKind renaming i64->V
open Go.World renaming setCell->Y,news_of_block->Z
namespace Go.Proofs.YtkdijoogonigpaaGreatDoor
open Go.RowKit Go.Maps Go.WideMaps
theorem pv{s:ByteArray}(a:s.size<=65536):pH s=qu s (s.size+1) 0 1:=by unfold pH;rw[aa (by omega)]
theorem Gf{E:Bool×Nat×List Tk}{t:Tk}(a:t∈fi E):t∈E.2.2:=by
 unfold fi at a;split at a
 ·exact a
 ·cases a
theorem Az{s:ByteArray}{n:Nat}(a:uT s<=2*n):s.size<=n:=by have:=tB s;omega
theorem af6{s:ByteArray}(c:s.size<=65536):∀t∈fi (pH s),(1<=t.k/\t.k<=78)/\I64 t.n/\t.x.size<=65536:=fun t a=>by
 have a:=Gf a;rw[pv c]at a;obtain⟨b,h,g,d,e,f⟩:=zG s _ 0 1 (aG _) t a;rw[d,e,f];exact⟨acn s b g,afv s b,bA (afD s b h) c⟩
theorem Ei{s:ByteArray}(b:uT s<=65536):(fK (fi (pH s))).size<=65536:=by
 have a:s.size<=65536:=Az (by omega);rw[pv a];unfold fi;split
 ·have:=Ko s (s.size+1) 0 1 (aG _);unfold uT at b;omega
 ·exact aG _
theorem wE:∀l:List Tk,l.length<=(fK l).size
 |[]=>aG _
 |t::l=>by
  have:=wE l;rw[fK,ae,ae];have:xj.size=1:=rfl;simp only[db];omega
theorem LL{s:ByteArray}(b:uT s<=65536)(i:Nat):(fK ((fi (pH s)).take i)).size<=65536:=by
 have a:=Ei b;rw[<-qy i (fi (pH s)),vE,ae]at a;omega
theorem aeD{s:ByteArray}(a:uT s<=65536):(fi (pH s)).length<=65536:=bA (wE _) (Ei a)
theorem af7{s:ByteArray}(k:uT s<=65536)(i:∀t∈fi (pH s),(Dv t).size≠0):(fi (pH (fK (fi (pH s))))).map GC=(fi (pH s)).map GC:=by
 have j:s.size<=65536:=Az (by omega);have d:=Ei k;have c:∀t∈fi (pH s),TkA t:=fun t e=>by
  have b:=Gf e;rw[pv j]at b;exact aa5 (aG _) b (i t e)
 have h:=wE (fi (pH s));generalize fi (pH s)=a at d c h;obtain⟨l,f,b⟩:=Fq a ⟨#[]⟩ (fK a) ((fK a).size+1) 1 c (Fp _).symm (by omega);rw[pv d];have g:qu (fK a) ((fK a).size+1) 0 1=(A2,0,l):=f;rw[g];exact b
theorem sh(s:ByteArray):∀(f p:Nat),p<=s.size->s.size<p+f->blk s f p<s.size->¬eJ (ao s (blk s f p))=A2/\¬(ao s (blk s f p)=45/\ao s (blk s f p+1)=45)
 |0,p,e,h,a=>by omega
 |f+1,p,e,h,a=>by
  unfold blk at a⊢;split
  ·rename_i b;rw[ab b]at a;omega
  split
  ·rename_i b c;rw[aa b,ab c]at a;exact sh s f (p+1) (by omega) (by omega) a
  split
  ·rename_i b c d;rw[aa b,aa c,ab d]at a;have i:=rq s p d.1;have g:=oe s p e;exact sh s f _ g.2 (by omega) a
  ·rename_i b c d;exact⟨c,d⟩
structure Stop (s:ByteArray) (p:Nat):Prop where
 nb:p<s.size->¬eJ (ao s p)=A2
 nd:p<s.size->¬(ao s p=45/\ao s (p+1)=45)
theorem wF(s:ByteArray)(p:Nat)(b:p<=s.size):Stop s (blk s (s.size+1) p):=
 ⟨fun a=>(sh s _ p b (by omega) a).1,fun a=>(sh s _ p b (by omega) a).2⟩
theorem L4(s:ByteArray)(p:Nat)(b:p<=s.size):blk s (s.size+1) (blk s (s.size+1) p)=blk s (s.size+1) p:=by
 have a:=wF s p b;rcases be (blk s (s.size+1) p) s.size with hl|hl
 ·exact uq s _ (a.nb hl) (a.nd hl)
 ·exact zy s _ hl
theorem tw.blks{s:ByteArray}{E:Bool×Nat×List Tk}{pre:List Tk}{p b:Nat}{l:Int}(a:tw s E pre p l b):tw s E pre (blk s (s.size+1) p) l b:=by
 have c:=gC s (s.size+1) p a.le;exact⟨by have:=a.fu;omega,c.2,a.l0,by have:=a.l1;omega,by have:=a.cn;omega,by rw[a.eq,uo s p _ (L4 s p a.le).symm]⟩
structure my (w:O) (n:Nat) (xs:List S) (v:S) (W:O):Prop where
 res:W.heap[w.heap.size]?=N (.cells #[.bool R,.int .i64 0,.slice M 0 0] 26 (0,0))
 out:W.heap[w.heap.size+1]?=N (.cells #[.bool A2,.int .i64 0,v] 26 (0,0))
 row:W.ownsRow (w.heap.size+2) 29 6 v n xs
 bel:T w.heap.size w W
 siz:w.heap.size+2<=W.heap.size
theorem my.below{w:O}{n:Nat}{c:List S}{v:S}{W W':O}(b:my w n c v W)(a:T W.heap.size W W'):my w n c v W':=
 ⟨(a.block _ (au b.res)).trans b.res,(a.block _ (au b.out)).trans b.out,b.row.kept (row:=M) ⟨a.os,a.tape,a.output,a.size,fun e d _=>a.block e d⟩ (by cases v.ownBlock<;>simp),b.bel.trans (a.mono b.bel.size),bA b.siz a.size⟩
theorem my.cells{w:O}{n:Nat}{b:List S}{v:S}{W:O}(a:my w n b v W):
  W.cell? ⟨w.heap.size,0,M⟩=N (B3 R)/\W.cell? ⟨w.heap.size,1,M⟩=N (U V 0)/\W.cell? ⟨w.heap.size,2,M⟩=N (A0 M 0 0)/\(∀j,W.frozen? ⟨w.heap.size,j,M⟩=R)/\
  W.cell? ⟨w.heap.size+1,0,M⟩=N (B3 A2)/\W.cell? ⟨w.heap.size+1,1,M⟩=N (U V 0)/\W.cell? ⟨w.heap.size+1,2,M⟩=N v/\(∀j,W.frozen? ⟨w.heap.size+1,j,M⟩=R):=
 ⟨by rw[ay _ _ _ _ _ _ a.res];rfl,by rw[ay _ _ _ _ _ _ a.res];rfl,by rw[ay _ _ _ _ _ _ a.res];rfl,fun j=>dp _ _ _ _ _ a.res,by rw[ay _ _ _ _ _ _ a.out];rfl,by rw[ay _ _ _ _ _ _ a.out];rfl,by rw[ay _ _ _ _ _ _ a.out];rfl,fun j=>dp _ _ _ _ _ a.out⟩
theorem my.appended{w W w1:O}{n:Nat}{f j:List S}{v b:S}{l:Obj}(a:my w n f v W)
  (o:w1.ownsRow (w.heap.size+2) 29 6 b (n+1) (f++j)) (d:(W.alloc l).grownBy w1 v.ownBlock):
  my w (n+1) (f++j) b (w1.setCell ⟨w.heap.size+1,2,M⟩ b)/\w1.heap[w.heap.size+1]?=N (.cells #[B3 A2,U V 0,v] 26 (0,0))/\(∀k,k<W.heap.size->N k≠v.ownBlock->w1.heap[k]?=W.heap[k]?):=by
 have i:∀k,k<w.heap.size+2->N k≠v.ownBlock:=fun k h c=>by have:=(a.row.lt k c.symm).1;omega
 have q:=a.siz;have e:∀k,k<W.heap.size->N k≠v.ownBlock->w1.heap[k]?=W.heap[k]?:=fun k h m=>(d.block k (by simp;omega) m).trans (cg W _ k h);have g:=(e _ (au a.out) (i _ (by omega))).trans a.out;have r:W.heap.size<=w1.heap.size:=by have:=d.size;simp at this;omega
 refine⟨⟨?_,bK _ _ 2 _ _ _ g,gq o (by simp) b,?_,?_⟩,g,e⟩
 ·rw[bC _ _ _ _ (by simp),e _ (au a.res) (i _ (by omega))];exact a.res
 ·refine a.bel.trans ((((aq w.heap.size W).alloc a.bel.size l).grown d (by have:=a.bel.size;simp;omega) (fun k c=>by have:=(a.row.lt k c).1;omega)).setCell (p:=⟨w.heap.size+1,2,M⟩) (by simp) b)
 ·simp[Y];omega
theorem wG(s:ByteArray)(em:s.size<=65536)(E:Bool×Nat×List Tk)(o:qu s (s.size+1) 0 1=E)(w:O):
  Ax Q 6 #[.string s] w fun e k=>∃v,e= .returned (.agg #[.bool E.1,.int .i64 (tA E),v])/\k.ownsRow w.heap.size 29 6 v (fi E).length (jB (fi E))/\T w.heap.size w k:=by
 have es:∀w:O,(zeroValue 26).run Q w= .ok (.agg #[.bool R,.int .i64 0,.slice M 0 0]) w:=fun w=>by kernel_rfl
 have bw:tw s E [] 0 1 (s.size+1):=⟨by omega,by omega,by omega,by omega,by simp,by rw[o];rfl⟩;have bx:=bw.blks;have bE:=wF s 0 (by omega);have bs:=fun w=>ix s (by omega) 0 (by omega) w;have ce:=fun (a:Nat) (cc:a<=s.size) w=>ix s (by omega) a cc w;have cp:Hid (∀(a:Nat)(cc:a<=s.size) w,Ax Q 15 #[.string s,.int .i64 a] w fun e k=>e= .returned (.int .i64 (blk s (s.size+1) a))/\k=w):=ce;have cq:Hid (∀(p:Nat)(i:p<s.size)(w:O),Ax Q 16 #[.string s,.int .i64 p] w fun e k=>∃g bt n f ak,e= .returned (.tuple #[.agg #[.int .i64 g,.int .i64 p,.int .i64 bt,.int .i64 0,.int .i64 n,.string f],.int .i64 ak])/\ady (bB s p) g bt n f ak/\T w.heap.size w k):=fun p i w=>vJ s (by omega) p i w;clear o bw ce;generalize blk s (s.size+1) 0=ct at bx bE bs;go_enter Tryz.func6,Tryz.ntmps6;go_wp2_with (go_at_call 15;refine(bs _).mono ?_;rintro e k ⟨rfl,rfl⟩);go_loopw [4,5,6,7] (fun ef L e0 eF wr=>∃(pre:List Tk) (p:Nat) (c:Int) (al:Nat) (v:S),ef= .int .i64 c/\L= .int .i64 p/\tw s E pre p c al/\Stop s p/\my w pre.length (jB pre) v wr) (fun _ L _ _ _=>s.size-(B2 L).toNat)
 case atStart=>
  refine⟨[],ct,1,s.size+1,.slice M 0 0,rfl,rfl,bx,bE,⟨(cg _ _ _ (by simp)).trans (ax w _),?_,dB _ _ _ _,((aq _ w).alloc (ag _) _).alloc (by simp) _,by simp⟩⟩;have:=ax (w.alloc (.cells #[.bool R,.int .i64 0,.slice M 0 0] 26)) (.cells #[.bool A2,.int .i64 0,.slice M 0 0] 26);rw[dI]at this;exact this
 case round=>
  obtain⟨pre,p,c,al,v,rfl,rfl,l,a0,q⟩:=hrel;obtain⟨A,B,C,F,x,y,t,of⟩:=q.cells;clear bs;by_cases i:p<s.size
  ·have d7:(p:Int)<(s.size:Int):=by omega
   have av:=l.tok i (a0.nb i) (a0.nd i);have ap:=l.bad i (a0.nb i) (a0.nd i);have a4:=gb s p i;have cl:=cq.out p i;go_wp2_with (go_at_call 16;fail);refine(cl _).mono ?_;rintro e d ⟨g,bt,n,f,ak,rfl,I,dn⟩;have r:=q.below dn;clear cl A B C F x y t of;obtain⟨A,B,C,F,x,y,t,of⟩:=r.cells;have en:w.heap.size<d.heap.size:=au r.res;have ep:w.heap.size+1<d.heap.size:=au r.out;have eq:w.heap.size≠d.heap.size:=by omega
   have er:w.heap.size+1≠d.heap.size:=by omega
   generalize bB s p=cu at av ap a4 I;obtain⟨ok,b,et,ev,ew,ex⟩:=cu;cases ok with
   |false=>
    have o:=ap rfl;have ds:ak=(b:Int):=I.no rfl;subst ds;have ej:(0:Int)<=(b:Int):=by omega
    have dg:E=(R,b,pre):=o;subst dg;clear av ap a4 I o;go_wp2_with fail;refine bg (fz rfl _ _ w.heap.size _ _ _ _ rfl ((cg _ _ _ (by simp[Y];omega)).trans (bK _ _ 2 _ _ _ (bK _ _ 1 _ _ _ (bK d _ 0 _ _ _ r.res)))) Tryz.underlying26 rfl (by kernel_rfl)) rfl ⟨_,rfl,dB _ _ _ _,?_⟩;refine Below.alloc ?_ (by simp[Y];omega) _;exact(((r.bel.setCell (p:=⟨w.heap.size,0,M⟩) (ag _) _).setCell (p:=⟨w.heap.size,1,M⟩) (ag _) _).setCell (p:=⟨w.heap.size,2,M⟩) (ag _) _)
   |true=>
    obtain⟨b6,b7,b8,b9,ca,G⟩:=I.yes rfl;simp only at b6 b7 b8 b9 ca G;have cb:=av rfl;have a3:=a4 rfl;simp only at cb a3;subst b6 b7 b8 b9 ca;clear av ap a4 I;have an:=cb.blks;have a7:=wF s b a3.2.1;have dx:=gC s (s.size+1) b a3.2.1;have br:=cp.out b a3.2.1;generalize blk s (s.size+1) b=cm at an a7 dx br;have ek:=l.l0;have el:=l.l1;have eh:=l.cn;have m:(d.alloc (.cells #[.int .i64 g,.int .i64 p,.int .i64 (b:Int),.int .i64 c,.int .i64 n,.string f] 29)).heap[d.heap.size]?=N (.cells #[.int .i64 g,.int .i64 p,.int .i64 (b:Int),.int .i64 c,.int .i64 n,.string f] 29 (0,0)):=ax d _;have j:my w pre.length (jB pre) v (d.alloc (.cells #[.int .i64 g,.int .i64 p,.int .i64 (b:Int),.int .i64 c,.int .i64 n,.string f] 29)):=r.below ((aq _ d).alloc (ag _) _);have cf:N d.heap.size≠v.ownBlock:=fun e=>by have:=(r.row.lt _ e.symm).2;omega
    by_cases a5:g=7
    ·subst a5;rw[ab rfl]at G;subst G;go_upto_region 13 with fail
     generalize d.alloc (.cells #[.int .i64 7,.int .i64 p,.int .i64 (b:Int),.int .i64 c,.int .i64 n,.string f] 29)=h at m j⊢;clear A B C F x y t of;obtain⟨A,B,C,F,x,y,t,of⟩:=j.cells;obtain⟨cv,b1,b2,cy,cz,cF,c0⟩:=aE (show cA d.heap.size h 7 p (b:Int) c n f from m);have d9:w.heap.size+1<h.heap.size:=au j.out;have bj:d.heap.size<h.heap.size:=au m;obtain⟨bp,bb,bl,bn,bo⟩:=fd Tryz.info29;have d8:=l.le;go_wp2_with (first|(at_builtin;refine lE _ rfl _ _ 24 rfl (w.heap.size+2) 29 bp _ 6 56 Tryz.underlying24 bb bl bn bo rfl (by decide) _ _ _ rfl (j.row.alloc _) ⟨h.heap.size,0,M⟩ 1 1 [.int .i64 7,.int .i64 p,.int .i64 (b:Int),.int .i64 c,.int .i64 n,.string f] rfl rfl (Z (cs:=#[.int .i64 7,.int .i64 p,.int .i64 (b:Int),.int .i64 c,.int .i64 n,.string f]) (fr:=(0,0)) (ax h _)) (by intro ec K;simp at K;rcases K with rfl|rfl|rfl|rfl|rfl|rfl<;>rfl) (by unfold maxLen;omega) (by omega) (by simp;omega) ?_;intro ee u J a9 _;obtain⟨dd,c4,rfl⟩:=B0 J;obtain⟨a6,H,bd⟩:=j.appended J a9;have a8:=(bd _ bj cf).trans m;have ea:u.cell? ⟨w.heap.size+1,2,M⟩=N v:=by {rw[ay _ _ _ _ _ _ H];rfl};have eb:u.frozen? ⟨w.heap.size+1,2,M⟩=R:=dp _ _ _ _ _ H;obtain⟨c5,c6,c7,c8,c9,da,dc⟩:=aE (show cA d.heap.size u 7 p (b:Int) c n f from a8))|(go_at_call 15;refine(br _).mono ?_;rintro e k ⟨rfl,rfl⟩));exact⟨⟨pre++[⟨7,p,b,c,n,f⟩],cm,c+1,al-1,_,rfl,rfl,an,a7,by rw[aH,mA];exact a6⟩,by simp[B2];omega⟩
    ·have eg:(g==7)=R:=by rw[aC];exact a5
     rw[aa a5]at G;subst G;rw[Int.add_zero]at an;go_upto_region 13 with fail
     generalize d.alloc (.cells #[.int .i64 g,.int .i64 p,.int .i64 (b:Int),.int .i64 c,.int .i64 n,.string f] 29)=h at m j⊢;clear A B C F x y t of;obtain⟨A,B,C,F,x,y,t,of⟩:=j.cells;obtain⟨cv,b1,b2,cy,cz,cF,c0⟩:=aE (show cA d.heap.size h g p (b:Int) c n f from m);have d9:w.heap.size+1<h.heap.size:=au j.out;have bj:d.heap.size<h.heap.size:=au m;obtain⟨bp,bb,bl,bn,bo⟩:=fd Tryz.info29;have d8:=l.le;go_wp2_with (first|(at_builtin;refine lE _ rfl _ _ 24 rfl (w.heap.size+2) 29 bp _ 6 56 Tryz.underlying24 bb bl bn bo rfl (by decide) _ _ _ rfl (j.row.alloc _) ⟨h.heap.size,0,M⟩ 1 1 [.int .i64 g,.int .i64 p,.int .i64 (b:Int),.int .i64 c,.int .i64 n,.string f] rfl rfl (Z (cs:=#[.int .i64 g,.int .i64 p,.int .i64 (b:Int),.int .i64 c,.int .i64 n,.string f]) (fr:=(0,0)) (ax h _)) (by intro ec K;simp at K;rcases K with rfl|rfl|rfl|rfl|rfl|rfl<;>rfl) (by unfold maxLen;omega) (by omega) (by simp;omega) ?_;intro ee u J a9 _;obtain⟨dd,c4,rfl⟩:=B0 J;obtain⟨a6,H,bd⟩:=j.appended J a9;have a8:=(bd _ bj cf).trans m;have ea:u.cell? ⟨w.heap.size+1,2,M⟩=N v:=by {rw[ay _ _ _ _ _ _ H];rfl};have eb:u.frozen? ⟨w.heap.size+1,2,M⟩=R:=dp _ _ _ _ _ H;obtain⟨c5,c6,c7,c8,c9,da,dc⟩:=aE (show cA d.heap.size u g p (b:Int) c n f from a8))|(go_at_call 15;refine(br _).mono ?_;rintro e k ⟨rfl,rfl⟩));exact⟨⟨pre++[⟨g,p,b,c,n,f⟩],cm,c,al-1,_,rfl,rfl,an,a7,by rw[aH,mA];exact a6⟩,by simp[B2];omega⟩
  ·have o:=l.atEnd (by omega);have d7:¬(p:Int)<(s.size:Int):=by omega
   subst o;obtain⟨L,c3,rfl⟩:=yd q.row;obtain⟨af,am⟩:∃af,pre.length=af:=⟨_,rfl⟩;rw[am]at t;have dk:=q.out;have ck:=q.row;rw[am]at ck;have cr:Hid (pre.length=af):=am;clear am dk;go_wp2_with fail;refine bg (fz rfl _ _ w.heap.size _ _ _ _ rfl (bK _ _ 2 _ _ _ (bK _ _ 1 _ _ _ (bK wr _ 0 _ _ _ q.res))) Tryz.underlying26 rfl (by kernel_rfl)) rfl ⟨_,rfl,?_,(((q.bel.setCell (p:=⟨w.heap.size,0,M⟩) (ag _) _).setCell (p:=⟨w.heap.size,1,M⟩) (ag _) _).setCell (p:=⟨w.heap.size,2,M⟩) (ag _) _)⟩;have d6:=gq (a:=⟨w.heap.size,2,M⟩) (gq (a:=⟨w.heap.size,1,M⟩) (gq (a:=⟨w.heap.size,0,M⟩) ck (by simp) (.bool A2)) (by simp) (.int .i64 0)) (by simp) (.slice L af c3);show World.ownsRow _ _ _ _ _ pre.length (jB pre);rw[cr.out];exact By d6 (by omega)
theorem AB(s:ByteArray)(b:65536<s.size)(d:s.size<=1048576)(w:O):
  Ax Q 6 #[.string s] w fun e a=>e= .returned (.agg #[.bool R,.int .i64 65536,.slice M 0 0])/\T w.heap.size w a:=by
 have f:∀w:O,(zeroValue 26).run Q w= .ok (.agg #[.bool R,.int .i64 0,.slice M 0 0]) w:=fun w=>by kernel_rfl
 have c:(65536:Int)<(s.size:Int):=by omega
 go_enter Tryz.func6,Tryz.ntmps6;go_wp2_with fail;exact bg (fz rfl _ _ w.heap.size _ _ _ _ rfl (ax w _) Tryz.underlying26 rfl (by kernel_rfl)) rfl ⟨rfl,(aq _ w).alloc (ag _) _⟩
theorem AC(s:ByteArray)(d:s.size<=1048576)(w:O):
  Ax Q 6 #[Br s] w fun e b=>∃v,e= .returned (.agg #[B3 (pH s).1,U V (tA (pH s)),v])/\b.ownsRow w.heap.size 29 6 v (fi (pH s)).length (jB (fi (pH s)))/\T w.heap.size w b:=by
 unfold pH;by_cases a:65536<s.size
 ·rw[ab a];refine(AB s a d w).mono ?_;rintro e b ⟨rfl,c⟩;exact⟨_,rfl,dB _ _ _ _,c⟩
 ·rw[aa a];exact wG s (by omega) _ rfl w
structure TsP (ts:List Tk):Prop where
 len:ts.length<=65536
 inn:∀t∈ts,(1<=t.k/\t.k<=78)/\I64 t.n/\t.x.size<=65536
 out:∀i,(fK (ts.take i)).size<=65536
 agn:(∀t∈ts,(Dv t).size≠0)->(fi (pH (fK ts))).map GC=ts.map GC
theorem tsp{s:ByteArray}(a:uT s<=65536):TsP (fi (pH s)):=⟨aeD a,af6 (Az (by omega)),LL a,af7 a⟩
theorem qs{w b:O}{base e size:Nat}{v:S}{n:Nat}{c:List S}(d:w.ownsRow base e size v n c)(a:T w.heap.size w b):b.ownsRow base e size v n c:=
 d.kept (row:=M) ⟨a.os,a.tape,a.output,a.size,fun g f _=>a.block g f⟩ (by cases v.ownBlock<;>simp)
def Tc(W:O)(b i:Nat)(a:Tk):Prop:=W.cell? ⟨b,i*6,M⟩=N (U V a.k)/\W.cell? ⟨b,i*6+1,M⟩=N (U V a.f)/\W.cell? ⟨b,i*6+2,M⟩=N (U V a.t)/\W.cell? ⟨b,i*6+3,M⟩=N (U V a.l)/\W.cell? ⟨b,i*6+4,M⟩=N (U V a.n)/\W.cell? ⟨b,i*6+5,M⟩=N (Br a.x)
theorem Ej{W:O}{base n c:Nat}{a:Option Addr}{ts:List Tk}(f:W.ownsRow base 29 6 (A0 a n c) n (jB ts)){i:Nat}{e:Tk}(m:i<n)(h:ts[i]?=N e):∃d,a=N ⟨d,0,M⟩/\Tc W d i e:=by
 rcases cL f with⟨l,_⟩|⟨d,k,g⟩
 ·omega
 ·cases g;refine⟨d,rfl,?_⟩;have c:∀b,b<6->W.cell? ⟨d,i*6+b,M⟩=(cTk e)[b]?:=fun b j=>by rw[f.cellAt (i*6+b) (by omega),Ao ts i b e h j]
  exact⟨c 0 (by omega),c 1 (by omega),c 2 (by omega),c 3 (by omega),c 4 (by omega),c 5 (by omega)⟩
structure Tl (w:O) (b1 b2 n c1 c2:Nat) (ok:Bool) (z:Int) (a1 a2:Option Addr) (ts:List Tk) (W:O):Prop where
 bel:T w.heap.size w W
 x1:W.heap[b1]?=N (.cells #[.bool ok,.int .i64 z,.slice a1 n c1] 26 (0,0))
 x2:W.heap[b2]?=N (.cells #[.bool ok,.int .i64 z,.slice a2 n c2] 26 (0,0))
 o1:∃b,W.ownsRow b 29 6 (.slice a1 n c1) n (jB ts)
 o2:∃b,W.ownsRow b 29 6 (.slice a2 n c2) n (jB ts)
 ln:ts.length=n
section
variable {w W W' : World} {b1 b2 n c1 c2 : Nat} {ok : Bool} {z : Int} {a1 a2 : Option Addr} {ts : List Tk}
theorem Tl.below(a:Tl w b1 b2 n c1 c2 ok z a1 a2 ts W)(b:T W.heap.size W W'):Tl w b1 b2 n c1 c2 ok z a1 a2 ts W':=by
 obtain⟨e,c⟩:=a.o1;obtain⟨f,d⟩:=a.o2;exact⟨a.bel.trans (b.mono a.bel.size),(b.block _ (au a.x1)).trans a.x1,(b.block _ (au a.x2)).trans a.x2,⟨e,qs c b⟩,⟨f,qs d b⟩,a.ln⟩
theorem sc3{b:Nat}{t:TypeId}{fr:Nat×Nat}{c d e:S}(a:W.heap[b]?=N (.cells #[c,d,e] t fr)):W.cell? ⟨b,0,M⟩=N c/\W.cell? ⟨b,1,M⟩=N d/\W.cell? ⟨b,2,M⟩=N e:=
 ⟨by rw[ay _ _ _ _ _ _ a];rfl,by rw[ay _ _ _ _ _ _ a];rfl,by rw[ay _ _ _ _ _ _ a];rfl⟩
theorem Tl.get(d:Tl w b1 b2 n c1 c2 ok z a1 a2 ts W){i:Nat}(f:i<n):∃a b c,ts[i]?=N a/\a1=N ⟨b,0,M⟩/\a2=N ⟨c,0,M⟩/\Tc W b i a/\Tc W c i a:=by
 obtain⟨o,j⟩:=d.o1;obtain⟨p,k⟩:=d.o2;obtain⟨a,e⟩:∃a,ts[i]?=N a:=⟨_,aF (by have:=d.ln;omega)⟩;obtain⟨b,g,l⟩:=Ej j f e;obtain⟨c,h,m⟩:=Ej k f e;exact⟨a,b,c,e,g,h,l,m⟩
end
theorem Tc.below{W W':O}{c i:Nat}{b:Tk}(d:Tc W c i b)(a:T W.heap.size W W'):Tc W' c i b:=by
 obtain⟨e,f,g,h,j,k⟩:=d;exact⟨bm a e,bm a f,bm a g,bm a h,bm a j,bm a k⟩
theorem af8(w:O):T w.heap.size w w.drew:=bq (aq _ _)
theorem aaa{X:ByteArray}(a:X.size=0):X=⟨#[]⟩:=by
 have:X.data=#[]:=Array.eq_empty_of_size_eq_zero a;cases X;simp_all
theorem af9{X:ByteArray}(b:X.size≠0):(X.toList==([]:List UInt8))=R:=by
 have:X.toList≠[]:=fun a=>b (by rw[eo]at a;have:=congrArg List.length a;simpa using this);simpa using this
theorem yB{P:Program}{d:FuncId}{a b:S}{w:O}{c:Ending->O->Prop}(e:a=b)(f:Ax P d #[a] w c):Ax P d #[b] w c:=e ▸ f
theorem aab(w:O)(j:Option Addr)(f l:Nat)(a4:f<=1048576)(L:Code w.heap.size w j f):
  Ax Q 4 #[A0 j f l] w fun e a6=>∃t:ByteArray,e= .returned (Br t)/\uT t<=65536/\T w.heap.size w a6:=by
 have s:=dF w (.cells #[A0 j f l,U V 0,U .u64 0,U V 0] 35);have c:Cu ⟨w.heap.size,w.heap.size,0,j,f,l,0,0⟩ (w.alloc (.cells #[A0 j f l,U V 0,U .u64 0,U V 0] 35)) 0:=⟨⟨ag _,s.size⟩,a4,L.below s,0,0,0,ax w _,by decide,by decide,by decide,by decide,Int.le_refl 0⟩;obtain⟨E,k⟩:∃E:Bs,E=⟨w.heap.size,w.heap.size,0,j,f,l,0,0⟩:=⟨_,rfl⟩;have m:E.base=w.heap.size:=by rw[k]
 have av:E.g=0:=by rw[k]
 have o:cV E= B1 (N ⟨w.heap.size,0,M⟩):=by rw[k]
 rw[<-k]at c;have A:=fv c 3 (by decide) (by decide) (by decide);rw[o]at A;go_in;go_wp2_with fail;refine A.mono ?_;rintro e w1 ⟨z,rfl,bx,r,_,b1⟩;have C:=gy r (s.trans (by rw[<-m];exact b1)) k;clear A b1 c k L s;by_cases am:z=0
 ·subst am;have d:=af5 r (by decide);rw[o]at d;go_wp2_with fail;refine d.mono ?_;rintro e a7 ⟨t,rfl,al,b2⟩;have i:=cH al (C.out.2.1.trans (by rw[<-m];exact b2));clear al b2 d;go_wp2_with fail;go_ret;exact⟨t,rfl,i.out.1,i.out.2⟩
 ·have a8:(z==0)=R:=by simpa using am
  have d:=fv r 12 (by decide) (by decide) (by decide);rw[o]at d;go_wp2_with fail;refine d.mono ?_;rintro e a7 ⟨n,rfl,bo,H,_,b2⟩;have i:=cH H (C.out.2.1.trans (by rw[<-m];exact b2));clear b2 d H r;go_wp2_with fail;go_loopw [4,5] (fun a5 B wr=>∃(t:ByteArray) (h:Nat) (a:Int),a5= Br t/\B= U V a/\(0<=a/\a<=11)/\Hid ((uT t:Int)+220*a<=2420+8010*(h:Int))/\Cu {E with g:=h} wr (1000000-1000*a)/\Hid (T w.heap.size w wr)) (fun _ B _=>(B2 B).toNat)
  case atStart=>exact⟨⟨#[]⟩,0,n,rfl,rfl,by omega,by show _<=_;have:uT ⟨#[]⟩=0:=(by decide);omega,by rw[<-av];exact i.out.1.wide (by omega),i.out.2⟩
  case round=>
   clear i;obtain⟨t,h,a,rfl,rfl,bj,x,c,G⟩:=hrel;have bd:h<=3:=c.g3;have bt:t.size<=33000:=by have:=x.out;have:=tB t;omega
   by_cases bl:0<a
   ·have bw:IntKind.i64.wrap (a-1)=a-1:=by rw[cB];omega
    have ap:=yB (b:= B1 (N ⟨w.heap.size,0,M⟩)) (show cV {E with g:=h}=_ from o) (Lh (E:={E with g:=h}) c (by omega));clear c;go_wp2_with fail;refine ap.mono ?_;rintro e bE ⟨q,p,rfl,bn,af,y,J⟩;have bf:p<=3:=y.g3;have br:q.size<=20000:=by have:=tB q;omega
    have an:=yB (b:= B1 (N ⟨w.heap.size,0,M⟩)) (show cV {E with g:=p}=_ from o) (agF (E:={E with g:=p}) y (by omega));have F:=cH (G.out.trans (by rw[<-m];exact J)) af;clear ap y J af;go_wp2_with fail;refine an.mono ?_;rintro e b0 ⟨u,rfl,ak,I,K⟩;have bs:u.size<=50:=by have:=tB u;omega
    have a9:¬9223372036854775807<q.size+u.size:=by omega
    have bb:¬9223372036854775807<t.size+(q.size+u.size):=by omega
    have v:=gy I (F.out.1.trans (by rw[<-m];exact K)) ak;clear an I K ak;go_wp2_with fail;go_roundw
    case rel=>exact⟨_,p,a-1,rfl,rfl,by omega,by show _<=_;rw[ft,ft];have bp:uT q+8010*h<=120+8010*p:=F.out.2;have:=x.out;have:=v.out.2.2;omega,v.out.1.wide (by omega),v.out.2.1⟩
    case measure=>simp[B2];omega
   ·have a3:a=0:=by omega
    subst a3;go_wp2_with fail;go_ret;exact⟨t,rfl,by have:=x.out;omega,G.out⟩
