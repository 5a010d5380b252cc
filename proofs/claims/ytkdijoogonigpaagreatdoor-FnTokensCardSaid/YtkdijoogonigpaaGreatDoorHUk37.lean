import Derived.Test.YtkdijoogonigpaaGreatDoorHUk36
set_option linter.all false
set_option maxRecDepth 100000
set_option maxHeartbeats 6400000
open Go.Value renaming slice->M,int->Q,string->Y
open Option renaming some->O
open Go.IntKind renaming i64->R
open Go.Proofs.Tryz renaming prog->S
open Go.RowKit renaming Hid->T,Below->A0
open Go.MakeChecks renaming laidMetH_plain->U
open Go renaming World->Z,TypeId->A2,Calls->Br
open Go.Obj renaming cells->Ax
namespace Go.Proofs.YtkdijoogonigpaaGreatDoor
open Go.ChangeShapes Go.WideShapes Go.ChangeAt Go.WideMaps Go.WideElems Go.RowKit
theorem G1{H:Type}{enc:A2×Value->H}{P:Program}{w:Z}{j:Nat->Bool}{a b c:String}{h:List (DataW H)}{i:List MemPlace}(d:DataW.TrodVars enc P w j [a,b,c] h i):∃e f g,h=[e,f,g]:=by
 match h,d with
 |[e,f,g],_=>exact⟨e,f,g,rfl⟩
 |[],d=>exact d.elim
 |[_],d=>obtain⟨_,_,_,_,_,_,_,_,_,_,d,_⟩:=d;exact d.elim
 |[_,_],d=>obtain⟨_,_,_,_,_,_,_,_,_,_,d,_⟩:=d;obtain⟨_,_,_,_,_,_,_,_,_,_,d,_⟩:=d;exact d.elim
 |_::_::_::_::_,d=>obtain⟨_,_,_,_,_,_,_,_,_,_,d,_⟩:=d;obtain⟨_,_,_,_,_,_,_,_,_,_,d,_⟩:=d;obtain⟨_,_,_,_,_,_,_,_,_,_,d,_⟩:=d;exact d.elim
def afz(V:Array Value):List (List UInt8):=V.toList.map fun b=>match b with| .string a=>a.data.toList|_=>[]
theorem Ah{g:Z}{e:String}{d:DataW Unit}{c:Nat}{t:A2}{n:Nat}{V:Array Value}(w:([(e,d)].all fun x=>x.2.handleName?.isNone)=true)
  (u:Tryz.prog.globalNamed e=O c) (m:(Tryz.prog.globals[c]?).map (·.type)=O t) (y:Tryz.prog.underlying t=O (.array n 9)) (p:Tryz.prog.cellsOf 9=1) (q:Tryz.prog.cellsOf t=n)
  (r:d= .agg ((afz V).map fun b=> .lit (.string b))) (o:(afz V).map (fun b=>Value.string ⟨b.toArray⟩)=V.toList) (h:laidMetH S [(e,d)] g):∃f fr,g.heap[c]?=O (.cells V f fr):=by
 rw[U _ _ _ w]at h;obtain⟨F,⟨C,H,j,B,E,G,i,z,a,s,_,_⟩,_,_⟩:=h;obtain rfl:=dr (u.symm.trans i);obtain rfl:=dr (m.symm.trans z);subst r;have k:=wL y Tryz.underlying9 p q s;have l:j=V:=by
  apply Array.toList_inj.1;rw[k,o]
 simp only[World.var?,i,yK]at a;split at a
 ·rename_i A f fr v;cases a;exact⟨f,fr,by rw[<-l];exact v⟩
 ·cases a
theorem Kj{c:Z}{b nm:String}{d:DataW Unit}{a:Nat}{t:A2}{ms:Array (String×A2)}(o:([(b,DataW.iface nm d)].all fun x=>x.2.handleName?.isNone)=true)
  (n:Tryz.prog.globalNamed b=O a) (l:(Tryz.prog.globals[a]?).map (·.type)=O t) (p:Tryz.prog.underlying t=O (.interface ms)) (e:laidMetH S [(b,.iface nm d)] c):∃u s,c.cell? ⟨a,0,none⟩=O (.iface u s):=by
 rw[U _ _ _ o]at e;obtain⟨A,⟨y,C,i,w,z,B,f,q,r,m,_,_⟩,_,_⟩:=e;obtain rfl:=dr (n.symm.trans f);obtain rfl:=dr (l.symm.trans q);obtain⟨v,g,h,j,_,_⟩:=iface_of_trod p m;refine⟨g,h,?_⟩;have:=World.var?_cell f r 0;rw[this];have k:i.toList[0]?=O (.iface g h):=by rw[j];rfl
 simpa using k
def ad0:List Int:=[0,1,56,2,57,49,28,3,61,58,42,50,38,29,17,4,62,47,59,36,45,43,51,22,53,39,33,30,24,18,12,5,63,55,48,27,60,41,37,16,46,35,44,21,52,32,23,11,54,26,40,15,34,20,31,10,25,14,19,9,13,8,7,6]
theorem afA:Tryz.prog.globalNamed "math/bits.deBruijn64tab" =O 7:=by kernel_rfl
theorem agx:Tryz.prog.globalNamed "internal/strconv.uint64pow10" =O 3:=by kernel_rfl
theorem agy:Tryz.prog.globalNamed "strconv.ErrSyntax" =O 4:=by kernel_rfl
theorem agz:Tryz.prog.globalNamed "strconv.ErrRange" =O 5:=by kernel_rfl
theorem agA:Tryz.prog.globalNamed "loop.example/warp/impl.wordTexts" =O 0:=by kernel_rfl
theorem agB:Tryz.prog.globalNamed "loop.example/warp/impl.markTexts" =O 1:=by kernel_rfl
theorem agC:Tryz.prog.globalNamed "loop.example/warp/impl.binaryTexts" =O 2:=by kernel_rfl
theorem abv{a:Z}(d:laidMetH S [("loop.example/warp/impl.wordTexts",Rows.laid_loop_example_warp_impl_wordTexts)] a)(e:laidMetH S [("loop.example/warp/impl.markTexts",Rows.laid_loop_example_warp_impl_markTexts)] a)(f:laidMetH S [("loop.example/warp/impl.binaryTexts",Rows.laid_loop_example_warp_impl_binaryTexts)] a)(g:laidMetH S [("strconv.ErrSyntax",Rows.laid_strconv_ErrSyntax)] a)(h:laidMetH S [("strconv.ErrRange",Rows.laid_strconv_ErrRange)] a)(b:laidMetH S [("internal/strconv.uint64pow10",Rows.laid_internal_strconv_uint64pow10)] a)(c:laidMetH S [("math/bits.deBruijn64tab",Rows.laid_math_bits_deBruijn64tab)] a):zr a:=by
 refine⟨⟨?_,?_,?_⟩,⟨?_,?_⟩,?_,?_⟩
 ·exact Ah (V:=cK) (by kernel_rfl) agA (t:=55) (by kernel_rfl) Tryz.underlying55 (by kernel_rfl) (by kernel_rfl) rfl rfl d
 ·exact Ah (V:=fl) (by kernel_rfl) agB (t:=71) (by kernel_rfl) Tryz.underlying71 (by kernel_rfl) (by kernel_rfl) rfl rfl e
 ·exact Ah (V:=gF) (by kernel_rfl) agC (t:=72) (by kernel_rfl) Tryz.underlying72 (by kernel_rfl) (by kernel_rfl) rfl rfl f
 ·exact Kj (by kernel_rfl) agy (t:=86) (by kernel_rfl) Tryz.underlying86 g
 ·exact Kj (by kernel_rfl) agz (t:=86) (by kernel_rfl) Tryz.underlying86 h
 ·rw[U _ _ _ (by kernel_rfl)]at b;exact Lib.tabIs_of_head agx (t:=134) (by kernel_rfl) Tryz.underlying134 Tryz.underlying33 (by kernel_rfl) (by kernel_rfl) b
 ·rw[U _ _ _ (by kernel_rfl)]at c;have i:laidMet S [("math/bits.deBruijn64tab",Lib.tabData .u8 ad0)] a:=c;exact(Lib.tabIs_of_head afA (t:=168) (by kernel_rfl) Tryz.underlying168 Tryz.underlying5 (by kernel_rfl) (by kernel_rfl) i).cell afA 15 (by decide)
theorem ad1{c:Z}(b:laidMetH S [("math/bits.deBruijn32tab",Rows.laid_math_bits_deBruijn32tab),("math/bits.deBruijn64tab",Rows.laid_math_bits_deBruijn64tab),("internal/strconv.uint64pow10",Rows.laid_internal_strconv_uint64pow10),("strconv.ErrRange",Rows.laid_strconv_ErrRange),("strconv.ErrSyntax",Rows.laid_strconv_ErrSyntax),("loop.example/warp/impl.wordTexts",Rows.laid_loop_example_warp_impl_wordTexts),("loop.example/warp/impl.markTexts",Rows.laid_loop_example_warp_impl_markTexts),("loop.example/warp/impl.binaryTexts",Rows.laid_loop_example_warp_impl_binaryTexts)] c):zr c:=
 abv (b.filter fun a=>a.1== "loop.example/warp/impl.wordTexts") (b.filter fun a=>a.1== "loop.example/warp/impl.markTexts") (b.filter fun a=>a.1== "loop.example/warp/impl.binaryTexts") (b.filter fun a=>a.1== "strconv.ErrSyntax") (b.filter fun a=>a.1== "strconv.ErrRange") (b.filter fun a=>a.1== "internal/strconv.uint64pow10") (b.filter fun a=>a.1== "math/bits.deBruijn64tab")
end Go.Proofs.YtkdijoogonigpaaGreatDoor
namespace Go.Proofs.YtkdijoogonigpaaGreatDoor
open Go.RowKit Go.Maps Go.WideMaps
theorem Kk(f t l n:Int)(x:ByteArray)(hm:x.size<=1048576)(w:Z)(hL:zr w):Br S 7 #[.agg #[Q R 1,Q R f,Q R t,Q R l,Q R n,Y x]] w fun e w'=>e= .returned (Y (fh 1 n x))/\A0 w.heap.size w w':=by
 have hb0:A0 w.heap.size w (w.alloc (Ax #[Q R 1,Q R f,Q R t,Q R l,Q R n,Y x] 29)):=(aq _ w).alloc (ag _) _;have hT0:cA w.heap.size (w.alloc (Ax #[Q R 1,Q R f,Q R t,Q R l,Q R n,Y x] 29)) 1 f t l n x:=ax w _;have hL0:=hL.below hb0 (ag _);have hlt:w.heap.size<(w.alloc (Ax #[Q R 1,Q R f,Q R t,Q R l,Q R n,Y x] 29)).heap.size:=au hT0;rw[show fh 1 n x=if iu x=true then x else iH from rfl];by_cases h40:x.size<=40
 ·have h40i:(x.size:Int)<=40:=by omega
  go_enter Tryz.func7,Tryz.ntmps7;go_upto_region 3 with fail
  generalize w.alloc (Ax #[Q R 1,Q R f,Q R t,Q R l,Q R n,Y x] 29)=W at hb0 hT0 hL0 hlt;obtain⟨t0,t1,t2,t3,t4,t5,tf⟩:=aE hT0;obtain⟨tt,fr,hG⟩:=hL0.tabs.word;go_cut [16] from 5 (fun s16 wx=>s16= .bool (iu x)/\cA w.heap.size wx 1 f t l n x/\A0 w.heap.size w wx)
  case first=>
   have hTd:cA w.heap.size W.drew 1 f t l n x:=hT0;have hltd:w.heap.size<W.drew.heap.size:=hlt;have hbd:A0 w.heap.size w W.drew:=hb0.drew;have hnm:decide (bc (ao x 0)=true/\jy x (x.size+1) 0=x.size/\nG x=false)=iu x:=by unfold iu;simp[h40]
   have kn:=fun (b:Nat) (w:Z) (hown:w.ownsMap S 9 (plainElem (H:=Unit) S 3) b 22 (wkD 22))=>CL x (by omega) b w hown;rw[hnm]at kn;obtain⟨B,hB⟩:∃B,iu x=B:=⟨_,rfl⟩;rw[hB]at kn;have HB:T (iu x=B):=hB;clear hnm hB;go_region_with (first|(go_at_call 13;refine(pA (H:=Unit) _ fr tt (by exact hG)).mono ?_;rintro e w1 ⟨rfl,hown1,hb1⟩;have hT1:=hTd.below hb1 hltd;have hbb:=hbd.trans (hb1.mono (dD hltd));have hc5:=(aE hT1).2.2.2.2.2.1;clear hb1)|(go_at_call 17;refine(kn _ _ hown1).mono ?_;rintro e w2 ⟨rfl,hw2⟩;obtain rfl:=hw2.symm))
   all_goals
    go_wp2_with fail;go_meet
    case rel=>exact⟨by rw[HB.out],by assumption,by assumption⟩
  case rest=>
   obtain⟨rfl,hT1,hb1⟩:=hcut;obtain⟨B,hB⟩:∃B,iu x=B:=⟨_,rfl⟩;have hx1:w.heap.size<wc.heap.size:=au hT1;clear t0 t1 t2 t3 t4 t5 tf hT0 hb0 hL0 hG hlt;obtain⟨t0,t1,t2,t3,t4,t5,tf⟩:=aE hT1;have kc:=fun w=>pd x (by omega) w;cases hN:iu x with
   |true=>
    clear hB;go_wp2_with (go_at_call 18;refine(kc _).mono ?_;rintro e w2 ⟨rfl,hb2⟩);go_ret;exact⟨rfl,hb1.trans (hb2.mono (dD hx1))⟩
   |false=>
    clear hB;go_wp2_with (go_at_call 18;refine(kc _).mono ?_;rintro e w2 ⟨rfl,hb2⟩);all_goals
     go_ret;exact⟨rfl,hb1⟩
 ·have h40i:¬(x.size:Int)<=40:=by omega
  have hno:iu x=false:=by unfold iu;simp[h40]
  rw[hno];go_enter Tryz.func7,Tryz.ntmps7;go_upto_region 3 with fail
  generalize w.alloc (Ax #[Q R 1,Q R f,Q R t,Q R l,Q R n,Y x] 29)=W at hb0 hT0 hL0 hlt;obtain⟨t0,t1,t2,t3,t4,t5,tf⟩:=aE hT0;go_quiet (fail)
  go_wp2;go_ret;exact⟨rfl,vc hb0 _⟩
theorem abw(k f t l n:Int)(x:ByteArray)(ak: -9223372036854775808<=k)(al:k<=9223372036854775807)(G: -9223372036854775808<=n)(H:n<=9223372036854775807)(B:x.size<=1048576)(w:Z)(j:zr w):Br S 7 #[.agg #[Q R k,Q R f,Q R t,Q R l,Q R n,Y x]] w fun e d=>e= .returned (Y (fh k n x))/\A0 w.heap.size w d:=by
 have c:A0 w.heap.size w (w.alloc (Ax #[Q R k,Q R f,Q R t,Q R l,Q R n,Y x] 29)):=(aq _ w).alloc (ag _) _;have m:cA w.heap.size (w.alloc (Ax #[Q R k,Q R f,Q R t,Q R l,Q R n,Y x] 29)) k f t l n x:=ax w _;have h:w.heap.size<=(w.alloc (Ax #[Q R k,Q R f,Q R t,Q R l,Q R n,Y x] 29)).heap.size:=c.size;have o:w.heap.size<(w.alloc (Ax #[Q R k,Q R f,Q R t,Q R l,Q R n,Y x] 29)).heap.size:=au m;have i:=j.below c (ag _);by_cases p:k=1
 ·subst p;exact Kk f t l n x B w j
 have an:(k==1)=false:=by rw[aC];exact p
 by_cases q:k=2
 ·subst q;have b:=fun w j=>Bn n G H w j;rw[show fh 2 n x=lr n from rfl];generalize lr n=y at b;go_enter Tryz.func7,Tryz.ntmps7;go_wp2_with (go_at_call 19;refine(b _ i).mono ?_;rintro e d ⟨rfl,a⟩;have g:=c.trans (a.mono h);clear c a m h o i);go_ret;exact⟨rfl,g⟩
 have ap:(k==2)=false:=by rw[aC];exact q
 by_cases r:k=3
 ·subst r;rw[show fh 3 n x=if Bk x=true then x else iH from rfl];have E:=fun w=>pd x (by omega) w;by_cases z:x.size<=40
  ·have I:(x.size:Int)<=40:=by omega
   have b:=fun w j=>Bh x (by omega) w j;have hF:Bk x=lm x:=by unfold Bk;rw[cG z,jf]
   rw[hF];generalize lm x=F at b;have v:∀d,A0 (w.alloc (Ax #[Q R 3,Q R f,Q R t,Q R l,Q R n,Y x] 29)).heap.size (w.alloc (Ax #[Q R 3,Q R f,Q R t,Q R l,Q R n,Y x] 29)) d->d.cell? ⟨w.heap.size,5,none⟩=O (Y x):=fun d a=>(aE (m.below a o)).2.2.2.2.2.1;have u:=i.errs;clear hF i;cases F with
   |true=>
    go_enter Tryz.func7,Tryz.ntmps7;go_wp2_with (first|(go_at_call 20;refine(b _ u).mono ?_;rintro e d ⟨rfl,a⟩;have L:=v _ a;have g:=c.trans (a.mono h);have C:=g.size;clear v c a m h o u b)|(go_at_call 18;refine(E _).mono ?_;rintro e am ⟨rfl,A⟩));go_ret;exact⟨rfl,g.trans (A.mono C)⟩
   |false=>
    go_enter Tryz.func7,Tryz.ntmps7;go_wp2_with (first|(go_at_call 20;refine(b _ u).mono ?_;rintro e d ⟨rfl,a⟩;have L:=v _ a;have g:=c.trans (a.mono h);have C:=g.size;clear v c a m h o u b)|(go_at_call 18;refine(E _).mono ?_;rintro e am ⟨rfl,A⟩));go_ret;exact⟨rfl,g⟩
  ·have I:¬(x.size:Int)<=40:=by omega
   have hF:Bk x=false:=by unfold Bk;rw[bk z,ip]
   rw[hF];clear hF;go_enter Tryz.func7,Tryz.ntmps7;go_wp2;go_ret;exact⟨rfl,c⟩
 have av:(k==3)=false:=by rw[aC];exact r
 by_cases s:k=4
 ·subst s;have b:=fun w=>Gn x B w;rw[show fh 4 n x=IA x from rfl];generalize IA x=y at b;go_enter Tryz.func7,Tryz.ntmps7;go_wp2_with (go_at_call 21;refine(b _).mono ?_;rintro e d ⟨rfl,a⟩;have g:=c.trans (a.mono h);clear c a m h o i);go_ret;exact⟨rfl,g⟩
 have a0:(k==4)=false:=by rw[aC];exact s
 have hS:fh k n x=dh k:=by unfold fh;rw[aa p,aa q,aa r,aa s]
 rw[hS];have b:=fun w J=>pC k ak al w J;generalize dh k=y at b;clear p q r s hS;have K:=i.tabs;clear i;go_enter Tryz.func7,Tryz.ntmps7;go_wp2_with (go_at_call 22;refine(b _ K).mono ?_;rintro e d ⟨rfl,af⟩;obtain rfl:=af.symm);go_ret;exact⟨rfl,c⟩
theorem Ci(w0:Z)(p1:Addr)(n c1:Nat)(ns:List Nd)(a5:bI w0 (M (O p1) n c1) ns)(a6:fI w0 p1 ns)(bo:ns.length=n)(cy:n<=1048576)(tab:Nat)(i:Nat)(cq:i<n)(N:Nd)(a4:nodeI ns i=N)(f:N.k=8)(cv:N.ks.length<=1048576)(a2:Nat)(a7:N.ks[0]?=O (a2:Int))(p:ByteArray)(bj:Wr w0 (M (O p1) n c1) tab 110 #[pW w0,Q R (a2:Int),Q R 0] p)(a3:Nat)(a0:N.ks[1]?=O (a3:Int))(ap:ByteArray)(bf:Wr w0 (M (O p1) n c1) tab 107 #[pW w0,Q R (a3:Int)] ap):
  Wr w0 (M (O p1) n c1) tab 80 #[pW w0,Q R (i:Int)] (⟨#[119,104,105,108,101,32]⟩++p++⟨#[32]⟩++ap):=by
 intro j g s t;obtain⟨l,h,o,b9,d,m,e⟩:=dH a5 a6 (show i<ns.length by omega);rw[a4]at e;have u:=s.lt;obtain⟨z0,b6,b7⟩:=s.cells;have bl:=e.hL;have bn:=e.hM;obtain⟨b,rfl⟩:=e.ks.ptr (by have:=cd a0;omega);have ct:(0:Int)<(d:Int):=by have:=cd a7;omega
 have cu:(1:Int)<(d:Int):=by have:=cd a0;omega
 obtain⟨bp,br,bs,bt,bw,bx,bE,b0,b1,_,_⟩:=e.rd g s.bel;have I:T (Bx w0 (M (O p1) n c1) tab g N (M l h o) (M (O b) d m) j (g.alloc (fx N (M l h o) (M (O b) d m)))):=Bx.new s N _ _;try simp only[ae]at t
 have cr:(i:Int)<(n:Int):=by omega
 have cs:(0:Int)<=(i:Int):=by omega
 have r:T (∀(j:ByteArray)(q:Z),Bx w0 (M (O p1) n c1) tab g N (M l h o) (M (O b) d m) j q->qp q g.heap.size N (M l h o) (M (O b) d m)/\q.cell? b=O (Q R (a2:Int))/\q.cell? ⟨b.block,b.off+1,none⟩=O (Q R (a3:Int))):=fun j q H=>⟨H.cells,H.kid0 e.ks a7,H.kid e.ks a0 (by decide)⟩;have ca:=bu f 1 rfl;have cb:=bu f 2 rfl;have cc:=bu f 3 rfl;have ce:=bu f 4 rfl;have cf:=bu f 5 rfl;have cl:=bu f 6 rfl;have cm:=bu f 7 rfl;have cp:=gE f 8 rfl;have a8:T (Wr w0 (M (O p1) n c1) tab 81 _ (⟨#[119,104,105,108,101,32]⟩)):=fun al am a1 t=>az w0 _ al (⟨#[119,104,105,108,101,32]⟩) _ am a1 t;have a9:=ar bj;have bb:T (Wr w0 (M (O p1) n c1) tab 81 _ (⟨#[32]⟩)):=fun al am a1 t=>az w0 _ al (⟨#[32]⟩) _ am a1 t;have bd:=ar bf;have b8:=ar e;obtain⟨⟨v,w,x,y,z,A,B,C,E⟩,F,G⟩:=r.out _ _ I.out;clear s e a5 a6 a4 bo b7 b6 bl bn f;go_in;go_wp2_with fail;refine(a8.out _ _ I.out.pr (by(try simp only[ae]);omega)).mono ?_;rintro av b2 ⟨rfl,c,a⟩;have J:T (Bx w0 (M (O p1) n c1) tab g N (M l h o) (M (O b) d m) (j++(⟨#[119,104,105,108,101,32]⟩)) b2):=I.out.next u c a
 obtain⟨⟨v,w,x,y,z,A,B,C,E⟩,F,G⟩:=r.out _ _ J.out;clear c a bp br bs bt bw bx bE b0 b1 z0;go_wp2_with fail;refine(a9.out _ _ J.out.pr (by(try simp only[ae]);omega)).mono ?_;rintro av b3 ⟨rfl,c,a⟩;have K:T (Bx w0 (M (O p1) n c1) tab g N (M l h o) (M (O b) d m) (j++(⟨#[119,104,105,108,101,32]⟩)++(p)) b3):=J.out.next u c a
 obtain⟨⟨v,w,x,y,z,A,B,C,E⟩,F,G⟩:=r.out _ _ K.out;clear c a;go_wp2_with fail;refine(bb.out _ _ K.out.pr (by(try simp only[ae]);omega)).mono ?_;rintro av b4 ⟨rfl,c,a⟩;have L:T (Bx w0 (M (O p1) n c1) tab g N (M l h o) (M (O b) d m) (j++(⟨#[119,104,105,108,101,32]⟩)++(p)++(⟨#[32]⟩)) b4):=K.out.next u c a
 obtain⟨⟨v,w,x,y,z,A,B,C,E⟩,F,G⟩:=r.out _ _ L.out;clear c a;go_wp2_with fail;refine(bd.out _ _ L.out.pr (by(try simp only[ae]);omega)).mono ?_;rintro av b5 ⟨rfl,c,a⟩;have af:T (Bx w0 (M (O p1) n c1) tab g N (M l h o) (M (O b) d m) (j++(⟨#[119,104,105,108,101,32]⟩)++(p)++(⟨#[32]⟩)++(ap)) b5):=L.out.next u c a
 obtain⟨⟨v,w,x,y,z,A,B,C,E⟩,F,G⟩:=r.out _ _ af.out;clear c a;go_wp2_with fail;go_end0
 refine⟨rfl,?_,af.out.kq⟩;have:=af.out.pr;simpa only[aB] using this
theorem DF(w0:Z)(p1:Addr)(n c1:Nat)(ns:List Nd)(u:bI w0 (M (O p1) n c1) ns)(v:fI w0 p1 ns)(G:ns.length=n)(b5:n<=1048576)(tab:Nat)(i:Nat)(b1:i<n)(N:Nd)(t:nodeI ns i=N)(a:N.k=11)(b4:N.ks.length<=1048576):
  Wr w0 (M (O p1) n c1) tab 80 #[pW w0,Q R (i:Int)] (⟨#[98,114,101,97,107]⟩):=by
 intro f c m r;obtain⟨h,e,l,g,d,j,b⟩:=dH u v (show i<ns.length by omega);rw[t]at b;have F:=m.lt;obtain⟨z0,bb,bd⟩:=m.cells;have C:=b.hL;have E:=b.hM;obtain⟨I,J,K,L,af,al,am,ap,av,_,_⟩:=b.rd c m.bel;have o:T (Bx w0 (M (O p1) n c1) tab c N (M h e l) (M g d j) f (c.alloc (fx N (M h e l) (M g d j)))):=Bx.new m N _ _;try simp only[ae]at r
 have b2:(i:Int)<(n:Int):=by omega
 have b3:(0:Int)<=(i:Int):=by omega
 have s:T (∀(f:ByteArray)(q:Z),Bx w0 (M (O p1) n c1) tab c N (M h e l) (M g d j) f q->qp q c.heap.size N (M h e l) (M g d j)):=fun f q y=>y.cells;have bl:=bu a 1 rfl;have bp:=bu a 2 rfl;have br:=bu a 3 rfl;have bs:=bu a 4 rfl;have bt:=bu a 5 rfl;have bw:=bu a 6 rfl;have bx:=bu a 7 rfl;have bE:=bu a 8 rfl;have b0:=bu a 9 rfl;have bn:=bu a 10 rfl;have bo:=gE a 11 rfl;have z:T (Wr w0 (M (O p1) n c1) tab 81 _ (⟨#[98,114,101,97,107]⟩)):=fun A B H r=>az w0 _ A (⟨#[98,114,101,97,107]⟩) _ B H r;have bf:=ar b;obtain⟨a0,a1,a2,a3,a4,a5,a6,a7,a8⟩:=s.out _ _ o.out;clear m b u v t G bd bb C E a;go_in;go_wp2_with fail;refine(z.out _ _ o.out.pr (by(try simp only[ae]);omega)).mono ?_;rintro bj a9 ⟨rfl,x,w⟩;have p:T (Bx w0 (M (O p1) n c1) tab c N (M h e l) (M g d j) (f++(⟨#[98,114,101,97,107]⟩)) a9):=o.out.next F x w
 obtain⟨a0,a1,a2,a3,a4,a5,a6,a7,a8⟩:=s.out _ _ p.out;clear x w I J K L af al am ap av z0;go_wp2_with fail;go_end0
 refine⟨rfl,?_,p.out.kq⟩;have:=p.out.pr;simpa only[aB] using this
theorem G2(w0:Z)(p1:Addr)(n c1:Nat)(ns:List Nd)(u:bI w0 (M (O p1) n c1) ns)(v:fI w0 p1 ns)(G:ns.length=n)(b6:n<=1048576)(tab:Nat)(i:Nat)(b2:i<n)(N:Nd)(t:nodeI ns i=N)(a:N.k=12)(b5:N.ks.length<=1048576):
  Wr w0 (M (O p1) n c1) tab 80 #[pW w0,Q R (i:Int)] (⟨#[110,101,120,116]⟩):=by
 intro f c m r;obtain⟨h,e,l,g,d,j,b⟩:=dH u v (show i<ns.length by omega);rw[t]at b;have F:=m.lt;obtain⟨z0,bb,bd⟩:=m.cells;have C:=b.hL;have E:=b.hM;obtain⟨I,J,K,L,af,al,am,ap,av,_,_⟩:=b.rd c m.bel;have o:T (Bx w0 (M (O p1) n c1) tab c N (M h e l) (M g d j) f (c.alloc (fx N (M h e l) (M g d j)))):=Bx.new m N _ _;try simp only[ae]at r
 have b3:(i:Int)<(n:Int):=by omega
 have b4:(0:Int)<=(i:Int):=by omega
 have s:T (∀(f:ByteArray)(q:Z),Bx w0 (M (O p1) n c1) tab c N (M h e l) (M g d j) f q->qp q c.heap.size N (M h e l) (M g d j)):=fun f q y=>y.cells;have bl:=bu a 1 rfl;have br:=bu a 2 rfl;have bs:=bu a 3 rfl;have bt:=bu a 4 rfl;have bw:=bu a 5 rfl;have bx:=bu a 6 rfl;have bE:=bu a 7 rfl;have b0:=bu a 8 rfl;have b1:=bu a 9 rfl;have bn:=bu a 10 rfl;have bo:=bu a 11 rfl;have bp:=gE a 12 rfl;have z:T (Wr w0 (M (O p1) n c1) tab 81 _ (⟨#[110,101,120,116]⟩)):=fun A B H r=>az w0 _ A (⟨#[110,101,120,116]⟩) _ B H r;have bf:=ar b;obtain⟨a0,a1,a2,a3,a4,a5,a6,a7,a8⟩:=s.out _ _ o.out;clear m b u v t G bd bb C E a;go_in;go_wp2_with fail;refine(z.out _ _ o.out.pr (by(try simp only[ae]);omega)).mono ?_;rintro bj a9 ⟨rfl,x,w⟩;have p:T (Bx w0 (M (O p1) n c1) tab c N (M h e l) (M g d j) (f++(⟨#[110,101,120,116]⟩)) a9):=o.out.next F x w
 obtain⟨a0,a1,a2,a3,a4,a5,a6,a7,a8⟩:=s.out _ _ p.out;clear x w I J K L af al am ap av z0;go_wp2_with fail;go_end0
 refine⟨rfl,?_,p.out.kq⟩;have:=p.out.pr;simpa only[aB] using this
theorem DH(w0:Z)(p1:Addr)(n c1:Nat)(ns:List Nd)(u:bI w0 (M (O p1) n c1) ns)(v:fI w0 p1 ns)(G:ns.length=n)(b8:n<=1048576)(tab:Nat)(i:Nat)(b4:i<n)(N:Nd)(t:nodeI ns i=N)(a:N.k=13)(b7:N.ks.length<=1048576)(b3:N.ks.length=0):
  Wr w0 (M (O p1) n c1) tab 80 #[pW w0,Q R (i:Int)] (⟨#[114,101,116,117,114,110]⟩):=by
 intro f d m r;obtain⟨h,e,l,g,b,j,c⟩:=dH u v (show i<ns.length by omega);rw[t]at c;have F:=m.lt;obtain⟨z0,bb,bd⟩:=m.cells;have C:=c.hL;have E:=c.hM;obtain⟨I,J,K,L,af,al,am,ap,av,_,_⟩:=c.rd d m.bel;have o:T (Bx w0 (M (O p1) n c1) tab d N (M h e l) (M g b j) f (d.alloc (fx N (M h e l) (M g b j)))):=Bx.new m N _ _;try simp only[ae]at r
 have b5:(i:Int)<(n:Int):=by omega
 have b6:(0:Int)<=(i:Int):=by omega
 have s:T (∀(f:ByteArray)(q:Z),Bx w0 (M (O p1) n c1) tab d N (M h e l) (M g b j) f q->qp q d.heap.size N (M h e l) (M g b j)):=fun f q y=>y.cells;have bl:=bu a 1 rfl;have bs:=bu a 2 rfl;have bt:=bu a 3 rfl;have bw:=bu a 4 rfl;have bx:=bu a 5 rfl;have bE:=bu a 6 rfl;have b0:=bu a 7 rfl;have b1:=bu a 8 rfl;have b2:=bu a 9 rfl;have bn:=bu a 10 rfl;have bo:=bu a 11 rfl;have bp:=bu a 12 rfl;have br:=gE a 13 rfl;have b9:¬(0:Int)<(b:Int):=by omega
 have z:T (Wr w0 (M (O p1) n c1) tab 81 _ (⟨#[114,101,116,117,114,110]⟩)):=fun A B H r=>az w0 _ A (⟨#[114,101,116,117,114,110]⟩) _ B H r;have bf:=ar c;obtain⟨a0,a1,a2,a3,a4,a5,a6,a7,a8⟩:=s.out _ _ o.out;clear m c u v t G bd bb C E a;go_in;go_wp2_with fail;refine(z.out _ _ o.out.pr (by(try simp only[ae]);omega)).mono ?_;rintro bj a9 ⟨rfl,x,w⟩;have p:T (Bx w0 (M (O p1) n c1) tab d N (M h e l) (M g b j) (f++(⟨#[114,101,116,117,114,110]⟩)) a9):=o.out.next F x w
 obtain⟨a0,a1,a2,a3,a4,a5,a6,a7,a8⟩:=s.out _ _ p.out;clear x w I J K L af al am ap av z0;go_wp2_with fail;go_end0
 refine⟨rfl,?_,p.out.kq⟩;have:=p.out.pr;simpa only[aB] using this
theorem G3(w0:Z)(p1:Addr)(n c1:Nat)(ns:List Nd)(am:bI w0 (M (O p1) n c1) ns)(ap:fI w0 p1 ns)(a6:ns.length=n)(cm:n<=1048576)(tab:Nat)(i:Nat)(cc:i<n)(N:Nd)(al:nodeI ns i=N)(a:N.k=13)(cl:N.ks.length<=1048576)(cb:0<N.ks.length)(X:ByteArray)(a5:∀v,aJ w0 v (N.ks)->Wr w0 (M (O p1) n c1) tab 109 #[pW w0,v] X):
  Wr w0 (M (O p1) n c1) tab 80 #[pW w0,Q R (i:Int)] (⟨#[114,101,116,117,114,110]⟩++(⟨#[32]⟩++X)):=by
 intro l g p q;obtain⟨m,h,o,c,b,d,j⟩:=dH am ap (show i<ns.length by omega);rw[al]at j;have A:=p.lt;obtain⟨z0,bs,bt⟩:=p.cells;have a3:=j.hL;have a4:=j.hM;obtain⟨a7,a8,a9,bb,bd,bf,bj,bl,bn,_,_⟩:=j.rd g p.bel;have s:T (Bx w0 (M (O p1) n c1) tab g N (M m h o) (M c b d) l (g.alloc (fx N (M m h o) (M c b d)))):=Bx.new p N _ _;try simp only[ae]at q
 have ce:(i:Int)<(n:Int):=by omega
 have cf:(0:Int)<=(i:Int):=by omega
 have r:T (∀(l:ByteArray)(y:Z),Bx w0 (M (O p1) n c1) tab g N (M m h o) (M c b d) l y->qp y g.heap.size N (M m h o) (M c b d)):=fun l y av=>av.cells;have bx:=bu a 1 rfl;have b3:=bu a 2 rfl;have b4:=bu a 3 rfl;have b5:=bu a 4 rfl;have b6:=bu a 5 rfl;have b7:=bu a 6 rfl;have b8:=bu a 7 rfl;have b9:=bu a 8 rfl;have ca:=bu a 9 rfl;have bE:=bu a 10 rfl;have b0:=bu a 11 rfl;have b1:=bu a 12 rfl;have b2:=gE a 13 rfl;have cp:(0:Int)<(b:Int):=by omega
 have a0:T (Wr w0 (M (O p1) n c1) tab 81 _ (⟨#[114,101,116,117,114,110]⟩)):=fun x z B q=>az w0 _ x (⟨#[114,101,116,117,114,110]⟩) _ z B q;have a1:T (Wr w0 (M (O p1) n c1) tab 81 _ (⟨#[32]⟩)):=fun x z B q=>az w0 _ x (⟨#[32]⟩) _ z B q;have a2:T (Wr w0 (M (O p1) n c1) tab 109 _ (X)):=a5 (M c b d) j.ks;have bw:=ar j;obtain⟨C,E,F,G,H,I,J,K,L⟩:=r.out _ _ s.out;clear p j am ap al a6 bt bs a3 a4 a;go_in;go_wp2_with fail;refine(a0.out _ _ s.out.pr (by(try simp only[ae]);omega)).mono ?_;rintro af bo ⟨rfl,f,e⟩;have t:T (Bx w0 (M (O p1) n c1) tab g N (M m h o) (M c b d) (l++(⟨#[114,101,116,117,114,110]⟩)) bo):=s.out.next A f e
 obtain⟨C,E,F,G,H,I,J,K,L⟩:=r.out _ _ t.out;clear f e a7 a8 a9 bb bd bf bj bl bn z0;go_wp2_with fail;refine(a1.out _ _ t.out.pr (by(try simp only[ae]);omega)).mono ?_;rintro af bp ⟨rfl,f,e⟩;have u:T (Bx w0 (M (O p1) n c1) tab g N (M m h o) (M c b d) (l++(⟨#[114,101,116,117,114,110]⟩)++(⟨#[32]⟩)) bp):=t.out.next A f e
 obtain⟨C,E,F,G,H,I,J,K,L⟩:=r.out _ _ u.out;clear f e;go_wp2_with fail;refine(a2.out _ _ u.out.pr (by(try simp only[ae]);omega)).mono ?_;rintro af br ⟨rfl,f,e⟩;have w:T (Bx w0 (M (O p1) n c1) tab g N (M m h o) (M c b d) (l++(⟨#[114,101,116,117,114,110]⟩)++(⟨#[32]⟩)++(X)) br):=u.out.next A f e
 obtain⟨C,E,F,G,H,I,J,K,L⟩:=r.out _ _ w.out;clear f e;go_wp2_with fail;go_end0
 refine⟨rfl,?_,w.out.kq⟩;have:=w.out.pr;simpa only[aB] using this
theorem G4(w0:Z)(p1:Addr)(n c1:Nat)(ns:List Nd)(bd:bI w0 (M (O p1) n c1) ns)(bf:fI w0 p1 ns)(b1:ns.length=n)(c9:n<=1048576)(tab:Nat)(i:Nat)(c3:i<n)(N:Nd)(bb:nodeI ns i=N)(c8:N.ks.length<=1048576)(j:N.k=34)(a4:N.k=31->1<=N.op/\N.op<=18)(b2:Int)(c7:¬dy N.k N.op<b2)(a5:Nat)(av:N.ks[0]?=O (a5:Int))(C:ByteArray)(bt:Wr w0 (M (O p1) n c1) tab 141 #[pW w0,Q R (a5:Int)] C)(X:ByteArray)(bE:∀v,aJ w0 v (N.ks.drop 1)->Wr w0 (M (O p1) n c1) tab 109 #[pW w0,v] X):
  Wr w0 (M (O p1) n c1) tab 110 #[pW w0,Q R (i:Int),Q R b2] (C++⟨#[40]⟩++X++⟨#[41]⟩):=by
 intro h a ap F;obtain⟨f,e,g,c0,l,p,m⟩:=dH bd bf (show i<ns.length by omega);rw[bb]at m;have G:=ap.lt;obtain⟨z0,cc,ce⟩:=ap.cells;have bw:=m.hL;have bx:=m.hM;obtain⟨d,rfl⟩:=m.ks.ptr (by have:=cd av;omega);have c6:(0:Int)<(l:Int):=by have:=cd av;omega
 obtain⟨b3,b4,b5,b6,b7,b8,b9,ca,cb,_,_⟩:=m.rd a ap.bel;have a3:T (Bx w0 (M (O p1) n c1) tab a N (M f e g) (M (O d) l p) h (a.alloc (fx N (M f e g) (M (O d) l p)))):=Bx.new ap N _ _;try simp only[ae]at F
 have c4:(i:Int)<(n:Int):=by omega
 have c5:(0:Int)<=(i:Int):=by omega
 by_cases b0:p=1
 ·have cu:l=1:=by have:=m.cap;have:=cd av;omega
  subst b0 cu;have o:T (∀(h:ByteArray)(E:Z),Bx w0 (M (O p1) n c1) tab a N (M f e g) (M (O d) 1 1) h E->qp E a.heap.size N (M f e g) (M (O d) 1 1)/\E.cell? d=O (Q R (a5:Int))):=fun h E a0=>⟨a0.cells,a0.kid0 m.ks av⟩;have cl:=bu j 28 rfl;have cm:=bu j 29 rfl;have cq:=bu j 31 rfl;have cp:=bu j 30 rfl;have cr:=bu j 32 rfl;have cs:=bu j 33 rfl;have ct:=gE j 34 rfl;have a1:T (∀a:Z,Br S 138 #[cE N (M f e g) (M (O d) 1 1)] a fun q bl=>q= .returned (Q R (dy N.k N.op))/\A0 a.heap.size a bl):=fun a=>dA N _ _ a4 a;have cv:=m.cap;have cz:(1:Int)<=(1:Int):=by omega
  have cy:1<=1:=by omega
  have a6:=ar bt;have a7:T (Wr w0 (M (O p1) n c1) tab 81 _ (⟨#[40]⟩)):=fun af al am F=>az w0 _ af (⟨#[40]⟩) _ al am F;have a8:T (Wr w0 (M (O p1) n c1) tab 109 _ (X)):=bE (M (O d) 0 0) (.inl ⟨by rw[List.drop_eq_nil_iff];omega,_,_,rfl⟩);have a9:T (Wr w0 (M (O p1) n c1) tab 81 _ (⟨#[41]⟩)):=fun af al am F=>az w0 _ af (⟨#[41]⟩) _ al am F;have cf:=ar m;obtain⟨⟨r,s,t,u,w,x,y,z,A⟩,B⟩:=o.out _ _ a3.out;clear ap m bd bf bb b1 ce cc bw bx j a4;unfold cE at a1;generalize bj:dy N.k N.op=cF at *;clear bj;go_in;go_wp2_with fail;refine lc (a1.out _) fun bn a2=>?_;have L:T (Bx w0 (M (O p1) n c1) tab a N (M f e g) (M (O d) 1 1) h bn):=a3.out.below a2;obtain⟨⟨r,s,t,u,w,x,y,z,A⟩,B⟩:=o.out _ _ L.out;clear a2 b3 b4 b5 b6 b7 b8 b9 ca cb z0;go_wp2_with fail;refine(a6.out _ _ L.out.pr (by(try simp only[ae]);omega)).mono ?_;rintro q bo ⟨rfl,c,b⟩;have H:T (Bx w0 (M (O p1) n c1) tab a N (M f e g) (M (O d) 1 1) (h++(C)) bo):=L.out.next G c b
  obtain⟨⟨r,s,t,u,w,x,y,z,A⟩,B⟩:=o.out _ _ H.out;clear c b;go_wp2_with fail;refine(a7.out _ _ H.out.pr (by(try simp only[ae]);omega)).mono ?_;rintro q bp ⟨rfl,c,b⟩;have I:T (Bx w0 (M (O p1) n c1) tab a N (M f e g) (M (O d) 1 1) (h++(C)++(⟨#[40]⟩)) bp):=H.out.next G c b
  obtain⟨⟨r,s,t,u,w,x,y,z,A⟩,B⟩:=o.out _ _ I.out;clear c b;go_wp2_with fail;refine(a8.out _ _ I.out.pr (by(try simp only[ae]);omega)).mono ?_;rintro q br ⟨rfl,c,b⟩;have J:T (Bx w0 (M (O p1) n c1) tab a N (M f e g) (M (O d) 1 1) (h++(C)++(⟨#[40]⟩)++(X)) br):=I.out.next G c b
  obtain⟨⟨r,s,t,u,w,x,y,z,A⟩,B⟩:=o.out _ _ J.out;clear c b;go_wp2_with fail;refine(a9.out _ _ J.out.pr (by(try simp only[ae]);omega)).mono ?_;rintro q bs ⟨rfl,c,b⟩;have K:T (Bx w0 (M (O p1) n c1) tab a N (M f e g) (M (O d) 1 1) (h++(C)++(⟨#[40]⟩)++(X)++(⟨#[41]⟩)) bs):=J.out.next G c b
  obtain⟨⟨r,s,t,u,w,x,y,z,A⟩,B⟩:=o.out _ _ K.out;clear c b;go_wp2_with fail;go_end0
  refine⟨rfl,?_,K.out.kq⟩;have:=K.out.pr;simpa only[aB] using this
 ·have c2:(p==1)=false:=by simpa using b0
  have o:T (∀(h:ByteArray)(E:Z),Bx w0 (M (O p1) n c1) tab a N (M f e g) (M (O d) l p) h E->qp E a.heap.size N (M f e g) (M (O d) l p)/\E.cell? d=O (Q R (a5:Int))):=fun h E a0=>⟨a0.cells,a0.kid0 m.ks av⟩;have cl:=bu j 28 rfl;have cm:=bu j 29 rfl;have cq:=bu j 31 rfl;have cp:=bu j 30 rfl;have cr:=bu j 32 rfl;have cs:=bu j 33 rfl;have ct:=gE j 34 rfl;have a1:T (∀a:Z,Br S 138 #[cE N (M f e g) (M (O d) l p)] a fun q bl=>q= .returned (Q R (dy N.k N.op))/\A0 a.heap.size a bl):=fun a=>dA N _ _ a4 a;have cv:=m.cap;have cz:(1:Int)<=(l:Int):=by omega
  have cy:1<=l:=by omega
  have a6:=ar bt;have a7:T (Wr w0 (M (O p1) n c1) tab 81 _ (⟨#[40]⟩)):=fun af al am F=>az w0 _ af (⟨#[40]⟩) _ al am F;have a8:T (Wr w0 (M (O p1) n c1) tab 109 _ (X)):=bE (M (O (d.add 1)) (l-1) (p-1)) (m.ks.drop 1 _ (by have:=cd av;omega) (by omega));have a9:T (Wr w0 (M (O p1) n c1) tab 81 _ (⟨#[41]⟩)):=fun af al am F=>az w0 _ af (⟨#[41]⟩) _ al am F;have cf:=ar m;obtain⟨⟨r,s,t,u,w,x,y,z,A⟩,B⟩:=o.out _ _ a3.out;clear ap m bd bf bb b1 ce cc bw bx j a4;unfold cE at a1;generalize bj:dy N.k N.op=cF at *;clear bj;go_in;go_wp2_with fail;refine lc (a1.out _) fun bn a2=>?_;have L:T (Bx w0 (M (O p1) n c1) tab a N (M f e g) (M (O d) l p) h bn):=a3.out.below a2;obtain⟨⟨r,s,t,u,w,x,y,z,A⟩,B⟩:=o.out _ _ L.out;clear a2 b3 b4 b5 b6 b7 b8 b9 ca cb z0;go_wp2_with fail;refine(a6.out _ _ L.out.pr (by(try simp only[ae]);omega)).mono ?_;rintro q bo ⟨rfl,c,b⟩;have H:T (Bx w0 (M (O p1) n c1) tab a N (M f e g) (M (O d) l p) (h++(C)) bo):=L.out.next G c b
  obtain⟨⟨r,s,t,u,w,x,y,z,A⟩,B⟩:=o.out _ _ H.out;clear c b;go_wp2_with fail;refine(a7.out _ _ H.out.pr (by(try simp only[ae]);omega)).mono ?_;rintro q bp ⟨rfl,c,b⟩;have I:T (Bx w0 (M (O p1) n c1) tab a N (M f e g) (M (O d) l p) (h++(C)++(⟨#[40]⟩)) bp):=H.out.next G c b
  obtain⟨⟨r,s,t,u,w,x,y,z,A⟩,B⟩:=o.out _ _ I.out;clear c b;go_wp2_with fail;refine(a8.out _ _ I.out.pr (by(try simp only[ae]);omega)).mono ?_;rintro q br ⟨rfl,c,b⟩;have J:T (Bx w0 (M (O p1) n c1) tab a N (M f e g) (M (O d) l p) (h++(C)++(⟨#[40]⟩)++(X)) br):=I.out.next G c b
  obtain⟨⟨r,s,t,u,w,x,y,z,A⟩,B⟩:=o.out _ _ J.out;clear c b;go_wp2_with fail;refine(a9.out _ _ J.out.pr (by(try simp only[ae]);omega)).mono ?_;rintro q bs ⟨rfl,c,b⟩;have K:T (Bx w0 (M (O p1) n c1) tab a N (M f e g) (M (O d) l p) (h++(C)++(⟨#[40]⟩)++(X)++(⟨#[41]⟩)) bs):=J.out.next G c b
  obtain⟨⟨r,s,t,u,w,x,y,z,A⟩,B⟩:=o.out _ _ K.out;clear c b;go_wp2_with fail;go_end0
  refine⟨rfl,?_,K.out.kq⟩;have:=K.out.pr;simpa only[aB] using this
