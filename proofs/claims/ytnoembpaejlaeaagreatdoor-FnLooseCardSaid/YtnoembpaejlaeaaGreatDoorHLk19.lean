import Derived.Test.YtnoembpaejlaeaaGreatDoorRows
import Derived.LaidMore
import Derived.LaidSub
import Derived.OpenVars
import Derived.Stop.Joined
import Derived.Test.YtnoembpaejlaeaaGreatDoorHLk11
import Derived.Test.YtnoembpaejlaeaaGreatDoorHLk17
import Derived.Test.YtnoembpaejlaeaaGreatDoorHLk18
import Derived.Test.YtnoembpaejlaeaaGreatDoorHLk16
set_option linter.all false
set_option maxRecDepth 100000
set_option maxHeartbeats 12800000
open Option renaming some->O,none->Ax
open Bool renaming false->U,true->Y
open Go.Proofs.Tryz renaming prog->Z
open Go.Value renaming int->A0,slice->A5,string->B5,pointer->Ex,ownBlock->E2,string->F0
open Go.IntKind renaming i64->A2
open Go renaming undef->A3,World->B3,Value->B4,wpAnyH_ready->C2,grownBy_putObj'->E1,KeepsFrom->Fs,TypeId->F1
open Go.World renaming putObj_heap_other->A9,setCell->Ce
open Go.Obj renaming cells->B0
open Go.MakeChecks renaming laidMetH_plain->B1
open Go.RowKit renaming Below->B2
open ByteArray renaming empty->B6
open Go.AllReadyH renaming cons->B7,nil->Ck
namespace Go.Proofs.YtnoembpaejlaeaaGreatDoor
open Go.ChangeShapes Go.WideShapes Go.ChangeAt Go.WideMaps Go.WideElems Go.RowKit
variable{B a b base g gb i mb mg n p tab tv:Nat}{Br:Int->ByteArray->ByteArray}{E:Int->ByteArray}{I:Nat->Int->World->Prop}{S:Int->Nat->ByteArray}{T s:ByteArray}{W W' w:World}{fr:Nat×Nat}{l:Int}{out:List Tk}{st':List Int}{t:TypeId}
def E9{H:Type}{enc:F1×B4->H}{P:Program}{A:Nat->Bool}{u:Bool}{fuel:Nat}{e:F1}{cs:List B4}{d:List (List UInt8)}{p:List MemPlace}
  (ht:P.underlying t=O (.array n e)) (r:P.underlying e=O .string) (m:P.cellsOf e=1) (q:P.cellsOf t=n)
  (h:DataW.trod enc P w base A u fuel t cs=O (.agg (d.map λb=> .lit (.string b)),p)):cs=d.map λb=>F0 ⟨b.toArray⟩:=by
 obtain⟨B,E,rfl,f,x,z,s⟩:=DataW.trod_array ht h;simp only[jc,DataW.agg.injEq]at f;have y:d.length=n:=by have:=congrArg List.length f.1;simpa [z] using this
 apply List.ext_getElem (by simp[x,q,y]);intro a l C;have v:a<n:=by omega
 have g:=s a v;rw[m,sn,aA (by omega)]at g;obtain⟨i,j,k,_⟩:=DataW.trod_string r g;have o:cs[a]= .string i:=by
  have:((cs.drop a).take 1)[0]?=O (.string i):=by rw[j];rfl
  simpa [mJ,sj,aA l] using this
 have c:(B.map (·.1))[a]?=(d.map λb=>(DataW.lit (.string b):DataW H))[a]?:=by rw[f.1]
 rw[cH,cH,aA (by omega),aA (by omega)]at c;simp only[uL,fi]at c;rw[k]at c;simp only[DataW.lit.injEq,Lit.string.injEq]at c;rw[o,List.getElem_map,<-c]
def own:ownKnob Tryz.prog.godebug=Ax:=by kernel_rfl
def Iu:laidOutB Z=Y:=by kernel_rfl
def ap5(V:Array B4):List (List UInt8):=V.toList.map λa=>match a with| .string s=>s.data.toList|_=>[]
def Iv{c:String}{d:DataW Unit}{V:Array B4}(u:([(c,d)].all λx=>x.2.handleName?.isNone)=Y)
  (r:Tryz.prog.globalNamed c=O g) (k:(Tryz.prog.globals[g]?).map (·.type)=O t) (ht:Tryz.prog.underlying t=O (.array n 9)) (m:Tryz.prog.cellsOf 9=1) (o:Tryz.prog.cellsOf t=n)
  (p:d= .agg ((ap5 V).map λb=> .lit (.string b))) (l:(ap5 V).map (λb=>F0 ⟨b.toArray⟩)=V.toList) (h:laidMetH Z [(c,d)] W):∃tt fr,W.heap[g]?=O (.cells V tt fr):=by
 rw[B1 _ _ _ u]at h;obtain⟨B,⟨z,E,f,y,A,C,e,v,a,q,_,_⟩,_,_⟩:=h;obtain rfl:=bc (r.symm.trans e);obtain rfl:=bc (k.symm.trans v);subst p;have i:=E9 ht Tryz.underlying9 m o q;have j:f=V:=by
  apply Array.toList_inj.1;rw[i,l]
 simp only[World.var?,e,Bv]at a;split at a
 .rename_i w tt fr s;cases a;exact⟨tt,fr,by rw[<-j];exact s⟩
 .cases a
def ahI{a nm:String}{d:DataW Unit}{ms:Array (String×F1)}(n:([(a,DataW.iface nm d)].all λx=>x.2.handleName?.isNone)=Y)
  (m:Tryz.prog.globalNamed a=O g) (k:(Tryz.prog.globals[g]?).map (·.type)=O t) (ht:Tryz.prog.underlying t=O (.interface ms)) (h:laidMetH Z [(a,.iface nm d)] W):∃r q,W.cell? ⟨g,0,Ax⟩=O (.iface r q):=by
 rw[B1 _ _ _ n]at h;obtain⟨y,⟨v,A,f,u,w,z,b,o,p,l,_,_⟩,_,_⟩:=h;obtain rfl:=bc (m.symm.trans b);obtain rfl:=bc (k.symm.trans o);obtain⟨s,c,e,i,_,_⟩:=iface_of_trod ht l;refine⟨c,e,?_⟩;have:=World.var?_cell b p 0;rw[this];have j:f.toList[0]?=O (.iface c e):=by rw[i];rfl
 simpa using j
def anE:List Int:=[0,1,56,2,57,49,28,3,61,58,42,50,38,29,17,4,62,47,59,36,45,43,51,22,53,39,33,30,24,18,12,5,63,55,48,27,60,41,37,16,46,35,44,21,52,32,23,11,54,26,40,15,34,20,31,10,25,14,19,9,13,8,7,6]
def ap6:Tryz.prog.globalNamed "math/bits.deBruijn64tab" =O 11:=by kernel_rfl
def aq8:Tryz.prog.globalNamed "internal/strconv.uint64pow10" =O 9:=by kernel_rfl
def aq9:Tryz.prog.globalNamed "strconv.ErrSyntax" =O 6:=by kernel_rfl
def ara:Tryz.prog.globalNamed "strconv.ErrRange" =O 7:=by kernel_rfl
def arb:Tryz.prog.globalNamed "loop.example/warp/impl.wordTexts" =O 0:=by kernel_rfl
def arc:Tryz.prog.globalNamed "loop.example/warp/impl.markTexts" =O 2:=by kernel_rfl
def ard:Tryz.prog.globalNamed "loop.example/warp/impl.binaryTexts" =O 3:=by kernel_rfl
def akl(c:laidMetH Z [("loop.example/warp/impl.wordTexts",Rows.laid_loop_example_warp_impl_wordTexts)] W)(d:laidMetH Z [("loop.example/warp/impl.markTexts",Rows.laid_loop_example_warp_impl_markTexts)] W)(e:laidMetH Z [("loop.example/warp/impl.binaryTexts",Rows.laid_loop_example_warp_impl_binaryTexts)] W)(f:laidMetH Z [("strconv.ErrSyntax",Rows.laid_strconv_ErrSyntax)] W)(g:laidMetH Z [("strconv.ErrRange",Rows.laid_strconv_ErrRange)] W)(a:laidMetH Z [("internal/strconv.uint64pow10",Rows.laid_internal_strconv_uint64pow10)] W)(b:laidMetH Z [("math/bits.deBruijn64tab",Rows.laid_math_bits_deBruijn64tab)] W):Lay W:=by
 refine⟨⟨?_,?_,?_⟩,⟨?_,?_⟩,?_,?_⟩
 .exact Iv (V:=fp) (by kernel_rfl) arb (t:=127) (by kernel_rfl) Tryz.underlying127 (by kernel_rfl) (by kernel_rfl) rfl rfl c
 .exact Iv (V:=je) (by kernel_rfl) arc (t:=226) (by kernel_rfl) Tryz.underlying226 (by kernel_rfl) (by kernel_rfl) rfl rfl d
 .exact Iv (V:=lB) (by kernel_rfl) ard (t:=227) (by kernel_rfl) Tryz.underlying227 (by kernel_rfl) (by kernel_rfl) rfl rfl e
 .exact ahI (by kernel_rfl) aq9 (t:=247) (by kernel_rfl) Tryz.underlying247 f
 .exact ahI (by kernel_rfl) ara (t:=247) (by kernel_rfl) Tryz.underlying247 g
 .rw[B1 _ _ _ (by kernel_rfl)]at a;exact Lib.tabIs_of_head aq8 (t:=315) (by kernel_rfl) Tryz.underlying315 Tryz.underlying34 (by kernel_rfl) (by kernel_rfl) a
 .rw[B1 _ _ _ (by kernel_rfl)]at b;have h:laidMet Z [("math/bits.deBruijn64tab",Lib.tabData .u8 anE)] W:=b;exact(Lib.tabIs_of_head ap6 (t:=320) (by kernel_rfl) Tryz.underlying320 Tryz.underlying5 (by kernel_rfl) (by kernel_rfl) h).cell ap6 15 (by decide)
def anF(h:laidMetH Z [("math/bits.deBruijn32tab",Rows.laid_math_bits_deBruijn32tab),("math/bits.deBruijn64tab",Rows.laid_math_bits_deBruijn64tab),("internal/strconv.uint64pow10",Rows.laid_internal_strconv_uint64pow10),("strconv.ErrRange",Rows.laid_strconv_ErrRange),("strconv.ErrSyntax",Rows.laid_strconv_ErrSyntax),("loop.example/warp/impl.wordTexts",Rows.laid_loop_example_warp_impl_wordTexts),("loop.example/warp/impl.markTexts",Rows.laid_loop_example_warp_impl_markTexts),("loop.example/warp/impl.binaryTexts",Rows.laid_loop_example_warp_impl_binaryTexts)] W):Lay W:=
 akl (h.filter λa=>a.1== "loop.example/warp/impl.wordTexts") (h.filter λa=>a.1== "loop.example/warp/impl.markTexts") (h.filter λa=>a.1== "loop.example/warp/impl.binaryTexts") (h.filter λa=>a.1== "strconv.ErrSyntax") (h.filter λa=>a.1== "strconv.ErrRange") (h.filter λa=>a.1== "internal/strconv.uint64pow10") (h.filter λa=>a.1== "math/bits.deBruijn64tab")
def akm{H:Type}(x:Int×Int×Int):DataW H:= .agg [.lit (.int .i64 x.1),.lit (.int .i64 x.2.1),.lit (.int .i64 x.2.2)]
def ahJ(x:Int×Int×Int):List B4:=[A0 A2 x.1,A0 A2 x.2.1,A0 A2 x.2.2]
def ap7(l:List B4)(h:l.length=3):∃a b c,l=[a,b,c]:=by
 match l,h with
 |[a,b,c],_=>exact⟨a,b,c,rfl⟩
def akn{H:Type}{enc:F1×B4->H}{r:Nat->Bool}{m:Bool}{fuel:Nat}{l:List B4}{x:Int×Int×Int}{p:List MemPlace}(h:DataW.trod enc Z W base r m fuel 189 l=O (akm x,p)):l=ahJ x:=by
 have j:Tryz.prog.cellsOf 3=1:=by kernel_rfl
 have k:Tryz.prog.cellsOf 189=3:=by kernel_rfl
 obtain⟨w,y,z,v,a,e,b,c,d⟩:=Go.Deep.trod_struct3 Tryz.underlying189 h;rw[k]at e;obtain⟨s,t,u,rfl⟩:=ap7 l e;simp[j]at b c d;obtain⟨z0,f,n,_⟩:=Gw Tryz.underlying3 b;obtain⟨A,g,o,_⟩:=Gw Tryz.underlying3 c;obtain⟨B,i,q,_⟩:=Gw Tryz.underlying3 d;simp at f g i;subst f g i;unfold akm at a;rw[n,o,q]at a;simp at a;unfold ahJ;rw[a.1.1,a.1.2.1,a.1.2.2]
def Ga:∀(a:List (Int×Int×Int))(cs:List B4),cs.length=3*a.length->(∀i x,a[i]?=O x->(cs.drop (i*3)).take 3=ahJ x)->cs=a.flatMap ahJ
 |[],cs,b,_=>by simpa using b
 |x::a,cs,b,h=>by
  have c:=h 0 x rfl;simp only[Nat.zero_mul,jC]at c;have e:=Ga a (cs.drop 3) (by rw[ig,b];simp;omega) (λi f d=>by
   have:=h (i+1) f (by simpa using d);rw[List.drop_drop];rw[show(i+1)*3=3+i*3 by omega]at this;exact this)
  rw[Bq,<-e,<-c];exact(uH 3 cs).symm
def ahK:List (Int×Int×Int):=[(26,1,2),(10,2,3),(73,3,4),(74,3,4),(75,3,4),(76,3,4),(77,3,4),(78,3,4),(72,4,4),(68,5,6),(69,6,7),(67,7,8),(70,8,9),(71,8,9),(61,9,10),(62,9,10),(63,10,11),(64,10,11),(65,10,11),(66,10,11)]
def are:Tryz.prog.globalNamed "loop.example/warp/impl.powers" =O 1:=by kernel_rfl
def ako(h:laidMetH Z [("loop.example/warp/impl.powers",Rows.laid_loop_example_warp_impl_powers)] W):∃tt fr,W.heap[1]?=O (.cells J3 tt fr):=by
 rw[B1 _ _ _ (by kernel_rfl)]at h;obtain⟨E,⟨z,G,c,o,C,F,f,w,b,q,_,_⟩,_,_⟩:=h;obtain rfl:=bc (are.symm.trans f);obtain rfl:=bc ((show(Tryz.prog.globals[1]?).map (·.type)=O 190 by kernel_rfl).symm.trans w);have k:Tryz.prog.cellsOf 189=3:=by kernel_rfl
 have l:Tryz.prog.cellsOf 190=60:=by kernel_rfl
 have r:DataW.trod _ Z W _ _ _ o 190 c.toList=O (.agg (ahK.map akm),_):=q;obtain⟨j,B,_,i,v,A,s⟩:=DataW.trod_array Tryz.underlying190 r;simp only[jc,DataW.agg.injEq]at i;have m:c.toList=ahK.flatMap ahJ:=by
  refine Ga ahK _ (by rw[v,l];rfl) (λa x g=>?_);have u:a<20:=by have:=(List.getElem?_eq_some_iff.1 g).1;simpa [ahK] using this
  have e:=s a u;rw[k,aA (by omega)]at e;have d:(j.map (·.1))[a]?=(ahK.map akm)[a]?:=by rw[i.1]
  rw[cH,cH,aA (by omega),g]at d;simp only[uL,fi]at d;exact akn (x:=x) (p:=j[a].2) (by rw[e,<-d])
 have n:c=J3:=by
  apply Array.toList_inj.1;rw[m];rfl
 simp only[World.var?,f,Bv]at b;split at b
 .rename_i y tt fr t;cases b;exact⟨tt,fr,by rw[<-n];exact t⟩
 .cases b
end Go.Proofs.YtnoembpaejlaeaaGreatDoor
namespace Go.Proofs.YtnoembpaejlaeaaGreatDoor
open Go.RowKit Go.Maps Go.WideMaps
variable{B a b base g gb i mb mg n p tab tv:Nat}{Br:Int->ByteArray->ByteArray}{E:Int->ByteArray}{I:Nat->Int->World->Prop}{S:Int->Nat->ByteArray}{T s:ByteArray}{W W' w:World}{fr:Nat×Nat}{l:Int}{out:List Tk}{st':List Int}{t:TypeId}
section
variable {C : Cd} {E : Bs} {w w' W : World} {c c1 c2 c3 : Cr} {z k y n : Int}
end
def aez{ns:List Nd}(h:SzE ns E S i tab)(d:Szd ns)(ht:tab<=9000)(e:i<ns.length)(r:(ae ns i).k=7)
  (p:∀(z:Nat)(w:ByteArray),z<i->(ae ns z).k=7->w.size<=10->(Br z w).size+10000<=2000000*sN ns z) (m:ByteArray) (F:m.size<=10):(Dl ns E S Br (ae ns i) m tab).size+10000<=2000000*sN ns i:=by
 have s:=(jJ (d.nb i e)).1;have j:=λt q=>jj (d.nb i e) e t q;obtain⟨y,A,B,C,o⟩:=ag4 s r;obtain⟨n,b⟩:=j 0 (by omega);obtain⟨u,a⟩:=j 1 (by omega);have v:=h.e n b.lt;have x:=h.blk d ht (fx a.lt) a.len;unfold Dl;rw[b.id,a.id,d.at_ i e];simp only[ay];rcases bC (ae ns i).ks.length 3 with g|g
 .rw[ab g,Ad ns (by omega),b.id,a.id];show _+_+1+_+0+_<=_;omega
 .rw[aa (by omega),ag6 ns (by omega),b.id,a.id];obtain⟨l,c⟩:=j 2 (by omega);rw[c.id]at o⊢;by_cases f:(ae ns l).k=7
  .rw[ab f];have:=p l ⟨#[32,101,108,105,102,32]⟩ c.lt f (by show 6<=10;omega);show _+_+1+_+_+_<=_;omega
  .rw[aa f];have:=h.blk d ht (fx c.lt) c.len;rw[ay];show _+_+1+_+(6+_)+_<=_;omega
def ahL{ns:List Nd}{N:Nd}(h:nC ns N=Y):(nm0 N).size<=4000:=by
 unfold nm0;rw[aK];cases e:N.nm[0]? with
 |none=>show 0<=4000;omega
 |some a=>exact D4 h a (dz e)
def ah0{ns:List Nd}(h:SzE ns E S i tab)(d:Szd ns)(ht:tab<=9000)(b:i<ns.length)
  (L:(ae ns i).k=7->(Br (-1) ⟨#[105,102,32]⟩).size+10000<=2000000*sN ns i):(prS ns E S Br (ae ns i) tab).size+10000<=2000000*sN ns i:=by
 have f:=(jJ (d.nb i b)).1;have m:=λak ad=>jj (d.nb i b) b ak ad;have r:=λp o=>(h.kid d (ag _) b p o).1;have nm0:=ahL f;have an:=Kx (ae ns i).nm (D4 f);unfold prS;by_cases B:(ae ns i).k=1
 .rw[ab B];have:=h.blk d ht (ag _) b;omega
 rw[aa B];by_cases u:(ae ns i).k=2
 .rw[ab u,d.at_ i b];obtain⟨c,j⟩:=aa3 f u;have:=sL ns E (ae ns i).ks r;simp only[ay];split
  .show 4+_+0+_<=_;omega
  .rw[ay];show 4+_+(3+_)+_<=_;omega
 rw[aa u];by_cases v:(ae ns i).k=3
 .rw[ab v,d.at_ i b];obtain⟨c,j,q⟩:=D1 f v;obtain⟨g,a⟩:=m 0 (by omega);rw[rh ns c,a.id];have:=h.e g a.lt;simp only[ay];show 6+_+3+_+_<=_;omega
 rw[aa v];by_cases w:(ae ns i).k=4
 .rw[ab w,d.at_ i b];obtain⟨c,j,q⟩:=aa4 f w;obtain⟨g,a⟩:=m 0 (by omega);rw[rh ns c];rw[a.id]at j⊢;have:=h.bod d ht (fx a.lt) a.len j;simp only[ay];show 3+_+_+_<=_;omega
 rw[aa w];by_cases I:(ae ns i).k=5
 .rw[ab I,d.at_ i b,D0 ns (ae ns i).ks (ae ns i).n.toNat];have:=sL ns E ((ae ns i).ks.take (ae ns i).n.toNat) (λp o=>r p (Bz o));have:=sL ns E ((ae ns i).ks.drop (ae ns i).n.toNat) (λp o=>r p (List.mem_of_mem_drop o));simp only[ay];show _+3+_+_<=_;omega
 rw[aa I];by_cases J:(ae ns i).k=6
 .rw[ab J,d.at_ i b];obtain⟨c,j⟩:=F7 f (by omega);obtain⟨g,a⟩:=m 0 (by omega);rw[rh ns c,a.id];have:=h.e g a.lt;omega
 rw[aa J];by_cases x:(ae ns i).k=7
 .rw[ab x];exact L x
 rw[aa x];by_cases y:(ae ns i).k=8
 .rw[ab y,d.at_ i b];obtain⟨c,j,q⟩:=D2 f y;obtain⟨g,a⟩:=m 0 (by omega);obtain⟨A,l⟩:=m 1 (by omega);rw[Ad ns c,a.id,l.id];have:=h.e g a.lt;have:=h.blk d ht (fx l.lt) l.len;simp only[ay];show 6+_+1+_+_<=_;omega
 rw[aa y];by_cases z:(ae ns i).k=9\/(ae ns i).k=10
 .rw[ab z,d.at_ i b];have af:0<(ae ns i).ks.length/\(ae ns i).nm.length<=200:=by
   rcases z with e|e
   .obtain⟨c,j,q,K⟩:=aa5 f e;omega
   .obtain⟨c,j,q,K⟩:=Ii f e;omega
  obtain⟨A,l⟩:=m ((ae ns i).ks.length-1) (by omega);rw[aj0 ns af.1,l.id];have:=sL ns E ((ae ns i).ks.take ((ae ns i).ks.length-1)) (λp o=>r p (Bz o));have:=h.blk d ht (fx l.lt) l.len;have al:(if(ae ns i).k=9 then(⟨#[32,61,32]⟩:ByteArray) else⟨#[32,105,110,32]⟩).size<=4:=by
   split
   .show 3<=4;omega
   .show 4<=4;omega
  simp only[ay];show 4+_+_+_+1+_+_<=_;omega
 rw[aa z];by_cases C:(ae ns i).k=11
 .rw[ab C,d.at_ i b];show 5+_<=_;omega
 rw[aa C];by_cases F:(ae ns i).k=12
 .rw[ab F,d.at_ i b];show 4+_<=_;omega
 rw[aa F];by_cases G:(ae ns i).k=13
 .rw[ab G,d.at_ i b];have:=sL ns E (ae ns i).ks r;simp only[ay];split
  .show 6+0+_<=_;omega
  .rw[ay];show 6+(1+_)+_<=_;omega
 rw[aa G];by_cases s:(ae ns i).k=14
 .rw[ab s,d.at_ i b];obtain⟨c,j,q,K⟩:=aa6 f s;obtain⟨g,a⟩:=m 0 (by omega);obtain⟨A,l⟩:=m 1 (by omega);rw[Ad ns c,a.id,l.id];have:=h.blk d ht (fx a.lt) a.len;have:=h.blk d ht (fx l.lt) l.len;simp only[ay];show 4+_+7+_+1+_+_<=_;omega
 rw[aa s];by_cases t:(ae ns i).k=15
 .rw[ab t,d.at_ i b];obtain⟨c,j⟩:=D3 f t;obtain⟨g,a⟩:=m 0 (by omega);rw[rh ns c,a.id];have:=h.e g a.lt;simp only[ay];show 6+_+_<=_;omega
 rw[aa t];by_cases H:(ae ns i).k=16
 .rw[ab H,d.at_ i b];obtain⟨c,j⟩:=F7 f (by omega);obtain⟨g,a⟩:=m 0 (by omega);rw[rh ns c,a.id];have:=h.e g a.lt;simp only[ay];show 6+_+_<=_;omega
 rw[aa H,d.at_ i b];show 0+_<=_;omega
def ac4{ns:List Nd}(d:Szd ns)(o:∀i:Int,(ae ns i).n<=9223372036854775807):∀(f i tab:Nat),i<ns.length->tab+f<=8000->
  (AB ns f i tab).size+10000<=2000000*sN ns i/\(tK ns f i tab).size+10000<=2000000*sN ns i/\((ae ns i).k=7->∀w:ByteArray,w.size<=10->(zG ns f i w tab).size+10000<=2000000*sN ns i)
 |0,i,tab,g,ht=>by
  have:=d.at_ i g;refine⟨?_,?_,λ_ w _=>?_⟩;all_goals (first|(rw[AB];show 0+_<=_;omega)|(rw[tK];show 0+_<=_;omega)|(rw[zG];show 0+_<=_;omega))
 |f+1,i,tab,g,ht=>by
  have j:=λ(a e:Nat) (c:a<i) (p:e+f<=8000)=>ac4 d o f a e (by omega) p;have l:SzE ns (λk=>AB ns f k tab) (λk e=>tK ns f k e) i tab:=⟨λa c=>(j a tab c (by omega)).1,λa c=>(j a (tab+1) c (by omega)).2.1⟩;have m:(ae ns i).k=7->∀w:ByteArray,w.size<=10->(Dl ns (λk=>AB ns f k tab) (λk e=>tK ns f k e) (λk w=>zG ns f k w tab) (ae ns i) w tab).size+10000<=2000000*sN ns i:=λb w h=>
   aez l d (by omega) g b (λa w c b h=>(j a tab c (by omega)).2.2 b w h) w h
  refine⟨?_,?_,?_⟩
  .rw[AB];exact aha l d (by omega) g (o _)
  .rw[tK];exact ah0 l d (by omega) g (λb=>m b _ (by show 3<=10;omega))
  .intro b w h;rw[zG];exact m b w h
def abd{ns:List Nd}(d:Szd ns)(j:∀i:Int,(ae ns i).n<=9223372036854775807)(s:ns.length<=3000)(o:0<ns.length):(mC ns).size<=6000000000:=by
 unfold mC;rw[F6,List.map_map];have e:((ns.length:Int)-1)=((ns.length-1:Nat):Int):=by omega
 rw[e];have h:∀a∈(ae ns ((ns.length-1:Nat):Int)).ks,(tK ns ns.length a 0).size+10000<=2000000*sN ns a:=by
  intro a c;obtain⟨k,g,rfl⟩:=qF c;obtain⟨m,b⟩:=jj (d.nb _ (by omega)) (by omega) k g;rw[b.id];exact(ac4 d j ns.length m 0 b.len (by omega)).2.1
 have p:=aa2 ns (λa=>(tK ns ns.length a 0).size) 1 _ h (by omega);have q:=d.at_ (ns.length-1) (by omega);have r:=d.le ((ns.length-1:Nat):Int);have f:((ae ns ((ns.length-1:Nat):Int)).ks.map (ByteArray.size ∘ λl=>tK ns ns.length l 0++⟨#[10]⟩))=(ae ns ((ns.length-1:Nat):Int)).ks.map λa=>(tK ns ns.length a 0).size+1:=by
  apply List.map_congr_left;intro a c;simp only[Function.comp];rw[ay];rfl
 rw[f];omega
structure Mp (w0:B3) (p1:Addr) (n c1:Nat) (ns:List Nd):Prop where
 nds:eK w0 (.slice (O p1) n c1) ns
 cap:Do w0 p1 ns
 len:ns.length=n
 big:n<=3000
 sz:Szd ns
 n0:∀i:Int, -9223372036854775808<=(ae ns i).n
 n1:∀i:Int,(ae ns i).n<=9223372036854775807
abbrev vT(b:Addr)(n a:Nat):B4:= A5 (O b) n a
def OkB(a:B3)(i:Addr)(n l:Nat)(ns:List Nd)(f:Nat):Prop:=
 ∀(k tab:Nat)(j:ByteArray),k<f->(ae ns k).k=7->tab+f<=500000->∀{d c:Option Addr}{h g b e:Nat},NdR a i k (ae ns k) d h g c b e->Wr a (vT i n l) tab 100 #[pW a,jl (ae ns k) (A5 d h g) (A5 c b e),B5 j] (zG ns f k j tab)
structure OkA (w0:B3) (p1:Addr) (n c1:Nat) (ns:List Nd) (f:Nat):Prop where
 e:∀tab:Nat,tab+f<=500000->OkE w0 (vT p1 n c1) ns (λk=>AB ns f k tab) tab f
 s:apI w0 (vT p1 n c1) ns (λk t=>tK ns f k t) f
 b:OkB w0 p1 n c1 ns f
def OkA.zero(e:B3)(d:Addr)(n c:Nat)(ns:List Nd):OkA e d n c ns 0:=
 ⟨λ_ _ b _ _ _ a=>absurd a (by omega),λb _ _ _ a=>absurd a (by omega),λb _ _ a=>absurd a (by omega)⟩
section
variable {w0 : World} {p1 : Addr} {n c1 : Nat} {ns : List Nd} (M : Mp w0 p1 n c1 ns) {f : Nat} (A : OkA w0 p1 n c1 ns f)
def Wr.expr0(a:OkA w0 p1 n c1 ns f){q:Nat}(ht:tab+f<=500000)(i:q<f)(g:gw (ae ns q).k=Y):Wr w0 (vT p1 n c1) tab 98 #[pW w0,A0 A2 (q:Int),A0 A2 0] (AB ns f q tab):=
 λb c d h=>(a.e tab ht).zero q b c i g d h
def Wr.blk(a:Mp w0 p1 n c1 ns)(e:OkA w0 p1 n c1 ns f){q:Nat}(ht:tab+f<500000)(w:q<=f)(b:q<ns.length)(m:(ae ns q).k=1):Wr w0 (vT p1 n c1) tab 95 #[pW w0,A0 A2 (q:Int)] (Az (λk t=>tK ns f k t) (ae ns q).ks tab):=by
 intro g h i o;obtain⟨p,v⟩:=jJ (a.sz.nb q b);have j:=yF p m;refine aew w0 _ ns _ f e.s a.nds (by rw[a.len];have:=a.big;omega) q b (λx r=>?_) (by omega) tab ht g h i o;obtain⟨d,l,rfl⟩:=qF r;obtain⟨u,c⟩:=jj (a.sz.nb q b) b d l;have:=Kw _ 0 j d (by omega) (by omega);rw[c.id]at this⊢;exact⟨u,rfl,by have:=c.lt;omega,c.len,this⟩
def Wr.exs(b:OkA w0 p1 n c1 ns f)(ht:tab+f<=500000){a:List Int}(h:ahz ns f a)(j:a.length<=1048576)(v:B4)(l:dB w0 v a):Wr w0 (vT p1 n c1) tab 97 #[pW w0,v] (fc (a.map λk=>AB ns f k tab)):=
 λc d g i=>aev w0 _ v ns _ tab f (b.e tab ht) a l h j c d g i
def Wr.bod(a:Mp w0 p1 n c1 ns)(g:OkA w0 p1 n c1 ns f){q:Nat}(ht:tab+f<500000)(s:q<=f)(b:q<ns.length)(m:(ae ns q).k=36):Wr w0 (vT p1 n c1) tab 99 #[pW w0,A0 A2 (q:Int)] (E0 ns (λk t=>tK ns f k t) (ae ns q) tab):=by
 obtain⟨o,r⟩:=jJ (a.sz.nb q b);obtain⟨i,d,j,l⟩:=ag0 o m;obtain⟨v,c⟩:=jj (a.sz.nb q b) b 0 (by omega);obtain⟨_,_,_,_,_,_,h⟩:=yx a.nds a.cap b;have:=a.len;have:=a.big;have:=c.lt;unfold E0 EK;rw[c.id]at d⊢;refine abb a.nds a.cap a.len (by omega) (by omega) (by omega) h (.bod j ?_ i c.at_ (Wr.blk a g ht (by omega) c.len d));rcases l with e|e
 .exact .inl ⟨by omega,aa (by omega)⟩
 .refine .inr ⟨e,?_⟩;rw[ab e];cases (ae ns q).nm with
  |nil=>exact .inl ⟨rfl,rfl⟩
  |cons p u=>exact .inr ⟨Nat.succ_pos _,rfl⟩
def tj(e:Mp w0 p1 n c1 ns)(d:i<ns.length)(q:i<=f){m:Nat}(h:∀j,a<=j->j<a+m->gw (ae ns (dC (ae ns i) j)).k=Y)(r:a+m<=(ae ns i).ks.length):ahz ns f (((ae ns i).ks.drop a).take m):=by
 intro s o;obtain⟨j,l,c⟩:=gG o;rw[gC,ig]at l;rw[List.getElem_take,List.getElem_drop]at c;obtain⟨p,b⟩:=jj (e.sz.nb i d) d (a+j) (by omega);have g:=yH (N:=ae ns i) (j:=a+j) (by omega);rw[g,b.id]at c;have:=h (a+j) (by omega) (by omega);rw[b.id]at this;exact⟨p,c.symm,by have:=b.lt;omega,b.len,this⟩
end
section
variable {w0 : World} {p1 : Addr} {n c1 : Nat} {ns : List Nd} {f : Nat}
def Wr.bas(a:Mp w0 p1 n c1 ns)(b:OkA w0 p1 n c1 ns f){q:Nat}(ht:tab+f<=500000)(j:q<f)(l:q<ns.length)(h:gw (ae ns q).k=Y):Wr w0 (vT p1 n c1) tab 173 #[pW w0,A0 A2 (q:Int)] (IL ns (λk=>AB ns f k tab) q):=
 λc d g i=>af7 w0 _ ns _ tab f (b.e tab ht) a.nds (by rw[a.len];have:=a.big;omega) q j l h c d g i
def K8(c:Mp w0 p1 n c1 ns)(h:OkA w0 p1 n c1 ns f)(tab i:Nat)(ht:tab+f<500000)(bb:i<=f)(y:i<ns.length)(bs:gw (ae ns i).k=Y)(least:Int)(o:¬im (ae ns i).k (ae ns i).op<least):
  Wr w0 (vT p1 n c1) tab 98 #[pW w0,A0 A2 (i:Int),A0 A2 least] (prE ns (λq=>AB ns f q tab) (λq t=>tK ns f q t) (ae ns i) tab):=by
 have bA:=c.big;have b2:=c.len;obtain⟨s,b0⟩:=jJ (c.sz.nb i y);have p:=λu F=>jj (c.sz.nb i y) y u F;have a3:(ae ns i).k=31->1<=(ae ns i).op/\(ae ns i).op<=18:=λbo=>(oI s).2.2 bo;have bD:=aE bs;have b3:=Dm (ae ns i).k (ae ns i).op;obtain⟨bk,m,bn,bj,bh,bl,C⟩:=yx c.nds c.cap y;have d:=@ahy w0 p1 n c1 ns c.nds c.cap c.len (by omega) tab i (by omega) _ (by omega) a3 _ _ _ _ _ _ C;have a4:∀a9:ByteArray,((ae ns i).k=28\/(ae ns i).k=29\/(ae ns i).k=31)->Wr w0 (vT p1 n c1) tab 170 #[pW w0,jl (ae ns i) (A5 bk m bn) (A5 bj bh bl),B5 a9,A0 A2 (im (ae ns i).k (ae ns i).op)] (EJ ns (λq=>AB ns f q tab) (ae ns i) a9 (im (ae ns i).k (ae ns i).op)):=by
  intro a9 bE;obtain⟨g,e,x⟩:=oI s;obtain⟨a,b⟩:=p 0 (by omega);obtain⟨I,l⟩:=p 1 (by omega);have j:=jn 2 0 e 0 (by omega) (by omega);have r:=jn 2 0 e 1 (by omega) (by omega);have:=ac0 (ae ns i).k (ae ns i).op;have A:=b.lt;have bf:=l.lt;unfold EJ;rw[b.id]at j⊢;rw[l.id]at r⊢;exact akh (λJ K=>x (by omega)) C g b.at_ l.at_ (by omega) (λv d w z=>h.e tab (by omega) a _ v d (by omega) j (by unfold yw;split<;>omega) (by unfold yw;split<;>omega) w z) (λv d w z=>h.e tab (by omega) I _ v d (by omega) r (by omega) (by omega) w z)
 unfold prE;by_cases J:(ae ns i).k=28
 .rw[ab J];exact d (.inf (.inl ⟨J,rfl⟩) o (a4 _ (by omega)))
 rw[aa J];by_cases K:(ae ns i).k=29
 .rw[ab K];exact d (.inf (.inr ⟨K,rfl⟩) o (a4 _ (by omega)))
 rw[aa K];by_cases L:(ae ns i).k=31
 .rw[ab L];exact ahx (by omega) (by omega) a3 C L o (Ky (a3 L)) (a4 _ (by omega))
 rw[aa L];by_cases ad:(ae ns i).k=30
 .rw[ab ad];obtain⟨g,e,x⟩:=qk s;obtain⟨a,b⟩:=p 0 (by omega);have A:=b.lt;have b5:=b.len;unfold unB unS;rw[b.id]at e⊢;have au:=aq λv d w z=>h.e tab (by omega) a 11 v d (by omega) e (by omega) (by omega) w z;refine d (.nod (.inl ⟨ad,rfl⟩) o ?_);have:=x ad;by_cases a6:(ae ns i).op=21
  .rw[ab a6];exact d (.un (.inl ⟨a6,rfl⟩) g b.at_ au)
  rw[aa a6];by_cases a7:(ae ns i).op=22
  .rw[ab a7];exact d (.un (.inr (.inl ⟨a7,rfl⟩)) g b.at_ au)
  rw[aa a7];by_cases a8:(ae ns i).op=20
  .rw[ab a8];exact d (.un (.inr (.inr ⟨a8,rfl⟩)) g b.at_ au)
  rw[aa a8];refine Ee c.nds c.cap c.len (by omega) C (.neg g b.at_ (show _=_ by omega) ⟨by omega,?_⟩ au);unfold Dk;by_cases G:(ae ns a).k=30
  .by_cases av:(ae ns a).op=19
   .exact .inl ⟨G,.inl ⟨av,by rw[G,av];rfl⟩⟩
   .exact .inl ⟨G,.inr ⟨av,by simp[av]⟩⟩
  .exact .inr ⟨G,by simp[G]⟩
 rw[aa ad];by_cases a0:(ae ns i).k=32
 .rw[ab a0];obtain⟨g,e,x⟩:=oI s;obtain⟨a,b⟩:=p 0 (by omega);obtain⟨I,l⟩:=p 1 (by omega);have j:=jn 2 0 e 0 (by omega) (by omega);have r:=jn 2 0 e 1 (by omega) (by omega);have A:=b.lt;have bf:=l.lt;rw[b.id]at j⊢;rw[l.id]at r⊢;exact d (.idx a0 o g b.at_ l.at_ (Wr.bas c h (by omega) (by omega) b.len j) (Wr.expr0 h (by omega) (by omega) r))
 rw[aa a0];by_cases a1:(ae ns i).k=33
 .rw[ab a1];obtain⟨g,e,x⟩:=qk s;obtain⟨a,b⟩:=p 0 (by omega);have A:=b.lt;rw[b.id]at e⊢;exact d (.fld a1 o g b.at_ (Wr.bas c h (by omega) (by omega) b.len e))
 rw[aa a1];by_cases ao:(ae ns i).k=34
 .rw[ab ao];obtain⟨g,e⟩:=Ih s ao;obtain⟨a,b⟩:=p 0 (by omega);have j:=jn _ 0 e 0 (by omega) (by omega);have A:=b.lt;have ba:=tj c y bb (a:=1) (m:=(ae ns i).ks.length-1) (λu x bx=>jn _ 0 e u (by omega) (by omega)) (by omega);rw[db (by rw[ig];exact ag _)]at ba;rw[b.id]at j⊢;exact d (.cal ao o g b.at_ (Wr.bas c h (by omega) (by omega) b.len j) λbw bt=>Wr.exs h (by omega) ba (by rw[ig];omega) bw bt)
 rw[aa ao];by_cases ap:(ae ns i).k=35
 .rw[ab ap];have g:=DL s ap;refine d (.nod (.inr (.inl ⟨ap,rfl⟩)) o (aeg c.nds c.cap c.len (by omega) C.ks (by omega) λb6 bv=>?_));obtain⟨u,F,rfl⟩:=qF bv;obtain⟨H,B⟩:=p u F;have e:=acB _ 0 g u (by omega) (by omega);rw[B.id]at e⊢;refine⟨H,rfl,B.len,?_⟩;obtain⟨bd,b1⟩:=jJ (c.sz.nb H B.len);have a5:=λu F=>jj (c.sz.nb H B.len) B.len u F;have b4:=B.lt;unfold we;by_cases af:(ae ns H).k=41
  .obtain⟨a2,E,br⟩:=oI bd;obtain⟨a,b⟩:=a5 0 (by omega);obtain⟨I,l⟩:=a5 1 (by omega);have j:=jn 2 0 E 0 (by omega) (by omega);have r:=jn 2 0 E 1 (by omega) (by omega);have A:=b.lt;have bf:=l.lt;rw[b.id]at j⊢;rw[l.id]at r⊢;exact .inl ⟨af,a2,a,I,_,_,b.at_,l.at_,Wr.expr0 h (by omega) (by omega) j,Wr.expr0 h (by omega) (by omega) r,ab af⟩
  .obtain⟨a2,E,br⟩:=qk bd;obtain⟨a,b⟩:=a5 0 (by omega);have A:=b.lt;rw[aa af];rw[b.id]at E⊢;refine .inr ⟨a2,a,_,b.at_,Wr.expr0 h (by omega) (by omega) E,?_⟩;by_cases al:(ae ns H).k=42
   .exact .inl ⟨al,ab al⟩
   .exact .inr ⟨⟨af,al⟩,aa al⟩
 rw[aa ap];by_cases ar:(ae ns i).k=36
 .rw[ab ar];exact d (.fn ar o (Wr.bod c h ht bb y ar))
 rw[aa ar];by_cases ax:(ae ns i).k=37
 .rw[ab ax];obtain⟨g,e,x⟩:=qk s;obtain⟨a,b⟩:=p 0 (by omega);have A:=b.lt;rw[b.id]at e⊢;exact d (.one ax o g b.at_ (Wr.expr0 h (by omega) (by omega) e))
 rw[aa ax];exact d (.nod (.inr (.inr ⟨by omega,rfl⟩)) o λv d w z=>aea w0 _ _ _ _ v tab d w (by omega) (c.n0 i) (c.n1 i) (λ_=>aa0 (c.sz.nb i y)) z)
def aeA(a:Mp w0 p1 n c1 ns)(e:OkA w0 p1 n c1 ns f)(w:f<ns.length)(tab:Nat)(ht:tab+(f+1)<=500000):OkE w0 (vT p1 n c1) ns (λk=>AB ns (f+1) k tab) tab (f+1):=by
 intro k l g h x i t u j b;have v:=a.big;have z:=a.len;obtain⟨r,y⟩:=jJ (a.sz.nb k (by omega));have q:(ae ns k).k=31->1<=(ae ns k).op/\(ae ns k).op<=18:=λo=>(oI r).2.2 o;have p:AB ns (f+1) k tab=prE ns (λd=>AB ns f d tab) (λd s=>tK ns f d s) (ae ns k) tab:=by rw[AB]
 unfold jH at b⊢;simp only[p]at b⊢;by_cases c:im (ae ns k).k (ae ns k).op<l
 .rw[ab c]at b⊢;have A:=Dm (ae ns k).k (ae ns k).op;obtain⟨_,_,_,_,_,_,m⟩:=yx a.nds a.cap (show k<ns.length by omega);exact ahy a.nds a.cap a.len (by omega) (by omega) (by omega) q m (.par c (K8 a e tab k (by omega) (by omega) (by omega) i 0 (by omega))) g h j b
 .rw[aa c]at b⊢;exact K8 a e tab k (by omega) (by omega) (by omega) i l c g h j b
end
section
variable {w0 : World} {p1 : Addr} {n c1 : Nat} {ns : List Nd} {f : Nat}
def Eg(a:Mp w0 p1 n c1 ns)(h:OkA w0 p1 n c1 ns f)(tab i:Nat)(ht:tab+f<500000)(al:i<=f)(p:i<ns.length)(H:(ae ns i).k=7)(A:ByteArray){v u:Option Addr}{m x L ck:Nat}(R:NdR w0 p1 i (ae ns i) v m x u L ck):
  Wr w0 (vT p1 n c1) tab 100 #[pW w0,jl (ae ns i) (A5 v m x) (A5 u L ck),B5 A] (Dl ns (λq=>AB ns f q tab) (λq t=>tK ns f q t) (λq w=>zG ns f q w tab) (ae ns i) A tab):=by
 have af:=a.big;have ap:=a.len;obtain⟨I,ao⟩:=jJ (a.sz.nb i p);have r:=λJ G=>jj (a.sz.nb i p) p J G;obtain⟨K,ad,y,z,F⟩:=ag4 I H;obtain⟨C,c⟩:=r 0 (by omega);obtain⟨E,b⟩:=r 1 (by omega);have ar:=c.lt;have au:=b.lt;rw[c.id]at y;rw[b.id]at z;have o:=aq (Wr.expr0 h (tab:=tab) (by omega) (show C<f by omega) y);have l:=aq (Wr.blk a h ht (show E<=f by omega) b.len z);have B:=@abb w0 p1 n c1 ns a.nds a.cap a.len (by omega) tab i (by omega) _ (by omega) _ _ _ _ _ _ R;unfold Dl;rw[c.id,b.id];rcases bC (ae ns i).ks.length 3 with g|g
 .rw[ab g,show ∀s:ByteArray,s++B6=s from λs=>ByteArray.append_empty];exact B (.br2 (by omega) c.at_ b.at_ o l)
 .rw[aa (by omega)];obtain⟨j,d⟩:=r 2 (by omega);have wc:=d.lt;have av:=d.len;rw[d.id]at F⊢;by_cases e:(ae ns j).k=7
  .rw[ab e];exact Ee a.nds a.cap a.len (by omega) R (.bre (by omega) c.at_ b.at_ d.at_ o l ⟨by omega,e⟩ λ_ _ _ _ _ _ R=>h.b j tab _ (by omega) e (by omega) R)
  .rw[aa e,<-dh];exact Ee a.nds a.cap a.len (by omega) R (.br3 (by omega) c.at_ b.at_ d.at_ o l ⟨by omega,e⟩ (Wr.blk a h ht (show j<=f by omega) d.len (show(ae ns j).k=1 by omega)))
def ah1{N:Nd}(h:N.nm.length=1):N.nm[0]?=O (nm0 N):=by
 unfold nm0;rw[aK,aA (by omega)];rfl
def ah2(d:Mp w0 p1 n c1 ns)(h:OkA w0 p1 n c1 ns f)(tab i:Nat)(ht:tab+f<500000)(A:i<=f)(r:i<ns.length)(ba:jz (ae ns i).k=Y):
  Wr w0 (vT p1 n c1) tab 49 #[pW w0,A0 A2 (i:Int)] (prS ns (λq=>AB ns f q tab) (λq t=>tK ns f q t) (λ_ w=>Dl ns (λq=>AB ns f q tab) (λq t=>tK ns f q t) (λq w=>zG ns f q w tab) (ae ns i) w tab) (ae ns i) tab):=by
 have bb:=d.big;have bh:=d.len;obtain⟨s,bf⟩:=jJ (d.sz.nb i r);have v:=λp a6=>jj (d.sz.nb i r) r p a6;have a5:(ae ns i).ks.length<=1048576:=by omega
 obtain⟨_,_,_,_,_,_,a0⟩:=yx d.nds d.cap r;have l:=@abb w0 p1 n c1 ns d.nds d.cap d.len (by omega) tab i (by omega) _ (by omega) _ _ _ _ _ _ a0;have bd:=aE ba;have a3:∀k:Int,k=34->gw k=Y:=λk al=>by rw[al];rfl
 unfold prS;by_cases G:(ae ns i).k=1
 .rw[ab G];exact l (.blk G (Wr.blk d h ht A r G))
 rw[aa G];by_cases F:(ae ns i).k=2
 .rw[ab F];obtain⟨g,b⟩:=aa3 s F;by_cases y:(ae ns i).ks=[]
  .rw[ab y,show ∀B:ByteArray,B++B6=B from λB=>ByteArray.append_empty];exact l (.let0 b F (by rw[y];rfl))
  .rw[aa y];have o:=tj d r A (a:=0) (m:=(ae ns i).ks.length) (λp e z=>jn _ 0 g p (by omega) (by omega)) (by omega);rw[jC,db (ag _)]at o;exact l (.let1 b F (List.length_pos_iff.2 y) λx u=>Wr.exs h (by omega) o a5 x u)
 rw[aa F];by_cases J:(ae ns i).k=3
 .rw[ab J];obtain⟨g,b,e⟩:=D1 s J;obtain⟨a,c⟩:=v 0 (by omega);have C:=c.lt;rw[c.id]at b⊢;exact l (.cst J g e (ah1 e) c.at_ (Wr.expr0 h (by omega) (by omega) b))
 rw[aa J];by_cases K:(ae ns i).k=4
 .rw[ab K];obtain⟨g,b,e⟩:=aa4 s K;obtain⟨a,c⟩:=v 0 (by omega);have C:=c.lt;rw[c.id]at b⊢;exact l (.fns K g e (ah1 e) c.at_ (Wr.bod d h ht (by omega) c.len b))
 rw[aa K];by_cases L:(ae ns i).k=5
 .rw[ab L];obtain⟨g,b,e,z⟩:=ag3 s L;obtain⟨m,a8⟩:∃m:Nat,(ae ns i).n=(m:Int):=⟨(ae ns i).n.toNat,by omega⟩;have a9:(ae ns i).n.toNat=m:=by omega
  rw[a9]at e z⊢;have o:=tj d r A (a:=0) (m:=m) (λp au av=>alj _ 0 e p (by omega) (by omega)) (by omega);rw[jC]at o;have a4:=tj d r A (a:=m) (m:=(ae ns i).ks.length-m) (λp au av=>jn _ m z p (by omega) (by omega)) (by omega);rw[db (by rw[ig];exact ag _)]at a4;exact l (.set L (by omega) a8 (λx u=>Wr.exs h (by omega) o (by rw[gC];omega) x u) λx u=>Wr.exs h (by omega) a4 (by rw[ig];omega) x u)
 rw[aa L];by_cases ap:(ae ns i).k=6
 .rw[ab ap];obtain⟨g,b⟩:=F7 s (by omega);obtain⟨a,c⟩:=v 0 (by omega);have C:=c.lt;rw[c.id]at b⊢;exact l (.one ap g c.at_ (Wr.expr0 h (by omega) (by omega) (a3 _ b)))
 rw[aa ap];by_cases ad:(ae ns i).k=7
 .rw[ab ad];exact l (.iff ad (Eg d h tab i ht A r ad _ a0))
 rw[aa ad];by_cases af:(ae ns i).k=8
 .rw[ab af];obtain⟨g,b,e⟩:=D2 s af;obtain⟨a,c⟩:=v 0 (by omega);obtain⟨ak,j⟩:=v 1 (by omega);have C:=c.lt;have ax:=j.lt;rw[c.id]at b⊢;rw[j.id]at e⊢;exact l (.whl af g c.at_ j.at_ (Wr.expr0 h (by omega) (by omega) b) (Wr.blk d h ht (by omega) j.len e))
 rw[aa af];by_cases a2:(ae ns i).k=9\/(ae ns i).k=10
 .rw[ab a2];by_cases a1:(ae ns i).k=10
  .rw[aa (by omega)];obtain⟨g,b,e,z⟩:=Ii s a1;rw[g];have o:=tj d r A (a:=0) (m:=1) (λp au av=>by have al:p=0:=(by omega);subst al;exact b) (by omega);rw[jC]at o;obtain⟨ak,j⟩:=v 1 (by omega);have ax:=j.lt;show Wr _ _ _ _ _ (_++_++_++_++_++Az _ (ae ns (dC (ae ns i) 1)).ks tab);rw[j.id]at e⊢;exact l (.fr z (.inr ⟨a1,rfl,rfl⟩) g j.at_ (λx u=>Wr.exs h (by omega) o (by rw[gC];omega) x u) (Wr.blk d h ht (by omega) j.len e))
  .have ar:(ae ns i).k=9:=by omega
   rw[ab ar];obtain⟨g,b,e,z⟩:=aa5 s ar;obtain⟨k,a7⟩:∃k,(ae ns i).ks.length=k+1:=⟨(ae ns i).ks.length-1,by omega⟩;rw[show(ae ns i).ks.length-1=k by omega]at b e⊢;have o:=tj d r A (a:=0) (m:=k) (λp au av=>jn _ 0 b p (by omega) (by omega)) (by omega);rw[jC]at o;obtain⟨ak,j⟩:=v k (by omega);have ax:=j.lt;rw[j.id]at e⊢;exact l (.fr (by omega) (.inl ⟨ar,rfl,by omega⟩) a7 j.at_ (λx u=>Wr.exs h (by omega) o (by rw[gC];omega) x u) (Wr.blk d h ht (by omega) j.len e))
 rw[aa a2];by_cases an:(ae ns i).k=11
 .rw[ab an];exact l (.brk an)
 rw[aa an];by_cases ao:(ae ns i).k=12
 .rw[ab ao];exact l (.nxt ao)
 rw[aa ao];by_cases E:(ae ns i).k=13
 .rw[ab E];have g:=ag5 s E;by_cases y:(ae ns i).ks=[]
  .rw[ab y,show ∀B:ByteArray,B++B6=B from λB=>ByteArray.append_empty];exact l (.ret0 E (by rw[y];rfl))
  .rw[aa y];have o:=tj d r A (a:=0) (m:=(ae ns i).ks.length) (λp e z=>jn _ 0 g p (by omega) (by omega)) (by omega);rw[jC,db (ag _)]at o;exact l (.ret1 E (List.length_pos_iff.2 y) λx u=>Wr.exs h (by omega) o a5 x u)
 rw[aa E];by_cases H:(ae ns i).k=14
 .rw[ab H];obtain⟨g,b,e,z⟩:=aa6 s H;obtain⟨a,c⟩:=v 0 (by omega);obtain⟨ak,j⟩:=v 1 (by omega);have C:=c.lt;have ax:=j.lt;rw[c.id]at b⊢;rw[j.id]at e⊢;exact l (.try_ z H g c.at_ j.at_ (Wr.blk d h ht (by omega) c.len b) (Wr.blk d h ht (by omega) j.len e))
 rw[aa H];by_cases I:(ae ns i).k=15
 .rw[ab I];obtain⟨g,b⟩:=D3 s I;obtain⟨a,c⟩:=v 0 (by omega);have C:=c.lt;rw[c.id]at b⊢;exact l (.thr I g c.at_ (Wr.expr0 h (by omega) (by omega) b))
 rw[aa I,ab (by omega)];obtain⟨g,b⟩:=F7 s (by omega);obtain⟨a,c⟩:=v 0 (by omega);have C:=c.lt;rw[c.id]at b⊢;exact l (.dfr (show _=_ by omega) g c.at_ (Wr.expr0 h (by omega) (by omega) (a3 _ b)))
def ah3(d:Mp w0 p1 n c1 ns)(c:OkA w0 p1 n c1 ns f)(m:f<ns.length):OkA w0 p1 n c1 ns (f+1):=
 ⟨λb i=>aeA d c m b i,
  λj b e g o p i h a=>by
  simp only[tK]at a⊢;exact ah2 d c b j (by omega) (by omega) (by omega) p e g h a,
  λj b q o l i _ _ _ _ _ _ k e g h a=>by
  simp only[zG]at a⊢;exact Eg d c b j (by omega) (by omega) (by omega) l q k e g h a⟩
def okA(a:Mp w0 p1 n c1 ns):∀f,f<=ns.length->OkA w0 p1 n c1 ns f
 |0,_=>OkA.zero w0 p1 n c1 ns
 |f+1,h=>ah3 a (okA a f (by omega)) (by omega)
end
open Go.Lib (strCells strCells_length)
def Ix(T:ByteArray):strCells T=B8 (xj T.data.toList):=by
 unfold strCells B8 xj;rw[List.map_map];rfl
def aeB{a:Nat}(b:w.ownsRow base 5 1 (A5 (O ⟨g,0,Ax⟩) n a) n (strCells T)):
  (convert 22 9 (A5 (O ⟨g,0,Ax⟩) n a)).run Z w= .ok (B5 T) w:=by
 rw[Ix]at b;rw[oh b,zC]
def jk(ns:List Nd):ByteArray:=if(dD ns).1=0 then Hn ns else⟨#[]⟩
def Do.below{a:Addr}{i:Nat}{ns:List Nd}(h:Do w a ns)(k:eK w (A5 (O a) n i) ns)(l:B2 w.heap.size w W):Do W a ns:=by
 intro m b c d g f;obtain⟨p,j,q,o,e⟩:=k.get g;cases j;have:=ah l e.c8;rw[this]at f;obtain rfl:o= A5 c b.ks.length d:=by simpa using f
 exact h m b c d g e.c8
def abe{ns:List Nd}(h:(dD ns).1=0):0<ns.length/\ns.length<=3000/\(ae ns ((ns.length:Int)-1)).k=1:=by
 have e:=uw h;have:=e.len;unfold dD at h;by_cases b:iA ns=Y
 .rw[ab b]at h;exact absurd h (by decide)
 .have c:iA ns=U:=by simpa using b
  have d:=mj c;refine⟨by omega,by omega,?_⟩;by_cases a:(ns.getD (ns.length-1) Fi).k=1
  .unfold ae;rw[show((ns.length:Int)-1).toNat=ns.length-1 by omega];rw[aK,aA (by omega)]at a⊢;exact a
  .exact absurd (.inr (.inr a)) d
def Pr.new(a:B3)(b:B4):Pr a b B6 0 (a.alloc (B0 #[b,A5 Ax 0 0,A0 A2 0] 122)):=
 ⟨(ai _ a).alloc (ag _) _,A5 Ax 0 0,aB a _,eI _ _ _ _⟩
def Fa(w:B3)(f:Addr)(n c:Nat)(ns:List Nd)(h:eK w (A5 (O f) n c) ns)(b1:Do w f ns)(ap:ns.length=n)(d8:n<=1048576)(cq:∀N∈ns,kH N)(b2:∀N∈ns,ak4 N):
  Calls Z 25 #[.agg #[A5 (O f) n c]] w λe w'=>e= .returned (B5 (jk ns))/\B2 w.heap.size w w':=by
 have bD:∀u,B2 w.heap.size w (w.alloc u):=λu=>(ai _ w).alloc (ag _) u;have o:=Cn h b1 b2 ap;have bf:=λu=>DC (w.alloc u) (A5 (O f) n c) ns (h.below (bD u)) (by omega) cq;obtain⟨bo,a9⟩:=aF ((dD ns).1);obtain⟨k,bx⟩:=aF ((dD ns).2);rw[a9,bx]at bf;have G:=aq a9;clear h cq b2 ap a9 bx b1;go_in;go_wp2_with fail;have bn:=aB w (B0 #[A5 (O f) n c] 26);have c6:(w.alloc (B0 #[A5 (O f) n c] 26)).heap.size=w.heap.size+1:=de _ _;refine du (bf _) λw1 A=>?_;have F:=(A.block _ (by omega)).trans bn;have B:B2 w.heap.size w w1:=(bD _).trans (A.mono (by omega));clear bn A bf;by_cases z:bo=0
 .subst z;have a4:=dI F;have d9:=aj F;have cz:((0:Int)!=0)=U:=rfl;have al:B2 w1.heap.size w1 (w1.alloc (B0 #[A0 A2 0,A0 A2 k] 55)):=(ai _ w1).alloc (ag _) _;have l:B2 w.heap.size w (w1.alloc (B0 #[A0 A2 0,A0 A2 k] 55)):=B.trans (al.mono B.size);have J:(w1.alloc (B0 #[A0 A2 0,A0 A2 k] 55)).cell? ⟨w.heap.size,0,Ax⟩=O (A5 (O f) n c):=ah al a4;obtain⟨dc,cl,bh⟩:=abe G.out;have ap:=o.2.2.2;obtain⟨b,rfl⟩:∃b,n=b+1:=⟨n-1,by omega⟩;have ba:ae ns ((ns.length:Int)-1)=ae ns (b:Int):=by congr 1;omega
  rw[ba]at bh;obtain⟨dx,dg,d1,bs,j,bt,I⟩:=yx o.1 o.2.1 (show b<ns.length by omega);have a6:=(I.rd _ (l.trans (((ai _ _).alloc (ag _) (B0 #[A5 (O f) (b+1) c,A5 Ax 0 0,A0 A2 0] 122)).mono l.size))).c8;have d2:((b:Int)+1)-1=(b:Int):=by omega
  have ea:(0:Int)<=(b:Int):=by omega
  have eb:(b:Int)<(b:Int)+1:=by omega
  have p:Mp (w1.alloc (B0 #[A0 A2 0,A0 A2 k] 55)) f (b+1) c ns:=by
   refine⟨o.1.below l,o.2.1.below o.1 l,ap,by omega,ag2 G,λcd=>?_,λcd=>?_⟩;all_goals
    unfold ae;rw[aK];cases e:ns[cd.toNat]? with
    |none=>decide
    |some N=>have:=(o.2.2.1 N (dz e)).n;simp only[iu];omega
  have b5:=abd p.sz p.n1 (by omega) (by omega);have a0:=Pr.new (w1.alloc (B0 #[A0 A2 0,A0 A2 k] 55)) (A5 (O f) (b+1) c);have a1:=aq a0;have a5:((w1.alloc (B0 #[A0 A2 0,A0 A2 k] 55)).alloc (B0 #[A5 (O f) (b+1) c,A5 Ax 0 0,A0 A2 0] 122)).cell? ⟨w.heap.size,0,Ax⟩=O (A5 (O f) (b+1) c):=ah ((ai _ _).alloc (ag _) _) J;generalize cF:w1.alloc (B0 #[A0 A2 0,A0 A2 k] 55)=q at p a1 a0 a5 J a6 l al;have bl:=okA p ns.length (ag _);obtain⟨b8,c0⟩:=jJ (p.sz.nb b (by omega));have b0:=yF b8 bh;have bb:=I.hL;obtain⟨t,v⟩:=aF ((ae ns (b:Int)).ks);obtain⟨d,ao⟩:∃d,(t.map λa=>tK ns ns.length a 0++(⟨#[10]⟩:ByteArray))=d:=⟨_,rfl⟩;have b4:mC ns=jh d:=by unfold mC;rw[ba,v,ao]
  have ca:∀x∈t,∃g:Nat,x=(g:Int)/\g<ns.length/\jz (ae ns g).k=Y:=by
   intro x au;rw[<-v]at au;obtain⟨ce,cI,rfl⟩:=qF au;obtain⟨df,cb⟩:=jj (p.sz.nb b (by omega)) (by omega) ce cI;have:=Kw _ 0 b0 ce (by omega) (by omega);rw[cb.id]at this⊢;exact⟨df,rfl,cb.len,this⟩
  have b3:dB q (A5 bs j bt) t:=by rw[<-v];exact I.ks.below l
  have i:Hid (OkA q f (b+1) c ns ns.length/\dB q (A5 bs j bt) t/\(∀x∈t,∃g:Nat,x=(g:Int)/\g<ns.length/\jz (ae ns g).k=Y)/\t.length=j/\(t.map λa=>tK ns ns.length a 0++(⟨#[10]⟩:ByteArray))=d/\mC ns=jh d/\(mC ns).size<=6000000000/\ns.length<=3000/\d.length=j):=⟨bl,b3,ca,by rw[<-v];exact bb,ao,b4,b5,cl,by rw[<-ao,bi,<-v];exact bb⟩;have d4:j<=200:=by omega
  have ax:=aq l;subst cF;clear bl b8 b0 bb v ao b4 ca b3 b5 p a0 I ba dc cl bh c0 F al B c6 l;go_wp2_with fail;have bd:(w1.alloc (B0 #[A0 A2 0,A0 A2 k] 55)).heap.size=w1.heap.size+1:=de _ _;generalize w1.alloc (B0 #[A0 A2 0,A0 A2 k] 55)=q at a1 i ax J a5 a6 bd⊢;have a2:=aq bd;clear bd;go_loopw [25] (λbk wr=>∃a:Nat,a<=j/\bk= A0 A2 a/\Hid (Pr q (A5 (O f) (b+1) c) (jh (d.take a)) 0 wr)) (λbk _=>j-(intOf bk).toNat)
  case atStart=>exact⟨0,by omega,rfl,a1⟩
  case round=>
   clear a5 a6 J a4;obtain⟨a,d5,rfl,y⟩:=hrel;by_cases c4:a<j
   .obtain⟨x,ar⟩:=cA i.2.2.2.1 c4;obtain⟨g,rfl,b6,b7⟩:=i.2.2.1 x (dz ar);obtain⟨ds,rfl,cx⟩:=(i.2.1.below y.bel).get ar;have d7:(a:Int)<(j:Int):=by omega
    have d6:(0:Int)<=(a:Int):=by omega
    have b9:d[a]?=O (tK ns ns.length g 0++⟨#[10]⟩):=by rw[<-i.out.2.2.2.2.1,cH,ar];rfl
    have a7:=Ai d a _ b9;have a8:=ac1 d (a+1);have bv:=i.2.2.2.2.2.2.1;rw[i.out.2.2.2.2.2.1]at bv;rw[a7]at a8;simp only[ay]at a8;have au:(jh (d.take a)).size+((tK ns ns.length g 0).size+1)<=6000000000:=by
     have e:(⟨#[10]⟩:ByteArray).size=1:=rfl;omega
    have E:=i.1.s g 0 (jh (d.take a)) wr b6 b7 (by have:=i.2.2.2.2.2.2.2.1;omega) y (by show _+(tK ns ns.length g 0).size<=_;omega);have br:=aq a7;simp only at E;obtain⟨dq,bA⟩:=aF (tK ns ns.length g 0);rw[bA]at E br au;rw[a2.out]at E;clear a7 a8 bv ar b9 bA b6 b7;go_wp2_with fail;refine E.mono ?_;rintro e ec ⟨rfl,cp,c7⟩;have cr:=aq cp;clear cp c7 cx E;go_wp2_with fail;have cf:=gl q _ _ ⟨#[10]⟩ _ _ cr (by rw[ay];show _+_+1<=_;omega);rw[a2.out]at cf;refine cf.mono ?_;rintro e ed ⟨rfl,bj,c9⟩;rw[dh,<-br.out]at bj;have ct:=aq bj;clear bj c9;go_wp2_with fail;exact⟨⟨a+1,by omega,by go_num,ct⟩,by simp[intOf];omega⟩
   .obtain rfl:a=j:=by omega
    have ad:d.take a=d:=db (by rw[i.out.2.2.2.2.2.2.2.2];exact ag _);rw[ad,<-i.out.2.2.2.2.2.1]at y;have a3:B2 w.heap.size w wr:=ax.out.trans (y.bel.mono ax.size);obtain⟨u,af,r⟩:=y.row;have m:Hid (jk ns=if 65536<(mC ns).size then B6 else mC ns):=by show _=_;unfold jk Hn;rw[ab G.out]
    have cc:=i.2.2.2.2.2.2.1;obtain⟨D,L⟩:=aF (mC ns);rw[L]at r m cc;obtain⟨K,C⟩:=aF D.size;rw[C]at r m cc;obtain⟨cw,cy,rfl⟩:=bJ r;have dd:wr.cell? ⟨q.heap.size,1,Ax⟩=O (A5 cw K cy):=by rw[am _ _ _ _ _ _ af];rfl
    rw[a2.out]at dd;by_cases bE:65536<K
    .have H:Hid (jk ns=B6):=by show _=_;rw[m.out,ab bE]
     have A:(65536:Int)<(K:Int):=by omega
     clear ad L m r af C;go_wp2_with fail;go_ret;exact⟨by rw[H.out];rfl,a3⟩
    .have H:Hid (jk ns=D):=by show _=_;rw[m.out,aa bE]
     have A:¬(65536:Int)<(K:Int):=by omega
     rcases bB r with⟨z,e⟩|⟨d3,d0,e⟩
     .cases e;have cB:D=⟨#[]⟩:=by
       apply jD;have:D.data.size=0:=C;exact Array.eq_empty_of_size_eq_zero this
      have da:(convert 22 9 (A5 Ax 0 0)).run Z wr= .ok (B5 ⟨#[]⟩) wr:=by kernel_rfl
      clear ad L m r af C;go_wp2_with fail;go_ret;exact⟨by rw[H.out,cB];rfl,a3⟩
     .cases e;have da:=aeB r;clear ad L m af C;go_wp2_with fail;go_ret;exact⟨by rw[H.out];rfl,a3⟩
 .have cz:(bo !=0)=Y:=by rw[BB];exact z
  have a4:=dI F;have cu:Hid (jk ns=⟨#[]⟩):=by show _=_;unfold jk;rw[aa (by rw[G.out];exact z)]
  clear z;go_wp2_with fail;go_ret;exact⟨by rw[cu.out];rfl,B.trans (((ai _ w1).alloc (ag _) _).mono B.size)⟩
end Go.Proofs.YtnoembpaejlaeaaGreatDoor
namespace Go.Proofs.YtnoembpaejlaeaaGreatDoor
open Go.RowKit Go.Maps Go.WideMaps
variable{B a b base g gb i mb mg n p tab tv:Nat}{Br:Int->ByteArray->ByteArray}{E:Int->ByteArray}{I:Nat->Int->World->Prop}{S:Int->Nat->ByteArray}{T s:ByteArray}{W W' w:World}{fr:Nat×Nat}{l:Int}{out:List Tk}{st':List Int}{t:TypeId}
def fdK:List Int->List Int->Option (List Int)
 |st,[]=>O st
 |st,k::r=>if(dy st k).2=Y then fdK (dy st k).1 r else Ax
def ac5:∀(a b st:List Int),fdK st (a++b)=(fdK st a).bind λs=>fdK s b
 |[],b,st=>rfl
 |k::a,b,st=>by
  rw[ez,fdK,fdK];split
  .exact ac5 a b _
  .rfl
section
variable {tk : Nat → Tk} {n : Nat}
def ac6{t:Int}{j:Nat}(ht:(tk i).k=t):∀(f:Nat)(st:List Int)(c:Nat)(lo:List Int)(b:Bool)(l:Nat)(r:List Int)(m:Nat),gj f st t c=O (lo,O b,l)->D tk n m (st++r) i j->b=Y/\∃x,D tk n x (lo++r) (i+1) j
 |0,_,_,_,_,_,_,_,h,_=>by simp[gj]at h
 |f+1,[],_,_,_,_,_,_,h,_=>by simp[gj]at h
 |f+1,s::q,c,lo,b,l,r,m,h,d=>by
  by_cases w:s<100
  .obtain⟨rfl,e,_⟩:=ru h w;have e:b=decide (s=t):=by simpa using e
   cases d with
   |tok o u g a=>exact⟨by rw[e];exact bp (by rw[<-u,ht]),_,a⟩
   |exp o=>omega
  .cases d with
   |tok o=>omega
   |exp o u g a=>
    rw[ht]at g a;rcases lD h (by omega) with⟨p,v⟩|⟨p,_⟩
    .change D tk n _ ((xE s t).1++(q++r)) i j at a
     rw[<-cg]at a;exact ac6 ht f _ _ lo b l r _ v a
    .rw[p]at g;cases g
def ah4:∀(st:List Int)(m i j:Nat),D tk n m st i j->i<j->yd st->1<=(tk i).k->(tk i).k<=78->(dy st (tk i).k).2=Y/\∃e,D tk n e (dy st (tk i).k).1 (i+1) j
 |[],m,i,j,d,h,_,_,_=>by cases d;omega
 |s::r,m,i,j,d,h,l,o,p=>by
  have x:yd r:=λB z=>l B (dm _ z);by_cases v:s<100
  .cases d with
   |tok c g w a=>rw[lC v];exact⟨bp g.symm,_,a⟩
   |exp c=>omega
  .have y:=l s bg;by_cases b:(xE s (tk i).k).1=[]/\(xE s (tk i).k).2=Y
   .rw[pF (by omega) b];cases d with
    |tok c=>omega
    |exp c g w a=>rw[b.1]at a;exact ah4 r _ i j a h x o p
   .obtain⟨A,q,t,f,_⟩:=zl (by omega) y o p b;obtain⟨rfl,e,u⟩:=ac6 rfl 8 [s] 0 A q t r m f d;rw[pG (by omega) b f];exact⟨rfl,e,u⟩
def alq:∀(ks st:List Int)(i m j:Nat),D tk n m st i j->j=i+ks.length->yd st->(∀q k,ks[q]?=O k->(tk (i+q)).k=k/\1<=k/\k<=78)->∃st',fdK st ks=O st'
 |[],st,i,m,j,d,_,_,_=>⟨st,rfl⟩
 |k::ks,st,i,m,j,d,g,f,e=>by
  rw[bm]at g;obtain⟨b,l,o⟩:=e 0 k rfl;rw[gD]at b;obtain⟨c,p,a⟩:=ah4 st m i j d (by omega) f (by omega) (by omega);rw[b]at c a;rw[fdK,ab c];exact alq ks _ (i+1) p j a (by omega) (ry f l o) λq r h=>by
   have:=e (q+1) r h;rw[show i+1+q=i+(q+1) by omega];exact this
end
def Eh(s:Int):Bool:=s==129||s==130||s==123||s==126
def tmo:List Int->Bool
 |[]=>U
 |a::_=>decide (a<100/\a≠5)
def r5:List Int->Bool
 |[]=>U
 |s::r=>if s<100 then decide (s≠5) else if Eh s=Y then tmo r else !(xE s 5).2
def Adj:List Int->Prop
 |[]=>True
 |t::r=>(t<100->opn t=Y->r5 r=Y)/\(Eh t=Y->tmo r=Y)/\Adj r
def arf{s:Int}(h:Eh s=Y):xE s 5=([],Y)/\100<=s:=by
 unfold Eh at h;simp at h;rcases h with((rfl|rfl)|rfl)|rfl<;>decide
def arh:∀{r:List Int},tmo r=Y->(dy r 5).2=U
 |[],h=>by cases h
 |a::r,h=>by
  have:=aE h;rw[lC this.1];exact aD this.2
def ap8:∀{st:List Int},r5 st=Y->(dy st 5).2=U
 |[],h=>by cases h
 |s::r,h=>by
  rw[r5]at h;by_cases a:s<100
  .rw[ab a]at h;rw[lC a];exact aD (aE h)
  .rw[aa a]at h;by_cases b:Eh s=Y
   .rw[ab b]at h;have:=arf b;rw[pF this.2 (by rw[this.1];exact⟨rfl,rfl⟩)];exact arh h
   .rw[aa b]at h;have d:(xE s 5).2=U:=by simpa using h
    rw[dy,aa a,aa (λc=>by rw[d]at c;cases c.2)];rw[gj,aa a,aa (by rw[d];simp)]
def chA(s:Int):List Int->Bool
 |[]=>Y
 |a::L=>(!(decide (a<100)&&opn a)||(match L with|[]=>U|b::M=>if b<100 then decide (b≠5) else if Eh b=Y then(match M with|[]=>Eh s|c::_=>decide (c<100/\c≠5)) else !(xE b 5).2))&&(!(Eh a)||(match L with|[]=>Eh s|c::_=>decide (c<100/\c≠5)))&&chA s L
def akp:((List.range 34).all λs=>(List.range 78).all λt=>!(xE ((s:Int)+100) ((t:Int)+1)).2||chA ((s:Int)+100) (xE ((s:Int)+100) ((t:Int)+1)).1)=Y:=by decide+kernel
def anG{s t:Int}(c:100<=s)(d:s<=133)(e:1<=t)(f:t<=78)(h:(xE s t).2=Y):chA s (xE s t).1=Y:=by
 have b:=List.all_eq_true.1 akp (s-100).toNat (by rw[mI];omega);have a:=List.all_eq_true.1 b (t-1).toNat (by rw[mI];omega);rw[show(((s-100).toNat:Nat):Int)+100=s by omega,show(((t-1).toNat:Nat):Int)+1=t by omega,h]at a;exact a
def ac7{s:Int}{r:List Int}(j:Eh s=Y->tmo r=Y)(k:Adj r):∀(L:List Int),chA s L=Y->Adj (L++r)
 |[],_=>k
 |a::L,h=>by
  unfold chA at h;rw[bI,bI]at h;obtain⟨⟨b,d⟩,n⟩:=h;refine⟨λf l=>?_,λf=>?_,ac7 j k L n⟩
  .rw[bp f,l]at b;simp only[Bool.and_self,Bool.not_true,xH]at b;cases L with
   |nil=>cases b
   |cons c e=>
    simp only at b;show(if c<100 then decide (c≠5) else if Eh c=Y then tmo (e++r) else !(xE c 5).2)=Y;split
    .rename_i g;rw[ab g]at b;exact b
    .rename_i g;rw[aa g]at b;split
     .rename_i i;rw[ab i]at b;cases e with
      |nil=>exact j b
      |cons m e=>exact b
     .rename_i i;rw[aa i]at b;exact b
  .rw[f]at d;simp only[Bool.not_true,xH]at d;cases L with
   |nil=>exact j d
   |cons m L=>exact d
def K9{t:Int}(g:1<=t)(i:t<=78):∀(f:Nat)(st:List Int)(c:Nat)(lo:List Int)(b:Nat)(r:List Int),gj f st t c=O (lo,O Y,b)->yd st->Adj (st++r)->Adj (lo++r)/\(opn t=Y->r5 (lo++r)=Y)
 |0,_,_,_,_,_,h,_,_=>by simp[gj]at h
 |f+1,[],_,_,_,_,h,_,_=>by simp[gj]at h
 |f+1,s::q,c,lo,b,r,h,m,v=>by
  have w:yd q:=λa hx=>m a (dm _ hx);obtain⟨o,p,j⟩:=v;by_cases l:s<100
  .obtain⟨rfl,d,_⟩:=ru h l;have d:s=t:=aE (by simpa using d.symm);exact⟨j,λu=>o l (by rw[d];exact u)⟩
  .rcases lD h (by omega) with⟨k,e⟩|⟨k,_,e,_⟩
   .have n:=m s bg;have:=ac7 p j (xE s t).1 (anG (by omega) n g i k)
    change Adj ((xE s t).1++(q++r)) at this
    rw[<-cg]at this;refine K9 g i f _ _ lo b r e (λa hx=>?_) this;rcases List.mem_append.1 hx with hx|hx
    .exact(abI (by omega) n g i).1 a hx
    .exact w a hx
   .simp at e
def Ei{t:Int}(e:1<=t)(f:t<=78):∀(st:List Int),yd st->(dy st t).2=Y->Adj st->Adj (dy st t).1/\(opn t=Y->r5 (dy st t).1=Y)
 |[],_,h,_=>by simp[dy]at h
 |s::r,i,h,b=>by
  have n:yd r:=λk d=>i k (dm _ d);by_cases g:s<100
  .rw[lC g]at h⊢;have a:s=t:=aE h;exact⟨b.2.2,λm=>b.1 g (by rw[a];exact m)⟩
  .have j:=i s bg;by_cases c:(xE s t).1=[]/\(xE s t).2=Y
   .rw[pF (by omega) c]at h⊢;exact Ei e f r n h b.2.2
   .obtain⟨o,p,l,a,_⟩:=zl (by omega) j e f c;rw[pG (by omega) c a]at h⊢;simp only at h;subst h;exact K9 e f 8 [s] 0 o l r a (λk d=>by rw[List.mem_singleton.1 d];exact j) b
inductive Tks (T:ByteArray):List Wt->List Tk->Prop where
 |nil:Tks T [] []
 |tok {t:Wt}{l:List Wt}{X:Tk}{ts:List Tk}:t.k≠7->t.k≠5->Alo t.w t.k t.n t.x->X.k=t.k->X.n=t.n->X.x=t.x->T.extract X.f.toNat X.t.toNat=t.w->Tks T l ts->Tks T (t::l) (X::ts)
 |sep {t:Wt}{l:List Wt}{X:Tk}{ts:List Tk}:t.k=7->X.k=5->Tks T l ts->Tks T (t::l) (X::ts)
def Fb(t:Wt):Int:=if t.k=7 then 5 else t.k
def anH{o:Bool}{r:Nat}(h:Skp T o a r){st:List Int}(w:o=Y->(dy st 5).2=U):∀(f:Nat)(b:Int)(out:List Tk),T.size<f+a->∃i k,T.size<i+r/\tC T f st (blk T (T.size+1) a) b out=tC T i st (blk T (T.size+1) r) k out:=by
 induction h with
 |nil=>intro f b out j;exact⟨f,b,j,rfl⟩
 |@bl c n d e g=>
  intro f b out j;have m:c<T.size:=bq rfl (by have:=aE d;omega);rw[zE T c m d];exact g f b out (by omega)
 |@rem c n d e v g=>
  intro f b out j;rw[Dj T c d e];exact g f b out (by have:=vF T c d;omega)
 |@nl c n d e v g=>
  intro f b out j;have m:c<T.size:=bq e;obtain⟨s,t,l,u⟩:=alp e (.inl rfl);rw[ab rfl]at l;obtain⟨f,rfl⟩:∃q,f=q+1:=⟨f-1,by omega⟩;have p:xA T c=7:=by unfold xA;rw[ab s,l]
  obtain⟨i,k,x,y⟩:=g f (b+1) out (by omega);refine⟨i,k,x,?_⟩;rw[u,tC,aa (by omega),ab p,aa (by rw[w d];simp),t];exact y
def wk{q:Nat}{l:List Wt}(h:Rz T p l q):q=T.size->∀(f:Nat)(st:List Int)(b:Int)(out:List Tk)(st':List Int),T.size<f+p->yd st->Adj st->fdK st (l.map Fb)=O st'->
  ∃ts v,tC T f st (blk T (T.size+1) p) b out=(out++ts++[⟨6,(T.size:Nat),(T.size:Nat),v,0,⟨#[]⟩⟩],st', -1)/\Tks T l ts:=by
 induction h with
 |@nil p=>
  intro i f st b out st' F g m c;obtain rfl:=i;obtain⟨f,rfl⟩:∃d,f=d+1:=⟨f-1,by omega⟩;have G:st=st':=by simpa [fdK] using c
  refine⟨[],b,?_,.nil⟩;rw[ab8 T _ (ag _),tC,ab (ag _),dr,G]
 |@bl p q l e j u=>
  intro i f st b out st' F g m c;have ak:p<T.size:=bq rfl (by have:=aE e;omega);rw[zE T p ak e];exact u i f st b out st' (by omega) g m c
 |@rem p q l e j z u=>
  intro i f st b out st' F g m c;rw[Dj T p e j];exact u i f st b out st' (by have:=vF T p e;omega) g m c
 |@tok p a5 q t l e j z I ar au a2 u=>
  intro i f st b out st' F g m c;obtain⟨r,E,s,H,ao,ap⟩:=apF z I e j ar;have a3:=z.pos;have a4:=I.1;obtain⟨f,rfl⟩:∃d,f=d+1:=⟨f-1,by omega⟩;have ad:xA T p=t.k:=by unfold xA;rw[ab r,s]
  have A:=acs T p r;rw[s]at A;rw[dw,fdK,show Fb t=t.k by unfold Fb;rw[aa e]]at c;have o:(dy st t.k).2=Y:=by
   by_cases d:(dy st t.k).2=Y
   .exact d
   .rw[aa d]at c;cases c
  rw[ab o]at c;obtain⟨J,av⟩:=Ei A.1 A.2 st g o m;obtain⟨an,B,ax,a0⟩:=anH au (st:=(dy st t.k).1) (λd=>ap8 (av d)) f b (out++[⟨t.k,(p:Nat),((p+t.w.size:Nat):Int),b,t.n,t.x⟩]) (by omega);obtain⟨ts,v,K,L⟩:=u i an _ B _ st' ax (ry g A.1 A.2) J c;refine⟨⟨t.k,(p:Nat),((p+t.w.size:Nat):Int),b,t.n,t.x⟩::ts,v,?_,?_⟩
  .rw[ap,tC,aa (by omega),aa (by rw[ad];exact e),ad,show Kr st t.k=dy st t.k by unfold Kr;rw[ab (by omega)],ab o,ab r,E,H,ao,a0,K];simp
  .refine .tok e j z rfl rfl rfl ?_ L;simp only[lA];exact I.ext
 |@sep p q l a1 e j z u=>
  intro i f st b out st' F g m c;have ak:p<T.size:=bq e;obtain⟨r,E,s,H⟩:=alp e j;obtain⟨f,rfl⟩:∃d,f=d+1:=⟨f-1,by omega⟩;rw[dw,fdK,show Fb nlW=5 from rfl]at c;have o:(dy st 5).2=Y:=by
   by_cases d:(dy st 5).2=Y
   .exact d
   .rw[aa d]at c;cases c
  rw[ab o]at c;obtain⟨J,_⟩:=Ei (t:=5) (by decide) (by decide) st g o m;have af:∀(y:Tk)(B:Int),y.k=5->tC T (f+1) st p b out=tC T f (dy st 5).1 (blk T (T.size+1) (p+1)) B (out++[y])->∃ts v,tC T (f+1) st (blk T (T.size+1) p) b out=(out++ts++[⟨6,(T.size:Nat),(T.size:Nat),v,0,⟨#[]⟩⟩],st', -1)/\Tks T (nlW::l) ts:=λy B C G=>by
   obtain⟨ts,v,K,L⟩:=u i f _ B (out++[y]) st' (by omega) (ry g (by decide) (by decide)) J c;refine⟨y::ts,v,?_,.sep rfl C L⟩;rw[H,G,K];simp
  rcases j with rfl|rfl
  .rw[ab rfl]at s;have al:xA T p=7:=by unfold xA;rw[ab r,s]
   exact af ⟨5,(p:Nat),((dl T p).a:Nat),b,(dl T p).n,(dl T p).x⟩ (b+1) rfl (by rw[tC,aa (by omega),ab al,ab o,E])
  .rw[aa (by decide)]at s;have C:xA T p=5:=by unfold xA;rw[ab r,s]
   exact af ⟨5,(p:Nat),((dl T p).a:Nat),b,(dl T p).n,(dl T p).x⟩ b rfl (by rw[tC,aa (by omega),aa (by rw[C];decide),C,show Kr st 5=dy st 5 by unfold Kr;rw[ab (by decide)],ab o,ab r,E])
def akq{l:List Wt}(h:Rz T 0 l T.size)(d:fdK [100,6] (l.map Fb)=O st'):∃ts b,nD T=(ts++[⟨6,(T.size:Nat),(T.size:Nat),b,0,⟨#[]⟩⟩],st', -1)/\Tks T l ts:=by
 obtain⟨ts,b,c,a⟩:=wk h rfl (T.size+1) [100,6] 1 [] st' (by omega) (λf e=>by simp at e;omega) ⟨λa=>absurd a (by decide),by decide,λ_ a=>absurd a (by decide),by decide,trivial⟩ d;rw[eu]at c;exact⟨ts,b,c,a⟩
def Nd.bk(N:Nd):Nd:={N.bare with ks:=N.ks}
def Cm:∀(a:Fo),a.bare.sz=a.sz
 | .nil=>rfl
 | .cons N k r=>by rw[Fo.bare,Fo.sz,Fo.sz,Cm k,Cm r]
def Gb:∀(a:Fo)(b:Nat),a.bare.tops b=a.tops b
 | .nil,b=>rfl
 | .cons N k r,b=>by rw[Fo.bare,Fo.tops,Fo.tops,Cm k,Gb r]
def Aj:∀(a:Fo)(b:Nat),a.bare.flat b=(a.flat b).map Nd.bk
 | .nil,b=>rfl
 | .cons N k r,b=>by
  rw[Fo.bare,Fo.flat,Fo.flat,Cm,Gb,Aj k,Aj r,dK,dw];rfl
def sl(ns:List Nd)(a b:Nat):List Nd:=(ns.take b).drop a
def ah5(ns:List Nd){c:Nat}(f:a<=b)(e:b<=c)(g:c<=ns.length):sl ns a b++sl ns b c=sl ns a c:=by
 unfold sl;have d:ns.take c=ns.take b++(ns.take c).drop b:=by
  have:=uH b (ns.take c);rw[List.take_take,vv e]at this;exact this.symm
 conv=>rhs;rw[d]
 rw[List.drop_append_of_le_length (by rw[gC];omega)]
def anI{ns:List Nd}(h:i<ns.length):sl ns i (i+1)=[ae ns i]:=by
 unfold sl ae;rw[ie,aA h,List.drop_append_of_le_length (by rw[gC];omega),lr (by rw[gC];omega),lA,List.getD,aA h];rfl
structure Szk (ns:List Nd):Prop where
 at_:∀i:Nat,i<ns.length->∃a:Nat,a<=i/\ua (il ns) (ae ns i).ks.reverse i=O (a:Int)/\(il ns).getD i 0=(i:Int)-a+1
 root:(il ns).getD (ns.length-1) 0=(ns.length:Int)
def anJ{ns:List Nd}(h:(dD ns).1=0):Szk ns:=by
 have j:=uw h;have u:A4 (il ns):=xe ns λc b g f=>by
  obtain⟨a,i,r⟩:=gG b;exact(j.kid a c (by rw[aA i,r]) g f).1
 unfold dD at h;by_cases m:iA ns=Y
 .rw[ab m]at h;exact absurd h (by decide)
 rw[aa m]at h;obtain⟨n,s⟩:=aF (ic (fl ns) ns.length 0);rw[s]at h;cases n with
 |some a=>rw[tf2]at h;exact absurd h (by simp)
 |none=>
  rw[tf2]at h;obtain⟨o,l⟩:=aF (ic (fL (il ns)) ns.length 0);rw[l]at h;cases o with
  |some a=>rw[tf3]at h;exact absurd h (by simp)
  |none=>
   have t:=oC l;rw[tf3]at h;refine⟨λa i=>?_,?_⟩
   .have b:ns[a]?=O (ae ns a):=by
     unfold ae;rw[lA,List.getD,aA i];rfl
    generalize ae ns a=c at b;have e:=t a (aI _) (by omega);unfold fL at e;have d:=aa1 b;rw[d]at e;unfold qa at e d;cases hw:ua ((il ns).take a) c.ks.reverse a with
    |none=>rw[hw]at e;simp at e
    |some v=>
     rw[hw]at d;simp only at d;rw[D5 (il ns) a _ _ (λg f=>j.kid a c b g (by simpa using f))]at hw;have q:=aad u _ _ _ (λg f=>(j.kid a c b g (by simpa using f)).1) (by omega) hw;obtain⟨p,rfl⟩:=iw q.1;exact⟨p,by omega,hw,d⟩
   .by_cases k:(il ns).getD (ns.length-1) 0=(ns.length:Int)
    .exact k
    .rw[ab k]at h;exact absurd h (by simp)
def akr{ns:List Nd}(d:Wzd ns)(k:Szk ns):∀i:Nat,i<ns.length->∃a:Nat,a<=i/\(il ns).getD i 0=(i:Int)-a+1/\(Sh ns i).sz=i+1-a/\(Sh ns i).flat a=(sl ns a (i+1)).map Nd.bk/\(Sh ns i).tops a=[(i:Int)]:=by
 intro i
 induction i using Nat.strongRecOn with
 |_ i C=>
  intro g;obtain⟨a,n,c,y⟩:=k.at_ i g;have H:∀(e:List Int)(b:Nat)(a:Nat),b<=i->(∀h∈e,h∈(ae ns i).ks)->ua (il ns) e.reverse b=O (a:Int)->a<=b/\(ql (Sh ns) e).sz=b-a/\(ql (Sh ns) e).flat a=(sl ns a b).map Nd.bk/\(ql (Sh ns) e).tops a=e:=by
   intro e
   induction e using yk with
   |h0=>
    intro b a A _ c;have x:b=a:=by simp[ua]at c;omega
    subst x;refine⟨ag _,by simp[ql,Fo.sz],?_,rfl⟩;unfold sl;rw[lr (by rw[gC];omega)];rfl
   |h1 af h E=>
    intro b a A l c;rw[List.reverse_append,List.reverse_cons,List.reverse_nil,eu,uI,ua]at c;by_cases o:h=(b:Int)-1/\(il ns).getD h.toNat 0≠0
    .rw[ab o]at c;obtain⟨j,rfl,J,K,_⟩:=td d g (l h (by simp));obtain⟨f,L,q,r,s,t⟩:=C j J K;rw[show((j:Int)).toNat=j by omega,q,show(b:Int)-((j:Int)-f+1)=(f:Int) by omega]at c;obtain⟨u,m,v,w⟩:=E f a (by omega) (λI B=>l I (by simp[B])) c;have z:b=j+1:=by omega
     subst z;rw[Io,kI];refine⟨by omega,by rw[Fo.sz_app,m,r];omega,?_,?_⟩
     .rw[Fo.flat_app,m,v,show a+(f-a)=f by omega,s,<-dK,ah5 ns u (by omega) (by omega)]
     .rw[Fo.tops_app,m,w,show a+(f-a)=f by omega,t]
    .rw[aa o]at c;cases c
  obtain⟨ad,p,F,G⟩:=H _ i a (ag _) (λh l=>l) c;refine⟨a,n,y,?_,?_,?_⟩
  .rw[tD d g,di,p];omega
  .rw[tD d g,yh,F,G,<-ah5 ns n (Nat.le_succ i) (by omega),anI g,dK];rfl
  .rw[tD d g,Jg,p,show a+(i-a)=i by omega]
def aks{ns:List Nd}(h:(dD ns).1=0):(Sh ns ((ns.length-1:Nat):Int)).flat 0=ns.map Nd.bk:=by
 have a:=Ik h;have b:=anJ h;have i:=a.len;obtain⟨c,g,d,_,e,_⟩:=akr a b (ns.length-1) (by omega);have f:=b.root;rw[d]at f;obtain rfl:c=0:=by omega
 rw[e];unfold sl;rw[jC,db (by omega)]
section
variable {ns ms : List Nd} {M N : Nd}
def Ej(h:M.bk=N.bk):M.k=N.k/\M.op=N.op/\M.n=N.n/\M.x=N.x/\M.nm=N.nm/\M.ks=N.ks:=by
 have a:=congrArg Nd.k h;have b:=congrArg Nd.op h;have c:=congrArg Nd.n h;have d:=congrArg Nd.x h;have e:=congrArg Nd.nm h;have f:=congrArg Nd.ks h;exact⟨a,b,c,d,e,f⟩
def Iy(h:ms.map Nd.bk=ns.map Nd.bk)(i:Nat):(ms.getD i Fi).bk=(ns.getD i Fi).bk:=by
 have a:=congrArg (λb=>b[i]?) h;simp only[cH]at a;rw[aK,aK];cases h1:ms[i]?<;>cases h2:ns[i]?<;>rw[h1,h2]at a<;>simp_all
def Ek(h:ms.map Nd.bk=ns.map Nd.bk)(e:M.bk=N.bk)(j:Nat):fH ms M j=fH ns N j:=by
 unfold fH;rw[(Ej e).2.2.2.2.2];exact(Ej (Iy h _)).1
def alr(h:ms.map Nd.bk=ns.map Nd.bk)(e:M.bk=N.bk):∀f j,lE ms M f j=lE ns N f j
 |0,j=>rfl
 |f+1,j=>by rw[lE,lE,Ek h e,alr h e f]
def als(h:ms.map Nd.bk=ns.map Nd.bk)(e:M.bk=N.bk):∀f j,Kk ms M f j=Kk ns N f j
 |0,j=>rfl
 |f+1,j=>by rw[Kk,Kk,Ek h e,als h e f]
def alt(h:ms.map Nd.bk=ns.map Nd.bk)(e:M.bk=N.bk):∀f j,F3 ms M f j=F3 ns N f j
 |0,j=>rfl
 |f+1,j=>by rw[F3,F3,Ek h e,alt h e f]
def alu(h:ms.map Nd.bk=ns.map Nd.bk)(e:M.bk=N.bk):∀f j,Kd ms M f j=Kd ns N f j
 |0,j=>rfl
 |f+1,j=>by rw[Kd,Kd,Ek h e,alu h e f]
def ap9(h:ms.map Nd.bk=ns.map Nd.bk)(e:M.bk=N.bk):nC ms M=nC ns N:=by
 obtain⟨a,b,c,d,f,g⟩:=Ej e;unfold nC stB jg bF fE;simp only[Ek h e,alr h e,als h e,alt h e,alu h e,a,b,c,d,f,g]
def anK:∀(ns ms:List Nd),ms.map Nd.bk=ns.map Nd.bk->il ms=il ns:=by
 have g:∀(ns ms:List Nd)(a:List Int),ms.map Nd.bk=ns.map Nd.bk->ms.foldl (λa c=>a++[qa a a.length c.ks]) a=ns.foldl (λa c=>a++[qa a a.length c.ks]) a:=by
  intro ns
  induction ns with
  |nil=>intro ms a b;cases ms with
   |nil=>rfl
   |cons _ _=>simp at b
  |cons c ns f=>
   intro ms a b;cases ms with
   |nil=>simp at b
   |cons h ms=>
    obtain⟨d,e⟩:=kD b;rw[kF,kF,(Ej d).2.2.2.2.2];exact f ms _ e
 exact λns ms b=>g ns ms [] b
def anL(h:ms.map Nd.bk=ns.map Nd.bk):Ev ms=Ev ns:=by
 have b:ms.length=ns.length:=by simpa using congrArg List.length h
 unfold Ev;rw[b];generalize List.replicate ns.length (0:Int)=D;generalize ns.length=a
 induction a generalizing D with
 |zero=>rfl
 |succ a c=>rw[dpN,dpN,(Ej (Iy h a)).2.2.2.2.2];exact c _
def ac8{p:Nat->Bool}:∀{f j:Nat},(∀k,j<=k->k<j+f->p k=U)->ic p f j=Ax
 |0,j,_=>rfl
 |f+1,j,h=>by
  rw[ic,aa (by rw[h j (ag _) (by omega)];simp)];exact ac8 λk a b=>h k (by omega) (by omega)
def akt(h:ms.map Nd.bk=ns.map Nd.bk)(a:(dD ns).1=0)(p:∀N∈ms,0<=N.f/\N.f<=N.t/\0<=N.l):dD ms=(0,0):=by
 have j:ms.length=ns.length:=by simpa using congrArg List.length h
 have k:=Ik a;have u:ic (fl ms) ms.length 0=Ax:=ac8 λc _ i=>by
  have i:c<ms.length:=by omega
  have b:=k.nb c (by omega);have e:=Iy h c;have n:ae ns c=ns.getD c Fi:=by unfold ae;rw[lA,aK,aK,aA (by omega)];rfl
  rw[n]at b;have s:ms.getD c Fi∈ms:=by rw[aK,aA i];exact mw _
  have d:=p _ s;unfold fl;unfold jx at b⊢;rw[bI,bI]at b;have q:=aE b.1;have g:=(Ej e).2.2.2.2.2;have m:Kl (ms.getD c Fi)=Y:=bp ⟨d.1,d.2.1,d.2.2,by rw[g];exact q.2.2.2⟩;rw[m,g,b.2.1,ap9 h e,b.2.2];rfl
 have r:iA ms=iA ns:=by
  unfold iA;rw[j,(Ej (Iy h _)).1]
 unfold dD at a⊢;rw[r,u,anK ns ms h,anL h,j];by_cases b:iA ns=Y
 .rw[ab b]at a;exact absurd a (by decide)
 rw[aa b]at a⊢;cases hR:ic (fl ns) ns.length 0 with
 |some c=>rw[hR,tf2]at a;exact absurd a (by simp)
 |none=>
  rw[hR]at a;rw[tf2]at a⊢;cases hR2:ic (fL (il ns)) ns.length 0 with
  |some c=>rw[hR2,tf3]at a;exact absurd a (by simp)
  |none=>
   rw[hR2]at a;rw[tf3]at a⊢;split at a
   .exact absurd a (by simp)
   .rename_i o;rw[aa o];have:=agv a;rw[this];rfl
end
def ah6{S:List Int}(hS:A4 S)(b:S.length=n)(e:1<=n):S.getD (n-1) 0≠(n:Int)↔S.getD (n-1) 0<(n:Int):=by
 obtain⟨c,a⟩:=cA b (show n-1<n by omega);have d:=hS _ c a;rw[aK,a,iu];omega
def abf(x:ByteArray):xd x=decide (x=⟨#[]⟩):=by
 unfold xd;rw[gy];by_cases a:x=⟨#[]⟩
 .subst a;rfl
 .rw[aD a,aD];intro b;apply a;cases x;simp only at b
  congr 1
  exact Array.toList_inj.1 b
def xx(N:Nd):AI (oy N (fC N.k)) N=(match fC N.k with
  |0=>bF N U U U Y
  |1=>bF N U Y U U
  |2=>bF N U Y U U
  |3=>bF N U U Y U
  |4=>bF N Y U U U
  |5=>bF N Y U U Y&&(N.op==0||N.op==1)
  |_=>bF N U U U U):=by
 have p:∀(l m o:Bool)(P f g h:Prop) [Decidable P] [Decidable f] [Decidable g] [Decidable h],decide (P/\f/\g/\h)=(decide P&&decide f&&decide g&&decide h):=λl m o P f g h _ _ _ _=>by
  by_cases c:P<;>by_cases q:f<;>by_cases r:g<;>by_cases s:h<;>simp[c,q,r,s]
 have d:decide ((0:Int)=N.op)=(N.op==0):=by
  by_cases a:N.op=0
  .rw[bp a.symm,a];rfl
  .rw[aD (λb=>a b.symm)];exact(beq_eq_false_iff_ne.2 a).symm
 have j:decide ((0:Int)=N.n)=(N.n==0):=by
  by_cases a:N.n=0
  .rw[bp a.symm,a];rfl
  .rw[aD (λb=>a b.symm)];exact(beq_eq_false_iff_ne.2 a).symm
 have e:decide ((⟨#[]⟩:ByteArray)=N.x)=xd N.x:=by
  rw[abf];by_cases a:N.x=⟨#[]⟩
  .rw[bp a.symm,bp a]
  .rw[aD (λb=>a b.symm),aD a]
 have i:decide (([]:List ByteArray)=N.nm)=decide (N.nm.length=0):=by
  by_cases a:N.nm=[]
  .rw[bp a.symm,bp (by rw[a];rfl)]
  .rw[aD (λb=>a b.symm),aD (λb=>a (jK b))]
 unfold AI bF;rw[p Y Y Y];rcases Dw N.k with hc|hc|hc|hc|hc|hc|hc
 .rw[hc];simp only[oy,d,j,e];simp
 .rw[hc];simp only[oy,d,e,i];simp
 .rw[hc];simp only[oy,d,e,i];simp
 .rw[hc];simp only[oy,d,j,i];simp
 .rw[hc];simp only[oy,j,e,i];simp
 .rw[hc];simp only[oy,j,e];have b:decide ((if N.op=1 then(1:Int) else 0)=N.op)=(N.op==0||N.op==1):=by
   by_cases c:N.op=1
   .rw[ab c,c];rfl
   .rw[aa c,d];rw[beq_eq_false_iff_ne.2 c,Gl]
  rw[b];simp;cases (N.op==0||N.op==1)<;>cases (N.n==0)<;>cases xd N.x<;>rfl
 .rw[hc];simp only[oy,d,j,e,i];simp
def mG(ns:List Nd)(ks:List Int):(kinds ns ks).length=ks.length:=by simp[kinds]
def ah7(ns:List Nd)(N:Nd)(j:Nat)(h:j<N.ks.length):(kinds ns N.ks)[j]?=O (fH ns N j):=by
 unfold kinds fH;rw[cH,aA h];simp[List.getD,aA h]
def abg(a:List Int):ga [] a=a.isEmpty:=rfl
def ac9(i:Nat)(a:List Int):ga [(i,1)] a=a.all (ms i):=by
 rw[ga,aa (by omega),abg];have c:I1 i 1 a=(a.takeWhile (ms i)).length:=by unfold I1;rw[ab rfl]
 rw[c]
 induction a with
 |nil=>rfl
 |cons b e d=>
  cases h:ms i b with
  |false=>rw[Gg (by simp[h])];simp[h]
  |true=>
   rw[Gh (by simp[h]),Gx,h,gB,bm,List.drop_succ_cons];exact d (by unfold I1;rw[ab rfl])
def aqa(i f:Nat)(b:f≠1)(a:Int)(r:List Int):I1 i f (a::r)=if ms i a=Y then 1 else 0:=by
 unfold I1;rw[aa b];cases h:ms i a with
 |false=>rw[Gg (by simp[h])];simp
 |true=>rw[Gh (by simp[h]),bm,ab rfl];omega
def Iz(i:Nat)(b:List (Nat×Nat))(a:Int)(r:List Int):ga ((i,0)::b) (a::r)=(ms i a&&ga b r):=by
 rw[ga,aqa i 0 (by omega)];cases h:ms i a with
 |false=>simp
 |true=>simp
def ada(i:Nat)(a:List (Nat×Nat)):ga ((i,0)::a) []=U:=by
 rw[ga];simp[I1]
def an0(i:Nat)(b:List (Nat×Nat))(a:Int)(r:List Int):ga ((i,2)::b) (a::r)=if ms i a=Y then ga b r else ga b (a::r):=by
 rw[ga,aqa i 2 (by omega)];cases h:ms i a with
 |false=>simp
 |true=>simp
def aku(i:Nat)(a:List (Nat×Nat)):ga ((i,2)::a) []=ga a []:=by
 rw[ga];simp[I1]
def an1(n:Nat):∀(b:List Int),n<b.length->ga (E3 n) b=((b.take n).all (ms 5)&&(b.drop n).all (ms 3)):=by
 induction n with
 |zero=>
  intro b c
  match b,c with
  |a::d,_=>
   show ga ((3,0)::[(3,1)]) (a::d)=_;rw[Iz,ac9];simp
 |succ n e=>
  intro b c
  match b,c with
  |a::d,c=>
   show ga ((5,0)::E3 n) (a::d)=_;rw[Iz,e d (by simpa using c)];simp[Bool.and_assoc]
def sa(ns:List Nd)(N:Nd)(j:Nat)(h:j<N.ks.length):fH ns N j=(kinds ns N.ks).getD j 0:=by
 rw[aK,ah7 ns N j h];rfl
def zb(a:List Int)(p:Int->Bool)(f j:Nat)(h:j+(f+1)<=a.length):((a.drop j).take (f+1)).all p=(p (a.getD j 0)&&((a.drop (j+1)).take f).all p):=by
 have b:j<a.length:=by omega
 rw[lp b,List.take_succ_cons,Gx,aK,aA b];rfl
def abh(ns:List Nd)(N:Nd):∀(f j:Nat),j+f<=N.ks.length->lE ns N f j=(((kinds ns N.ks).drop j).take f).all gw
 |0,j,_=>by simp[lE]
 |f+1,j,h=>by
  rw[lE,abh ns N f (j+1) (by omega),zb _ _ _ _ (by rw[mG];exact h),sa ns N j (by omega)]
def ah8(ns:List Nd)(N:Nd):∀(f j:Nat),j+f<=N.ks.length->Kk ns N f j=(((kinds ns N.ks).drop j).take f).all jz
 |0,j,_=>by simp[Kk]
 |f+1,j,h=>by
  rw[Kk,ah8 ns N f (j+1) (by omega),zb _ _ _ _ (by rw[mG];exact h),sa ns N j (by omega)]
def ah9(ns:List Nd)(N:Nd):∀(f j:Nat),j+f<=N.ks.length->F3 ns N f j=(((kinds ns N.ks).drop j).take f).all tr
 |0,j,_=>by simp[F3]
 |f+1,j,h=>by
  rw[F3,ah9 ns N f (j+1) (by omega),zb _ _ _ _ (by rw[mG];exact h),sa ns N j (by omega)]
def aia(ns:List Nd)(N:Nd):∀(f j:Nat),j+f<=N.ks.length->Kd ns N f j=(((kinds ns N.ks).drop j).take f).all (ms 9)
 |0,j,_=>by simp[Kd]
 |f+1,j,h=>by
  rw[Kd,aia ns N f (j+1) (by omega),zb _ _ _ _ (by rw[mG];exact h),sa ns N j (by omega)];rfl
def akv(k:Int):ms 5 k=tr k:=by
 unfold ms tr;by_cases a:k=26<;>by_cases b:k=32<;>by_cases c:k=33<;>simp[a,b,c]
def wG(ns:List Nd)(N:Nd):Bool:=AI (oy N (fC N.k)) N&&(ffB N N.ks.length (fC N.k)&&kfB N (kinds ns N.ks))
theorem aqb(ns:List Nd)(N:Nd)(hk:N.k=3\/N.k=4\/N.k=6\/N.k=7\/N.k=8\/N.k=9\/N.k=10\/N.k=11\/N.k=12\/N.k=14\/N.k=15\/N.k=16\/N.k=20\/N.k=21\/N.k=22\/N.k=23\/N.k=24\/N.k=25\/N.k=26\/N.k=27\/N.k=28\/N.k=29\/N.k=30\/N.k=31\/N.k=32\/N.k=33\/N.k=36\/N.k=37\/N.k=40\/N.k=41\/N.k=42)(j:N.nm.length<=200):wG ns N=nC ns N:=by
 have a:=mG ns N.ks;have b:=sa ns N;have h:gw 1=U:=rfl;unfold wG kfB rkB;rw[xx];revert a b;generalize kinds ns N.ks=c;intro a b;rcases hk with hk|hk|hk|hk|hk|hk|hk|hk|hk|hk|hk|hk|hk|hk|hk|hk|hk|hk|hk|hk|hk|hk|hk|hk|hk|hk|hk|hk|hk|hk|hk;all_goals
  rcases c with _|⟨d,_|⟨e,_|⟨f,_|⟨g,_|⟨i,l⟩⟩⟩⟩⟩;all_goals
   simp at a;simp[nC,jz,stB,jg,fC,aa9,ffB,txB,DF,hk,<-a,b,lE,fE,Iz,ada,abg,an0,aku,ms]<;>grind
theorem aqc(ns:List Nd)(N:Nd)(hk:N.k=1\/N.k=2\/N.k=13\/N.k=34\/N.k=35)(j:N.nm.length<=200):wG ns N=nC ns N:=by
 have b:=mG ns N.ks;have e:=sa ns N 0;have d:=abh ns N N.ks.length 0 (by omega);have c:=ah8 ns N N.ks.length 0 (by omega);have a:=aia ns N N.ks.length 0 (by omega);have g:ms 0=jz:=rfl;have h:ms 3=gw:=rfl;rw[<-b]at d c a e;rw[jC,Bt]at d c a;unfold wG kfB rkB;rw[xx,<-b];revert b e d c a;generalize kinds ns N.ks=f;intro b e d c a;rcases hk with hk|hk|hk|hk|hk;all_goals
  rcases f with _|⟨i,l⟩;all_goals
   simp at b e;simp only[bm,Gx,ej,List.all_nil]at d c a;simp[nC,jz,stB,jg,fC,aa9,ffB,txB,DF,hk,d,c,a,g,h,<-b,e,fE,ac9,Iz,ada,abg,ms]<;>grind
theorem aqd(ns:List Nd)(N:Nd)(a:N.k=5)(e:N.nm.length<=200):wG ns N=nC ns N:=by
 have c:fC N.k=1:=by rw[a];rfl
 have d:nC ns N=(bF N U Y U U&&(decide (1<=N.n/\N.n<(N.ks.length:Int))&&(F3 ns N N.n.toNat 0&&lE ns N (N.ks.length-N.n.toNat) N.n.toNat))):=by
  unfold nC;rw[ab (by rw[a];rfl)];unfold stB;rw[aa (by rw[a];decide),aa (by rw[a];decide),aa (by rw[a];decide),aa (by rw[a];decide),ab a]
 unfold wG kfB;rw[xx,c,d,ab rfl];simp only[ffB];by_cases b:1<=N.n/\N.n<(N.ks.length:Int)
 .rw[bp b,gB,gB,an1 _ _ (by rw[mG];omega),ah9 ns N _ _ (by omega),abh ns N _ _ (by omega)]
  congr 1
  congr 1
  .rw[jC]
   congr 1
   funext k
   exact akv k
  .have:(kinds ns N.ks).drop N.n.toNat=((kinds ns N.ks).drop N.n.toNat).take (N.ks.length-N.n.toNat):=by
    rw[db (by rw[ig,mG];exact ag _)]
   rw[<-this];rfl
 .rw[aD b,fw,fw]
def an2(ns:List Nd)(N:Nd)(h:N.k ∉ nJ)(f:N.k≠5):wG ns N=nC ns N:=by
 have d:=(Ir N.k h).1;simp only[nJ,ij,mo,mu,not_or]at h;have e:jz N.k=U:=by unfold jz;exact aD (by omega)
 have b:nC ns N=U:=by
  unfold nC;rw[aa (by rw[e];decide)];unfold jg
  repeat rw[aa (by omega)]
 have a:fC N.k=6:=by
  unfold fC
  repeat rw[aa (by omega)]
 have c:rkB N.k (kinds ns N.ks)=U:=by unfold rkB;rw[d]
 unfold wG kfB;rw[b,a,aa (by decide),c,pf,pf]
def aib(ns:List Nd)(N:Nd)(a:N.nm.length<=200):wG ns N=nC ns N:=by
 by_cases b:N.k∈nJ
 .simp only[nJ,ij,mo,mu]at b;by_cases d:N.k=1\/N.k=2\/N.k=13\/N.k=34\/N.k=35
  .exact aqc ns N d a
  .exact aqb ns N (by omega) a
 .by_cases c:N.k=5
  .exact aqd ns N c a
  .exact an2 ns N b c
def abi(ns:List Nd)(N:Nd)(l:200<N.nm.length):nC ns N=U:=by
 have f:∀c d e,bF N c d e U=U:=λc d e=>by unfold bF;rw[aD (by omega)];simp
 have a:∀g b,b<=200->fE N g b=U:=λg b m=>by unfold fE;rw[aD (by omega)];rfl
 have h:=a 1 1 (by omega);have i:=a 1 2 (by omega);have j:=a 1 200 (by omega);have k:=a 0 200 (by omega);unfold nC;split
 .unfold stB;simp only[f,h,i,j,fw,pf];simp
 .unfold jg;simp only[f,k,fw,pf];simp
def akw(ns:List Nd)(i:Nat)(N:Nd):E6 ns i N=jx ns i N:=by
 unfold E6 jx;by_cases c:N.nm.length<=200
 .have d:E5 N=Kl N:=by
   unfold E5 Kl;by_cases a:0<=N.f/\N.f<=N.t/\0<=N.l/\N.ks.length<=200
   .rw[bp a,bp ⟨a.1,a.2.1,a.2.2.1,a.2.2.2,c⟩]
   .rw[aD a,aD (λb=>a ⟨b.1,b.2.1,b.2.2.1,b.2.2.2.1⟩)]
  have e:=aib ns N c;unfold wG at e;rw[d,<-e];generalize AI (oy N (fC N.k)) N=g;generalize I2 N.ks i N.ks.length 0=h;cases g<;>cases h<;>rfl
 .have d:E5 N=U:=by unfold E5;exact aD (λb=>c b.2.2.2.2)
  rw[d,abi ns N (by omega),fw,pf,pf]
attribute [local go_sem] lu
def IA{P:Program}{b:Array Oper}{Q:Exit->Act->B3->Prop}{id:Nat}{S:B3->Prop}{a:Act}(c:P.follows .mixedOrders=Y)(hS:S w.drew)
  (h:S w.drew->wpAnyH P .any b Q S b.size (Array.replicate b.size U) a w.drew):(Go.Code.region id b Y).wp P Q a w:=
 wp_region_any c (wpAny_of_held _ _ _ _ (h hS))
def aqe(h:(dl s p).ok=Y):(dl s p).d=if(dl s p).k=7 then 1 else 0:=by
 unfold dl at h⊢;split
 .simp only;unfold BH;cases hf:vz fp (s.extract p (qr s (s.size+1) p)) 22 0 with
  |none=>simp
  |some k=>simp only;rw[aa (by omega)]
 split
 .split
  .simp only;unfold tB;split
   .simp
   .split<;>simp
  .rename_i a b c;rw[aa a,ab b,aa c]at h;cases h
 split
 .split
  .simp
  .rename_i a b c e;rw[aa a,aa b,ab c,aa e]at h;cases h
 split
 .rename_i a b c e;rw[aa a,aa b,aa c,ab e]at h;cases h
 .rfl
section
variable {s : ByteArray} {R : List Tk × List Int × Int} {st stk : List Int} {p : Nat} {l : Int} {out : List Tk} {f : Nat}
end
def okO(o:Obj):Prop:=(∃b c,o= .map b c)\/(∃a t fr,o= B0 a t fr/\t≠81)
def qp(W b:B3):Prop:=∀(k:Nat)(a:Obj),okO a->W.heap[k]?=O a->b.heap[k]?=O a
def qp.cells(h:qp W W'){k:Nat}{cs:Array B4}(a:W.heap[k]?=O (B0 cs t fr))(ht:t≠81):W'.heap[k]?=O (B0 cs t fr):=h k _ (.inr ⟨_,_,_,rfl,ht⟩) a
def qp.row(h:qp W W'){e size:Nat}{v:B4}{xs:List B4}(a:W.ownsRow base e size v n xs)(g:e≠81):W'.ownsRow base e size v n xs:=by
 refine⟨a.1,?_⟩;rcases a.2 with f|⟨d,b,c,i,j,k,l⟩
 .exact .inl f
 .exact .inr ⟨d,b,c,i,j,h.cells k g,l⟩
def qp.of_gr(g:W.grownBy W' (O b))(j:ScX b W):qp W W':=by
 intro d q h a;obtain⟨l,o,f⟩:=j;refine(g.block d (aG a) ?_).trans a;intro e;obtain rfl:d=b:=by simpa using e
 rw[f]at a;obtain rfl:=bc a;rcases h with⟨n,k,c⟩|⟨m,r,p,c,i⟩
 .cases c
 .cases c;exact i rfl
def qp.of_put{l:Nat}{r:Loop}(c:W.heap[l]?=O (.loop r))(e:Obj):qp W (W.putObj l e):=by
 intro k m d a;refine(A9 ?_).trans a;rintro rfl;rw[c]at a;obtain rfl:=bc a;rcases d with⟨h,f,b⟩|⟨g,n,i,b,j⟩<;>cases b
def qp.of_putD{l:Nat}{q:Option (List Deferred)}(c:W.heap[l]?=O (.deferred q))(e:Obj):qp W (W.putObj l e):=by
 intro k m d a;refine(A9 ?_).trans a;rintro rfl;rw[c]at a;obtain rfl:=bc a;rcases d with⟨h,f,b⟩|⟨g,n,i,b,j⟩<;>cases b
def qp.of_below(h:B2 W.heap.size W W'):qp W W':=λb c _ a=>(h.block b (aG a)).trans a
def GQ.kept{st:List Int}(h:GQ W base gb mg st)(a:qp W W'):GQ W' base gb mg st:=by
 obtain⟨e,c,d⟩:=h.g.ex;exact⟨⟨⟨e,a.cells c (by decide),a.row d (by decide)⟩,h.g.lo⟩,h.r.same (λi f b=>a _ _ (.inl ⟨_,_,rfl⟩) b) (λk g j b=>a.cells b (by decide)),h.ok,h.len⟩
def GQ.same{st:List Int}(h:GQ W base gb mg st)(b:∀(k:Nat) (o:Obj),W.heap[k]?=O o->(∀cs fr,o≠ B0 cs 46 fr)->(∀cs fr,o≠ B0 cs 43 fr)->W'.heap[k]?=O o):GQ W' base gb mg st:=by
 obtain⟨p,i,d⟩:=h.g.ex;refine⟨⟨⟨p,b _ _ i (by intro cs fr a;cases a) (by intro cs fr a;cases a),d.1,?_⟩,h.g.lo⟩,h.r.same (λs q a=>b _ _ a (by intro cs fr a;cases a) (by intro cs fr a;cases a)) (λc cs fr a=>b _ _ a (by intro cs fr a;cases a) (by intro cs fr a;cases a)),h.ok,h.len⟩;rcases d.2 with g|⟨c,e,f,j,l,m,n⟩
 .exact .inl g
 .exact .inr ⟨c,e,f,j,l,b _ _ m (by intro cs fr a;cases a) (by intro cs fr a;cases a),n⟩
structure wn (w:B3) (base gb mg tv:Nat) (s:ByteArray) (st:List Int) (out:List Tk) (W:B3):Prop where
 q:GQ W base gb mg st
 bl:B2 base w W
 b0:W.heap[w.heap.size]?=O (.cells #[.pointer (O ⟨gb,0,Ax⟩)] 41 (0,0))
 b1:W.heap[w.heap.size+1]?=O (.cells #[.string s] 9 (0,0))
 tk:∃v,W.heap[tv]?=O (.cells #[v] 43 (0,0))/\W.ownsRow w.heap.size 46 6 v out.length (zm out)
def wn.kept{st:List Int}(h:wn w base gb mg tv s st out W)(a:qp W W')(b:B2 base W W'):wn w base gb mg tv s st out W':=by
 obtain⟨e,c,d⟩:=h.tk;exact⟨h.q.kept a,h.bl.trans b,a.cells h.b0 (by decide),a.cells h.b1 (by decide),⟨e,a.cells c (by decide),a.row d (by decide)⟩⟩
def wn.below{st:List Int}(h:wn w base gb mg tv s st out W)(a:B2 W.heap.size W W')(b:base<=W.heap.size):wn w base gb mg tv s st out W':=h.kept (.of_below a) (a.mono b)
def wn.turn{st:List Int}(h:wn w base gb mg tv s st out W)(k:GQ W' base gb mg st')(a:Gp gb W W')(i:B2 base W W')(r:gb<w.heap.size)(t:w.heap.size<tv):wn w base gb mg tv s st' out W':=by
 obtain⟨p,o,c⟩:=h.tk;obtain⟨u,j,_⟩:=h.q.g.ex;refine⟨k,h.bl.trans i,li a h.b0 (by omega),li a h.b1 (by omega),⟨p,li a o (by omega),c.1,?_⟩⟩;rcases c.2 with g|⟨f,d,e,l,m,b,n⟩
 .exact .inl g
 .refine .inr ⟨f,d,e,l,m,li a b ?_,n⟩;rintro rfl;rw[j]at b;cases b
def wn.setTok{d:Nat}{st:List Int}{cs:Array B4}(h:wn w base gb mg tv s st out W)(n:W.heap[d]?=O (B0 cs 46 fr))(l:∀v,W.heap[tv]?=O (B0 #[v] 43 (0,0))->v.ownBlock≠O d)(j:base<=d)(u:B4):wn w base gb mg tv s st out (W.setCell ⟨d,0,Ax⟩ u):=by
 have a:∀(e:Nat)(c:Obj),W.heap[e]?=O c->(∀cs fr,c≠ B0 cs 46 fr)->(W.setCell ⟨d,0,Ax⟩ u).heap[e]?=O c:=λe c a m=>(aC _ _ _ _ (by rintro rfl;rw[n]at a;exact m _ _ (bc a).symm)).trans a;obtain⟨v,f,o⟩:=h.tk;refine⟨h.q.same (λe c g i _=>a e c g i),h.bl.setCell j _,a _ _ h.b0 (by intro cs fr b;cases b),a _ _ h.b1 (by intro cs fr b;cases b),⟨v,a _ _ f (by intro cs fr b;cases b),?_⟩⟩;exact Bo o (row:=O d) ⟨rfl,rfl,rfl,by simp[Ce],λq p k=>aC _ _ _ _ (λb=>k (by rw[b]))⟩ (.inr (l v f))
def Iw.turn{q j:Nat}{i g:Int}{cs:Array B4}(h:Iw b mb B s I W q i p l)(c:W.heap[gb]?=O (B0 cs 75 fr))(d:Gp gb W W')(r:B2 base W W')(w:12<=base)(u:I j g W'):Iw b mb B s I W' q i j g:=by
 obtain⟨o,f⟩:=h.sc;have t:b≠gb:=by rintro rfl;rw[show W.heap[b]?=_ from f]at c;cases c
 refine⟨⟨o,li d f t⟩,?_,h.ly.blocks (λv x=>r.block v (by omega)),u,bG h.sz d.size⟩;obtain⟨n,k,a,m⟩:=h.mp;exact⟨n,k,(d.block _ (aG a) (by rintro rfl;rw[a]at c;cases c) (λcs fr e=>by rw[a]at e;cases e)).trans a,m⟩
def Iw.below{q i:Nat}{g f:Int}(h:Iw b mb B s I W q g p l)(a:B2 W.heap.size W W')(m:12<=B)(k:I i f W'):Iw b mb B s I W' q g i f:=by
 obtain⟨j,e⟩:=h.sc;have n:=h.sz;exact⟨⟨j,(a.block _ (aG e)).trans e⟩,h.mp.kept (row:=Ax) ⟨a.os,a.tape,a.output,a.size,λc d _=>a.block c d⟩ (by simp),h.ly.blocks (λc d=>a.block c (by omega)),k,bG h.sz a.size⟩
def Iw.put{L:Nat}{q:Nat}{e:Int}{r:Loop}(h:Iw b mb B s I W q e p l)(c:W.heap[L]?=O (.loop r))(o:Obj)(n:12<=L)(m:I p l (W.putObj L o)):Iw b mb B s I (W.putObj L o) q e p l:=by
 obtain⟨j,d⟩:=h.sc;have k:b≠L:=by rintro rfl;rw[show W.heap[b]?=_ from d]at c;cases c
 obtain⟨i,f,a,g⟩:=h.mp;exact⟨⟨j,(A9 k).trans d⟩,⟨i,f,(A9 (by rintro rfl;rw[c]at a;cases a)).trans a,g⟩,h.ly.blocks (λu t=>A9 (by omega)),m,by simpa using h.sz⟩
attribute [local go_sem] lu
structure LD (s:ByteArray) (R:List Tk×List Int×Int) (st stk:List Int) (p:Nat) (l:Int) (out:List Tk) (f:Nat):Prop where
 sim:Sim st stk
 wk:aq5 s f stk (blk s (s.size+1) p) l out R
 fu:s.size<blk s (s.size+1) p+f
 len:st.length<=45*p+2
 l0:0<=l
 l1:l<=(p:Int)+1
 le:p<=s.size
 ol:out.length<=p
section
variable {s : ByteArray} {R : List Tk × List Int × Int} {st stk : List Int} {p : Nat} {l : Int} {out : List Tk} {f : Nat}
def LD.move{q:Nat}(h:LD s R st stk p l out f)(a:blk s (s.size+1) p=blk s (s.size+1) q)(c:p<=q)(b:q<=s.size):LD s R st stk q l out f:=
 ⟨h.sim,by rw[<-a];exact h.wk,by rw[<-a];exact h.fu,by have:=h.len;omega,h.l0,by have:=h.l1;omega,b,by have:=h.ol;omega⟩
def LD.next(h:LD s R st stk p l out f)(ht:DB s p)(i:(dl s p).ok=Y){c:List Int}{b:List Tk}(w:s.size<p+1+g)(j:Sim st' c)(x:st'.length<=st.length+45)(y:b.length<=out.length+1)
  (k:tC s g c (blk s (s.size+1) (dl s p).a) (l+(dl s p).d) b=R):LD s R st' c (dl s p).a (l+(dl s p).d) b g:=by
 obtain⟨m,e,n,o⟩:=od s p ht.lt i;have v:=qg s (s.size+1) (dl s p).a e;have q:=h.len;have r:=h.l0;have t:=h.l1;have u:=h.ol;exact⟨j,⟨k⟩,by omega,by omega,by omega,by omega,e,by omega⟩
def LD.go(h:LD s R st stk p l out f)(A:R.2.2= -1)(ht:DB s p):(dl s p).ok=Y/\((dl s p).k=7/\tG st 5=U/\(∃g,LD s R st stk (dl s p).a (l+(dl s p).d) out g)\/
  ∃b,((dl s p).k=7/\b=5\/((dl s p).k==7)=U/\b=(dl s p).k)/\(1<=b/\b<=78)/\tG st b=Y/\∃o z g,passOk (st.length+45) z st b o/\LD s R o (dy stk b).1 (dl s p).a (l+(dl s p).d) (out++[⟨b,(p:Nat),((dl s p).a:Nat),l,(dl s p).n,(dl s p).x⟩]) g):=by
 have B:=Hm s p ht.nb ht.nd;have C:=h.fu;have v:=h.wk.out;rw[B]at C v;have E:=ht.lt;obtain⟨g,rfl⟩:∃g,f=g+1:=⟨f-1,by omega⟩;obtain⟨j,c⟩:=agF v A E;refine⟨j,?_⟩;have i:=aqe j;rcases c with⟨e,m,c⟩|⟨b,G,e,q,r,m,c⟩
 .rw[ab e]at i;exact .inl ⟨e,(h.sim.may (by decide) (by decide)).trans m,g,h.next ht j (by omega) h.sim (by omega) (by omega) (by rw[i];exact c)⟩
 .have t:=(h.sim.may q r).trans m;obtain⟨o,u,F⟩:=h.sim.passOk q r t;have y:G=l+(dl s p).d:=by
   rcases e with⟨a,_,w⟩|⟨a,_,w⟩
   .rw[ab a]at i;omega
   .rw[aa (by simpa using a)]at i;omega
  rw[y]at c;exact .inr ⟨b,e.imp (λx=>⟨x.1,x.2.1⟩) (λx=>⟨x.1,x.2.1⟩),⟨q,r⟩,t,o,_,g,u,h.next ht j (by omega) F (sH u) (by simp) c⟩
def LD.fin(h:LD s R st stk s.size l out f):R=(out++[⟨6,(s.size:Nat),(s.size:Nat),l,0,⟨#[]⟩⟩],stk, -1):=by
 have c:=ab8 s s.size (ag _);have d:=h.fu;have a:=h.wk.out;rw[c]at d a;obtain⟨b,rfl⟩:∃b,f=b+1:=⟨f-1,by omega⟩;rw[tC,ab (ag _)]at a;exact a.symm
end
def LD.begin(s:ByteArray):LD s (nD s) [100,6] [100,6] 0 1 [] (s.size+1):=
 ⟨adL,⟨rfl⟩,by omega,by simp,by omega,by omega,aI _,by simp⟩
def La{st c:List Int}{k tf tt tl tn:Int}{tx:ByteArray}{f:Nat}(h:GQ w base gb mb st)(t:1<=k)(u:k<=78)(o:tG st k=Y)(p:passOk (st.length+45) f st k c)(A:c.length<=99999000)(B:∀a∈c,0<=a/\a<=133):
  Calls Z 14 #[Ex (O ⟨gb,0,Ax⟩),.agg #[A0 A2 k,A0 A2 tf,A0 A2 tt,A0 A2 tl,A0 A2 tn,B5 tx],B5 s] w λe w'=>e= .returned (.tuple #[])/\GQ w' base gb mb c/\Gp gb w w'/\B2 base w w':=by
 have m:=dE w (B0 #[A0 A2 k,A0 A2 tf,A0 A2 tt,A0 A2 tl,A0 A2 tn,B5 tx] 46);have n:=aB w (B0 #[A0 A2 k,A0 A2 tf,A0 A2 tt,A0 A2 tl,A0 A2 tn,B5 tx] 46);have j:=h.below m;have I:gb<w.heap.size:=by obtain⟨K,z,_⟩:=h.g.ex;exact aG z
 have v:=j.may t u o;have J:=h.g.lo;have i:=gE n j;clear h n o j;go_in;go_wp2_with fail;refine v.mono ?_;rintro e l ⟨rfl,d⟩;have q:B2 w.heap.size w l:=m.trans (d.mono (by simp));have G:l.cell? ⟨w.heap.size,0,Ax⟩=O (A0 A2 k):=by rw[am _ _ _ _ _ _ ((d.block _ (aG i.1)).trans i.1)];rfl
 have b:=i.2.below d;have C:=age l base gb mb st k (st.length+45) f c b.g b.r b.ok (by omega) (by have:=b.len;omega) t u p;have H:IntKind.u8.wrap k=k:=by rw[abx];omega
 clear v b p d;go_wp2_with (go_at_call 32;refine C.mono ?_;rintro e L ⟨rfl,y,F,E,x⟩);go_end0
 exact⟨rfl,⟨y,F,B,A⟩,(Gp.of_below q).trans E,(q.mono (by omega)).trans x⟩
attribute [local go_sem] lu
def an4(W:B3)(b:Nat)(a c d e f g:B4):W.grownBy (six W b a c d e f g) (O b):=by
 unfold six;refine nI ?_ (pv _ b 5 _);refine nI ?_ (pv _ b 4 _);refine nI ?_ (pv _ b 3 _);refine nI ?_ (pv _ b 2 _);refine nI ?_ (pv _ b 1 _);exact pv _ b 0 _
def adb:(Tryz.prog.info? 46).map (λi=>(i.zero,i.size,i.bytes))=O (O (.agg #[A0 A2 0,A0 A2 0,A0 A2 0,A0 A2 0,A0 A2 0,B5 ⟨#[]⟩]),6,56):=by kernel_rfl
structure Ad1 (w:B3) (gb:Nat) (s:ByteArray) (b mb:Nat) (W:B3):Prop where
 bl:B2 w.heap.size w W
 b0:W.heap[w.heap.size]?=O (.cells #[.pointer (O ⟨gb,0,Ax⟩)] 41 (0,0))
 b1:W.heap[w.heap.size+1]?=O (.cells #[.string s] 9 (0,0))
 sc:ix b W s (.map (O mb)) 0 0 1 U
 mp:W.ownsMap Z 9 (plainElem (H:=Unit) Z 3) mb 22 (zi 22)
 lo:w.heap.size+2<=b
 ne:mb≠b
def amA(w:B3)(a b mb:Nat)(s:ByteArray)(l m c d e f g h i j k:B4):Act:={tmps:=#[Ex (O ⟨a,0,Ax⟩),B5 s,Ex (O ⟨w.heap.size,0,Ax⟩),Ex (O ⟨w.heap.size+1,0,Ax⟩),A5 Ax 0 0,Ex (O ⟨b,0,Ax⟩),l,m,B5 s,.map (O mb),.agg #[B5 s,.map (O mb),A0 A2 0,A0 A2 0,A0 A2 1,.bool U],c,d,e,f,g,h,i,j,k,A3,A3,A3,A3,A3,A3,A3,A3,A3,A3,A3,A3,A3,A3,A3,A3,A3,A3,A3,A3,A3,A3,A3,A3],defers:=[]}
def akx{α:Type}(Q:α->B3->Prop)(pre:List α)(W:B3):Prop:=∀a,pre.getLast?=O a->Q a W
def akx.mk{α:Type}{Q:α->B3->Prop}{pre:List α}{x:α}(h:Q x W):akx Q (pre++[x]) W:=λb a=>by rw[List.getLast?_concat]at a;cases a;exact h
def AmP(w:B3)(base d mb:Nat)(s:ByteArray)(e:Ending)(b:B3):Prop:=∃st stk a l c,nD s=(a++[⟨6,(s.size:Nat),(s.size:Nat),l,0,⟨#[]⟩⟩],stk, -1)/\Sim st stk/\e= .returned c/\b.ownsRow w.heap.size 46 6 c a.length (zm a)/\GQ b base d mb st/\st.length<=45*s.size+2/\a.length<=s.size/\B2 base w b
def Lb(w:B3)(base F bv:Nat)(s:ByteArray)(h:GQ w base F bv [100,6])(fz:Lay w)(kv:s.size<=65536)(hw:12<=base)(el:(nD s).2.2= -1):
  Calls Z 13 #[.pointer (O ⟨F,0,Ax⟩),.string s] w (AmP w base F bv s):=by
 obtain⟨tt,fr,cI⟩:=fz.tabs.word;have hJ:F<w.heap.size:=by obtain⟨L,o,_⟩:=h.g.ex;exact aG o
 have ku:=h.g.lo;refine mq (n:=5).1 ?_;refine callsIn_of_wp_marks Tryz.func13 rfl trivial ?_ rfl;simp only[Tryz.ntmps13,ir,bm,ej,Nat.reduceAdd,Nat.reduceSub,jb,jp,jq,pc,eu,ez];refine wpIn_seq_k (λj0 kp=>wpIn_wide.2 ?_);go_wp2_with fail;generalize f6:(w.alloc _).alloc _=au;obtain⟨f8,cb,ee,gu⟩:=Co f6;clear f6;refine wpIn_seq_k (λfb eh=>?_);have ei:∀(j r:Nat)(ar:B3),Ad1 w F s j r ar->fb (amA w F j r s A3 A3 A3 A3 A3 A3 A3 A3 A3 A3 A3) ar:=by
  intro j r ar x;refine eh _ _ ?_;clear eh;unfold amA;obtain⟨b,eF⟩:=aF ar.heap.size;have f5:=aG x.sc;have kr:=x.lo;refine wpIn_seq_k (λj1 ei=>wpIn_wide.2 ?_);go_wp2_with fail;refine wpIn_seq_k (λaf q=>?_);refine wpIn_seq_k (λj2 kq=>wpIn_wide.2 ?_);go_wp2_with fail;refine wpIn_block ?_;have cz:=dE ar (.cells #[.slice Ax 0 0] 43);have cB:=x.bl.alloc x.bl.size (.cells #[.slice Ax 0 0] 43);have eA:BI j _ s (.map (O r)) 0 1 U:=⟨0,(cz.block _ f5).trans x.sc⟩;have et:=x.mp.alloc (.cells #[.slice Ax 0 0] 43);have em:wn w base F bv b s [100,6] [] (ar.alloc (.cells #[.slice Ax 0 0] 43)):=
   ⟨h.below cB,cB.mono (by omega),(cz.block _ (aG x.b0)).trans x.b0,(cz.block _ (aG x.b1)).trans x.b1,⟨.slice Ax 0 0,by rw[<-eF];exact aB ar _,eI _ _ _ _⟩⟩
  have ek:=fz.below cB (ag _);have an:(ar.alloc (.cells #[.slice Ax 0 0] 43)).heap.size=b+1:=by simp;omega
  rw[eF]at f5;generalize ar.alloc (.cells #[.slice Ax 0 0] 43)=g8 at eA et em ek an⊢;have da:=x.ne;clear cz cB x eF;obtain⟨g7,fF⟩:=aF (nD s);have eo:=LD.begin s;have g6:=aq fF;rw[fF]at eo el;obtain⟨I,ad⟩:∃I:Nat->Int->B3->Prop,I=λp l a=>∃y z v B,LD s g7 y z p l v B/\wn w base F bv b s y v a:=⟨_,rfl⟩;have eg:Iw j r (b+1) s I g8 0 1 0 1:=⟨eA,et,ek,by rw[ad];exact⟨_,_,_,_,eo,em⟩,by omega⟩;have f1:∀p l a av,I p l a->ScX j a->a.grownBy av (O j)->I p l av:=by
   intro p l a av h ck o;rw[ad]at h⊢;obtain⟨y,z,v,B,g,m⟩:=h;exact⟨y,z,v,B,g,m.kept (.of_gr o ck) ⟨o.os,o.tape,o.output,by have:=m.bl.size;have:=o.size;have:=aG m.b0;omega,λdn er=>o.block dn (by have:=aG m.b0;omega) (by simp;omega)⟩⟩
  have fB:∀p e l a,blk s (s.size+1) p=blk s (s.size+1) e->p<=e->e<=s.size->I p l a->I e l a:=by
   intro p e l a hC ib k h;rw[ad]at h⊢;obtain⟨y,z,v,B,g,m⟩:=h;exact⟨y,z,v,B,g.move hC ib k,m⟩
  have fA:∀p l a,I p l a->0<=l/\l<=(p:Int)+1/\p<=s.size:=by
   intro p l a h;rw[ad]at h;obtain⟨y,z,v,B,g,m⟩:=h;exact⟨g.l0,g.l1,g.le⟩
  have dd:∀{a:B3}{e p:Nat}{e6 l:Int}{cn:Loop}(u:Obj),Iw j r (b+1) s I a e e6 p l->a.heap[b+1+1]?=O (.loop cn)->Iw j r (b+1) s I (a.putObj (b+1+1) u) e e6 p l:=by
   intro a e p e6 l cn u h ak;refine h.put ak u (by omega) ?_;have K:=h.ii;rw[ad]at K⊢;obtain⟨y,z,v,B,g,m⟩:=K;refine⟨y,z,v,B,g,m.kept (.of_put ak u) ?_⟩;exact(ai base a).grown (E1 a (b+1+1) u) (by have:=h.sz;omega) (λi6 d=>by cases d;omega)
  refine aaf (P:=Z) (α:=Nat×Int) (n:=5) (gf:=29) (bd:=#[.pointer (O ⟨j,0,Ax⟩)]) rfl (enters_of Tryz.func29 (by kernel_rfl) rfl) (λc=>#[vTk ⟨(dl s c.1).k,(c.1:Int),((dl s c.1).a:Int),c.2,(dl s c.1).n,(dl s c.1).x⟩]) (λ_=>rfl)
   (λ_ c a=>DB s c.1/\Iw j r (b+1) s I a (dl s c.1).a (c.2+(dl s c.1).d) c.1 c.2)
   (akx λc a=>Iw j r (b+1) s I a (dl s c.1).a (c.2+(dl s c.1).d) (dl s c.1).a (c.2+(dl s c.1).d))
   (λ_ c d6 a=>(DB s c.1/\Iw j r (b+1) s I a (dl s c.1).a (c.2+(dl s c.1).d) c.1 c.2)/\∃E,b+1<=E/\(∀L,a.heap[b]?=O (.cells #[L] 43 (0,0))->L.ownBlock≠O E)/\fe E a (dl s c.1).k (c.1:Int) ((dl s c.1).a:Int) c.2 (dl s c.1).n (dl s c.1).x/\
    d6=amA w F j r s (.pointer (O ⟨b,0,Ax⟩)) (.pointer (O ⟨E,0,Ax⟩)) (.func (.func 29) #[.pointer (O ⟨j,0,Ax⟩)] #[]) (vTk ⟨(dl s c.1).k,(c.1:Int),((dl s c.1).a:Int),c.2,(dl s c.1).n,(dl s c.1).x⟩) A3 A3 A3 A3 A3 A3 A3)
   (λa=>∃l,Iw j r (b+1) s I a s.size l s.size l)
   ?pZ ?pAx ?pD (λ_ _ _ c ck=>by cases ck) ?assign ?body ?seq ?done
  case pZ=>
   rintro pre a cn u h ak c ck;rw[an]at ak⊢;exact dd u (h c ck) ak
  case pAx=>
   rintro pre c d6 a cn u ⟨⟨g,bb⟩,E,ed,c7,fm,hp⟩ ak;rw[an]at ak⊢;exact⟨⟨g,dd u bb ak⟩,E,ed,λL bt=>c7 L ((A9 (by omega)).symm.trans bt),(A9 (by rintro rfl;have:=(show a.heap[b+1+1]?=_ from fm).symm.trans ak;cases this)).trans fm,hp⟩
  case pD=>
   rintro a cn u ⟨l,h⟩ ak;rw[an]at ak⊢;exact⟨l,dd u h ak⟩
  case assign=>
   rintro l pre ⟨p,i⟩ a a9 ⟨g,bb⟩ b8;unfold vTk amA at b8;unfold vTk;simp only at g bb b8⊢;have f:=gE g bb;clear g bb
   gi_wp2
   have fu:=dE a (.cells #[.int .i64 (dl s p).k,.int .i64 (p:Int),.int .i64 ((dl s p).a:Int),.int .i64 i,.int .i64 (dl s p).n,.string (dl s p).x] 46);have K:=f.2.ii;have i1:=f.2.sz;rw[ad]at K;obtain⟨y,z,v,B,g,m⟩:=K;refine b8 _ _ ⟨⟨f.1,Iw.below f.2 fu (by omega) (by rw[ad];exact⟨y,z,v,B,g,m.below fu (by omega)⟩)⟩,a.heap.size,i1,λL bt=>?_,aB a _,rfl⟩ ((KeepsOthers.alloc a _).from _);obtain⟨k2,ax,a0⟩:=m.tk;rw[dG a _ b (by omega),ax]at bt;cases bt;intro d;have:=(a0.lt _ d).2;omega
  case body=>
   rintro l pre ⟨p,i⟩ d6 a ⟨⟨bs,G⟩,E,kx,c7,al,rfl⟩;rw[an];refine wpIn_mono (Q:=afp (b+1) a λff=>Iw j r (b+1) s I ff (dl s p).a (i+(dl s p).d) (dl s p).a (i+(dl s p).d)) ?_ λd b5 ar h=>by cases d<;>first|exact⟨h.1,akx.mk h.2⟩|exact h.elim
   unfold vTk amA;simp only at bs G al⊢;have K:=G.ii;rw[ad]at K;obtain⟨y,z,v,B,dg,a2⟩:=K;obtain⟨gs,br⟩:=dg.go el bs;obtain⟨e7,e8,e9,i9⟩:=od s p bs.lt gs;have kz:=G.sz;have kt:=dg.len;have ia:=dg.ol;generalize (dl s p).k=dn at al br⊢;generalize (dl s p).a=A at al e7 e8 G br⊢;generalize (dl s p).d=bj at e9 i9 G br⊢;generalize (dl s p).n=a4 at al br⊢;generalize (dl s p).x=a5 at al br⊢;clear dg gs bs;obtain⟨cp,ax,a0,cq,cr,cu,tf⟩:=bz al;have bh:=fa a2.b0;rcases br with⟨rfl,gr,hn,o⟩|⟨a9,b8,⟨i7,i8⟩,c9,ji,kh,hn,dc,o⟩
   .have cl:=CallsIn.inRound l (mq (n:=2).2 (a2.q.may (t:=5) (by decide) (by decide) gr));have f:=kJ a2 G o;clear a2 G al gr o;refine wpIn_block ?_;refine wpIn_seq_k (λfd b9=>?_);clear b9
    gi_wp2_with (refine⟨trivial,?_⟩;gi_at_call 30;fail)
    refine⟨trivial,cl.mono ?_⟩;rintro d w5 ⟨rfl,C⟩;have ap:Hid (Fs (b+1) a w5/\Iw j r (b+1) s I w5 A (i+bj) A (i+bj)):=⟨yy C,Iw.below f.2.1 C (by omega) (by rw[ad];exact⟨_,_,_,_,f.2.2,f.1.below C (by omega)⟩)⟩;clear f C cl bh cp ax a0 cq cr cu tf
    gi_wp2
    exact ap
   .refine wpIn_block ?_;refine wpIn_seq_k (λfd b9=>?_);have dq:∀(av:B3)(bw bx bA bD bE b2 b3:B4),Fs (b+1) a av->Iw j r (b+1) s (λ_ _ _=>True) av A (i+bj) p i->wn w base F bv b s y v av->fe E av a9 (p:Int) (A:Int) i a4 a5->
      fd (amA w F j r s (.pointer (O ⟨b,0,Ax⟩)) (.pointer (O ⟨E,0,Ax⟩)) (.func (.func 29) #[.pointer (O ⟨j,0,Ax⟩)] #[]) (.agg #[.int .i64 dn,.int .i64 (p:Int),.int .i64 (A:Int),.int .i64 i,.int .i64 a4,.string a5]) bw bx bA bD bE b2 b3) av:=by
     intro av bw bx bA bD bE b2 b3 f7 ca bk en;refine b9 _ _ ?_;clear b9 cp ax a0 cq cr cu tf bh;unfold amA;have bh:=fa bk.b0;have hh:=fa bk.b1;obtain⟨cp,ax,a0,cq,cr,cu,tf⟩:=bz en;have ks:=sH dc;have g1:=CallsIn.inRound l (mq (n:=2).2 (La (tf:=(p:Int)) (tt:=(A:Int)) (tl:=i) (tn:=a4) (tx:=a5) (s:=s) bk.q i7 i8 c9 dc (by omega) λb5 bn=>by have:=aE (o.sim.o1 b5 bn);omega))
     gi_wp2_with (refine⟨trivial,?_⟩;gi_at_call 14;fail)
     refine⟨trivial,g1.mono ?_⟩;rintro d w5 ⟨rfl,gt,cd,C⟩;obtain⟨k3,gm,_⟩:=bk.q.g.ex;have bo:=bk.turn gt cd C hJ (by omega);have a1:fe E w5 a9 (p:Int) (A:Int) i a4 a5:=li cd en (by omega);have a3:Iw j r (b+1) s (λ_ _ _=>True) w5 A (i+bj) p i:=Iw.turn (I:=λ_ _ _=>True) (p:=p) (l:=i) ⟨ca.sc,ca.mp,ca.ly,trivial,ca.sz⟩ gm cd C hw trivial;have gp:Fs (b+1) a w5:=f7.trans (ala gm cd);obtain⟨L,ce,cf⟩:=bo.tk;obtain⟨g3,g4,rfl⟩:=bJ cf;have hf:=fa ce;have kl:w5.frozen? ⟨b,0,Ax⟩=U:=ch _ _ _ _ _ ce;obtain⟨k4,k5,k6,k7,k8,k9,la⟩:=bz a1;obtain⟨i5,h0,i2,i3,i4⟩:=eD adb;obtain⟨on,ew⟩:=aF v.length;rw[ew]at ce cf hf ia;have ky:b+1<=w5.heap.size:=a3.sz;have eL:∀e,(Value.slice g3 on g4).ownBlock=O e->w.heap.size<=e/\∃cs fr,w5.heap[e]?=O (.cells cs 46 fr):=λe k=>by
      refine⟨(cf.lt e k).1,?_⟩;rcases cf.2 with⟨a6,_⟩|⟨fk,hd,he,a6,_,b6,_⟩
      .rw[a6]at k;cases k
      .rw[a6]at k;obtain rfl:fk=e:=by simpa [E2] using k
       exact⟨_,_,b6⟩
     have f:=alF o bo a3 gp ce ew;clear bo a3 gp ce ew g1 gt cd C bk ca f7 en bh hh cp ax a0 cq cr cu tf a1
     gi_wp2_with (gi_at_builtin;refine wpListIn_append_own _ rfl _ _ 43 rfl w.heap.size 46 i5 _ 6 56 Tryz.underlying43 h0 i2 i3 i4 rfl (by decide) _ _ _ rfl (cf.alloc _) ⟨w5.heap.size,0,Ax⟩ 1 1 [.int .i64 a9,.int .i64 (p:Int),.int .i64 (A:Int),.int .i64 i,.int .i64 a4,.string a5] rfl rfl (World.news_of_block (cs:=#[.int .i64 a9,.int .i64 (p:Int),.int .i64 (A:Int),.int .i64 i,.int .i64 a4,.string a5]) (fr:=(0,0)) (aB w5 _)) (by intro kA gv;simp at gv;rcases gv with rfl|rfl|rfl|rfl|rfl|rfl<;>rfl) (by unfold maxLen;omega) (by omega) (by simp;omega) ?_;intro kE b4 ev c8 _;obtain⟨cw,d7,rfl⟩:=ownsRow_succ ev;have df:b4.heap[b]?=O (.cells #[.slice g3 on g4] 43 (0,0)):=(c8.block b (by simp;omega) (λd=>by obtain⟨_,cs,fr,a7⟩:=eL b d.symm;rw[f.out.2.2.2.2.1]at a7;cases a7)).trans ((dG _ _ _ (by omega)).trans f.2.2.2.2.1);have j7:=fa df;have kn:b4.frozen? ⟨b,0,Ax⟩=U:=ch _ _ _ _ _ df)
     have a8:∀(e:Nat)(u:Obj),w5.heap[e]?=O u->(∀cs fr,u≠ .cells cs 46 fr)->e≠b->(b4.setCell ⟨b,0,Ax⟩ (.slice (O ⟨cw,0,Ax⟩) (on+1) d7)).heap[e]?=O u:=λe u k cc da=>by
      refine(aC _ _ _ _ da).trans ((c8.block e (by simp;have:=aG k;omega) (λd=>?_)).trans ((dG _ _ _ (aG k)).trans k));obtain⟨_,cs,fr,a7⟩:=eL e d.symm;rw[k]at a7;exact cc cs fr (bc a7)
     have kw:w5.heap.size<=b4.heap.size:=by have:=c8.size;simp at this;omega
     have f9:B2 base w5 (b4.setCell ⟨b,0,Ax⟩ (.slice (O ⟨cw,0,Ax⟩) (on+1) d7)):=by
      have g9:B2 base w5 (w5.alloc (.cells #[.int .i64 a9,.int .i64 (p:Int),.int .i64 (A:Int),.int .i64 i,.int .i64 a4,.string a5] 46)):=(ai _ w5).alloc (by omega) _;exact(g9.grown c8 (by simp;omega) (λe k=>by have:=(eL e k).1;omega)).setCell (by show base<=b;omega) _
     have hH:wn w base F bv b s ji (v++[⟨a9,(p:Nat),(A:Nat),i,a4,a5⟩]) (b4.setCell ⟨b,0,Ax⟩ (.slice (O ⟨cw,0,Ax⟩) (on+1) d7)):=by
      have bn:=f.2.1;refine⟨bn.q.same (λe u k g m=>a8 e u k g (by rintro rfl;rw[f.out.2.2.2.2.1]at k;exact m _ _ (bc k).symm)),bn.bl.trans f9,a8 _ _ bn.b0 (by intro cs fr d;cases d) (by omega),a8 _ _ bn.b1 (by intro cs fr d;cases d) (by omega),⟨_,aL _ _ 0 _ _ _ df,?_⟩⟩;rw[aJ,f.out.2.2.2.2.2,yg];refine Bo ev (row:=O b) ⟨rfl,rfl,rfl,by simp[Ce],λe k da=>aC _ _ _ _ (λd=>da (by rw[d]))⟩ (.inr ?_);intro d;have a7:cw=b:=by simpa [E2] using d
      subst a7;rcases ev.2 with⟨a6,_⟩|⟨fk,hd,he,a6,_,b6,_⟩
      .cases a6
      .cases a6;rw[df]at b6;cases b6
     refine⟨f.2.2.2.1.trans ?_,?_⟩
     .exact⟨by simp[Ce];omega,λe u _ k cc=>a8 e u k (λcs fr d=>by rw[d]at cc;cases cc) (by rintro rfl;rw[f.out.2.2.2.2.1]at k;obtain rfl:=bc k;cases cc)⟩
     .obtain⟨eb,ey⟩:=f.2.2.1.sc;obtain⟨ea,d8,ba,d9⟩:=f.2.2.1.mp;refine⟨⟨eb,a8 _ _ ey (by intro cs fr d;cases d) (by omega)⟩,⟨ea,d8,a8 _ _ ba (by intro cs fr d;cases d) (by rintro rfl;rw[f.out.2.2.2.2.1]at ba;cases ba),d9⟩,f.2.2.1.ly.blocks (λe k=>f9.block e (by omega)),?_,by simp[Ce];omega⟩;rw[ad];exact⟨_,_,_,_,f.1,hH⟩
    clear b9;rcases b8 with⟨rfl,rfl⟩|⟨ko,rfl⟩
    .have cl:=CallsIn.inRound l (mq (n:=2).2 (a2.q.may (t:=5) (by decide) (by decide) c9));have f:=kJ a2 G al;clear a2 G c9 al dc o
     gi_wp2_with (refine⟨trivial,?_⟩;gi_at_call 30;fail)
     refine⟨trivial,cl.mono ?_⟩;rintro d w5 ⟨rfl,C⟩;have bo:=f.1.below C (by omega);have a1:fe E w5 7 (p:Int) (A:Int) i a4 a5:=(C.block _ (aG f.2.2)).trans f.2.2;have z0:=(bz a1).1;have lb:=(bz a1).2.2.2.2.2.2 0;have ge:∀L,w5.heap[b]?=O (.cells #[L] 43 (0,0))->L.ownBlock≠O E:=λL bt=>c7 L ((C.block _ (by omega)).symm.trans bt);have a3:Iw j r (b+1) s (λ_ _ _=>True) w5 A (i+bj) p i:=Iw.below (I:=λ_ _ _=>True) (p:=p) (l:=i) ⟨f.2.1.sc,f.2.1.mp,f.2.1.ly,trivial,f.2.1.sz⟩ C (by omega) trivial;have gn:Iw j r (b+1) s (λ_ _ _=>True) (w5.setCell ⟨E,0,Ax⟩ (.int .i64 5)) A (i+bj) p i:=by
      obtain⟨eb,ey⟩:=a3.sc;obtain⟨ea,d8,ba,d9⟩:=a3.mp;exact⟨⟨eb,(aC _ _ _ _ (by show j≠E;omega)).trans ey⟩,⟨ea,d8,(aC _ _ _ _ (by rintro rfl;rw[show w5.heap[_]?=_ from a1]at ba;cases ba)).trans ba,d9⟩,a3.ly.blocks (λe k=>aC _ _ _ _ (by show e≠E;omega)),trivial,by simp[Ce];exact a3.sz⟩
     have dx:=aq λbw bx bA bD bE b2 b3=>dq _ bw bx bA bD bE b2 b3 ((yy C).trans ((KeepsOthers.setCell _ _ _).from _)) gn (bo.setTok a1 ge (by omega) _) (aL _ _ 0 _ _ _ a1);clear dq bo a1 f C ge a3 gn c7 cl bh cp ax a0 cq cr cu tf
     gi_wp2
     exact dx.out _ _ _ _ _ _ _
    .have dx:=aq λbw bx bA bD bE b2 b3=>dq a bw bx bA bD bE b2 b3 (KeepsFrom.refl _ _) ⟨G.sc,G.mp,G.ly,trivial,G.sz⟩ a2 al;clear dq a2 G al o dc c9
     gi_wp2
     exact dx.out _ _ _ _ _ _ _
  case seq=>
   rintro l g5 fq hB a _ a8 ep;rw[an]at fq ep;refine aen 4 l j r (b+1) s (by omega) (by omega) (by omega) (by omega) I f1 fB fA (λp i a bs h=>?_) g5 fq (λp i a g _ bb ed=>?_) a 0 1 ?_ a8
   .rw[ad]at h;obtain⟨y,z,v,B,g,m⟩:=h;exact(g.go el bs).1
   .obtain⟨hj,t,b5,hc,iy,ih⟩:=hB [] (p,i) a ⟨g,bb⟩ ed;exact⟨hj,t,b5,hc,iy,ih.mono λd ff ⟨e7,e8,e9⟩=>⟨e7,e8 _ rfl,e9⟩⟩
   .refine Iw.below eg (by rw[an];exact ep) (by omega) ?_;have K:=eg.ii;rw[ad]at K⊢;obtain⟨y,z,v,B,g,m⟩:=K;exact⟨y,z,v,B,g,m.below (by rw[an];exact ep) (by omega)⟩
  case done=>
   rintro a ⟨l,h⟩ cF;rw[an]at cF⊢;refine q _ _ (wpIn_wide.2 ?_);clear q;have K:=h.ii;rw[ad]at K;obtain⟨y,z,v,B,g,m⟩:=K;obtain⟨L,ax,a0⟩:=m.tk;obtain⟨bh,fg,j3,j4,j5,ki,kj,kk⟩:=BI.cells h.sc;have j6:=fa ax;have ap:=kJ g m a0;clear g m ax a0 h f1 fB fA dd eg eo em eA et ek;go_wp2_with fail;refine⟨by simp,.inl ⟨_,_,rfl,run_takeDeferred cF,?_⟩⟩;have er:=qp.of_putD cF (.deferred Ax);refine⟨_,results_tmp rfl _ _ _,show AmP _ _ _ _ _ _ _ from⟨y,z,v,l,L,g6.out.trans ap.1.fin,ap.1.sim,rfl,er.row ap.2.2 (by decide),ap.2.1.q.kept er,ap.1.len,ap.1.ol,?_⟩⟩;exact ap.2.1.bl.grown (E1 a (b+1) (.deferred Ax)) (by have:=ap.2.1.bl.size;have:=aG cF;omega) (λi6 d=>by cases d;omega)
 clear eh;refine wpIn_wide.2 (Code.wp_mono (Q:=Exit.then fb (λ_ _ _=>False)) (λd b5 w h=>by cases d<;>first|exact h|exact h.elim) ?_);have fg:au.drew.cell? ⟨w.heap.size+1,0,Ax⟩=O (.string s):=fa cb;refine IA (S:=λds=>ds.cell? ⟨w.heap.size+1,0,Ax⟩=O (.string s)) (by kernel_rfl) fg (λhS=>?_);refine dF 0 (.string s) rfl rfl (by kernel_rfl) (λ_ _ _=>id) hS (λds gz=>by go_simp) ?_;simp only[List.set];refine C2 (rs:=[1,3]) (by kernel_rfl) (by simp) (B7 rfl (λaf q=>?_) (B7 rfl (λaf q=>?_) Ck))
 .go_simp;have ef:B2 w.heap.size w au.drew:=ee.drew;refine(qK (H:=Unit) au.drew fr tt ((ef.block _ (aG cI)).trans cI)).mono ?_;rintro d ao ⟨rfl,bf,J⟩;have gd:au.drew.heap.size=w.heap.size+2:=gu;rw[gd]at bf J;have b7:B2 w.heap.size w ao:=ef.trans (J.mono (by omega));have an:w.heap.size+2<=ao.heap.size:=by have:=J.size;omega
  have h8:=bf.lt;refine q _ _ (fa ((J.block _ (by omega)).trans cb)) (λhS=>?_);clear q af;try simp only[Act.put,cm,co,cC]
  simp only[gd];refine dF 2 (.agg #[.string s,.map (O (w.heap.size+2)),.int .i64 0,.int .i64 0,.int .i64 1,.bool U]) rfl rfl (by kernel_rfl) (λ_ _ _=>id) hS (λds gz=>by go_simp) ?_;simp only[List.set];refine C2 (rs:=[3]) (by kernel_rfl) (by simp) (B7 rfl (λaf q=>?_) Ck);go_simp;refine q _ _ ((ah ((ai ao.heap.size ao).alloc (ag _) _) hS)) (λhS=>?_);clear q af;refine C2 (rs:=[4]) (by kernel_rfl) (by simp) (B7 rfl (λaf q=>?_) Ck);go_simp;have x:Ad1 w F s ao.heap.size (w.heap.size+2) (ao.alloc (.cells #[.string s,.map (O (w.heap.size+2)),.int .i64 0,.int .i64 0,.int .i64 1,.bool U] 81)):=
   ⟨b7.alloc b7.size _,(dG _ _ _ (by omega)).trans ((J.block _ (by omega)).trans f8),(dG _ _ _ (by omega)).trans ((J.block _ (by omega)).trans cb),aB ao _,bf.alloc _,by omega,by omega⟩
  refine q _ _ (fa x.b1) (λhS=>?_);clear q af;refine wpAnyH_done (by kernel_rfl) ?_ _;exact ei _ _ _ x
 .go_simp;have ef:B2 w.heap.size w au.drew:=ee.drew;obtain⟨WA,c6⟩:=aF ((au.alloc (.cells #[.string ⟨#[]⟩,.map Ax,.int .i64 0,.int .i64 0,.int .i64 0,.bool U] 81)).drew);have cy:B2 (w.heap.size+2) au WA:=by rw[<-c6];exact((ai _ au).alloc (by omega) _).drew
  have g0:WA.heap.size=w.heap.size+3:=by rw[<-c6];show(au.alloc _).heap.size=_;simp;omega
  have hE:WA.heap[w.heap.size+2]?=O (.cells #[.string ⟨#[]⟩,.map Ax,.int .i64 0,.int .i64 0,.int .i64 0,.bool U] 81 (0,0)):=by rw[<-c6,<-gu];exact aB au _
  rw[c6];refine q _ _ (ah (cy.mono (by omega)) (fa cb)) (λhS=>?_);clear q af;refine C2 (rs:=[1]) (by kernel_rfl) (by simp) (B7 rfl (λaf q=>?_) Ck);go_simp;have fo:B2 w.heap.size w WA:=ee.trans (cy.mono (by omega));refine(qK (H:=Unit) WA fr tt ((fo.block _ (aG cI)).trans cI)).mono ?_;rintro d ao ⟨rfl,bf,J⟩;rw[g0]at bf J;have b7:B2 w.heap.size w ao:=fo.trans (J.mono (by omega));have h8:=bf.lt;refine q _ _ (ah (J.mono (by omega)) hS) (λhS=>?_);clear q af;try simp only[Act.put,cm,co,cC]
  simp only[g0];refine dF 2 (.agg #[.string s,.map (O (w.heap.size+3)),.int .i64 0,.int .i64 0,.int .i64 1,.bool U]) rfl rfl (by kernel_rfl) (λ_ _ _=>id) hS (λds gz=>by go_simp) ?_;simp only[List.set];have eq:=(J.block _ (by omega)).trans hE;refine C2 (rs:=[4]) (by kernel_rfl) (by simp) (B7 rfl (λaf q=>?_) Ck);obtain⟨j8,j9,ka,kb,kc,kd⟩:=ik eq;obtain⟨ke,a6,a7,b6,kf,kg⟩:=pK eq;go_simp;have o:=an4 ao (w.heap.size+2) (.string s) (.map (O (w.heap.size+3))) (.int .i64 0) (.int .i64 0) (.int .i64 1) (.bool U);have x:Ad1 w F s (w.heap.size+2) (w.heap.size+3) (six ao (w.heap.size+2) (.string s) (.map (O (w.heap.size+3))) (.int .i64 0) (.int .i64 0) (.int .i64 1) (.bool U)):=by
   have an:=J.size;refine⟨b7.grown o b7.size (λdn d=>by cases d;omega),?_,?_,GF eq _ _ _ _ _ _,bf.kept o (by simp),by omega,by omega⟩
   .exact(o.block _ (by omega) (by simp)).trans ((J.block _ (by omega)).trans ((cy.block _ (by omega)).trans f8))
   .exact(o.block _ (by omega) (by simp)).trans ((J.block _ (by omega)).trans ((cy.block _ (by omega)).trans cb))
  refine q _ _ (fa x.b1) (λhS=>?_);clear q af;refine wpAnyH_done (by kernel_rfl) ?_ _;exact ei _ _ _ x
