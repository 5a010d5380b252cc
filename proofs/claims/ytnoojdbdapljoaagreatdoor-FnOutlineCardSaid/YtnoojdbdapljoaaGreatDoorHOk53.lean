import Derived.Test.YtnoojdbdapljoaaGreatDoorHOk28
import Derived.Test.YtnoojdbdapljoaaGreatDoorHOk34
import Derived.Test.YtnoojdbdapljoaaGreatDoorHOk35
import Derived.Test.YtnoojdbdapljoaaGreatDoorHOk36
import Derived.Test.YtnoojdbdapljoaaGreatDoorHOk37
import Derived.Test.YtnoojdbdapljoaaGreatDoorHOk52
set_option linter.all false
set_option maxRecDepth 100000
set_option maxHeartbeats 12800000
open Go.Proofs.Tryz renaming prog->O
open Go.Value renaming slice->Q,int->U,string->A2
open Option renaming some->S,none->Z
open Go.IntKind renaming i64->X
open ByteArray renaming empty->Y
open Go renaming World->Ax,Value->A7,Calls->A9,TypeId->Br
open Go.Obj renaming cells->A0
open Go.RowKit renaming Below->A1,intOf->A8
open Go.MakeChecks renaming laidMetH_plain->A3
open Go.Lib renaming asciiSpaceTab->A4,TabIs->A5
open Go.Ending renaming returned->A6
namespace Go.Proofs.YtnoojdbdapljoaaGreatDoor
open Go.ChangeShapes Go.WideShapes Go.ChangeAt Go.WideMaps Go.WideElems Go.RowKit
def akg(V:Array A7):List (List UInt8):=V.toList.map fun v=>match v with| .string a=>a.data.toList|_=>[]
theorem ag0{W:Ax}{c:String}{d:DataW Unit}{g:Nat}{t:Br}{n:Nat}{V:Array A7}(B:([(c,d)].all fun x=>x.2.handleName?.isNone)=true)
  (u:Tryz.prog.globalNamed c=S g) (m:(Tryz.prog.globals[g]?).map (·.type)=S t) (C:Tryz.prog.underlying t=S (.array n 9)) (p:Tryz.prog.cellsOf 9=1) (q:Tryz.prog.cellsOf t=n)
  (r:d= .agg ((akg V).map fun b=> .lit (.string b))) (o:(akg V).map (fun b=>Value.string ⟨b.toArray⟩)=V.toList) (h:laidMetH O [(c,d)] W):∃e fr,W.heap[g]?=S (.cells V e fr):=by
 rw[A3 _ _ _ B]at h;obtain⟨K,⟨I,ad,j,H,J,L,i,F,a,s,_,_⟩,_,_⟩:=h;obtain rfl:=db (u.symm.trans i);obtain rfl:=db (m.symm.trans F);subst r;have k:=Ba C Tryz.underlying9 p q s;have l:j=V:=by
  apply Array.toList_inj.1;rw[k,o]
 simp only[World.var?,i,IH]at a;split at a
 ·rename_i G e fr z;cases a;exact⟨e,fr,by rw[<-l];exact z⟩
 ·cases a
theorem aet{W:Ax}{a nm:String}{d:DataW Unit}{g:Nat}{t:Br}{ms:Array (String×Br)}(o:([(a,DataW.iface nm d)].all fun x=>x.2.handleName?.isNone)=true)
  (m:Tryz.prog.globalNamed a=S g) (k:(Tryz.prog.globals[g]?).map (·.type)=S t) (p:Tryz.prog.underlying t=S (.interface ms)) (h:laidMetH O [(a,.iface nm d)] W):∃u s,W.cell? ⟨g,0,Z⟩=S (.iface u s):=by
 rw[A3 _ _ _ o]at h;obtain⟨G,⟨C,I,e,B,F,H,b,q,r,l,_,_⟩,_,_⟩:=h;obtain rfl:=db (m.symm.trans b);obtain rfl:=db (k.symm.trans q);obtain⟨z,c,v,i,_,_⟩:=iface_of_trod p l;refine⟨c,v,?_⟩;have:=World.var?_cell b r 0;rw[this];have j:e.toList[0]?=S (.iface c v):=by rw[i];rfl
 simpa using j
theorem akF:Tryz.prog.globalNamed "strconv.ErrSyntax" =S 7:=by kernel_rfl
theorem akG:Tryz.prog.globalNamed "strconv.ErrRange" =S 8:=by kernel_rfl
theorem akH:Tryz.prog.globalNamed "loop.example/warp/impl.wordTexts" =S 0:=by kernel_rfl
theorem akh:Tryz.prog.globalNamed "strings.asciiSpace" =S 2:=by kernel_rfl
theorem Gs{W b:Ax}{a:String}{k:IntKind}{c:List Int}{g:Nat}(e:Tryz.prog.globalNamed a=S g)(h:A5 O W a k c)(d:A1 W.heap.size W b):A5 O b a k c:=by
 unfold A5 at h⊢;simp only[World.var?,e,IH]at h⊢;have i:g<W.heap.size:=by
  rcases cA g W.heap.size with hl|hl
  ·exact hl
  ·rw[xJ hl]at h;simp at h
 rw[d.block _ i];exact h
structure ag1 (W:Ax):Prop where
 errs:nI W
 wrd:∃tt fr,W.heap[0]?=S (.cells eE tt fr)
 asc:A5 O W "strings.asciiSpace" .u8 A4
theorem IE{W:Ax}(h:laidMetH O [("math/bits.deBruijn32tab",Rows.laid_math_bits_deBruijn32tab),("math/bits.deBruijn64tab",Rows.laid_math_bits_deBruijn64tab),("internal/strconv.uint64pow10",Rows.laid_internal_strconv_uint64pow10),("strconv.ErrRange",Rows.laid_strconv_ErrRange),("strconv.ErrSyntax",Rows.laid_strconv_ErrSyntax),("unicode.White_Space",Rows.laid_unicode_White_Space),("strings.asciiSpace",Rows.laid_strings_asciiSpace),("loop.example/warp/impl.wordTexts",Rows.laid_loop_example_warp_impl_wordTexts)] W):ag1 W:=by
 have c:laidMetH O [("loop.example/warp/impl.wordTexts",Rows.laid_loop_example_warp_impl_wordTexts)] W:=h.filter fun a=>a.1== "loop.example/warp/impl.wordTexts";have d:laidMetH O [("strconv.ErrSyntax",Rows.laid_strconv_ErrSyntax)] W:=h.filter fun a=>a.1== "strconv.ErrSyntax";have e:laidMetH O [("strconv.ErrRange",Rows.laid_strconv_ErrRange)] W:=h.filter fun a=>a.1== "strconv.ErrRange";have b:laidMetH O [("strings.asciiSpace",Rows.laid_strings_asciiSpace)] W:=h.filter fun a=>a.1== "strings.asciiSpace";refine⟨⟨?_,?_⟩,?_,?_⟩
 ·exact aet (by kernel_rfl) akF (t:=70) (by kernel_rfl) Tryz.underlying70 d
 ·exact aet (by kernel_rfl) akG (t:=70) (by kernel_rfl) Tryz.underlying70 e
 ·exact ag0 (V:=eE) (by kernel_rfl) akH (t:=129) (by kernel_rfl) Tryz.underlying129 (by kernel_rfl) (by kernel_rfl) rfl rfl c
 ·rw[A3 _ _ _ (by kernel_rfl)]at b;have g:laidMet O [("strings.asciiSpace",Lib.tabData .u8 A4)] W:=b;exact Lib.tabIs_of_head akh (t:=225) (by kernel_rfl) Tryz.underlying225 Tryz.underlying5 (by kernel_rfl) (by kernel_rfl) g
end Go.Proofs.YtnoojdbdapljoaaGreatDoor
namespace Go.Proofs.YtnoojdbdapljoaaGreatDoor
open Go.RowKit Go.Maps Go.WideMaps
theorem Gt(s:ByteArray):∀(f:Nat)(st:List Int)(p:Nat)(d:Int)(c:List Tk),p<=s.size->c.Pairwise (fun a b=>a.f<b.f)->(∀T∈c,0<=T.f/\T.f<(p:Int))->(uH s f st p d c).1.Pairwise (fun a b=>a.f<b.f)/\∀T∈(uH s f st p d c).1,0<=T.f
 |0,st,p,d,c,_,_,_=>⟨.nil,fun T hT=>by cases hT⟩
 |f+1,st,p,d,c,G,r,l=>by
  have k:∀(h:Tk)(e:Nat),h.f=(p:Int)->p<e->(c++[h]).Pairwise (fun a b=>a.f<b.f)/\∀T∈c++[h],0<=T.f/\T.f<(e:Int):=fun h e q m=>by
   refine⟨List.pairwise_append.2 ⟨r,List.pairwise_singleton _ _,fun a z b i=>?_⟩,fun T hT=>?_⟩
   ·rw[List.mem_singleton.1 i,q];exact(l a z).2
   ·rcases List.mem_append.1 hT with hT|hT
    ·have:=l T hT;omega
    ·rw[List.mem_singleton.1 hT,q];omega
  have F:∀e,p<e->∀T∈c,0<=T.f/\T.f<(e:Int):=fun e m T hT=>by have:=l T hT;omega
  have i:∀g,g<=s.size->g<=blk s (s.size+1) g/\blk s (s.size+1) g<=s.size:=fun g C=>jC s (s.size+1) g C;rw[uH];split
  ·rename_i m;have:=k ⟨6,(s.size:Nat),(s.size:Nat),d,0,⟨#[]⟩⟩ (p+1) (by show((s.size:Nat):Int)=_;omega) (by omega);exact⟨this.1,fun T hT=>(this.2 T hT).1⟩
  ·rename_i m;split
   ·rename_i u;have o:=jB s p (by omega) (adz s p u).1;have j:=i _ o.2.1;split
    ·have:=k ⟨5,(p:Nat),((fj s p).a:Nat),d,(fj s p).n,(fj s p).x⟩ (blk s (s.size+1) (fj s p).a) rfl (by omega);exact Gt s f _ _ _ _ j.2 this.1 this.2
    ·exact Gt s f _ _ _ _ j.2 r (F _ (by omega))
   ·split
    ·split
     ·rename_i B;have o:=jB s p (by omega) B;have j:=i _ o.2.1;have:=k ⟨uG s p,(p:Nat),((fj s p).a:Nat),d,(fj s p).n,(fj s p).x⟩ (blk s (s.size+1) (fj s p).a) rfl (by omega);exact Gt s f _ _ _ _ j.2 this.1 this.2
     ·exact⟨.nil,fun T hT=>by cases hT⟩
    ·exact⟨.nil,fun T hT=>by cases hT⟩
theorem aki{s:ByteArray}{toks:List Tk}(a:lK s=(toks, -1)):toks=(jq s).1:=by
 unfold lK at a;split at a
 ·simp at a<;>omega
 split at a
 ·simp at a;exact a.symm
 ·simp at a<;>omega
abbrev akj(ns:List Nd):Prop:=af6 ns (sn ns)
theorem Aw:akj []:=by
 have a:sn []=[]:=by unfold sn;split<;>rfl
 exact⟨fun d b=>(by rw[a]at b;cases b),by rw[a];exact .nil,fun e c=>(by rw[a]at c;cases c),by rw[a];rfl⟩
theorem Out.outl{s:ByteArray}{c a:Int}{ns:List Nd}(h:Out s c a ns):akj ns:=by
 cases h with
 |big _=>exact Aw
 |at_ _ _ _=>exact Aw
 |@ok g m b a1 a0 k r=>
  by_cases i:(cF (oE s b)).1=0
  ·have j:okN (oE s b)=oE s b:=by unfold okN;rw[ab i]
   rw[j];have B:Iy (oE s b) 0 (one ⟨1,0,(s.size:Nat),1,0,0,⟨#[]⟩,[],[]⟩ b):=fun m _=>by rw[od];rfl
   have F:(oE s b).length=b.sz+1:=by unfold oE;rw[Fo.flat_len,aJ]
   have L:sn (oE s b)=(one ⟨1,0,(s.size:Nat),1,0,0,⟨#[]⟩,[],[]⟩ b).out 0 pL 0:=by
    unfold sn;rw[ab i,<-Iz (oE s b) _ 0 (oE s b).length pL 0 B (by rw[F,aJ];exact ah _),qy,rt,List.flatMap_nil,dA,F];rw[show(((0+b.sz:Nat):Int)).toNat=b.sz+1-1 by omega]
   obtain⟨I,o,J⟩:=IA (oE s b) _ 0 pL 0 B;rw[<-L]at I o J;have u:(one ⟨1,0,(s.size:Nat),1,0,0,⟨#[]⟩,[],[]⟩ b).fns=b.fns:=by rw[DC];rfl
   obtain⟨_,ar,C,af,l⟩:tr (tj g) 0 b m:=r.p.inc;have ao:=Gt s (s.size+1) [100,6] (blk s (s.size+1) 0) 1 [] (jC s (s.size+1) 0 (be _)).2 .nil (fun d k=>by cases k);have H:g.Pairwise (fun a K=>a.f<K.f)/\∀d∈g,0<=d.f:=by rw[aki k];exact ao
   have av:=r.len;have ad:∀e,e<m->∃d,g[e]?=S d/\tj g e=d:=fun e G=>⟨_,aI (by omega),wg (aI (by omega))⟩;refine⟨I,?_,?_,J⟩
   ·rw[o,u,C,List.pairwise_map];refine af.imp_of_mem fun {q v} ak an am=>?_;have x:=l q ak;have z:=l v an;rw[wg (aI (show q<g.length by omega)),wg (aI (show v<g.length by omega))];exact(List.pairwise_iff_getElem.1 H.1) q v (by omega) (by omega) am
   ·rw[o,u,C];intro a2 ap;obtain⟨e,G,rfl⟩:=List.mem_map.1 ap;obtain⟨d,x,z⟩:=ad e (l e G).2;rw[z];exact H.2 d (bC x)
  ·have j:okN (oE s b)=[]:=by unfold okN;rw[aa i]
   rw[j];exact Aw
open Go.Lib (strCells strCells_length)
structure TkO (n:Nat) (ts:List Tk):Prop where
 each:∀T∈ts,0<=T.f/\T.f<=T.t/\T.t<=(n:Int)
 next:ts.Pairwise fun a b=>a.t<=b.f
theorem Kj(s:ByteArray):∀(f:Nat)(st:List Int)(p:Nat)(c:Int)(a:List Tk),p<=s.size->TkO s.size a->(∀T∈a,T.t<=(p:Int))->TkO s.size (uH s f st p c a).1
 |0,st,p,c,a,_,_,_=>⟨fun T hT=>(by cases hT),.nil⟩
 |f+1,st,p,c,a,K,i,j=>by
  have h:∀(d:Tk)(q b:Nat),d.f=(p:Int)->d.t=(q:Int)->p<=q->q<=s.size->q<=b->TkO s.size (a++[d])/\∀T∈a++[d],T.t<=(b:Int):=fun d q b l m H I J=>by
   refine⟨⟨fun T hT=>?_,List.pairwise_append.2 ⟨i.next,List.pairwise_singleton _ _,fun r z G e=>?_⟩⟩,fun T hT=>?_⟩
   ·rcases List.mem_append.1 hT with hT|hT
    ·exact i.each T hT
    ·rw[List.mem_singleton.1 hT,l,m];omega
   ·rw[List.mem_singleton.1 e,l];exact j r z
   ·rcases List.mem_append.1 hT with hT|hT
    ·have:=j T hT;omega
    ·rw[List.mem_singleton.1 hT,m];omega
  have F:∀b,p<=b->∀T∈a,T.t<=(b:Int):=fun b o T hT=>by have:=j T hT;omega
  have e:∀q,q<=s.size->q<=blk s (s.size+1) q/\blk s (s.size+1) q<=s.size:=fun q C=>jC s (s.size+1) q C;rw[uH];split
  ·rename_i o;exact(h ⟨6,(s.size:Nat),(s.size:Nat),c,0,⟨#[]⟩⟩ s.size s.size (by show((s.size:Nat):Int)=_;omega) rfl (by omega) (by omega) (by omega)).1
  ·rename_i o;split
   ·rename_i u;have k:=jB s p (by omega) (adz s p u).1;have g:=e _ k.2.1;split
    ·have:=h ⟨5,(p:Nat),((fj s p).a:Nat),c,(fj s p).n,(fj s p).x⟩ (fj s p).a (blk s (s.size+1) (fj s p).a) rfl rfl (by omega) (by omega) (by omega);exact Kj s f _ _ _ _ g.2 this.1 this.2
    ·exact Kj s f _ _ _ _ g.2 i (F _ (by omega))
   ·split
    ·split
     ·rename_i B;have k:=jB s p (by omega) B;have g:=e _ k.2.1;have:=h ⟨uG s p,(p:Nat),((fj s p).a:Nat),c,(fj s p).n,(fj s p).x⟩ (fj s p).a (blk s (s.size+1) (fj s p).a) rfl rfl (by omega) (by omega) (by omega);exact Kj s f _ _ _ _ g.2 this.1 this.2
     ·exact⟨fun T hT=>(by cases hT),.nil⟩
    ·exact⟨fun T hT=>(by cases hT),.nil⟩
theorem ahm(s:ByteArray):TkO s.size (lK s).1:=by
 have b:TkO s.size []:=⟨fun c a=>(by cases a),.nil⟩;unfold lK;split
 ·exact b
 split
 ·exact Kj s _ _ _ _ _ (jC s (s.size+1) 0 (be _)).2 b (fun c a=>by cases a)
 ·exact b
theorem Kk{n:Int}:∀(d:List Tk)(c:Int),d.Pairwise (fun a b=>a.f<b.f)->(∀T∈d,c<=T.f/\T.f<=n)->c<=n+1->(d.length:Int)<=n+1-c
 |[],c,_,_,h=>by simp;omega
 |T::r,c,l,i,h=>by
  have m:=i T cH;obtain⟨j,k⟩:=List.pairwise_cons.1 l;have:=Kk (n:=n) r (T.f+1) k (fun e g=>by have:=j e g;have:=i e (dJ _ g);omega) (by omega);rw[di];simp;omega
theorem ag2(s:ByteArray):(lK s).1.length<=s.size+1:=by
 have e:=ahm s;have g:(lK s).1.Pairwise fun c d=>c.f<d.f:=by
  unfold lK;split
  ·exact .nil
  split
  ·exact(Gt s (s.size+1) [100,6] (blk s (s.size+1) 0) 1 [] (jC s (s.size+1) 0 (be _)).2 .nil (fun b a=>by cases a)).1
  ·exact .nil
 have:=Kk (n:=(s.size:Int)) _ 0 g (fun b a=>by have:=e.each b a;omega) (by omega);omega
theorem TkO.at_{n:Nat}{ts:List Tk}(h:TkO n ts){i:Nat}{T a:Tk}(g:ts[i]?=S T)(j:ts[i+1]?=S a):T.t<=a.f:=by
 obtain⟨d,b⟩:=List.getElem?_eq_some_iff.1 g;obtain⟨e,c⟩:=List.getElem?_eq_some_iff.1 j;rw[<-b,<-c];exact(List.pairwise_iff_getElem.1 h.next) i (i+1) d e (by omega)
section
variable {E : Bs} {W w : World} {y : Int} {v tv : Value} {t : ByteArray} {ts : List Tk}
theorem Lo.conv(h:Lo E W w y v t tv ts):(convert 22 9 v).run O w= .ok (A2 t) w:=by
 rcases bq h.out with⟨b,rfl⟩|⟨d,c,rfl⟩
 ·have a:t=Y:=by
   have:t.data=#[]:=Array.eq_empty_of_size_eq_zero b;cases t;simp_all;first|rfl|done
  rw[a];exact yL w
 ·exact Lz h.out
theorem Lo.cells{a:Option Addr}{n c:Nat}(h:Lo E W w y v t (Q a n c) ts)(j:ts.length=n){i:Nat}{T:Tk}(e:ts[i]?=S T):∃g,a=S ⟨g,0,Z⟩/\w.cell? ⟨g,i*6,Z⟩=S (U X T.k)/\w.cell? ⟨g,i*6+1,Z⟩=S (U X T.f)/\w.cell? ⟨g,i*6+2,Z⟩=S (U X T.t)/\w.cell? ⟨g,i*6+3,Z⟩=S (U X T.l)/\w.cell? ⟨g,i*6+4,Z⟩=S (U X T.n)/\w.cell? ⟨g,i*6+5,Z⟩=S (A2 T.x):=by
 subst j;have r:i<ts.length:=(List.getElem?_eq_some_iff.1 e).1;rcases bq h.tok with⟨q,_⟩|⟨g,o,d⟩
 ·omega
 ·have p:=d;cases d;have k:=h.tok;refine⟨g,rfl,?_⟩;have c:∀b,b<6->w.cell? ⟨g,i*6+b,Z⟩=(cTk T)[b]?:=fun b m=>by rw[k.cellAt (i*6+b) (by omega),Dw ts i b T e m]
  exact⟨c 0 (by omega),c 1 (by omega),c 2 (by omega),c 3 (by omega),c 4 (by omega),c 5 (by omega)⟩
end
theorem ajj{E:Bs}{W:Ax}{y:Int}(h:Cu E W y)(eq:y<=30000000)(s:ByteArray)(cy:s.size<=65536):A9 O 31 #[cV E,A2 s] W fun e ds=>∃t:ByteArray,e= A6 (A2 t)/\t.size<=1048576/\A1 E.base W ds:=by
 have z:=qg W s cy;have a7:=ahm s;have b3:(lK s).1.length<=65537:=by have:=ag2 s;omega
 unfold TkP at z;generalize (lK s).1=ts at z a7 b3;generalize (lK s).2=et at z;obtain⟨n,a0⟩:=aA ts.length;rw[a0]at z b3;go_in;go_wp2_with fail;refine z.mono ?_;rintro e w1 ⟨bs,bA,rfl,b4,a8⟩;have cr:=h.lo;have cc:Lo E W w1 y (Q Z 0 0) ⟨#[]⟩ (Q bs n bA) ts:=⟨h.below a8 h.lt,bk _ _ _ _,by rw[a0];exact ut b4 (fun cm _ d9 ea=>⟨rfl,by omega⟩),a8.mono cr.2⟩;have J:=dx a0 a7;clear z b4 a8 a0 a7;go_wp2_with fail;go_loopw [7,20] (fun v bd wr=>∃(a:Nat) (t:ByteArray) (ap:Int),bd= U X a/\a<=n/\Lo E W wr (y+3*a) v t (Q bs n bA) ts/\0<=ap/\(t.size:Int)<=ap+10*a/\(∀b,ts[a]?=S b->ap<=b.f)/\ap<=65536) (fun _ bd _=>n-(A8 bd).toNat)
 case atStart=>exact⟨0,⟨#[]⟩,0,rfl,be _,by simpa using cc,by decide,by decide,fun b u=>(J.out.2.each b (bC u)).1,by decide⟩
 case round=>
  obtain⟨a,t,ap,rfl,eh,i,el,em,cz,eo⟩:=hrel;by_cases ef:a<n
  ·obtain⟨b,u⟩:∃b,ts[a]?=S b:=⟨_,aI (by have:=J.out.1;omega)⟩;have eb:=J.out.2.each b (bC u);have ep:=cz b u;obtain⟨cm,rfl,bD,c1,cf,d4,d5,d6⟩:=i.cells J.out.1 u;have eg:(0:Int)<=(a:Int):=by omega
   have cq:(a:Int)<(n:Int):=by omega
   have x:∀a4,ts[a+1]?=S a4->b.t<=a4.f:=fun a4 cn=>J.out.2.at_ u cn;have ei:=i.out.1;by_cases bF:b.k=6
   ·rw[bF]at bD;have df:=fun m=>(i.below (bel1 wr m)).conv;have cb:=aq fun m=>(i.below (bel1 wr m)).bel;go_wp2_with fail;go_ret;exact⟨t,rfl,by omega,cb.out _⟩
   have d8:(b.k==6)=false:=by simpa using bF
   obtain⟨f,cp⟩:=ir (show 0<=b.f by omega);obtain⟨B,ct⟩:=ir (show 0<=b.t by omega);rw[cp]at c1;rw[ct]at cf;have ec:f<=B/\B<=s.size:=by omega
   have co:(s.extract f B).size<=B-f:=by rw[xG];omega
   by_cases bE:b.k=5
   ·rw[bE]at bD;have o:=aq fun (b7 dk:Obj)=>zH (((i.below (bel1 wr b7)).below (bel1 (wr.alloc b7) dk)).cu) 6 (by decide) (by decide) (by omega);go_wp2_with fail;refine(o.out _ _).mono ?_;rintro e dz ⟨C,rfl,es,br,av,bt⟩;have ce:=((i.below (bel1 wr _)).below (bel1 (wr.alloc _) _)).kb br av bt;have bw:=av.blk (((bel1 (wr.alloc _) _).block wr.heap.size (by simp)).trans (aw wr _)) (by decide);have bf:=av.blk (aw (wr.alloc _) _) (by decide);rw[ba]at bf;have cv:=fun a=>az dz (wr.heap.size+1) a _ _ _ bf;clear o br av bt bf;rcases(show C=0\/C=1\/C=2\/C=3\/C=4\/C=5 by omega) with rfl|rfl|rfl|rfl|rfl|rfl;all_goals
     go_wp2_with (at_builtin;refine ce.app _ 5 (by decide) (by omega) rfl _ _ rfl rfl rfl ?_;intro dn bo c c6 I;have ak:=I _ _ _ _ bw (by decide);have bb:=fun a=>az bo wr.heap.size a _ _ _ ak);clear cv bw I;refine(wH _ _).mono ?_;rintro e d0 ⟨a5,rfl,rfl⟩;cases a5
     case false=>
      go_wp2_with fail;go_roundw
      case rel=>exact⟨a+1,_,b.t,by go_num,by omega,⟨c.cu.wide (by omega),c.out,c.tok,c.bel⟩,by omega,by omega,x,by omega⟩
      case measure=>simp[A8];omega
     case true=>
      have an:=zH c.cu 4 (by decide) (by decide) (by omega);go_wp2_with fail;refine an.mono ?_;rintro e g ⟨ar,rfl,c7,F,p,L⟩;have d:=c.kb F p L;have a6:=p.blk ak (by decide);have cB:=fun a=>az g wr.heap.size a _ _ _ a6;clear an F p L bb;by_cases am:ar=0
      ·subst am;have o:=aq fun (m:Obj)=>zH ((d.below (bel1 g m)).cu) 3 (by decide) (by decide) (by omega);go_wp2_with fail;refine(o.out _).mono ?_;rintro e bp ⟨r,rfl,c8,G,q,ad⟩;have a2:=(d.below (bel1 g _)).kb G q ad;have bl:=q.blk (aw g _) (by decide);have cx:=fun a=>az bp g.heap.size a _ _ _ bl;clear o G q ad;rcases(show r=0\/r=1\/r=2 by omega) with rfl|rfl|rfl;all_goals
        go_wp2_with (at_builtin;refine a2.app _ 5 (by decide) (by omega) rfl _ _ rfl rfl rfl ?_;intro dp d1 j c9 b9);go_roundw
        case rel=>exact⟨a+1,_,b.t,by go_num,by omega,⟨j.cu.wide (by omega),j.out,j.tok,j.bel⟩,by omega,by omega,x,by omega⟩
        case measure=>simp[A8];omega
      ·have cl:(ar==0)=false:=by simpa using am
       go_wp2_with fail;go_roundw
       case rel=>exact⟨a+1,_,b.t,by go_num,by omega,⟨d.cu.wide (by omega),d.out,d.tok,d.bel⟩,by omega,by omega,x,by omega⟩
       case measure=>simp[A8];omega
   ·have d7:(b.k==5)=false:=by simpa using bE
    have b0:=fun m=>i.below (bel1 wr m);have b1:=fun ck=>aw wr (A0 ck 109);have a1:=dx b0 b1;clear b0 b1;go_wp2_with (at_builtin;refine(a1.out.1 _).app (s.extract f B) (B-f) co (by omega) rfl _ _ rfl rfl rfl ?_;intro dn bo c c6 I;have ak:=I _ _ _ _ (a1.out.2 _) (by decide);have bb:=fun a=>az bo wr.heap.size a _ _ _ ak);clear I a1;refine(wH _ _).mono ?_;rintro e d0 ⟨a5,rfl,rfl⟩;cases a5
    case false=>
     have ao:=acK c.cu (by omega);go_wp2_with fail;refine ao.mono ?_;rintro e d2 ⟨bn,rfl,a9,H,K,af⟩;have a3:=c.kb H K af;clear ao H K af;go_wp2_with (at_builtin;refine a3.app bn 5 a9 (by omega) rfl _ _ rfl rfl rfl ?_;intro dq d3 l dd ca);go_roundw
     case rel=>exact⟨a+1,_,b.t,by go_num,by omega,⟨l.cu.wide (by omega),l.out,l.tok,l.bel⟩,by omega,by omega,x,by omega⟩
     case measure=>simp[A8];omega
    case true=>
     have an:=zH c.cu 4 (by decide) (by decide) (by omega);go_wp2_with fail;refine an.mono ?_;rintro e g ⟨ar,rfl,c7,F,p,L⟩;have d:=c.kb F p L;have a6:=p.blk ak (by decide);have cB:=fun a=>az g wr.heap.size a _ _ _ a6;clear an F p L bb;by_cases am:ar=0
     ·subst am;have o:=aq fun (m:Obj)=>zH ((d.below (bel1 g m)).cu) 3 (by decide) (by decide) (by omega);go_wp2_with fail;refine(o.out _).mono ?_;rintro e bp ⟨r,rfl,c8,G,q,ad⟩;have a2:=(d.below (bel1 g _)).kb G q ad;have bl:=q.blk (aw g _) (by decide);have cx:=fun a=>az bp g.heap.size a _ _ _ bl;clear o G q ad;rcases(show r=0\/r=1\/r=2 by omega) with rfl|rfl|rfl;all_goals
       go_wp2_with (at_builtin;refine a2.app _ 5 (by decide) (by omega) rfl _ _ rfl rfl rfl ?_;intro dp d1 j c9 b9);go_roundw
       case rel=>exact⟨a+1,_,b.t,by go_num,by omega,⟨j.cu.wide (by omega),j.out,j.tok,j.bel⟩,by omega,by omega,x,by omega⟩
       case measure=>simp[A8];omega
     ·have cl:(ar==0)=false:=by simpa using am
      have ao:=acK d.cu (by omega);go_wp2_with fail;refine ao.mono ?_;rintro e d2 ⟨bn,rfl,a9,H,K,af⟩;have a3:=d.kb H K af;clear ao H K af;go_wp2_with (at_builtin;refine a3.app bn 5 a9 (by omega) rfl _ _ rfl rfl rfl ?_;intro dq d3 l dd ca);go_roundw
      case rel=>exact⟨a+1,_,b.t,by go_num,by omega,⟨l.cu.wide (by omega),l.out,l.tok,l.bel⟩,by omega,by omega,x,by omega⟩
      case measure=>simp[A8];omega
  ·have cq:¬(a:Int)<(n:Int):=by omega
   have df:=i.conv;go_wp2_with fail;go_ret;exact⟨t,rfl,by omega,i.bel⟩
end Go.Proofs.YtnoojdbdapljoaaGreatDoor
namespace Go.Proofs.YtnoojdbdapljoaaGreatDoor
open Go.RowKit Go.Maps Go.WideMaps
structure Mp (w0:Ax) (p1:Addr) (n c1:Nat) (ns:List Nd):Prop where
 nds:cg w0 (.slice (S p1) n c1) ns
 cap:ij w0 p1 ns
 len:ns.length=n
 big:n<=3000
 sz:Szd ns
 n0:∀i:Int, -9223372036854775808<=(al ns i).n
 n1:∀i:Int,(al ns i).n<=9223372036854775807
abbrev vT(p1:Addr)(n c1:Nat):A7:= Q (S p1) n c1
def OkB(w0:Ax)(p1:Addr)(n c1:Nat)(ns:List Nd)(f:Nat):Prop:=
 ∀(a b:Nat)(word vn vk),a<f->(al ns a).k=7->b+f<=500000->bu w0 vn (al ns a).nm->bi w0 vk (al ns a).ks->Wr w0 (vT p1 n c1) b 125 #[pW w0,dj (al ns a) vn vk,A2 word] (Be ns f a word b)
structure OkA (w0:Ax) (p1:Addr) (n c1:Nat) (ns:List Nd) (f:Nat):Prop where
 e:∀tab:Nat,tab+f<=500000->OkE w0 (vT p1 n c1) ns (fun k=>AD ns f k tab) tab f
 s:aii w0 (vT p1 n c1) ns (fun k t=>uB ns f k t) f
 b:OkB w0 p1 n c1 ns f
theorem OkA.zero(w0:Ax)(p1:Addr)(n c1:Nat)(ns:List Nd):OkA w0 p1 n c1 ns 0:=
 ⟨fun _ _ b _ _ _ a=>absurd a (by omega),fun b _ _ _ a=>absurd a (by omega),fun b _ _ _ _ a=>absurd a (by omega)⟩
section
variable {w0 : World} {p1 : Addr} {n c1 : Nat} {ns : List Nd} (M : Mp w0 p1 n c1 ns) {f : Nat} (A : OkA w0 p1 n c1 ns f)
theorem Wr.expr0(A:OkA w0 p1 n c1 ns f){tab q:Nat}(h:tab+f<=500000)(g:q<f)(c:eB (al ns q).k=true):Wr w0 (vT p1 n c1) tab 123 #[pW w0,U X (q:Int),U X 0] (AD ns f q tab):=
 fun a W b d=>(A.e tab h).zero q a W g c b d
theorem Wr.blk(M:Mp w0 p1 n c1 ns)(A:OkA w0 p1 n c1 ns f){tab q:Nat}(m:tab+f<500000)(r:q<=f)(a:q<ns.length)(i:(al ns q).k=1):Wr w0 (vT p1 n c1) tab 120 #[pW w0,U X (q:Int)] (AC (fun k t=>uB ns f k t) (al ns q).ks tab):=by
 intro d W e j;obtain⟨l,p⟩:=nE (M.sz.nb q a);have g:=Ao l i;refine Cd w0 _ ns _ f A.s M.nds (by rw[M.len];have:=M.big;omega) q a (fun u o=>?_) (by omega) tab m d W e j;obtain⟨c,h,rfl⟩:=qh o;obtain⟨y,b⟩:=jc (M.sz.nb q a) a c h;have:=J2 _ 0 g c (by omega) (by omega);rw[b.id]at this⊢;exact⟨y,rfl,by have:=b.lt;omega,b.len,this⟩
theorem Wr.exs(A:OkA w0 p1 n c1 ns f){tab:Nat}(i:tab+f<=500000){a:List Int}(d:ado ns f a)(h:a.length<=1048576)(v:A7)(j:bi w0 v a):Wr w0 (vT p1 n c1) tab 122 #[pW w0,v] (cE (a.map fun k=>AD ns f k tab)):=
 fun b W c g=>aab w0 _ v ns _ tab f (A.e tab i) a j d h b W c g
theorem Wr.nms(N:Nd){tab:Nat}(d:N.nm.length<=1048576)(v:A7)(e:bu w0 v N.nm):Wr w0 (vT p1 n c1) tab 121 #[pW w0,v] (cE N.nm):=
 fun a W b c=>BG w0 _ v N.nm a tab W b e d c
theorem Wr.bod(M:Mp w0 p1 n c1 ns)(A:OkA w0 p1 n c1 ns f){tab q:Nat}(r:tab+f<500000)(H:q<=f)(b:q<ns.length)(l:(al ns q).k=36):Wr w0 (vT p1 n c1) tab 124 #[pW w0,U X (q:Int)] (Dk ns (fun k t=>uB ns f k t) (al ns q) tab):=by
 intro g W h m;obtain⟨o,F⟩:=nE (M.sz.nb q b);obtain⟨z,d,B,C⟩:=ahk o l;obtain⟨y,a⟩:=jc (M.sz.nb q b) b 0 (by omega);rw[a.id]at d;obtain⟨p,G⟩:=nE (M.sz.nb y a.len);have i:=Ao p d;refine adj w0 _ ns _ f A.s M.nds (by rw[M.len];have:=M.big;omega) q b y a.at_ a.len (fun I u=>?_) (by omega) (by omega) (by omega) tab r g W h m;obtain⟨e,j,rfl⟩:=qh u;obtain⟨x,c⟩:=jc (M.sz.nb y a.len) a.len e j;have:=J2 _ 0 i e (by omega) (by omega);rw[c.id]at this⊢;exact⟨x,rfl,by have:=c.lt;have:=a.lt;omega,c.len,this⟩
theorem oA(M:Mp w0 p1 n c1 ns){i:Nat}(d:i<ns.length)(o:i<=f){a m:Nat}(h:∀j,a<=j->j<a+m->eB (al ns (cL (al ns i) j)).k=true)(p:a+m<=(al ns i).ks.length):ado ns f (((al ns i).ks.drop a).take m):=by
 intro q l;obtain⟨j,g,c⟩:=fH l;rw[eJ,gJ]at g;rw[List.getElem_take,List.getElem_drop]at c;obtain⟨y,b⟩:=jc (M.sz.nb i d) d (a+j) (by omega);have e:=Gg (N:=al ns i) (j:=a+j) (by omega);rw[e,b.id]at c;have:=h (a+j) (by omega) (by omega);rw[b.id]at this;exact⟨y,c.symm,by have:=b.lt;omega,b.len,this⟩
end
section
variable {w0 : World} {p1 : Addr} {n c1 : Nat} {ns : List Nd} {f : Nat}
theorem Wr.bas(M:Mp w0 p1 n c1 ns)(A:OkA w0 p1 n c1 ns f){tab q:Nat}(i:tab+f<=500000)(g:q<f)(h:q<ns.length)(c:eB (al ns q).k=true):Wr w0 (vT p1 n c1) tab 158 #[pW w0,U X (q:Int)] (bsB ns (fun k=>AD ns f k tab) q):=
 fun a W b d=>acH w0 _ ns _ tab f (A.e tab i) M.nds (by rw[M.len];have:=M.big;omega) q g h c a W b d
theorem Gu(M:Mp w0 p1 n c1 ns)(A:OkA w0 p1 n c1 ns f)(tab i:Nat)(br:tab+f<500000)(bd:i<=f)(J:i<ns.length)(bo:eB (al ns i).k=true)(o:Int)(x:¬ew (al ns i).k (al ns i).op<o):
  Wr w0 (vT p1 n c1) tab 123 #[pW w0,U X (i:Int),U X o] (prE ns (fun q=>AD ns f q tab) (fun q t=>uB ns f q t) (al ns i) tab):=by
 have bx:=M.big;have bF:=M.len;obtain⟨F,bD⟩:=nE (M.sz.nb i J);have bs:=An (M.sz.nb i J);have B:=fun G ap=>jc (M.sz.nb i J) J G ap;have l:(al ns i).k=31->1<=(al ns i).op/\(al ns i).op<=18:=fun e=>(qi F (by omega)).2.2 e;have u:i<n:=by omega
 have p:n<=1048576:=by omega
 have h:(al ns i).ks.length<=1048576:=by omega
 have bA:=bc bo;have a7:∀(a3:ByteArray)(g d:A7),bu w0 g (al ns i).nm->bi w0 d (al ns i).ks->((al ns i).k=28\/(al ns i).k=29\/(al ns i).k=31)->
   Wr w0 (vT p1 n c1) tab 156 #[pW w0,dj (al ns i) g d,A2 a3,U X (ew (al ns i).k (al ns i).op)] (Bc ns (fun q=>AD ns f q tab) (al ns i) a3 (ew (al ns i).k (al ns i).op)):=by
  intro a3 g d z j bp L W ao ar;obtain⟨H,c,I⟩:=qi F (by omega);obtain⟨a,b⟩:=B 0 (by omega);obtain⟨ad,s⟩:=B 1 (by omega);have r:=jE 2 0 c 0 (by omega) (by omega);have C:=jE 2 0 c 1 (by omega) (by omega);rw[b.id]at r;rw[s.id]at C;have b0:=zG (al ns i).k (al ns i).op;exact Ly w0 _ ns _ tab f (A.e tab (by omega)) (al ns i) g d j a ad b.at_ s.at_ (by have:=b.lt;omega) (by have:=s.lt;omega) r C h (fun af ak=>by rcases bp with e|e|e;exact absurd e ak;exact absurd e af;exact I e) a3 _ (by omega) (by omega) L W ao ar
 unfold prE;by_cases af:(al ns i).k=28
 ·rw[ab af];exact acL w0 p1 n c1 ns M.nds M.cap M.len p tab i u _ rfl h af l o x _ (fun g d z j=>a7 _ g d z j (by omega))
 rw[aa af];by_cases ak:(al ns i).k=29
 ·rw[ab ak];exact age w0 p1 n c1 ns M.nds M.cap M.len p tab i u _ rfl h ak l o x _ (fun g d z j=>a7 _ g d z j (by omega))
 rw[aa ak];by_cases am:(al ns i).k=31
 ·rw[ab am];exact adm w0 p1 n c1 ns M.nds M.cap M.len p tab i u _ rfl h am l o x (l am) (Gh (l am)) _ (fun g d z j=>a7 _ g d z j (by omega))
 rw[aa am];by_cases av:(al ns i).k=30
 ·rw[ab av];obtain⟨H,c,I⟩:=rg F (by omega);obtain⟨a,b⟩:=B 0 (by omega);rw[b.id]at c;exact Hj w0 p1 n c1 ns M.nds M.cap M.len p tab i u _ rfl h av l o x _ (fun g d z j L W ao ar=>aak w0 _ ns _ tab f (A.e tab (by omega)) M.nds (by omega) _ g d j a b.at_ (by have:=b.lt;omega) b.len h c (I av) L W ao ar)
 rw[aa av];by_cases a5:(al ns i).k=32
 ·rw[ab a5];obtain⟨H,c,I⟩:=qi F (by omega);obtain⟨a,b⟩:=B 0 (by omega);obtain⟨ad,s⟩:=B 1 (by omega);have r:=jE 2 0 c 0 (by omega) (by omega);have C:=jE 2 0 c 1 (by omega) (by omega);rw[b.id]at r⊢;rw[s.id]at C⊢;exact H0 w0 p1 n c1 ns M.nds M.cap M.len p tab i u _ rfl h a5 l o x a b.at_ _ (Wr.bas M A (by omega) (by have:=b.lt;omega) b.len r) ad s.at_ _ (Wr.expr0 A (by omega) (by have:=s.lt;omega) C)
 rw[aa a5];by_cases a6:(al ns i).k=33
 ·rw[ab a6];obtain⟨H,c,I⟩:=rg F (by omega);obtain⟨a,b⟩:=B 0 (by omega);rw[b.id]at c⊢;exact Ia w0 p1 n c1 ns M.nds M.cap M.len p tab i u _ rfl h a6 l o x a b.at_ _ (Wr.bas M A (by omega) (by have:=b.lt;omega) b.len c)
 rw[aa a6];by_cases a0:(al ns i).k=34
 ·rw[ab a0];obtain⟨H,c⟩:=J3 F a0;obtain⟨a,b⟩:=B 0 (by omega);have r:=jE _ 0 c 0 (by omega) (by omega);have bb:=oA M J bd (a:=1) (m:=(al ns i).ks.length-1) (fun G I bw=>jE _ 0 c G (by omega) (by omega)) (by omega);rw[cw (by rw[gJ];exact ah _)]at bb;rw[b.id]at r⊢;exact aaa w0 p1 n c1 ns M.nds M.cap M.len p tab i u _ rfl h a0 l o x a b.at_ _ (Wr.bas M A (by omega) (by have:=b.lt;omega) b.len r) _ (fun v j=>Wr.exs A (by omega) bb (by rw[gJ];omega) v j)
 rw[aa a0];by_cases a1:(al ns i).k=35
 ·rw[ab a1];have H:=Ga F a1;refine Hk w0 p1 n c1 ns M.nds M.cap M.len p tab i u _ rfl h a1 l o x _ (fun g d z j=>aac w0 p1 n c1 ns M.nds M.cap M.len p _ tab _ g d j h (fun b2 bt=>?_));obtain⟨G,ap,rfl⟩:=qh bt;obtain⟨y,K⟩:=B G ap;have c:=ad3 _ 0 H G (by omega) (by omega);rw[K.id]at c⊢;refine⟨y,rfl,K.len,?_⟩;obtain⟨bf,bE⟩:=nE (M.sz.nb y K.len);have a8:=fun G ap=>jc (M.sz.nb y K.len) K.len G ap;have b1:=K.lt;by_cases a9:(al ns y).k=41
  ·obtain⟨bl,an,bn⟩:=qi bf (by omega);obtain⟨a,b⟩:=a8 0 (by omega);obtain⟨ad,s⟩:=a8 1 (by omega);have r:=jE 2 0 an 0 (by omega) (by omega);have C:=jE 2 0 an 1 (by omega) (by omega);rw[b.id]at r;rw[s.id]at C;exact .inl ⟨a9,a,ad,b.at_,s.at_,Wr.expr0 A (by omega) (by have:=b.lt;omega) r,Wr.expr0 A (by omega) (by have:=s.lt;omega) C⟩
  ·obtain⟨bl,an,bn⟩:=rg bf (by omega);obtain⟨a,b⟩:=a8 0 (by omega);rw[b.id]at an;exact .inr ⟨a9,a,b.at_,Wr.expr0 A (by omega) (by have:=b.lt;omega) an⟩
 rw[aa a1];by_cases a2:(al ns i).k=36
 ·rw[ab a2];exact agr w0 p1 n c1 ns M.nds M.cap M.len p tab i u _ rfl h a2 l o x _ (Wr.bod M A br bd J a2)
 rw[aa a2];by_cases a4:(al ns i).k=37
 ·rw[ab a4];obtain⟨H,c,I⟩:=rg F (by omega);obtain⟨a,b⟩:=B 0 (by omega);rw[b.id]at c⊢;exact adq w0 p1 n c1 ns M.nds M.cap M.len p tab i u _ rfl h a4 l o x a b.at_ _ (Wr.expr0 A (by omega) (by have:=b.lt;omega) c)
 rw[aa a4];exact Hl w0 p1 n c1 ns M.nds M.cap M.len p tab i u _ rfl h (by omega) l o x _ (fun g d z j L W ao ar=>Lu w0 _ g d _ L tab W ao (by omega) (M.n0 i) (M.n1 i) (fun _=>bs) ar)
theorem aaC(M:Mp w0 p1 n c1 ns)(A:OkA w0 p1 n c1 ns f)(r:f<ns.length)(tab:Nat)(B:tab+(f+1)<=500000):OkE w0 (vT p1 n c1) ns (fun k=>AD ns (f+1) k tab) tab (f+1):=by
 intro k c e W s g o p h a;have q:=M.big;have x:=M.len;obtain⟨m,u⟩:=nE (M.sz.nb k (by omega));have l:(al ns k).k=31->1<=(al ns k).op/\(al ns k).op<=18:=fun i=>(qi m (by omega)).2.2 i;have j:AD ns (f+1) k tab=prE ns (fun d=>AD ns f d tab) (fun d t=>uB ns f d t) (al ns k) tab:=by rw[AD]
 unfold jJ at a⊢;simp only[j]at a⊢;by_cases b:ew (al ns k).k (al ns k).op<c
 ·rw[ab b]at a⊢;have z:=zG (al ns k).k (al ns k).op;exact adn w0 p1 n c1 ns M.nds M.cap M.len (by omega) tab k (by omega) _ rfl l c b _ (Gu M A tab k (by omega) (by omega) (by omega) g 0 (by omega)) e W h a
 ·rw[aa b]at a⊢;exact Gu M A tab k (by omega) (by omega) (by omega) g c b e W h a
end
section
variable {w0 : World} {p1 : Addr} {n c1 : Nat} {ns : List Nd} {f : Nat}
theorem Ay(M:Mp w0 p1 n c1 ns)(A:OkA w0 p1 n c1 ns f)(tab i:Nat)(G:tab+f<500000)(av:i<=f)(u:i<ns.length)(K:(al ns i).k=7)(j:ByteArray)(vn vk:A7)(a2:bu w0 vn (al ns i).nm)(x:bi w0 vk (al ns i).ks):
  Wr w0 (vT p1 n c1) tab 125 #[pW w0,dj (al ns i) vn vk,A2 j] (Fi ns (fun q=>AD ns f q tab) (fun q t=>uB ns f q t) (fun q w=>Be ns f q w tab) (al ns i) j tab):=by
 intro o W p a;have ar:=M.big;have a1:=M.len;obtain⟨ad,a0⟩:=nE (M.sz.nb i u);have z:=fun ak J=>jc (M.sz.nb i u) u ak J;obtain⟨ao,ap,C,F,H⟩:=ahl ad K;obtain⟨l,e⟩:=z 0 (by omega);obtain⟨m,b⟩:=z 1 (by omega);have a3:=e.lt;have a4:=b.lt;rw[e.id]at C;rw[b.id]at F;have s:=Wr.expr0 A (tab:=tab) (by omega) (show l<f by omega) C;have r:=Wr.blk M A G (show m<=f by omega) b.len F;unfold Fi at a⊢;rw[e.id,b.id]at a⊢;rcases cA (al ns i).ks.length 3 with g|g
 ·rw[ab g]at a⊢;rw[show ∀B:ByteArray,B++Y=B from fun B=>ByteArray.append_empty]at a⊢;exact Hy w0 _ _ _ tab _ vn vk x l m e.at_ b.at_ g s r j o W p a
 ·rw[aa (by omega)]at a⊢;obtain⟨d,c⟩:=z 2 (by omega);have wc:=c.lt;rw[c.id]at H a⊢;by_cases h:(al ns d).k=7
  ·rw[ab h]at a⊢;exact Dp w0 p1 n c1 ns M.nds M.len (by omega) _ _ _ tab _ vn vk x l m e.at_ b.at_ d c.at_ (by have:=c.len;omega) h (fun an am L af=>A.b d tab _ an am (by omega) h (by omega) L af) s r j o W p a
  ·rw[aa h]at a⊢;have I:=Wr.blk M A G (show d<=f by omega) c.len (show(al ns d).k=1 by omega);exact Dq w0 p1 n c1 ns M.nds M.len (by omega) _ _ _ tab _ vn vk x l m e.at_ b.at_ d c.at_ (by have:=c.len;omega) h I s r j o W p a
theorem aeu{N:Nd}(h:N.nm.length=1):N.nm[0]?=S (nm0 N):=by
 unfold nm0;rw[bm,aI (by omega)];rfl
theorem aev(M:Mp w0 p1 n c1 ns)(A:OkA w0 p1 n c1 ns f)(tab i:Nat)(G:tab+f<500000)(F:i<=f)(s:i<ns.length)(bo:iw (al ns i).k=true):
  Wr w0 (vT p1 n c1) tab 62 #[pW w0,U X (i:Int)] (prS ns (fun q=>AD ns f q tab) (fun q t=>uB ns f q t) (fun _ w=>Fi ns (fun q=>AD ns f q tab) (fun q t=>uB ns f q t) (fun q w=>Be ns f q w tab) (al ns i) w tab) (al ns i) tab):=by
 have bs:=M.big;have bx:=M.len;obtain⟨u,bw⟩:=nE (M.sz.nb i s);have x:=fun r bd=>jc (M.sz.nb i s) s r bd;have l:i<n:=by omega
 have o:n<=1048576:=by omega
 have j:(al ns i).ks.length<=1048576:=by omega
 have bt:=bc bo;have a9:∀k:Int,k=34->eB k=true:=fun k e=>by rw[e];rfl
 unfold prS;by_cases af:(al ns i).k=1
 ·rw[ab af];exact Ft w0 p1 n c1 ns M.nds M.cap M.len o tab i l _ rfl af j _ (Wr.blk M A G F s af)
 rw[aa af];by_cases L:(al ns i).k=2
 ·rw[ab L];obtain⟨h1,b⟩:=ad5 u L;have C:=fun v g=>Wr.nms (w0:=w0) (p1:=p1) (n:=n) (c1:=c1) (al ns i) (tab:=tab) (by omega) v g;by_cases B:(al ns i).ks=[]
  ·rw[ab B,show ∀I:ByteArray,I++Y=I from fun I=>ByteArray.append_empty];exact Hz w0 p1 n c1 ns M.nds M.cap M.len o tab i l _ rfl L j C (by rw[B];rfl)
  ·rw[aa B];have p:=oA M s F (a:=0) (m:=(al ns i).ks.length) (fun r h H=>jE _ 0 h1 r (by omega) (by omega)) (by omega);rw[jl,cw (ah _)]at p;exact LH w0 p1 n c1 ns M.nds M.cap M.len o tab i l _ rfl L j C (by rcases li (al ns i).ks.length with e|e;exact absurd (iE e) B;exact e) _ (fun v g=>Wr.exs A (by omega) p j v g)
 rw[aa L];by_cases an:(al ns i).k=3
 ·rw[ab an];obtain⟨h1,b,h⟩:=Gc u an;obtain⟨a,c⟩:=x 0 (by omega);have J:=c.lt;rw[c.id]at b⊢;exact Fw w0 p1 n c1 ns M.nds M.cap M.len o tab i l _ rfl an j _ (aeu h) a c.at_ _ (Wr.expr0 A (by omega) (by omega) b)
 rw[aa an];by_cases ao:(al ns i).k=4
 ·rw[ab ao];obtain⟨h1,b,h⟩:=ad6 u ao;obtain⟨a,c⟩:=x 0 (by omega);have J:=c.lt;rw[c.id]at b⊢;exact adp w0 p1 n c1 ns M.nds M.cap M.len o tab i l _ rfl ao j _ (aeu h) a c.at_ _ (Wr.bod M A G (by omega) c.len b)
 rw[aa ao];by_cases ap:(al ns i).k=5
 ·rw[ab ap];obtain⟨h1,b,h,H⟩:=ai2 u ap;obtain⟨m,bf⟩:∃m:Nat,(al ns i).n=(m:Int):=⟨(al ns i).n.toNat,by omega⟩;have bl:(al ns i).n.toNat=m:=by omega
  rw[bl]at h H⊢;have p:=oA M s F (a:=0) (m:=m) (fun r a1 a2=>ahj _ 0 h r (by omega) (by omega)) (by omega);rw[jl]at p;have bb:=oA M s F (a:=m) (m:=(al ns i).ks.length-m) (fun r a1 a2=>jE _ m H r (by omega) (by omega)) (by omega);rw[cw (by rw[gJ];exact ah _)]at bb;exact adl w0 p1 n c1 ns M.nds M.cap M.len o tab i l _ rfl ap j m bf (by omega) (by omega) _ (fun v g=>Wr.exs A (by omega) p (by rw[eJ];omega) v g) _ (fun v g=>Wr.exs A (by omega) bb (by rw[gJ];omega) v g)
 rw[aa ap];by_cases a6:(al ns i).k=6
 ·rw[ab a6];obtain⟨h1,b⟩:=J4 u (by omega);obtain⟨a,c⟩:=x 0 (by omega);have J:=c.lt;rw[c.id]at b⊢;exact agq w0 p1 n c1 ns M.nds M.cap M.len o tab i l _ rfl a6 j a c.at_ _ (Wr.expr0 A (by omega) (by omega) (a9 _ b))
 rw[aa a6];by_cases ar:(al ns i).k=7
 ·rw[ab ar];exact adk w0 p1 n c1 ns M.nds M.cap M.len o tab i l _ rfl ar j _ (fun br bp bn g=>Ay M A tab i G F s ar _ br bp bn g)
 rw[aa ar];by_cases av:(al ns i).k=8
 ·rw[ab av];obtain⟨h1,b,h⟩:=Ge u av;obtain⟨a,c⟩:=x 0 (by omega);obtain⟨z,d⟩:=x 1 (by omega);have J:=c.lt;have a3:=d.lt;rw[c.id]at b⊢;rw[d.id]at h⊢;exact FI w0 p1 n c1 ns M.nds M.cap M.len o tab i l _ rfl av j a c.at_ _ (Wr.expr0 A (by omega) (by omega) b) z d.at_ _ (Wr.blk M A G (by omega) d.len h)
 rw[aa av];by_cases a8:(al ns i).k=9\/(al ns i).k=10
 ·rw[ab a8];by_cases a7:(al ns i).k=10
  ·rw[aa (by omega)];obtain⟨h1,b,h,H⟩:=J5 u a7;rw[h1];have C:=fun v g=>Wr.nms (w0:=w0) (p1:=p1) (n:=n) (c1:=c1) (al ns i) (tab:=tab) (by omega) v g;have p:=oA M s F (a:=0) (m:=1) (fun r a1 a2=>by have e:r=0:=(by omega);subst e;exact b) (by omega);rw[jl]at p;obtain⟨z,d⟩:=x 1 (by omega);have a3:=d.lt;show Wr _ _ _ _ _ (_++_++_++_++_++AC _ (al ns (cL (al ns i) 1)).ks tab);rw[d.id]at h⊢;exact LJ w0 p1 n c1 ns M.nds M.cap M.len o tab i l _ rfl a7 j C h1 _ (fun v g=>Wr.exs A (by omega) p (by rw[eJ];omega) v g) z d.at_ _ (Wr.blk M A G (by omega) d.len h)
  ·have a0:(al ns i).k=9:=by omega
   rw[ab a0];obtain⟨h1,b,h,H⟩:=ad7 u a0;have C:=fun v g=>Wr.nms (w0:=w0) (p1:=p1) (n:=n) (c1:=c1) (al ns i) (tab:=tab) (by omega) v g;rcases h1 with h1|h1
   ·rw[h1]at b h⊢;have p:=oA M s F (a:=0) (m:=2) (fun r a1 a2=>jE _ 0 b r (by omega) (by omega)) (by omega);rw[jl]at p;obtain⟨z,d⟩:=x 2 (by omega);have a3:=d.lt;have ad:(al ns (cL (al ns i) 2)).k=1:=h;show Wr _ _ _ _ _ (_++_++_++_++_++AC _ (al ns (cL (al ns i) 2)).ks tab);rw[d.id]at ad⊢;exact LK w0 p1 n c1 ns M.nds M.cap M.len o tab i l _ rfl a0 j C h1 _ (fun v g=>Wr.exs A (by omega) p (by rw[eJ];omega) v g) z d.at_ _ (Wr.blk M A G (by omega) d.len ad)
   ·rw[h1]at b h⊢;have p:=oA M s F (a:=0) (m:=3) (fun r a1 a2=>jE _ 0 b r (by omega) (by omega)) (by omega);rw[jl]at p;obtain⟨z,d⟩:=x 3 (by omega);have a3:=d.lt;have ad:(al ns (cL (al ns i) 3)).k=1:=h;show Wr _ _ _ _ _ (_++_++_++_++_++AC _ (al ns (cL (al ns i) 3)).ks tab);rw[d.id]at ad⊢;exact LL w0 p1 n c1 ns M.nds M.cap M.len o tab i l _ rfl a0 j C h1 _ (fun v g=>Wr.exs A (by omega) p (by rw[eJ];omega) v g) z d.at_ _ (Wr.blk M A G (by omega) d.len ad)
 rw[aa a8];by_cases a4:(al ns i).k=11
 ·rw[ab a4];exact In w0 p1 n c1 ns M.nds M.cap M.len o tab i l _ rfl a4 j
 rw[aa a4];by_cases a5:(al ns i).k=12
 ·rw[ab a5];exact aah w0 p1 n c1 ns M.nds M.cap M.len o tab i l _ rfl a5 j
 rw[aa a5];by_cases K:(al ns i).k=13
 ·rw[ab K];have h1:=ai3 u K;by_cases B:(al ns i).ks=[]
  ·rw[ab B,show ∀I:ByteArray,I++Y=I from fun I=>ByteArray.append_empty];exact Io w0 p1 n c1 ns M.nds M.cap M.len o tab i l _ rfl K j (by rw[B];rfl)
  ·rw[aa B];have p:=oA M s F (a:=0) (m:=(al ns i).ks.length) (fun r h H=>jE _ 0 h1 r (by omega) (by omega)) (by omega);rw[jl,cw (ah _)]at p;exact aai w0 p1 n c1 ns M.nds M.cap M.len o tab i l _ rfl K j (by rcases li (al ns i).ks.length with e|e;exact absurd (iE e) B;exact e) _ (fun v g=>Wr.exs A (by omega) p j v g)
 rw[aa K];by_cases ak:(al ns i).k=14
 ·rw[ab ak];obtain⟨h1,b,h,H⟩:=ad8 u ak;have C:=fun v g=>Wr.nms (w0:=w0) (p1:=p1) (n:=n) (c1:=c1) (al ns i) (tab:=tab) (by omega) v g;obtain⟨a,c⟩:=x 0 (by omega);obtain⟨z,d⟩:=x 1 (by omega);have J:=c.lt;have a3:=d.lt;rw[c.id]at b⊢;rw[d.id]at h⊢;exact LI w0 p1 n c1 ns M.nds M.cap M.len o tab i l _ rfl ak j C a c.at_ _ (Wr.blk M A G (by omega) c.len b) z d.at_ _ (Wr.blk M A G (by omega) d.len h)
 rw[aa ak];by_cases am:(al ns i).k=15
 ·rw[ab am];obtain⟨h1,b⟩:=Gf u am;obtain⟨a,c⟩:=x 0 (by omega);have J:=c.lt;rw[c.id]at b⊢;exact Fu w0 p1 n c1 ns M.nds M.cap M.len o tab i l _ rfl am j a c.at_ _ (Wr.expr0 A (by omega) (by omega) b)
 rw[aa am,ab (by omega)];obtain⟨h1,b⟩:=J4 u (by omega);obtain⟨a,c⟩:=x 0 (by omega);have J:=c.lt;rw[c.id]at b⊢;exact Fv w0 p1 n c1 ns M.nds M.cap M.len o tab i l _ rfl (by omega) j a c.at_ _ (Wr.expr0 A (by omega) (by omega) (a9 _ b))
theorem aew(M:Mp w0 p1 n c1 ns)(A:OkA w0 p1 n c1 ns f)(i:f<ns.length):OkA w0 p1 n c1 ns (f+1):=
 ⟨fun b e=>aaC M A i b e,
  fun g b c W j l e d a=>by
  simp only[uB]at a⊢;exact aev M A b g (by omega) (by omega) (by omega) l c W d a,
  fun g b q p o j h e k m c W d a=>by
  simp only[Be]at a⊢;exact Ay M A b g (by omega) (by omega) (by omega) h q p o k m c W d a⟩
theorem okA(M:Mp w0 p1 n c1 ns):∀f,f<=ns.length->OkA w0 p1 n c1 ns f
 |0,_=>OkA.zero w0 p1 n c1 ns
 |f+1,h=>aew M (okA M f (by omega)) (by omega)
end
open Go.Lib (strCells strCells_length)
theorem D5(T:ByteArray):strCells T=B8 (nJ T.data.toList):=by
 unfold strCells B8 nJ;rw[List.map_map];rfl
theorem aaD{w:Ax}{base g n cap:Nat}{T:ByteArray}(a:w.ownsRow base 5 1 (Q (S ⟨g,0,Z⟩) n cap) n (strCells T)):
  (convert 22 9 (Q (S ⟨g,0,Z⟩) n cap)).run O w= .ok (A2 T) w:=by
 rw[D5]at a;rw[je a,po]
def nF(ns:List Nd):ByteArray:=if(cF ns).1=0 then Hi ns else⟨#[]⟩
theorem ij.below{w W:Ax}{p1:Addr}{n c1:Nat}{ns:List Nd}(h:ij w p1 ns)(j:cg w (Q (S p1) n c1) ns)(k:A1 w.heap.size w W):ij W p1 ns:=by
 intro l a b c g e;obtain⟨o,i,p,m,d⟩:=j.get g;cases i;have:=cell_kept k d.c8;rw[this]at e;obtain rfl:m= Q b a.ks.length c:=by simpa using e
 exact h l a b c g d.c8
theorem ajk{ns:List Nd}(h:(cF ns).1=0):0<ns.length/\ns.length<=3000/\(al ns ((ns.length:Int)-1)).k=1:=by
 have e:=lC h;have:=e.len;unfold cF at h;by_cases b:gB ns=true
 ·rw[ab b]at h;exact absurd h (by decide)
 ·have c:gB ns=false:=by simpa using b
  have d:=ig c;refine⟨by omega,by omega,?_⟩;by_cases a:(ns.getD (ns.length-1) AB).k=1
  ·unfold al;rw[show((ns.length:Int)-1).toNat=ns.length-1 by omega];rw[bm,aI (by omega)]at a⊢;exact a
  ·exact absurd (.inr (.inr a)) d
theorem Pr.new(a:Ax)(b:A7):Pr a b Y 0 (a.alloc (A0 #[b,Q Z 0 0,U X 0] 126)):=
 ⟨(aj _ a).alloc (ah _) _,Q Z 0 0,aw a _,bk _ _ _ _⟩
theorem Bv(w:Ax)(p1:Addr)(n c:Nat)(ns:List Nd)(h:cg w (Q (S p1) n c) ns)(b7:ij w p1 ns)(a2:ns.length=n)(ei:n<=1048576)(cy:∀N∈ns,fx N)(b8:∀N∈ns,qA N):
  A9 O 32 #[.agg #[Q (S p1) n c]] w fun e d2=>e= A6 (A2 (nF ns))/\A1 w.heap.size w d2:=by
 have b4:∀u,A1 w.heap.size w (w.alloc u):=fun u=>(aj _ w).alloc (ah _) u;have o:=tI h b7 b8 a2;have bs:=fun u=>qc (w.alloc u) (Q (S p1) n c) ns (h.below (b4 u)) (by omega) cy;obtain⟨bD,bn⟩:=aA ((cF ns).1);obtain⟨k,b2⟩:=aA ((cF ns).2);rw[bn,b2]at bs;have K:=aq bn;clear h cy b8 a2 bn b2 b7;go_in;go_wp2_with fail;have bA:=aw w (A0 #[Q (S p1) n c] 25);have dq:(w.alloc (A0 #[Q (S p1) n c] 25)).heap.size=w.heap.size+1:=ba _ _;refine cd (bs _) fun w1 F=>?_;have J:=(F.block _ (by omega)).trans bA;have G:A1 w.heap.size w w1:=(b4 _).trans (F.mono (by omega));clear bA F bs;by_cases C:bD=0
 ·subst C;have c1:=ch J;have el:=ax J;have c7:((0:Int)!=0)=false:=rfl;have a0:A1 w1.heap.size w1 (w1.alloc (A0 #[U X 0,U X k] 45)):=(aj _ w1).alloc (ah _) _;have l:A1 w.heap.size w (w1.alloc (A0 #[U X 0,U X k] 45)):=G.trans (a0.mono G.size);have af:(w1.alloc (A0 #[U X 0,U X k] 45)).cell? ⟨w.heap.size,0,Z⟩=S (Q (S p1) n c):=cell_kept a0 c1;obtain⟨d1,cu,bt⟩:=ajk K.out;have a2:=o.out.2.2.2;obtain⟨b,rfl⟩:∃b,n=b+1:=⟨n-1,by omega⟩;have bo:al ns ((ns.length:Int)-1)=al ns (b:Int):=by congr 1;omega
  rw[bo]at bt;obtain⟨d7,d4,d9,bF,j,b0,ad⟩:=eG o.out.1 o.out.2.1 (show b<ns.length by omega);have bd:=(ad.rd _ (l.trans (((aj _ _).alloc (ah _) (A0 #[Q (S p1) (b+1) c,Q Z 0 0,U X 0] 126)).mono l.size))).c8;have ea:((b:Int)+1)-1=(b:Int):=by omega
  have eo:(0:Int)<=(b:Int):=by omega
  have ep:(b:Int)<(b:Int)+1:=by omega
  have M:Mp (w1.alloc (A0 #[U X 0,U X k] 45)) p1 (b+1) c ns:=by
   refine⟨o.out.1.below l,o.out.2.1.below o.out.1 l,a2,by omega,ai0 K.out,fun cq=>?_,fun cq=>?_⟩;all_goals
    unfold al;rw[bm];cases e:ns[cq.toNat]? with
    |none=>decide
    |some N=>have:=(o.out.2.2.1 N (bC e)).n;simp only[gl];omega
  have cb:=It M.sz M.n1 (by omega) (by omega);have a6:=Pr.new (w1.alloc (A0 #[U X 0,U X k] 45)) (Q (S p1) (b+1) c);have a7:=aq a6;have bb:((w1.alloc (A0 #[U X 0,U X k] 45)).alloc (A0 #[Q (S p1) (b+1) c,Q Z 0 0,U X 0] 126)).cell? ⟨w.heap.size,0,Z⟩=S (Q (S p1) (b+1) c):=cell_kept ((aj _ _).alloc (ah _) _) af;generalize dd:w1.alloc (A0 #[U X 0,U X k] 45)=p at M a7 a6 bb af bd l a0;have A:=okA M ns.length (ah _);obtain⟨cf,dk⟩:=nE (M.sz.nb b (by omega));have b6:=Ao cf bt;have bp:=ad.hL;obtain⟨r,x⟩:=aA ((al ns (b:Int)).ks);obtain⟨d,a1⟩:∃d,(r.map fun a=>uB ns ns.length a 0++(⟨#[10]⟩:ByteArray))=d:=⟨_,rfl⟩;have ca:mL ns=jf d:=by unfold mL;rw[bo,x,a1]
  have cm:∀z∈r,∃g:Nat,z=(g:Int)/\g<ns.length/\iw (al ns g).k=true:=by
   intro z a4;rw[<-x]at a4;obtain⟨cr,df,rfl⟩:=qh a4;obtain⟨y,co⟩:=jc (M.sz.nb b (by omega)) (by omega) cr df;have:=J2 _ 0 b6 cr (by omega) (by omega);rw[co.id]at this⊢;exact⟨y,rfl,co.len,this⟩
  have b9:bi p (Q bF j b0) r:=by rw[<-x];exact ad.ks.below l
  have i:Hid (OkA p p1 (b+1) c ns ns.length/\bi p (Q bF j b0) r/\(∀z∈r,∃g:Nat,z=(g:Int)/\g<ns.length/\iw (al ns g).k=true)/\r.length=j/\(r.map fun a=>uB ns ns.length a 0++(⟨#[10]⟩:ByteArray))=d/\mL ns=jf d/\(mL ns).size<=6000000000/\ns.length<=3000/\d.length=j):=⟨A,b9,cm,by rw[<-x];exact bp,a1,ca,cb,cu,by rw[<-a1,dv,<-x];exact bp⟩;have ec:j<=200:=by omega
  have a5:=aq l;subst dd;clear A cf b6 bp x a1 ca cm b9 cb M a6 ad bo d1 cu bt dk J a0 G dq l;go_wp2_with fail;have br:(w1.alloc (A0 #[U X 0,U X k] 45)).heap.size=w1.heap.size+1:=ba _ _;generalize w1.alloc (A0 #[U X 0,U X k] 45)=p at a7 i a5 af bb bd br⊢;have a8:=aq br;clear br;go_loopw [25] (fun v wr=>∃a:Nat,a<=j/\v= U X a/\Hid (Pr p (Q (S p1) (b+1) c) (jf (d.take a)) 0 wr)) (fun v _=>j-(A8 v).toNat)
  case atStart=>exact⟨0,by omega,rfl,a7.out⟩
  case round=>
   clear bb bd af c1;obtain⟨a,ef,rfl,B⟩:=hrel;by_cases dp:a<j
   ·obtain⟨z,a3⟩:=bj i.out.2.2.2.1 dp;obtain⟨g,rfl,cc,ce⟩:=i.out.2.2.1 z (bC a3);obtain⟨d6,rfl,c5⟩:=(i.out.2.1.below B.out.bel).get a3;have eh:(a:Int)<(j:Int):=by omega
    have eg:(0:Int)<=(a:Int):=by omega
    have cl:d[a]?=S (uB ns ns.length g 0++⟨#[10]⟩):=by rw[<-i.out.2.2.2.2.1,cj,a3];rfl
    have bf:=vK d a _ cl;have bl:=Jw d (a+1);have b1:=i.out.2.2.2.2.2.2.1;rw[i.out.2.2.2.2.2.1]at b1;rw[bf]at bl;simp only[ag]at bl;have a4:(jf (d.take a)).size+((uB ns ns.length g 0).size+1)<=6000000000:=by
     have e:(⟨#[10]⟩:ByteArray).size=1:=rfl;omega
    have I:=i.out.1.s g 0 (jf (d.take a)) wr cc ce (by have:=i.out.2.2.2.2.2.2.2.1;omega) B.out (by show _+(uB ns ns.length g 0).size<=_;omega);have bE:=aq bf;simp only at I;obtain⟨d5,b3⟩:=aA (uB ns ns.length g 0);rw[b3]at I bE a4;rw[a8.out]at I;clear bf bl b1 a3 cl b3 cc ce;go_wp2_with fail;refine I.mono ?_;rintro e eq ⟨rfl,cx,ds⟩;have cz:=aq cx;clear cx ds c5 I;go_wp2_with fail;have ct:=aE p _ _ ⟨#[10]⟩ _ _ cz.out (by rw[ag];show _+_+1<=_;omega);rw[a8.out]at ct;refine ct.mono ?_;rintro e es ⟨rfl,bx,dz⟩;rw[aF,<-bE.out]at bx;have cB:=aq bx;clear bx dz;go_wp2_with fail;exact⟨⟨a+1,by omega,by go_num,cB.out⟩,by simp[A8];omega⟩
   ·obtain rfl:a=j:=by omega
    have ap:d.take a=d:=cw (by rw[i.out.2.2.2.2.2.2.2.2];exact ah _);rw[ap,<-i.out.2.2.2.2.2.1]at B;have a9:A1 w.heap.size w wr:=a5.out.trans (B.out.bel.mono a5.out.size);obtain⟨u,ar,q⟩:=B.out.row;have m:Hid (nF ns=if 65536<(mL ns).size then Y else mL ns):=by show _=_;unfold nF Hi;rw[ab K.out]
    have cp:=i.out.2.2.2.2.2.2.1;obtain⟨D,ao⟩:=aA (mL ns);rw[ao]at q m cp;obtain⟨am,H⟩:=aA D.size;rw[H]at q m cp;obtain⟨c4,c6,rfl⟩:=bI q;have d3:wr.cell? ⟨p.heap.size,1,Z⟩=S (Q c4 am c6):=by rw[az _ _ _ _ _ _ ar];rfl
    rw[a8.out]at d3;by_cases b5:65536<am
    ·have L:Hid (nF ns=Y):=by show _=_;rw[m.out,ab b5]
     have F:(65536:Int)<(am:Int):=by omega
     clear ap ao m q ar H;go_wp2_with fail;go_ret;exact⟨by rw[L.out];rfl,a9⟩
    ·have L:Hid (nF ns=D):=by show _=_;rw[m.out,aa b5]
     have F:¬(65536:Int)<(am:Int):=by omega
     rcases bq q with⟨C,e⟩|⟨eb,d8,e⟩
     ·cases e;have c9:D=⟨#[]⟩:=by
       apply rn;have:D.data.size=0:=H;exact Array.eq_empty_of_size_eq_zero this
      have d0:(convert 22 9 (Q Z 0 0)).run O wr= .ok (A2 ⟨#[]⟩) wr:=by kernel_rfl
      clear ap ao m q ar H;go_wp2_with fail;go_ret;exact⟨by rw[L.out,c9];rfl,a9⟩
     ·cases e;have d0:=aaD q;clear ap ao m ar H;go_wp2_with fail;go_ret;exact⟨by rw[L.out];rfl,a9⟩
 ·have c7:(bD !=0)=true:=by rw[mo];exact C
  have c1:=ch J;have c0:Hid (nF ns=⟨#[]⟩):=by show _=_;unfold nF;rw[aa (by rw[K.out];exact C)]
  clear C;go_wp2_with fail;go_ret;exact⟨by rw[c0.out];rfl,G.trans (((aj _ w1).alloc (ah _) _).mono G.size)⟩
end Go.Proofs.YtnoojdbdapljoaaGreatDoor
namespace Go.Proofs.YtnoojdbdapljoaaGreatDoor
open Go.RowKit Go.Maps Go.WideMaps
theorem Lw.kcap{w:Ax}{r g n c:Nat}{a:List Mb}(h:Lw w r (Q (S ⟨g,0,Z⟩) n c) a)(p:a.length=n):ij w ⟨g,0,Z⟩ (a.map Mb.N):=fun b N s u e d=>by
 subst p;rw[cj]at e;obtain⟨y,i,rfl⟩:=Option.map_eq_some_iff.1 e;obtain⟨_,_,_,_,_,_,_,_,m⟩:=mD h.row i;have o:(⟨((⟨g,0,Z⟩:Addr).add (b*9)).block,((⟨g,0,Z⟩:Addr).add (b*9)).off+8,Z⟩:Addr)=⟨g,b*9+8,Z⟩:=by
  unfold Addr.add;split<;>simp_all
 rw[o,m]at d;have q:=db d;have j:=(h.each y (bC i)).2;rw[q]at j;rcases j.2 with⟨k,l⟩|⟨B,x,z,k,_,_,l,_⟩
 ·omega
 ·cases k;exact l
theorem Je.small{N:Nd}(h:Je N):fx N:=⟨by have:=h.nm;omega,by have:=h.ks;omega,by have:=h.x;omega,fun b a=>by have:=h.s b a;omega⟩
theorem Gv(ns:List Nd):(nF ns).size<=65536:=by
 unfold nF;split
 ·unfold Hi;split
  ·decide
  ·omega
 ·decide
theorem ajl{E:Bs}{W:Ax}{y:Int}(h:Cu E W y)(b:y<=10):A9 O 13 #[cV E] W fun e o=>∃t:ByteArray,e= A6 (A2 t)/\t.size<=1048576/\A1 E.base W o:=by
 have C:=ajH h b;go_in;go_wp2_with fail;refine C.mono ?_;rintro e w1 ⟨u,n,s,d,rfl,m,I,i,j,x,B⟩;have k:∀a,A9 O 32 #[.agg #[Q (S ⟨u,0,Z⟩) n s]] (w1.alloc a) fun e o=>e= A6 (A2 (nF (d.map Mb.N)))/\A1 (w1.alloc a).heap.size (w1.alloc a) o:=fun a=>by
  have q:=bel1 w1 a;have nd:=i.nds;exact Bv (w1.alloc a) ⟨u,0,Z⟩ n s (d.map Mb.N) (nd.below q) ((i.kcap m).below nd q) (by rw[dv,m]) (by omega)
   (fun G l=>by obtain⟨y,b,rfl⟩:=List.mem_map.1 l;exact(j y b).small) (fun G l=>by obtain⟨y,b,rfl⟩:=List.mem_map.1 l;exact(j y b).int)
 have z:=Gv (d.map Mb.N);generalize nF (d.map Mb.N)=P at k z;have c:=dx x B;clear C i j x B m I;go_wp2_with fail;refine cd (k _) fun L r=>?_;have g:=(bel1 w1 _).trans (r.mono (bel1 w1 _).size);have p:=c.out.1.below g c.out.1.lt;have K:=ajj p (by decide) P z;have F:=aq (c.out.2.trans (g.mono c.out.1.lo.2));clear k r g p;go_wp2_with fail;refine K.mono ?_;rintro e ad ⟨t,rfl,J,H⟩;go_wp2_with fail;go_ret;exact⟨t,rfl,J,F.out.trans H⟩
theorem ag3(w:Ax)(b:Option Addr)(a cap:Nat)(i:a<=1048576)(h:Code w.heap.size w b a):
  A9 O 5 #[Q b a cap] w fun e l=>∃s:ByteArray,e= A6 (A2 s)/\s.size<=1048576/\A1 w.heap.size w l:=by
 have c:=bel1 w (A0 #[Q b a cap,U X 0,U .u64 0,U X 0] 50);have g:Cu ⟨w.heap.size,w.heap.size,0,b,a,cap,0⟩ (w.alloc (A0 #[Q b a cap,U X 0,U .u64 0,U X 0] 50)) 0:=⟨⟨ah _,c.size⟩,i,h.below c,0,0,0,aw w _,by decide,by decide,by decide,by decide⟩;have k:=ajl g (by decide);go_in;go_wp2_with fail;refine k.mono ?_;rintro e w1 ⟨t,rfl,j,d⟩;go_wp2_with fail;go_ret;exact⟨t,rfl,j,c.trans d⟩
theorem Gw(w:Ax)(v:A7)(ns:List Nd)(h:cg w v ns)(J:ns.length<=1048576)(af:∀N∈ns,fx N)(a:nI w)(ak:Br)(fr:Nat×Nat)(u:w.heap[0]?=S (.cells eE ak fr))
  (L:∀W,A1 w.heap.size w W->A5 O W "strings.asciiSpace" .u8 A4):
  A9 O 20 #[.agg #[v]] w fun e ap=>e= .returned (.agg #[.int .i64 (cF ns).1,.int .i64 (cF ns).2])/\A1 w.heap.size w ap:=by
 have G:∀z B,A1 w.heap.size w ((w.alloc z).alloc B):=fun z B=>((aj _ w).alloc (ah _) z).alloc (by simp) B;have p:Hid (∀W,A1 w.heap.size w W->A9 O 14 #[.agg #[v]] W (vg W ns)):=fun W g=>
  Av W v ns (h.below g) J af (a.below g (ah _)) ak fr ((g.block _ (ax u)).trans u) (fun q ao=>L q (g.trans (ao.mono g.size)))
 obtain⟨k,l,rfl⟩:=h.form;obtain⟨n,K⟩:=aA ns.length;rw[K]at p⊢;obtain⟨c,r⟩:=aA ((cF ns).1);obtain⟨d,s⟩:=aA ((cF ns).2);have j:=dx r s;rw[r,s];clear h J af a u L K r s;go_in;go_wp2_with fail;have o:ix (w.heap.size+1) ((w.alloc (.cells #[.slice k n l] 25)).alloc (.cells #[.int .i64 0,.int .i64 0] 45)) 0 0:=by
  have:=aw (w.alloc (.cells #[.slice k n l] 25)) (.cells #[.int .i64 0,.int .i64 0] 45);rw[ba]at this;exact this
 have b:=G (.cells #[.slice k n l] 25) (.cells #[.int .i64 0,.int .i64 0] 45);generalize (w.alloc (.cells #[.slice k n l] 25)).alloc (.cells #[.int .i64 0,.int .i64 0] 45)=q at o b⊢;refine(p.out q b).mono ?_;rintro e i ⟨x,I⟩;obtain⟨ad,rfl⟩:∃ad,e= .returned (.tuple #[ad,.agg #[.int .i64 c,.int .i64 d]]):=by
  rcases I with⟨_,a⟩|⟨an,_,_,_,ar,a,_⟩
  ·exact⟨_,by rw[a,j.out.1,j.out.2]⟩
  ·refine⟨nV ar,?_⟩;rw[a,<-j.out.1,<-j.out.2,an]
 have m:=o.below x;obtain⟨av,a0,a1⟩:=il m;have a2:w.heap.size+1<i.heap.size:=ax m;have a3:w.heap.size+1≠i.heap.size:=by omega
 have H:A1 w.heap.size w i:=b.trans (x.mono b.size);have C:=dx H m;clear I x o b p H m G;go_wp2_with fail;have am:=(nh C.out.2 c d).below ((aj _ ((i.setCell ⟨w.heap.size+1,0,Z⟩ (.int .i64 c)).setCell ⟨w.heap.size+1,1,Z⟩ (.int .i64 d))).alloc (ah _) (.cells #[.int .i64 c,.int .i64 d] 45));have F:A1 w.heap.size w ((i.setCell ⟨w.heap.size+1,0,Z⟩ (.int .i64 c)).setCell ⟨w.heap.size+1,1,Z⟩ (.int .i64 d)):=(C.out.1.setCell (by simp) _).setCell (by simp) _;exact bB (gi rfl _ _ (w.heap.size+1) _ _ _ _ rfl am Tryz.underlying45 rfl (by kernel_rfl)) rfl ⟨rfl,F.alloc F.size _⟩
def tu(z:Int):Prop:= -9223372036854775808<=z/\z<=9223372036854775807
theorem lF(z:Int)(a:0<=z)(b:z<=1000000):tu z:=⟨by omega,by omega⟩
def TkI(T:Tk):Prop:=(0<=T.k/\T.k<=78)/\tu T.f/\tu T.t/\tu T.l/\tu T.n
def NiB(N:Nd):Prop:=tu N.k/\tu N.f/\tu N.t/\tu N.l/\tu N.op/\tu N.n
def akk:tq->Prop
 | .more _ s x=>TkI s/\x.all NiB
 | .post s a=>TkI s/\a.all NiB
 | .body s=>TkI s
 |_=>True
theorem nib{k e op m:Int}{s:Tk}{x:ByteArray}{nm:List ByteArray}(a:TkI s)(c:tu k)(b:tu e)(g:tu op)(d:tu m):NiB (nd k s e op m x nm):=⟨c,a.2.1,b,a.2.2.2.1,g,d⟩
theorem ag4{k e:Int}{s:Tk}(c:TkI s)(b:tu e)(d:0<=k)(g:k<=78):NiB (pd k s e):=by
 have a:tu 0:=lF _ (by decide) (by decide);unfold pd im;split
 ·exact nib c (lF _ (by decide) (by decide)) b a a
 split
 ·exact nib c (lF _ (by decide) (by decide)) b a a
 ·exact nib c (lF _ (by decide) (by decide)) b ⟨by omega,by omega⟩ a
theorem ajm(k:Int):tu (KA k):=by
 unfold KA;split
 ·exact lF _ (by decide) (by decide)
 split
 ·exact lF _ (by decide) (by decide)
 split<;>exact lF _ (by decide) (by decide)
theorem aex{N:Nd}{ks:Fo}{s:Tk}{e:Int}(d:TkI s)(c:tu e)(h:NiB N)(a:ks.all NiB):(jG N ks s e).all NiB:=by
 have b:tu 0:=lF _ (by decide) (by decide);unfold jG;split
 ·rw[eD,eD];exact⟨nib d (lF _ (by decide) (by decide)) c b b,h,a⟩
 ·rw[eD];exact⟨h,a⟩
theorem P.ni{tk:Nat->Tk}{n:Nat}(g:n<=100000)(a:∀q,TkI (tk q)){t:tq}{i j:Nat}{R:Fo}(h:P tk n t i R j):akk t->R.all NiB:=by
 have c:∀q,tu (tk q).t:=fun q=>(a q).2.2.1;have e:∀q,tu (tk q).n:=fun q=>(a q).2.2.2.2
 induction h
 case mgo s x y R k k1 j h1 h2 h3 h4 h5 i1 i2=>intro b;exact i2 ⟨b.1,(eD _ _ _).2 ⟨ag4 b.1 (c _) (a k).1.1 (a k).1.2,(mz _ _ _).2 ⟨b.2,i1 trivial⟩⟩⟩
 case bopen h1 h2 h3 h4 h5 h6 i1 i2=>intro _;have:=i1 trivial;rw[eD]at this;exact i2 ⟨a _,aex (a _) (c _) this.1 this.2⟩
 case body nm r B h1 h2 h3 h4 ih=>
  intro b;rw[eD];exact⟨nib b (lF _ (by decide) (by decide)) (c _) (by split<;>exact lF _ (by decide) (by decide)) (lF _ (by decide) (by decide)),ih trivial⟩
 case tset x R E h1 h2 h3 h4 h5 h6 h7 i1 i2 i3=>
  intro _;have p1:=h3.pos;have p2:=h4.pos;have d:=(x.app R).len_le;rw[Fo.sz_app]at d;simp only[iz,slk,bas]at p1 p2;rw[eD,mz,mz];exact⟨nib (a _) (lF _ (by decide) (by decide)) (c _) (lF _ (by decide) (by decide)) (lF _ (by omega) (by omega)),⟨i1 trivial,i2 trivial⟩,i3 trivial⟩
 all_goals
  intro b
  simp_all [eD,mz,akk,Fo.all,nib,ajm,im,lF]
theorem ahn(s:ByteArray)(p:Nat):tu (fj s p).n:=by
 have a:tu 0:=lF _ (by decide) (by decide);unfold fj;split
 ·exact a
 split
 ·split
  ·show tu (Hm s p).2.1;unfold Hm;split
   ·show tu (wrap64 _);unfold wrap64 tu;omega
   ·split
    ·rename_i c b;split at b
     ·cases b
     ·have:=aa8 _ _ _ _ b;exact⟨by show _<=(c:Int);omega,by show(c:Int)<=_;omega⟩
    ·exact a
  ·exact a
 split
 ·split<;>exact a
 split<;>exact a
theorem Kl(s:ByteArray)(o:s.size<=65536):∀(f:Nat)(st:List Int)(p:Nat)(a:Int)(d:List Tk),p<=s.size->0<=a->a+f<=1000000->(∀T∈d,TkI T)->∀T∈(uH s f st p a d).1,TkI T
 |0,st,p,a,d,m,c,u,h=>fun T hT=>by cases hT
 |f+1,st,p,a,d,m,c,u,h=>by
  have k:∀(j:Tk),TkI j->∀T∈d++[j],TkI T:=fun j c T hT=>by
   rcases List.mem_append.1 hT with hT|hT
   ·exact h T hT
   ·rw[List.mem_singleton.1 hT];exact c
  have q:∀(g:Int)(p e:Nat)(n:Int)(r:ByteArray),p<=s.size->0<=g->g<=78->e<=s.size->tu n->TkI ⟨g,(p:Nat),(e:Nat),a,n,r⟩:=fun g p e n r C G H I z=>⟨⟨G,H⟩,lF (p:Int) (by omega) (by omega),lF (e:Int) (by omega) (by omega),lF a c (by omega),z⟩;have l:∀i,i<=s.size->blk s (s.size+1) i<=s.size:=fun i F=>(jC s (s.size+1) i F).2;rw[uH];split
  ·exact k _ (q _ _ _ _ _ (ah _) (by decide) (by decide) (ah _) (lF _ (by decide) (by decide)))
  ·rename_i C;split
   ·rename_i x;have b:=jB s p (by omega) (adz s p x).1;split
    ·exact Kl s o f _ _ _ _ (l _ b.2.1) (by omega) (by omega) (k _ (q _ _ _ _ _ m (by decide) (by decide) b.2.1 (ahn s p)))
    ·exact Kl s o f _ _ _ _ (l _ b.2.1) (by omega) (by omega) h
   ·split
    ·split
     ·rename_i B;have b:=jB s p (by omega) B;exact Kl s o f _ _ _ _ (l _ b.2.1) c (by omega) (k _ (q _ _ _ _ _ m (Ii s p).1 (Ii s p).2 b.2.1 (ahn s p)))
     ·exact fun T hT=>by cases hT
    ·exact fun T hT=>by cases hT
theorem Km:∀(R:Fo)(b:Nat),∀z∈R.tops b,0<=z/\z<=((b+R.sz:Nat):Int)
 | .nil,b=>fun z hz=>by cases hz
 | .cons N k r,b=>fun z hz=>by
  rw[Fo.sz];rcases List.mem_cons.1 hz with rfl|hz
  ·exact⟨by omega,by omega⟩
  ·have:=Km r _ z hz;exact⟨by omega,by omega⟩
theorem D6:∀(R:Fo)(b:Nat),∀N∈R.flat b,∀z∈N.ks,0<=z/\z<=((b+R.sz:Nat):Int)
 | .nil,b=>fun N hN=>by cases hN
 | .cons c k r,b=>fun N hN z a=>by
  rw[Fo.flat,Cw,iF]at hN;rw[Fo.sz];rcases hN with hN|rfl|hN
  ·have:=D6 k b N hN z a;exact⟨by omega,by omega⟩
  ·have:=Km k b z a;exact⟨by omega,by omega⟩
  ·have:=D6 r _ N hN z a;exact⟨by omega,by omega⟩
theorem Gx:∀(a:List ByteArray),(∀s∈a,s.size<=1048576)->Ku a<=1048576*a.length
 |[],_=>be _
 |s::a,h=>by
  have d:=Gx a fun c b=>h c (dJ _ b);have e:=h s cH;show s.size+Ku a<=1048576*(a.length+1);omega
theorem Gy:∀(b:List Nd)(a:Nat),(∀N∈b,fx N)->KD b+1048577*a<=1048577*cnt a b
 |[],a,_=>by simp[KD,cnt]
 |N::b,a,h=>by
  have d:=Gy b (nxt a N) fun g e=>h g (dJ _ e);have c:=h N cH;have i:=Gx N.nm c.ls;have j:=c.lx;show BB N+KD b+1048577*a<=1048577*cnt (nxt a N) b;unfold nxt at d⊢;unfold BB aa3;omega
structure akl (s:ByteArray) (c a:Int) (ns:List Nd):Prop where
 len:ns.length<=1048576
 sm:∀N∈ns,fx N
 int:∀N∈ns,qA N
 dz:(gp ns).size<=70368744177664
 cs:c=0\/c=1\/c=2
theorem Az(s:ByteArray)(c a:Int)(h:c=0\/c=1\/c=2):akl s c a []:=⟨be _,fun d b=>(by cases b),fun d b=>(by cases b),(by decide),h⟩
theorem Out.nn{s:ByteArray}{c a:Int}{ns:List Nd}(h:Out s c a ns):akl s c a ns:=by
 cases h with
 |big _=>exact Az _ _ _ (.inr (.inr rfl))
 |at_ _ _ _=>exact Az _ _ _ (.inr (.inl rfl))
 |@ok o a0 d av af g b=>
  by_cases k:(cF (oE s d)).1=0
  ·have l:okC (oE s d)=0:=by unfold okC;rw[ab k]
   have e:okN (oE s d)=oE s d:=by unfold okN;rw[ab k]
   rw[l,e];have ap:(oE s d).length<=200001:=by
    have:=b.sz;unfold oE;rw[Fo.flat_len,aJ];omega
   have ak:o=(jq s).1:=by
    unfold lK at g;split at g
    ·simp at g<;>omega
    split at g
    ·simp at g;exact g.symm
    ·simp at g<;>omega
   have K:∀m,TkI (tj o m):=fun m=>by
    unfold tj;rw[bm];cases hq:o[m]? with
    |none=>
     have j:tu (0:Int):=lF _ (by decide) (by decide);exact⟨⟨(by decide:(0:Int)<=0),(by decide:(0:Int)<=78)⟩,j,j,j,j⟩
    |some q=>
     have x:=bC hq;rw[ak]at x;exact Kl s af _ _ _ _ _ (jC s (s.size+1) 0 (be _)).2 (by decide) (by omega) (fun q g=>by cases g) q x
   have ad:=b.p.ni (by have:=b.le;omega) K trivial;have u:∀i∈oE s d,qA i:=fun i e=>by
    have j:tu 0:=lF _ (by decide) (by decide);have L:=D6 _ _ i e;obtain⟨z,_⟩:=yH NiB (fun i ar h=>h) _ 0 ((eD _ _ d).2 ⟨⟨lF (1:Int) (by decide) (by decide),j,lF (s.size:Int) (by omega) (by omega),lF (1:Int) (by decide) (by decide),j,j⟩,ad⟩) i e;obtain⟨B,C,F,G,H,I⟩:=z;refine⟨B,C,F,G,H,I,fun an am=>?_⟩;have r:=L an am;have J:=b.sz;rw[aJ]at r;exact⟨by omega,by omega⟩
   refine⟨by omega,b.sm,u,?_,.inl rfl⟩;have r:=Ha _ u fun i e=>⟨(b.sm i e).l1,(b.sm i e).l2⟩;have J:=Gy _ 1 b.sm;have ao:=b.ct;omega
  ·have e:okN (oE s d)=[]:=by unfold okN;rw[aa k]
   have l:okC (oE s d)=2:=by unfold okC;rw[aa k]
   rw[l,e];exact Az _ _ _ (.inr (.inr rfl))
structure OW (w:Ax):Prop where
 errs:nI w
 word:∃tt fr,w.heap[0]?=S (.cells eE tt fr)
 asc:∀W,A1 w.heap.size w W->A5 O W "strings.asciiSpace" .u8 A4
 pow:wL w
theorem OW.below{w W:Ax}(h:OW w)(a:A1 w.heap.size w W):OW W:=by
 obtain⟨g,d,b⟩:=h.word;exact⟨h.errs.below a (ah _),⟨g,d,(a.block _ (ax b)).trans b⟩,fun c e=>h.asc c (a.trans (e.mono a.size)),h.pow.below a⟩
theorem akI{w:Ax}(j:OW w):ajE w (fun ns=>∃s c a,Out s c a ns) sn ri:=by
 refine⟨fun ns ⟨s,c,a,b⟩=>⟨b.nn.len,b.outl⟩,fun W v ns g d ⟨s,c,a,b⟩=>?_,fun W v ns g d ⟨s,c,a,b⟩=>xC W v ns d b.nn.len b.nn.sm,fun W v ns g d ⟨s,c,a,b⟩=>?_,fun W v ns g d ⟨s,c,a,b⟩=>DF W v ns d b.nn.len b.nn.sm b.nn.int b.nn.dz⟩
 ·have e:=j.below g;obtain⟨k,h,i⟩:=e.word;exact xF W v ns d b.nn.len b.nn.sm e.errs k h i e.asc
 ·refine DI W v ns d b.nn.len b.nn.sm b.nn.int b.nn.dz (j.below g).pow fun m l=>?_;have e:=(j.below g).below l;obtain⟨k,h,i⟩:=e.word;exact Gw m v ns (d.below l) b.nn.len b.nn.sm e.errs k h i e.asc
theorem D7(w:Ax)(b:Option Addr)(a cap:Nat)(l:a<=9223372036854775807)(k:a<=1048576->Code w.heap.size w b a)(j:OW w):
  A9 O 3 #[Q b a cap] w fun e o=>e= A6 (.bool true)/\A1 w.heap.size w o:=
 Bb w b a cap l (akI j) (fun h=>ag3 w b a cap h (k h)) fun w1 c m p=>by
  obtain⟨g,d,ns,i⟩:=ajd c;exact⟨g,d,ns,⟨c,g,d,i⟩,Bq w1 c m i⟩
