import Derived.Test.YtoahhnnflblfaaaGreatDoorHVk38
set_option linter.all false
set_option maxRecDepth 100000
open Go.Proofs.Tryz renaming prog->I
open Go.MakeChecks renaming laidMetH_plain->J
open Option renaming some->K
open Go.Lib renaming asciiSpaceTab->L,TabIs->M
open Go renaming World->O,TypeId->Q
namespace Go.Proofs.YtoahhnnflblfaaaGreatDoor
open Go.ChangeShapes Go.WideShapes Go.ChangeAt Go.WideMaps Go.WideElems Go.RowKit
def anm(V:Array Value):List (List UInt8):=V.toList.map fun b=>match b with| .string a=>a.data.toList|_=>[]
theorem aiB{f:O}{c:String}{d:DataW Unit}{g:Nat}{t:Q}{n:Nat}{V:Array Value}(w:([(c,d)].all fun x=>x.2.handleName?.isNone)=true)
  (u:Tryz.prog.globalNamed c=K g) (m:(Tryz.prog.globals[g]?).map (·.type)=K t) (y:Tryz.prog.underlying t=K (.array n 9)) (p:Tryz.prog.cellsOf 9=1) (q:Tryz.prog.cellsOf t=n)
  (r:d= .agg ((anm V).map fun b=> .lit (.string b))) (o:(anm V).map (fun b=>Value.string ⟨b.toArray⟩)=V.toList) (h:laidMetH I [(c,d)] f):∃e fr,f.heap[g]?=K (.cells V e fr):=by
 rw[J _ _ _ w]at h;obtain⟨F,⟨C,H,j,B,E,G,i,z,a,s,_,_⟩,_,_⟩:=h;obtain rfl:=db (u.symm.trans i);obtain rfl:=db (m.symm.trans z);subst r;have k:=Cn y Tryz.underlying9 p q s;have l:j=V:=by
  apply Array.toList_inj.1;rw[k,o]
 simp only[World.var?,i,Km]at a;split at a
 ·rename_i A e fr v;cases a;exact⟨e,fr,by rw[<-l];exact v⟩
 ·cases a
theorem agq{b:O}{a nm:String}{d:DataW Unit}{g:Nat}{t:Q}{ms:Array (String×Q)}(o:([(a,DataW.iface nm d)].all fun x=>x.2.handleName?.isNone)=true)
  (n:Tryz.prog.globalNamed a=K g) (l:(Tryz.prog.globals[g]?).map (·.type)=K t) (p:Tryz.prog.underlying t=K (.interface ms)) (h:laidMetH I [(a,.iface nm d)] b):∃u s,b.cell? ⟨g,0,none⟩=K (.iface u s):=by
 rw[J _ _ _ o]at h;obtain⟨A,⟨y,C,i,w,z,B,c,q,r,m,_,_⟩,_,_⟩:=h;obtain rfl:=db (n.symm.trans c);obtain rfl:=db (l.symm.trans q);obtain⟨v,e,f,j,_,_⟩:=iface_of_trod p m;refine⟨e,f,?_⟩;have:=World.var?_cell c r 0;rw[this];have k:i.toList[0]?=K (.iface e f):=by rw[j];rfl
 simpa using k
theorem an3:Tryz.prog.globalNamed "strconv.ErrSyntax" =K 4:=by kernel_rfl
theorem an4:Tryz.prog.globalNamed "strconv.ErrRange" =K 5:=by kernel_rfl
theorem an5:Tryz.prog.globalNamed "loop.example/warp/impl.wordTexts" =K 0:=by kernel_rfl
theorem ann:Tryz.prog.globalNamed "strings.asciiSpace" =K 1:=by kernel_rfl
theorem agr{a c:O}{b:String}{k:IntKind}{d:List Int}{g:Nat}(f:Tryz.prog.globalNamed b=K g)(h:M I a b k d)(e:Below a.heap.size a c):M I c b k d:=by
 unfold M at h⊢;simp only[World.var?,f,Km]at h⊢;have i:g<a.heap.size:=by
  rcases bv g a.heap.size with hl|hl
  ·exact hl
  ·rw[yF hl]at h;simp at h
 rw[e.block _ i];exact h
structure aiC (W:O):Prop where
 errs:ql W
 wrd:∃tt fr,W.heap[0]?=K (.cells fd tt fr)
 asc:M I W "strings.asciiSpace" .u8 L
theorem Kg{a:O}(h:laidMetH I [("math/bits.deBruijn32tab",Rows.laid_math_bits_deBruijn32tab),("math/bits.deBruijn64tab",Rows.laid_math_bits_deBruijn64tab),("internal/strconv.uint64pow10",Rows.laid_internal_strconv_uint64pow10),("strconv.ErrRange",Rows.laid_strconv_ErrRange),("strconv.ErrSyntax",Rows.laid_strconv_ErrSyntax),("unicode.White_Space",Rows.laid_unicode_White_Space),("strings.asciiSpace",Rows.laid_strings_asciiSpace),("loop.example/warp/impl.wordTexts",Rows.laid_loop_example_warp_impl_wordTexts)] a):aiC a:=by
 have d:laidMetH I [("loop.example/warp/impl.wordTexts",Rows.laid_loop_example_warp_impl_wordTexts)] a:=h.filter fun b=>b.1== "loop.example/warp/impl.wordTexts";have e:laidMetH I [("strconv.ErrSyntax",Rows.laid_strconv_ErrSyntax)] a:=h.filter fun b=>b.1== "strconv.ErrSyntax";have f:laidMetH I [("strconv.ErrRange",Rows.laid_strconv_ErrRange)] a:=h.filter fun b=>b.1== "strconv.ErrRange";have c:laidMetH I [("strings.asciiSpace",Rows.laid_strings_asciiSpace)] a:=h.filter fun b=>b.1== "strings.asciiSpace";refine⟨⟨?_,?_⟩,?_,?_⟩
 ·exact agq (by kernel_rfl) an3 (t:=184) (by kernel_rfl) Tryz.underlying184 e
 ·exact agq (by kernel_rfl) an4 (t:=184) (by kernel_rfl) Tryz.underlying184 f
 ·exact aiB (V:=fd) (by kernel_rfl) an5 (t:=106) (by kernel_rfl) Tryz.underlying106 (by kernel_rfl) (by kernel_rfl) rfl rfl d
 ·rw[J _ _ _ (by kernel_rfl)]at c;have g:laidMet I [("strings.asciiSpace",Lib.tabData .u8 L)] a:=c;exact Lib.tabIs_of_head ann (t:=202) (by kernel_rfl) Tryz.underlying202 Tryz.underlying5 (by kernel_rfl) (by kernel_rfl) g
end Go.Proofs.YtoahhnnflblfaaaGreatDoor
namespace Go.Proofs.YtoahhnnflblfaaaGreatDoor
open Go.RowKit Go.Maps Go.WideMaps
structure PW (w:O):Prop where
 errs:ql w
 word:∃tt fr,w.heap[0]?=K (.cells fd tt fr)
 asc:∀W,Below w.heap.size w W->M I W "strings.asciiSpace" .u8 L
theorem PW.below{w b:O}(h:PW w)(a:Below w.heap.size w b):PW b:=by
 obtain⟨g,e,c⟩:=h.word;exact⟨h.errs.below a (ag _),⟨g,e,(a.block _ (au c)).trans c⟩,fun d f=>h.asc d (a.trans (f.mono a.size))⟩
theorem BL{s:ByteArray}{c a:Int}{ns:List Nd}(h:Out s c a ns):ns.length<=1048576/\∀N∈ns,iy N:=by
 cases h with
 |big _=>exact⟨aG _,fun N b=>by cases b⟩
 |at_ _ _ _=>exact⟨aG _,fun N b=>by cases b⟩
 |@ok k j e i g f d=>
  unfold okN;split
  ·refine⟨?_,d.sm⟩;have:=d.sz;unfold uE;rw[Fo.flat_len,aJ];omega
  ·exact⟨aG _,fun N b=>by cases b⟩
theorem an6{w:O}(q:PW w):anl w (fun s ns=>∃c a,Out s c a ns/\GdO s ns):=by
 refine⟨fun s ns ⟨c,a,b,o⟩=>⟨(BL b).1,o⟩,fun d j s ns e l g ⟨c,a,b,_⟩=>?_,fun d j s ns e l g ⟨c,a,b,_⟩=>?_⟩
 ·have i:=q.below l;obtain⟨r,n,p⟩:=i.word;refine(Fz d j ns e g (BL b).1 (BL b).2 i.errs r n p i.asc).mono ?_;rintro m t ⟨k,rfl,h,f⟩;exact⟨k,rfl,qw h,f⟩
 ·refine(Fy d j ns e g (BL b).1 (BL b).2).mono ?_;rintro m t ⟨k,rfl,h,f⟩;exact⟨k,rfl,qw h,f⟩
theorem Kh(w:O)(b d:Option Addr)(a cap c i:Nat)(t:a<=9223372036854775807)(u:c<=9223372036854775807)(o:Code w.heap.size w b a)(p:Code w.heap.size w d c)(n:PW w):
  Calls I 3 #[.slice b a cap,.slice d c i] w fun e B=>e= .returned (.bool true)/\Below w.heap.size w B:=
 Kf w b d a cap c i t u (an6 n) p (fun l=>agn w b a cap l o) fun w1 A x E=>by
  obtain⟨y,f,m,F,G,k,v,q⟩:=x;obtain⟨⟨h,g,ms,j,r⟩,_⟩:=agm (fun k s=>by
   obtain⟨C,z,e⟩:=List.mem_map.1 (show ad (f.map Mb.N) k∈f.map Mb.N by unfold ad;rw[fD,List.getD,aE s];exact lG _);rw[<-e];exact m C z) (by rw[ak1];omega) v q
  exact⟨h,g,ms,⟨h,g,j,r⟩,CF w1 A y j⟩
