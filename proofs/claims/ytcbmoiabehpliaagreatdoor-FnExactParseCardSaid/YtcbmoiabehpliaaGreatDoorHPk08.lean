import Derived.Test.YtcbmoiabehpliaaGreatDoorHPk01
import Derived.Shelf.Strings.BuilderK
import Derived.Shelf.Strings.Builder2
import Derived.Shelf.Strings.Builder1
import Derived.Shelf.Small.Strs
import Derived.Shelf.Small.Wraps
import Derived.Shelf.Strings.BuilderF
import Derived.Shelf.Strconv.Itoa0
import Derived.Shelf.Strconv.Itoa1
import Derived.Shelf.LaysM
import Derived.Shelf.Strconv.Itoa2
import Derived.Shelf.Strconv.Itoa3
import Derived.Shelf.Strconv.ParseIntEmpty
import Derived.Shelf.Strconv.Clone
import Derived.Shelf.Strconv.SyntaxError
import Derived.Shelf.LaysC
import Derived.Shelf.Strconv.ToError
import Derived.Shelf.Strconv.Lower
import Derived.Shelf.Strconv.ParseUint10
import Derived.Shelf.Strconv.ParseUint10Empty
import Derived.Shelf.Strconv.ParseUint10Any
import Derived.Shelf.Strconv.ParseInt10
import Derived.Shelf.Strconv.RangeError
import Derived.Shelf.Strconv.ToErrorRange
import Derived.Shelf.Strconv.ParseUintEmpty
import Derived.Shelf.Strconv.ParseUint10b64
import Derived.Shelf.Strconv.ParseUint10b32
import Derived.Shelf.Strconv.ParseUint10b16
import Derived.Shelf.Strconv.ParseUint10b8
import Derived.Shelf.Strconv.ParseUint10At
import Derived.Shelf.Strconv.ParseInt10At64
import Derived.Shelf.Strconv.ParseInt10At32
import Derived.Shelf.Strconv.ParseInt10At16
import Derived.Shelf.Strconv.ParseInt10At8
import Derived.Shelf.Strconv.ParseInt10All
import Derived.Shelf.Strconv.ParseIntPublic10
import Derived.Shelf.Strconv.ErrVarParseInt
import Derived.Ground.MpProg
import Derived.Shelf.Pu.ParseUintPublic10
import Derived.Shelf.Pu.ErrVarParseUint
import Derived.Shelf.Strings.Search1
import Derived.Shelf.Strings.Prefix
import Derived.Shelf.Strings.Fields
import Derived.Shelf.Bits.Mul64
import Derived.Test.YtcbmoiabehpliaaGreatDoorProg
import Derived.Lib.Join
import Derived.Deep.RegionHeld3
import Derived.Lib.Repeat
import Derived.Sort.LoopGhostIn
set_option linter.unusedVariables false
set_option maxRecDepth 100000
set_option maxHeartbeats 3200000
namespace Go.Proofs.YtcbmoiabehpliaaGreatDoor
open Go.RowKit
theorem gD:(Tryz.prog.info? 3).map (fun i=>(i.zero,i.size,i.bytes))=some (some (.int .i64 0),1,8):=by kernel_rfl
theorem tw{W:World}{base g n c:Nat}{l:List ByteArray}(h:W.ownsRow base 9 1 (.slice (some ⟨g,0,none⟩) n c) n (l.map Value.string))(d:l.length=n):aH W (.slice (some ⟨g,0,none⟩) n c) l:=by
 subst d;refine .inr ⟨⟨g,0,none⟩,c,rfl,fun a i b=>?_⟩;have f:a<l.length:=by rcases Nat.lt_or_ge a l.length with h|h;exact h;rw[List.getElem?_eq_none h]at b;cases b
 have e:(⟨g,0,none⟩:Addr).add a=⟨g,a,none⟩:=by unfold Addr.add;split<;>simp_all
 rw[e,h.cellAt a (by omega),List.getElem?_map,b];rfl
theorem tz{W:World}{base g n c:Nat}{l:List Int}(h:W.ownsRow base 3 1 (.slice (some ⟨g,0,none⟩) n c) n (l.map (Value.int .i64)))(d:l.length=n):aV W (.slice (some ⟨g,0,none⟩) n c) l:=by
 subst d;refine .inr ⟨⟨g,0,none⟩,c,rfl,fun a i b=>?_⟩;have f:a<l.length:=by rcases Nat.lt_or_ge a l.length with h|h;exact h;rw[List.getElem?_eq_none h]at b;cases b
 have e:(⟨g,0,none⟩:Addr).add a=⟨g,a,none⟩:=by unfold Addr.add;split<;>simp_all
 rw[e,h.cellAt a (by omega),List.getElem?_map,b];rfl
def bu(N:Nd)(vn vk:Value):Value:= .agg #[.int .i64 N.k,.int .i64 N.f,.int .i64 N.t,.int .i64 N.l,.int .i64 N.op,.int .i64 N.n,.string N.x,vn,vk]
def jj(b:Nat)(W:World)(t:TypeId)(N:Nd)(vn vk:Value):Prop:=
 W.heap[b]?=some (.cells #[.int .i64 N.k,.int .i64 N.f,.int .i64 N.t,.int .i64 N.l,.int .i64 N.op,.int .i64 N.n,.string N.x,vn,vk] t (0,0))
theorem ad{b:Nat}{W:World}{t:TypeId}{N:Nd}{vn vk:Value}(h:jj b W t N vn vk):
  W.cell? ⟨b,0,none⟩=some (.int .i64 N.k)/\W.cell? ⟨b,1,none⟩=some (.int .i64 N.f)/\W.cell? ⟨b,2,none⟩=some (.int .i64 N.t)/\W.cell? ⟨b,3,none⟩=some (.int .i64 N.l)/\W.cell? ⟨b,4,none⟩=some (.int .i64 N.op)/\W.cell? ⟨b,5,none⟩=some (.int .i64 N.n)/\W.cell? ⟨b,6,none⟩=some (.string N.x)/\W.cell? ⟨b,7,none⟩=some vn/\W.cell? ⟨b,8,none⟩=some vk/\(∀j,W.frozen? ⟨b,j,none⟩=false):=by
 unfold jj at h;exact⟨by rw[cell_of_row _ _ _ _ _ _ h];rfl,by rw[cell_of_row _ _ _ _ _ _ h];rfl,by rw[cell_of_row _ _ _ _ _ _ h];rfl,by rw[cell_of_row _ _ _ _ _ _ h];rfl,by rw[cell_of_row _ _ _ _ _ _ h];rfl,by rw[cell_of_row _ _ _ _ _ _ h];rfl,by rw[cell_of_row _ _ _ _ _ _ h];rfl,by rw[cell_of_row _ _ _ _ _ _ h];rfl,by rw[cell_of_row _ _ _ _ _ _ h];rfl,fun j=>frozen_of_row _ _ _ _ _ h⟩
def za:Nd:=⟨0,0,0,0,0,0,⟨#[]⟩,[],[]⟩
theorem jj.below{b:Nat}{W a:World}{t:TypeId}{N:Nd}{vn vk:Value}(h:jj b W t N vn vk)(c:Below W.heap.size W a):jj b a t N vn vk:=(c.block _ (lt_of_block h)).trans h
end Go.Proofs.YtcbmoiabehpliaaGreatDoor
namespace Go.Proofs.YtcbmoiabehpliaaGreatDoor
open Go.RowKit Go.Maps Go.WideMaps
theorem eI{a b:Int}(h:a=b)(c:Int)(e:(b==c)=false):(a==c)=false:=by rw[h];exact e
theorem gZ{a b:Int}(h:a=b)(c:Int)(e:(b==c)=true):(a==c)=true:=by rw[h];exact e
abbrev JU(B b:Nat)(a:List Value)(w:World):Prop:=Lib.IsBuilderF 236 5 B b a w
abbrev JV(B b:Nat)(a:List Value)(w:World):Prop:=Lib.BuilderAtF 236 5 B b (.pointer (some ⟨b,0,none⟩)) a w
theorem gP(b:Nat)(w:World)(j:w.cell? ⟨b,0,none⟩=some (.pointer none))(d:w.shape? b=some (236,2))(k:w.frozen? ⟨b,0,none⟩=false):
  Calls Tryz.prog 214 #[.pointer (some ⟨b,0,none⟩)] w fun e f=>e= .returned (.tuple #[])/\f=w.setCell ⟨b,0,none⟩ (.pointer (some ⟨b,0,none⟩)):=by
 obtain⟨i,c,g⟩:=Option.map_eq_some_iff.1 (show(Tryz.prog.info? 236).map (·.size)=some 2 by kernel_rfl);have m:=Lib.run_to_unsafe (P:=Tryz.prog) (w:=w) ⟨b,0,none⟩ Tryz.underlying234 Tryz.underlying260 c (by rw[g];decide) d (Nat.zero_lt_succ 1);have h:=Lib.run_from_unsafe (P:=Tryz.prog) (w:=w) ⟨b,0,none⟩ Tryz.underlying260 Tryz.underlying234 c d (by kernel_rfl);have l:∀a,(callFunc 228 #[a]).run Tryz.prog w= .ok (.value a) w:=fun a=>by
  rw[run_callFunc_extern Tryz.func228 (by kernel_rfl) (by kernel_rfl) (by kernel_rfl) (e:=Extern.AbiNoEscape.same) (by kernel_rfl),Lib.run_noEscape];rfl
 go_in;go_wp2;go_end0
 exact⟨rfl,rfl⟩
theorem nT(b:Nat)(w:World)(i:w.cell? ⟨b,0,none⟩=some (.pointer (some ⟨b,0,none⟩)))(d:w.shape? b=some (236,2)):
  Calls Tryz.prog 214 #[.pointer (some ⟨b,0,none⟩)] w fun e c=>e= .returned (.tuple #[])/\c=w:=by
 obtain⟨f,a,h⟩:=Option.map_eq_some_iff.1 (show(Tryz.prog.info? 236).map (·.size)=some 2 by kernel_rfl);have g:=Lib.run_neq_ptr_same (P:=Tryz.prog) w ⟨b,0,none⟩ Tryz.underlying234 a;go_in;go_wp2;go_end0
 exact⟨rfl,rfl⟩
theorem pI(B b:Nat)(c:List Value)(w:World)(h:JU B b c w):
  Calls Tryz.prog 214 #[.pointer (some ⟨b,0,none⟩)] w fun e a=>e= .returned (.tuple #[])/\JV B b c a/\Below B w a:=by
 rcases h with h|h
 ·refine(gP b w h.cell0 h.shape h.frozen0).mono ?_;rintro e a ⟨rfl,rfl⟩;exact⟨rfl,h.used _,(Below.refl B w).setCell (p:=⟨b,0,none⟩) h.1 _⟩
 ·refine(nT b w h.cell0 h.shape).mono ?_;rintro e a ⟨rfl,rfl⟩;exact⟨rfl,h,Below.refl B _⟩
theorem mE(B b:Nat)(a:List Value)(s:ByteArray)(w:World)(h:JU B b a w)(M:a.length+s.size<=140737488355328)(Q:B<=w.heap.size):
  Calls Tryz.prog 197 #[.pointer (some ⟨b,0,none⟩),.string s] w fun e r=>e= .returned (.tuple #[.int .i64 s.size,.nilIface])/\JV B b (a++Lib.strCells s) r/\Below B w r:=by
 obtain⟨x,J,I,H,F⟩:=info_parts (show(Tryz.prog.info? 5).map (fun l=>(l.zero,l.size,l.bytes))=some (some (.int .u8 0),1,1) by kernel_rfl);go_in;go_wp2_with (go_at_call 214;refine(pI B b a _ h).mono ?_);rintro e i ⟨rfl,E,v⟩;obtain⟨u,j,f,m,y⟩:=E;have R:i.cell? ⟨b,0,none⟩=some (.pointer (some ⟨b,0,none⟩)):=by rw[Lib.cell_of_heap f];rfl
 have V:i.cell? ⟨b,1,none⟩=some j:=by rw[Lib.cell_of_heap f];rfl
 have K:=v.size;go_wp2_with (at_builtin;refine Lib.wpList_append_own_stringF _ rfl _ _ 195 9 rfl B 5 x Tryz.underlying195 Tryz.underlying9 J I H F _ _ _ rfl m s rfl (by unfold maxLen;omega) (by omega) (by omega) ?_);intro C c t o _;have z:b<i.heap.size:=lt_of_block f;have d:c.heap[b]?=some (.cells #[.pointer (some ⟨b,0,none⟩),j] 236 (0,0)):=by
  rw[o.block b z (fun e=>y e.symm)];exact f
 have L:c.cell? ⟨b,0,none⟩=some (.pointer (some ⟨b,0,none⟩)):=by rw[Lib.cell_of_heap d];rfl
 have W:c.cell? ⟨b,1,none⟩=some j:=by rw[Lib.cell_of_heap d];rfl
 have U:c.frozen? ⟨b,1,none⟩=false:=Lib.frozen_of_heap d 1;obtain⟨n,q,k,rfl⟩:∃n q k,C= .slice n q k:=by
  rcases t.2 with⟨g,_⟩|⟨O,k,N,S,g,_⟩
  ·exact⟨_,_,_,g⟩
  ·exact⟨_,_,_,g⟩
 go_wp2;go_ret2;refine⟨rfl,?_,?_⟩
 ·exact Lib.BuilderAtF.put (T:=236) (e:=5) u d (bs':=a++Lib.strCells s) (by simpa [Lib.strCells_length] using t) (by decide)
 ·exact(v.grown o (by omega) (fun A G=>(m.lt A G).1)).setCell (p:=⟨b,1,none⟩) u _
end Go.Proofs.YtcbmoiabehpliaaGreatDoor
namespace Go.Proofs
open Go.Shelf
def Tryz.lays170_ren:Go.Shelf.Ren:=⟨fun|170=>198|n=>n,fun|70=>234|3=>3|0=>0|72=>236|37=>195|5=>5|n=>n,fun|n=>n⟩
theorem Tryz.lays170:Go.Proofs.Lays.n170 Tryz.prog Tryz.lays170_ren:={
 mixed:=by kernel_rfl
 f170:=Tryz.func198.trans (congrArg some (by kernel_rfl))
 t0:=Tryz.underlying0
 a0:=Tryz.isAgg0
 z0:=Tryz.sizeOf0
 v0:=Tryz.zeroValue0
 t3:=Tryz.underlying3
 a3:=Tryz.isAgg3
 z3:=Tryz.sizeOf3
 v3:=Tryz.zeroValue3
 t37:=Tryz.underlying195
 a37:=Tryz.isAgg195
 z37:=Tryz.sizeOf195
 v37:=Tryz.zeroValue195
 t70:=Tryz.underlying234
 a70:=Tryz.isAgg234
 z70:=Tryz.sizeOf234
 v70:=Tryz.zeroValue234
 t72:=Tryz.underlying236
 a72:=Tryz.isAgg236
 z72:=Tryz.sizeOf236
 v72:=Tryz.zeroValue236}
def Tryz.lays169_ren:Go.Shelf.Ren:=⟨fun|169=>199|n=>n,fun|70=>234|9=>9|0=>0|72=>236|37=>195|127=>243|3=>3|5=>5|n=>n,fun|n=>n⟩
theorem Tryz.lays169:Go.Proofs.Lays.n169 Tryz.prog Tryz.lays169_ren:={
 mixed:=by kernel_rfl
 f169:=Tryz.func199.trans (congrArg some (by kernel_rfl))
 t0:=Tryz.underlying0
 a0:=Tryz.isAgg0
 z0:=Tryz.sizeOf0
 v0:=Tryz.zeroValue0
 t3:=Tryz.underlying3
 a3:=Tryz.isAgg3
 z3:=Tryz.sizeOf3
 v3:=Tryz.zeroValue3
 t9:=Tryz.underlying9
 a9:=Tryz.isAgg9
 z9:=Tryz.sizeOf9
 v9:=Tryz.zeroValue9
 t37:=Tryz.underlying195
 a37:=Tryz.isAgg195
 z37:=Tryz.sizeOf195
 v37:=Tryz.zeroValue195
 t70:=Tryz.underlying234
 a70:=Tryz.isAgg234
 z70:=Tryz.sizeOf234
 v70:=Tryz.zeroValue234
 t72:=Tryz.underlying236
 a72:=Tryz.isAgg236
 z72:=Tryz.sizeOf236
 v72:=Tryz.zeroValue236
 t127:=Tryz.underlying243
 a127:=Tryz.isAgg243
 z127:=Tryz.sizeOf243
 v127:=Tryz.zeroValue243}
theorem Tryz.Builder_Extra_169:Builder.Extra Tryz.prog Tryz.lays169_ren:={
 sizeBuilder:=by kernel_rfl
 liesBuilder:=by kernel_rfl
 t5:=Tryz.underlying5
 a5:=Tryz.isAgg5
 z5:=Tryz.sizeOf5
 v5:=Tryz.zeroValue5
 infoByte:=by kernel_rfl
 cellsByte:=by kernel_rfl
 sizeByte:=by kernel_rfl
 neB5:=by decide}
def Tryz.lays241_ren:Go.Shelf.Ren:=⟨fun|241=>215|277=>229|n=>n,fun|70=>234|3=>3|0=>0|72=>236|37=>195|5=>5|n=>n,fun|n=>n⟩
theorem Tryz.lays241:Go.Proofs.Lays.n241 Tryz.prog Tryz.lays241_ren:={
 mixed:=by kernel_rfl
 f241:=Tryz.func215.trans (congrArg some (by kernel_rfl))
 f277:=Tryz.func229.trans (congrArg some (by kernel_rfl))
 t0:=Tryz.underlying0
 a0:=Tryz.isAgg0
 z0:=Tryz.sizeOf0
 v0:=Tryz.zeroValue0
 t3:=Tryz.underlying3
 a3:=Tryz.isAgg3
 z3:=Tryz.sizeOf3
 v3:=Tryz.zeroValue3
 t37:=Tryz.underlying195
 a37:=Tryz.isAgg195
 z37:=Tryz.sizeOf195
 v37:=Tryz.zeroValue195
 t70:=Tryz.underlying234
 a70:=Tryz.isAgg234
 z70:=Tryz.sizeOf234
 v70:=Tryz.zeroValue234
 t72:=Tryz.underlying236
 a72:=Tryz.isAgg236
 z72:=Tryz.sizeOf236
 v72:=Tryz.zeroValue236}
theorem Tryz.Builder_Extra_241:Builder.Extra Tryz.prog Tryz.lays241_ren:={
 sizeBuilder:=by kernel_rfl
 liesBuilder:=by kernel_rfl
 t5:=Tryz.underlying5
 a5:=Tryz.isAgg5
 z5:=Tryz.sizeOf5
 v5:=Tryz.zeroValue5
 infoByte:=by kernel_rfl
 cellsByte:=by kernel_rfl
 sizeByte:=by kernel_rfl
 neB5:=by decide}
open Go.RowKit in
theorem Tryz.Builder_grow_fresh(B b n:Nat)(w:World)(d:B<=b)(g:w.heap[b]?=some (.cells #[.pointer (some ⟨b,0,none⟩),.slice none 0 0] 236 (0,0)))(c:B<=w.heap.size)(f:n<=281474976710656):
  Calls Tryz.prog 215 #[.pointer (some ⟨b,0,none⟩),.int .i64 n] w fun e a=>e= .returned (.tuple #[])/\(Lib.BuilderAt 236 5 B b (.pointer (some ⟨b,0,none⟩)) [] a/\Below B w a):=Any.Builder_grow_fresh Tryz.lays241 Tryz.Builder_Extra_241 B b n w d g c f
open Go.RowKit in
theorem Tryz.Builder_Len_f(B b:Nat)(a:List Value)(w:World)(h:Lib.IsBuilderF 236 5 B b a w):
  Calls Tryz.prog 198 #[.pointer (some ⟨b,0,none⟩)] w fun e c=>e= .returned (.int .i64 a.length)/\c=w:=Any.Builder_Len_f Tryz.lays170 B b a w h
open Go.RowKit in
theorem Tryz.Builder_String_any_k(B b:Nat)(l:List UInt8)(w:World)(h:Lib.IsBuilderF 236 5 B b (Lib.byteCells l) w)(c:B<=w.heap.size):
  Calls Tryz.prog 199 #[.pointer (some ⟨b,0,none⟩)] w fun e a=>e= .returned (.string ⟨l.toArray⟩)/\(Lib.IsBuilderF 236 5 B b (Lib.byteCells l) a/\Below B w a/\Lib.OthersKept 5 (some b) w a):=Any.Builder_String_any_k Tryz.lays169 Tryz.Builder_Extra_169 B b l w h c
end Go.Proofs
namespace Go.Proofs.YtcbmoiabehpliaaGreatDoor
open Go.RowKit Go.Maps Go.WideMaps
theorem AO(B b n:Nat)(w:World)(h:B<=b)(f:w.heap[b]?=some (.cells #[.pointer none,.slice none 0 0] 236 (0,0)))(r:B<=w.heap.size)(k:n<=281474976710656)(t:0<n):
  Calls Tryz.prog 196 #[.pointer (some ⟨b,0,none⟩),.int .i64 n] w fun e c=>e= .returned (.tuple #[])/\JV B b [] c/\Below B w c:=by
 have g:(w.setCell ⟨b,0,none⟩ (.pointer (some ⟨b,0,none⟩))).heap[b]?=some (.cells #[.pointer (some ⟨b,0,none⟩),.slice none 0 0] 236 (0,0)):=heap_setCell_same _ b 0 _ _ _ f;have a:Below B w (w.setCell ⟨b,0,none⟩ (.pointer (some ⟨b,0,none⟩))):=(Below.refl B w).setCell (p:=⟨b,0,none⟩) h _;have i:=gP b w (by rw[Lib.cell_of_heap f];rfl) (by simp[World.shape?,f]) (Lib.frozen_of_heap f 0);have y:¬(n:Int)<0:=by omega
 have s:(0:Int)<(n:Int):=by omega
 go_in;go_wp2_with (go_at_call 214;refine i.mono ?_;rintro e u ⟨rfl,rfl⟩);generalize w.setCell ⟨b,0,none⟩ (.pointer (some ⟨b,0,none⟩))=d at g a⊢;have m:d.cell? ⟨b,1,none⟩=some (.slice none 0 0):=by rw[Lib.cell_of_heap g];rfl
 have v:=a.size;clear i;go_region_held3 (fun c=>c.cell? ⟨b,1,none⟩=some (.slice none 0 0)) (first|go_keep|exact m) (fail)
 have j:=Tryz.Builder_grow_fresh B b n d.drew h g (by simpa using(show B<=d.heap.size by omega)) k;go_wp2_with (go_at_call 215;refine j.mono ?_;rintro e x ⟨rfl,l,q⟩);all_goals first
  |(rename_i o;rw[IntKind.wrap_i64]at o;omega)
  |skip
 go_end0
 exact⟨rfl,Lib.BuilderAtF.of l,(⟨a.os,a.tape,a.output,a.size,a.block⟩:Below B w d.drew).trans q⟩
def Bu(B b:Nat)(T:ByteArray)(w:World):Prop:=JU B b (Lib.strCells T) w
theorem pJ(a b:ByteArray):Lib.strCells (a++b)=Lib.strCells a++Lib.strCells b:=by
 unfold Lib.strCells;rw[ByteArray.data_append,Array.toList_append,List.map_append]
theorem qt(B b:Nat)(T s:ByteArray)(w:World)(h:Bu B b T w)(d:T.size+s.size<=140737488355328)(c:B<=w.heap.size):
  Calls Tryz.prog 197 #[.pointer (some ⟨b,0,none⟩),.string s] w fun e a=>e= .returned (.tuple #[.int .i64 s.size,.nilIface])/\Bu B b (T++s) a/\Below B w a:=by
 refine(mE B b _ s w h (by rw[Lib.strCells_length];exact d) c).mono ?_;rintro e a ⟨rfl,g,f⟩;exact⟨rfl,.inr (by rw[pJ];exact g),f⟩
theorem vU(B b:Nat)(T:ByteArray)(w:World)(h:Bu B b T w)(c:B<=w.heap.size):
  Calls Tryz.prog 199 #[.pointer (some ⟨b,0,none⟩)] w fun e a=>e= .returned (.string T)/\Bu B b T a/\Below B w a:=by
 refine(Tryz.Builder_String_any_k B b T.data.toList w h c).mono ?_;rintro e a ⟨rfl,f,d,_⟩;exact⟨rfl,f,d⟩
theorem Bu.lt{B b:Nat}{T:ByteArray}{w:World}(h:Bu B b T w):b<w.heap.size:=by
 rcases h with⟨_,a,h,_⟩|⟨_,a,h,_⟩
 ·exact lt_of_block h
 ·exact lt_of_block h
end Go.Proofs.YtcbmoiabehpliaaGreatDoor
namespace Go.Proofs
open Go.Shelf
def Tryz.lays212_ren:Go.Shelf.Ren:=⟨fun|212=>195|263=>212|264=>213|n=>n,fun|46=>231|51=>247|146=>248|53=>196|148=>250|n=>n,fun|n=>n⟩
theorem Tryz.lays212:Go.Proofs.Lays.n212 Tryz.prog Tryz.lays212_ren:={
 mixed:=by kernel_rfl
 f212:=Tryz.func195.trans (congrArg some (by kernel_rfl))
 f263:=Tryz.func212.trans (congrArg some (by kernel_rfl))
 f264:=Tryz.func213.trans (congrArg some (by kernel_rfl))
 t46:=Tryz.underlying231
 a46:=Tryz.isAgg231
 z46:=Tryz.sizeOf231
 v46:=Tryz.zeroValue231
 t51:=Tryz.underlying247
 a51:=Tryz.isAgg247
 z51:=Tryz.sizeOf247
 v51:=Tryz.zeroValue247
 t53:=Tryz.underlying196
 a53:=Tryz.isAgg196
 z53:=Tryz.sizeOf196
 v53:=Tryz.zeroValue196
 t146:=Tryz.underlying248
 a146:=Tryz.isAgg248
 z146:=Tryz.sizeOf248
 v146:=Tryz.zeroValue248
 t148:=Tryz.underlying250
 a148:=Tryz.isAgg250
 z148:=Tryz.sizeOf250
 v148:=Tryz.zeroValue250}
open Go.RowKit Go.Lib in
theorem Tryz.bits_Mul(x a:Nat)(b:x<18446744073709551616)(c:a<18446744073709551616)(w:World):
  Calls Tryz.prog 195 #[.int .u64 x,.int .u64 a] w fun e d=>e= .returned (.tuple #[.int .u64 ((x*a / 18446744073709551616:Nat):Int),.int .u64 ((x*a%18446744073709551616:Nat):Int)])/\d=w:=Any.bits_Mul Tryz.lays212 x a b c w
end Go.Proofs
namespace Go.Proofs.YtcbmoiabehpliaaGreatDoor
open Go.RowKit Go.Maps Go.WideMaps
def IK:ByteArray:=⟨#[116,97,114,103,101,116,32]⟩
def il(q:Nat):ByteArray:=⟨(Lib.repeatL [116,97,114,103,101,116,32] q).toArray⟩
theorem iM(q:Nat):(il q).size=7*q:=by
 have a:(il q).size=(Lib.repeatL [116,97,114,103,101,116,32] q).length:=by simp[il,ByteArray.size]
 rw[a,Lib.repeatL_length];simp;omega
theorem tD(a b:Nat):il (a+b)=il a++il b:=by
 apply ByteArray.ext;rw[ByteArray.data_append];show(Lib.repeatL _ (a+b)).toArray=(Lib.repeatL _ a).toArray++(Lib.repeatL _ b).toArray;rw[Lib.repeatL_add];simp
theorem zb(q a:Nat)(h:a<=q):(il q).extract 0 (7*a)=il a:=by
 obtain⟨c,rfl⟩:=Nat.exists_eq_add_of_le h;rw[tD];apply ByteArray.ext;rw[ByteArray.data_extract,ByteArray.data_append];have b:(il a).data.size=7*a:=iM a;rw[<-b];apply Array.ext';simp;apply List.take_of_length_le;rw[Array.length_toList];exact Nat.le_refl _
theorem JW(ts:Array TypeId)(t:TypeId)(x a z c:Int)(W:World)(h:(if z<(if a<x then a else x) then z else(if a<x then a else x))=c):
  (Builtin.min_ ts t #[.int .i64 x,.int .i64 a,.int .i64 z]).run Tryz.prog W= .ok (.int .i64 c) W:=by
 rw[<-h];simp[Builtin.min_,Builtin.min2]
theorem tE(m:Nat)(w:World)(av:m+2<=200):
  Calls Tryz.prog 177 #[.string ⟨#[116,97,114,103,101,116,32]⟩,.int .i64 ((m+2:Nat):Int)] w fun e u=>e= .returned (.string (il (m+2)))/\Below w.heap.size w u:=by
 have k:=Tryz.bits_Mul 7 (m+2) (by omega) (by omega) w;rw[Nat.div_eq_of_lt (by omega:7*(m+2)<18446744073709551616),Nat.mod_eq_of_lt (by omega:7*(m+2)<18446744073709551616)]at k;obtain⟨d,E⟩:=ah (7*(m+2));rw[E]at k;have p:=ab E;have a8:¬(9223372036854775807:Int)<(d:Int):=by omega
 have ao:¬(8192:Int)<(d:Int):=by omega
 have bd:((d:Int)==0)=false:=by rw[beq_eq_false_iff_ne];omega
 have bb:(d:Int)<=1400:=by omega
 have a4:14<=d:=by omega
 have a5:((m:Int)+2==0)=false:=by rw[beq_eq_false_iff_ne];omega
 have a6:((m:Int)+2==1)=false:=by rw[beq_eq_false_iff_ne];omega
 have ar:¬(m:Int)+2<0:=by omega
 clear E;go_in;go_wp2_with (go_at_call 195;refine k.mono ?_;rintro e u ⟨rfl,rfl⟩);obtain⟨a,rfl⟩:∃a,a=u:=⟨_,rfl⟩;have J:=AO a.heap.size a.heap.size d (a.alloc (.cells #[.pointer none,.slice none 0 0] 236)) (Nat.le_refl _) (heap_alloc_new a _) (by simp) (by omega) (by omega);refine J.mono ?_;rintro e x ⟨rfl,T,U⟩;have K:Below a.heap.size a (a.alloc (.cells #[.pointer none,.slice none 0 0] 236)):=(Below.refl _ a).alloc (Nat.le_refl _) _;have A:Below a.heap.size a x:=K.trans U;have L:Bu a.heap.size a.heap.size ⟨#[]⟩ x:= .inr T;have s:=qt a.heap.size a.heap.size ⟨#[]⟩ IK x L (by decide) A.size;rw[show(⟨#[]⟩:ByteArray)++IK=il 1 from rfl]at s;have ak:=ab A;clear J T U K L A k;go_wp2_with fail;refine s.mono ?_;rintro e M ⟨rfl,G,Q⟩;have Y:Hid (Bu a.heap.size a.heap.size (il 1) M/\Below a.heap.size a M):=⟨G,ak.out.trans Q⟩;clear s G Q;go_wp2_with fail;go_loopg [] (m+1) (fun R I=>∃b:Nat,1<=b/\b+R=m+2/\Hid (Bu a.heap.size a.heap.size (il b) I/\Below a.heap.size a I))
 case atStart=>exact⟨1,Nat.le_refl _,by omega,Y⟩
 case round=>
  obtain⟨b,a0,a7,h⟩:=hrel;have n:=Tryz.Builder_Len_f a.heap.size a.heap.size _ wr h.out.1;rw[Lib.strCells_length,iM]at n;have F:=vU a.heap.size a.heap.size _ wr h.out.1 h.out.2.size;obtain⟨g,q⟩:=ah (7*b);have i:=ab q;rw[q]at n;obtain⟨j,hS⟩:=ah (il b);have v:=ab hS;have W:j.size=g:=by rw[<-hS,iM,q]
  rw[hS]at F;clear q hS;cases gk with
  |zero=>
   obtain rfl:b=m+2:=by omega
   have X:¬((g:Int)<(d:Int)):=by have:=p.out;have:=i.out;omega
   go_wp2_with (first|(go_at_call 198;refine n.mono ?_;rintro e al ⟨rfl,r⟩;rw[r])|(go_at_call 199;refine F.mono ?_;rintro e S ⟨rfl,B,l⟩));go_ret;exact⟨by rw[v.out];rfl,h.out.2.trans l⟩
  |succ R=>
   obtain⟨c,Z⟩:=ah (min (m+2-b) b);have a1:1<=c:=by omega
   have am:c<=b:=by omega
   have an:b+c<=m+2:=by omega
   obtain⟨f,C⟩:=ah (7*c);have X:(g:Int)<(d:Int):=by have:=p.out;have:=i.out;omega
   have ap:f<=g:=by have:=i.out;omega
   have bh:g+f<=d:=by have:=p.out;have:=i.out;omega
   have a9:∀(t:Array TypeId)(y:TypeId)(o:World),(Builtin.min_ t y #[.int .i64 ((d:Int)-(g:Int)),.int .i64 (g:Int),.int .i64 (d:Int)]).run Tryz.prog o= .ok (.int .i64 (f:Int)) o:=fun t y o=>JW t y _ _ _ _ o (by
    have:=p.out;have:=i.out;split<;>split<;>omega)
   have O:Hid (7*c=f/\j.extract 0 f=il c):=⟨C,by rw[<-C,<-v.out];exact zb b c am⟩;have a3:(0:Int)<=(f:Int):=by omega
   have a2:(f:Int)<=(j.size:Int):=by omega
   clear Z C;go_wp2_with (first|(go_at_call 198;refine n.mono ?_;rintro e al ⟨rfl,r⟩;rw[r])|(go_at_call 199;refine F.mono ?_;rintro e S ⟨rfl,B,l⟩));rw[O.out.2];have z:=h.out.2.trans l;refine(qt a.heap.size a.heap.size j (il c) S B (by rw[W,iM,O.out.1];omega) z.size).mono ?_;rintro e H ⟨rfl,N,V⟩;have af:Hid (Bu a.heap.size a.heap.size (il (b+c)) H/\Below a.heap.size a H):=⟨by rw[tD,v.out];exact N,z.trans V⟩;clear B l N V z;go_wp2_with fail;go_roundg (m+2-(b+c))
   case measure=>omega
   case rel=>exact⟨b+c,by omega,by omega,af⟩
theorem vV(n:Nat)(w:World)(a:n<=200):
  Calls Tryz.prog 177 #[.string ⟨#[116,97,114,103,101,116,32]⟩,.int .i64 (n:Int)] w fun e b=>e= .returned (.string ⟨(Lib.repeatL [116,97,114,103,101,116,32] n).toArray⟩)/\Below w.heap.size w b:=by
 match n,a with
 |0,_=>
  go_in;go_wp2_with fail;go_ret;exact⟨rfl,Below.refl _ _⟩
 |1,_=>
  go_in;go_wp2_with fail;go_ret;exact⟨rfl,Below.refl _ _⟩
 |m+2,a=>exact tE m w a
end Go.Proofs.YtcbmoiabehpliaaGreatDoor
