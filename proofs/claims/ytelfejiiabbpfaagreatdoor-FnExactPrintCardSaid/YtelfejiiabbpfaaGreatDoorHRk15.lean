import Derived.Test.YtelfejiiabbpfaaGreatDoorHRk02
import Derived.Shelf.Strings.BuilderK
import Derived.Shelf.Strings.Builder2
import Derived.Shelf.Strings.Builder1
import Derived.Shelf.Strings.OnBuilder
import Derived.Shelf.Small.Wraps
import Derived.Shelf.Strings.BuilderF
import Derived.Shelf.Strconv.Itoa0
import Derived.Shelf.Strconv.Itoa1
import Derived.Shelf.LaysM
import Derived.Shelf.Strconv.Itoa2
import Derived.Shelf.Strconv.Itoa3
import Derived.Shelf.Strconv.Itoa4
import Derived.Shelf.Strconv.ParseIntEmpty
import Derived.Shelf.Strconv.Clone
import Derived.Shelf.Strconv.SyntaxError
import Derived.Shelf.LaysC
import Derived.Shelf.Strconv.ToError
import Derived.Shelf.Strconv.Lower
import Derived.Shelf.Strconv.ParseUint10
import Derived.Shelf.Strconv.ParseUint10Empty
import Derived.Shelf.Strconv.ParseUint10Any
import Derived.Shelf.Strconv.ParseInt10
import Derived.Shelf.Strconv.RangeError
import Derived.Shelf.Strconv.ToErrorRange
import Derived.Shelf.Strconv.ParseUintEmpty
import Derived.Shelf.Strconv.ParseUint10b64
import Derived.Shelf.Strconv.ParseUint10b32
import Derived.Shelf.Strconv.ParseUint10b16
import Derived.Shelf.Strconv.ParseUint10b8
import Derived.Shelf.Strconv.ParseUint10At
import Derived.Shelf.Strconv.ParseInt10At64
import Derived.Shelf.Strconv.ParseInt10At32
import Derived.Shelf.Strconv.ParseInt10At16
import Derived.Shelf.Strconv.ParseInt10At8
import Derived.Shelf.Strconv.ParseInt10All
import Derived.Shelf.Strconv.ParseIntPublic10
import Derived.Shelf.Strconv.ErrVarParseInt
import Derived.Ground.MpProg
import Derived.Shelf.Pu.ParseUintPublic10
import Derived.Shelf.Pu.ErrVarParseUint
import Derived.Shelf.Strings.Prefix
import Derived.Shelf.Strings.Fields
import Derived.Shelf.Unicode.Latin
import Derived.Shelf.Bits.Mul64
import Derived.Shelf.Strings.Repeat
import Derived.Shelf.Unicode.Is16White
import Derived.Shelf.Unicode.IsSpaceAny
import Derived.Shelf.Unicode.Is16Any
import Derived.Shelf.Unicode.Is32Any
import Derived.Shelf.Unicode.ExclAny
import Derived.Shelf.Slices.Equal
import Derived.Shelf.Slices.Empties2
import Derived.Test.YtelfejiiabbpfaaGreatDoorProg
import Derived.Lib.Join
import Derived.Deep.RegionHeld3
import Derived.Lib.Repeat
import Derived.Sort.LoopGhostIn
set_option linter.unusedVariables false
set_option maxRecDepth 100000
set_option maxHeartbeats 3200000
namespace Go.Proofs.YtelfejiiabbpfaaGreatDoor
open Go.RowKit Go.Maps Go.WideMaps
abbrev BuF (B b:Nat) (bs:List Value) (w:World):Prop:=Lib.IsBuilderF 178 5 B b bs w
abbrev BuA (B b:Nat) (bs:List Value) (w:World):Prop:=Lib.BuilderAtF 178 5 B b (.pointer (some ⟨b,0,none⟩)) bs w
theorem copyCheck_fresh (b:Nat) (w:World) (h0:w.cell? ⟨b,0,none⟩=some (.pointer none)) (hsh:w.shape? b=some (178,2)) (hfz:w.frozen? ⟨b,0,none⟩=false):
  Calls Tryz.prog 165 #[.pointer (some ⟨b,0,none⟩)] w fun e w'=>e= .returned (.tuple #[])/\w'=w.setCell ⟨b,0,none⟩ (.pointer (some ⟨b,0,none⟩)):=by
 obtain⟨j,hj,hjs⟩:=Option.map_eq_some_iff.1 (show(Tryz.prog.info? 178).map (·.size)=some 2 by kernel_rfl)
 have k1:=Lib.run_to_unsafe (P:=Tryz.prog) (w:=w) ⟨b,0,none⟩ Tryz.underlying176 Tryz.underlying218 hj (by rw[hjs];decide) hsh (Nat.zero_lt_succ 1)
 have k2:=Lib.run_from_unsafe (P:=Tryz.prog) (w:=w) ⟨b,0,none⟩ Tryz.underlying218 Tryz.underlying176 hj hsh (by kernel_rfl)
 have k3:∀x,(callFunc 186 #[x]).run Tryz.prog w= .ok (.value x) w:=fun x=>by
  rw[run_callFunc_extern Tryz.func186 (by kernel_rfl) (by kernel_rfl) (by kernel_rfl) (e:=Extern.AbiNoEscape.same) (by kernel_rfl),Lib.run_noEscape]
  rfl
 go_enter Tryz.func165,Tryz.ntmps165
 go_wp2
 go_end0
 exact⟨rfl,rfl⟩
theorem copyCheck_used (b:Nat) (w:World) (h0:w.cell? ⟨b,0,none⟩=some (.pointer (some ⟨b,0,none⟩))) (hsh:w.shape? b=some (178,2)):
  Calls Tryz.prog 165 #[.pointer (some ⟨b,0,none⟩)] w fun e w'=>e= .returned (.tuple #[])/\w'=w:=by
 obtain⟨j,hj,hjs⟩:=Option.map_eq_some_iff.1 (show(Tryz.prog.info? 178).map (·.size)=some 2 by kernel_rfl)
 have k1:=Lib.run_neq_ptr_same (P:=Tryz.prog) w ⟨b,0,none⟩ Tryz.underlying176 hj
 go_enter Tryz.func165,Tryz.ntmps165
 go_wp2
 go_end0
 exact⟨rfl,rfl⟩
theorem copyCheck_any (B b:Nat) (bs:List Value) (w:World) (h:BuF B b bs w):
  Calls Tryz.prog 165 #[.pointer (some ⟨b,0,none⟩)] w fun e w'=>e= .returned (.tuple #[])/\BuA B b bs w'/\Below B w w':=by
 rcases h with h|h
 ·refine(copyCheck_fresh b w h.cell0 h.shape h.frozen0).mono ?_
  rintro e w' ⟨rfl,rfl⟩
  exact⟨rfl,h.used _,(Below.refl B w).setCell (p:=⟨b,0,none⟩) h.1 _⟩
 ·refine(copyCheck_used b w h.cell0 h.shape).mono ?_
  rintro e w' ⟨rfl,rfl⟩
  exact⟨rfl,h,Below.refl B _⟩
theorem writeString_any (B b:Nat) (bs:List Value) (s:ByteArray) (w:World) (h:BuF B b bs w) (hlen:bs.length+s.size<=140737488355328) (hBw:B<=w.heap.size):
  Calls Tryz.prog 146 #[.pointer (some ⟨b,0,none⟩),.string s] w fun e w'=>e= .returned (.tuple #[.int .i64 s.size,.nilIface])/\BuA B b (bs++Lib.strCells s) w'/\Below B w w':=by
 obtain⟨i0,hi,hz0,hz1,hz2⟩:=info_parts (show(Tryz.prog.info? 5).map (fun i=>(i.zero,i.size,i.bytes))=some (some (.int .u8 0),1,1) by kernel_rfl)
 go_enter Tryz.func146,Tryz.ntmps146
 go_wp2_with (go_at_call 165;refine(copyCheck_any B b bs _ h).mono ?_)
 rintro e w1 ⟨rfl,h1,hb1⟩
 obtain⟨hB,v,hbk,hown,hne⟩:=h1
 have c0:w1.cell? ⟨b,0,none⟩=some (.pointer (some ⟨b,0,none⟩)):=by rw[Lib.cell_of_heap hbk];rfl
 have c1:w1.cell? ⟨b,1,none⟩=some v:=by rw[Lib.cell_of_heap hbk];rfl
 have hsz1:=hb1.size
 go_wp2_with (at_builtin;refine Lib.wpList_append_own_stringF _ rfl _ _ 38 9 rfl B 5 i0 Tryz.underlying38 Tryz.underlying9 hi hz0 hz1 hz2 _ _ _ rfl hown s rfl (by unfold maxLen;omega) (by omega) (by omega) ?_)
 intro v' w2 hown' hgrow _
 have hlt:b<w1.heap.size:=lt_of_block hbk
 have hb2:w2.heap[b]?=some (.cells #[.pointer (some ⟨b,0,none⟩),v] 178 (0,0)):=by
  rw[hgrow.block b hlt (fun e=>hne e.symm)]
  exact hbk
 have d0:w2.cell? ⟨b,0,none⟩=some (.pointer (some ⟨b,0,none⟩)):=by rw[Lib.cell_of_heap hb2];rfl
 have d1:w2.cell? ⟨b,1,none⟩=some v:=by rw[Lib.cell_of_heap hb2];rfl
 have f1:w2.frozen? ⟨b,1,none⟩=false:=Lib.frozen_of_heap hb2 1
 obtain⟨ao,n',cap,rfl⟩:∃ao n' cap,v'= .slice ao n' cap:=by
  rcases hown'.2 with⟨hv,_⟩|⟨g,cap,cur,fz,hv,_⟩
  ·exact⟨_,_,_,hv⟩
  ·exact⟨_,_,_,hv⟩
 go_wp2
 go_ret2
 refine⟨rfl,?_,?_⟩
 ·exact Lib.BuilderAtF.put (T:=178) (e:=5) hB hb2 (bs':=bs++Lib.strCells s) (by simpa [Lib.strCells_length] using hown') (by decide)
 ·exact(hb1.grown hgrow (by omega) (fun k hk=>(hown.lt k hk).1)).setCell (p:=⟨b,1,none⟩) hB _
end Go.Proofs.YtelfejiiabbpfaaGreatDoor
namespace Go.Proofs
open Go.Shelf
def Tryz.lays170_ren:Go.Shelf.Ren:=⟨fun|170=>147|n=>n,fun|70=>176|3=>3|0=>0|72=>178|37=>38|5=>5|n=>n,fun|n=>n⟩
theorem Tryz.lays170:Go.Proofs.Lays.n170 Tryz.prog Tryz.lays170_ren:={
 mixed:=by kernel_rfl
 f170:=Tryz.func147.trans (congrArg some (by kernel_rfl))
 t0:=Tryz.underlying0
 a0:=Tryz.isAgg0
 z0:=Tryz.sizeOf0
 v0:=Tryz.zeroValue0
 t3:=Tryz.underlying3
 a3:=Tryz.isAgg3
 z3:=Tryz.sizeOf3
 v3:=Tryz.zeroValue3
 t37:=Tryz.underlying38
 a37:=Tryz.isAgg38
 z37:=Tryz.sizeOf38
 v37:=Tryz.zeroValue38
 t70:=Tryz.underlying176
 a70:=Tryz.isAgg176
 z70:=Tryz.sizeOf176
 v70:=Tryz.zeroValue176
 t72:=Tryz.underlying178
 a72:=Tryz.isAgg178
 z72:=Tryz.sizeOf178
 v72:=Tryz.zeroValue178}
def Tryz.lays169_ren:Go.Shelf.Ren:=⟨fun|169=>148|n=>n,fun|70=>176|9=>9|0=>0|72=>178|37=>38|127=>200|3=>3|5=>5|n=>n,fun|n=>n⟩
theorem Tryz.lays169:Go.Proofs.Lays.n169 Tryz.prog Tryz.lays169_ren:={
 mixed:=by kernel_rfl
 f169:=Tryz.func148.trans (congrArg some (by kernel_rfl))
 t0:=Tryz.underlying0
 a0:=Tryz.isAgg0
 z0:=Tryz.sizeOf0
 v0:=Tryz.zeroValue0
 t3:=Tryz.underlying3
 a3:=Tryz.isAgg3
 z3:=Tryz.sizeOf3
 v3:=Tryz.zeroValue3
 t9:=Tryz.underlying9
 a9:=Tryz.isAgg9
 z9:=Tryz.sizeOf9
 v9:=Tryz.zeroValue9
 t37:=Tryz.underlying38
 a37:=Tryz.isAgg38
 z37:=Tryz.sizeOf38
 v37:=Tryz.zeroValue38
 t70:=Tryz.underlying176
 a70:=Tryz.isAgg176
 z70:=Tryz.sizeOf176
 v70:=Tryz.zeroValue176
 t72:=Tryz.underlying178
 a72:=Tryz.isAgg178
 z72:=Tryz.sizeOf178
 v72:=Tryz.zeroValue178
 t127:=Tryz.underlying200
 a127:=Tryz.isAgg200
 z127:=Tryz.sizeOf200
 v127:=Tryz.zeroValue200}
theorem Tryz.Builder_Extra_169:Builder.Extra Tryz.prog Tryz.lays169_ren:={
 sizeBuilder:=by kernel_rfl
 liesBuilder:=by kernel_rfl
 t5:=Tryz.underlying5
 a5:=Tryz.isAgg5
 z5:=Tryz.sizeOf5
 v5:=Tryz.zeroValue5
 infoByte:=by kernel_rfl
 cellsByte:=by kernel_rfl
 sizeByte:=by kernel_rfl
 neB5:=by decide}
def Tryz.lays241_ren:Go.Shelf.Ren:=⟨fun|241=>166|277=>187|n=>n,fun|70=>176|3=>3|0=>0|72=>178|37=>38|5=>5|n=>n,fun|n=>n⟩
theorem Tryz.lays241:Go.Proofs.Lays.n241 Tryz.prog Tryz.lays241_ren:={
 mixed:=by kernel_rfl
 f241:=Tryz.func166.trans (congrArg some (by kernel_rfl))
 f277:=Tryz.func187.trans (congrArg some (by kernel_rfl))
 t0:=Tryz.underlying0
 a0:=Tryz.isAgg0
 z0:=Tryz.sizeOf0
 v0:=Tryz.zeroValue0
 t3:=Tryz.underlying3
 a3:=Tryz.isAgg3
 z3:=Tryz.sizeOf3
 v3:=Tryz.zeroValue3
 t37:=Tryz.underlying38
 a37:=Tryz.isAgg38
 z37:=Tryz.sizeOf38
 v37:=Tryz.zeroValue38
 t70:=Tryz.underlying176
 a70:=Tryz.isAgg176
 z70:=Tryz.sizeOf176
 v70:=Tryz.zeroValue176
 t72:=Tryz.underlying178
 a72:=Tryz.isAgg178
 z72:=Tryz.sizeOf178
 v72:=Tryz.zeroValue178}
theorem Tryz.Builder_Extra_241:Builder.Extra Tryz.prog Tryz.lays241_ren:={
 sizeBuilder:=by kernel_rfl
 liesBuilder:=by kernel_rfl
 t5:=Tryz.underlying5
 a5:=Tryz.isAgg5
 z5:=Tryz.sizeOf5
 v5:=Tryz.zeroValue5
 infoByte:=by kernel_rfl
 cellsByte:=by kernel_rfl
 sizeByte:=by kernel_rfl
 neB5:=by decide}
open Go.RowKit in
theorem Tryz.Builder_grow_fresh (B b n:Nat) (w:World) (hB:B<=b) (hbk:w.heap[b]?=some (.cells #[.pointer (some ⟨b,0,none⟩),.slice none 0 0] 178 (0,0))) (hBw:B<=w.heap.size) (hn:n<=281474976710656):
  Calls Tryz.prog 166 #[.pointer (some ⟨b,0,none⟩),.int .i64 n] w fun e w'=>e= .returned (.tuple #[])/\(Lib.BuilderAt 178 5 B b (.pointer (some ⟨b,0,none⟩)) [] w'/\Below B w w'):=Any.Builder_grow_fresh Tryz.lays241 Tryz.Builder_Extra_241 B b n w hB hbk hBw hn
open Go.RowKit in
theorem Tryz.Builder_Len_f (B b:Nat) (bs:List Value) (w:World) (h:Lib.IsBuilderF 178 5 B b bs w):
  Calls Tryz.prog 147 #[.pointer (some ⟨b,0,none⟩)] w fun e w'=>e= .returned (.int .i64 bs.length)/\w'=w:=Any.Builder_Len_f Tryz.lays170 B b bs w h
open Go.RowKit in
theorem Tryz.Builder_String_any_k (B b:Nat) (l:List UInt8) (w:World) (h:Lib.IsBuilderF 178 5 B b (Lib.byteCells l) w) (hBw:B<=w.heap.size):
  Calls Tryz.prog 148 #[.pointer (some ⟨b,0,none⟩)] w fun e w'=>e= .returned (.string ⟨l.toArray⟩)/\(Lib.IsBuilderF 178 5 B b (Lib.byteCells l) w'/\Below B w w'/\Lib.OthersKept 5 (some b) w w'):=Any.Builder_String_any_k Tryz.lays169 Tryz.Builder_Extra_169 B b l w h hBw
end Go.Proofs
namespace Go.Proofs.YtelfejiiabbpfaaGreatDoor
open Go.RowKit Go.Maps Go.WideMaps
theorem grow_new (B b n:Nat) (w:World) (hB:B<=b) (hbk:w.heap[b]?=some (.cells #[.pointer none,.slice none 0 0] 178 (0,0))) (hBw:B<=w.heap.size) (hn:n<=281474976710656) (h0:0<n):
  Calls Tryz.prog 145 #[.pointer (some ⟨b,0,none⟩),.int .i64 n] w fun e w'=>e= .returned (.tuple #[])/\BuA B b [] w'/\Below B w w':=by
 have hbk1:(w.setCell ⟨b,0,none⟩ (.pointer (some ⟨b,0,none⟩))).heap[b]?=some (.cells #[.pointer (some ⟨b,0,none⟩),.slice none 0 0] 178 (0,0)):=heap_setCell_same _ b 0 _ _ _ hbk
 have hb1:Below B w (w.setCell ⟨b,0,none⟩ (.pointer (some ⟨b,0,none⟩))):=(Below.refl B w).setCell (p:=⟨b,0,none⟩) hB _
 have kc:=copyCheck_fresh b w (by rw[Lib.cell_of_heap hbk];rfl) (by simp[World.shape?,hbk]) (Lib.frozen_of_heap hbk 0)
 have hn0:¬(n:Int)<0:=by omega
 have hn1:(0:Int)<(n:Int):=by omega
 go_enter Tryz.func145,Tryz.ntmps145
 go_wp2_with (go_at_call 165;refine kc.mono ?_;rintro e w1 ⟨rfl,rfl⟩)
 generalize w.setCell ⟨b,0,none⟩ (.pointer (some ⟨b,0,none⟩))=W1 at hbk1 hb1⊢
 have c1:W1.cell? ⟨b,1,none⟩=some (.slice none 0 0):=by rw[Lib.cell_of_heap hbk1];rfl
 have hs1:=hb1.size
 clear kc
 go_region_held3 (fun w'=>w'.cell? ⟨b,1,none⟩=some (.slice none 0 0)) (first|go_keep|exact c1) (fail)
 have kg:=Tryz.Builder_grow_fresh B b n W1.drew hB hbk1 (by simpa using(show B<=W1.heap.size by omega)) hn
 go_wp2_with (go_at_call 166;refine kg.mono ?_;rintro e w2 ⟨rfl,h2,hb2⟩)
 all_goals first
  |(rename_i hx;rw[IntKind.wrap_i64]at hx;omega)
  |skip
 go_end0
 exact⟨rfl,Lib.BuilderAtF.of h2,(⟨hb1.os,hb1.tape,hb1.output,hb1.size,hb1.block⟩:Below B w W1.drew).trans hb2⟩
def Bu (B b:Nat) (T:ByteArray) (w:World):Prop:=BuF B b (Lib.strCells T) w
theorem strCells_appB (a b:ByteArray):Lib.strCells (a++b)=Lib.strCells a++Lib.strCells b:=by
 unfold Lib.strCells
 rw[ByteArray.data_append,Array.toList_append,List.map_append]
theorem write_any (B b:Nat) (T s:ByteArray) (w:World) (h:Bu B b T w) (hlen:T.size+s.size<=140737488355328) (hBw:B<=w.heap.size):
  Calls Tryz.prog 146 #[.pointer (some ⟨b,0,none⟩),.string s] w fun e w'=>e= .returned (.tuple #[.int .i64 s.size,.nilIface])/\Bu B b (T++s) w'/\Below B w w':=by
 refine(writeString_any B b _ s w h (by rw[Lib.strCells_length];exact hlen) hBw).mono ?_
 rintro e w' ⟨rfl,h1,h2⟩
 exact⟨rfl,.inr (by rw[strCells_appB];exact h1),h2⟩
theorem string_any (B b:Nat) (T:ByteArray) (w:World) (h:Bu B b T w) (hBw:B<=w.heap.size):
  Calls Tryz.prog 148 #[.pointer (some ⟨b,0,none⟩)] w fun e w'=>e= .returned (.string T)/\Bu B b T w'/\Below B w w':=by
 refine(Tryz.Builder_String_any_k B b T.data.toList w h hBw).mono ?_
 rintro e w' ⟨rfl,h1,h2,_⟩
 exact⟨rfl,h1,h2⟩
theorem Bu.lt {B b:Nat}{T:ByteArray}{w:World}(h:Bu B b T w):b<w.heap.size:=by
 rcases h with⟨_,v,h,_⟩|⟨_,v,h,_⟩
 ·exact lt_of_block h
 ·exact lt_of_block h
end Go.Proofs.YtelfejiiabbpfaaGreatDoor
namespace Go.Proofs
open Go.Shelf
def Tryz.lays212_ren:Go.Shelf.Ren:=⟨fun|212=>143|263=>162|264=>163|n=>n,fun|46=>172|51=>195|146=>196|53=>161|148=>198|n=>n,fun|n=>n⟩
theorem Tryz.lays212:Go.Proofs.Lays.n212 Tryz.prog Tryz.lays212_ren:={
 mixed:=by kernel_rfl
 f212:=Tryz.func143.trans (congrArg some (by kernel_rfl))
 f263:=Tryz.func162.trans (congrArg some (by kernel_rfl))
 f264:=Tryz.func163.trans (congrArg some (by kernel_rfl))
 t46:=Tryz.underlying172
 a46:=Tryz.isAgg172
 z46:=Tryz.sizeOf172
 v46:=Tryz.zeroValue172
 t51:=Tryz.underlying195
 a51:=Tryz.isAgg195
 z51:=Tryz.sizeOf195
 v51:=Tryz.zeroValue195
 t53:=Tryz.underlying161
 a53:=Tryz.isAgg161
 z53:=Tryz.sizeOf161
 v53:=Tryz.zeroValue161
 t146:=Tryz.underlying196
 a146:=Tryz.isAgg196
 z146:=Tryz.sizeOf196
 v146:=Tryz.zeroValue196
 t148:=Tryz.underlying198
 a148:=Tryz.isAgg198
 z148:=Tryz.sizeOf198
 v148:=Tryz.zeroValue198}
open Go.RowKit Go.Lib in
theorem Tryz.bits_Mul (x y:Nat) (hx:x<18446744073709551616) (hy:y<18446744073709551616) (w:World):
  Calls Tryz.prog 143 #[.int .u64 x,.int .u64 y] w fun e w'=>e= .returned (.tuple #[.int .u64 ((x*y / 18446744073709551616:Nat):Int),.int .u64 ((x*y%18446744073709551616:Nat):Int)])/\w'=w:=Any.bits_Mul Tryz.lays212 x y hx hy w
end Go.Proofs
namespace Go.Proofs.YtelfejiiabbpfaaGreatDoor
open Go.RowKit Go.Maps Go.WideMaps
def tgtB:ByteArray:=⟨#[116,97,114,103,101,116,32]⟩
def repB (q:Nat):ByteArray:=⟨(Lib.repeatL [116,97,114,103,101,116,32] q).toArray⟩
theorem repB_size (q:Nat):(repB q).size=7*q:=by
 have e:(repB q).size=(Lib.repeatL [116,97,114,103,101,116,32] q).length:=by simp[repB,ByteArray.size]
 rw[e,Lib.repeatL_length];simp;omega
theorem repB_add (a b:Nat):repB (a+b)=repB a++repB b:=by
 apply ByteArray.ext
 rw[ByteArray.data_append]
 show(Lib.repeatL _ (a+b)).toArray=(Lib.repeatL _ a).toArray++(Lib.repeatL _ b).toArray
 rw[Lib.repeatL_add]
 simp
theorem repB_take (q d:Nat) (h:d<=q):(repB q).extract 0 (7*d)=repB d:=by
 obtain⟨r,rfl⟩:=Nat.exists_eq_add_of_le h
 rw[repB_add]
 apply ByteArray.ext
 rw[ByteArray.data_extract,ByteArray.data_append]
 have hs:(repB d).data.size=7*d:=repB_size d
 rw[<-hs]
 apply Array.ext'
 simp
 apply List.take_of_length_le
 rw[Array.length_toList]
 exact Nat.le_refl _
theorem min3 (ts:Array TypeId) (t:TypeId) (x y z c:Int) (W:World) (h:(if z<(if y<x then y else x) then z else(if y<x then y else x))=c):
  (Builtin.min_ ts t #[.int .i64 x,.int .i64 y,.int .i64 z]).run Tryz.prog W= .ok (.int .i64 c) W:=by
 rw[<-h]
 simp[Builtin.min_,Builtin.min2]
theorem repeat_main (m:Nat) (w:World) (hn:m+2<=200):
  Calls Tryz.prog 126 #[.string ⟨#[116,97,114,103,101,116,32]⟩,.int .i64 ((m+2:Nat):Int)] w fun e w'=>e= .returned (.string (repB (m+2)))/\Below w.heap.size w w':=by
 have hMul:=Tryz.bits_Mul 7 (m+2) (by omega) (by omega) w
 rw[Nat.div_eq_of_lt (by omega:7*(m+2)<18446744073709551616),Nat.mod_eq_of_lt (by omega:7*(m+2)<18446744073709551616)]at hMul
 obtain⟨n,hN⟩:∃n,7*(m+2)=n:=⟨_,rfl⟩
 rw[hN]at hMul
 have HN:Hid (7*(m+2)=n):=hN
 have n0:¬(9223372036854775807:Int)<(n:Int):=by omega
 have n1:¬(8192:Int)<(n:Int):=by omega
 have n2:((n:Int)==0)=false:=by rw[beq_eq_false_iff_ne];omega
 have n3:(n:Int)<=1400:=by omega
 have n4:14<=n:=by omega
 have m0:((m:Int)+2==0)=false:=by rw[beq_eq_false_iff_ne];omega
 have m1:((m:Int)+2==1)=false:=by rw[beq_eq_false_iff_ne];omega
 have m2:¬(m:Int)+2<0:=by omega
 clear hN
 go_enter Tryz.func126,Tryz.ntmps126
 go_wp2_with (first|(go_at_call 143;refine hMul.mono ?_;rintro e w' ⟨rfl,rfl⟩)|(go_at_call 145;fail))
 obtain⟨w0,rfl⟩:∃w0,w0=w':=⟨_,rfl⟩
 have kg:=grow_new w0.heap.size w0.heap.size n (w0.alloc (.cells #[.pointer none,.slice none 0 0] 178)) (Nat.le_refl _) (heap_alloc_new w0 _) (by simp) (by omega) (by omega)
 refine kg.mono ?_
 rintro e w2 ⟨rfl,h2,hb2⟩
 have hbA:Below w0.heap.size w0 (w0.alloc (.cells #[.pointer none,.slice none 0 0] 178)):=(Below.refl _ w0).alloc (Nat.le_refl _) _
 have bw2:Below w0.heap.size w0 w2:=hbA.trans hb2
 have b2:Bu w0.heap.size w0.heap.size ⟨#[]⟩ w2:= .inr h2
 have kw:=write_any w0.heap.size w0.heap.size ⟨#[]⟩ tgtB w2 b2 (by decide) bw2.size
 rw[show(⟨#[]⟩:ByteArray)++tgtB=repB 1 from rfl]at kw
 have HB2:Hid (Below w0.heap.size w0 w2):=bw2
 clear kg h2 hb2 hbA b2 bw2 hMul
 go_wp2_with (go_at_call 146;fail)
 refine kw.mono ?_
 rintro e w3 ⟨rfl,b3,hb3⟩
 have H3:Hid (Bu w0.heap.size w0.heap.size (repB 1) w3/\Below w0.heap.size w0 w3):=⟨b3,HB2.out.trans hb3⟩
 clear kw b3 hb3
 go_wp2_with fail
 go_loopg [] (m+1) (fun g wx=>∃q:Nat,1<=q/\q+g=m+2/\Hid (Bu w0.heap.size w0.heap.size (repB q) wx/\Below w0.heap.size w0 wx))
 case atStart=>exact⟨1,Nat.le_refl _,by omega,H3⟩
 case round=>
  obtain⟨q,hq1,hqg,HQ⟩:=hrel
  have cLen:=Tryz.Builder_Len_f w0.heap.size w0.heap.size _ wr HQ.out.1
  rw[Lib.strCells_length,repB_size]at cLen
  have cStr:=string_any w0.heap.size w0.heap.size _ wr HQ.out.1 HQ.out.2.size
  obtain⟨Q,hQ⟩:∃Q,7*q=Q:=⟨_,rfl⟩
  have HQQ:Hid (7*q=Q):=hQ
  rw[hQ]at cLen
  obtain⟨S,hS⟩:∃S,repB q=S:=⟨_,rfl⟩
  have HS:Hid (repB q=S):=hS
  have hSz:S.size=Q:=by rw[<-hS,repB_size,hQ]
  rw[hS]at cStr
  clear hQ hS
  cases gk with
  |zero=>
   obtain rfl:q=m+2:=by omega
   have hQn:¬((Q:Int)<(n:Int)):=by have:=HN.out;have:=HQQ.out;omega
   go_wp2_with (first|(go_at_call 147;refine cLen.mono ?_;rintro e w4 ⟨rfl,hw⟩;rw[hw])|(go_at_call 148;refine cStr.mono ?_;rintro e w5 ⟨rfl,b5,hb5⟩))
   go_ret
   exact⟨by rw[HS.out];rfl,HQ.out.2.trans hb5⟩
  |succ g=>
   obtain⟨d,hd⟩:∃d,min (m+2-q) q=d:=⟨_,rfl⟩
   have hd1:1<=d:=by omega
   have hdq:d<=q:=by omega
   have hdm:q+d<=m+2:=by omega
   obtain⟨C,hC⟩:∃C,7*d=C:=⟨_,rfl⟩
   have hQn:(Q:Int)<(n:Int):=by have:=HN.out;have:=HQQ.out;omega
   have hCQ:C<=Q:=by have:=HQQ.out;omega
   have hsum:Q+C<=n:=by have:=HN.out;have:=HQQ.out;omega
   have hmin:∀(ts:Array TypeId) (t:TypeId) (W:World),(Builtin.min_ ts t #[.int .i64 ((n:Int)-(Q:Int)),.int .i64 (Q:Int),.int .i64 (n:Int)]).run Tryz.prog W= .ok (.int .i64 (C:Int)) W:=fun ts t W=>min3 ts t _ _ _ _ W (by
    have:=HN.out;have:=HQQ.out
    split<;>split<;>omega)
   have HC:Hid (7*d=C/\S.extract 0 C=repB d):=⟨hC,by rw[<-hC,<-HS.out];exact repB_take q d hdq⟩
   have hC0:(0:Int)<=(C:Int):=by omega
   have hCS:(C:Int)<=(S.size:Int):=by omega
   clear hd hC
   go_wp2_with (first|(go_at_call 147;refine cLen.mono ?_;rintro e w4 ⟨rfl,hw⟩;rw[hw])|(go_at_call 148;refine cStr.mono ?_;rintro e w5 ⟨rfl,b5,hb5⟩))
   rw[HC.out.2]
   have bw5:=HQ.out.2.trans hb5
   refine(write_any w0.heap.size w0.heap.size S (repB d) w5 b5 (by rw[hSz,repB_size,HC.out.1];omega) bw5.size).mono ?_
   rintro e w6 ⟨rfl,b6,hb6⟩
   have H6:Hid (Bu w0.heap.size w0.heap.size (repB (q+d)) w6/\Below w0.heap.size w0 w6):=⟨by rw[repB_add,HS.out];exact b6,bw5.trans hb6⟩
   clear b5 hb5 b6 hb6 bw5
   go_wp2_with fail
   go_roundg (m+2-(q+d))
   case measure=>omega
   case rel=>exact⟨q+d,by omega,by omega,H6⟩
theorem repeat_tgt (n:Nat) (w:World) (hn:n<=200):
  Calls Tryz.prog 126 #[.string ⟨#[116,97,114,103,101,116,32]⟩,.int .i64 (n:Int)] w fun e w'=>e= .returned (.string ⟨(Lib.repeatL [116,97,114,103,101,116,32] n).toArray⟩)/\Below w.heap.size w w':=by
 match n,hn with
 |0,_=>
  go_enter Tryz.func126,Tryz.ntmps126
  go_wp2_with fail
  go_ret
  exact⟨rfl,Below.refl _ _⟩
 |1,_=>
  go_enter Tryz.func126,Tryz.ntmps126
  go_wp2_with fail
  go_ret
  exact⟨rfl,Below.refl _ _⟩
 |m+2,hn=>exact repeat_main m w hn
end Go.Proofs.YtelfejiiabbpfaaGreatDoor
namespace Go.Proofs.YtelfejiiabbpfaaGreatDoor
open Go.RowKit
theorem infoNode:(Tryz.prog.info? 44).map (fun i=>(i.zero,i.size,i.bytes))=some (some (.agg #[.int .i64 0,.int .i64 0,.int .i64 0,.int .i64 0,.int .i64 0,.int .i64 0,.string ⟨#[]⟩,.slice none 0 0,.slice none 0 0]),9,112):=by kernel_rfl
structure Nb where
 N:Nd
 g:Nat
 h:Nat
def Nb.vn (x:Nb):Value:= .slice (some ⟨x.g,0,none⟩) x.N.nm.length x.N.nm.length
def Nb.vk (x:Nb):Value:= .slice (some ⟨x.h,0,none⟩) x.N.ks.length x.N.ks.length
def cNb (x:Nb):List Value:=[.int .i64 x.N.k,.int .i64 x.N.f,.int .i64 x.N.t,.int .i64 x.N.l,.int .i64 x.N.op,.int .i64 x.N.n,.string x.N.x,x.vn,x.vk]
def cNbs (l:List Nb):List Value:=l.flatMap cNb
def zc:List Value:=[.int .i64 0,.int .i64 0,.int .i64 0,.int .i64 0,.int .i64 0,.int .i64 0,.string ⟨#[]⟩,.slice none 0 0,.slice none 0 0]
def zcs:Nat->List Value
 |0=>[]
 |n+1=>zc++zcs n
theorem cNbs_app (a:List Nb) (x:Nb):cNbs (a++[x])=cNbs a++cNb x:=by simp[cNbs]
theorem cNbs_len (l:List Nb):(cNbs l).length=l.length*9:=by
 induction l with
 |nil=>rfl
 |cons a r ih=>
  have e:cNbs (a::r)=cNb a++cNbs r:=by simp[cNbs]
  have la:(cNb a).length=9:=rfl
  rw[e,List.length_append,ih,la,List.length_cons];omega
theorem zcs_len (n:Nat):(zcs n).length=n*9:=by
 induction n with
 |zero=>rfl
 |succ n ih=>rw[zcs,List.length_append,ih];show 9+n*9=_;omega
theorem zcs_at:∀(n j:Nat),j<n*9->(zcs n)[j]?=zc[j%9]?
 |0,j,h=>by omega
 |n+1,j,h=>by
  have lz:zc.length=9:=rfl
  rw[zcs]
  rcases Nat.lt_or_ge j 9 with g|g
  ·rw[List.getElem?_append_left (by omega),Nat.mod_eq_of_lt g]
  ·rw[List.getElem?_append_right (by omega),lz,zcs_at n (j-9) (by omega)]
   congr 1
   omega
theorem made9 (n:Nat):(madeCells (Value.agg #[.int .i64 0,.int .i64 0,.int .i64 0,.int .i64 0,.int .i64 0,.int .i64 0,.string ⟨#[]⟩,.slice none 0 0,.slice none 0 0]).cells (n*9)).toList=zcs n:=by
 apply List.ext_getElem?
 intro j
 by_cases hj:j<n*9
 ·rw[zcs_at n j hj]
  have hr:j%9<9:=Nat.mod_lt _ (by omega)
  have e:(madeCells (Value.agg #[.int .i64 0,.int .i64 0,.int .i64 0,.int .i64 0,.int .i64 0,.int .i64 0,.string ⟨#[]⟩,.slice none 0 0,.slice none 0 0]).cells (n*9)).toList[j]?=some ((#[.int .i64 0,.int .i64 0,.int .i64 0,.int .i64 0,.int .i64 0,.int .i64 0,.string ⟨#[]⟩,.slice none 0 0,.slice none 0 0]:Array Value)[j%9]!):=by
   unfold madeCells
   rw[Array.getElem?_toList,Array.getElem?_map,Array.getElem?_range,if_pos hj]
   rfl
  rw[e]
  generalize j%9=r at hr
  rcases(show r=0\/r=1\/r=2\/r=3\/r=4\/r=5\/r=6\/r=7\/r=8 by omega) with rfl|rfl|rfl|rfl|rfl|rfl|rfl|rfl|rfl
  all_goals rfl
 ·rw[List.getElem?_eq_none (l:=zcs n) (by rw[zcs_len];omega),List.getElem?_eq_none]
  rw[Array.length_toList,size_madeCells]
  omega
theorem set_fill (A R:List Value) (m:Nat) (hA:A.length=m) (a0 a1 a2 a3 a4 a5 a6 a7 a8:Value):
  (((((((((A++(zc++R)).set m a0).set (m+1) a1).set (m+2) a2).set (m+3) a3).set (m+4) a4).set (m+5) a5).set (m+6) a6).set (m+7) a7).set (m+8) a8=A++([a0,a1,a2,a3,a4,a5,a6,a7,a8]++R):=by
 subst hA
 have st:∀(xs:List Value) (j:Nat) (u:Value),(A++xs).set (A.length+j) u=A++xs.set j u:=fun xs j u=>by
  rw[List.set_append_right _ _ (by omega)];congr 2;omega
 have s0:=fun xs u=>st xs 0 u
 simp only[Nat.add_zero]at s0
 rw[s0,st,st,st,st,st,st,st,st]
 rfl
structure NbOwn (W:World) (base:Nat) (x:Nb):Prop where
 on:W.ownsRow base 9 1 x.vn x.N.nm.length (x.N.nm.map Value.string)
 ok:W.ownsRow base 3 1 x.vk x.N.ks.length (x.N.ks.map (Value.int .i64))
theorem NbOwn.below {W W':World}{base:Nat}{x:Nb}(h:NbOwn W base x) (hb:Below W.heap.size W W'):NbOwn W' base x:=⟨own_keep h.on hb,own_keep h.ok hb⟩
theorem own_apart {W:World}{b1 b2 e1 e2 s1 s2 g1 g2 n1 n2 c1 c2:Nat}{x1 x2:List Value}(h1:W.ownsRow b1 e1 s1 (.slice (some ⟨g1,0,none⟩) n1 c1) n1 x1) (h2:W.ownsRow b2 e2 s2 (.slice (some ⟨g2,0,none⟩) n2 c2) n2 x2) (he:e1≠e2):g1≠g2:=by
 rintro rfl
 rcases h1.2 with⟨h,_⟩|⟨g,cap,cur,h,_,hg,_⟩
 ·cases h
 ·cases h
  rcases h2.2 with⟨h,_⟩|⟨g',cap',cur',h',_,hg',_⟩
  ·cases h
  ·cases h'
   have e:=hg.symm.trans hg'
   simp only[Option.some.injEq,Obj.cells.injEq]at e
   exact he e.2.1
theorem NbOwn.set {W:World}{base:Nat}{x:Nb}(h:NbOwn W base x) {a:Addr}(h1:x.g≠a.block) (h2:x.h≠a.block) (u:Value):NbOwn (W.setCell a u) base x:=
 ⟨ownsRow_setCell_other h.on (by unfold Nb.vn Value.ownBlock;simp;exact h1) u,ownsRow_setCell_other h.ok (by unfold Nb.vk Value.ownBlock;simp;exact h2) u⟩
structure NbsOwn (W:World) (base g n:Nat) (L:List Nb) (rest:List Value):Prop where
 row:W.ownsRow base 44 9 (.slice (some ⟨g,0,none⟩) n n) n (cNbs L++rest)
 each:∀x∈L,NbOwn W base x
 dn:(L.map Nb.g).Nodup
 dk:(L.map Nb.h).Nodup
theorem NbsOwn.below {W W':World}{base g n:Nat}{L:List Nb}{rest:List Value}(h:NbsOwn W base g n L rest) (hb:Below W.heap.size W W'):NbsOwn W' base g n L rest:=
 ⟨own_keep h.row hb,fun x hx=>(h.each x hx).below hb,h.dn,h.dk⟩
theorem toNodeS_any (w:World) (v:Value) (l:List Nd) (h:NdsAt w v l) (hl:l.length<=1048576) (hN:∀N∈l,N.nm.length<=1048576/\N.ks.length<=1048576):
  Calls Tryz.prog 13 #[v] w fun e w'=>e= .returned (.slice (some ⟨w.heap.size,0,none⟩) l.length l.length)/\(∃L,L.map Nb.N=l/\NbsOwn w' w.heap.size w.heap.size l.length L [])/\Below w.heap.size w w':=by
 obtain⟨a,c,rfl⟩:=h.form
 obtain⟨n,hn⟩:∃n,l.length=n:=⟨_,rfl⟩
 have HN:Hid (l.length=n):=hn
 have HA:Hid (NdsAt w (.slice a n c) l):=by rw[<-hn];exact h
 have HS:Hid (∀N∈l,N.nm.length<=1048576/\N.ks.length<=1048576):=hN
 rw[hn]at hl⊢
 clear h hn hN
 obtain⟨i0,hi,hz0,hz1,hz2⟩:=info_parts infoNode
 go_enter Tryz.func13,Tryz.ntmps13
 go_wp2_with (at_make;refine wpList_make_full _ rfl _ _ 27 rfl w.heap.size 44 i0 (.agg #[.int .i64 0,.int .i64 0,.int .i64 0,.int .i64 0,.int .i64 0,.int .i64 0,.string ⟨#[]⟩,.slice none 0 0,.slice none 0 0]) 9 Tryz.underlying27 hi hz0 hz1 .i64 .i64 _ _ n rfl rfl rfl rfl (by rw[hz2];omega) (by unfold maxLen;omega) (Nat.le_refl _) ?_;intro w0 hown0 hgrow0)
 have hb0:Below w.heap.size w w0:=⟨hgrow0.os,hgrow0.tape,hgrow0.output,hgrow0.size,fun k hk=>hgrow0.block k hk (by simp)⟩
 go_loopw [4] (fun vi wr=>∃(k:Nat) (L:List Nb),k<=n/\vi= .int .i64 k/\L.map Nb.N=l.take k/\NbsOwn wr w.heap.size w.heap.size n L (zcs (n-k))/\Below w.heap.size w wr) (fun vi _=>n-(intOf vi).toNat)
 case atStart=>
  refine⟨0,[],by omega,rfl,rfl,⟨?_,fun x hx=>by simp at hx,List.nodup_nil,List.nodup_nil⟩,hb0⟩
  rw[made9]at hown0
  exact hown0
 case round=>
  obtain⟨k,L,hk,rfl,hL,ho,hb⟩:=hrel
  clear hown0 hgrow0 hb0
  have hLl:L.length=k:=by have:=congrArg List.length hL;rw[List.length_map,List.length_take,HN.out]at this;omega
  by_cases hlt:k<n
  ·obtain⟨N,hsk⟩:=some_at HN.out hlt
   obtain⟨hs1,hs2⟩:=HS.out N (List.mem_of_getElem? hsk)
   obtain⟨a',rfl,vn,vk,hNd⟩:=(HA.out.below hb).get hsk
   have hki:(k:Int)<(n:Int):=by omega
   have hk0:(0:Int)<=(k:Int):=by omega
   obtain⟨c0,c1,c2,c3,c4,c5,c6,c7,c8,hn,hkk⟩:=hNd
   have kt:=toNode_any wr N vn vk hn hkk hs1 hs2
   obtain⟨av,cv,rfl⟩:=hn.form
   obtain⟨ak,ck,rfl⟩:=hkk.form
   unfold vNd at kt
   have HSK:Hid (l[k]?=some N):=hsk
   clear hn hkk hsk hs1 hs2
   go_wp2_with (go_at_call 27;fail)
   refine kt.mono ?_
   rintro e w3 ⟨g1,g2,rfl,own1,own2,hb3⟩
   have ho3:=ho.below hb3
   have hlen:=cNbs_len L
   rw[hLl]at hlen
   have hrow:=ho3.row
   rw[show n-k=(n-(k+1))+1 by omega,zcs]at hrow
   have dc:∀j,j<9->w3.cell? ⟨w.heap.size,k*9+j,none⟩=zc[j]?:=fun j hj=>by
    rw[hrow.cellAt (k*9+j) (by omega),List.getElem?_append_right (by omega),hlen,Nat.add_sub_cancel_left,List.getElem?_append_left (by show j<9;exact hj)]
   have d0:=dc 0 (by omega)
   have d1:=dc 1 (by omega)
   have d2:=dc 2 (by omega)
   have d3:=dc 3 (by omega)
   have d4:=dc 4 (by omega)
   have d5:=dc 5 (by omega)
   have d6:=dc 6 (by omega)
   have d7:=dc 7 (by omega)
   have d8:=dc 8 (by omega)
   simp only[zc,Nat.add_zero,List.getElem?_cons_zero,List.getElem?_cons_succ]at d0 d1 d2 d3 d4 d5 d6 d7 d8
   have fz:=fun j=>hrow.frozenAt j
   clear dc c0 c1 c2 c3 c4 c5 c6 c7 c8 kt
   go_wp2_with fail
   have o9:=(((((((((hrow.stored (k*9) (.int .i64 N.k)).1.stored (k*9+1) (.int .i64 N.f)).1.stored (k*9+2) (.int .i64 N.t)).1.stored (k*9+3) (.int .i64 N.l)).1.stored (k*9+4) (.int .i64 N.op)).1.stored (k*9+5) (.int .i64 N.n)).1.stored (k*9+6) (.string N.x)).1.stored (k*9+7) (.slice (some ⟨g1,0,none⟩) N.nm.length N.nm.length)).1.stored (k*9+8) (.slice (some ⟨g2,0,none⟩) N.ks.length N.ks.length)).1
   rw[set_fill (cNbs L) (zcs (n-(k+1))) (k*9) hlen]at o9
   have hng:∀x∈L,x.g≠w.heap.size/\x.h≠w.heap.size:=fun x hx=>⟨own_apart (ho3.each x hx).on hrow (by decide),own_apart (ho3.each x hx).ok hrow (by decide)⟩
   have hn1:g1≠w.heap.size:=own_apart own1 hrow (by decide)
   have hn2:g2≠w.heap.size:=own_apart own2 hrow (by decide)
   have hold:∀x∈L,x.g<wr.heap.size/\x.h<wr.heap.size:=fun x hx=>⟨((ho.each x hx).on.lt x.g rfl).2,((ho.each x hx).ok.lt x.h rfl).2⟩
   have hw1:=(own1.lt g1 rfl).1
   have hw2:=(own2.lt g2 rfl).1
   have hnew:NbOwn w3 w.heap.size ⟨N,g1,g2⟩:=⟨own_le own1 hb.size,own_le own2 hb.size⟩
   refine⟨⟨k+1,L++[⟨N,g1,g2⟩],by omega,by go_num,?_,⟨?_,?_,?_,?_⟩,?_⟩,by simp[intOf];omega⟩
   ·rw[List.map_append,hL,List.take_add_one,HSK.out];rfl
   ·rw[cNbs_app,List.append_assoc];exact o9
   ·intro x hx
    rcases List.mem_append.1 hx with hx|hx
    ·obtain⟨e1,e2⟩:=hng x hx
     exact(((((((((ho3.each x hx).set e1 e2 _).set e1 e2 _).set e1 e2 _).set e1 e2 _).set e1 e2 _).set e1 e2 _).set e1 e2 _).set e1 e2 _).set e1 e2 _
    ·obtain rfl:=List.mem_singleton.1 hx
     exact((((((((hnew.set hn1 hn2 _).set hn1 hn2 _).set hn1 hn2 _).set hn1 hn2 _).set hn1 hn2 _).set hn1 hn2 _).set hn1 hn2 _).set hn1 hn2 _).set hn1 hn2 _
   ·rw[List.map_append,List.nodup_append]
    refine⟨ho.dn,by simp,fun a ha b hb'=>?_⟩
    obtain⟨x,hx,rfl⟩:=List.mem_map.1 ha
    simp at hb'
    have:=(hold x hx).1
    omega
   ·rw[List.map_append,List.nodup_append]
    refine⟨ho.dk,by simp,fun a ha b hb'=>?_⟩
    obtain⟨x,hx,rfl⟩:=List.mem_map.1 ha
    simp at hb'
    have:=(hold x hx).2
    omega
   ·have hbb:=hb.trans (hb3.mono hb.size)
    iterate 9 refine Below.setCell ?_ (by simp) _
    exact hbb
  ·obtain rfl:k=n:=by omega
   go_wp2_with fail
   go_ret
   refine⟨rfl,⟨L,?_,?_⟩,hb⟩
   ·rw[hL,List.take_of_length_le (by have:=HN.out;omega)]
   ·rw[Nat.sub_self]at ho;exact ho
theorem NbsOwn.setb {W:World}{base g n:Nat}{L:List Nb}{rest:List Value}(h:NbsOwn W base g n L rest) {a:Addr}(ha:a.block<base) (u:Value):NbsOwn (W.setCell a u) base g n L rest:=
 ⟨ownsRow_setCell_below h.row ha u,fun x hx=>⟨ownsRow_setCell_below (h.each x hx).on ha u,ownsRow_setCell_below (h.each x hx).ok ha u⟩,h.dn,h.dk⟩
theorem NbsOwn.le {W:World}{base base' g n:Nat}{L:List Nb}{rest:List Value}(h:NbsOwn W base g n L rest) (hb:base'<=base):NbsOwn W base' g n L rest:=
 ⟨own_le h.row hb,fun x hx=>⟨own_le (h.each x hx).on hb,own_le (h.each x hx).ok hb⟩,h.dn,h.dk⟩
theorem cNbs_at (ts:List Nb) (i j:Nat) (T:Nb) (hT:ts[i]?=some T) (hj:j<9):(cNbs ts)[i*9+j]?=(cNb T)[j]?:=by
 induction ts generalizing i with
 |nil=>simp at hT
 |cons a r ih=>
  have e:cNbs (a::r)=cNb a++cNbs r:=by simp[cNbs]
  have la:(cNb a).length=9:=rfl
  rw[e]
  cases i with
  |zero=>simp at hT;subst hT;rw[List.getElem?_append_left (by omega)];congr 1;omega
  |succ i=>
   rw[List.getElem?_append_right (by omega),la,show(i+1)*9+j-9=i*9+j by omega]
   exact ih i (by simpa using hT)
theorem add_zero9 (g m:Nat):(⟨g,0,none⟩:Addr).add m=⟨g,m,none⟩:=by unfold Addr.add;split<;>simp_all
theorem NbsOwn.nd {W:World}{base g n:Nat}{L:List Nb}(h:NbsOwn W base g n L []) {i:Nat}{x:Nb}(hx:L[i]?=some x):NdAt W ⟨g,i*9,none⟩ x.N x.vn x.vk:=by
 have hlen:n*9=L.length*9:=by have:=h.row.1;rw[List.append_nil,cNbs_len]at this;omega
 have hi:i<L.length:=by rcases Nat.lt_or_ge i L.length with g|g;exact g;rw[List.getElem?_eq_none g]at hx;cases hx
 have c:∀j,j<9->W.cell? ⟨g,i*9+j,none⟩=(cNb x)[j]?:=fun j hj=>by
  rw[h.row.cellAt (i*9+j) (by omega),List.append_nil,cNbs_at L i j x hx hj]
 have hm:=List.mem_of_getElem? hx
 exact⟨c 0 (by omega),c 1 (by omega),c 2 (by omega),c 3 (by omega),c 4 (by omega),c 5 (by omega),c 6 (by omega),c 7 (by omega),c 8 (by omega),own_strs (h.each x hm).on rfl,own_ints (h.each x hm).ok rfl⟩
theorem NbsOwn.nds {W:World}{base g n:Nat}{L:List Nb}(h:NbsOwn W base g n L []):NdsAt W (.slice (some ⟨g,0,none⟩) n n) (L.map Nb.N):=by
 have hlen:n=(L.map Nb.N).length:=by have:=h.row.1;rw[List.append_nil,cNbs_len]at this;rw[List.length_map];omega
 refine .inr ⟨⟨g,0,none⟩,n,by rw[<-hlen],fun i N hN=>?_⟩
 rw[List.getElem?_map]at hN
 cases hx:L[i]? with
 |none=>rw[hx]at hN;cases hN
 |some x=>
  rw[hx]at hN
  obtain rfl:=Option.some.inj hN
  rw[add_zero9]
  exact⟨_,_,h.nd hx⟩
theorem toTree_any (w:World) (v:Value) (l:List Nd) (h:NdsAt w v l) (hl:l.length<=1048576) (hN:∀N∈l,N.nm.length<=1048576/\N.ks.length<=1048576):
  Calls Tryz.prog 6 #[.agg #[v]] w fun e w'=>∃g,e= .returned (.agg #[.slice (some ⟨g,0,none⟩) l.length l.length])/\(∃L,L.map Nb.N=l/\NbsOwn w' w.heap.size g l.length L [])/\Below w.heap.size w w':=by
 obtain⟨a,c,rfl⟩:=h.form
 have kt:=fun W hb=>toNodeS_any W (.slice a l.length c) l (h.below hb) hl hN
 have HKT:Hid (∀W (hb:Below w.heap.size w W),Calls Tryz.prog 13 #[.slice a l.length c] W fun e w'=>e= .returned (.slice (some ⟨W.heap.size,0,none⟩) l.length l.length)/\(∃L,L.map Nb.N=l/\NbsOwn w' W.heap.size W.heap.size l.length L [])/\Below W.heap.size W w'):=kt
 clear kt h hN
 generalize l.length=n at HKT hl⊢
 go_enter Tryz.func6,Tryz.ntmps6
 go_wp2_with (go_at_call 13;fail)
 obtain⟨W9,hW9⟩:∃W9,((w.alloc (.cells #[.slice a n c] 24)).alloc (.cells #[.slice none 0 0] 29)).alloc (.cells #[.slice none 0 0] 29)=W9:=⟨_,rfl⟩
 have hs9:W9.heap.size=w.heap.size+1+1+1:=by rw[<-hW9];simp
 have hZ:W9.heap[w.heap.size+1]?=some (.cells #[.slice none 0 0] 29 (0,0)):=by
  rw[<-hW9]
  have:=heap_alloc_new (w.alloc (.cells #[.slice a n c] 24)) (.cells #[.slice none 0 0] 29)
  rw[World.size_alloc]at this
  exact(Below.heap_alloc _ _ _ (by simp)).trans this
 have hO:W9.heap[w.heap.size+1+1]?=some (.cells #[.slice none 0 0] 29 (0,0)):=by
  rw[<-hW9]
  have:=heap_alloc_new ((w.alloc (.cells #[.slice a n c] 24)).alloc (.cells #[.slice none 0 0] 29)) (.cells #[.slice none 0 0] 29)
  rw[World.size_alloc,World.size_alloc]at this
  exact this
 have hB:Below w.heap.size w W9:=by rw[<-hW9];exact(((Below.refl _ w).alloc (Nat.le_refl _) _).alloc (by simp) _).alloc (by simp;omega) _
 rw[hW9]
 clear hW9
 refine(HKT.out W9 hB).mono ?_
 rintro e w1 ⟨rfl,⟨L,hL,hown⟩,hb1⟩
 obtain⟨g,hg⟩:∃g,W9.heap.size=g:=⟨_,rfl⟩
 have hBB:=hB.trans (hb1.mono hB.size)
 have hZ1:=(hb1.block _ (lt_of_block hZ)).trans hZ
 have hO1:=(hb1.block _ (lt_of_block hO)).trans hO
 rw[hg]at hown hs9⊢
 clear hb1 hB hg hZ hO HKT
 have z0:w1.cell? ⟨w.heap.size+1,0,none⟩=some (.slice none 0 0):=by rw[cell_of_row _ _ _ _ _ _ hZ1];rfl
 have zf:w1.frozen? ⟨w.heap.size+1,0,none⟩=false:=frozen_of_row _ _ _ _ _ hZ1
 have o0:w1.cell? ⟨w.heap.size+1+1,0,none⟩=some (.slice none 0 0):=by rw[cell_of_row _ _ _ _ _ _ hO1];rfl
 have of:w1.frozen? ⟨w.heap.size+1+1,0,none⟩=false:=frozen_of_row _ _ _ _ _ hO1
 have HG:Hid (g=w.heap.size+1+1+1):=hs9
 clear hs9
 go_wp2_with fail
 have hs9:=HG.out
 refine bodyPost_ret (results_cell_row rfl _ _ (w.heap.size+1) _ _ _ _ rfl (heap_setCell_same _ _ 0 _ _ _ ((heap_setCell_other _ _ _ _ (by simp)).trans hZ1)) Tryz.underlying29 rfl (by kernel_rfl)) rfl ⟨g,rfl,⟨L,hL,((hown.setb (by simp;omega) _).setb (by simp;omega) _).le (by omega)⟩,(hBB.setCell (by simp;omega) _).setCell (by simp) _⟩
end Go.Proofs.YtelfejiiabbpfaaGreatDoor
