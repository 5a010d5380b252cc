import Derived.Test.YtkfgnpcanadjhaaGreatDoorRows
import Derived.LaidMore
import Derived.LaidSub
import Derived.OpenShut
import Derived.OpenVars
import Derived.Stop.Joined
import Derived.Test.YtkfgnpcanadjhaaGreatDoorHSk02
import Derived.Test.YtkfgnpcanadjhaaGreatDoorHSk03
set_option linter.all false
set_option maxRecDepth 100000
set_option maxHeartbeats 3200000
namespace Go.Proofs.YtkfgnpcanadjhaaGreatDoor
open Go.ChangeShapes Go.WideShapes Go.ChangeAt Go.WideMaps Go.WideElems Go.RowKit
theorem zJ{H:Type}{enc:TypeId×Value->H}{P:Program}{w:World}{base:Nat}{A:Nat->Bool}{u:Bool}{fuel:Nat}{t e:TypeId}{n:Nat}{cs:List Value}{d:List (List UInt8)}{p:List MemPlace}
  (ht:P.underlying t=some (.array n e)) (r:P.underlying e=some .string) (m:P.cellsOf e=1) (q:P.cellsOf t=n)
  (k:DataW.trod enc P w base A u fuel t cs=some (.agg (d.map fun b=> .lit (.string b)),p)):cs=d.map fun b=>Value.string ⟨b.toArray⟩:=by
 obtain⟨B,E,rfl,f,x,z,s⟩:=DataW.trod_array ht k
 simp only[ll,DataW.agg.injEq]at f
 have y:d.length=n:=by have:=congrArg List.length f.1;simpa [z] using this
 apply List.ext_getElem (by simp[x,q,y])
 intro a l C
 have v:a<n:=by omega
 have g:=s a v
 rw[m,oL,aF (by omega)]at g
 obtain⟨h,i,j,_⟩:=DataW.trod_string r g
 have o:cs[a]= .string h:=by
  have:((cs.drop a).take 1)[0]?=some (.string h):=by rw[i];rfl
  simpa [iE,mF,aF l] using this
 have c:(B.map (·.1))[a]?=(d.map fun b=>(DataW.lit (.string b):DataW H))[a]?:=by rw[f.1]
 rw[bq,bq,aF (by omega),aF (by omega)]at c
 simp only[qI,fe]at c
 rw[j]at c
 simp only[DataW.lit.injEq,Lit.string.injEq]at c
 rw[o,List.getElem_map,<-c]
theorem own:ownKnob Tryz.prog.godebug=none:=by kernel_rfl
theorem H8:laidOutB Tryz.prog=true:=by kernel_rfl
end Go.Proofs.YtkfgnpcanadjhaaGreatDoor
namespace Go.Proofs.YtkfgnpcanadjhaaGreatDoor
open Go.RowKit
theorem xK(s:ByteArray)(af:s.size<=4100)(w:World):
  Calls Tryz.prog 115 #[.string s] w fun e t=>e= .returned (.string (eI (iK s)))/\Below w.heap.size w t:=by
 go_in
 go_wp2_with fail
 go_loopw [4,5] (fun A r wr=>∃b g:Nat,b<=s.size/\r= .int .i64 b/\wr.ownsRow w.heap.size 5 1 A g (B8 (qt s b))/\Below w.heap.size w wr) (fun _ r _=>s.size-(intOf r).toNat)
 case atStart=>exact⟨0,1,aJ _,rfl,qJ w 34,(ag _ _).alloc (ah _) _⟩
 case round=>
  obtain⟨b,g,u,rfl,h,c⟩:=hrel
  have x:=sI h
  have z:=xC s b u
  have ad:g<=20000:=by omega
  clear x z
  by_cases y:b<s.size
  ·have i:Hid (qt s (b+1)=qt s b++Au (s[b].toNat:Int)):=BL s b y
   obtain⟨a,q⟩:∃a:Int,a=(s[b].toNat:Int):=⟨_,rfl⟩
   have J:0<=a:=by omega
   have K:a<256:=by have:=s[b].toNat_lt;omega
   rw[<-q]at i
   have L:∀w,(Instr.index 9 (.string s) (.int .i64 (b:Int))).run Tryz.prog w= .ok (.int .u8 a) w:=by
    intro w;rw[q];go_simp
   clear q
   by_cases k:a=10
   ·subst k
    go_wp2_with (at_builtin;refine gH rfl (.tmp 24) (.tmp 25) rfl w.heap.size _ g (qt s b) rfl h c.size (by omega) [92,110] 2 rfl (by decide) (by decide) _ rfl rfl ?_;intro m j w1 f d)
    go_roundw
    case rel=>exact⟨b+1,_,by omega,by go_num,by rw[i.out];exact f,c.trans d⟩
    case measure=>simp[intOf];omega
   have E:(a==10)=false:=by simp[k]
   by_cases l:a=9
   ·subst l
    go_wp2_with (at_builtin;refine gH rfl (.tmp 30) (.tmp 31) rfl w.heap.size _ g (qt s b) rfl h c.size (by omega) [92,116] 2 rfl (by decide) (by decide) _ rfl rfl ?_;intro m j w1 f d)
    go_roundw
    case rel=>exact⟨b+1,_,by omega,by go_num,by rw[i.out];exact f,c.trans d⟩
    case measure=>simp[intOf];omega
   have F:(a==9)=false:=by simp[l]
   by_cases n:a=34
   ·subst n
    go_wp2_with (at_builtin;refine gH rfl (.tmp 40) (.tmp 42) rfl w.heap.size _ g (qt s b) rfl h c.size (by omega) [92,34] 2 rfl (by decide) (by decide) _ rfl rfl ?_;intro m j w1 f d)
    go_roundw
    case rel=>exact⟨b+1,_,by omega,by go_num,by rw[i.out];exact f,c.trans d⟩
    case measure=>simp[intOf];omega
   have G:(a==34)=false:=by simp[n]
   by_cases o:a=92
   ·subst o
    go_wp2_with (at_builtin;refine gH rfl (.tmp 40) (.tmp 42) rfl w.heap.size _ g (qt s b) rfl h c.size (by omega) [92,92] 2 rfl (by decide) (by decide) _ rfl rfl ?_;intro m j w1 f d)
    go_roundw
    case rel=>exact⟨b+1,_,by omega,by go_num,by rw[i.out];exact f,c.trans d⟩
    case measure=>simp[intOf];omega
   have H:(a==92)=false:=by simp[o]
   by_cases e5:a<32\/126<a
   ·have p:Hid (Au a=[92,120,lc (a / 16),lc (a%16)]):=by unfold Au Hid;rw[aa k,aa l,aa (by omega),ab e5]
    clear k l n o
    have ak:=um (a / 16) (by omega) (by omega)
    have al:=um (a%16) (by omega) (by omega)
    have I:=af2 a (by omega) (by omega)
    rcases e5 with e5|e5
    all_goals
     go_wp2_with fail
     go_region_held3 (fun t=>True) (trivial) ((refine xl (by rfl) _ _ (by rfl) w.heap.size _ g (qt s b) (by rfl) h c.size (by omega) [92,120,_,_] 4 (by rfl) (by decide) (by decide) _ (by rfl) (by rfl) ?_;intro m j w1 f d))
     all_goals
      go_wp2
      go_roundw
      case rel=>exact⟨b+1,_,by omega,by go_num,by rw[i.out,p.out];assumption,c.trans (by assumption)⟩
      case measure=>simp[intOf];omega
   ·have p:Hid (Au a=[a]):=by unfold Au Hid;rw[aa k,aa l,aa (by omega),aa e5]
    have B:¬a<32:=by omega
    have C:¬126<a:=by omega
    clear k l n o e5
    go_wp2_with (at_builtin;refine gH rfl (.tmp 17) (.tmp 19) rfl w.heap.size _ g (qt s b) rfl h c.size (by omega) [a] 1 rfl (by decide) (by decide) _ rfl rfl ?_;intro m j w1 f d)
    go_roundw
    case rel=>exact⟨b+1,_,by omega,by go_num,by rw[i.out,p.out];exact f,c.trans d⟩
    case measure=>simp[intOf];omega
  ·have v:b=s.size:=by omega
   subst v
   go_wp2_with (at_builtin;refine gH rfl (.tmp 62) (.tmp 63) rfl w.heap.size _ g (qt s s.size) rfl h c.size (by omega) [34] 1 rfl (by decide) (by decide) _ rfl rfl ?_;intro m j w1 f d;have am:=jx f)
   go_ret
   exact⟨rfl,c.trans d⟩
theorem Ju(s:ByteArray)(b:s.size<=4000)(w:World):
  Calls Tryz.prog 115 #[.string s] w fun e a=>e= .returned (.string (eI (iK s)))/\Below w.heap.size w a:=xK s (by omega) w
open Go.Maps Go.WideMaps
abbrev BuF(a b:Nat)(c:List Value)(w:World):Prop:=Lib.IsBuilderF 75 5 a b c w
abbrev BuA(a b:Nat)(c:List Value)(w:World):Prop:=Lib.BuilderAtF 75 5 a b (.pointer (some ⟨b,0,none⟩)) c w
theorem pJ(b:Nat)(w:World)(h:w.cell? ⟨b,0,none⟩=some (.pointer none))(d:w.shape? b=some (75,2))(i:w.frozen? ⟨b,0,none⟩=false):
  Calls Tryz.prog 85 #[.pointer (some ⟨b,0,none⟩)] w fun e g=>e= .returned (.tuple #[])/\g=w.setCell ⟨b,0,none⟩ (.pointer (some ⟨b,0,none⟩)):=by
 obtain⟨j,c,f⟩:=Option.map_eq_some_iff.1 (show(Tryz.prog.info? 75).map (·.size)=some 2 by kernel_rfl)
 have k:=Lib.run_to_unsafe (P:=Tryz.prog) (w:=w) ⟨b,0,none⟩ Tryz.underlying73 Tryz.underlying172 c (by rw[f];decide) d (Nat.zero_lt_succ 1)
 have l:=Lib.run_from_unsafe (P:=Tryz.prog) (w:=w) ⟨b,0,none⟩ Tryz.underlying172 Tryz.underlying73 c d (by kernel_rfl)
 have m:∀a,(callFunc 147 #[a]).run Tryz.prog w= .ok (.value a) w:=fun a=>by
  rw[run_callFunc_extern Tryz.func147 (by kernel_rfl) (by kernel_rfl) (by kernel_rfl) (e:=Extern.AbiNoEscape.same) (by kernel_rfl),Lib.run_noEscape]
  rfl
 go_in
 go_wp2
 go_end0
 exact⟨rfl,rfl⟩
theorem xL(b:Nat)(w:World)(d:w.cell? ⟨b,0,none⟩=some (.pointer (some ⟨b,0,none⟩)))(g:w.shape? b=some (75,2)):
  Calls Tryz.prog 85 #[.pointer (some ⟨b,0,none⟩)] w fun e c=>e= .returned (.tuple #[])/\c=w:=by
 obtain⟨h,a,f⟩:=Option.map_eq_some_iff.1 (show(Tryz.prog.info? 75).map (·.size)=some 2 by kernel_rfl)
 have i:=Lib.run_neq_ptr_same (P:=Tryz.prog) w ⟨b,0,none⟩ Tryz.underlying73 a
 go_in
 go_wp2
 go_end0
 exact⟨rfl,rfl⟩
theorem zK(a b:Nat)(d:List Value)(w:World)(h:BuF a b d w):
  Calls Tryz.prog 85 #[.pointer (some ⟨b,0,none⟩)] w fun e c=>e= .returned (.tuple #[])/\BuA a b d c/\Below a w c:=by
 rcases h with h|h
 ·refine(pJ b w h.cell0 h.shape h.frozen0).mono ?_
  rintro e c ⟨rfl,rfl⟩
  exact⟨rfl,h.used _,(ag a w).setCell (p:=⟨b,0,none⟩) h.1 _⟩
 ·refine(xL b w h.cell0 h.shape).mono ?_
  rintro e c ⟨rfl,rfl⟩
  exact⟨rfl,h,ag a _⟩
theorem wg(a b:Nat)(c:List Value)(s:ByteArray)(w:World)(v:BuF a b c w)(am:c.length+s.size<=140737488355328)(al:a<=w.heap.size):
  Calls Tryz.prog 27 #[.pointer (some ⟨b,0,none⟩),.string s] w fun e t=>e= .returned (.tuple #[.int .i64 s.size,.nilIface])/\BuA a b (c++Lib.strCells s) t/\Below a w t:=by
 obtain⟨G,y,C,E,F⟩:=dD (show(Tryz.prog.info? 5).map (fun i=>(i.zero,i.size,i.bytes))=some (some (.int .u8 0),1,1) by kernel_rfl)
 go_in
 go_wp2_with (go_at_call 85;refine(zK a b c _ v).mono ?_)
 rintro e w1 ⟨rfl,x,m⟩
 obtain⟨l,j,g,o,B⟩:=x
 have J:w1.cell? ⟨b,1,none⟩=some j:=by rw[Lib.cell_of_heap g];rfl
 have an:=m.size
 go_wp2_with (at_builtin;refine Lib.wpList_append_own_stringF _ rfl _ _ 22 9 rfl a 5 G Tryz.underlying22 Tryz.underlying9 y C E F _ _ _ rfl o s rfl (by unfold maxLen;omega) (by omega) (by omega) ?_)
 intro I u q n _
 have A:=aw g
 have f:u.heap[b]?=some (.cells #[.pointer (some ⟨b,0,none⟩),j] 75 (0,0)):=by
  rw[n.block b A (fun e=>B e.symm)]
  exact g
 have L:u.cell? ⟨b,1,none⟩=some j:=by rw[Lib.cell_of_heap f];rfl
 have ad:=Lib.frozen_of_heap f 1
 obtain⟨k,r,d,rfl⟩:∃k r d,I= .slice k r d:=by
  rcases q.2 with⟨h,_⟩|⟨ak,d,K,af,h,_⟩
  ·exact⟨_,_,_,h⟩
  ·exact⟨_,_,_,h⟩
 go_wp2
 go_ret2
 refine⟨rfl,?_,?_⟩
 ·exact Lib.BuilderAtF.put (T:=75) (e:=5) l f (bs':=c++Lib.strCells s) (by simpa [Lib.strCells_length] using q) (by decide)
 ·exact(m.grown n (by omega) (fun H z=>(o.lt H z).1)).setCell (p:=⟨b,1,none⟩) l _
end Go.Proofs.YtkfgnpcanadjhaaGreatDoor
namespace Go.Proofs
open Go.Shelf
def Tryz.lays170_ren:Go.Shelf.Ren:=⟨fun|170=>208|n=>n,fun|70=>73|3=>3|0=>0|72=>75|37=>22|5=>5|n=>n,fun|n=>n⟩
theorem Tryz.lays170:Go.Proofs.Lays.n170 Tryz.prog Tryz.lays170_ren:={
 mixed:=by kernel_rfl
 f170:=Tryz.func208.trans (congrArg some (by kernel_rfl))
 t0:=Tryz.underlying0
 a0:=Tryz.isAgg0
 z0:=Tryz.sizeOf0
 v0:=Tryz.zeroValue0
 t3:=Tryz.underlying3
 a3:=Tryz.isAgg3
 z3:=Tryz.sizeOf3
 v3:=Tryz.zeroValue3
 t37:=Tryz.underlying22
 a37:=Tryz.isAgg22
 z37:=Tryz.sizeOf22
 v37:=Tryz.zeroValue22
 t70:=Tryz.underlying73
 a70:=Tryz.isAgg73
 z70:=Tryz.sizeOf73
 v70:=Tryz.zeroValue73
 t72:=Tryz.underlying75
 a72:=Tryz.isAgg75
 z72:=Tryz.sizeOf75
 v72:=Tryz.zeroValue75}
def Tryz.lays169_ren:Go.Shelf.Ren:=⟨fun|169=>29|n=>n,fun|70=>73|9=>9|0=>0|72=>75|37=>22|127=>117|3=>3|5=>5|n=>n,fun|n=>n⟩
theorem Tryz.lays169:Go.Proofs.Lays.n169 Tryz.prog Tryz.lays169_ren:={
 mixed:=by kernel_rfl
 f169:=Tryz.func29.trans (congrArg some (by kernel_rfl))
 t0:=Tryz.underlying0
 a0:=Tryz.isAgg0
 z0:=Tryz.sizeOf0
 v0:=Tryz.zeroValue0
 t3:=Tryz.underlying3
 a3:=Tryz.isAgg3
 z3:=Tryz.sizeOf3
 v3:=Tryz.zeroValue3
 t9:=Tryz.underlying9
 a9:=Tryz.isAgg9
 z9:=Tryz.sizeOf9
 v9:=Tryz.zeroValue9
 t37:=Tryz.underlying22
 a37:=Tryz.isAgg22
 z37:=Tryz.sizeOf22
 v37:=Tryz.zeroValue22
 t70:=Tryz.underlying73
 a70:=Tryz.isAgg73
 z70:=Tryz.sizeOf73
 v70:=Tryz.zeroValue73
 t72:=Tryz.underlying75
 a72:=Tryz.isAgg75
 z72:=Tryz.sizeOf75
 v72:=Tryz.zeroValue75
 t127:=Tryz.underlying117
 a127:=Tryz.isAgg117
 z127:=Tryz.sizeOf117
 v127:=Tryz.zeroValue117}
theorem Tryz.Builder_Extra_169:Builder.Extra Tryz.prog Tryz.lays169_ren:={
 sizeBuilder:=by kernel_rfl
 liesBuilder:=by kernel_rfl
 t5:=Tryz.underlying5
 a5:=Tryz.isAgg5
 z5:=Tryz.sizeOf5
 v5:=Tryz.zeroValue5
 infoByte:=by kernel_rfl
 cellsByte:=by kernel_rfl
 sizeByte:=by kernel_rfl
 neB5:=by decide}
def Tryz.lays241_ren:Go.Shelf.Ren:=⟨fun|241=>188|277=>222|n=>n,fun|70=>73|3=>3|0=>0|72=>75|37=>22|5=>5|n=>n,fun|n=>n⟩
theorem Tryz.lays241:Go.Proofs.Lays.n241 Tryz.prog Tryz.lays241_ren:={
 mixed:=by kernel_rfl
 f241:=Tryz.func188.trans (congrArg some (by kernel_rfl))
 f277:=Tryz.func222.trans (congrArg some (by kernel_rfl))
 t0:=Tryz.underlying0
 a0:=Tryz.isAgg0
 z0:=Tryz.sizeOf0
 v0:=Tryz.zeroValue0
 t3:=Tryz.underlying3
 a3:=Tryz.isAgg3
 z3:=Tryz.sizeOf3
 v3:=Tryz.zeroValue3
 t37:=Tryz.underlying22
 a37:=Tryz.isAgg22
 z37:=Tryz.sizeOf22
 v37:=Tryz.zeroValue22
 t70:=Tryz.underlying73
 a70:=Tryz.isAgg73
 z70:=Tryz.sizeOf73
 v70:=Tryz.zeroValue73
 t72:=Tryz.underlying75
 a72:=Tryz.isAgg75
 z72:=Tryz.sizeOf75
 v72:=Tryz.zeroValue75}
theorem Tryz.Builder_Extra_241:Builder.Extra Tryz.prog Tryz.lays241_ren:={
 sizeBuilder:=by kernel_rfl
 liesBuilder:=by kernel_rfl
 t5:=Tryz.underlying5
 a5:=Tryz.isAgg5
 z5:=Tryz.sizeOf5
 v5:=Tryz.zeroValue5
 infoByte:=by kernel_rfl
 cellsByte:=by kernel_rfl
 sizeByte:=by kernel_rfl
 neB5:=by decide}
open Go.RowKit in
theorem Tryz.Builder_grow_fresh(a b n:Nat)(w:World)(d:a<=b)(g:w.heap[b]?=some (.cells #[.pointer (some ⟨b,0,none⟩),.slice none 0 0] 75 (0,0)))(f:a<=w.heap.size)(h:n<=281474976710656):
  Calls Tryz.prog 188 #[.pointer (some ⟨b,0,none⟩),.int .i64 n] w fun e c=>e= .returned (.tuple #[])/\(Lib.BuilderAt 75 5 a b (.pointer (some ⟨b,0,none⟩)) [] c/\Below a w c):=Any.Builder_grow_fresh Tryz.lays241 Tryz.Builder_Extra_241 a b n w d g f h
open Go.RowKit in
theorem Tryz.Builder_Len_f(c b:Nat)(a:List Value)(w:World)(d:Lib.IsBuilderF 75 5 c b a w):
  Calls Tryz.prog 208 #[.pointer (some ⟨b,0,none⟩)] w fun e f=>e= .returned (.int .i64 a.length)/\f=w:=Any.Builder_Len_f Tryz.lays170 c b a w d
open Go.RowKit in
theorem Tryz.Builder_String_any_k(a b:Nat)(l:List UInt8)(w:World)(d:Lib.IsBuilderF 75 5 a b (Lib.byteCells l) w)(f:a<=w.heap.size):
  Calls Tryz.prog 29 #[.pointer (some ⟨b,0,none⟩)] w fun e c=>e= .returned (.string ⟨l.toArray⟩)/\(Lib.IsBuilderF 75 5 a b (Lib.byteCells l) c/\Below a w c/\Lib.OthersKept 5 (some b) w c):=Any.Builder_String_any_k Tryz.lays169 Tryz.Builder_Extra_169 a b l w d f
end Go.Proofs
namespace Go.Proofs.YtkfgnpcanadjhaaGreatDoor
open Go.RowKit Go.Maps Go.WideMaps
theorem aag(a b n:Nat)(w:World)(i:a<=b)(f:w.heap[b]?=some (.cells #[.pointer none,.slice none 0 0] 75 (0,0)))(t:a<=w.heap.size)(o:n<=281474976710656)(s:0<n):
  Calls Tryz.prog 151 #[.pointer (some ⟨b,0,none⟩),.int .i64 n] w fun e g=>e= .returned (.tuple #[])/\BuA a b [] g/\Below a w g:=by
 have h:(w.setCell ⟨b,0,none⟩ (.pointer (some ⟨b,0,none⟩))).heap[b]?=some (.cells #[.pointer (some ⟨b,0,none⟩),.slice none 0 0] 75 (0,0)):=bI _ b 0 _ _ _ f
 have c:Below a w (w.setCell ⟨b,0,none⟩ (.pointer (some ⟨b,0,none⟩))):=(ag a w).setCell (p:=⟨b,0,none⟩) i _
 have j:=pJ b w (by rw[Lib.cell_of_heap f];rfl) (by simp[World.shape?,f]) (Lib.frozen_of_heap f 0)
 go_in
 go_wp2_with (go_at_call 85;refine j.mono ?_;rintro e w1 ⟨rfl,rfl⟩)
 generalize w.setCell ⟨b,0,none⟩ (.pointer (some ⟨b,0,none⟩))=d at h c⊢
 have k:d.cell? ⟨b,1,none⟩=some (.slice none 0 0):=by rw[Lib.cell_of_heap h];rfl
 have u:=c.size
 clear j
 go_region_held3 (fun g=>g.cell? ⟨b,1,none⟩=some (.slice none 0 0)) (first|go_keep|exact k) (fail)
 have r:=Tryz.Builder_grow_fresh a b n d.drew i h (by simpa using(show a<=d.heap.size by omega)) o
 go_wp2_with (go_at_call 188;refine r.mono ?_;rintro e v ⟨rfl,l,m⟩)
 all_goals first
  |(rename_i q;rw[bm]at q;omega)
  |skip
 go_end0
 exact⟨rfl,Lib.BuilderAtF.of l,(⟨c.os,c.tape,c.output,c.size,c.block⟩:Below a w d.drew).trans m⟩
def Bu(a b:Nat)(T:ByteArray)(w:World):Prop:=BuF a b (Lib.strCells T) w
theorem zL(a b:ByteArray):Lib.strCells (a++b)=Lib.strCells a++Lib.strCells b:=by
 unfold Lib.strCells
 rw[iB,BE,dm]
theorem Ay(a b:Nat)(T s:ByteArray)(w:World)(d:Bu a b T w)(i:T.size+s.size<=140737488355328)(h:a<=w.heap.size):
  Calls Tryz.prog 27 #[.pointer (some ⟨b,0,none⟩),.string s] w fun e c=>e= .returned (.tuple #[.int .i64 s.size,.nilIface])/\Bu a b (T++s) c/\Below a w c:=by
 refine(wg a b _ s w d (by rw[Lib.strCells_length];exact i) h).mono ?_
 rintro e c ⟨rfl,f,g⟩
 exact⟨rfl,.inr (by rw[zL];exact f),g⟩
theorem FI(a b:Nat)(T:ByteArray)(w:World)(d:Bu a b T w)(h:a<=w.heap.size):
  Calls Tryz.prog 29 #[.pointer (some ⟨b,0,none⟩)] w fun e c=>e= .returned (.string T)/\Bu a b T c/\Below a w c:=by
 refine(Tryz.Builder_String_any_k a b T.data.toList w d h).mono ?_
 rintro e c ⟨rfl,f,g,_⟩
 exact⟨rfl,f,g⟩
theorem Bu.lt{c b:Nat}{T:ByteArray}{w:World}(a:Bu c b T w):b<w.heap.size:=by
 rcases a with⟨_,d,a,_⟩|⟨_,d,a,_⟩
 ·exact aw a
 ·exact aw a
end Go.Proofs.YtkfgnpcanadjhaaGreatDoor
namespace Go.Proofs
open Go.Shelf
def Tryz.lays212_ren:Go.Shelf.Ren:=⟨fun|212=>206|263=>246|264=>247|n=>n,fun|46=>124|51=>237|146=>253|53=>38|148=>255|n=>n,fun|n=>n⟩
theorem Tryz.lays212:Go.Proofs.Lays.n212 Tryz.prog Tryz.lays212_ren:={
 mixed:=by kernel_rfl
 f212:=Tryz.func206.trans (congrArg some (by kernel_rfl))
 f263:=Tryz.func246.trans (congrArg some (by kernel_rfl))
 f264:=Tryz.func247.trans (congrArg some (by kernel_rfl))
 t46:=Tryz.underlying124
 a46:=Tryz.isAgg124
 z46:=Tryz.sizeOf124
 v46:=Tryz.zeroValue124
 t51:=Tryz.underlying237
 a51:=Tryz.isAgg237
 z51:=Tryz.sizeOf237
 v51:=Tryz.zeroValue237
 t53:=Tryz.underlying38
 a53:=Tryz.isAgg38
 z53:=Tryz.sizeOf38
 v53:=Tryz.zeroValue38
 t146:=Tryz.underlying253
 a146:=Tryz.isAgg253
 z146:=Tryz.sizeOf253
 v146:=Tryz.zeroValue253
 t148:=Tryz.underlying255
 a148:=Tryz.isAgg255
 z148:=Tryz.sizeOf255
 v148:=Tryz.zeroValue255}
open Go.RowKit Go.Lib in
theorem Tryz.bits_Mul(x a:Nat)(b:x<18446744073709551616)(c:a<18446744073709551616)(w:World):
  Calls Tryz.prog 206 #[.int .u64 x,.int .u64 a] w fun e d=>e= .returned (.tuple #[.int .u64 ((x*a / 18446744073709551616:Nat):Int),.int .u64 ((x*a%18446744073709551616:Nat):Int)])/\d=w:=Any.bits_Mul Tryz.lays212 x a b c w
def Tryz.lays156_ren:Go.Shelf.Ren:=⟨fun|156=>89|165=>151|166=>27|169=>29|240=>85|241=>188|276=>147|277=>222|n=>n,fun|31=>48|9=>9|3=>3|4=>4|0=>0|20=>20|72=>75|76=>78|70=>73|37=>22|75=>77|127=>117|164=>172|5=>5|80=>81|n=>n,fun|n=>n⟩
theorem Tryz.lays156:Go.Proofs.Lays.n156 Tryz.prog Tryz.lays156_ren:={
 mixed:=by kernel_rfl
 f156:=Tryz.func89.trans (congrArg some (by kernel_rfl))
 f165:=Tryz.func151.trans (congrArg some (by kernel_rfl))
 f166:=Tryz.func27.trans (congrArg some (by kernel_rfl))
 f169:=Tryz.func29.trans (congrArg some (by kernel_rfl))
 f240:=Tryz.func85.trans (congrArg some (by kernel_rfl))
 f241:=Tryz.func188.trans (congrArg some (by kernel_rfl))
 f276:=Tryz.func147.trans (congrArg some (by kernel_rfl))
 f277:=Tryz.func222.trans (congrArg some (by kernel_rfl))
 t0:=Tryz.underlying0
 a0:=Tryz.isAgg0
 z0:=Tryz.sizeOf0
 v0:=Tryz.zeroValue0
 t3:=Tryz.underlying3
 a3:=Tryz.isAgg3
 z3:=Tryz.sizeOf3
 v3:=Tryz.zeroValue3
 t4:=Tryz.underlying4
 a4:=Tryz.isAgg4
 z4:=Tryz.sizeOf4
 v4:=Tryz.zeroValue4
 t9:=Tryz.underlying9
 a9:=Tryz.isAgg9
 z9:=Tryz.sizeOf9
 v9:=Tryz.zeroValue9
 t20:=Tryz.underlying20
 a20:=Tryz.isAgg20
 z20:=Tryz.sizeOf20
 v20:=Tryz.zeroValue20
 t31:=Tryz.underlying48
 a31:=Tryz.isAgg48
 z31:=Tryz.sizeOf48
 v31:=Tryz.zeroValue48
 t37:=Tryz.underlying22
 a37:=Tryz.isAgg22
 z37:=Tryz.sizeOf22
 v37:=Tryz.zeroValue22
 t70:=Tryz.underlying73
 a70:=Tryz.isAgg73
 z70:=Tryz.sizeOf73
 v70:=Tryz.zeroValue73
 t72:=Tryz.underlying75
 a72:=Tryz.isAgg75
 z72:=Tryz.sizeOf75
 v72:=Tryz.zeroValue75
 t75:=Tryz.underlying77
 a75:=Tryz.isAgg77
 z75:=Tryz.sizeOf77
 v75:=Tryz.zeroValue77
 t76:=Tryz.underlying78
 a76:=Tryz.isAgg78
 z76:=Tryz.sizeOf78
 v76:=Tryz.zeroValue78
 t127:=Tryz.underlying117
 a127:=Tryz.isAgg117
 z127:=Tryz.sizeOf117
 v127:=Tryz.zeroValue117
 t164:=Tryz.underlying172
 a164:=Tryz.isAgg172
 z164:=Tryz.sizeOf172
 v164:=Tryz.zeroValue172}
theorem Tryz.Builder_Extra_156:Builder.Extra Tryz.prog Tryz.lays156_ren:={
 sizeBuilder:=by kernel_rfl
 liesBuilder:=by kernel_rfl
 t5:=Tryz.underlying5
 a5:=Tryz.isAgg5
 z5:=Tryz.sizeOf5
 v5:=Tryz.zeroValue5
 infoByte:=by kernel_rfl
 cellsByte:=by kernel_rfl
 sizeByte:=by kernel_rfl
 neB5:=by decide}
open Go.RowKit in
theorem Tryz.strings_Join_none(a:Option Addr)(c:Nat)(b:ByteArray)(w:World):
  Calls Tryz.prog 89 #[.slice a 0 c,.string b] w fun e d=>e= .returned (.string ⟨#[]⟩)/\d=w:=Any.strings_Join_none Tryz.lays156 Tryz.Builder_Extra_156 a c b w
open Go.RowKit in
theorem Tryz.strings_Join(a o c:Nat)(xs:List ByteArray)(b:ByteArray)(w:World)(h:∀(j:Nat) x,xs[j]?=some x->w.cell? ⟨a,o+j,none⟩=some (.string x))(f:a<w.heap.size)(d:xs.length<=140737488355328)(g:xs.length<=c)(i:(Lib.join (xs.map (·.data.toList)) b.data.toList).length<=140737488355328):
  Calls Tryz.prog 89 #[.slice (some ⟨a,o,none⟩) xs.length c,.string b] w fun e k=>e= .returned (.string ⟨(Lib.join (xs.map (·.data.toList)) b.data.toList).toArray⟩)/\Below w.heap.size w k:=Any.strings_Join Tryz.lays156 Tryz.Builder_Extra_156 a o c xs b w h f d g i
end Go.Proofs
