import Derived.Test.YtbkolnpplhbdmaaGreatDoorProg
import Derived.WalkKit
set_option linter.all false
open Go.Ending renaming returned->A
open Go renaming World->B,heap_alloc_new->E,Calls->F
open Nat renaming le_refl->C
namespace Go.Proofs.YtbkolnpplhbdmaaGreatDoor
open Go.RowKit
abbrev jf(w:B)(v:Value)(e:Ending)(a:B):Prop:=e= A v/\Below w.heap.size w a
abbrev jt(w:B)(v:Value)(e:Ending)(a:B):Prop:=e= A v/\a=w
abbrev cg(w a:B):Prop:=Below w.heap.size w a
def ag:=@C
def aa:=@if_neg
def ah:=@Below.refl
def aA:=@E
def ai:=@lt_of_block
def ab:=@if_pos
def aj:=@cell_of_row
def aB:=@of_decide_eq_true
def ay:=@heap_setCell_other
def az:=@decide_eq_false
def aG:=@List.length_append
def fe:=@World.size_alloc
def co:=@List.setIfInBounds_toArray
def du:=@beq_eq_false_iff_ne
def aw:=@List.getElem?_eq_getElem
def aF:=@List.getD_eq_getElem?_getD
def fs:=@World.ownsRow_nil
def bB:=@Bool.and_eq_true
def bp:=@heap_setCell_same
def cA:=@List.set_cons_zero
def eI:=@Below.heap_alloc
def cC:=@List.set_cons_succ
def aJ:=@Option.some.inj
def bc:=@List.length_cons
def aI:=@List.mem_cons_self
def aL:=@bodyPost_ret
def aD:=@Nat.zero_le
def be:=@decide_eq_true
def au:=@ByteArray.size_append
def cD:=@List.getElem?_map
def dj:=@List.mem_of_getElem?
def bG:=@Nat.le_trans
def cG:=@List.mem_cons_of_mem
def bC:=@List.append_assoc
def bq:=@List.length_map
def eD:=@List.getElem?_append_right
def bg:=@Nat.lt_or_ge
def dk:=@List.append_nil
def cH:=@frozen_of_row
def dr:=@IntKind.wrap_i64
def fw:=@Option.some.injEq
def dl:=@List.take_of_length_le
def dE:=@List.length_nil
def dI:=@List.nil_append
def iB:=@Nat.lt_of_lt_of_le
def gw:=@List.getElem?_append_left
def eJ:=@List.map_append
def gH:=@ByteArray.toList_eq
def lD:=@List.eq_nil_of_length_eq_zero
def io:=@results_cell_row
def dJ:=@List.cons_append
def jn:=@Array.replicate_succ
def fE:=@Bool.false_and
def kL:=@List.drop_eq_getElem_cons
def jA:=@Array.replicate_zero
def iC:=@List.take_add_one
def qE:=@ByteArray.size_extract
def fh:=@info_parts
def lE:=@List.drop_of_length_le
def iD:=@List.size_toArray
def fx:=@Nat.sub_self
def fK:=@Array.length_toList
def gI:=@Bool.true_and
def gx:=@Below.setCell
def jB:=@List.push_toArray
def mA:=@of_decide_eq_false
def de:=@ByteArray.append_assoc
def gy:=@Option.getD_some
def lF:=@Obj.cells.injEq
def lg:=@ByteArray.data_append
def acd:=@run_callFunc_extern
def py:=@decide_eq_true_iff
def jo:=@Prod.mk.injEq
def jC:=@List.getElem?_eq_none
def jL:=@rounds_succ
def dB:=@Ne.symm
def iq:=@List.getElem_of_mem
def ir:=@List.length_drop
def ng:=@List.mem_range
def gJ:=@List.length_take
def jg:=@eq_of_beq
def vw:=@World.ownsRow_lit
def qF:=@wp_loop_rounds
def ie:=@Nat.eq_or_lt_of_le
def nh:=@List.getElem?_take
def lh:=@Nat.add_sub_cancel
def pz:=@List.append_toArray
def vy:=@Array.getElem?_toList
def lG:=@Oper.semAt_some
def qG:=@decide_eq_false_iff_not
def Hd:=@List.getElem?_set_ne
def jp:=@results_none
def yc:=@Array.getElem?_eq_none
def vz:=@wpList_append_own
def jD:=@beq_iff_eq
def sE:=@ownsRow_setCell_below
def mC:=@List.not_mem_nil
def gK:=@List.mem_cons
def iE:=@Int.eq_ofNat_of_zero_le
def mD:=@callsIn_wide
def pA:=@Bool.and_false
def kC:=@List.drop_zero
def sF:=@List.all_eq_true
def pE:=@List.getElem?_drop
def Ch:=@List.length_singleton
def vA:=@List.take_append_drop
def sG:=@List.singleton_append
def gL:=@List.cons.inj
def kD:=@ByteArray.ext
def yd:=@List.isPrefixOf_iff_prefix
def qH:=@List.nodup_append
def iF:=@Int.toNat_natCast
def Ci:=@Array.getElem?_eq_getElem
def ye:=@Region.noSelect_spec
def Cj:=@List.take_zero
def dv:=@Nat.zero_add
def kF:=@if_true
def dw:=@List.map_cons
def vB:=@wpList_load_row
def fL:=@Nat.add_zero
def fG:=@Nat.le_of_lt
def yg:=@Region.free_spec
def Cl:=@toList_madeCells_one
def He:=@List.takeWhile_cons_of_neg
def Hf:=@List.takeWhile_cons_of_pos
def sH:=@Nat.mul_one
def vC:=@List.flatMap_append
def Cm:=@Exit.noGoto_ret
def vD:=@Option.map_some
def sI:=@Bool.or_eq_true
def sJ:=@wpIn_wide
def Cn:=@Bool.false_eq_true
def mE:=@or_false
def Co:=@World.ownsRow.kept
def ni:=@dif_pos
def Cp:=@World.block_lt_of_cell?
def yh:=@List.getElem?_replicate
def Cq:=@List.flatMap_cons
def Hg:=@Result.andThen_ok
def Hh:=@List.count_append
def Hi:=@Bool.or_false
def Ct:=@List.take_length
def jq:=@List.getElem_mem
def Cv:=@Option.bind_some
def Cx:=@wpList_make_full
def yi:=@List.mem_append_right
def yj:=@List.mem_append
def vE:=@Bool.eq_iff_iff
def Hj:=@run_loadVar_row
def ace:=@Value.slice.inj
def Cz:=@List.mem_of_mem_take
def Hk:=@Array.toList_append
def Hl:=@List.length_reverse
def vF:=@List.nodup_nil
def CA:=@IntWalk.i64_in
def yk:=@Prod.mk.inj
def Hm:=@Option.toList_some
def oz:=@Nat.eq_zero_or_pos
def CC:=@Nat.lt_irrefl
def acf:=@List.mem_of_find?_eq_some
def yl:=@bne_iff_ne
def acg:=@Bool.not_eq_true
def Hn:=@decide_eq_decide
def vG:=@Nat.sub_zero
def ach:=@run_convert_bytes_string
def kG:=@List.foldl_cons
def aci:=@IntKind.wrap_u8
def vH:=@Nat.min_eq_left
def Ho:=@DataW.trod_int
def Hp:=@List.all_cons
def ym:=@Bool.false_or
def fi:=@Nat.add_assoc
def am{p:Prop}(h:p):Hid p:=h
section
variable {a b c d e f g h i : Prop}
def gF(x:a)(c:b):Hid (a/\b):=⟨x,c⟩
def kK(x:a)(d:b)(z:c):Hid (a/\b/\c):=⟨x,d,z⟩
def Ft(x:a)(e:b)(z:c)(u:d):Hid (a/\b/\c/\d):=⟨x,e,z,u⟩
def afC(x:a)(f:b)(z:c)(u:d)(v:e):Hid (a/\b/\c/\d/\e):=⟨x,f,z,u,v⟩
def ajy(x:a)(g:b)(z:c)(u:d)(v:e)(w:f):Hid (a/\b/\c/\d/\e/\f):=⟨x,g,z,u,v,w⟩
def asb(x:a)(i:b)(z:c)(u:d)(v:e)(w:f)(p:g)(q:h):Hid (a/\b/\c/\d/\e/\f/\g/\h):=⟨x,i,z,u,v,w,p,q⟩
def asd(x:a)(j:b)(z:c)(u:d)(v:e)(w:f)(p:g)(q:h)(r:i):Hid (a/\b/\c/\d/\e/\f/\g/\h/\i):=⟨x,j,z,u,v,w,p,q,r⟩
end
def dC(w:B)(o:Obj):Below w.heap.size w (w.alloc o):=(Below.refl _ w).alloc (C _) o
def al1{w W:B}{o:Obj}(h:w.alloc o=W):W.heap[w.heap.size]?=some o/\Below w.heap.size w W/\W.heap.size=w.heap.size+1:=by
 subst h;exact⟨E w o,(Below.refl _ w).alloc (C _) o,World.size_alloc w o⟩
def CD{w W:B}{o p:Obj}(h:(w.alloc o).alloc p=W):W.heap[w.heap.size]?=some o/\W.heap[w.heap.size+1]?=some p/\Below w.heap.size w W/\W.heap.size=w.heap.size+1+1:=by
 have⟨d,e,f⟩:=al1 (w:=w) (o:=o) rfl;have⟨a,b,c⟩:=al1 h;rw[f]at a c;exact⟨(b.block _ (by omega)).trans d,a,e.trans (b.mono (by omega)),c⟩
def aC{α:Sort _}(a:α):∃x,a=x:=⟨a,rfl⟩
section
variable {P : Program} {f : FuncId} {z : Array Value} {w : World} {v : Value} {Q : World → Prop} {R : Ending → World → Prop}
def dt(h:F P f z w λe a=>e= A v/\Q a)(k:∀a,Q a->R (A v) a):F P f z w R:=h.mono λe a b=>b.1 ▸ k a b.2
def fC(h:F P f z w λe b=>e= A v/\b=w)(k:R (A v) w):F P f z w R:=h.mono λe b a=>by rw[a.1,a.2];exact k
end
