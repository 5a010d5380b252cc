import Derived.Test.YtkfgnpcanadjhaaGreatDoorProg
import Derived.WalkKit
set_option linter.all false
namespace Go.Proofs.YtkfgnpcanadjhaaGreatDoor
open Go.RowKit
def ah:=@Nat.le_refl
def aa:=@if_neg
def ag:=@Below.refl
def ay:=@heap_alloc_new
def aw:=@lt_of_block
def ab:=@if_pos
def au:=@cell_of_row
def bi:=@of_decide_eq_true
def aK:=@heap_setCell_other
def az:=@decide_eq_false
def aD:=@List.length_append
def db:=@World.size_alloc
def aB:=@List.setIfInBounds_toArray
def cJ:=@beq_eq_false_iff_ne
def aF:=@List.getElem?_eq_getElem
def aL:=@List.getD_eq_getElem?_getD
def dy:=@World.ownsRow_nil
def dr:=@Bool.and_eq_true
def bI:=@heap_setCell_same
def aA:=@List.set_cons_zero
def eo:=@Below.heap_alloc
def aC:=@List.set_cons_succ
def bh:=@Option.some.inj
def co:=@List.length_cons
def da:=@List.mem_cons_self
def aH:=@bodyPost_ret
def aJ:=@Nat.zero_le
def bB:=@decide_eq_true
def ax:=@ByteArray.size_append
def bq:=@List.getElem?_map
def bJ:=@List.mem_of_getElem?
def ch:=@Nat.le_trans
def ep:=@List.mem_cons_of_mem
def cG:=@List.append_assoc
def aI:=@List.length_map
def gq:=@List.getElem?_append_right
def ci:=@Nat.lt_or_ge
def dA:=@List.append_nil
def cA:=@frozen_of_row
def bm:=@IntKind.wrap_i64
def fe:=@Option.some.injEq
def bH:=@List.take_of_length_le
def dB:=@List.length_nil
def er:=@List.nil_append
def fi:=@Nat.lt_of_lt_of_le
def gL:=@List.getElem?_append_left
def dm:=@List.map_append
def gc:=@ByteArray.toList_eq
def fj:=@List.eq_nil_of_length_eq_zero
def du:=@results_cell_row
def fl:=@List.cons_append
def je:=@Array.replicate_succ
def dC:=@Bool.false_and
def ju:=@List.drop_eq_getElem_cons
def jf:=@Array.replicate_zero
def gv:=@List.take_add_one
def lj:=@ByteArray.size_extract
def dD:=@info_parts
def oJ:=@List.drop_of_length_le
def gG:=@List.size_toArray
def fw:=@Nat.sub_self
def gw:=@Array.length_toList
def ez:=@Bool.true_and
def eL:=@Below.setCell
def jg:=@List.push_toArray
def iA:=@of_decide_eq_false
def be:=@ByteArray.append_assoc
def fH:=@Option.getD_some
def ia:=@Obj.cells.injEq
def iB:=@ByteArray.data_append
def mD:=@decide_eq_true_iff
def ll:=@Prod.mk.injEq
def iC:=@List.getElem?_eq_none
def qC:=@rounds_succ
def eA:=@Ne.symm
def gh:=@List.getElem_of_mem
def dH:=@List.length_drop
def wG:=@List.mem_range
def dt:=@List.length_take
def fI:=@eq_of_beq
def wH:=@World.ownsRow_lit
def Bk:=@wp_loop_rounds
def iD:=@Nat.eq_or_lt_of_le
def iE:=@List.getElem?_take
def lm:=@Nat.add_sub_cancel
def wI:=@List.append_toArray
def qD:=@Array.getElem?_toList
def Bl:=@Oper.semAt_some
def oK:=@decide_eq_false_iff_not
def gx:=@results_none
def wJ:=@Array.getElem?_eq_none
def qE:=@wpList_append_own
def ib:=@beq_iff_eq
def Bm:=@ownsRow_setCell_below
def mE:=@List.not_mem_nil
def gi:=@List.mem_cons
def dv:=@Int.eq_ofNat_of_zero_le
def Bn:=@callsIn_wide
def lp:=@Bool.and_false
def dJ:=@List.drop_zero
def mF:=@List.getElem?_drop
def Bo:=@List.length_singleton
def wK:=@List.take_append_drop
def xa:=@List.cons.inj
def mG:=@ByteArray.ext
def xb:=@List.isPrefixOf_iff_prefix
def xc:=@List.nodup_append
def mH:=@Int.toNat_natCast
def qF:=@Array.getElem?_eq_getElem
def sA:=@Region.noSelect_spec
def Bp:=@List.take_zero
def qG:=@Nat.zero_add
def qH:=@if_true
def jh:=@List.map_cons
def Hs:=@wpList_load_row
def jv:=@Nat.le_of_lt
def sB:=@Region.free_spec
def sC:=@toList_madeCells_one
def Bq:=@List.takeWhile_cons_of_neg
def Bv:=@List.takeWhile_cons_of_pos
def oL:=@Nat.mul_one
def Ht:=@List.flatMap_append
def qI:=@Option.map_some
def sD:=@Bool.or_eq_true
def sE:=@Int.natCast_add
def Bw:=@wpIn_wide
def mI:=@or_false
def pc:=@dif_pos
def sF:=@World.block_lt_of_cell?
def By:=@List.getElem?_replicate
def xd:=@List.flatMap_cons
def Bz:=@Bool.or_false
def xe:=@List.take_length
def xg:=@List.getElem_mem
def BA:=@Option.bind_some
def xh:=@wpList_make_full
def BB:=@List.set_append_right
def BC:=@List.mem_append
def BD:=@Bool.eq_iff_iff
def Hu:=@run_loadVar_row
def sG:=@List.mem_of_mem_take
def BE:=@Array.toList_append
def BF:=@List.length_reverse
def xi:=@List.nodup_nil
def xj:=@IntWalk.i64_in
def sH:=@Prod.mk.inj
def BG:=@Option.toList_some
def mJ:=@Nat.eq_zero_or_pos
def lq:=@bne_iff_ne
def Hv:=@Bool.not_eq_true
def BH:=@decide_eq_decide
def xk:=@List.map_set
def BI:=@run_convert_bytes_string
def mK:=@List.foldl_cons
def pd:=@Nat.min_eq_left
def pf:=@leaves_cons
def BJ:=@DataW.trod_int
def BK:=@List.all_cons
theorem aj{p:Prop}(a:p):Hid p:=a
section
variable {a b c d e f g h i : Prop}
theorem eJ(x:a)(c:b):Hid (a/\b):=⟨x,c⟩
theorem jw(x:a)(d:b)(z:c):Hid (a/\b/\c):=⟨x,d,z⟩
theorem FC(x:a)(e:b)(z:c)(u:d):Hid (a/\b/\c/\d):=⟨x,e,z,u⟩
theorem ac9(x:a)(f:b)(z:c)(u:d)(v:e):Hid (a/\b/\c/\d/\e):=⟨x,f,z,u,v⟩
theorem ah8(x:a)(g:b)(z:c)(u:d)(v:e)(w:f):Hid (a/\b/\c/\d/\e/\f):=⟨x,g,z,u,v,w⟩
end
theorem dh(w:World)(o:Obj):Below w.heap.size w (w.alloc o):=(Below.refl _ w).alloc (Nat.le_refl _) o
theorem al1{w W:World}{o:Obj}(a:w.alloc o=W):W.heap[w.heap.size]?=some o/\Below w.heap.size w W/\W.heap.size=w.heap.size+1:=by
 subst a
 exact⟨heap_alloc_new w o,(Below.refl _ w).alloc (Nat.le_refl _) o,World.size_alloc w o⟩
theorem Dy{w W:World}{o p:Obj}(g:(w.alloc o).alloc p=W):W.heap[w.heap.size]?=some o/\W.heap[w.heap.size+1]?=some p/\Below w.heap.size w W/\W.heap.size=w.heap.size+1+1:=by
 obtain⟨d,e,f⟩:=al1 (w:=w) (o:=o) rfl
 obtain⟨a,b,c⟩:=al1 g
 rw[f]at a c
 exact⟨(b.block _ (by omega)).trans d,a,e.trans (b.mono (by omega)),c⟩
theorem aE{b:Sort _}(a:b):∃x,a=x:=⟨a,rfl⟩
section
variable {P : Program} {f : FuncId} {z : Array Value} {w : World} {v : Value} {Q : World → Prop} {R : Ending → World → Prop}
theorem dG(c:Calls P f z w fun e a=>e= .returned v/\Q a)(k:∀a,Q a->R (.returned v) a):Calls P f z w R:=c.mono fun e a b=>b.1 ▸ k a b.2
theorem dj(c:Calls P f z w fun e b=>e= .returned v/\b=w)(k:R (.returned v) w):Calls P f z w R:=c.mono fun e b a=>by rw[a.1,a.2];exact k
end
