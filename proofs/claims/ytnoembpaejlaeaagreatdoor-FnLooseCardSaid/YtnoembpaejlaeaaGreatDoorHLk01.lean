import Derived.Test.YtnoembpaejlaeaaGreatDoorProg
import Derived.WalkKit
set_option linter.all false
open Nat renaming le_refl->A
namespace Go.Proofs.YtnoembpaejlaeaaGreatDoor
open Go.RowKit
def ag:=@A
def aa:=@if_neg
def ai:=@Below.refl
def aB:=@heap_alloc_new
def aj:=@lt_of_block
def ab:=@if_pos
def am:=@cell_of_row
def aE:=@of_decide_eq_true
def aC:=@heap_setCell_other
def aD:=@decide_eq_false
def aJ:=@List.length_append
def de:=@World.size_alloc
def cm:=@List.setIfInBounds_toArray
def dv:=@beq_eq_false_iff_ne
def aA:=@List.getElem?_eq_getElem
def aK:=@List.getD_eq_getElem?_getD
def eI:=@World.ownsRow_nil
def bI:=@Bool.and_eq_true
def aL:=@heap_setCell_same
def co:=@List.set_cons_zero
def dG:=@Below.heap_alloc
def cC:=@List.set_cons_succ
def bc:=@Option.some.inj
def bm:=@List.length_cons
def bg:=@List.mem_cons_self
def aH:=@bodyPost_ret
def aI:=@Nat.zero_le
def bp:=@decide_eq_true
def ay:=@ByteArray.size_append
def cH:=@List.getElem?_map
def dz:=@List.mem_of_getElem?
def bG:=@Nat.le_trans
def dm:=@List.mem_cons_of_mem
def cg:=@List.append_assoc
def bi:=@List.length_map
def gh:=@List.getElem?_append_right
def bC:=@Nat.lt_or_ge
def dr:=@List.append_nil
def ch:=@frozen_of_row
def dt:=@IntKind.wrap_i64
def fi:=@Option.some.injEq
def db:=@List.take_of_length_le
def ej:=@List.length_nil
def eu:=@List.nil_append
def ip:=@Nat.lt_of_lt_of_le
def iq:=@List.getElem?_append_left
def dK:=@List.map_append
def gy:=@ByteArray.toList_eq
def jK:=@List.eq_nil_of_length_eq_zero
def gA:=@results_cell_row
def ez:=@List.cons_append
def jb:=@Array.replicate_succ
def fw:=@Bool.false_and
def lp:=@List.drop_eq_getElem_cons
def jp:=@Array.replicate_zero
def ie:=@List.take_add_one
def qu:=@ByteArray.size_extract
def eD:=@info_parts
def lr:=@List.drop_of_length_le
def ir:=@List.size_toArray
def fG:=@Nat.sub_self
def fD:=@Array.length_toList
def gB:=@Bool.true_and
def fK:=@Below.setCell
def jq:=@List.push_toArray
def mj:=@of_decide_eq_false
def dh:=@ByteArray.append_assoc
def iu:=@Option.getD_some
def jL:=@Obj.cells.injEq
def kC:=@ByteArray.data_append
def abr:=@run_callFunc_extern
def pa:=@decide_eq_true_iff
def jc:=@Prod.mk.injEq
def jr:=@List.getElem?_eq_none
def jA:=@rounds_succ
def dA:=@Ne.symm
def gG:=@List.getElem_of_mem
def ig:=@List.length_drop
def mI:=@List.mem_range
def gC:=@List.length_take
def iE:=@eq_of_beq
def uF:=@World.ownsRow_lit
def qv:=@wp_loop_rounds
def js:=@Nat.eq_or_lt_of_le
def mJ:=@List.getElem?_take
def nK:=@Nat.add_sub_cancel
def pc:=@List.append_toArray
def uG:=@Array.getElem?_toList
def lu:=@Oper.semAt_some
def sf:=@decide_eq_false_iff_not
def jd:=@results_none
def xB:=@Array.getElem?_eq_none
def pd:=@wpList_append_own
def jB:=@beq_iff_eq
def iF:=@ownsRow_setCell_below
def mo:=@List.not_mem_nil
def ij:=@List.mem_cons
def iw:=@Int.eq_ofNat_of_zero_le
def mq:=@callsIn_wide
def pf:=@Bool.and_false
def jC:=@List.drop_zero
def si:=@List.all_eq_true
def sj:=@List.getElem?_drop
def Bi:=@List.length_singleton
def uH:=@List.take_append_drop
def uI:=@List.singleton_append
def kD:=@List.cons.inj
def jD:=@ByteArray.ext
def xC:=@List.isPrefixOf_iff_prefix
def qw:=@List.nodup_append
def lA:=@Int.toNat_natCast
def Bj:=@Array.getElem?_eq_getElem
def xD:=@Region.noSelect_spec
def Bk:=@List.take_zero
def iG:=@Nat.zero_add
def jE:=@if_true
def dw:=@List.map_cons
def uJ:=@wpList_load_row
def gD:=@Nat.add_zero
def fx:=@Nat.le_of_lt
def xF:=@Region.free_spec
def Bl:=@toList_madeCells_one
def Gg:=@List.takeWhile_cons_of_neg
def Gh:=@List.takeWhile_cons_of_pos
def sn:=@Nat.mul_one
def uK:=@List.flatMap_append
def Bm:=@Exit.noGoto_ret
def uL:=@Option.map_some
def ve:=@Bool.or_eq_true
def so:=@wpIn_wide
def Bn:=@Bool.false_eq_true
def mu:=@or_false
def Bo:=@World.ownsRow.kept
def mK:=@dif_pos
def Bp:=@World.block_lt_of_cell?
def Gi:=@List.getElem?_replicate
def Bq:=@List.flatMap_cons
def Gj:=@Result.andThen_ok
def Gk:=@List.count_append
def Gl:=@Bool.or_false
def Bt:=@List.take_length
def mw:=@List.getElem_mem
def Bv:=@Option.bind_some
def Bw:=@wpList_make_full
def Gm:=@List.mem_append_right
def By:=@List.mem_append
def vf:=@Bool.eq_iff_iff
def Gn:=@run_loadVar_row
def abt:=@Value.slice.inj
def Bz:=@List.mem_of_mem_take
def Gq:=@Array.toList_append
def Gr:=@List.length_reverse
def vh:=@List.nodup_nil
def BA:=@IntWalk.i64_in
def xG:=@Prod.mk.inj
def Gs:=@Option.toList_some
def pi:=@Nat.eq_zero_or_pos
def Gu:=@Nat.lt_irrefl
def abu:=@List.mem_of_find?_eq_some
def BB:=@bne_iff_ne
def abv:=@Bool.not_eq_true
def Gv:=@decide_eq_decide
def vq:=@Nat.sub_zero
def abw:=@run_convert_bytes_string
def kF:=@List.foldl_cons
def abx:=@IntKind.wrap_u8
def vv:=@Nat.min_eq_left
def Gw:=@DataW.trod_int
def Gx:=@List.all_cons
def xH:=@Bool.false_or
def fj:=@Nat.add_assoc
def aq{p:Prop}(h:p):Hid p:=h
section
variable {a b c d e f g h i : Prop}
def gE(x:a)(c:b):Hid (a/\b):=⟨x,c⟩
def kJ(x:a)(d:b)(z:c):Hid (a/\b/\c):=⟨x,d,z⟩
def Cn(x:a)(e:b)(z:c)(u:d):Hid (a/\b/\c/\d):=⟨x,e,z,u⟩
def aeK(x:a)(f:b)(z:c)(u:d)(v:e):Hid (a/\b/\c/\d/\e):=⟨x,f,z,u,v⟩
def alF(x:a)(g:b)(z:c)(u:d)(v:e)(w:f):Hid (a/\b/\c/\d/\e/\f):=⟨x,g,z,u,v,w⟩
def aqw(x:a)(i:b)(z:c)(u:d)(v:e)(w:f)(p:g)(q:h):Hid (a/\b/\c/\d/\e/\f/\g/\h):=⟨x,i,z,u,v,w,p,q⟩
end
def dE(w:World)(o:Obj):Below w.heap.size w (w.alloc o):=(Below.refl _ w).alloc (A _) o
def al1{w W:World}{o:Obj}(h:w.alloc o=W):W.heap[w.heap.size]?=some o/\Below w.heap.size w W/\W.heap.size=w.heap.size+1:=by
 subst h;exact⟨heap_alloc_new w o,(Below.refl _ w).alloc (A _) o,World.size_alloc w o⟩
def Co{w W:World}{o p:Obj}(h:(w.alloc o).alloc p=W):W.heap[w.heap.size]?=some o/\W.heap[w.heap.size+1]?=some p/\Below w.heap.size w W/\W.heap.size=w.heap.size+1+1:=by
 obtain⟨d,e,f⟩:=al1 (w:=w) (o:=o) rfl;obtain⟨a,b,c⟩:=al1 h;rw[f]at a c;exact⟨(b.block _ (by omega)).trans d,a,e.trans (b.mono (by omega)),c⟩
def aF{α:Sort _}(a:α):∃x,a=x:=⟨a,rfl⟩
section
variable {P : Program} {f : FuncId} {z : Array Value} {w : World} {v : Value} {Q : World → Prop} {R : Ending → World → Prop}
def du(h:Calls P f z w λe a=>e= .returned v/\Q a)(k:∀a,Q a->R (.returned v) a):Calls P f z w R:=h.mono λe a b=>b.1 ▸ k a b.2
def ft(h:Calls P f z w λe b=>e= .returned v/\b=w)(k:R (.returned v) w):Calls P f z w R:=h.mono λe b a=>by rw[a.1,a.2];exact k
end
