import Derived.Test.YthboboahkkhopaaGreatDoorProg
import Derived.WalkKit
set_option linter.all false
open Go.Ending renaming returned->A
open Go renaming World->B,heap_alloc_new->E,Calls->F
open Nat renaming le_refl->C
namespace Go.Proofs.YthboboahkkhopaaGreatDoor
open Go.RowKit
abbrev gy(w:B)(v:Value)(e:Ending)(w':B):Prop:=e= A v/\Below w.heap.size w w'
abbrev kL(w:B)(v:Value)(e:Ending)(w':B):Prop:=e= A v/\w'=w
abbrev be(w w':B):Prop:=Below w.heap.size w w'
def af:=@C
def aa:=@if_neg
def ah:=@Below.refl
def aB:=@E
def ai:=@lt_of_block
def ae:=@if_pos
def aj:=@cell_of_row
def aG:=@of_decide_eq_true
def aC:=@heap_setCell_other
def aE:=@decide_eq_false
def bm:=@List.length_append
def dm:=@World.size_alloc
def fe:=@List.setIfInBounds_toArray
def eJ:=@beq_eq_false_iff_ne
def az:=@List.getElem?_eq_getElem
def aD:=@List.getD_eq_getElem?_getD
def fE:=@World.ownsRow_nil
def ch:=@Bool.and_eq_true
def bg:=@heap_setCell_same
def fl:=@List.set_cons_zero
def fp:=@Below.heap_alloc
def fG:=@List.set_cons_succ
def bz:=@Option.some.inj
def bB:=@List.length_cons
def bq:=@List.mem_cons_self
def bH:=@bodyPost_ret
def aH:=@Nat.zero_le
def aI:=@decide_eq_true
def aq:=@ByteArray.size_append
def ci:=@List.getElem?_map
def cG:=@List.mem_of_getElem?
def di:=@Nat.le_trans
def dr:=@List.mem_cons_of_mem
def dj:=@List.append_assoc
def bC:=@List.length_map
def dE:=@List.getElem?_append_right
def bI:=@Nat.lt_or_ge
def dC:=@List.append_nil
def cC:=@frozen_of_row
def fh:=@IntKind.wrap_i64
def fI:=@Option.some.injEq
def cj:=@List.take_of_length_le
def fs:=@List.length_nil
def dI:=@List.nil_append
def iu:=@Nat.lt_of_lt_of_le
def gq:=@List.getElem?_append_left
def eK:=@List.map_append
def ja:=@ByteArray.toList_eq
def jb:=@List.eq_nil_of_length_eq_zero
def iF:=@results_cell_row
def ed:=@List.cons_append
def jI:=@Array.replicate_succ
def fw:=@Bool.false_and
def mI:=@List.drop_eq_getElem_cons
def kG:=@Array.replicate_zero
def jc:=@List.take_add_one
def tK:=@ByteArray.size_extract
def eu:=@info_parts
def ma:=@List.drop_of_length_le
def jo:=@List.size_toArray
def fH:=@Nat.sub_self
def iG:=@Array.length_toList
def gE:=@Bool.true_and
def ll:=@Below.setCell
def kH:=@List.push_toArray
def mh:=@of_decide_eq_false
def aK:=@ByteArray.append_assoc
def ie:=@Option.getD_some
def nH:=@Obj.cells.injEq
def lm:=@ByteArray.data_append
def acy:=@run_callFunc_extern
def Ct:=@decide_eq_true_iff
def jJ:=@Prod.mk.injEq
def jp:=@List.getElem?_eq_none
def nI:=@rounds_succ
def ez:=@Ne.symm
def iw:=@List.getElem_of_mem
def fJ:=@List.length_drop
def nJ:=@List.mem_range
def eE:=@List.length_take
def jq:=@eq_of_beq
def Cv:=@World.ownsRow_lit
def ua:=@wp_loop_rounds
def jz:=@Nat.eq_or_lt_of_le
def lp:=@List.getElem?_take
def re:=@Nat.add_sub_cancel
def qd:=@List.append_toArray
def yv:=@Array.getElem?_toList
def mi:=@Oper.semAt_some
def ub:=@decide_eq_false_iff_not
def jK:=@List.getElem?_set_ne
def fK:=@results_none
def yw:=@Array.getElem?_eq_none
def rf:=@wpList_append_own
def mj:=@beq_iff_eq
def jr:=@ownsRow_setCell_below
def rh:=@List.not_mem_nil
def pd:=@List.mem_cons
def lr:=@Int.eq_ofNat_of_zero_le
def mJ:=@callsIn_wide
def qe:=@Bool.and_false
def ga:=@List.drop_zero
def uc:=@List.all_eq_true
def rj:=@List.getElem?_drop
def yx:=@List.length_singleton
def ud:=@List.take_append_drop
def ue:=@List.singleton_append
def mK:=@List.cons.inj
def kI:=@ByteArray.ext
def Ho:=@List.isPrefixOf_iff_prefix
def rl:=@List.nodup_append
def ix:=@Int.toNat_natCast
def yy:=@Array.getElem?_eq_getElem
def Hp:=@Region.noSelect_spec
def Hq:=@List.take_zero
def gu:=@Nat.zero_add
def kJ:=@if_true
def dv:=@List.map_cons
def wD:=@wpList_load_row
def iz:=@Nat.add_zero
def iA:=@Nat.le_of_lt
def Hr:=@Sem.run_bind
def Hs:=@Region.free_spec
def Cy:=@toList_madeCells_one
def Ht:=@List.takeWhile_cons_of_neg
def Hu:=@List.takeWhile_cons_of_pos
def uf:=@Nat.mul_one
def wE:=@List.flatMap_append
def acz:=@List.mem_map_of_mem
def Cz:=@Exit.noGoto_ret
def ug:=@Option.map_some
def yz:=@Bool.or_eq_true
def uh:=@wpIn_wide
def CA:=@Bool.false_eq_true
def rm:=@or_false
def CB:=@World.ownsRow.kept
def pf:=@dif_pos
def yA:=@World.block_lt_of_cell?
def CC:=@List.getElem?_replicate
def CD:=@List.flatMap_cons
def CE:=@Result.andThen_ok
def Hv:=@List.count_append
def Hw:=@Bool.or_false
def yB:=@List.take_length
def iB:=@List.getElem_mem
def CF:=@Option.bind_some
def CG:=@wpList_make_full
def Hx:=@List.mem_append_right
def acA:=@List.set_append_right
def CH:=@List.mem_append
def CI:=@Bool.eq_iff_iff
def Hy:=@run_loadVar_row
def acB:=@Value.slice.inj
def CJ:=@List.mem_of_mem_take
def acC:=@Array.toList_append
def Hz:=@List.length_reverse
def H8:=@List.nodup_nil
def H9:=@run_underlying
def yC:=@Prod.mk.inj
def Ia:=@Option.toList_some
def nK:=@Nat.eq_zero_or_pos
def acD:=@List.mem_of_find?_eq_some
def CK:=@bne_iff_ne
def Ib:=@Bool.not_eq_true
def acE:=@decide_eq_decide
def wF:=@Nat.sub_zero
def Ic:=@run_convert_bytes_string
def jd:=@List.foldl_cons
def acF:=@IntKind.wrap_u8
def ui:=@Nat.min_eq_left
def rp:=@leaves_cons
def Id:=@DataW.trod_int
def Ie:=@List.all_cons
def yD:=@Bool.false_or
def fi:=@Nat.add_assoc
def am{p:Prop}(h:p):Hid p:=h
section
variable {a b c d e f g h i : Prop}
def iK(x:a)(c:b):Hid (a/\b):=⟨x,c⟩
def mo(x:a)(d:b)(z:c):Hid (a/\b/\c):=⟨x,d,z⟩
def Dl(x:a)(e:b)(z:c)(u:d):Hid (a/\b/\c/\d):=⟨x,e,z,u⟩
def aev(x:a)(f:b)(z:c)(u:d)(v:e):Hid (a/\b/\c/\d/\e):=⟨x,f,z,u,v⟩
def ajF(x:a)(g:b)(z:c)(u:d)(v:e)(w:f):Hid (a/\b/\c/\d/\e/\f):=⟨x,g,z,u,v,w⟩
def arH(x:a)(j:b)(z:c)(u:d)(v:e)(w:f)(p:g)(i:h):Hid (a/\b/\c/\d/\e/\f/\g/\h):=⟨x,j,z,u,v,w,p,i⟩
end
def gc(w:B)(o:Obj):Below w.heap.size w (w.alloc o):=(Below.refl _ w).alloc (C _) o
def al1{w W:B}{o:Obj}(h:w.alloc o=W):W.heap[w.heap.size]?=some o/\Below w.heap.size w W/\W.heap.size=w.heap.size+1:=by
 subst h;exact⟨E w o,(Below.refl _ w).alloc (C _) o,World.size_alloc w o⟩
def If{w W:B}{o p:Obj}(h:(w.alloc o).alloc p=W):W.heap[w.heap.size]?=some o/\W.heap[w.heap.size+1]?=some p/\Below w.heap.size w W/\W.heap.size=w.heap.size+1+1:=by
 obtain⟨d,e,f⟩:=al1 (w:=w) (o:=o) rfl;have⟨a,b,c⟩:=al1 h;rw[f]at a c;exact⟨(b.block _ (by omega)).trans d,a,e.trans (b.mono (by omega)),c⟩
def aJ{α:Sort _}(a:α):∃x,a=x:=⟨a,rfl⟩
section
variable {P : Program} {f : FuncId} {z : Array Value} {w : World} {v : Value} {Q : World → Prop} {R : Ending → World → Prop}
def gL(h:F P f z w λe w'=>e= A v/\Q w')(k:∀w',Q w'->R (A v) w'):F P f z w R:=h.mono λe w' a=>a.1 ▸ k w' a.2
def iI(h:F P f z w λe w'=>e= A v/\w'=w)(k:R (A v) w):F P f z w R:=h.mono λe w' a=>by rw[a.1,a.2];exact k
end
