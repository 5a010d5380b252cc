import Derived.Test.YtiaechpcebhcdaaGreatDoorProg
import Derived.WalkKit
set_option linter.all false
open Nat renaming le_refl->A,zero_le->B
namespace Go.Proofs.YtiaechpcebhcdaaGreatDoor
open Go.RowKit
variable{c p:Prop}{α:Sort _}
abbrev Bz:=ByteArray
def Ga[Decidable c] {x a:α}(h:¬c:=by first|omega|decide):ite c x a=a:=if_neg h
def ifp[Decidable c] {x a:α}(h:c:=by first|omega|decide):ite c x a=x:=if_pos h
def dfo[Decidable c] (h:¬c:=by omega):decide c=false:=decide_eq_false h
def dto[Decidable c] (h:c:=by omega):decide c=true:=decide_eq_true h
def py(h:p:=by unfold maxLen;omega):p:=h
def byT(h:p:=by simp;omega):p:=h
def Cm(h:p:=by with_reducible assumption):p:=h
def O(h:p:=by omega):p:=h
def Z(h:p:=by decide):p:=h
theorem U(h:p:=by grind):p:=h
def I(h:p:=by simp):p:=h
def J(h:p:=by kernel_rfl):p:=h
def byR(h:p:=by rfl):p:=h
def lG(h:p:=by assumption):p:=h
theorem byS(h:p:=by simp_all):p:=h
def cJ{n:Nat}:n<=n:=A _
def nH{n:Nat}:0<=n:=B _
def rr{c:Sort _}{a:α}{b:c}:a=a/\b=b:=⟨rfl,rfl⟩
def ix:=@A
def aa:=@if_neg
def ai:=@Below.refl
def ay:=@heap_alloc_new
def ah:=@lt_of_block
def ab:=@if_pos
def au:=@cell_of_row
def be:=@of_decide_eq_true
def az:=@heap_setCell_other
def aG:=@decide_eq_false
def aB:=@List.length_append
def fp:=@World.size_alloc
def bF:=@List.setIfInBounds_toArray
def qK:=@beq_eq_false_iff_ne
def bi:=@List.getElem?_eq_getElem
def er:=@List.getD_eq_getElem?_getD
def dA:=@World.ownsRow_nil
def cH:=@Bool.and_eq_true
def aI:=@heap_setCell_same
def bG:=@List.set_cons_zero
def dG:=@Below.heap_alloc
def bI:=@List.set_cons_succ
def cC:=@Option.some.inj
def db:=@List.length_cons
def bH:=@List.mem_cons_self
def aD:=@bodyPost_ret
def iz:=@B
def dB:=@decide_eq_true
def ax:=@ByteArray.size_append
def dw:=@List.getElem?_map
def da:=@List.mem_of_getElem?
def aK:=@Nat.le_trans
def dC:=@List.mem_cons_of_mem
def eB:=@List.append_assoc
def dr:=@List.length_map
def jr:=@List.getElem?_append_right
def aH:=@Nat.lt_or_ge
def dD:=@List.append_nil
def cD:=@frozen_of_row
def bJ:=@IntKind.wrap_i64
def iL:=@Option.some.injEq
def dH:=@List.take_of_length_le
def fx:=@List.length_nil
def dI:=@List.nil_append
def gF:=@Nat.lt_of_lt_of_le
def mo:=@List.getElem?_append_left
def fy:=@List.map_append
def fL:=@ByteArray.toList_eq
def tG:=@List.eq_nil_of_length_eq_zero
def fE:=@results_cell_row
def dt:=@List.cons_append
def iA:=@Array.replicate_succ
def gJ:=@Bool.false_and
def ja:=@List.drop_eq_getElem_cons
def jb:=@Array.replicate_zero
def il:=@List.take_add_one
def im:=@ByteArray.size_extract
def eC:=@info_parts
def kD:=@List.drop_of_length_le
def iB:=@List.size_toArray
def fI:=@Nat.sub_self
def mJ:=@Array.length_toList
def gK:=@Bool.true_and
def gh:=@Below.setCell
def jc:=@List.push_toArray
def jE:=@of_decide_eq_false
def dJ:=@ByteArray.append_assoc
def jF:=@Option.getD_some
def tH:=@Obj.cells.injEq
def wD:=@ByteArray.data_append
def ado:=@run_callFunc_extern
def ga:=@decide_eq_true_iff
def pA:=@Prod.mk.injEq
def CH:=@List.getElem?_eq_none
def jG:=@rounds_succ
def dy:=@Ne.symm
def jd:=@List.getElem_of_mem
def wE:=@List.length_drop
def oq:=@List.length_take
def qL:=@World.ownsRow_lit
def rf:=@wp_loop_rounds
def js:=@Nat.eq_or_lt_of_le
def zk:=@List.getElem?_take
def ou:=@Nat.add_sub_cancel
def pE:=@List.append_toArray
def CJ:=@Array.getElem?_toList
def mK:=@Oper.semAt_some
def wF:=@decide_eq_false_iff_not
def iI:=@results_none
def adp:=@Array.getElem?_eq_none
def pF:=@wpList_append_own
def mL:=@beq_iff_eq
def tJ:=@ownsRow_setCell_below
def iC:=@List.not_mem_nil
def gG:=@List.mem_cons
def eJ:=@Int.eq_ofNat_of_zero_le
def na:=@callsIn_wide
def C0:=@Bool.and_false
def ni:=@List.drop_zero
def tK:=@List.all_eq_true
def C1:=@List.getElem?_drop
def Ia:=@List.length_singleton
def wG:=@List.take_append_drop
def zl:=@List.singleton_append
def rh:=@List.cons.inj
def mq:=@ByteArray.ext
def zm:=@List.isPrefixOf_iff_prefix
def rj:=@StepsIn.trans
def rl:=@List.nodup_append
def wH:=@Int.toNat_natCast
def Ib:=@Array.getElem?_eq_getElem
def zn:=@Region.noSelect_spec
def Ic:=@List.take_zero
def ny:=@Nat.zero_add
def nA:=@if_true
def wI:=@List.map_cons
def wJ:=@wpList_load_row
def du:=@Nat.add_zero
def fs:=@Nat.le_of_lt
def zo:=@Region.free_spec
def zq:=@toList_madeCells_one
def adq:=@List.takeWhile_cons_of_pos
def wL:=@Nat.mul_one
def zr:=@List.flatMap_append
def zt:=@Exit.noGoto_ret
def xa:=@Option.map_some
def xc:=@Bool.or_eq_true
def zu:=@Int.natCast_add
def rm:=@wpIn_wide
def C3:=@Bool.false_eq_true
def iD:=@or_false
def C4:=@World.ownsRow.kept
def pG:=@dif_pos
def C5:=@World.block_lt_of_cell?
def adr:=@List.getElem?_replicate
def zv:=@List.flatMap_cons
def Id:=@Result.andThen_ok
def Ie:=@List.count_append
def If:=@Bool.or_false
def Ig:=@List.take_length
def xd:=@List.getElem_mem
def Ih:=@Option.bind_some
def C6:=@wpList_make_full
def Ii:=@List.mem_append_right
def xg:=@List.mem_append
def zw:=@Bool.eq_iff_iff
def Ij:=@run_loadVar_row
def ads:=@Value.slice.inj
def xh:=@List.mem_of_mem_take
def adt:=@Array.toList_append
def xi:=@List.nodup_nil
def C7:=@IntWalk.i64_in
def C8:=@Prod.mk.inj
def Ik:=@Option.toList_some
def xj:=@stepR_seq
def rp:=@Nat.eq_zero_or_pos
def zy:=@wpS_region
def adu:=@Bool.not_eq_true
def Il:=@Nat.sub_zero
def Io:=@ComesIn.of_steps
def Ip:=@run_convert_bytes_string
def zB:=@List.foldl_cons
def Iq:=@IntKind.wrap_u8
def Ir:=@Nat.min_eq_left
def C9:=@leaves_cons
def Is:=@DataW.trod_int
def zC:=@List.all_cons
def eH:=@Nat.add_assoc
def aj(h:p):Hid p:=h
section
variable {a b c d e f g h i : Prop}
def fD(x:a)(c:b):Hid (a/\b):=⟨x,c⟩
def jB(x:a)(d:b)(z:c):Hid (a/\b/\c):=⟨x,d,z⟩
def Dy(x:a)(e:b)(z:c)(u:d):Hid (a/\b/\c/\d):=⟨x,e,z,u⟩
def It(x:a)(f:b)(z:c)(u:d)(v:e):Hid (a/\b/\c/\d/\e):=⟨x,f,z,u,v⟩
def aoo(x:a)(g:b)(z:c)(u:d)(v:e)(w:f):Hid (a/\b/\c/\d/\e/\f):=⟨x,g,z,u,v,w⟩
def ate(x:a)(i:b)(z:c)(u:d)(v:e)(w:f)(p:g)(q:h):Hid (a/\b/\c/\d/\e/\f/\g/\h):=⟨x,i,z,u,v,w,p,q⟩
end
def de(w:World)(o:Obj):Below w.heap.size w (w.alloc o):=(Below.refl _ w).alloc (A _) o
def al1{w W:World}{o:Obj}(h:w.alloc o=W):W.heap[w.heap.size]?=some o/\Below w.heap.size w W/\W.heap.size=w.heap.size+1:=by
 subst h;exact⟨heap_alloc_new w o,(Below.refl _ w).alloc (A _) o,World.size_alloc w o⟩
def Da{w W:World}{o p:Obj}(h:(w.alloc o).alloc p=W):W.heap[w.heap.size]?=some o/\W.heap[w.heap.size+1]?=some p/\Below w.heap.size w W/\W.heap.size=w.heap.size+1+1:=by
 obtain⟨d,e,f⟩:=al1 (w:=w) (o:=o) rfl;have⟨a,b,c⟩:=al1 h;rw[f]at a c;exact⟨(b.block _ (by omega)).trans d,a,e.trans (b.mono (by omega)),c⟩
def aw(a:α):∃x,a=x:=⟨a,rfl⟩
section
variable {P : Program} {f : FuncId} {z : Array Value} {w : World} {v : Value} {Q : World → Prop} {R : Ending → World → Prop}
def dm(h:Calls P f z w λe a=>e= .returned v/\Q a)(k:∀a,Q a->R (.returned v) a):Calls P f z w R:=h.mono λe a b=>b.1 ▸ k a b.2
theorem eE(h:Calls P f z w λe a=>e= .returned v/\a=w)(k:R (.returned v) w):Calls P f z w R:=h.mono λe a b=>by grind
end
