import Derived.Test.YthkcmkmkapijkaaGreatDoorProg
import Derived.WalkKit
set_option linter.all false
open Go renaming Value->A,heap_setCell_other->E,heap_alloc_new->F,cell_of_row->H,Calls->L
open Nat renaming le_refl->B,zero_le->K
open Option renaming some->C,none->G,getD_some->M
namespace Go.Proofs.YthkcmkmkapijkaaGreatDoor
open Go.RowKit
variable{W w:World}{b k:Nat}{c p:Prop}{o:Obj}{t:TypeId}{α:Sort _}
abbrev zI:Int->A:= .int .i64
abbrev zU:Int->A:= .int .u8
abbrev fe:A:= .slice G 0 0
abbrev zE0:ByteArray:=⟨#[]⟩
abbrev nh:A:= .string ⟨#[]⟩
abbrev bI(g n c:Nat):A:= .slice (C ⟨g,0,G⟩) n c
abbrev be(b k:Nat):A:= .pointer (C ⟨b,k,G⟩)
abbrev aj(b k:Nat):Addr:=⟨b,k,G⟩
abbrev Bz:=ByteArray
abbrev zON:=Option Nat
abbrev zLN:=List Nat
abbrev zAV:=Array A
abbrev zOA:=Option Addr
abbrev zLV:=List A
abbrev zLB:=List Bz
abbrev zLI:=List Int
abbrev zLL:=List zLI
def Bw[Decidable c] {x a:α}(h:¬c:=by first|omega|decide):ite c x a=a:=if_neg h
def ifp[Decidable c] {x a:α}(h:c:=by first|omega|decide):ite c x a=x:=if_pos h
def dfo[Decidable c] (h:¬c:=by omega):decide c=false:=decide_eq_false h
def dto[Decidable c] (h:c:=by omega):decide c=true:=decide_eq_true h
def byM(h:p:=by unfold maxLen;omega):p:=h
def lr(h:p:=by simp;omega):p:=h
def byW(h:p:=by with_reducible assumption):p:=h
def O(h:p:=by omega):p:=h
def Z(h:p:=by decide):p:=h
theorem U(h:p:=by grind):p:=h
def I(h:p:=by simp):p:=h
def J(h:p:=by kernel_rfl):p:=h
def byR(h:p:=by rfl):p:=h
def byA(h:p:=by assumption):p:=h
theorem byS(h:p:=by simp_all):p:=h
def oe{cs fr}(h:w.heap[b]?=C (.cells cs t fr)):w.cell? ⟨b,k,G⟩=cs[k]?:=H w b k cs t fr h
def crV{cs fr v}(h:w.heap[b]?=C (.cells cs t fr))(e:cs[k]?=C v:=by rfl):w.cell? ⟨b,k,G⟩=C v:=(oe h).trans e
def jg{a u}(h:k≠a.block):(w.setCell a u).heap[k]?=w.heap[k]?:=E w a k u h
def frR{cs}(h:w.heap[b]?=C (.cells cs t)):w.frozen? ⟨b,k,G⟩=false:=frozen_of_row w b k cs t h
def onN{s e}:w.ownsRow b e s (.slice G 0 0) 0 []:=World.ownsRow_nil w b e s
def blR:Below b w w:=Below.refl b w
def blW:Below b w w.drew:=⟨rfl,rfl,rfl,B _,λ_ _=>rfl⟩
def alO(h:k<w.heap.size):(w.alloc o).heap[k]?=w.heap[k]?:=Below.heap_alloc w o k h
theorem gwS(h:p:=by go_wp2;go_ret;simp_all):p:=h
theorem giS(h:p:=by go_in;go_wp2;go_ret;simp_all):p:=h
def gwR(h:p:=by go_wp2;go_ret;exact⟨rfl,rfl⟩):p:=h
def giR(h:p:=by go_in;go_wp2;go_ret;exact⟨rfl,rfl⟩):p:=h
def gwX{q}(x:q)(h:Hid q->p:=by intro a;go_wp2;go_ret;exact⟨rfl,a.out⟩):p:=h x
def giX{q}(x:q)(h:Hid q->p:=by intro a;go_in;go_wp2;go_ret;exact⟨rfl,a.out⟩):p:=h x
def eE{n:Nat}:n<=n:=B _
def leZ{n}:0<=n:=K _
def R{a:α}:a=a:=rfl
def rr{c}{a:α}{b:c}:a=a/\b=b:=⟨rfl,rfl⟩
def fG:=@B
def aa:=@if_neg
def ay:=@Below.refl
def au:=@F
def ai:=@lt_of_block
def ae:=@if_pos
def yL:=@H
def aL:=@of_decide_eq_true
def za:=@E
def bq:=@decide_eq_false
def aG:=@List.length_append
def dC:=@World.size_alloc
def cA:=@List.setIfInBounds_toArray
def fC:=@beq_eq_false_iff_ne
def bm:=@List.getElem?_eq_getElem
def ed:=@List.getD_eq_getElem?_getD
def dF:=@Bool.and_eq_true
def aD:=@heap_setCell_same
def cH:=@List.set_cons_zero
def zb:=@Below.heap_alloc
def cC:=@List.set_cons_succ
def de:=@Option.some.inj
def dD:=@List.length_cons
def bG:=@List.mem_cons_self
def aA:=@bodyPost_ret
def lg:=@K
def eI:=@decide_eq_true
def az:=@ByteArray.size_append
def cJ:=@List.getElem?_map
def db:=@List.mem_of_getElem?
def bK:=@Nat.le_trans
def dJ:=@List.mem_cons_of_mem
def fL:=@List.append_assoc
def dm:=@List.length_map
def jI:=@List.getElem?_append_right
def cG:=@Nat.lt_or_ge
def fp:=@List.append_nil
def du:=@IntKind.wrap_i64
def mw:=@Option.some.injEq
def ci:=@List.take_of_length_le
def jl:=@List.length_nil
def ga:=@List.nil_append
def jm:=@Nat.lt_of_lt_of_le
def nH:=@List.getElem?_append_left
def ej:=@List.map_append
def iH:=@ByteArray.toList_eq
def ze:=@List.eq_nil_of_length_eq_zero
def fD:=@results_cell_row
def fh:=@List.cons_append
def iC:=@Array.replicate_succ
def gJ:=@Bool.false_and
def my:=@List.drop_eq_getElem_cons
def oF:=@Array.replicate_zero
def gD:=@List.take_add_one
def lh:=@ByteArray.size_extract
def dw:=@info_parts
def lG:=@List.drop_of_length_le
def mz:=@List.size_toArray
def iI:=@Nat.sub_self
def oG:=@Array.length_toList
def gK:=@Bool.true_and
def gE:=@Below.setCell
def oH:=@List.push_toArray
def jJ:=@of_decide_eq_false
def aB:=@ByteArray.append_assoc
def li:=@M
def vI:=@Obj.cells.injEq
def vJ:=@ByteArray.data_append
def nI:=@run_callFunc_extern
def tr:=@decide_eq_true_iff
def oI:=@Prod.mk.injEq
def BC:=@List.getElem?_eq_none
def jw:=@rounds_succ
def dG:=@Ne.symm
def iD:=@List.getElem_of_mem
def tu:=@List.length_drop
def mA:=@List.length_take
def zg:=@World.ownsRow_lit
def ql:=@wp_loop_rounds
def jx:=@Nat.eq_or_lt_of_le
def zh:=@List.getElem?_take
def qm:=@Nat.add_sub_cancel
def FC:=@Array.getElem?_toList
def oJ:=@Oper.semAt_some
def agh:=@decide_eq_false_iff_not
def fE:=@results_none
def Lf:=@Array.getElem?_eq_none
def nJ:=@wpList_append_own
def qo:=@beq_iff_eq
def jo:=@ownsRow_setCell_below
def dI:=@List.mem_cons
def iJ:=@Int.eq_ofNat_of_zero_le
def mC:=@callsIn_wide
def FD:=@Bool.and_false
def iq:=@List.drop_zero
def fH:=@List.all_eq_true
def BD:=@List.getElem?_drop
def agi:=@List.length_singleton
def BE:=@List.take_append_drop
def zj:=@List.singleton_append
def mD:=@List.cons.inj
def nK:=@ByteArray.ext
def BF:=@List.isPrefixOf_iff_prefix
def tw:=@StepsIn.trans
def oK:=@List.nodup_append
def rj:=@Int.toNat_natCast
def FE:=@Array.getElem?_eq_getElem
def BG:=@Region.noSelect_spec
def vK:=@List.take_zero
def qp:=@Nat.zero_add
def oL:=@if_true
def eA:=@List.map_cons
def zk:=@wpList_load_row
def jy:=@Nat.add_zero
def gL:=@Nat.le_of_lt
def zl:=@Sem.run_bind
def BH:=@Region.free_spec
def FG:=@toList_madeCells_one
def agj:=@List.takeWhile_cons_of_pos
def zm:=@Nat.mul_one
def BI:=@List.flatMap_append
def BJ:=@Exit.noGoto_ret
def BL:=@Option.map_some
def zn:=@Bool.or_eq_true
def agk:=@Int.natCast_add
def lH:=@wpIn_wide
def rl:=@or_false
def FH:=@World.ownsRow.kept
def pc:=@dif_pos
def Ca:=@World.block_lt_of_cell?
def agl:=@List.getElem?_replicate
def Cb:=@List.flatMap_cons
def FI:=@Result.andThen_ok
def FJ:=@List.count_append
def Lg:=@Bool.or_false
def Lh:=@List.take_length
def pd:=@List.getElem_mem
def FK:=@wpList_make_full
def agn:=@Array.mem_of_getElem?
def Li:=@List.mem_append_right
def dg:=@List.mem_append
def Cc:=@Bool.eq_iff_iff
def FL:=@run_loadVar_row
def ago:=@Value.slice.inj
def Ce:=@List.mem_of_mem_take
def agp:=@Array.toList_append
def F3:=@List.length_reverse
def zo:=@List.nodup_nil
def F5:=@IntWalk.i64_in
def F6:=@Prod.mk.inj
def Ll:=@Option.toList_some
def zp:=@stepR_seq
def F7:=@Nat.eq_zero_or_pos
def Cf:=@wpS_region
def agq:=@Bool.not_eq_true
def agr:=@decide_eq_decide
def F8:=@Nat.sub_zero
def Lm:=@ComesIn.of_steps
def Lp:=@run_convert_bytes_string
def qr:=@List.foldl_cons
def Lq:=@World.var?_cell
def ags:=@IntKind.wrap_u8
def Lr:=@Nat.min_eq_left
def pf:=@leaves_cons
def Lt:=@DataW.trod_int
def F9:=@Bool.false_or
def gF:=@Nat.add_assoc
def dr:=@List.getElem?_eq_some_iff
def ic:=@List.mem_singleton
def mE:=@Array.getElem?_eq_some_iff
def lj:=@ByteArray.append_empty
def Lu:=@Int.le_refl
def rm:=@List.mem_map
def ah(h:p):Hid p:=h
section
variable {a b c d e f g h i : Prop}
def fs(x:a)(c:b):Hid (a/\b):=⟨x,c⟩
def jG(x:a)(d:b)(z:c):Hid (a/\b/\c):=⟨x,d,z⟩
def Cg(x:a)(e:b)(z:c)(u:d):Hid (a/\b/\c/\d):=⟨x,e,z,u⟩
def Lx(x:a)(f:b)(z:c)(u:d)(v:e):Hid (a/\b/\c/\d/\e):=⟨x,f,z,u,v⟩
def aku(x:a)(g:b)(z:c)(u:d)(v:e)(w:f):Hid (a/\b/\c/\d/\e/\f):=⟨x,g,z,u,v,w⟩
def ayL(x:a)(h:b)(z:c)(u:d)(v:e)(w:f)(p:g):Hid (a/\b/\c/\d/\e/\f/\g):=⟨x,h,z,u,v,w,p⟩
def ay0(x:a)(i:b)(z:c)(u:d)(v:e)(w:f)(p:g)(q:h):Hid (a/\b/\c/\d/\e/\f/\g/\h):=⟨x,i,z,u,v,w,p,q⟩
end
def dj(w o):Below w.heap.size w (w.alloc o):=(Below.refl _ w).alloc (B _) o
def al1(h:w.alloc o=W):W.heap[w.heap.size]?=C o/\Below w.heap.size w W/\W.heap.size=w.heap.size+1:=by
 subst h;exact⟨F w o,(Below.refl _ w).alloc (by omega) o,World.size_alloc w o⟩
def Eu{p}(h:(w.alloc o).alloc p=W):W.heap[w.heap.size]?=C o/\W.heap[w.heap.size+1]?=C p/\Below w.heap.size w W/\W.heap.size=w.heap.size+1+1:=by
 have⟨d,e,f⟩:=al1 (w:=w) (o:=o) rfl;have⟨a,b,c⟩:=al1 h;rw[f]at a c;exact⟨(b.block _ (by omega)).trans d,a,e.trans<|b.mono (by omega),c⟩
def al3{p q}(h:((w.alloc o).alloc p).alloc q=W):W.heap[w.heap.size]?=C o/\W.heap[w.heap.size+1]?=C p/\W.heap[w.heap.size+1+1]?=C q/\Below w.heap.size w W/\W.heap.size=w.heap.size+1+1+1:=by
 have⟨d,e,f,g⟩:=Eu (w:=w) (o:=o) (p:=p) rfl;have⟨b,a,c⟩:=al1 h;rw[g]at b a c;exact⟨(a.block _ (by omega)).trans d,(a.block _ (by omega)).trans e,b,f.trans<|a.mono (by omega),c⟩
def aw(a:α):∃x,a=x:=⟨a,rfl⟩
section
variable {P : Program} {f : FuncId} {z : Array Value} {w : World} {v : Value} {Q : World → Prop} {R : Ending → World → Prop}
def dd(h:L P f z w λe a=>e= .returned v/\Q a)(k:∀a,Q a->R (.returned v) a):L P f z w R:=h.mono λe a b=>b.1 ▸ k a b.2
theorem ez(h:L P f z w λe a=>e= .returned v/\a=w)(k:R (.returned v) w):L P f z w R:=h.mono λe a _=>by grind
end
