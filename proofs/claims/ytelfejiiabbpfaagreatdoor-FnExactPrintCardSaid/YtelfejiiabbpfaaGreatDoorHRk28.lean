import Derived.Test.YtelfejiiabbpfaaGreatDoorHRk11
import Derived.Lib.ItoaNum
import Derived.Test.YtelfejiiabbpfaaGreatDoorHRk27
import Derived.Test.YtelfejiiabbpfaaGreatDoorHRk08
import Derived.Test.YtelfejiiabbpfaaGreatDoorHRk02
set_option linter.unusedVariables false
set_option maxRecDepth 100000
set_option maxHeartbeats 6400000
namespace Go.Proofs.YtelfejiiabbpfaaGreatDoor
open Go.RowKit Go.Maps Go.WideMaps
def hxd (u:Nat) (j:Nat):Int:=hexd ((u / 16 ^ j%16:Nat):Int)
def hxO (u:Nat):Nat->ByteArray
 |0=>⟨#[48,120]⟩
 |r+1=>hxO u r++strI [hxd u (15-r)]
theorem Nat.pow_mul_two16 (k:Nat):(2:Int) ^ (4*k)=(16:Int) ^ k:=by rw[Int.pow_mul];rfl
theorem hxO_size (u:Nat):∀r,(hxO u r).size=r+2
 |0=>rfl
 |r+1=>by show(hxO u r++strI [hxd u (15-r)]).size=_;rw[ByteArray.size_append,hxO_size u r];rfl
theorem DG_run64 (d:Int) (h0:0<=d) (h1:d<16) (w:World):(Instr.index 9 (.string ⟨#[48,49,50,51,52,53,54,55,56,57,97,98,99,100,101,102]⟩) (.int .u64 d)).run Tryz.prog w= .ok (.int .u8 (hexd d)) w:=by
 have h:d.toNat<DG.size:=by simp only[DG];show d.toNat<16;omega
 have q:=DG_at d h0 h1 h
 go_simp
 exact q
theorem low64 (c:Int) (h0:0<=c) (h1:c<18446744073709551616):bits .and .u64 c 15=c%16:=by
 have:=bits_mask .u64 64 (by decide) (fun n a b=>by rw[IntKind.wrap_u64];omega) 4 (by decide) c h0 h1
 simpa using this
theorem l1int_neg (n:Int) (h0: -9223372036854775808<=n) (h1:n<0) (w:World):Calls Tryz.prog 120 #[.int .i64 n] w fun e w'=>e= .returned (.string (hxO (n+18446744073709551616).toNat 16))/\Below w.heap.size w w':=by
 obtain⟨u,hu⟩:∃u:Nat,(u:Int)=n+18446744073709551616:=⟨(n+18446744073709551616).toNat,by omega⟩
 rw[show(n+18446744073709551616).toNat=u by omega]
 obtain⟨U,hU⟩:∃U:Int,U=(u:Int):=⟨_,rfl⟩
 have hw:IntKind.u64.wrap n=U:=by rw[IntKind.wrap_u64];omega
 have hu0:0<=U:=by omega
 have hu1:U<18446744073709551616:=by omega
 have HU:Hid (U=(u:Int)):=hU
 have hn0:¬0<=n:=by omega
 clear hU hu
 go_enter Tryz.func120,Tryz.ntmps120
 go_wp2_with fail
 go_loopw [4,5] (fun out k wr=>∃r:Nat,r<=16/\k= .int .i64 (60-4*(r:Int))/\out= .string (hxO u r)/\Below w.heap.size w wr) (fun _ k _=>(intOf k+4).toNat)
 case atStart=>exact⟨0,by omega,rfl,rfl,Below.refl _ _⟩
 case round=>
  obtain⟨r,hr,rfl,rfl,hb⟩:=hrel
  by_cases h16:r<16
  ·obtain⟨κ,hκ⟩:∃κ:Int,60-4*(r:Int)=κ:=⟨_,rfl⟩
   have hk0:0<=κ:=by omega
   have hk1:κ<=60:=by omega
   obtain⟨X,hX⟩:∃X:Int,U / 2 ^ κ.toNat=X:=⟨_,rfl⟩
   have hXu:X=((u / 16 ^ (15-r):Nat):Int):=by
    rw[<-hX,HU.out,show κ.toNat=4*(15-r) by omega,Nat.pow_mul_two16,Int.natCast_ediv]
    rfl
   have hX0:0<=X:=by rw[hXu];exact Int.natCast_nonneg _
   have hX1:X<18446744073709551616:=by
    rw[hXu]
    have:=Nat.div_le_self u (16 ^ (15-r))
    have:=HU.out
    omega
   have hD0:0<=X%16:=by omega
   have hD1:X%16<16:=by omega
   have hbit:bits .and .u64 X 15=X%16:=low64 X hX0 hX1
   have hix:=fun w=>DG_run64 (X%16) hD0 hD1 w
   have HD:Hid (strI [hexd (X%16)]=strI [hxd u (15-r)]):=by
    show _=_
    unfold hxd
    rw[hXu]
    rfl
   generalize X%16=D at hD0 hD1 hbit hix HD
   have hcv':=fun w=>conv_own (own_first w (hexd D))
   have hsz1:=hxO_size u r
   have hsz2:(strI [hexd D]).size=1:=rfl
   have HR:Hid (60-4*(r:Int)=κ):=hκ
   rw[hκ]
   clear hXu hκ
   go_wp2
   go_roundw
   case rel=>exact⟨r+1,by omega,by have:=HR.out;congr 1;omega,by rw[HD.out];rfl,hb.alloc hb.size _⟩
   case measure=>simp[intOf];omega
  ·obtain rfl:r=16:=by omega
   go_wp2
   go_ret
   exact⟨rfl,hb⟩
theorem tz_and:bits .and .u64 16 (IntKind.u64.wrap (-16))=16:=by decide+kernel
theorem tz_mul:IntKind.u64.wrap 4573923408821661840=4573923408821661840:=by decide+kernel
theorem tz64 (w:World) (h:w.cell? ⟨9,15,none⟩=some (.int .u8 4)):Calls Tryz.prog 203 #[.int .u64 16] w fun e w'=>e= .returned (.int .i64 4)/\w'=w:=by
 have ha:=tz_and
 have hb:=tz_mul
 go_enter Tryz.func203,Tryz.ntmps203
 go_wp2
 go_ret
 exact⟨rfl,rfl⟩
theorem tz (w:World) (h:w.cell? ⟨9,15,none⟩=some (.int .u8 4)):Calls Tryz.prog 194 #[.int .u64 16] w fun e w'=>e= .returned (.int .i64 4)/\w'=w:=by
 go_enter Tryz.func194,Tryz.ntmps194
 go_wp2_with (go_at_call 203;refine(tz64 _ h).mono ?_;rintro e w' ⟨rfl,rfl⟩)
 go_ret
 exact⟨rfl,rfl⟩
theorem p2_and:bits .and .i64 16 15=0:=by decide+kernel
theorem p2 (w:World):Calls Tryz.prog 193 #[.int .i64 16] w fun e w'=>e= .returned (.bool true)/\w'=w:=by
 have ha:=p2_and
 go_enter Tryz.func193,Tryz.ntmps193
 go_wp2
 go_ret
 exact⟨rfl,rfl⟩
def D36:ByteArray:=⟨#[48,49,50,51,52,53,54,55,56,57,97,98,99,100,101,102,103,104,105,106,107,108,109,110,111,112,113,114,115,116,117,118,119,120,121,122]⟩
theorem D36_nat:∀i:Fin 16,((D36[i.val]'(by have:=i.isLt;show i.val<36;omega)).toNat:Int)=hexd (i.val:Int):=by decide
theorem D36_at (d:Int) (h0:0<=d) (h1:d<16) (h:d.toNat<D36.size):((D36[d.toNat]'h).toNat:Int)=hexd d:=by
 have:=D36_nat ⟨d.toNat,by omega⟩
 have e:((d.toNat:Nat):Int)=d:=by omega
 simp only[e]at this
 exact this
theorem D36_run (d:Int) (h0:0<=d) (h1:d<16) (w:World):(Instr.index 9 (.string ⟨#[48,49,50,51,52,53,54,55,56,57,97,98,99,100,101,102,103,104,105,106,107,108,109,110,111,112,113,114,115,116,117,118,119,120,121,122]⟩) (.int .u64 d)).run Tryz.prog w= .ok (.int .u8 (hexd d)) w:=by
 have h:d.toNat<D36.size:=by simp only[D36];show d.toNat<36;omega
 have q:=D36_at d h0 h1 h
 have h36:d<36:=by omega
 go_simp
 exact q
structure Rw (B:Nat) (w:World) (u r:Nat):Prop where
 ex:∃arr,w.heap[B]?=some (.cells arr 229 (0,0))/\arr.size=65/\∀j,j<r->arr[64-j]?=some (.int .u8 (hxd u j))
theorem Rw.step {B:Nat}{w:World}{u r:Nat}(h:Rw B w u r) (hr:r<65) (x:Int) (hx:x=hxd u r):Rw B (w.setCell ⟨B,64-r,none⟩ (.int .u8 x)) u (r+1):=by
 obtain⟨arr,h1,h2,h3⟩:=h.ex
 refine⟨_,heap_setCell_same w B (64-r) _ _ _ h1,by simp[h2],fun j hj=>?_⟩
 rw[Array.getElem?_setIfInBounds]
 by_cases e:j=r
 ·subst e;rw[if_pos rfl,if_pos (by omega),hx]
 ·rw[if_neg (by omega)];exact h3 j (by omega)
theorem Rw.conv {B:Nat}{w:World}{u:Nat}(h:Rw B w u 16):(convert 38 9 (.slice (some ⟨B,49,none⟩) 16 16)).run Tryz.prog w= .ok (.string (strI ((List.range 16).map fun j=>hxd u (15-j)))) w:=by
 obtain⟨arr,h1,h2,h3⟩:=h.ex
 rw[run_convert_bytes_string w 38 9 5 _ _ _ Tryz.underlying38 Tryz.underlying5 Tryz.underlying9]
 refine run_bytesToString w _ 16 16 _ ?_
 have:=run_loadCells_list (P:=Tryz.prog) w ⟨B,49,none⟩ (B8 ((List.range 16).map fun j=>hxd u (15-j))) (fun j x hj=>by
  have hj16:j<16:=by
   rcases Nat.lt_or_ge j 16 with g|g
   ·exact g
   ·rw[List.getElem?_eq_none (by simpa [B8] using g)]at hj;cases hj
  have e:x= .int .u8 (hxd u (15-j)):=by
   simp[B8,hj16]at hj
   exact hj.symm
  subst e
  rw[show(⟨B,49,none⟩:Addr).add j=⟨B,49+j,none⟩ by unfold Addr.add;split<;>simp_all,cell_of_row _ _ _ _ _ _ h1]
  have:=h3 (15-j) (by omega)
  rw[show 64-(15-j)=49+j by omega]at this
  exact this)
 exact this
theorem fmtBits (u:Nat) (h0:9223372036854775808<=u) (h1:u<18446744073709551616) (w:World) (h:w.cell? ⟨9,15,none⟩=some (.int .u8 4)):Calls Tryz.prog 175 #[.slice none 0 0,.int .u64 (u:Int),.int .i64 16,.bool false,.bool false] w fun e w'=>e= .returned (.tuple #[.slice none 0 0,.string (strI ((List.range 16).map fun j=>hxd u (15-j)))])/\Below w.heap.size w w':=by
 have hlt:=World.block_lt_of_cell? w _ h
 have kt:∀o,Calls Tryz.prog 194 #[.int .u64 16] (w.alloc o) fun e w'=>e= .returned (.int .i64 4)/\w'=w.alloc o:=fun o=>tz _ ((cell_below (((Below.refl w.heap.size w).alloc (Nat.le_refl _) o)) hlt).trans h)
 have hR0:Rw w.heap.size (w.alloc (.cells Tryz.zeroCells229 229)) u 0:=⟨_,heap_alloc_new w _,by kernel_rfl,fun j hj=>by omega⟩
 have hB0:Below w.heap.size w (w.alloc (.cells Tryz.zeroCells229 229)):=(Below.refl _ w).alloc (Nat.le_refl _) _
 obtain⟨L,hL⟩:∃L,(List.range 16).map (fun j=>hxd u (15-j))=L:=⟨_,rfl⟩
 rw[hL]
 have HL:Hid ((List.range 16).map (fun j=>hxd u (15-j))=L):=hL
 clear hL
 go_enter Tryz.func175,Tryz.ntmps175
 go_wp2_with (first|(go_at_call 193;refine(p2 _).mono ?_;rintro e w' ⟨rfl,rfl⟩)|(go_at_call 194;refine(kt _).mono ?_;rintro e w' ⟨rfl,rfl⟩))
 generalize w.alloc (.cells Tryz.zeroCells229 229)=W at hR0 hB0
 go_loopw [1,13] (fun v i wr=>∃(r:Nat) (U:Int),r<=15/\i= .int .i64 (65-(r:Int))/\v= .int .u64 U/\Hid (U=((u / 16 ^ r:Nat):Int))/\Rw w.heap.size wr u r/\Below w.heap.size w wr) (fun _ i _=>(intOf i).toNat)
 case atStart=>exact⟨0,(u:Int),by omega,rfl,rfl,by show(u:Int)=_;simp,hR0,hB0⟩
 case round=>
  obtain⟨r,U,hr,rfl,rfl,HU,hRw,hb⟩:=hrel
  obtain⟨arr,g1,g2,g3⟩:=hRw.ex
  have hBlt:w.heap.size<wr.heap.size:=lt_of_block g1
  have hU0:0<=U:=by rw[HU.out];exact Int.natCast_nonneg _
  have hU1:U<18446744073709551616:=by
   rw[HU.out]
   have:=Nat.div_le_self u (16 ^ r)
   omega
  have hD0:0<=U%16:=by omega
  have hD1:U%16<16:=by omega
  have HD:Hid (hexd (U%16)=hxd u r):=by show _=_;unfold hxd;rw[HU.out];rfl
  by_cases hlt:r<15
  ·have hge:16<=U:=by
    rw[HU.out]
    have e1:16 ^ (r+1)<=16 ^ 15:=Nat.pow_le_pow_right (by omega) (by omega)
    have e2:16 ^ 15=1152921504606846976:=by decide
    have e3:16<=u / 16 ^ r:=by
     rw[Nat.le_div_iff_mul_le (Nat.pow_pos (by omega))]
     rw[Nat.pow_succ]at e1
     omega
    omega
   have HN:Hid (U / 16=((u / 16 ^ (r+1):Nat):Int)):=by
    show _=_
    rw[HU.out,Nat.pow_succ,<-Nat.div_div_eq_div_mul]
    rfl
   have hbit:bits .and .u64 U 15=U%16:=low64 U hU0 hU1
   have hix:=fun w=>D36_run (U%16) hD0 hD1 w
   generalize U%16=D at hD0 hD1 hbit hix HD
   obtain⟨I,hI⟩:∃I:Nat,64-r=I:=⟨_,rfl⟩
   have hci:∃x,wr.cell? ⟨w.heap.size,I,none⟩=some x:=by
    rw[cell_of_row _ _ _ _ _ _ g1]
    exact⟨_,Array.getElem?_eq_getElem (by omega)⟩
   obtain⟨x,hcx⟩:=hci
   have hfz:wr.frozen? ⟨w.heap.size,I,none⟩=false:=frozen_of_row _ _ _ _ _ g1
   have hRn:=hRw.step (by omega) (hexd D) HD.out
   rw[hI]at hRn
   obtain⟨ii,hii⟩:∃ii:Int,65-(r:Int)=ii:=⟨_,rfl⟩
   have hi1:ii-1=(I:Int):=by omega
   have hi2:ii<=65:=by omega
   have hi3:I<=64:=by omega
   have HI:Hid (65-(r:Int)=ii):=hii
   rw[hii]
   clear hii HU g3
   go_wp2
   go_roundw
   case rel=>exact⟨r+1,U / 16,by omega,by have:=HI.out;congr 1;omega,rfl,HN,hRn,hb.setCell (by simp) _⟩
   case measure=>simp[intOf];omega
  ·obtain rfl:r=15:=by omega
   have hlt16:U<16:=by
    rw[HU.out]
    have e2:16 ^ 15=1152921504606846976:=by decide
    rw[e2]
    omega
   have hix:=fun w=>D36_run U hU0 hlt16 w
   rw[Int.emod_eq_of_lt hU0 hlt16]at HD
   obtain⟨x,hcx⟩:∃x,wr.cell? ⟨w.heap.size,49,none⟩=some x:=by
    rw[cell_of_row _ _ _ _ _ _ g1]
    exact⟨_,Array.getElem?_eq_getElem (by omega)⟩
   have hfz:wr.frozen? ⟨w.heap.size,49,none⟩=false:=frozen_of_row _ _ _ _ _ g1
   have hRn:Rw w.heap.size (wr.setCell ⟨w.heap.size,49,none⟩ (.int .u8 (hexd U))) u 16:=hRw.step (r:=15) (by omega) (hexd U) HD.out
   have hcv:=hRn.conv
   rw[HL.out]at hcv
   have hge:¬16<=U:=by omega
   clear HU g3 hRn
   go_wp2
   go_ret2
   exact⟨rfl,hb.setCell (by simp) _⟩
theorem fmtUintI (u:Nat) (h0:9223372036854775808<=u) (h1:u<18446744073709551616) (w:World) (h:w.cell? ⟨9,15,none⟩=some (.int .u8 4)):Calls Tryz.prog 153 #[.int .u64 (u:Int),.int .i64 16] w fun e w'=>e= .returned (.string (strI ((List.range 16).map fun j=>hxd u (15-j))))/\Below w.heap.size w w':=by
 have kf:=fmtBits u h0 h1 w h
 generalize strI ((List.range 16).map fun j=>hxd u (15-j))=R at kf
 generalize (u:Int)=U at kf
 go_enter Tryz.func153,Tryz.ntmps153
 go_wp2_with (go_at_call 175;refine kf.mono ?_;rintro e w' ⟨rfl,hb⟩)
 go_ret
 exact⟨rfl,hb⟩
theorem fmtUint (u:Nat) (h0:9223372036854775808<=u) (h1:u<18446744073709551616) (w:World) (h:w.cell? ⟨9,15,none⟩=some (.int .u8 4)):Calls Tryz.prog 132 #[.int .u64 (u:Int),.int .i64 16] w fun e w'=>e= .returned (.string (strI ((List.range 16).map fun j=>hxd u (15-j))))/\Below w.heap.size w w':=by
 have kf:=fmtUintI u h0 h1 w h
 generalize strI ((List.range 16).map fun j=>hxd u (15-j))=R at kf
 generalize (u:Int)=U at kf
 go_enter Tryz.func132,Tryz.ntmps132
 go_wp2_with (go_at_call 153;refine kf.mono ?_;rintro e w' ⟨rfl,hb⟩)
 go_ret
 exact⟨rfl,hb⟩
theorem strI_app (a b:List Int):strI (a++b)=strI a++strI b:=by
 have key:∀(l:List Int) (x:ByteArray),l.foldl (fun r n=>r.push (UInt8.ofNat n.toNat)) x=x++l.foldl (fun r n=>r.push (UInt8.ofNat n.toNat)) ByteArray.empty:=by
  intro l
  induction l with
  |nil=>intro x;simp
  |cons a r ih=>
   intro x
   rw[List.foldl_cons,List.foldl_cons,ih (x.push _),ih (ByteArray.empty.push _)]
   apply ByteArray.ext
   simp[ByteArray.push,ByteArray.data_append]
 unfold strI
 rw[List.foldl_append]
 exact key b _
theorem hxO_all (u:Nat):hxO u 16=⟨#[48,120]⟩++strI ((List.range 16).map fun j=>hxd u (15-j)):=by
 have key:∀r,hxO u r=⟨#[48,120]⟩++strI ((List.range r).map fun j=>hxd u (15-j)):=by
  intro r
  induction r with
  |zero=>rfl
  |succ r ih=>rw[hxO,ih,List.range_succ,List.map_append,strI_app,ByteArray.append_assoc];rfl
 exact key 16
theorem intText_neg (n:Int) (h0: -9223372036854775808<=n) (h1:n<0) (w:World) (h:w.cell? ⟨9,15,none⟩=some (.int .u8 4)):Calls Tryz.prog 96 #[.int .i64 n] w fun e w'=>e= .returned (.string (hxO (n+18446744073709551616).toNat 16))/\Below w.heap.size w w':=by
 obtain⟨u,hu⟩:∃u:Nat,(u:Int)=n+18446744073709551616:=⟨(n+18446744073709551616).toNat,by omega⟩
 rw[show(n+18446744073709551616).toNat=u by omega,hxO_all]
 have kf:=fmtUint u (by omega) (by omega) w h
 have hw:IntKind.u64.wrap n=(u:Int):=by rw[IntKind.wrap_u64];omega
 have hsz:(strI ((List.range 16).map fun j=>hxd u (15-j))).size=16:=rfl
 generalize strI ((List.range 16).map fun j=>hxd u (15-j))=R at kf hsz
 generalize (u:Int)=U at kf hw
 clear hu
 go_enter Tryz.func96,Tryz.ntmps96
 go_wp2_with (go_at_call 132;refine kf.mono ?_;rintro e w' ⟨rfl,hb⟩)
 go_ret
 exact⟨rfl,hb⟩
def ints (d:List UInt8):List Int:=d.map fun b=>(b.toNat:Int)
theorem strI_ints (d:List UInt8):strI (ints d)=⟨d.toArray⟩:=by
 have key:∀(d:List UInt8) (x:ByteArray),(ints d).foldl (fun r n=>r.push (UInt8.ofNat n.toNat)) x=⟨x.data++d.toArray⟩:=by
  intro d
  induction d with
  |nil=>intro x;simp[ints]
  |cons a r ih=>
   intro x
   show(ints r).foldl _ (x.push (UInt8.ofNat ((a.toNat:Int)).toNat))=_
   rw[ih]
   have e:UInt8.ofNat ((a.toNat:Int)).toNat=a:=by simp
   rw[e]
   simp[ByteArray.push]
 have:=key d ByteArray.empty
 unfold strI
 rw[this]
 simp
def pre (c:Nat):List Int:=if c=0 then [] else ints (Lib.decDigits c)
theorem pre_step (c:Nat) (h:c≠0):pre c=pre (c / 10)++[48+((c%10:Nat):Int)]:=by
 have h8:∀k,k<10->(((UInt8.ofNat (48+k)).toNat:Nat):Int)=48+(k:Int):=fun k hk=>by
  rw[UInt8.toNat_ofNat',Nat.mod_eq_of_lt (by omega)];omega
 unfold pre
 rw[if_neg h]
 by_cases h10:c<10
 ·rw[if_pos (by omega),Lib.decDigits,dif_pos h10,Nat.mod_eq_of_lt h10]
  show [(((UInt8.ofNat (48+c)).toNat:Nat):Int)]=_
  rw[h8 c h10];rfl
 ·rw[if_neg (by omega),Lib.decDigits,dif_neg h10]
  show List.map _ (_++_)=_
  rw[List.map_append]
  show ints (Lib.decDigits (c / 10))++[(((UInt8.ofNat (48+c%10)).toNat:Nat):Int)]=_
  rw[h8 _ (by omega)]
theorem l1decimal_pos (N:Nat) (h0:N≠0) (h1:N<=9223372036854775807) (w:World):Calls Tryz.prog 140 #[.int .i64 (N:Int)] w fun e w'=>e= .returned (.string ⟨(Lib.decDigits N).toArray⟩)/\Below w.heap.size w w':=by
 obtain⟨n,hn⟩:∃n:Int,(N:Int)=n:=⟨_,rfl⟩
 rw[hn]
 have n0:0<n:=by omega
 have n1:n<=9223372036854775807:=by omega
 have nz:(n==0)=false:=by rw[beq_eq_false_iff_ne];omega
 have nn:¬n<0:=by omega
 have HN:Hid ((N:Int)=n):=hn
 clear hn
 go_enter Tryz.func140,Tryz.ntmps140
 go_wp2_with fail
 go_loopw [0,4,5] (fun vn vd v5 wr=>∃(c:Int) (l:List Int),vn= .int .i64 c/\0<=c/\c<=9223372036854775807/\Hid (c.toNat<10 ^ (19-l.length)/\l.length<=19/\ints (Lib.decDigits N)=pre c.toNat++l.reverse)/\wr.ownsRow w.heap.size 5 1 vd l.length (B8 l)/\Below w.heap.size w wr) (fun vn _ _ _=>(intOf vn).toNat)
 case atStart=>
  refine⟨n,[],rfl,by omega,n1,⟨?_,by simp,?_⟩,World.ownsRow_nil _ _ _ _,Below.refl _ _⟩
  ·have:(10:Nat) ^ (19-([]:List Int).length)=10000000000000000000:=by decide
   rw[this];omega
  ·rw[show n.toNat=N by have:=HN.out;omega];unfold pre;rw[if_neg h0];simp
 case round=>
  obtain⟨c,l,rfl,c0,c1,HH,hown,hb⟩:=hrel
  by_cases hc:c=0
  ·subst hc
   obtain⟨_,hl19,hfin⟩:=HH.out
   have hfin':ints (Lib.decDigits N)=l.reverse:=hfin
   have hlpos:0<l.length:=by
    have e:=congrArg List.length hfin'
    rw[List.length_reverse]at e
    have:0<(ints (Lib.decDigits N)).length:=by
     rw[Lib.decDigits]
     split<;>simp[ints]
    omega
   have HL:Hid (strI l.reverse=⟨(Lib.decDigits N).toArray⟩):=by show _=_;rw[<-hfin',strI_ints]
   rcases hown.2 with⟨h,hz⟩|⟨g,cap,cur,hv,hg,hh,_,hmx,hsz,htk⟩
   ·have:l=[]:=by
     have hB:(B8 l).length=l.length:=B8_len l
     have:=hown.1
     simp at hz
     omega
    rw[this]at hlpos;simp at hlpos
   ·have hcell:∀j,j<l.length->wr.cell? ⟨g,j,none⟩=some (.int .u8 (l.getD j 0)):=fun j hj=>by
     rw[cell_of_row _ _ _ _ _ _ hh]
     have e1:(B8 l)[j]?=some (.int .u8 (l.getD j 0)):=by simp[B8,hj,List.getD]
     rw[<-htk,List.getElem?_take]at e1
     split at e1
     ·simpa using e1
     ·cases e1
    have hglt:g<wr.heap.size:=lt_of_block hh
    obtain⟨Ln,hLn⟩:∃Ln,l.length=Ln:=⟨_,rfl⟩
    rw[hLn]at hlpos hl19 hcell hv
    subst hv
    clear HH hfin hfin' hown hh htk hsz hmx
    have hrev:∀t,t<Ln->l.reverse.take (t+1)=l.reverse.take t++[l.getD (Ln-1-t) 0]:=fun t ht=>by
     have e:l.reverse[t]?=some (l.getD (Ln-1-t) 0):=by
      rw[List.getElem?_reverse (by omega),List.getD,hLn,List.getElem?_eq_getElem (by omega)]
      rfl
     rw[List.take_add_one,e];rfl
    have hsz:∀t,t<=Ln->(strI (l.reverse.take t)).size=t:=fun t ht=>by
     have:∀x:List Int,(strI x).size=x.length:=by
      intro x
      induction x with
      |nil=>rfl
      |cons a b ih=>rw[show a::b=[a]++b from rfl,strI_app,ByteArray.size_append,ih,List.length_append];rfl
     rw[this,List.length_take,List.length_reverse];omega
    have HREV:Hid (∀t,t<Ln->l.reverse.take (t+1)=l.reverse.take t++[l.getD (Ln-1-t) 0]):=hrev
    have HLL:Hid (l.length=Ln):=hLn
    clear hrev hLn
    go_wp2_with fail
    go_loopw [6,7] (fun out i wq=>∃t:Nat,t<=Ln/\i= .int .i64 ((Ln:Int)-1-(t:Int))/\out= .string (strI (l.reverse.take t))/\Below wr.heap.size wr wq) (fun _ i _=>(intOf i+1).toNat)
    case atStart=>exact⟨0,by omega,by first|rfl|(congr 1;omega),rfl,Below.refl _ _⟩
    case round=>
     obtain⟨t,ht,rfl,rfl,hbq⟩:=hrel
     have hs1:=hsz t ht
     by_cases htl:t<Ln
     ·obtain⟨I,hI⟩:∃I:Nat,Ln-1-t=I:=⟨_,rfl⟩
      have hci:=(cell_below hbq hglt).trans (hcell I (by omega))
      have HT:=HREV.out t htl
      rw[hI]at HT
      have HS:Hid (strI (l.reverse.take t)++strI [l.getD I 0]=strI (l.reverse.take (t+1))):=by show _=_;rw[HT,strI_app]
      generalize l.getD I 0=x at hci HS
      have hcv:=fun w=>conv_own (own_first w x)
      have hs2:(strI [x]).size=1:=rfl
      have hii:(Ln:Int)-1-(t:Int)=(I:Int):=by omega
      have hIl:I<Ln:=by omega
      generalize strI (l.reverse.take t)=o at hs1 HS⊢
      rw[hii]
      clear hsz HT hcell
      go_wp2
      go_roundw
      case rel=>exact⟨t+1,by omega,by first|rfl|(congr 1;omega),by rw[HS.out],hbq.alloc hbq.size _⟩
      case measure=>simp[intOf]
     ·obtain rfl:t=Ln:=by omega
      have hneg:¬(0:Int)<=(t:Int)-1-(t:Int):=by omega
      rw[List.take_of_length_le (by rw[List.length_reverse,HLL.out];exact Nat.le_refl _)]
      have HR:=HL.out
      generalize strI l.reverse=o at HR⊢
      subst HR
      clear hs1 hsz HL HREV
      go_wp2
      go_ret
      exact⟨rfl,hb.trans (hbq.mono hb.size)⟩
  ·have hcz:(c==0)=false:=by rw[beq_eq_false_iff_ne];exact hc
   have hcn:(c !=0)=true:=by rw[bne_iff_ne];exact hc
   have hm:¬c%10<0:=by omega
   have hl19:l.length<=18:=by
    obtain⟨e1,e2,_⟩:=HH.out
    rcases Nat.lt_or_ge l.length 19 with h|h
    ·omega
    ·rw[show 19-l.length=0 by omega]at e1;simp at e1;omega
   have HN2:Hid ((c / 10).toNat<10 ^ (19-(l++[48+c%10]).length)/\(l++[48+c%10]).length<=19/\ints (Lib.decDigits N)=pre (c / 10).toNat++(l++[48+c%10]).reverse):=by
    obtain⟨e1,e2,e3⟩:=HH.out
    have el:(l++[48+c%10]).length=l.length+1:=by simp
    refine⟨?_,by omega,?_⟩
    ·rw[el]
     have e4:10 ^ (19-l.length)=10 ^ (19-(l.length+1))*10:=by rw[<-Nat.pow_succ];congr 1;omega
     rw[e4]at e1
     have:(c / 10).toNat=c.toNat / 10:=by omega
     rw[this]
     omega
    ·rw[e3,pre_step c.toNat (by omega),show(c / 10).toNat=c.toNat / 10 by omega,show((c.toNat%10:Nat):Int)=c%10 by omega]
     simp
   clear HH
   go_wp2_with (at_builtin;refine ap_law rfl (.tmp 20) (.tmp 24) rfl w.heap.size u4 l.length l rfl hown hb.size (by omega) [48+c%10] 1 rfl (by decide) (by decide) _ rfl rfl ?_;intro g cap w1 hown1 hb1)
   go_roundw
   case rel=>exact⟨c / 10,l++[48+c%10],by first|rfl|(congr 1;omega),by omega,by omega,HN2,by rw[List.length_append];exact hown1,hb.trans (hb1.mono (by omega))⟩
   case measure=>simp[intOf];omega
structure Lay (w:World):Prop where
 tabs:Tabs w
 errs:Errs w
 pow:Lib.TabIs Tryz.prog w "internal/strconv.uint64pow10" .u64 Lib.pow10Tab
 brj:w.cell? ⟨9,15,none⟩=some (.int .u8 4)
theorem var_below {P:Program}{w w':World}{B:Nat}{n:String}{cs:Array Value}(h:w.var? P n=some cs) (hb:Below B w w') (hB:w.heap.size<=B):w'.var? P n=some cs:=by
 unfold World.var? at h⊢
 cases hg:P.globalNamed n with
 |none=>simp[hg]at h
 |some g=>
  simp only[hg,Option.bind_some]at h⊢
  have hlt:g<w.heap.size:=by
   rcases Nat.lt_or_ge g w.heap.size with h'|h'
   ·exact h'
   ·simp[Array.getElem?_eq_none h']at h
  rw[hb.block g (Nat.lt_of_lt_of_le hlt hB)]
  exact h
theorem Lay.below {w w':World}{B:Nat}(h:Lay w) (hb:Below B w w') (hB:w.heap.size<=B):Lay w':=
 ⟨h.tabs.below hb hB,h.errs.below hb hB,var_below h.pow hb hB,(cell_below hb (Nat.lt_of_lt_of_le (World.block_lt_of_cell? w _ h.brj) hB)).trans h.brj⟩
theorem bel_grow (w:World) (q:Nat) (os:Array Obj):Below w.heap.size w (Sort.grow (w.drewN q) os):=
 ⟨rfl,rfl,rfl,by show w.heap.size<=(w.heap++os).size;simp,fun k hk=>by show(w.heap++os)[k]?=_;rw[Array.getElem?_append_left hk]⟩
def intS (n:Int):ByteArray:=if n<0 then hxO (n+18446744073709551616).toNat 16 else⟨(Lib.decDigits n.toNat).toArray⟩
theorem l1dec_any (N:Nat) (h1:N<=9223372036854775807) (w:World):Calls Tryz.prog 140 #[.int .i64 (N:Int)] w fun e w'=>e= .returned (.string ⟨(Lib.decDigits N).toArray⟩)/\Below w.heap.size w w':=by
 by_cases h0:N=0
 ·subst h0
  have e:(⟨(Lib.decDigits 0).toArray⟩:ByteArray)=⟨#[48]⟩:=by rw[Lib.decDigits,dif_pos (by omega)];rfl
  rw[e]
  show Calls Tryz.prog 140 #[.int .i64 0] w _
  go_enter Tryz.func140,Tryz.ntmps140
  go_wp2
  go_ret
  exact⟨rfl,Below.refl _ _⟩
 ·exact l1decimal_pos N h0 h1 w
theorem l1int_any (n:Int) (h0: -9223372036854775808<=n) (h1:n<=9223372036854775807) (w:World):Calls Tryz.prog 120 #[.int .i64 n] w fun e w'=>e= .returned (.string (intS n))/\Below w.heap.size w w':=by
 unfold intS
 by_cases hn:n<0
 ·rw[if_pos hn];exact l1int_neg n h0 hn w
 ·rw[if_neg hn]
  have kd:∀w,Calls Tryz.prog 140 #[.int .i64 n] w fun e w'=>e= .returned (.string ⟨(Lib.decDigits n.toNat).toArray⟩)/\Below w.heap.size w w':=fun w=>by
   have:=l1dec_any n.toNat (by omega) w
   rw[show((n.toNat:Nat):Int)=n by omega]at this
   exact this
  generalize (⟨(Lib.decDigits n.toNat).toArray⟩:ByteArray)=R at kd
  have hn':0<=n:=by omega
  go_enter Tryz.func120,Tryz.ntmps120
  go_wp2_with (go_at_call 140;refine(kd _).mono ?_;rintro e w' ⟨rfl,hb⟩)
  go_ret
  exact⟨rfl,hb⟩
theorem intText_any (n:Int) (h0: -9223372036854775808<=n) (h1:n<=9223372036854775807) (w:World) (hL:Lay w):Calls Tryz.prog 96 #[.int .i64 n] w fun e w'=>e= .returned (.string (intS n))/\Below w.heap.size w w':=by
 unfold intS
 by_cases hn:n<0
 ·rw[if_pos hn];exact intText_neg n h0 hn w hL.brj
 ·rw[if_neg hn]
  have kd:Calls Tryz.prog 133 #[.int .i64 n,.int .i64 10] w fun e w'=>e= .returned (.string ⟨(Lib.decDigits n.toNat).toArray⟩)/\Below w.heap.size w w':=by
   refine(Tryz.strconv_FormatInt_10 n h0 h1 w hL.pow).mono ?_
   rintro e w' ⟨rfl,k,os,rfl⟩
   refine⟨by unfold Lib.itoa;rw[if_neg hn],bel_grow _ _ _⟩
  generalize (⟨(Lib.decDigits n.toNat).toArray⟩:ByteArray)=R at kd
  have hn':¬n<0:=hn
  go_enter Tryz.func96,Tryz.ntmps96
  go_wp2_with (go_at_call 133;refine kd.mono ?_;rintro e w' ⟨rfl,hb⟩)
  go_ret
  exact⟨rfl,hb⟩
end Go.Proofs.YtelfejiiabbpfaaGreatDoor
namespace Go.Proofs.YtelfejiiabbpfaaGreatDoor
open Go.RowKit
def ndD:Nd:=⟨0,0,0,0,0,0,ByteArray.empty,[],[]⟩
def nodeI (ns:List Nd) (i:Int):Nd:=ns.getD i.toNat ndD
def kidI (N:Nd) (j:Nat):Int:=N.ks.getD j 0
def catB (l:List ByteArray):ByteArray:=l.foldl (· ++·) ByteArray.empty
def parB (x:ByteArray):ByteArray:=⟨#[40]⟩++x++⟨#[41]⟩
def holdB (ns:List Nd) (E:Int->ByteArray) (k least:Int):ByteArray:=if powP (nodeI ns k).k (nodeI ns k).op<least then parB (E k) else E k
def leftK (N:Nd) (power:Int):Int:=if rgtK N.k N.op=power then power+1 else power
def infB (ns:List Nd) (E:Int->ByteArray) (N:Nd) (sign:ByteArray) (power:Int):ByteArray:=holdB ns E (kidI N 0) (leftK N power)++sign++holdB ns E (kidI N 1) (rgtK N.k N.op)
def negK (N:Nd):Bool:=N.k==30&&N.op==19
def unS (ns:List Nd) (N:Nd):ByteArray:=if N.op=21 then⟨#[110,111,116,32]⟩ else if N.op=22 then⟨#[35]⟩ else if N.op=20 then⟨#[126]⟩ else if negK (nodeI ns (kidI N 0))=true then⟨#[45]⟩++⟨#[32]⟩ else⟨#[45]⟩
def unB (ns:List Nd) (E:Int->ByteArray) (N:Nd):ByteArray:=unS ns N++holdB ns E (kidI N 0) 11
def bsB (ns:List Nd) (E:Int->ByteArray) (k:Int):ByteArray:=if baseK (nodeI ns k).k=true then E k else parB (E k)
def plB (N:Nd):ByteArray:=
 if N.k=20 then⟨#[110,105,108]⟩ else if N.k=21 then⟨#[116,114,117,101]⟩ else if N.k=22 then⟨#[102,97,108,115,101]⟩ else if N.k=23 then intS N.n
 else if N.k=24\/N.k=26 then N.x else if N.k=25 then strI (quoteI N.x) else if N.k=27 then⟨#[46,46,46]⟩ else ByteArray.empty
def entB (ns:List Nd) (E:Int->ByteArray) (X:Nd):ByteArray:=
 if X.k=41 then⟨#[91]⟩++E (kidI X 0)++⟨#[93,32,61,32]⟩++E (kidI X 1) else if X.k=42 then(⟨#[46]⟩++X.x++⟨#[32,61,32]⟩)++E (kidI X 0) else E (kidI X 0)
def tblB (ns:List Nd) (E:Int->ByteArray) (N:Nd):ByteArray:=⟨#[123]⟩++sepB (N.ks.map fun k=>entB ns E (nodeI ns k))++⟨#[125]⟩
def blB (S:Int->Nat->ByteArray) (ks:List Int) (tab:Nat):ByteArray:=
 if ks=[] then⟨#[123,125]⟩ else⟨#[123]⟩++catB (ks.map fun k=>lineB (tab+1)++S k (tab+1))++lineB tab++⟨#[125]⟩
def prmB (N:Nd):ByteArray:=⟨#[40]⟩++sepB N.nm++(if N.op=1 then(if N.nm=[] then⟨#[46,46,46]⟩ else commaB++⟨#[46,46,46]⟩) else ByteArray.empty)++⟨#[41,32]⟩
def bodB (ns:List Nd) (S:Int->Nat->ByteArray) (N:Nd) (tab:Nat):ByteArray:=prmB N++blB S (nodeI ns (kidI N 0)).ks tab
def prE (ns:List Nd) (E:Int->ByteArray) (S:Int->Nat->ByteArray) (N:Nd) (tab:Nat):ByteArray:=
 if N.k=28 then infB ns E N ⟨#[32,97,110,100,32]⟩ (powP N.k N.op)
 else if N.k=29 then infB ns E N ⟨#[32,111,114,32]⟩ (powP N.k N.op)
 else if N.k=31 then infB ns E N (⟨#[32]⟩++txtI (60+N.op)++⟨#[32]⟩) (powP N.k N.op)
 else if N.k=30 then unB ns E N
 else if N.k=32 then bsB ns E (kidI N 0)++⟨#[91]⟩++E (kidI N 1)++⟨#[93]⟩
 else if N.k=33 then bsB ns E (kidI N 0)++(⟨#[46]⟩++N.x)
 else if N.k=34 then bsB ns E (kidI N 0)++⟨#[40]⟩++sepB ((N.ks.drop 1).map E)++⟨#[41]⟩
 else if N.k=35 then tblB ns E N
 else if N.k=36 then⟨#[102,110]⟩++bodB ns S N tab
 else if N.k=37 then parB (E (kidI N 0))
 else plB N
def prBr (ns:List Nd) (E:Int->ByteArray) (S:Int->Nat->ByteArray) (Br:Int->ByteArray->ByteArray) (N:Nd) (word:ByteArray) (tab:Nat):ByteArray:=
 word++E (kidI N 0)++⟨#[32]⟩++blB S (nodeI ns (kidI N 1)).ks tab++
  (if N.ks.length<3 then ByteArray.empty else if(nodeI ns (kidI N 2)).k=7 then Br (kidI N 2) ⟨#[32,101,108,105,102,32]⟩ else⟨#[32,101,108,115,101,32]⟩++blB S (nodeI ns (kidI N 2)).ks tab)
def nm0 (N:Nd):ByteArray:=N.nm.getD 0 ByteArray.empty
def prS (ns:List Nd) (E:Int->ByteArray) (S:Int->Nat->ByteArray) (Br:Int->ByteArray->ByteArray) (N:Nd) (tab:Nat):ByteArray:=
 if N.k=1 then blB S N.ks tab
 else if N.k=2 then⟨#[108,101,116,32]⟩++sepB N.nm++(if N.ks=[] then ByteArray.empty else⟨#[32,61,32]⟩++sepB (N.ks.map E))
 else if N.k=3 then(⟨#[99,111,110,115,116,32]⟩++nm0 N++⟨#[32,61,32]⟩)++E (kidI N 0)
 else if N.k=4 then(⟨#[102,110,32]⟩++nm0 N)++bodB ns S (nodeI ns (kidI N 0)) tab
 else if N.k=5 then sepB ((N.ks.take N.n.toNat).map E)++⟨#[32,61,32]⟩++sepB ((N.ks.drop N.n.toNat).map E)
 else if N.k=6 then E (kidI N 0)
 else if N.k=7 then Br (-1) ⟨#[105,102,32]⟩
 else if N.k=8 then⟨#[119,104,105,108,101,32]⟩++E (kidI N 0)++⟨#[32]⟩++blB S (nodeI ns (kidI N 1)).ks tab
 else if N.k=9\/N.k=10 then⟨#[102,111,114,32]⟩++sepB N.nm++(if N.k=9 then⟨#[32,61,32]⟩ else⟨#[32,105,110,32]⟩)++sepB ((N.ks.take (N.ks.length-1)).map E)++⟨#[32]⟩++blB S (nodeI ns (kidI N (N.ks.length-1))).ks tab
 else if N.k=11 then⟨#[98,114,101,97,107]⟩
 else if N.k=12 then⟨#[110,101,120,116]⟩
 else if N.k=13 then⟨#[114,101,116,117,114,110]⟩++(if N.ks=[] then ByteArray.empty else⟨#[32]⟩++sepB (N.ks.map E))
 else if N.k=14 then⟨#[116,114,121,32]⟩++blB S (nodeI ns (kidI N 0)).ks tab++⟨#[32,99,97,116,99,104,32]⟩++sepB N.nm++⟨#[32]⟩++blB S (nodeI ns (kidI N 1)).ks tab
 else if N.k=15 then⟨#[116,104,114,111,119,32]⟩++E (kidI N 0)
 else if N.k=16 then⟨#[100,101,102,101,114,32]⟩++E (kidI N 0)
 else ByteArray.empty
mutual
def txE (ns:List Nd):Nat->Int->Nat->ByteArray
 |0,_,_=>ByteArray.empty
 |f+1,i,tab=>prE ns (fun k=>txE ns f k tab) (fun k t=>txS ns f k t) (nodeI ns i) tab
def txS (ns:List Nd):Nat->Int->Nat->ByteArray
 |0,_,_=>ByteArray.empty
 |f+1,i,tab=>prS ns (fun k=>txE ns f k tab) (fun k t=>txS ns f k t) (fun _ w=>prBr ns (fun k=>txE ns f k tab) (fun k t=>txS ns f k t) (fun k w=>txBr ns f k w tab) (nodeI ns i) w tab) (nodeI ns i) tab
def txBr (ns:List Nd):Nat->Int->ByteArray->Nat->ByteArray
 |0,_,_,_=>ByteArray.empty
 |f+1,i,w,tab=>prBr ns (fun k=>txE ns f k tab) (fun k t=>txS ns f k t) (fun k w=>txBr ns f k w tab) (nodeI ns i) w tab
end
def printT (ns:List Nd):ByteArray:=catB ((nodeI ns ((ns.length:Int)-1)).ks.map fun k=>txS ns ns.length k 0++⟨#[10]⟩)
def printF (ns:List Nd):ByteArray:=if 65536<(printT ns).size then ByteArray.empty else printT ns
theorem kq_box {b:Nat}{w w':World}(o:Obj) (h:Kq b (w.alloc o) w'):Kq b w w':=(Kq.of_below ((Below.refl _ w).alloc (Nat.le_refl _) o)).trans h
theorem plain_any (w0:World) (vt vn vk:Value) (N:Nd) (T:ByteArray) (t:Int) (w:World) (h:Pr w0 vt T t w) (hK:20<=N.k/\N.k<=27) (hn0: -9223372036854775808<=N.n) (hn1:N.n<=9223372036854775807) (hx:N.k=25->N.x.size<=4000) (hl:T.size+(plB N).size<=140737488355328):
  Calls Tryz.prog 81 #[.pointer (some ⟨w0.heap.size,0,none⟩),vNd N vn vk] w fun e w'=>e= .returned (.tuple #[])/\Pr w0 vt (T++plB N) t w'/\Kq w0.heap.size w w':=by
 have hb:Below w.heap.size w (w.alloc (.cells #[.int .i64 N.k,.int .i64 N.f,.int .i64 N.t,.int .i64 N.l,.int .i64 N.op,.int .i64 N.n,.string N.x,vn,vk] 44)):=(Below.refl _ w).alloc (Nat.le_refl _) _
 have HP:Hid (Pr w0 vt T t (w.alloc (.cells #[.int .i64 N.k,.int .i64 N.f,.int .i64 N.t,.int .i64 N.l,.int .i64 N.op,.int .i64 N.n,.string N.x,vn,vk] 44))/\Below w.heap.size w (w.alloc (.cells #[.int .i64 N.k,.int .i64 N.f,.int .i64 N.t,.int .i64 N.l,.int .i64 N.op,.int .i64 N.n,.string N.x,vn,vk] 44))):=⟨h.below hb,hb⟩
 have ki:=l1int_any N.n hn0 hn1
 obtain⟨X,hX⟩:∃X,plB N=X:=⟨_,rfl⟩
 rw[hX]at hl⊢
 unfold plB at hX
 clear h hb
 unfold vNd
 have f1:∀c:Int,N.k=c->(N.k==c)=true:=fun c e=>by simpa using e
 have f0:∀c:Int,N.k≠c->(N.k==c)=false:=fun c e=>by simpa using e
 by_cases e0:N.k=20
 ·have g0:=f1 _ e0
  rw[if_pos e0]at hX
  subst hX
  clear e0 f1 f0 hK hx ki
  go_enter Tryz.func81,Tryz.ntmps81
  go_wp2_with (go_at_call 12;refine(say_any w0 vt _ _ _ _ HP.out.1 hl).mono ?_;rintro e w2 ⟨rfl,p2,k2⟩)
  go_end0
  exact⟨rfl,p2,kq_box _ k2⟩
 have g0:=f0 _ e0
 rw[if_neg e0]at hX
 by_cases e1:N.k=21
 ·have g1:=f1 _ e1
  rw[if_pos e1]at hX
  subst hX
  clear e0 e1 f1 f0 hK hx ki
  go_enter Tryz.func81,Tryz.ntmps81
  go_wp2_with (go_at_call 12;refine(say_any w0 vt _ _ _ _ HP.out.1 hl).mono ?_;rintro e w2 ⟨rfl,p2,k2⟩)
  go_end0
  exact⟨rfl,p2,kq_box _ k2⟩
 have g1:=f0 _ e1
 rw[if_neg e1]at hX
 by_cases e2:N.k=22
 ·have g2:=f1 _ e2
  rw[if_pos e2]at hX
  subst hX
  clear e0 e1 e2 f1 f0 hK hx ki
  go_enter Tryz.func81,Tryz.ntmps81
  go_wp2_with (go_at_call 12;refine(say_any w0 vt _ _ _ _ HP.out.1 hl).mono ?_;rintro e w2 ⟨rfl,p2,k2⟩)
  go_end0
  exact⟨rfl,p2,kq_box _ k2⟩
 have g2:=f0 _ e2
 rw[if_neg e2]at hX
 by_cases e3:N.k=23
 ·have g3:=f1 _ e3
  rw[if_pos e3]at hX
  rw[hX]at ki
  clear e0 e1 e2 e3 f1 f0 hK hx hX
  go_enter Tryz.func81,Tryz.ntmps81
  go_wp2_with (go_at_call 120;fail)
  refine(ki _).mono ?_
  rintro e w1 ⟨rfl,b1⟩
  have H1:Hid (Pr w0 vt T t w1/\Below w.heap.size w w1):=⟨HP.out.1.below b1,HP.out.2.trans (b1.mono HP.out.2.size)⟩
  clear b1 ki
  go_wp2_with (go_at_call 12;fail)
  refine(say_any w0 vt _ _ _ _ H1.out.1 hl).mono ?_
  rintro e w2 ⟨rfl,p2,k2⟩
  go_wp2_with fail
  go_end0
  exact⟨rfl,p2,(Kq.of_below H1.out.2).trans k2⟩
 have g3:=f0 _ e3
 rw[if_neg e3]at hX
 by_cases e4:N.k=24\/N.k=26
 ·rw[if_pos e4]at hX
  rcases e4 with e4|e4
  ·have g4:=f1 _ e4
   rw[hX]at HP⊢
   clear e0 e1 e2 e3 e4 f1 f0 hK hx ki hX
   go_enter Tryz.func81,Tryz.ntmps81
   go_wp2_with (go_at_call 12;refine(say_any w0 vt _ _ _ _ HP.out.1 hl).mono ?_;rintro e w2 ⟨rfl,p2,k2⟩)
   go_end0
   exact⟨rfl,p2,kq_box _ k2⟩
  ·have g4:(N.k==24)=false:=f0 _ (by omega)
   have g5:=f1 _ e4
   rw[hX]at HP⊢
   clear e0 e1 e2 e3 e4 f1 f0 hK hx ki hX
   go_enter Tryz.func81,Tryz.ntmps81
   go_wp2_with (go_at_call 12;refine(say_any w0 vt _ _ _ _ HP.out.1 hl).mono ?_;rintro e w2 ⟨rfl,p2,k2⟩)
   go_end0
   exact⟨rfl,p2,kq_box _ k2⟩
 rw[if_neg e4]at hX
 have g4:(N.k==24)=false:=f0 _ (by omega)
 have g5:(N.k==26)=false:=f0 _ (by omega)
 by_cases e6:N.k=25
 ·have g6:=f1 _ e6
  rw[if_pos e6]at hX
  have kq:=specQuote N.x (hx e6)
  rw[hX]at kq
  clear e0 e1 e2 e3 e4 e6 f1 f0 hK hx hX ki
  go_enter Tryz.func81,Tryz.ntmps81
  go_wp2_with (go_at_call 121;fail)
  refine(kq _).mono ?_
  rintro e w1 ⟨rfl,b1⟩
  have H1:Hid (Pr w0 vt T t w1/\Below w.heap.size w w1):=⟨HP.out.1.below b1,HP.out.2.trans (b1.mono HP.out.2.size)⟩
  clear b1 kq
  go_wp2_with (go_at_call 12;fail)
  refine(say_any w0 vt _ _ _ _ H1.out.1 hl).mono ?_
  rintro e w2 ⟨rfl,p2,k2⟩
  go_wp2_with fail
  go_end0
  exact⟨rfl,p2,(Kq.of_below H1.out.2).trans k2⟩
 have g6:=f0 _ e6
 rw[if_neg e6]at hX
 have e7:N.k=27:=by omega
 have g7:=f1 _ e7
 rw[if_pos e7]at hX
 subst hX
 clear e0 e1 e2 e3 e4 e6 e7 f1 f0 hK hx ki
 go_enter Tryz.func81,Tryz.ntmps81
 go_wp2_with (go_at_call 12;refine(say_any w0 vt _ _ _ _ HP.out.1 hl).mono ?_;rintro e w2 ⟨rfl,p2,k2⟩)
 go_end0
 exact⟨rfl,p2,kq_box _ k2⟩
theorem pwF_pos (op:Int):3<=(pwF op).1/\(pwF op).1<=10:=by
 unfold pwF
 repeat' split
 all_goals exact⟨by decide,by decide⟩
theorem powP_pos (k op:Int):0<powP k op/\powP k op<=12:=by
 have:=pwF_pos op
 unfold powP
 repeat' split
 all_goals omega
theorem hold0 (ns:List Nd) (E:Int->ByteArray) (k:Int):holdB ns E k 0=E k:=by
 unfold holdB
 rw[if_neg]
 have:=powP_pos (nodeI ns k).k (nodeI ns k).op
 omega
theorem parB_size (x:ByteArray):(parB x).size=x.size+2:=by unfold parB;rw[ByteArray.size_append,ByteArray.size_append];show 1+x.size+1=_;omega
theorem node_at {ns:List Nd}{k:Nat}(h:k<ns.length):ns[k]?=some (nodeI ns (k:Int)):=by
 unfold nodeI
 rw[Int.toNat_natCast,List.getD,List.getElem?_eq_getElem h];rfl
def OkE (w0:World) (vt:Value) (ns:List Nd) (E:Int->ByteArray) (t:Int) (B:Nat):Prop:=
 ∀(k:Nat) (least:Int) (T:ByteArray) (W:World),k<B->exprK (nodeI ns k).k=true->0<=least->least<=100->Pr w0 vt T t W->T.size+(holdB ns E k least).size<=140737488355328->
  Calls Tryz.prog 24 #[.pointer (some ⟨w0.heap.size,0,none⟩),.int .i64 (k:Int),.int .i64 least] W fun e w'=>e= .returned (.tuple #[])/\Pr w0 vt (T++holdB ns E k least) t w'/\Kq w0.heap.size W w'
theorem OkE.zero {w0:World}{vt:Value}{ns:List Nd}{E:Int->ByteArray}{t:Int}{B:Nat}(h:OkE w0 vt ns E t B) (k:Nat) (T:ByteArray) (W:World) (hk:k<B) (he:exprK (nodeI ns k).k=true) (hp:Pr w0 vt T t W) (hl:T.size+(E k).size<=140737488355328):
  Calls Tryz.prog 24 #[.pointer (some ⟨w0.heap.size,0,none⟩),.int .i64 (k:Int),.int .i64 0] W fun e w'=>e= .returned (.tuple #[])/\Pr w0 vt (T++E k) t w'/\Kq w0.heap.size W w':=by
 have:=h k 0 T W hk he (by omega) (by omega) hp (by rw[hold0];exact hl)
 rw[hold0]at this
 exact this
theorem base_any (w0:World) (vt:Value) (ns:List Nd) (E:Int->ByteArray) (t:Int) (B:Nat) (hO:OkE w0 vt ns E t B) (hNs:NdsAt w0 vt ns) (hln:ns.length<=1048576) (k:Nat) (hk:k<B) (hkl:k<ns.length) (he:exprK (nodeI ns k).k=true)
  (T:ByteArray) (w:World) (h:Pr w0 vt T t w) (hl:T.size+(bsB ns E k).size<=140737488355328):
  Calls Tryz.prog 79 #[.pointer (some ⟨w0.heap.size,0,none⟩),.int .i64 (k:Int)] w fun e w'=>e= .returned (.tuple #[])/\Pr w0 vt (T++bsB ns E k) t w'/\Kq w0.heap.size w w':=by
 have hn:=node_at hkl
 obtain⟨a1,c1,rfl⟩:=hNs.form
 obtain⟨p1,rfl,vn1,vk1,g1⟩:=(hNs.below h.bel).get hn
 obtain⟨z0,z2,zf⟩:=h.cells
 have e1:=g1.c0
 have kb:=l4base_any (nodeI ns k).k
 have HP:Hid (Pr w0 (.slice (some p1) ns.length c1) T t w/\exprK (nodeI ns k).k=true/\OkE w0 (.slice (some p1) ns.length c1) ns E t B):=⟨h,he,hO⟩
 clear h hNs g1 hn he hO
 obtain⟨n,hN⟩:∃n,ns.length=n:=⟨_,rfl⟩
 rw[hN]at z0 HP hln hkl
 have hki:(k:Int)<(n:Int):=by omega
 have hk0:(0:Int)<=(k:Int):=by omega
 obtain⟨X,hX⟩:∃X,bsB ns E k=X:=⟨_,rfl⟩
 rw[hX]at hl⊢
 rw[hN]
 unfold bsB at hX
 clear hN
 generalize (nodeI ns k).k=R at e1 kb hX
 cases hb:baseK R with
 |true=>
  rw[hb]at kb hX
  rw[if_pos rfl]at hX
  subst hX
  clear hb
  go_enter Tryz.func79,Tryz.ntmps79
  go_wp2_with (first|(go_at_call 119;refine(kb _).mono ?_;rintro e w' ⟨rfl,hw'⟩;subst w')|(go_at_call 24;fail))
  refine(HP.out.2.2.zero k T w hk HP.out.2.1 HP.out.1 hl).mono ?_
  rintro e w2 ⟨rfl,p2,k2⟩
  go_wp2_with fail
  exact bodyPost_ret (results_none rfl _ _ _) rfl ⟨rfl,p2,k2⟩
 |false=>
  rw[hb]at kb hX
  rw[if_neg (by simp)]at hX
  subst hX
  rw[parB_size]at hl
  clear hb
  go_enter Tryz.func79,Tryz.ntmps79
  go_wp2_with (first|(go_at_call 119;refine(kb _).mono ?_;rintro e w' ⟨rfl,hw'⟩;subst w')|(go_at_call 12;fail))
  refine(say_any w0 _ T _ t w HP.out.1 (by show T.size+1<=_;omega)).mono ?_
  rintro e w2 ⟨rfl,p2,k2⟩
  have H2:Hid (Pr w0 (.slice (some p1) n c1) (T++⟨#[40]⟩) t w2/\Kq w0.heap.size w w2):=⟨p2,k2⟩
  clear p2 k2
  go_wp2_with (go_at_call 24;fail)
  refine(HP.out.2.2.zero k _ w2 hk HP.out.2.1 H2.out.1 (by rw[ByteArray.size_append];show T.size+1+_<=_;omega)).mono ?_
  rintro e w3 ⟨rfl,p3,k3⟩
  have H3:Hid (Pr w0 (.slice (some p1) n c1) (T++⟨#[40]⟩++E k) t w3/\Kq w0.heap.size w w3):=⟨p3,H2.out.2.trans k3⟩
  clear p3 k3
  go_wp2_with (go_at_call 12;fail)
  refine(say_any w0 _ _ _ t w3 H3.out.1 (by rw[ByteArray.size_append,ByteArray.size_append];show T.size+1+_+1<=_;omega)).mono ?_
  rintro e w4 ⟨rfl,p4,k4⟩
  have H4:Hid (Pr w0 (.slice (some p1) n c1) (T++parB (E k)) t w4/\Kq w0.heap.size w w4):=⟨by unfold parB;rw[<-ByteArray.append_assoc,<-ByteArray.append_assoc];exact p4,H3.out.2.trans k4⟩
  clear p4 k4
  go_wp2_with fail
  go_end0
  exact⟨rfl,H4.out.1,H4.out.2⟩
theorem Kq.box {b k:Nat}{w w':World}{N:Nd}{vn vk:Value}(h:Kq b w w') (hk:NdBox k w 44 N vn vk) (hne:k≠b):NdBox k w' 44 N vn vk:=by
 refine(h.block k (lt_of_block hk) hne ?_).trans hk
 intro cs fr e
 unfold NdBox at hk
 rw[hk]at e
 cases e
theorem unary_plain (w0:World) (vt:Value) (ns:List Nd) (E:Int->ByteArray) (t:Int) (B:Nat) (hO:OkE w0 vt ns E t B) (N:Nd) (vn vk:Value) (hks:IntsAt w0 vk N.ks) (k:Nat) (hk0:N.ks[0]?=some (k:Int)) (hk:k<B) (hl2:N.ks.length<=1048576) (he:exprK (nodeI ns k).k=true)
  (hop:N.op=20\/N.op=21\/N.op=22) (T:ByteArray) (w:World) (h:Pr w0 vt T t w) (hl:T.size+(unB ns E N).size<=140737488355328):
  Calls Tryz.prog 78 #[.pointer (some ⟨w0.heap.size,0,none⟩),vNd N vn vk] w fun e w'=>e= .returned (.tuple #[])/\Pr w0 vt (T++unB ns E N) t w'/\Kq w0.heap.size w w':=by
 have hb:Below w.heap.size w (w.alloc (.cells #[.int .i64 N.k,.int .i64 N.f,.int .i64 N.t,.int .i64 N.l,.int .i64 N.op,.int .i64 N.n,.string N.x,vn,vk] 44)):=(Below.refl _ w).alloc (Nat.le_refl _) _
 have hbx:NdBox w.heap.size (w.alloc (.cells #[.int .i64 N.k,.int .i64 N.f,.int .i64 N.t,.int .i64 N.l,.int .i64 N.op,.int .i64 N.n,.string N.x,vn,vk] 44)) 44 N vn vk:=heap_alloc_new w _
 have hlt:=h.lt
 obtain⟨a1,c1,rfl⟩:=hks.form
 obtain⟨p1,rfl,_⟩:=hks.get hk0
 have hkid:kidI N 0=(k:Int):=by unfold kidI;rw[List.getD,hk0];rfl
 have hlen:0<N.ks.length:=by rcases Nat.eq_zero_or_pos N.ks.length with e|e;rw[List.getElem?_eq_none (by omega)]at hk0;cases hk0;exact e
 have HP:Hid (Pr w0 vt T t (w.alloc (.cells #[.int .i64 N.k,.int .i64 N.f,.int .i64 N.t,.int .i64 N.l,.int .i64 N.op,.int .i64 N.n,.string N.x,vn,.slice (some p1) N.ks.length c1] 44))/\Kq w0.heap.size w (w.alloc (.cells #[.int .i64 N.k,.int .i64 N.f,.int .i64 N.t,.int .i64 N.l,.int .i64 N.op,.int .i64 N.n,.string N.x,vn,.slice (some p1) N.ks.length c1] 44))
  /\NdBox w.heap.size (w.alloc (.cells #[.int .i64 N.k,.int .i64 N.f,.int .i64 N.t,.int .i64 N.l,.int .i64 N.op,.int .i64 N.n,.string N.x,vn,.slice (some p1) N.ks.length c1] 44)) 44 N vn (.slice (some p1) N.ks.length c1)/\IntsAt w0 (.slice (some p1) N.ks.length c1) N.ks/\N.ks[0]?=some (k:Int)):=⟨h.below hb,Kq.of_below hb,hbx,hks,hk0⟩
 obtain⟨X,hX⟩:∃X,unB ns E N=X:=⟨_,rfl⟩
 rw[hX]at hl⊢
 unfold unB at hX
 rw[hkid]at hX
 have HO:Hid (OkE w0 vt ns E t B/\exprK (nodeI ns k).k=true):=⟨hO,he⟩
 clear h hb hbx hks hk0 hkid hO he
 have sgn:∃sg:ByteArray,unS ns N=sg/\((N.op=21/\sg=⟨#[110,111,116,32]⟩)\/(N.op=22/\sg=⟨#[35]⟩)\/(N.op=20/\sg=⟨#[126]⟩)):=by
  refine⟨_,rfl,?_⟩
  unfold unS
  rcases hop with e|e|e
  ·exact .inr (.inr ⟨e,by rw[if_neg (by omega),if_neg (by omega),if_pos e]⟩)
  ·exact .inl ⟨e,by rw[if_pos e]⟩
  ·exact .inr (.inl ⟨e,by rw[if_neg (by omega),if_pos e]⟩)
 obtain⟨sg,hsg,hcs⟩:=sgn
 rw[hsg]at hX
 obtain⟨Y,hY⟩:∃Y,holdB ns E k 11=Y:=⟨_,rfl⟩
 rw[hY]at hX
 have HY:Hid (holdB ns E k 11=Y):=hY
 subst hX
 rw[ByteArray.size_append]at hl
 clear hsg hY
 unfold vNd
 have fin:∀w2,Pr w0 vt (T++sg) t w2->Kq w0.heap.size (w.alloc (.cells #[.int .i64 N.k,.int .i64 N.f,.int .i64 N.t,.int .i64 N.l,.int .i64 N.op,.int .i64 N.n,.string N.x,vn,.slice (some p1) N.ks.length c1] 44)) w2->
   w2.cell? ⟨w.heap.size,8,none⟩=some (.slice (some p1) N.ks.length c1)/\w2.cell? p1=some (.int .i64 (k:Int))/\Calls Tryz.prog 24 #[.pointer (some ⟨w0.heap.size,0,none⟩),.int .i64 (k:Int),.int .i64 11] w2 fun e w'=>e= .returned (.tuple #[])/\Pr w0 vt (T++(sg++Y)) t w'/\Kq w0.heap.size w w':=by
  intro w2 p2 k2
  obtain⟨b0,b1,b2,b3,b4,b5,b6,b7,b8,bf⟩:=nd_cells (k2.box HP.out.2.2.1 (by omega))
  obtain⟨p',e1,e2⟩:=(HP.out.2.2.2.1.below p2.bel).get HP.out.2.2.2.2
  cases e1
  refine⟨b8,by simpa [Addr.add] using e2,?_⟩
  refine(HO.out.1 k 11 _ w2 hk HO.out.2 (by omega) (by omega) p2 (by rw[HY.out,ByteArray.size_append];omega)).mono ?_
  rintro e w3 ⟨rfl,p3,k3⟩
  rw[HY.out,ByteArray.append_assoc]at p3
  exact⟨rfl,p3,(HP.out.2.1.trans k2).trans k3⟩
 have HF:Hid (∀w2,Pr w0 vt (T++sg) t w2->Kq w0.heap.size (w.alloc (.cells #[.int .i64 N.k,.int .i64 N.f,.int .i64 N.t,.int .i64 N.l,.int .i64 N.op,.int .i64 N.n,.string N.x,vn,.slice (some p1) N.ks.length c1] 44)) w2->
   w2.cell? ⟨w.heap.size,8,none⟩=some (.slice (some p1) N.ks.length c1)/\w2.cell? p1=some (.int .i64 (k:Int))/\Calls Tryz.prog 24 #[.pointer (some ⟨w0.heap.size,0,none⟩),.int .i64 (k:Int),.int .i64 11] w2 fun e w'=>e= .returned (.tuple #[])/\Pr w0 vt (T++(sg++Y)) t w'/\Kq w0.heap.size w w'):=fin
 clear fin
 have hi1:(0:Int)<(N.ks.length:Int):=by omega
 rcases hcs with⟨e,rfl⟩|⟨e,rfl⟩|⟨e,rfl⟩
 ·have g1:(N.op==21)=true:=by simpa using e
  clear e hop
  go_enter Tryz.func78,Tryz.ntmps78
  go_wp2_with (go_at_call 12;fail)
  refine(say_any w0 vt T _ t _ HP.out.1 (by omega)).mono ?_
  rintro e w2 ⟨rfl,p2,k2⟩
  obtain⟨b8,bp,ke⟩:=HF.out w2 p2 k2
  clear p2 k2
  go_wp2_with (go_at_call 24;fail)
  refine ke.mono ?_
  rintro e w3 ⟨rfl,p3,k3⟩
  go_wp2_with fail
  go_end0
  exact⟨rfl,p3,k3⟩
 ·have g1:(N.op==21)=false:=by simp;omega
  have g2:(N.op==22)=true:=by simpa using e
  clear e hop
  go_enter Tryz.func78,Tryz.ntmps78
  go_wp2_with (go_at_call 12;fail)
  refine(say_any w0 vt T _ t _ HP.out.1 (by omega)).mono ?_
  rintro e w2 ⟨rfl,p2,k2⟩
  obtain⟨b8,bp,ke⟩:=HF.out w2 p2 k2
  clear p2 k2
  go_wp2_with (go_at_call 24;fail)
  refine ke.mono ?_
  rintro e w3 ⟨rfl,p3,k3⟩
  go_wp2_with fail
  go_end0
  exact⟨rfl,p3,k3⟩
 ·have g1:(N.op==21)=false:=by simp;omega
  have g2:(N.op==22)=false:=by simp;omega
  have g3:(N.op==20)=true:=by simpa using e
  clear e hop
  go_enter Tryz.func78,Tryz.ntmps78
  go_wp2_with (go_at_call 12;fail)
  refine(say_any w0 vt T _ t _ HP.out.1 (by omega)).mono ?_
  rintro e w2 ⟨rfl,p2,k2⟩
  obtain⟨b8,bp,ke⟩:=HF.out w2 p2 k2
  clear p2 k2
  go_wp2_with (go_at_call 24;fail)
  refine ke.mono ?_
  rintro e w3 ⟨rfl,p3,k3⟩
  go_wp2_with fail
  go_end0
  exact⟨rfl,p3,k3⟩
theorem pwF_right (op:Int):4<=(pwF op).2/\(pwF op).2<=11:=by
 unfold pwF
 repeat' split
 all_goals exact⟨by decide,by decide⟩
theorem rgtK_bd (k op:Int):2<=rgtK k op/\rgtK k op<=11:=by
 have:=pwF_right op
 unfold rgtK
 repeat' split
 all_goals omega
theorem add_cell {W:World}{p:Addr}{i:Nat}{v:Value}(h:W.cell? (p.add i)=some v) (hi:i≠0):W.cell? ⟨p.block,p.off+i,none⟩=some v:=by
 unfold Addr.add at h
 rw[if_neg hi]at h
 exact h
theorem infix_any (w0:World) (vt:Value) (ns:List Nd) (E:Int->ByteArray) (t:Int) (B:Nat) (hO:OkE w0 vt ns E t B) (N:Nd) (vn vk:Value) (hks:IntsAt w0 vk N.ks) (k0 k1:Nat) (hk0:N.ks[0]?=some (k0:Int)) (hk1:N.ks[1]?=some (k1:Int)) (hB0:k0<B) (hB1:k1<B) (he0:exprK (nodeI ns k0).k=true) (he1:exprK (nodeI ns k1).k=true) (hl2:N.ks.length<=1048576)
  (hop:N.k≠29->N.k≠28->1<=N.op/\N.op<=18) (sign:ByteArray) (power:Int) (hp0:0<=power) (hp1:power<=50) (T:ByteArray) (w:World) (h:Pr w0 vt T t w) (hl:T.size+(infB ns E N sign power).size<=140737488355328):
  Calls Tryz.prog 76 #[.pointer (some ⟨w0.heap.size,0,none⟩),vNd N vn vk,.string sign,.int .i64 power] w fun e w'=>e= .returned (.tuple #[])/\Pr w0 vt (T++infB ns E N sign power) t w'/\Kq w0.heap.size w w':=by
 have hb:Below w.heap.size w (w.alloc (.cells #[.int .i64 N.k,.int .i64 N.f,.int .i64 N.t,.int .i64 N.l,.int .i64 N.op,.int .i64 N.n,.string N.x,vn,vk] 44)):=(Below.refl _ w).alloc (Nat.le_refl _) _
 have hbx:NdBox w.heap.size (w.alloc (.cells #[.int .i64 N.k,.int .i64 N.f,.int .i64 N.t,.int .i64 N.l,.int .i64 N.op,.int .i64 N.n,.string N.x,vn,vk] 44)) 44 N vn vk:=heap_alloc_new w _
 have hlt:=h.lt
 obtain⟨a1,c1,rfl⟩:=hks.form
 obtain⟨p1,rfl,_⟩:=hks.get hk0
 have hkid0:kidI N 0=(k0:Int):=by unfold kidI;rw[List.getD,hk0];rfl
 have hkid1:kidI N 1=(k1:Int):=by unfold kidI;rw[List.getD,hk1];rfl
 have hlen:1<N.ks.length:=by rcases Nat.lt_or_ge 1 N.ks.length with e|e;exact e;rw[List.getElem?_eq_none e]at hk1;cases hk1
 have kr:=l4right_any N vn (.slice (some p1) N.ks.length c1) hop
 obtain⟨L,hL⟩:∃L,N.ks.length=L:=⟨_,rfl⟩
 rw[hL]at hlen hl2 hks hb hbx kr⊢
 have HP:Hid (Pr w0 vt T t (w.alloc (.cells #[.int .i64 N.k,.int .i64 N.f,.int .i64 N.t,.int .i64 N.l,.int .i64 N.op,.int .i64 N.n,.string N.x,vn,.slice (some p1) L c1] 44))/\Kq w0.heap.size w (w.alloc (.cells #[.int .i64 N.k,.int .i64 N.f,.int .i64 N.t,.int .i64 N.l,.int .i64 N.op,.int .i64 N.n,.string N.x,vn,.slice (some p1) L c1] 44))
  /\NdBox w.heap.size (w.alloc (.cells #[.int .i64 N.k,.int .i64 N.f,.int .i64 N.t,.int .i64 N.l,.int .i64 N.op,.int .i64 N.n,.string N.x,vn,.slice (some p1) L c1] 44)) 44 N vn (.slice (some p1) L c1)/\IntsAt w0 (.slice (some p1) L c1) N.ks/\N.ks[0]?=some (k0:Int)/\N.ks[1]?=some (k1:Int)):=⟨h.below hb,Kq.of_below hb,hbx,hks,hk0,hk1⟩
 have HO:Hid (OkE w0 vt ns E t B/\exprK (nodeI ns k0).k=true/\exprK (nodeI ns k1).k=true):=⟨hO,he0,he1⟩
 have hR:=rgtK_bd N.k N.op
 obtain⟨X,hX⟩:∃X,infB ns E N sign power=X:=⟨_,rfl⟩
 rw[hX]at hl⊢
 unfold infB leftK at hX
 rw[hkid0,hkid1]at hX
 generalize rgtK N.k N.op=R at kr hR hX
 obtain⟨lf,hlf⟩:∃lf,(if R=power then power+1 else power)=lf:=⟨_,rfl⟩
 rw[hlf]at hX
 have hlf0:0<=lf/\lf<=51:=by rw[<-hlf];split<;>omega
 have HX:Hid (holdB ns E k0 lf++sign++holdB ns E k1 R=X):=hX
 have hls:T.size+((holdB ns E k0 lf).size+sign.size+(holdB ns E k1 R).size)<=140737488355328:=by rw[<-hX,ByteArray.size_append,ByteArray.size_append]at hl;exact hl
 have HS:Hid (T.size+((holdB ns E k0 lf).size+sign.size+(holdB ns E k1 R).size)<=140737488355328):=hls
 have KR:Hid (∀w:World,Calls Tryz.prog 115 #[vNd N vn (.slice (some p1) L c1)] w fun e w'=>e= .returned (.int .i64 R)/\Below w.heap.size w w'):=kr
 clear h hb hbx hks hk0 hk1 hkid0 hkid1 hO he0 he1 hop hL hX hl hls kr
 unfold vNd at KR⊢
 have hi1:(0:Int)<(L:Int):=by omega
 have hi2:(1:Int)<(L:Int):=by omega
 have HLF:Hid (0<=lf/\lf<=51):=hlf0
 have rest:∀(W:World),Pr w0 vt T t W->Kq w0.heap.size w W->NdBox w.heap.size W 44 N vn (.slice (some p1) L c1)->
   W.cell? ⟨w.heap.size,8,none⟩=some (.slice (some p1) L c1)/\W.cell? p1=some (.int .i64 (k0:Int))/\Calls Tryz.prog 24 #[.pointer (some ⟨w0.heap.size,0,none⟩),.int .i64 (k0:Int),.int .i64 lf] W fun e w'=>e= .returned (.tuple #[])/\Pr w0 vt (T++holdB ns E k0 lf) t w'/\Kq w0.heap.size w w'/\NdBox w.heap.size w' 44 N vn (.slice (some p1) L c1):=by
  intro W q5 k5 b5
  obtain⟨_,_,_,_,_,_,_,_,x8,_⟩:=nd_cells b5
  obtain⟨p',e1,xp⟩:=(HP.out.2.2.2.1.below q5.bel).get HP.out.2.2.2.2.1
  cases e1
  refine⟨x8,by simpa [Addr.add] using xp,?_⟩
  refine(HO.out.1 k0 lf _ W hB0 HO.out.2.1 HLF.out.1 (by have:=HLF.out.2;omega) q5 (by have:=HS.out;omega)).mono ?_
  rintro e w3 ⟨rfl,q6,k6⟩
  exact⟨rfl,q6,k5.trans k6,k6.box b5 (by omega)⟩
 have HRS:Hid (∀(W:World),Pr w0 vt T t W->Kq w0.heap.size w W->NdBox w.heap.size W 44 N vn (.slice (some p1) L c1)->
   W.cell? ⟨w.heap.size,8,none⟩=some (.slice (some p1) L c1)/\W.cell? p1=some (.int .i64 (k0:Int))/\Calls Tryz.prog 24 #[.pointer (some ⟨w0.heap.size,0,none⟩),.int .i64 (k0:Int),.int .i64 lf] W fun e w'=>e= .returned (.tuple #[])/\Pr w0 vt (T++holdB ns E k0 lf) t w'/\Kq w0.heap.size w w'/\NdBox w.heap.size w' 44 N vn (.slice (some p1) L c1)):=rest
 clear rest hlf0
 have lim:∀(W:World),NdBox w.heap.size W 44 N vn (.slice (some p1) L c1)->∀W',Kq w0.heap.size W W'->Below w0.heap.size w0 W'->
   W'.cell? ⟨w.heap.size,0,none⟩=some (.int .i64 N.k)/\W'.cell? ⟨w.heap.size,1,none⟩=some (.int .i64 N.f)/\W'.cell? ⟨w.heap.size,2,none⟩=some (.int .i64 N.t)/\W'.cell? ⟨w.heap.size,3,none⟩=some (.int .i64 N.l)/\W'.cell? ⟨w.heap.size,4,none⟩=some (.int .i64 N.op)/\W'.cell? ⟨w.heap.size,5,none⟩=some (.int .i64 N.n)/\W'.cell? ⟨w.heap.size,6,none⟩=some (.string N.x)/\W'.cell? ⟨w.heap.size,7,none⟩=some vn/\W'.cell? ⟨w.heap.size,8,none⟩=some (.slice (some p1) L c1)/\W'.cell? ⟨p1.block,p1.off+1,none⟩=some (.int .i64 (k1:Int))/\Kq w0.heap.size W W':=by
  intro W bx W' hq hb'
  obtain⟨x0,x1,x2,x3,x4,x5,x6,x7,x8,_⟩:=nd_cells (hq.box bx (by omega))
  obtain⟨p',e1,xp⟩:=(HP.out.2.2.2.1.below hb').get HP.out.2.2.2.2.2
  cases e1
  exact⟨x0,x1,x2,x3,x4,x5,x6,x7,x8,add_cell xp (by decide),hq⟩
 by_cases hRp:R=power
 ·have g1:(R==power)=true:=by simpa using hRp
  rw[if_pos hRp]at hlf
  have HLE:Hid (power+1=lf):=hlf
  clear hRp hlf
  go_enter Tryz.func76,Tryz.ntmps76
  go_wp2_with (go_at_call 115;fail)
  refine(KR.out _).mono ?_
  rintro e w2 ⟨rfl,hb2⟩
  obtain⟨b8,bp,ke⟩:=HRS.out w2 (HP.out.1.below hb2) (HP.out.2.1.trans (Kq.of_below hb2)) (HP.out.2.2.1.below hb2)
  clear hb2
  go_wp2_with (go_at_call 24;fail)
  rw[<-HLE.out]at ke
  refine ke.mono ?_
  rintro e w3 ⟨rfl,q3,k3,b3⟩
  rw[HLE.out]at q3
  have H3:Hid (Pr w0 vt (T++holdB ns E k0 lf) t w3/\Kq w0.heap.size w w3/\NdBox w.heap.size w3 44 N vn (.slice (some p1) L c1)):=⟨q3,k3,b3⟩
  clear q3 k3 b3 b8 bp
  go_wp2_with (go_at_call 12;fail)
  refine(say_any w0 vt _ sign t _ H3.out.1 (by have:=HS.out;rw[ByteArray.size_append];omega)).mono ?_
  rintro e w4 ⟨rfl,q4,k4⟩
  have b4:=k4.box H3.out.2.2 (by omega)
  have H4:Hid (Pr w0 vt (T++holdB ns E k0 lf++sign) t w4/\Kq w0.heap.size w w4):=⟨q4,H3.out.2.1.trans k4⟩
  have sX:=lim w4 b4
  have hlt4:=lt_of_block b4
  clear q4 k4 b4
  obtain⟨x0,x1,x2,x3,x4,x5,x6,x7,x8,xp,_⟩:=sX w4 (Kq.refl _ _) H4.out.1.bel
  go_wp2_with fail
  go_region_held3 (fun W'=>W'.cell? ⟨w.heap.size,0,none⟩=some (.int .i64 N.k)/\W'.cell? ⟨w.heap.size,1,none⟩=some (.int .i64 N.f)/\W'.cell? ⟨w.heap.size,2,none⟩=some (.int .i64 N.t)/\W'.cell? ⟨w.heap.size,3,none⟩=some (.int .i64 N.l)/\W'.cell? ⟨w.heap.size,4,none⟩=some (.int .i64 N.op)/\W'.cell? ⟨w.heap.size,5,none⟩=some (.int .i64 N.n)/\W'.cell? ⟨w.heap.size,6,none⟩=some (.string N.x)/\W'.cell? ⟨w.heap.size,7,none⟩=some vn/\W'.cell? ⟨w.heap.size,8,none⟩=some (.slice (some p1) L c1)/\W'.cell? ⟨p1.block,p1.off+1,none⟩=some (.int .i64 (k1:Int))/\Kq w0.heap.size w4 W') (first|exact sX _ (Kq.of_below (bel_drew1 (Below.refl _ _))) (bel_drew1 H4.out.1.bel)|exact sX _ (Kq.of_below ((bel_drew1 (Below.refl _ _)).trans hb6)) (H4.out.1.below ((bel_drew1 (Below.refl _ _)).trans hb6)).bel|exact sX _ ((Kq.of_below ((bel_drew1 (Below.refl _ _)).trans hb6)).trans k7) q7.bel|go_keep) (first|(go_at_call 115;refine(KR.out _).mono ?_;rintro e w6 ⟨rfl,hb6⟩)|(go_at_call 24;refine(HO.out.1 k1 R _ _ hB1 HO.out.2.2 (by omega) (by omega) (H4.out.1.below ((bel_drew1 (Below.refl _ _)).trans hb6)) (by have:=HS.out;rw[ByteArray.size_append,ByteArray.size_append];omega)).mono ?_;rintro e w7 ⟨rfl,q7,k7⟩))
  go_wp2_with fail
  go_end0
  refine⟨rfl,?_,(H4.out.2.trans (Kq.of_below ((bel_drew1 (Below.refl _ _)).trans hb6))).trans k7⟩
  rw[<-HX.out,<-ByteArray.append_assoc,<-ByteArray.append_assoc]
  exact q7
 ·have g1:(R==power)=false:=by simpa using hRp
  rw[if_neg hRp]at hlf
  have HLE:Hid (power=lf):=hlf
  clear hRp hlf
  go_enter Tryz.func76,Tryz.ntmps76
  go_wp2_with (go_at_call 115;fail)
  refine(KR.out _).mono ?_
  rintro e w2 ⟨rfl,hb2⟩
  obtain⟨b8,bp,ke⟩:=HRS.out w2 (HP.out.1.below hb2) (HP.out.2.1.trans (Kq.of_below hb2)) (HP.out.2.2.1.below hb2)
  clear hb2
  go_wp2_with (go_at_call 24;fail)
  rw[<-HLE.out]at ke
  refine ke.mono ?_
  rintro e w3 ⟨rfl,q3,k3,b3⟩
  rw[HLE.out]at q3
  have H3:Hid (Pr w0 vt (T++holdB ns E k0 lf) t w3/\Kq w0.heap.size w w3/\NdBox w.heap.size w3 44 N vn (.slice (some p1) L c1)):=⟨q3,k3,b3⟩
  clear q3 k3 b3 b8 bp
  go_wp2_with (go_at_call 12;fail)
  refine(say_any w0 vt _ sign t _ H3.out.1 (by have:=HS.out;rw[ByteArray.size_append];omega)).mono ?_
  rintro e w4 ⟨rfl,q4,k4⟩
  have b4:=k4.box H3.out.2.2 (by omega)
  have H4:Hid (Pr w0 vt (T++holdB ns E k0 lf++sign) t w4/\Kq w0.heap.size w w4):=⟨q4,H3.out.2.1.trans k4⟩
  have sX:=lim w4 b4
  have hlt4:=lt_of_block b4
  clear q4 k4 b4
  obtain⟨x0,x1,x2,x3,x4,x5,x6,x7,x8,xp,_⟩:=sX w4 (Kq.refl _ _) H4.out.1.bel
  go_wp2_with fail
  go_region_held3 (fun W'=>W'.cell? ⟨w.heap.size,0,none⟩=some (.int .i64 N.k)/\W'.cell? ⟨w.heap.size,1,none⟩=some (.int .i64 N.f)/\W'.cell? ⟨w.heap.size,2,none⟩=some (.int .i64 N.t)/\W'.cell? ⟨w.heap.size,3,none⟩=some (.int .i64 N.l)/\W'.cell? ⟨w.heap.size,4,none⟩=some (.int .i64 N.op)/\W'.cell? ⟨w.heap.size,5,none⟩=some (.int .i64 N.n)/\W'.cell? ⟨w.heap.size,6,none⟩=some (.string N.x)/\W'.cell? ⟨w.heap.size,7,none⟩=some vn/\W'.cell? ⟨w.heap.size,8,none⟩=some (.slice (some p1) L c1)/\W'.cell? ⟨p1.block,p1.off+1,none⟩=some (.int .i64 (k1:Int))/\Kq w0.heap.size w4 W') (first|exact sX _ (Kq.of_below (bel_drew1 (Below.refl _ _))) (bel_drew1 H4.out.1.bel)|exact sX _ (Kq.of_below ((bel_drew1 (Below.refl _ _)).trans hb6)) (H4.out.1.below ((bel_drew1 (Below.refl _ _)).trans hb6)).bel|exact sX _ ((Kq.of_below ((bel_drew1 (Below.refl _ _)).trans hb6)).trans k7) q7.bel|go_keep) (first|(go_at_call 115;refine(KR.out _).mono ?_;rintro e w6 ⟨rfl,hb6⟩)|(go_at_call 24;refine(HO.out.1 k1 R _ _ hB1 HO.out.2.2 (by omega) (by omega) (H4.out.1.below ((bel_drew1 (Below.refl _ _)).trans hb6)) (by have:=HS.out;rw[ByteArray.size_append,ByteArray.size_append];omega)).mono ?_;rintro e w7 ⟨rfl,q7,k7⟩))
  go_wp2_with fail
  go_end0
  refine⟨rfl,?_,(H4.out.2.trans (Kq.of_below ((bel_drew1 (Below.refl _ _)).trans hb6))).trans k7⟩
  rw[<-HX.out,<-ByteArray.append_assoc,<-ByteArray.append_assoc]
  exact q7
theorem catB_take (l:List ByteArray) (k:Nat) (x:ByteArray) (hk:l[k]?=some x):catB (l.take (k+1))=catB (l.take k)++x:=by
 obtain⟨h1,h2⟩:=List.getElem?_eq_some_iff.1 hk
 unfold catB
 rw[List.take_succ_eq_append_getElem h1,List.foldl_append,h2];rfl
theorem catB_le1 (l:List ByteArray) (k:Nat):(catB (l.take k)).size<=(catB (l.take (k+1))).size:=by
 by_cases h:k<l.length
 ·rw[catB_take l k _ (List.getElem?_eq_getElem h),ByteArray.size_append];omega
 ·rw[List.take_of_length_le (by omega),List.take_of_length_le (by omega)]
  exact Nat.le_refl _
theorem catB_le (l:List ByteArray) (k:Nat):(catB (l.take k)).size<=(catB l).size:=by
 have h:∀d,(catB (l.take k)).size<=(catB (l.take (k+d))).size:=by
  intro d
  induction d with
  |zero=>exact Nat.le_refl _
  |succ d ih=>exact Nat.le_trans ih (catB_le1 l (k+d))
 have:=h l.length
 rwa [List.take_of_length_le (show l.length<=k+l.length by omega)]at this
def OkS (w0:World) (vt:Value) (ns:List Nd) (S:Int->Nat->ByteArray) (B:Nat):Prop:=
 ∀(k tab:Nat) (T:ByteArray) (W:World),k<B->statK (nodeI ns k).k=true->tab+B<=500000->Pr w0 vt T tab W->T.size+(S k tab).size<=140737488355328->
  Calls Tryz.prog 11 #[.pointer (some ⟨w0.heap.size,0,none⟩),.int .i64 (k:Int)] W fun e w'=>e= .returned (.tuple #[])/\Pr w0 vt (T++S k tab) tab w'/\Kq w0.heap.size W w'
def StAll (ns:List Nd) (B:Nat) (ls:List Int):Prop:=∀z∈ls,∃k:Nat,z=(k:Int)/\k<B/\k<ns.length/\statK (nodeI ns k).k=true
theorem block_any (w0:World) (vt:Value) (ns:List Nd) (S:Int->Nat->ByteArray) (B:Nat) (hO:OkS w0 vt ns S B) (hNs:NdsAt w0 vt ns) (hln:ns.length<=1048576) (i:Nat) (hi:i<ns.length) (hA:StAll ns B (nodeI ns i).ks) (hl2:(nodeI ns i).ks.length<=1048576) (tab:Nat) (htab:tab+B<500000)
  (T:ByteArray) (w:World) (h:Pr w0 vt T tab w) (hl:T.size+(blB S (nodeI ns i).ks tab).size<=140737488355328):
  Calls Tryz.prog 21 #[.pointer (some ⟨w0.heap.size,0,none⟩),.int .i64 (i:Int)] w fun e w'=>e= .returned (.tuple #[])/\Pr w0 vt (T++blB S (nodeI ns i).ks tab) tab w'/\Kq w0.heap.size w w':=by
 have hn:=node_at hi
 obtain⟨a1,c1,rfl⟩:=hNs.form
 obtain⟨p1,rfl,vn2,vk1,g2⟩:=hNs.get hn
 obtain⟨z0,z2,zf⟩:=h.cells
 have e8:=cell_kept h.bel g2.c8
 have hks:=g2.hk
 obtain⟨ls,hls⟩:∃ls,(nodeI ns i).ks=ls:=⟨_,rfl⟩
 rw[hls]at hA hl2 hl hks⊢
 obtain⟨a2,c2,rfl⟩:=hks.form
 obtain⟨n,hN⟩:∃n,ns.length=n:=⟨_,rfl⟩
 obtain⟨L,hL⟩:∃L,ls.length=L:=⟨_,rfl⟩
 rw[hN]at z0 h hO hln hi⊢
 rw[hL]at e8 hks hl2
 have HP:Hid (Pr w0 (.slice (some p1) n c1) T tab w/\IntsAt w0 (.slice a2 L c2) ls/\StAll ns B ls/\OkS w0 (.slice (some p1) n c1) ns S B/\ls.length=L):=⟨h,hks,hA,hO,hL⟩
 have hki:(i:Int)<(n:Int):=by omega
 have hki0:(0:Int)<=(i:Int):=by omega
 obtain⟨X,hX⟩:∃X,blB S ls tab=X:=⟨_,rfl⟩
 rw[hX]at hl⊢
 clear h hNs g2 hn hA hO hks hls hN hL
 unfold blB at hX
 by_cases h0:ls=[]
 ·have hL0:L=0:=by have:=HP.out.2.2.2.2;rw[h0]at this;simpa using this.symm
  rw[if_pos h0]at hX
  subst hX hL0
  clear h0
  go_enter Tryz.func21,Tryz.ntmps21
  go_wp2_with (go_at_call 12;fail)
  refine(say_any w0 _ T _ _ _ HP.out.1 hl).mono ?_
  rintro e w2 ⟨rfl,q2,k2⟩
  go_wp2_with fail
  exact bodyPost_ret (results_none rfl _ _ _) rfl ⟨rfl,q2,k2⟩
 ·rw[if_neg h0]at hX
  have hL1:0<L:=by
   have:=HP.out.2.2.2.2
   cases ls with
   |nil=>exact absurd rfl h0
   |cons a r=>simp at this;omega
  have hLi:((L:Int)==0)=false:=by simp;omega
  obtain⟨l,hl0⟩:∃l,(ls.map fun k=>lineB (tab+1)++S k (tab+1))=l:=⟨_,rfl⟩
  rw[hl0]at hX
  have HX:Hid (⟨#[123]⟩++catB l++lineB tab++⟨#[125]⟩=X/\(ls.map fun k=>lineB (tab+1)++S k (tab+1))=l/\l.length=L):=⟨hX,hl0,by rw[<-hl0,List.length_map];exact HP.out.2.2.2.2⟩
  have hsz:T.size+(1+(catB l).size+(tab+1)+1)<=140737488355328:=by
   have e:X.size=1+(catB l).size+(tab+1)+1:=by rw[<-hX,ByteArray.size_append,ByteArray.size_append,ByteArray.size_append,lineB_size];rfl
   omega
  have HZ:Hid (T.size+(1+(catB l).size+(tab+1)+1)<=140737488355328):=hsz
  clear hX hl0 hl h0 hsz hL1
  go_enter Tryz.func21,Tryz.ntmps21
  go_wp2_with (go_at_call 12;fail)
  refine(say_any w0 _ T ⟨#[123]⟩ _ _ HP.out.1 (by have:=HZ.out;show T.size+1<=_;omega)).mono ?_
  rintro e w2 ⟨rfl,q2,k2⟩
  obtain⟨y0,y2,yf⟩:=q2.cells
  have y2f:=yf 2
  have q3:=q2.putTab ((tab:Int)+1)
  have H3:Hid (Pr w0 (.slice (some p1) n c1) (T++⟨#[123]⟩) ((tab+1:Nat):Int) (w2.setCell ⟨w0.heap.size,2,none⟩ (.int .i64 ((tab:Int)+1)))/\Kq w0.heap.size w (w2.setCell ⟨w0.heap.size,2,none⟩ (.int .i64 ((tab:Int)+1)))):=⟨by rw[show((tab+1:Nat):Int)=(tab:Int)+1 by omega];exact q3,k2.trans (Kq.putP _ _ _ _)⟩
  clear q2 k2 q3 yf
  go_wp2_with fail
  generalize w2.setCell ⟨w0.heap.size,2,none⟩ (.int .i64 ((tab:Int)+1))=W3 at H3⊢
  clear y0 y2 y2f z0 z2 zf e8
  go_loopw [32] (fun v wr=>∃k:Nat,k<=L/\v= .int .i64 k/\Hid (Pr w0 (.slice (some p1) n c1) (T++⟨#[123]⟩++catB (l.take k)) ((tab+1:Nat):Int) wr/\Kq w0.heap.size w wr)) (fun v _=>L-(intOf v).toNat)
  case atStart=>exact⟨0,by omega,rfl,by rw[show T++⟨#[123]⟩++catB (l.take 0)=T++⟨#[123]⟩ from ByteArray.append_empty];exact H3.out.1,H3.out.2⟩
  case round=>
   obtain⟨k,hk,rfl,HS⟩:=hrel
   by_cases hlt:k<L
   ·obtain⟨z,hsk⟩:=some_at HP.out.2.2.2.2 hlt
    obtain⟨q,rfl,hq1,hq2,hq3⟩:=HP.out.2.2.1 z (List.mem_of_getElem? hsk)
    obtain⟨a',rfl,cs⟩:=(HP.out.2.1.below HS.out.1.bel).get hsk
    have hkL:(k:Int)<(L:Int):=by omega
    have hk0:(0:Int)<=(k:Int):=by omega
    have hsl:l[k]?=some (lineB (tab+1)++S q (tab+1)):=by rw[<-HX.out.2.1,List.getElem?_map,hsk];rfl
    have h1:=catB_take l k _ hsl
    have h2:=catB_le l (k+1)
    have h3:(catB (l.take k)).size+(tab+2+(S q (tab+1)).size)<=(catB l).size:=by rw[h1,ByteArray.size_append,ByteArray.size_append,lineB_size]at h2;omega
    have HH:Hid (catB (l.take (k+1))=catB (l.take k)++(lineB (tab+1)++S q (tab+1))/\(catB (l.take k)).size+(tab+2+(S q (tab+1)).size)<=(catB l).size):=⟨h1,h3⟩
    have HQ:Hid (q<B/\statK (nodeI ns q).k=true):=⟨hq1,hq3⟩
    have hfin:k=0->wr.cell? a'=some (.int .i64 (q:Int)):=fun e=>by subst e;simpa [Addr.add] using cs
    clear h1 h2 h3 hsk hsl hq1 hq2 hq3
    have tail:∀w4,Pr w0 (.slice (some p1) n c1) (T++⟨#[123]⟩++catB (l.take k)++lineB (tab+1)) ((tab+1:Nat):Int) w4->Kq w0.heap.size wr w4->Calls Tryz.prog 11 #[.pointer (some ⟨w0.heap.size,0,none⟩),.int .i64 (q:Int)] w4 fun e w'=>e= .returned (.tuple #[])/\Hid (Pr w0 (.slice (some p1) n c1) (T++⟨#[123]⟩++catB (l.take (k+1))) ((tab+1:Nat):Int) w'/\Kq w0.heap.size w w'):=by
     intro w4 q4 k4
     refine(HP.out.2.2.2.1 q (tab+1) _ w4 HQ.out.1 HQ.out.2 (by omega) q4 (by have:=HH.out.2;have:=HZ.out;rw[ByteArray.size_append,ByteArray.size_append,ByteArray.size_append,lineB_size];show T.size+1+_+_+_<=_;omega)).mono ?_
     rintro e w5 ⟨rfl,q5,k5⟩
     refine⟨rfl,?_,(HS.out.2.trans k4).trans k5⟩
     rw[HH.out.1,<-ByteArray.append_assoc,<-ByteArray.append_assoc]
     exact q5
    have HT:Hid (∀w4,Pr w0 (.slice (some p1) n c1) (T++⟨#[123]⟩++catB (l.take k)++lineB (tab+1)) ((tab+1:Nat):Int) w4->Kq w0.heap.size wr w4->Calls Tryz.prog 11 #[.pointer (some ⟨w0.heap.size,0,none⟩),.int .i64 (q:Int)] w4 fun e w'=>e= .returned (.tuple #[])/\Hid (Pr w0 (.slice (some p1) n c1) (T++⟨#[123]⟩++catB (l.take (k+1))) ((tab+1:Nat):Int) w'/\Kq w0.heap.size w w')):=tail
    have kl:=line_any w0 (.slice (some p1) n c1) (T++⟨#[123]⟩++catB (l.take k)) (tab+1) wr HS.out.1 (by omega) (by have:=HH.out.2;have:=HZ.out;rw[ByteArray.size_append,ByteArray.size_append];show T.size+1+_+_<=_;omega)
    clear tail
    by_cases hk00:k=0
    ·subst hk00
     have cs0:=hfin rfl
     clear hfin
     go_wp2_with (go_at_call 74;fail)
     refine kl.mono ?_
     rintro e w4 ⟨rfl,q4,k4⟩
     have ks:=HT.out w4 q4 k4
     clear q4 k4 kl
     go_wp2_with (go_at_call 11;fail)
     refine ks.mono ?_
     rintro e w5 ⟨rfl,H5⟩
     go_wp2_with fail
     exact⟨⟨1,by omega,by go_num,H5⟩,by simp[intOf];omega⟩
    ·clear hfin
     go_wp2_with (go_at_call 74;fail)
     refine kl.mono ?_
     rintro e w4 ⟨rfl,q4,k4⟩
     have ks:=HT.out w4 q4 k4
     clear q4 k4 kl
     go_wp2_with (go_at_call 11;fail)
     refine ks.mono ?_
     rintro e w5 ⟨rfl,H5⟩
     go_wp2_with fail
     exact⟨⟨k+1,by omega,by go_num,H5⟩,by simp[intOf];omega⟩
   ·obtain rfl:k=L:=by omega
    obtain⟨y0,y2,yf⟩:=HS.out.1.cells
    have y2':wr.cell? ⟨w0.heap.size,2,none⟩=some (.int .i64 ((tab:Int)+1)):=by rw[y2];rw[show((tab+1:Nat):Int)=(tab:Int)+1 by omega]
    have y2f:=yf 2
    have q6:=HS.out.1.putTab (tab:Int)
    rw[List.take_of_length_le (by rw[HX.out.2.2];exact Nat.le_refl _)]at q6
    have H6:Hid (Pr w0 (.slice (some p1) n c1) (T++⟨#[123]⟩++catB l) (tab:Int) (wr.setCell ⟨w0.heap.size,2,none⟩ (.int .i64 (tab:Int)))/\Kq w0.heap.size w (wr.setCell ⟨w0.heap.size,2,none⟩ (.int .i64 (tab:Int)))):=⟨q6,HS.out.2.trans (Kq.putP _ _ _ _)⟩
    have es:(tab:Int)+1-1=(tab:Int):=by omega
    clear q6 y2 yf y0
    go_wp2_with (go_at_call 74;fail)
    generalize wr.setCell ⟨w0.heap.size,2,none⟩ (.int .i64 (tab:Int))=W6 at H6⊢
    refine(line_any w0 _ _ tab _ H6.out.1 (by omega) (by have:=HZ.out;rw[ByteArray.size_append,ByteArray.size_append];show T.size+1+_+_<=_;omega)).mono ?_
    rintro e w7 ⟨rfl,q7,k7⟩
    have H7:Hid (Pr w0 (.slice (some p1) n c1) (T++⟨#[123]⟩++catB l++lineB tab) (tab:Int) w7/\Kq w0.heap.size w w7):=⟨q7,H6.out.2.trans k7⟩
    clear q7 k7 y2' y2f
    go_wp2_with (go_at_call 12;fail)
    refine(say_any w0 _ _ ⟨#[125]⟩ _ _ H7.out.1 (by have:=HZ.out;rw[ByteArray.size_append,ByteArray.size_append,ByteArray.size_append,lineB_size];show T.size+1+_+_+1<=_;omega)).mono ?_
    rintro e w8 ⟨rfl,q8,k8⟩
    go_wp2_with fail
    go_end0
    refine⟨rfl,?_,H7.out.2.trans k8⟩
    rw[<-HX.out.1,<-ByteArray.append_assoc,<-ByteArray.append_assoc,<-ByteArray.append_assoc]
    exact q8
def Wr (w0:World) (vt:Value) (t:Int) (f:FuncId) (args:Array Value) (Y:ByteArray):Prop:=
 ∀(T':ByteArray) (W':World),Pr w0 vt T' t W'->T'.size+Y.size<=140737488355328->Calls Tryz.prog f args W' fun e w'=>e= .returned (.tuple #[])/\Pr w0 vt (T'++Y) t w'/\Kq w0.heap.size W' w'
abbrev pW (w0:World):Value:= .pointer (some ⟨w0.heap.size,0,none⟩)
abbrev boxN (N:Nd) (vn vk:Value):Obj:= .cells #[.int .i64 N.k,.int .i64 N.f,.int .i64 N.t,.int .i64 N.l,.int .i64 N.op,.int .i64 N.n,.string N.x,vn,vk] 44
structure NdR (w0:World) (p1:Addr) (i:Nat) (N:Nd) (an:Option Addr) (M cn:Nat) (ak:Option Addr) (L ck:Nat):Prop where
 nm:StrsAt w0 (.slice an M cn) N.nm
 ks:IntsAt w0 (.slice ak L ck) N.ks
 hM:N.nm.length=M
 hL:N.ks.length=L
 cap:L<=ck
 rd:∀W,Below w0.heap.size w0 W->NdAt W (p1.add (i*9)) N (.slice an M cn) (.slice ak L ck)
def KCap (w0:World) (p1:Addr) (ns:List Nd):Prop:=
 ∀i N a' c',ns[i]?=some N->w0.cell? ⟨(p1.add (i*9)).block,(p1.add (i*9)).off+8,none⟩=some (.slice a' N.ks.length c')->N.ks.length<=c'
theorem nd_in {w0:World}{p1:Addr}{n c1:Nat}{ns:List Nd}(hNs:NdsAt w0 (.slice (some p1) n c1) ns) (hc:KCap w0 p1 ns) {i:Nat}(hi:i<ns.length):∃an M cn ak L ck,NdR w0 p1 i (nodeI ns i) an M cn ak L ck:=by
 have hn:=node_at hi
 obtain⟨p',e,vn,vk,g⟩:=hNs.get hn
 cases e
 obtain⟨an,cn,rfl⟩:=g.hn.form
 obtain⟨ak,ck,rfl⟩:=g.hk.form
 exact⟨an,_,cn,ak,_,ck,g.hn,g.hk,rfl,rfl,hc i _ ak ck hn g.c8,fun W hb=>g.below hb⟩
structure Bx (w0:World) (vt:Value) (t:Int) (w:World) (N:Nd) (vn vk:Value) (T:ByteArray) (W:World):Prop where
 pr:Pr w0 vt T t W
 kq:Kq w0.heap.size w W
 bx:NdBox w.heap.size W 44 N vn vk
theorem Bx.new {w0:World}{vt:Value}{t:Int}{w:World}{T:ByteArray}(h:Pr w0 vt T t w) (N:Nd) (vn vk:Value):Bx w0 vt t w N vn vk T (w.alloc (boxN N vn vk)):=by
 have hb:Below w.heap.size w (w.alloc (boxN N vn vk)):=(Below.refl _ w).alloc (Nat.le_refl _) _
 exact⟨h.below hb,Kq.of_below hb,heap_alloc_new w _⟩
theorem Bx.next {w0:World}{vt:Value}{t:Int}{w:World}{N:Nd}{vn vk:Value}{T T2:ByteArray}{W W2:World}(h:Bx w0 vt t w N vn vk T W) (hlt:w0.heap.size<w.heap.size) (p:Pr w0 vt T2 t W2) (k:Kq w0.heap.size W W2):Bx w0 vt t w N vn vk T2 W2:=
 ⟨p,h.kq.trans k,k.box h.bx (by omega)⟩
theorem Bx.below {w0:World}{vt:Value}{t:Int}{w:World}{N:Nd}{vn vk:Value}{T:ByteArray}{W W2:World}(h:Bx w0 vt t w N vn vk T W) (b:Below W.heap.size W W2):Bx w0 vt t w N vn vk T W2:=
 ⟨h.pr.below b,h.kq.trans (Kq.of_below b),h.bx.below b⟩
theorem Bx.cells {w0:World}{vt:Value}{t:Int}{w:World}{N:Nd}{vn vk:Value}{T:ByteArray}{W:World}(h:Bx w0 vt t w N vn vk T W):W.cell? ⟨w.heap.size,0,none⟩=some (.int .i64 N.k)/\W.cell? ⟨w.heap.size,1,none⟩=some (.int .i64 N.f)/\W.cell? ⟨w.heap.size,2,none⟩=some (.int .i64 N.t)/\W.cell? ⟨w.heap.size,3,none⟩=some (.int .i64 N.l)/\W.cell? ⟨w.heap.size,4,none⟩=some (.int .i64 N.op)/\W.cell? ⟨w.heap.size,5,none⟩=some (.int .i64 N.n)/\W.cell? ⟨w.heap.size,6,none⟩=some (.string N.x)/\W.cell? ⟨w.heap.size,7,none⟩=some vn/\W.cell? ⟨w.heap.size,8,none⟩=some vk:=by
 obtain⟨b0,b1,b2,b3,b4,b5,b6,b7,b8,bf⟩:=nd_cells h.bx
 exact⟨b0,b1,b2,b3,b4,b5,b6,b7,b8⟩
theorem Bx.kid0 {w0:World}{vt:Value}{t:Int}{w:World}{N:Nd}{vn:Value}{pk:Addr}{L ck:Nat}{T:ByteArray}{W:World}(h:Bx w0 vt t w N vn (.slice (some pk) L ck) T W) (hks:IntsAt w0 (.slice (some pk) L ck) N.ks) {q:Int}(hq:N.ks[0]?=some q):W.cell? pk=some (.int .i64 q):=by
 obtain⟨p',e1,xp⟩:=(hks.below h.pr.bel).get hq
 cases e1
 simpa [Addr.add] using xp
theorem Bx.kid {w0:World}{vt:Value}{t:Int}{w:World}{N:Nd}{vn:Value}{pk:Addr}{L ck:Nat}{T:ByteArray}{W:World}(h:Bx w0 vt t w N vn (.slice (some pk) L ck) T W) (hks:IntsAt w0 (.slice (some pk) L ck) N.ks) {j:Nat}{q:Int}(hq:N.ks[j]?=some q) (hj:j≠0):W.cell? ⟨pk.block,pk.off+j,none⟩=some (.int .i64 q):=by
 obtain⟨p',e1,xp⟩:=(hks.below h.pr.bel).get hq
 cases e1
 exact add_cell xp hj
theorem Bx.name0 {w0:World}{vt:Value}{t:Int}{w:World}{N:Nd}{pn:Addr}{M cn:Nat}{vk:Value}{T:ByteArray}{W:World}(h:Bx w0 vt t w N (.slice (some pn) M cn) vk T W) (hnm:StrsAt w0 (.slice (some pn) M cn) N.nm) {s:ByteArray}(hs:N.nm[0]?=some s):W.cell? pn=some (.string s):=by
 obtain⟨p',e1,xp⟩:=(hnm.below h.pr.bel).get hs
 cases e1
 simpa [Addr.add] using xp
theorem IntsAt.ptr {W:World}{ak:Option Addr}{L ck:Nat}{l:List Int}(h:IntsAt W (.slice ak L ck) l) (hl:0<l.length):∃pk,ak=some pk:=by
 obtain⟨p',e,_⟩:=h.get (List.getElem?_eq_getElem hl)
 exact⟨p',e⟩
theorem StrsAt.ptr {W:World}{ak:Option Addr}{L ck:Nat}{l:List ByteArray}(h:StrsAt W (.slice ak L ck) l) (hl:0<l.length):∃pk,ak=some pk:=by
 obtain⟨p',e,_⟩:=h.get (List.getElem?_eq_getElem hl)
 exact⟨p',e⟩
theorem kid_lt {N:Nd}{j:Nat}{q:Int}(h:N.ks[j]?=some q):j<N.ks.length:=(List.getElem?_eq_some_iff.1 h).1
def Cel (W:World) (b:Nat) (N:Nd) (vn vk:Value):Prop:=W.cell? ⟨b,0,none⟩=some (.int .i64 N.k)/\W.cell? ⟨b,1,none⟩=some (.int .i64 N.f)/\W.cell? ⟨b,2,none⟩=some (.int .i64 N.t)/\W.cell? ⟨b,3,none⟩=some (.int .i64 N.l)/\W.cell? ⟨b,4,none⟩=some (.int .i64 N.op)/\W.cell? ⟨b,5,none⟩=some (.int .i64 N.n)/\W.cell? ⟨b,6,none⟩=some (.string N.x)/\W.cell? ⟨b,7,none⟩=some vn/\W.cell? ⟨b,8,none⟩=some vk
theorem add_add (a:Addr) (i j:Nat):(a.add i).add j=a.add (i+j):=by
 unfold Addr.add
 by_cases h1:i=0
 ·subst h1;simp
 ·by_cases h2:j=0
  ·subst h2;simp[h1]
  ·simp[h1,h2];omega
theorem IntsAt.take {W:World}{a:Option Addr}{n c:Nat}{l:List Int}(h:IntsAt W (.slice a n c) l) (k:Nat) (hk:k<=l.length):IntsAt W (.slice a k c) (l.take k):=by
 rcases h with⟨rfl,a',c',e⟩|⟨a',c',e,h2⟩
 ·have:k=0:=by simpa using hk
  subst this
  exact .inl ⟨rfl,a,c,rfl⟩
 ·cases e
  by_cases h0:k=0
  ·subst h0;exact .inl ⟨by simp,_,_,rfl⟩
  ·refine .inr ⟨a',c,by rw[List.length_take,Nat.min_eq_left hk],fun j z hz=>h2 j z ?_⟩
   rw[List.getElem?_take]at hz
   split at hz
   ·exact hz
   ·cases hz
theorem IntsAt.drop {W:World}{a:Addr}{n c c':Nat}{l:List Int}(h:IntsAt W (.slice (some a) n c) l) (k m:Nat) (hk:k<=l.length) (hm:m=l.length-k):IntsAt W (.slice (some (a.add k)) m c') (l.drop k):=by
 subst hm
 rcases h with⟨rfl,a2,c2,e⟩|⟨a2,c2,e,h2⟩
 ·exact .inl ⟨by simp,some (a.add k),c',by simp⟩
 ·cases e
  refine .inr ⟨a.add k,c',by rw[List.length_drop],fun j z hz=>?_⟩
  rw[List.getElem?_drop]at hz
  rw[add_add]
  exact h2 (k+j) z hz
end Go.Proofs.YtelfejiiabbpfaaGreatDoor
