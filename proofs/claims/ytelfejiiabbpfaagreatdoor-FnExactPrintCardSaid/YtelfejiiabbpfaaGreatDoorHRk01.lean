import Derived.Test.YtelfejiiabbpfaaGreatDoorProg
import Derived.WalkKit
import Derived.WalkSpells
import Derived.StillTactics
import Derived.OwnWalk
import Derived.Laws.Pointers
import Derived.Deep.RegionHeld3
import Derived.Deep.AppendLies
import Derived.KernelRfl
import Derived.Laws.BytesString
import Derived.Deep.QuietTactic
import Derived.BigQuiet
import Derived.OneCell
import Derived.Lib.Bytealg
import Derived.BigRegion
import Derived.Maps.Own
set_option linter.unusedVariables false
set_option maxRecDepth 100000
set_option maxHeartbeats 1600000
namespace Go.Proofs.YtelfejiiabbpfaaGreatDoor
open Go.RowKit
theorem Tryz.info5:(Tryz.prog.info? 5).map (fun i=>(i.zero,i.size,i.bytes))=some (some (.int .u8 0),1,1):=by kernel_rfl
def B8 (l:List Int):List Value:=l.map (Value.int .u8)
theorem B8_app (a b:List Int):B8 (a++b)=B8 a++B8 b:=by simp[B8]
theorem B8_len (a:List Int):(B8 a).length=a.length:=by simp[B8]
theorem own_len {w:World}{base n:Nat}{v:Value}{l:List Int}(h:w.ownsRow base 5 1 v n (B8 l)):l.length=n:=by
 have:=h.1;simpa [B8] using this
theorem ap_law {ops:Array Oper}{rest:List Oper}{o:Oper}{a:Act}{Q:Exit->Act->World->Prop}{w:World}(hgd:o.guard=none) (s x:Operand)
  (ho:o.op= .call {callee:= .builtin .append,args:=#[s,x],argTypes:=#[38,38]}) (base:Nat) (v:Value) (n:Nat) (l:List Int) (hs:a.eval s=v)
  (hown:w.ownsRow base 5 1 v n (B8 l)) (hbase:base<=w.heap.size) (hn:n<=100000) (news:List Int) (m:Nat) (hm:news.length=m) (hm0:0<m) (hm1:m<=100) (cs:Array Value) (hcs:cs.toList=B8 news)
  (hx:a.eval x= .slice (some ⟨w.heap.size,0,none⟩) m m)
  (h:∀g cap w1,w1.ownsRow base 5 1 (.slice (some ⟨g,0,none⟩) (n+m) cap) (n+m) (B8 (l++news))->Below base w w1->wpList Tryz.prog ops Q rest (a.put o.dst (.slice (some ⟨g,0,none⟩) (n+m) cap)) w1):
  wpList Tryz.prog ops Q (o::rest) a (w.alloc (.cells cs 5)):=by
 obtain⟨i0,hi0,hz0,hz1,hz2⟩:=info_parts Tryz.info5
 refine wpList_append_lies _ hgd s x 38 ho base 5 i0 (.int .u8 0) 1 1 Tryz.underlying38 hi0 hz0 hz1 hz2 rfl (by decide) v n (B8 l) hs (hown.alloc _) ⟨w.heap.size,0,none⟩ m m (B8 news) hx (by simp[B8,hm])
  (by rw[<-hcs];exact World.news_of_block (fr:=(0,0)) (heap_alloc_new w _)) (by intro u hu;simp[B8]at hu;obtain⟨q,_,rfl⟩:=hu;rfl) hm0 (by unfold maxLen;omega) (by omega) (by simp;omega) (w.heap.size+1) (by simp) ?_
 intro g cap w1 hown1 hgrow _ _
 refine h g cap w1 (by rw[B8_app];exact hown1) (((Below.refl base w).alloc hbase _).grown hgrow (by simp;omega) (fun k hk=>(hown.lt k hk).1))
def hexd (d:Int):Int:=if d<10 then 48+d else 87+d
def esc (c:Int):List Int:=if c=10 then [92,110] else if c=9 then [92,116] else if c=34\/c=92 then [92,c] else if c<32\/126<c then [92,120,hexd (c / 16),hexd (c%16)] else [c]
theorem el_nl (v:Value) (n base:Nat) (l:List Int) (w:World) (hown:w.ownsRow base 5 1 v n (B8 l)) (hbase:base<=w.heap.size) (hn:n<=100000):
  Calls Tryz.prog 134 #[v,.int .u8 10] w fun e w'=>∃g cap,e= .returned (.slice (some ⟨g,0,none⟩) (n+2) cap)/\
   w'.ownsRow base 5 1 (.slice (some ⟨g,0,none⟩) (n+2) cap) (n+2) (B8 (l++[92,110]))/\Below base w w':=by
 go_enter Tryz.func134,Tryz.ntmps134
 go_wp2_with (at_builtin;refine ap_law rfl (.tmp 8) (.tmp 9) rfl base v n l rfl hown hbase hn [92,110] 2 rfl (by decide) (by decide) _ rfl rfl ?_;intro g cap w1 hown1 hb1)
 go_wp2
 go_ret
 exact⟨g,cap,rfl,hown1,hb1⟩
theorem el_tab (v:Value) (n base:Nat) (l:List Int) (w:World) (hown:w.ownsRow base 5 1 v n (B8 l)) (hbase:base<=w.heap.size) (hn:n<=100000):
  Calls Tryz.prog 134 #[v,.int .u8 9] w fun e w'=>∃g cap,e= .returned (.slice (some ⟨g,0,none⟩) (n+2) cap)/\
   w'.ownsRow base 5 1 (.slice (some ⟨g,0,none⟩) (n+2) cap) (n+2) (B8 (l++[92,116]))/\Below base w w':=by
 go_enter Tryz.func134,Tryz.ntmps134
 go_wp2_with (at_builtin;refine ap_law rfl (.tmp 14) (.tmp 15) rfl base v n l rfl hown hbase hn [92,116] 2 rfl (by decide) (by decide) _ rfl rfl ?_;intro g cap w1 hown1 hb1)
 go_wp2
 go_ret
 exact⟨g,cap,rfl,hown1,hb1⟩
theorem el_esc (v:Value) (n base:Nat) (l:List Int) (c:Int) (hc:c=34\/c=92) (w:World) (hown:w.ownsRow base 5 1 v n (B8 l)) (hbase:base<=w.heap.size) (hn:n<=100000):
  Calls Tryz.prog 134 #[v,.int .u8 c] w fun e w'=>∃g cap,e= .returned (.slice (some ⟨g,0,none⟩) (n+2) cap)/\
   w'.ownsRow base 5 1 (.slice (some ⟨g,0,none⟩) (n+2) cap) (n+2) (B8 (l++[92,c]))/\Below base w w':=by
 rcases hc with rfl|rfl
 ·go_enter Tryz.func134,Tryz.ntmps134
  go_wp2_with (at_builtin;refine ap_law rfl (.tmp 24) (.tmp 26) rfl base v n l rfl hown hbase hn [92,34] 2 rfl (by decide) (by decide) _ rfl rfl ?_;intro g cap w1 hown1 hb1)
  go_wp2
  go_ret
  exact⟨g,cap,rfl,hown1,hb1⟩
 ·go_enter Tryz.func134,Tryz.ntmps134
  go_wp2_with (at_builtin;refine ap_law rfl (.tmp 24) (.tmp 26) rfl base v n l rfl hown hbase hn [92,92] 2 rfl (by decide) (by decide) _ rfl rfl ?_;intro g cap w1 hown1 hb1)
  go_wp2
  go_ret
  exact⟨g,cap,rfl,hown1,hb1⟩
theorem el_self (v:Value) (n base:Nat) (l:List Int) (c:Int) (h1:32<=c) (h2:c<=126) (h3:(c==34)=false) (h4:(c==92)=false) (w:World) (hown:w.ownsRow base 5 1 v n (B8 l)) (hbase:base<=w.heap.size) (hn:n<=100000):
  Calls Tryz.prog 134 #[v,.int .u8 c] w fun e w'=>∃g cap,e= .returned (.slice (some ⟨g,0,none⟩) (n+1) cap)/\
   w'.ownsRow base 5 1 (.slice (some ⟨g,0,none⟩) (n+1) cap) (n+1) (B8 (l++[c]))/\Below base w w':=by
 go_enter Tryz.func134,Tryz.ntmps134
 go_wp2_with (at_builtin;refine ap_law rfl (.tmp 44) (.tmp 46) rfl base v n l rfl hown hbase hn [c] 1 rfl (by decide) (by decide) _ rfl rfl ?_;intro g cap w1 hown1 hb1)
 go_wp2
 go_ret
 exact⟨g,cap,rfl,hown1,hb1⟩
def DG:ByteArray:=⟨#[48,49,50,51,52,53,54,55,56,57,97,98,99,100,101,102]⟩
theorem DG_nat:∀i:Fin 16,((DG[i.val]'(by have:=i.isLt;exact this)).toNat:Int)=hexd (i.val:Int):=by decide
theorem DG_at (d:Int) (h0:0<=d) (h1:d<16) (h:d.toNat<DG.size):((DG[d.toNat]'h).toNat:Int)=hexd d:=by
 have:=DG_nat ⟨d.toNat,by omega⟩
 have e:((d.toNat:Nat):Int)=d:=by omega
 simp only[e]at this
 exact this
theorem DG_run (d:Int) (h0:0<=d) (h1:d<16) (w:World):(Instr.index 9 (.string ⟨#[48,49,50,51,52,53,54,55,56,57,97,98,99,100,101,102]⟩) (.int .u8 d)).run Tryz.prog w= .ok (.int .u8 (hexd d)) w:=by
 have h:d.toNat<DG.size:=by simp only[DG];show d.toNat<16;omega
 have q:=DG_at d h0 h1 h
 go_simp
 exact q
theorem low4 (c:Int) (h0:0<=c) (h1:c<256):bits .and .u8 c 15=c%16:=by
 have:=bits_mask .u8 8 (by decide) wraps_u8 4 (by decide) c h0 h1
 simpa using this
theorem ap_step {ops:Array Oper}{o:Oper}{a:Act}{K:Act->World->Prop}{Q:Exit->Act->World->Prop}{E:Prop}{w:World}(hgd:o.guard=none) (s x:Operand)
  (ho:o.op= .call {callee:= .builtin .append,args:=#[s,x],argTypes:=#[38,38]}) (base:Nat) (v:Value) (n:Nat) (l:List Int) (hs:a.eval s=v)
  (hown:w.ownsRow base 5 1 v n (B8 l)) (hbase:base<=w.heap.size) (hn:n<=100000) (news:List Int) (m:Nat) (hm:news.length=m) (hm0:0<m) (hm1:m<=100) (cs:Array Value) (hcs:cs.toList=B8 news)
  (hx:a.eval x= .slice (some ⟨w.heap.size,0,none⟩) m m)
  (h:∀g cap w1,w1.ownsRow base 5 1 (.slice (some ⟨g,0,none⟩) (n+m) cap) (n+m) (B8 (l++news))->Below base w w1->K (a.put o.dst (.slice (some ⟨g,0,none⟩) (n+m) cap)) w1):
  if Region.wanted o (yielded ops a.tmps)=true then Oper.wp Tryz.prog o a (w.alloc (.cells cs 5)).drew K Q else E:=by
 obtain⟨i0,hi0,hz0,hz1,hz2⟩:=info_parts Tryz.info5
 refine step_append_lies _ hgd s x 38 ho base 5 i0 (.int .u8 0) 1 1 Tryz.underlying38 hi0 hz0 hz1 hz2 rfl (by decide) v n (B8 l) hs ((hown.alloc _).drew) ⟨w.heap.size,0,none⟩ m m (B8 news) hx (by simp[B8,hm])
  (by rw[<-hcs];exact World.news_of_block (fr:=(0,0)) (heap_alloc_new w _)) (by intro u hu;simp[B8]at hu;obtain⟨q,_,rfl⟩:=hu;rfl) hm0 (by unfold maxLen;omega) (by omega) (by simp;omega) (w.heap.size+1) (by simp) ?_
 intro g cap w1 hown1 hgrow _ _
 refine h g cap w1 (by rw[B8_app];exact hown1) ((((Below.refl base w).alloc hbase _).drew).grown hgrow (by simp;omega) (fun k hk=>(hown.lt k hk).1))
theorem el_hex (v:Value) (n base:Nat) (l:List Int) (c:Int) (h0:0<=c) (h1:c<32) (h3:(c==10)=false) (h4:(c==9)=false) (h5:(c==34)=false) (h6:(c==92)=false) (w:World) (hown:w.ownsRow base 5 1 v n (B8 l)) (hbase:base<=w.heap.size) (hn:n<=100000):
  Calls Tryz.prog 134 #[v,.int .u8 c] w fun e w'=>∃g cap,e= .returned (.slice (some ⟨g,0,none⟩) (n+4) cap)/\
   w'.ownsRow base 5 1 (.slice (some ⟨g,0,none⟩) (n+4) cap) (n+4) (B8 (l++[92,120,hexd (c / 16),hexd (c%16)]))/\Below base w w':=by
 have i1:=DG_run (c / 16) (by omega) (by omega)
 have i2:=DG_run (c%16) (by omega) (by omega)
 have hbit:bits .and .u8 c 15=c%16:=low4 c h0 (by omega)
 have a1:0<=c / 16:=by omega
 have a2:c / 16<16:=by omega
 have a3:0<=c%16:=by omega
 have a4:c%16<16:=by omega
 go_enter Tryz.func134,Tryz.ntmps134
 go_wp2_with fail
 go_region_held3 (fun w'=>True) (trivial) ((refine ap_step (by rfl) _ _ (by rfl) base v n l (by rfl) hown hbase hn [92,120,_,_] 4 (by rfl) (by decide) (by decide) _ (by rfl) (by rfl) ?_;intro g cap w1 hown1 hb1))
 all_goals
  go_wp2
  go_ret
  exact⟨_,_,rfl,by assumption,by assumption⟩
theorem el_hexhi (v:Value) (n base:Nat) (l:List Int) (c:Int) (h1:126<c) (h2:c<256) (h3:(c==10)=false) (h4:(c==9)=false) (h5:(c==34)=false) (h6:(c==92)=false) (w:World) (hown:w.ownsRow base 5 1 v n (B8 l)) (hbase:base<=w.heap.size) (hn:n<=100000):
  Calls Tryz.prog 134 #[v,.int .u8 c] w fun e w'=>∃g cap,e= .returned (.slice (some ⟨g,0,none⟩) (n+4) cap)/\
   w'.ownsRow base 5 1 (.slice (some ⟨g,0,none⟩) (n+4) cap) (n+4) (B8 (l++[92,120,hexd (c / 16),hexd (c%16)]))/\Below base w w':=by
 have i1:=DG_run (c / 16) (by omega) (by omega)
 have i2:=DG_run (c%16) (by omega) (by omega)
 have hbit:bits .and .u8 c 15=c%16:=low4 c (by omega) h2
 have a1:0<=c / 16:=by omega
 have a2:c / 16<16:=by omega
 have a3:0<=c%16:=by omega
 have a4:c%16<16:=by omega
 go_enter Tryz.func134,Tryz.ntmps134
 go_wp2_with fail
 go_region_held3 (fun w'=>True) (trivial) ((refine ap_step (by rfl) _ _ (by rfl) base v n l (by rfl) hown hbase hn [92,120,_,_] 4 (by rfl) (by decide) (by decide) _ (by rfl) (by rfl) ?_;intro g cap w1 hown1 hb1))
 all_goals
  go_wp2
  go_ret
  exact⟨_,_,rfl,by assumption,by assumption⟩
theorem el_any (v:Value) (n base:Nat) (l:List Int) (c:Int) (h0:0<=c) (h1:c<256) (w:World) (hown:w.ownsRow base 5 1 v n (B8 l)) (hbase:base<=w.heap.size) (hn:n<=100000):
  Calls Tryz.prog 134 #[v,.int .u8 c] w fun e w'=>∃g cap,e= .returned (.slice (some ⟨g,0,none⟩) (n+(esc c).length) cap)/\
   w'.ownsRow base 5 1 (.slice (some ⟨g,0,none⟩) (n+(esc c).length) cap) (n+(esc c).length) (B8 (l++esc c))/\Below base w w':=by
 by_cases e1:c=10
 ·subst e1;exact el_nl v n base l w hown hbase hn
 by_cases e2:c=9
 ·subst e2;exact el_tab v n base l w hown hbase hn
 by_cases e3:c=34\/c=92
 ·have:esc c=[92,c]:=by unfold esc;rw[if_neg e1,if_neg e2,if_pos e3]
  rw[this];exact el_esc v n base l c e3 w hown hbase hn
 by_cases e4:c<32\/126<c
 ·have:esc c=[92,120,hexd (c / 16),hexd (c%16)]:=by unfold esc;rw[if_neg e1,if_neg e2,if_neg e3,if_pos e4]
  rw[this]
  rcases e4 with e4|e4
  ·exact el_hex v n base l c h0 e4 (by simp[e1]) (by simp[e2]) (by simp;omega) (by simp;omega) w hown hbase hn
  ·exact el_hexhi v n base l c e4 h1 (by simp[e1]) (by simp[e2]) (by simp;omega) (by simp;omega) w hown hbase hn
 ·have:esc c=[c]:=by unfold esc;rw[if_neg e1,if_neg e2,if_neg e3,if_neg e4]
  rw[this];exact el_self v n base l c (by omega) (by omega) (by simp;omega) (by simp;omega) w hown hbase hn
def strI (l:List Int):ByteArray:=l.foldl (fun r n=>r.push (UInt8.ofNat n.toNat)) ByteArray.empty
theorem conv_own {w:World}{base g n cap:Nat}{l:List Int}(hown:w.ownsRow base 5 1 (.slice (some ⟨g,0,none⟩) n cap) n (B8 l)):
  (convert 38 9 (.slice (some ⟨g,0,none⟩) n cap)).run Tryz.prog w= .ok (.string (strI l)) w:=by
 rw[run_convert_bytes_string w 38 9 5 _ _ _ Tryz.underlying38 Tryz.underlying5 Tryz.underlying9]
 have hn:=own_len hown
 refine run_bytesToString w _ n cap l ?_
 rcases hown.2 with⟨h,_⟩|⟨g',cap',cur,hv,_,hh,_,_,hsz,htk⟩
 ·cases h
 ·cases hv
  have:=run_loadCells_list (P:=Tryz.prog) w ⟨g,0,none⟩ (B8 l) (fun j u hj=>by
   refine World.news_of_block hh j u ?_
   rw[<-htk]at hj
   rw[List.getElem?_take]at hj
   split at hj
   ·exact hj
   ·cases hj)
  rw[B8_len,hn]at this
  exact this
theorem own_first (w:World) (c:Int):(w.alloc (.cells #[.int .u8 c] 5)).ownsRow w.heap.size 5 1 (.slice (some ⟨w.heap.size,0,none⟩) 1 1) 1 (B8 [c]):=
 ⟨rfl,.inr ⟨w.heap.size,1,#[.int .u8 c],rfl,Nat.le_refl _,heap_alloc_new w _,Nat.le_refl _,by unfold maxLen;omega,rfl,rfl⟩⟩
theorem esc_len (c:Int):(esc c).length<=4:=by
 unfold esc;split
 ·decide
 split
 ·decide
 split
 ·simp
 split<;>simp
def qt (s:ByteArray) (k:Nat):List Int:=34::(s.data.toList.take k).flatMap fun b=>esc (b.toNat:Int)
theorem qt_succ (s:ByteArray) (k:Nat) (h:k<s.size):qt s (k+1)=qt s k++esc (s[k].toNat:Int):=by
 unfold qt
 rw[List.take_succ_eq_append_getElem (by simpa using h)]
 simp only[List.flatMap_append,List.flatMap_cons,List.flatMap_nil,List.append_nil,List.cons_append]
 rfl
theorem qt_len (s:ByteArray):∀k,k<=s.size->(qt s k).length<=1+4*k
 |0,_=>by simp[qt]
 |k+1,h=>by
  have:=qt_len s k (by omega)
  have h4:=esc_len (s[k].toNat:Int)
  rw[qt_succ s k (by omega),List.length_append]
  omega
def quoteI (s:ByteArray):List Int:=qt s s.size++[34]
theorem implQuote (s:ByteArray) (hs:s.size<=4000) (w:World):
  Calls Tryz.prog 97 #[.string s] w fun e w'=>e= .returned (.string (strI (quoteI s)))/\Below w.heap.size w w':=by
 go_enter Tryz.func97,Tryz.ntmps97
 go_wp2_with fail
 go_loopw [3,11] (fun v i wr=>∃k n:Nat,k<=s.size/\i= .int .i64 k/\wr.ownsRow w.heap.size 5 1 v n (B8 (qt s k))/\Below w.heap.size w wr) (fun _ i _=>s.size-(intOf i).toNat)
 case atStart=>exact⟨0,1,Nat.zero_le _,rfl,own_first w 34,(Below.refl _ _).alloc (Nat.le_refl _) _⟩
 case round=>
  obtain⟨k,n,hk,rfl,hown,hbel⟩:=hrel
  have hlen:=own_len hown
  have hql:=qt_len s k hk
  have hn:n<=20000:=by omega
  clear hlen hql
  by_cases hlt:k<s.size
  ·have hsn:Hid (qt s (k+1)=qt s k++esc (s[k].toNat:Int)):=qt_succ s k hlt
   have hbyte:(s[k].toNat:Int)<256:=by have:=s[k].toNat_lt;omega
   go_wp2_with (go_at_call 134;refine(el_any _ n w.heap.size (qt s k) _ (by omega) (by omega) _ hown hbel.size (by omega)).mono ?_;rintro e w' ⟨g,cap,rfl,hown1,hb1⟩)
   go_roundw
   case rel=>exact⟨k+1,_,by omega,by go_num,by rw[hsn.out];exact hown1,hbel.trans hb1⟩
   case measure=>simp[intOf];omega
  ·have hk':k=s.size:=by omega
   subst hk'
   go_wp2_with (at_builtin;refine ap_law rfl (.tmp 20) (.tmp 21) rfl w.heap.size _ n (qt s s.size) rfl hown hbel.size (by omega) [34] 1 rfl (by decide) (by decide) _ rfl rfl ?_;intro g cap w1 hown1 hb1;have kc:=conv_own hown1)
   go_ret
   exact⟨rfl,hbel.trans hb1⟩
def Code (base:Nat) (w:World) (a0:Option Addr) (len:Nat):Prop:=
 len=0\/∃bx ox,a0=some ⟨bx,ox,none⟩/\bx<base/\∀i,i<len->∃z:Int,0<=z/\z<256/\w.cell? ⟨bx,ox+i,none⟩=some (.int .u8 z)
theorem Code.below {base:Nat}{w w':World}{a0:Option Addr}{len:Nat}(h:Code base w a0 len) (hb:Below base w w'):Code base w' a0 len:=by
 rcases h with h|⟨bx,ox,e,hlt,hc⟩
 ·exact .inl h
 ·exact .inr ⟨bx,ox,e,hlt,fun i hi=>by obtain⟨z,z0,z1,hz⟩:=hc i hi;exact⟨z,z0,z1,(hb.cell (p:=⟨bx,ox+i,none⟩) hlt).trans hz⟩⟩
def lettB (c:Int):Bool:=decide ((97<=c/\c<=122)\/(65<=c/\c<=90)\/c=95)
def digB (c:Int):Bool:=decide (48<=c/\c<=57)
theorem isDigit_any (c:Int) (w:World):Calls Tryz.prog 159 #[.int .u8 c] w fun e w'=>e= .returned (.bool (digB c))/\w=w':=by
 rcases(show c<48\/57<c\/(48<=c/\c<=57) by omega) with h|h|⟨h1,h2⟩
 ·have e:digB c=false:=by simp[digB];omega
  rw[e];clear e
  have h':¬48<=c:=by omega
  go_enter Tryz.func159,Tryz.ntmps159
  go_wp2
  go_ret
  exact⟨rfl,rfl⟩
 ·have e:digB c=false:=by simp[digB];omega
  rw[e];clear e
  have h':¬c<=57:=by omega
  have h2:48<=c:=by omega
  go_enter Tryz.func159,Tryz.ntmps159
  go_wp2
  go_ret
  exact⟨rfl,rfl⟩
 ·have e:digB c=true:=by simp[digB];omega
  rw[e];clear e
  go_enter Tryz.func159,Tryz.ntmps159
  go_wp2
  go_ret
  exact⟨rfl,rfl⟩
theorem isLetter_any (c:Int) (w:World):Calls Tryz.prog 179 #[.int .u8 c] w fun e w'=>e= .returned (.bool (lettB c))/\w=w':=by
 rcases(show(97<=c/\c<=122)\/(65<=c/\c<=90)\/c=95\/c<65\/(90<c/\c<97/\c≠95)\/122<c by omega) with⟨h1,h2⟩|⟨h1,h2⟩|rfl|h|⟨h1,h2,h3⟩|h
 ·have e:lettB c=true:=by simp[lettB];omega
  rw[e];clear e
  go_enter Tryz.func179,Tryz.ntmps179
  go_wp2
  go_ret
  exact⟨rfl,rfl⟩
 ·have e:lettB c=true:=by simp[lettB];omega
  rw[e];clear e
  have g1:¬97<=c:=by omega
  go_enter Tryz.func179,Tryz.ntmps179
  go_wp2
  go_ret
  exact⟨rfl,rfl⟩
 ·go_enter Tryz.func179,Tryz.ntmps179
  go_wp2
  go_ret
  exact⟨rfl,rfl⟩
 ·have e:lettB c=false:=by simp[lettB];omega
  rw[e];clear e
  have g1:¬97<=c:=by omega
  have g2:¬65<=c:=by omega
  have g3:(c==95)=false:=by simp;omega
  go_enter Tryz.func179,Tryz.ntmps179
  go_wp2
  go_ret
  exact⟨rfl,rfl⟩
 ·have e:lettB c=false:=by simp[lettB];omega
  rw[e];clear e
  have g1:¬97<=c:=by omega
  have g2:65<=c:=by omega
  have g4:¬c<=90:=by omega
  have g3:(c==95)=false:=by simp;omega
  go_enter Tryz.func179,Tryz.ntmps179
  go_wp2
  go_ret
  exact⟨rfl,rfl⟩
 ·have e:lettB c=false:=by simp[lettB];omega
  rw[e];clear e
  have g1:97<=c:=by omega
  have g2:¬c<=122:=by omega
  have g4:65<=c:=by omega
  have g5:¬c<=90:=by omega
  have g3:(c==95)=false:=by simp;omega
  go_enter Tryz.func179,Tryz.ntmps179
  go_wp2
  go_ret
  exact⟨rfl,rfl⟩
def hexv (c:Int):Int:=if 48<=c/\c<=57 then c-48 else if 97<=c/\c<=102 then c-87 else -1
def bat (s:ByteArray) (i:Nat):Int:=if h:i<s.size then(s[i].toNat:Int) else -1
theorem bat_in {s:ByteArray}{i:Nat}(h:i<s.size):0<=bat s i/\bat s i<256:=by
 unfold bat;rw[dif_pos h];have:=s[i].toNat_lt;omega
theorem bat_out {s:ByteArray}{i:Nat}(h:¬i<s.size):bat s i= -1:=by unfold bat;rw[dif_neg h]
theorem idx_run {s:ByteArray}{i:Nat}(h:i<s.size) (w:World):(Instr.index 9 (.string s) (.int .i64 (i:Int))).run Tryz.prog w= .ok (.int .u8 (bat s i)) w:=by
 unfold bat;rw[dif_pos h];go_simp
theorem hexv_lt (c:Int):hexv c<16:=by unfold hexv;split;omega;split<;>omega
def TkAt (b:Nat) (w:World) (k f t l n:Int) (x:ByteArray):Prop:=
 w.heap[b]?=some (.cells #[.int .i64 k,.int .i64 f,.int .i64 t,.int .i64 l,.int .i64 n,.string x] 169 (0,0))
theorem tk_cells {b:Nat}{w:World}{k f t l n:Int}{x:ByteArray}(h:TkAt b w k f t l n x):
  w.cell? ⟨b,0,none⟩=some (.int .i64 k)/\w.cell? ⟨b,1,none⟩=some (.int .i64 f)/\w.cell? ⟨b,2,none⟩=some (.int .i64 t)/\w.cell? ⟨b,3,none⟩=some (.int .i64 l)/\w.cell? ⟨b,4,none⟩=some (.int .i64 n)/\w.cell? ⟨b,5,none⟩=some (.string x)/\
  (∀j,w.frozen? ⟨b,j,none⟩=false):=by
 unfold TkAt at h
 exact⟨by rw[cell_of_row _ _ _ _ _ _ h];rfl,by rw[cell_of_row _ _ _ _ _ _ h];rfl,by rw[cell_of_row _ _ _ _ _ _ h];rfl,by rw[cell_of_row _ _ _ _ _ _ h];rfl,by rw[cell_of_row _ _ _ _ _ _ h];rfl,by rw[cell_of_row _ _ _ _ _ _ h];rfl,fun j=>frozen_of_row _ _ _ _ _ h⟩
theorem TkAt.other {b:Nat}{w:World}{k f t l n:Int}{x:ByteArray}(h:TkAt b w k f t l n x) {a:Addr}(ha:b≠a.block) (v:Value):TkAt b (w.setCell a v) k f t l n x:=(heap_setCell_other w a b v ha).trans h
theorem TkAt.drewN {b:Nat}{w:World}{k f t l n:Int}{x:ByteArray}(h:TkAt b w k f t l n x) (q:Nat):TkAt b (w.drewN q) k f t l n x:=h
theorem TkAt.below {B b:Nat}{w w':World}{k f t l n:Int}{x:ByteArray}(h:TkAt b w k f t l n x) (hb:Below B w w') (hlt:b<B):TkAt b w' k f t l n x:=(hb.block b hlt).trans h
theorem TkAt.setKind {b:Nat}{w:World}{k f t l n:Int}{x:ByteArray}(h:TkAt b w k f t l n x) (y:Int):TkAt b (w.setCell ⟨b,0,none⟩ (.int .i64 y)) y f t l n x:=heap_setCell_same w b 0 _ _ _ h
theorem TkAt.setTo {b:Nat}{w:World}{k f t l n:Int}{x:ByteArray}(h:TkAt b w k f t l n x) (y:Int):TkAt b (w.setCell ⟨b,2,none⟩ (.int .i64 y)) k f y l n x:=heap_setCell_same w b 2 _ _ _ h
structure Fr2 (b t:Nat) (w w':World):Prop where
 os:w'.os=w.os
 tape:w'.tape=w.tape
 output:w'.output=w.output
 size:w.heap.size<=w'.heap.size
 block:∀k,k<w.heap.size->k≠b->k≠t->w'.heap[k]?=w.heap[k]?
theorem Fr2.refl (b t:Nat) (w:World):Fr2 b t w w:=⟨rfl,rfl,rfl,Nat.le_refl _,fun _ _ _ _=>rfl⟩
theorem Fr2.trans {b t:Nat}{x y z:World}(h:Fr2 b t x y) (k:Fr2 b t y z):Fr2 b t x z:=
 ⟨k.os.trans h.os,k.tape.trans h.tape,k.output.trans h.output,Nat.le_trans h.size k.size,fun i hi h1 h2=>(k.block i (Nat.lt_of_lt_of_le hi h.size) h1 h2).trans (h.block i hi h1 h2)⟩
theorem Fr2.drewN {b t:Nat}{x y:World}(h:Fr2 b t x y) (n:Nat):Fr2 b t x (y.drewN n):=⟨h.os,h.tape,h.output,h.size,h.block⟩
theorem Fr2.drew {b t:Nat}{x y:World}(h:Fr2 b t x y):Fr2 b t x y.drew:=⟨h.os,h.tape,h.output,h.size,h.block⟩
theorem Fr2.below {b t:Nat}{x y z:World}(h:Fr2 b t x y) (k:Below x.heap.size y z):Fr2 b t x z:=
 ⟨k.os.trans h.os,k.tape.trans h.tape,k.output.trans h.output,Nat.le_trans h.size k.size,fun i hi h1 h2=>(k.block i hi).trans (h.block i hi h1 h2)⟩
theorem own2 {w:World}{base e size:Nat}{v:Value}{n:Nat}{xs:List Value}{b:Nat}(h:w.ownsRow base e size v n xs) (hb:b<base) (q r:Nat) (x y:Value):((((w.drewN q).setCell ⟨b,3,none⟩ x).drewN r).setCell ⟨b,3,none⟩ y).ownsRow base e size v n xs:=by
 have h1:((w.drewN q).setCell ⟨b,3,none⟩ x).ownsRow base e size v n xs:=ownsRow_setCell_below (w:=w.drewN q) (a:=⟨b,3,none⟩) h hb x
 exact ownsRow_setCell_below (w:=((w.drewN q).setCell ⟨b,3,none⟩ x).drewN r) (a:=⟨b,3,none⟩) h1 hb y
end Go.Proofs.YtelfejiiabbpfaaGreatDoor
namespace Go.Proofs.YtelfejiiabbpfaaGreatDoor
open Go.RowKit Go.Maps Go.WideMaps
def wordV:Array Value:=#[.string ⟨#[97,110,100]⟩,.string ⟨#[98,114,101,97,107]⟩,.string ⟨#[99,97,116,99,104]⟩,.string ⟨#[99,111,110,115,116]⟩,.string ⟨#[100,101,102,101,114]⟩,.string ⟨#[101,108,105,102]⟩,.string ⟨#[101,108,115,101]⟩,.string ⟨#[102,97,108,115,101]⟩,.string ⟨#[102,110]⟩,.string ⟨#[102,111,114]⟩,.string ⟨#[105,102]⟩,.string ⟨#[105,110]⟩,.string ⟨#[108,101,116]⟩,.string ⟨#[110,101,120,116]⟩,.string ⟨#[110,105,108]⟩,.string ⟨#[110,111,116]⟩,.string ⟨#[111,114]⟩,.string ⟨#[114,101,116,117,114,110]⟩,.string ⟨#[116,104,114,111,119]⟩,.string ⟨#[116,114,117,101]⟩,.string ⟨#[116,114,121]⟩,.string ⟨#[119,104,105,108,101]⟩]
def wordAt (k:Nat):ByteArray:=match wordV[k]? with|some (.string s)=>s|_=>ByteArray.empty
theorem widx (k:Nat) (hk:k<22) (w:World):(Instr.index 98 (.agg wordV) (.int .i64 (k:Int))).run Tryz.prog w= .ok (.string (wordAt k)) w:=by
 rcases(show k=0\/k=1\/k=2\/k=3\/k=4\/k=5\/k=6\/k=7\/k=8\/k=9\/k=10\/k=11\/k=12\/k=13\/k=14\/k=15\/k=16\/k=17\/k=18\/k=19\/k=20\/k=21 by omega) with rfl|rfl|rfl|rfl|rfl|rfl|rfl|rfl|rfl|rfl|rfl|rfl|rfl|rfl|rfl|rfl|rfl|rfl|rfl|rfl|rfl|rfl
 all_goals kernel_rfl
theorem wordAt_size:∀k:Fin 22,(wordAt k.val).size<=100:=by decide
def wkD {H:Type}:Nat->DataW H
 |0=> .map []
 |k+1=>(wkD k).put (.string (wordAt k).data.toList) (.lit (.int .i64 (10+(k:Int))))
theorem kLaw:Keyed Tryz.prog 9:=string_keyed Tryz.underlying9
theorem wordKinds_any {H:Type}(w:World) (fr:Nat×Nat) (tt:TypeId) (hG:w.heap[0]?=some (.cells wordV tt fr)):
  Calls Tryz.prog 28 #[] w fun e w'=>e= .returned (.map (some w.heap.size))/\w'.ownsMap Tryz.prog 9 (plainElem (H:=H) Tryz.prog 3) w.heap.size 22 (wkD 22)/\Below w.heap.size w w':=by
 have hlt:0<w.heap.size:=lt_of_block hG
 have hmm:∀w:World,(Instr.makeMap 70 (some (.int .i64 22))).run Tryz.prog w= .ok (.map (some w.heap.size)) (w.alloc (.map #[] 0)):=fun w=>by kernel_rfl
 have hG1:(w.alloc (.map #[] 0)).heap[0]?=some (.cells wordV tt fr):=(Below.heap_alloc w _ _ hlt).trans hG
 go_enter Tryz.func28,Tryz.ntmps28
 go_wp2_with (refine wpList_load_row rfl 98 _ rfl 0 rfl tt _ fr _ hG1 Tryz.underlying98 rfl (by kernel_rfl) ?_)
 go_loopw [6] (fun i wr=>∃k:Nat,k<=22/\i= .int .i64 k/\wr.ownsMap Tryz.prog 9 (plainElem (H:=H) Tryz.prog 3) w.heap.size k (wkD k)/\Below w.heap.size w wr) (fun i _=>22-(intOf i).toNat)
 case atStart=>exact⟨0,by omega,rfl,World.ownsMap_made _ _ _ _,(Below.refl _ _).alloc (Nat.le_refl _) _⟩
 case round=>
  obtain⟨k,hk,rfl,hown,hnx⟩:=hrel
  by_cases hlt:k<22
  ·have hix:=fun w=>widx k hlt w
   have hsz:(wordAt k).size<=100:=wordAt_size ⟨k,hlt⟩
   have hkey:keyOf Tryz.prog 9 (.string (wordAt k))=some (.string (wordAt k).data.toList):=keyOf_string_mk Tryz.underlying9 (by unfold maxLen;omega)
   have hst:Hid (wkD (H:=H) (k+1)=(wkD k).put (.string (wordAt k).data.toList) (.lit (.int .i64 (10+(k:Int))))):=rfl
   go_wp2_with (at_mapUpdate;refine wpList_mapUpdate_own _ rfl _ _ _ 70 rfl 9 3 kLaw Tryz.underlying70 _ w.heap.size k _ rfl hown (by unfold maxLen;omega) _ _ _ rfl rfl hkey _ [] (plainElem_int Tryz.underlying3 (WalkArith.wf_i64 (by omega))) ?_;intro w1 hown1 hgrow1)
   go_roundw
   case rel=>exact⟨k+1,by omega,by go_num,by rw[hst.out];exact hown1,hnx.grown hgrow1 hnx.size (fun j hj=>by cases hj;exact Nat.le_refl _)⟩
   case measure=>simp[intOf];omega
  ·obtain rfl:k=22:=by omega
   go_wp2
   go_ret
   exact⟨rfl,hown,hnx⟩
end Go.Proofs.YtelfejiiabbpfaaGreatDoor
