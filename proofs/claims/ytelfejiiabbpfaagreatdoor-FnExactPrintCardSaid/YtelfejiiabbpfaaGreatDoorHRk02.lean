import Derived.Test.YtelfejiiabbpfaaGreatDoorProg
import Derived.ProofKit
import Derived.WalkKit
import Derived.OwnWalk
import Derived.Below
import Derived.OneCell
import Derived.Laws.OwnMore
import Derived.RangeFuncBox
import Derived.Deep.RegionHeld3
import Derived.Shelf.Strings.Builder1
import Derived.Shelf.Strings.Builder2
import Derived.Shelf.Strings.OnBuilder
import Derived.Shelf.Small.Wraps
import Derived.Shelf.Strings.BuilderF
import Derived.Shelf.Strings.BuilderK
import Derived.Shelf.Strconv.Itoa0
import Derived.Shelf.Strconv.Itoa1
import Derived.Shelf.LaysM
import Derived.Shelf.Strconv.Itoa2
import Derived.Shelf.Strconv.Itoa3
import Derived.Shelf.Strconv.Itoa4
import Derived.Shelf.Strconv.ParseIntEmpty
import Derived.Shelf.Strconv.Clone
import Derived.Shelf.Strconv.SyntaxError
import Derived.Shelf.LaysC
import Derived.Shelf.Strconv.ToError
import Derived.Shelf.Strconv.Lower
import Derived.Shelf.Strconv.ParseUint10
import Derived.Shelf.Strconv.ParseUint10Empty
import Derived.Shelf.Strconv.ParseUint10Any
import Derived.Shelf.Strconv.ParseInt10
import Derived.Shelf.Strconv.RangeError
import Derived.Shelf.Strconv.ToErrorRange
import Derived.Shelf.Strconv.ParseUintEmpty
import Derived.Shelf.Strconv.ParseUint10b64
import Derived.Shelf.Strconv.ParseUint10b32
import Derived.Shelf.Strconv.ParseUint10b16
import Derived.Shelf.Strconv.ParseUint10b8
import Derived.Shelf.Strconv.ParseUint10At
import Derived.Shelf.Strconv.ParseInt10At64
import Derived.Shelf.Strconv.ParseInt10At32
import Derived.Shelf.Strconv.ParseInt10At16
import Derived.Shelf.Strconv.ParseInt10At8
import Derived.Shelf.Strconv.ParseInt10All
import Derived.Shelf.Strconv.ParseIntPublic10
import Derived.Shelf.Strconv.ErrVarParseInt
import Derived.Ground.MpProg
import Derived.Shelf.Pu.ParseUintPublic10
import Derived.Shelf.Pu.ErrVarParseUint
import Derived.Shelf.Strings.Prefix
import Derived.Shelf.Strings.Fields
import Derived.Shelf.Unicode.Latin
import Derived.Shelf.Bits.Mul64
import Derived.Shelf.Strings.Repeat
import Derived.Shelf.Unicode.Is16White
import Derived.Shelf.Unicode.IsSpaceAny
import Derived.Shelf.Unicode.Is16Any
import Derived.Shelf.Unicode.Is32Any
import Derived.Shelf.Unicode.ExclAny
import Derived.Shelf.Slices.Equal
import Derived.Shelf.Slices.Empties2
set_option linter.unusedVariables false
set_option maxRecDepth 100000
set_option maxHeartbeats 3200000
namespace Go.Proofs.YtelfejiiabbpfaaGreatDoor
open Go.RowKit
structure Nd where
 k:Int
 f:Int
 t:Int
 l:Int
 op:Int
 n:Int
 x:ByteArray
 nm:List ByteArray
 ks:List Int
def StrsAt (W:World) (v:Value) (l:List ByteArray):Prop:=
 (l=[]/\∃a c,v= .slice a 0 c)\/∃a c,v= .slice (some a) l.length c/\∀j s,l[j]?=some s->W.cell? (a.add j)=some (.string s)
def IntsAt (W:World) (v:Value) (l:List Int):Prop:=
 (l=[]/\∃a c,v= .slice a 0 c)\/∃a c,v= .slice (some a) l.length c/\∀j z,l[j]?=some z->W.cell? (a.add j)=some (.int .i64 z)
structure NdAt (W:World) (a:Addr) (N:Nd) (vn vk:Value):Prop where
 c0:W.cell? a=some (.int .i64 N.k)
 c1:W.cell? ⟨a.block,a.off+1,none⟩=some (.int .i64 N.f)
 c2:W.cell? ⟨a.block,a.off+2,none⟩=some (.int .i64 N.t)
 c3:W.cell? ⟨a.block,a.off+3,none⟩=some (.int .i64 N.l)
 c4:W.cell? ⟨a.block,a.off+4,none⟩=some (.int .i64 N.op)
 c5:W.cell? ⟨a.block,a.off+5,none⟩=some (.int .i64 N.n)
 c6:W.cell? ⟨a.block,a.off+6,none⟩=some (.string N.x)
 c7:W.cell? ⟨a.block,a.off+7,none⟩=some vn
 c8:W.cell? ⟨a.block,a.off+8,none⟩=some vk
 hn:StrsAt W vn N.nm
 hk:IntsAt W vk N.ks
def NdsAt (W:World) (v:Value) (ns:List Nd):Prop:=
 (ns=[]/\∃a c,v= .slice a 0 c)\/∃a c,v= .slice (some a) ns.length c/\∀i N,ns[i]?=some N->∃vn vk,NdAt W (a.add (i*9)) N vn vk
theorem cell_lt {W:World}{a:Addr}{v:Value}(h:W.cell? a=some v):a.block<W.heap.size:=by
 unfold World.cell? at h
 rcases Nat.lt_or_ge a.block W.heap.size with g|g
 ·exact g
 ·rw[Array.getElem?_eq_none g]at h;simp at h
theorem cell_kept {W W':World}(hb:Below W.heap.size W W') {a:Addr}{v:Value}(h:W.cell? a=some v):W'.cell? a=some v:=by
 rw[<-h]
 unfold World.cell?
 rw[hb.block _ (cell_lt h)]
theorem StrsAt.below {W W':World}{v:Value}{l:List ByteArray}(h:StrsAt W v l) (hb:Below W.heap.size W W'):StrsAt W' v l:=by
 rcases h with h|⟨a,c,h1,h2⟩
 ·exact .inl h
 ·exact .inr ⟨a,c,h1,fun j s hs=>cell_kept hb (h2 j s hs)⟩
theorem IntsAt.below {W W':World}{v:Value}{l:List Int}(h:IntsAt W v l) (hb:Below W.heap.size W W'):IntsAt W' v l:=by
 rcases h with h|⟨a,c,h1,h2⟩
 ·exact .inl h
 ·exact .inr ⟨a,c,h1,fun j s hs=>cell_kept hb (h2 j s hs)⟩
theorem NdAt.below {W W':World}{a:Addr}{N:Nd}{vn vk:Value}(h:NdAt W a N vn vk) (hb:Below W.heap.size W W'):NdAt W' a N vn vk:=
 ⟨cell_kept hb h.c0,cell_kept hb h.c1,cell_kept hb h.c2,cell_kept hb h.c3,cell_kept hb h.c4,cell_kept hb h.c5,cell_kept hb h.c6,cell_kept hb h.c7,cell_kept hb h.c8,h.hn.below hb,h.hk.below hb⟩
theorem NdsAt.below {W W':World}{v:Value}{ns:List Nd}(h:NdsAt W v ns) (hb:Below W.heap.size W W'):NdsAt W' v ns:=by
 rcases h with h|⟨a,c,h1,h2⟩
 ·exact .inl h
 ·exact .inr ⟨a,c,h1,fun i N hN=>by obtain⟨vn,vk,g⟩:=h2 i N hN;exact⟨vn,vk,g.below hb⟩⟩
theorem StrsAt.form {W:World}{v:Value}{l:List ByteArray}(h:StrsAt W v l):∃a c,v= .slice a l.length c:=by
 rcases h with⟨rfl,a,c,h⟩|⟨a,c,h1,h2⟩
 ·exact⟨a,c,h⟩
 ·exact⟨_,_,h1⟩
theorem IntsAt.form {W:World}{v:Value}{l:List Int}(h:IntsAt W v l):∃a c,v= .slice a l.length c:=by
 rcases h with⟨rfl,a,c,h⟩|⟨a,c,h1,h2⟩
 ·exact⟨a,c,h⟩
 ·exact⟨_,_,h1⟩
theorem NdsAt.form {W:World}{v:Value}{l:List Nd}(h:NdsAt W v l):∃a c,v= .slice a l.length c:=by
 rcases h with⟨rfl,a,c,h⟩|⟨a,c,h1,h2⟩
 ·exact⟨a,c,h⟩
 ·exact⟨_,_,h1⟩
theorem StrsAt.get {W:World}{a:Option Addr}{n c:Nat}{l:List ByteArray}(h:StrsAt W (.slice a n c) l) {k:Nat}{s:ByteArray}(hk:l[k]?=some s):∃a',a=some a'/\W.cell? (a'.add k)=some (.string s):=by
 rcases h with⟨rfl,_⟩|⟨a',c',e,hc⟩
 ·simp at hk
 ·cases e;exact⟨a',rfl,hc k s hk⟩
theorem IntsAt.get {W:World}{a:Option Addr}{n c:Nat}{l:List Int}(h:IntsAt W (.slice a n c) l) {k:Nat}{s:Int}(hk:l[k]?=some s):∃a',a=some a'/\W.cell? (a'.add k)=some (.int .i64 s):=by
 rcases h with⟨rfl,_⟩|⟨a',c',e,hc⟩
 ·simp at hk
 ·cases e;exact⟨a',rfl,hc k s hk⟩
theorem NdsAt.get {W:World}{a:Option Addr}{n c:Nat}{l:List Nd}(h:NdsAt W (.slice a n c) l) {k:Nat}{N:Nd}(hk:l[k]?=some N):∃a',a=some a'/\∃vn vk,NdAt W (a'.add (k*9)) N vn vk:=by
 rcases h with⟨rfl,_⟩|⟨a',c',e,hc⟩
 ·simp at hk
 ·cases e;exact⟨a',rfl,hc k N hk⟩
theorem own_keep {w w':World}{base e size:Nat}{v:Value}{n:Nat}{xs:List Value}(h:w.ownsRow base e size v n xs) (hb:Below w.heap.size w w'):w'.ownsRow base e size v n xs:=
 h.kept (row:=none) ⟨hb.os,hb.tape,hb.output,hb.size,fun k hk _=>hb.block k hk⟩ (by cases v.ownBlock<;>simp)
theorem own_le {w:World}{base base' e size:Nat}{v:Value}{n:Nat}{xs:List Value}(h:w.ownsRow base e size v n xs) (hb:base'<=base):w.ownsRow base' e size v n xs:=by
 obtain⟨h1,h2⟩:=h
 refine⟨h1,?_⟩
 rcases h2 with h2|⟨g,cap,cur,hv,hg,rest⟩
 ·exact .inl h2
 ·exact .inr ⟨g,cap,cur,hv,Nat.le_trans hb hg,rest⟩
theorem some_at {α:Type}{l:List α}{n k:Nat}(hn:l.length=n) (h:k<n):∃s,l[k]?=some s:=⟨l[k]'(by omega),List.getElem?_eq_getElem _⟩
theorem infoStr:(Tryz.prog.info? 9).map (fun i=>(i.zero,i.size,i.bytes))=some (some (.string ⟨#[]⟩),1,16):=by kernel_rfl
theorem infoInt:(Tryz.prog.info? 3).map (fun i=>(i.zero,i.size,i.bytes))=some (some (.int .i64 0),1,8):=by kernel_rfl
theorem fill_set {α:Type}(xs:List α) (f:α->Value) (z:Value) (n k:Nat) (s:α) (hn:xs.length=n) (hs:xs[k]?=some s) (hk:k<n):
  ((xs.take k).map f++List.replicate (n-k) z).set k (f s)=(xs.take (k+1)).map f++List.replicate (n-(k+1)) z:=by
 have hl:((xs.take k).map f).length=k:=by rw[List.length_map,List.length_take];omega
 rw[List.set_append_right _ _ (by omega),hl,Nat.sub_self,show n-k=(n-(k+1))+1 by omega,List.replicate_succ,List.set_cons_zero,List.take_add_one,hs]
 simp
theorem toStringS_any (w:World) (v:Value) (l:List ByteArray) (h:StrsAt w v l) (hl:l.length<=1048576):
  Calls Tryz.prog 82 #[v] w fun e w'=>e= .returned (.slice (some ⟨w.heap.size,0,none⟩) l.length l.length)/\w'.ownsRow w.heap.size 9 1 (.slice (some ⟨w.heap.size,0,none⟩) l.length l.length) l.length (l.map Value.string)/\Below w.heap.size w w':=by
 obtain⟨a,c,rfl⟩:=h.form
 obtain⟨n,hn⟩:∃n,l.length=n:=⟨_,rfl⟩
 have HN:Hid (l.length=n):=hn
 have HA:Hid (StrsAt w (.slice a n c) l):=by rw[<-hn];exact h
 rw[hn]at hl⊢
 clear h hn
 obtain⟨i0,hi,hz0,hz1,hz2⟩:=info_parts infoStr
 go_enter Tryz.func82,Tryz.ntmps82
 go_wp2_with (at_make;refine wpList_make_full _ rfl _ _ 41 rfl w.heap.size 9 i0 (.string ⟨#[]⟩) 1 Tryz.underlying41 hi hz0 hz1 .i64 .i64 _ _ n rfl rfl rfl rfl (by rw[hz2];omega) (by unfold maxLen;omega) (Nat.le_refl _) ?_;intro w0 hown0 hgrow0)
 have hb0:Below w.heap.size w w0:=⟨hgrow0.os,hgrow0.tape,hgrow0.output,hgrow0.size,fun k hk=>hgrow0.block k hk (by simp)⟩
 go_loopw [4] (fun vi wr=>∃k:Nat,k<=n/\vi= .int .i64 k/\wr.ownsRow w.heap.size 9 1 (.slice (some ⟨w.heap.size,0,none⟩) n n) n ((l.take k).map Value.string++List.replicate (n-k) (.string ⟨#[]⟩))/\Below w.heap.size w wr) (fun vi _=>n-(intOf vi).toNat)
 case atStart=>
  refine⟨0,by omega,rfl,?_,hb0⟩
  have e:(madeCells (Value.string ⟨#[]⟩).cells (n*1)).toList=(l.take 0).map Value.string++List.replicate (n-0) (.string ⟨#[]⟩):=by
   rw[Nat.mul_one];exact toList_madeCells_one _ n
  rw[<-e];exact hown0
 case round=>
  obtain⟨k,hk,rfl,ho,hb⟩:=hrel
  clear hown0 hgrow0 hb0
  by_cases hlt:k<n
  ·obtain⟨s,hsk⟩:=some_at HN.out hlt
   obtain⟨a',rfl,hck⟩:=(HA.out.below hb).get hsk
   have hki:(k:Int)<(n:Int):=by omega
   have hk0:(0:Int)<=(k:Int):=by omega
   have fz:=ho.frozenAt k
   have dc:wr.cell? ⟨w.heap.size,k,none⟩=some (.string ⟨#[]⟩):=by
    rw[ho.cellAt k (by omega),List.getElem?_append_right (by rw[List.length_map,List.length_take];omega),List.length_map,List.length_take,List.getElem?_replicate]
    rw[if_pos (by have:=HN.out;omega)]
   have ho2:=(ho.stored k (.string s)).1
   rw[fill_set l Value.string _ n k s HN.out hsk hlt]at ho2
   go_wp2_with fail
   exact⟨⟨k+1,by omega,by go_num,ho2,hb.setCell (by simp) _⟩,by simp[intOf];omega⟩
  ·obtain rfl:k=n:=by omega
   go_wp2_with fail
   go_ret
   refine⟨rfl,?_,hb⟩
   rw[List.take_of_length_le (by have:=HN.out;omega),Nat.sub_self,List.replicate_zero,List.append_nil]at ho
   exact ho
theorem toIntS_any (w:World) (v:Value) (l:List Int) (h:IntsAt w v l) (hl:l.length<=1048576):
  Calls Tryz.prog 83 #[v] w fun e w'=>e= .returned (.slice (some ⟨w.heap.size,0,none⟩) l.length l.length)/\w'.ownsRow w.heap.size 3 1 (.slice (some ⟨w.heap.size,0,none⟩) l.length l.length) l.length (l.map (Value.int .i64))/\Below w.heap.size w w':=by
 obtain⟨a,c,rfl⟩:=h.form
 obtain⟨n,hn⟩:∃n,l.length=n:=⟨_,rfl⟩
 have HN:Hid (l.length=n):=hn
 have HA:Hid (IntsAt w (.slice a n c) l):=by rw[<-hn];exact h
 rw[hn]at hl⊢
 clear h hn
 obtain⟨i0,hi,hz0,hz1,hz2⟩:=info_parts infoInt
 go_enter Tryz.func83,Tryz.ntmps83
 go_wp2_with (at_make;refine wpList_make_full _ rfl _ _ 42 rfl w.heap.size 3 i0 (.int .i64 0) 1 Tryz.underlying42 hi hz0 hz1 .i64 .i64 _ _ n rfl rfl rfl rfl (by rw[hz2];omega) (by unfold maxLen;omega) (Nat.le_refl _) ?_;intro w0 hown0 hgrow0)
 have hb0:Below w.heap.size w w0:=⟨hgrow0.os,hgrow0.tape,hgrow0.output,hgrow0.size,fun k hk=>hgrow0.block k hk (by simp)⟩
 go_loopw [4] (fun vi wr=>∃k:Nat,k<=n/\vi= .int .i64 k/\wr.ownsRow w.heap.size 3 1 (.slice (some ⟨w.heap.size,0,none⟩) n n) n ((l.take k).map (Value.int .i64)++List.replicate (n-k) (.int .i64 0))/\Below w.heap.size w wr) (fun vi _=>n-(intOf vi).toNat)
 case atStart=>
  refine⟨0,by omega,rfl,?_,hb0⟩
  have e:(madeCells (Value.int .i64 0).cells (n*1)).toList=(l.take 0).map (Value.int .i64)++List.replicate (n-0) (.int .i64 0):=by
   rw[Nat.mul_one];exact toList_madeCells_one _ n
  rw[<-e];exact hown0
 case round=>
  obtain⟨k,hk,rfl,ho,hb⟩:=hrel
  clear hown0 hgrow0 hb0
  by_cases hlt:k<n
  ·obtain⟨s,hsk⟩:=some_at HN.out hlt
   obtain⟨a',rfl,hck⟩:=(HA.out.below hb).get hsk
   have hki:(k:Int)<(n:Int):=by omega
   have hk0:(0:Int)<=(k:Int):=by omega
   have fz:=ho.frozenAt k
   have dc:wr.cell? ⟨w.heap.size,k,none⟩=some (.int .i64 0):=by
    rw[ho.cellAt k (by omega),List.getElem?_append_right (by rw[List.length_map,List.length_take];omega),List.length_map,List.length_take,List.getElem?_replicate]
    rw[if_pos (by have:=HN.out;omega)]
   have ho2:=(ho.stored k (.int .i64 s)).1
   rw[fill_set l (Value.int .i64) _ n k s HN.out hsk hlt]at ho2
   go_wp2_with fail
   exact⟨⟨k+1,by omega,by go_num,ho2,hb.setCell (by simp) _⟩,by simp[intOf];omega⟩
  ·obtain rfl:k=n:=by omega
   go_wp2_with fail
   go_ret
   refine⟨rfl,?_,hb⟩
   rw[List.take_of_length_le (by have:=HN.out;omega),Nat.sub_self,List.replicate_zero,List.append_nil]at ho
   exact ho
theorem own_strs {W:World}{base g n c:Nat}{l:List ByteArray}(h:W.ownsRow base 9 1 (.slice (some ⟨g,0,none⟩) n c) n (l.map Value.string)) (hn:l.length=n):StrsAt W (.slice (some ⟨g,0,none⟩) n c) l:=by
 subst hn
 refine .inr ⟨⟨g,0,none⟩,c,rfl,fun j s hs=>?_⟩
 have hj:j<l.length:=by rcases Nat.lt_or_ge j l.length with h|h;exact h;rw[List.getElem?_eq_none h]at hs;cases hs
 have e:(⟨g,0,none⟩:Addr).add j=⟨g,j,none⟩:=by unfold Addr.add;split<;>simp_all
 rw[e,h.cellAt j (by omega),List.getElem?_map,hs];rfl
theorem own_ints {W:World}{base g n c:Nat}{l:List Int}(h:W.ownsRow base 3 1 (.slice (some ⟨g,0,none⟩) n c) n (l.map (Value.int .i64))) (hn:l.length=n):IntsAt W (.slice (some ⟨g,0,none⟩) n c) l:=by
 subst hn
 refine .inr ⟨⟨g,0,none⟩,c,rfl,fun j s hs=>?_⟩
 have hj:j<l.length:=by rcases Nat.lt_or_ge j l.length with h|h;exact h;rw[List.getElem?_eq_none h]at hs;cases hs
 have e:(⟨g,0,none⟩:Addr).add j=⟨g,j,none⟩:=by unfold Addr.add;split<;>simp_all
 rw[e,h.cellAt j (by omega),List.getElem?_map,hs];rfl
def sumS:List ByteArray->Nat
 |[]=>0
 |s::l=>s.size+sumS l
theorem sumS_app (a b:List ByteArray):sumS (a++b)=sumS a+sumS b:=by
 induction a with
 |nil=>simp[sumS]
 |cons x r ih=>simp[sumS,ih];omega
theorem sumS_take (l:List ByteArray) (k:Nat) (s:ByteArray) (h:l[k]?=some s):sumS (l.take (k+1))=sumS (l.take k)+s.size:=by
 rw[List.take_add_one,h,sumS_app];simp[sumS]
theorem sumS_le (l:List ByteArray) (k:Nat):sumS (l.take k)<=sumS l:=by
 have h:=sumS_app (l.take k) (l.drop k)
 rw[List.take_append_drop]at h
 omega
def bulkS (l:List ByteArray):Nat:=l.length+sumS l
def lessI (left:Int) (b:Nat):Int:=if(b:Int)<=left then left-b else -1
theorem lessI_yes {left:Int}{b:Nat}(h:(b:Int)<=left):lessI left b=left-b:=by unfold lessI;rw[if_pos h]
theorem lessI_no {left:Int}{b:Nat}(h:¬(b:Int)<=left):lessI left b= -1:=by unfold lessI;rw[if_neg h]
theorem szStringS_any (w:World) (v:Value) (l:List ByteArray) (left:Int) (h:StrsAt w v l) (hs:∀s∈l,s.size<=9223372036854775807) (hl:l.length<=9223372036854775807) (h0:0<=left) (h1:left<=1048576):
  Calls Tryz.prog 69 #[v,.int .i64 left] w fun e w'=>e= .returned (.int .i64 (lessI left (bulkS l)))/\w'=w:=by
 obtain⟨a,c,rfl⟩:=h.form
 obtain⟨n,hn⟩:∃n,l.length=n:=⟨_,rfl⟩
 have HN:Hid (l.length=n):=hn
 rw[hn]at hl⊢
 by_cases g1:left<(n:Int)
 ·have hneg:left-(n:Int)<0:=by omega
  have hb:¬((bulkS l:Nat):Int)<=left:=by unfold bulkS;omega
  rw[lessI_no hb]
  clear hn HN
  go_enter Tryz.func69,Tryz.ntmps69
  go_wp2
  go_ret
  exact⟨rfl,rfl⟩
 ·have hneg:¬left-(n:Int)<0:=by omega
  have HS:Hid (∀s∈l,s.size<=9223372036854775807):=hs
  have HA:Hid (StrsAt w (.slice a n c) l):=by rw[<-hn];exact h
  clear hs h hn
  go_enter Tryz.func69,Tryz.ntmps69
  go_wp2_with fail
  go_loop [1,5] (fun vl vi=>∃(k:Nat) (z:Int),k<=n/\vi= .int .i64 k/\vl= .int .i64 z/\0<=z/\z<=1048576/\Hid (z=left-(n:Int)-(sumS (l.take k):Int))) (fun _ vi=>n-(intOf vi).toNat)
  case atStart=>exact⟨0,left-n,by omega,rfl,rfl,by omega,by omega,by show _=_;simp[sumS]⟩
  case round=>
   obtain⟨k,z,hk,rfl,rfl,z0,z1,HZ⟩:=hrel
   by_cases hlt:k<n
   ·obtain⟨s,hsk⟩:=some_at HN.out hlt
    have hss:=HS.out s (List.mem_of_getElem? hsk)
    have hst:=sumS_take l k s hsk
    have hle:=sumS_le l (k+1)
    obtain⟨a',rfl,hck⟩:=HA.out.get hsk
    have hki:(k:Int)<(n:Int):=by omega
    have hk0:(0:Int)<=(k:Int):=by omega
    obtain⟨m,hm⟩:∃m,s.size=m:=⟨_,rfl⟩
    rw[hm]at hss hst
    have HM:Hid (s.size=m):=hm
    by_cases hfit:(m:Int)<=z
    ·have hng:¬z-(m:Int)<0:=by omega
     have HR:Hid (z-(m:Int)=left-(n:Int)-(sumS (l.take (k+1)):Int)):=by show _=_;have:=HZ.out;omega
     clear hst hle HZ hsk
     go_wp2_with fail
     go_round
     case rel=>exact⟨k+1,z-m,by omega,by go_num,by go_num,by omega,by omega,HR⟩
     case measure=>simp[intOf];omega
    ·have hng:z-(m:Int)<0:=by omega
     have HR:Hid (lessI left (bulkS l)= -1):=by show _=_;have:=HZ.out;have:=HN.out;exact lessI_no (by unfold bulkS;omega)
     clear hst hle HZ hsk
     go_wp2_with fail
     go_ret
     exact⟨by rw[HR.out];rfl,rfl⟩
   ·obtain rfl:k=n:=by omega
    have hz:z=lessI left (bulkS l):=by
     have:=HZ.out
     have hn:=HN.out
     rw[List.take_of_length_le (by omega)]at this
     rw[lessI_yes (by unfold bulkS;omega)]
     unfold bulkS;omega
    have HF:Hid (z=lessI left (bulkS l)):=hz
    clear hz
    go_wp2_with fail
    go_ret
    exact⟨by rw[<-HF.out];rfl,rfl⟩
theorem lessI_two {left:Int}{a b:Nat}(h:(a:Int)<=left):lessI (left-a) b=lessI left (a+b):=by
 unfold lessI
 by_cases g:(b:Int)<=left-a
 ·rw[if_pos g,if_pos (by omega)];omega
 ·rw[if_neg g,if_neg (by omega)]
theorem szIntS_any (w:World) (v:Value) (l:List Int) (left:Int) (h:IntsAt w v l) (hl:l.length<=9223372036854775807) (h0:0<=left) (h1:left<=1048576):
  Calls Tryz.prog 70 #[v,.int .i64 left] w fun e w'=>e= .returned (.int .i64 (lessI left l.length))/\w'=w:=by
 obtain⟨a,c,rfl⟩:=h.form
 generalize l.length=n at hl
 by_cases g1:(n:Int)<=left
 ·have hneg:¬left-(n:Int)<0:=by omega
  rw[lessI_yes g1]
  go_enter Tryz.func70,Tryz.ntmps70
  go_wp2
  go_ret
  exact⟨rfl,rfl⟩
 ·have hneg:left-(n:Int)<0:=by omega
  rw[lessI_no g1]
  go_enter Tryz.func70,Tryz.ntmps70
  go_wp2
  go_ret
  exact⟨rfl,rfl⟩
structure NdLen (N:Nd):Prop where
 x:N.x.size<=9223372036854775807
 s:∀s∈N.nm,s.size<=9223372036854775807
 n:N.nm.length<=9223372036854775807
 k:N.ks.length<=9223372036854775807
def bulkN (N:Nd):Nat:=N.x.size+(bulkS N.nm+N.ks.length)
def vNd (N:Nd) (vn vk:Value):Value:= .agg #[.int .i64 N.k,.int .i64 N.f,.int .i64 N.t,.int .i64 N.l,.int .i64 N.op,.int .i64 N.n,.string N.x,vn,vk]
theorem szNode_any (w:World) (N:Nd) (vn vk:Value) (left:Int) (hn:StrsAt w vn N.nm) (hk:IntsAt w vk N.ks) (hN:NdLen N) (h0:0<=left) (h1:left<=1048576):
  Calls Tryz.prog 18 #[vNd N vn vk,.int .i64 left] w fun e w'=>e= .returned (.int .i64 (lessI left (bulkN N)))/\Below w.heap.size w w':=by
 have hb0:∀o,Below w.heap.size w (w.alloc o):=fun o=>(Below.refl _ w).alloc (Nat.le_refl _) o
 have ks:=fun (o:Obj) (left:Int) (h0:0<=left) (h1:left<=1048576)=>szStringS_any (w.alloc o) vn N.nm left (hn.below (hb0 o)) hN.s hN.n h0 h1
 have ki:=fun (o:Obj) (left:Int) (h0:0<=left) (h1:left<=1048576)=>szIntS_any (w.alloc o) vk N.ks left (hk.below (hb0 o)) hN.k h0 h1
 have HKS:Hid (∀(o:Obj) (left:Int) (h0:0<=left) (h1:left<=1048576),Calls Tryz.prog 69 #[vn,.int .i64 left] (w.alloc o) fun e w'=>e= .returned (.int .i64 (lessI left (bulkS N.nm)))/\w'=w.alloc o):=ks
 have HKI:Hid (∀(o:Obj) (left:Int) (h0:0<=left) (h1:left<=1048576),Calls Tryz.prog 70 #[vk,.int .i64 left] (w.alloc o) fun e w'=>e= .returned (.int .i64 (lessI left N.ks.length))/\w'=w.alloc o):=ki
 clear ks ki
 obtain⟨a1,c1,rfl⟩:=hn.form
 obtain⟨a2,c2,rfl⟩:=hk.form
 unfold vNd bulkN
 have hx:=hN.x
 generalize bulkS N.nm=B at HKS⊢
 generalize N.nm.length=L1 at HKS⊢
 generalize N.ks.length=L2 at HKI⊢
 clear hn hk hN
 obtain⟨nk,nf,nt,nl,nop,nn,nx,nnm,nks⟩:=N
 simp only at hx⊢
 obtain⟨m,hm⟩:∃m,nx.size=m:=⟨_,rfl⟩
 rw[hm]at hx⊢
 by_cases g1:(m:Int)<=left
 ·have f1:¬left-(m:Int)<0:=by omega
  rw[<-lessI_two g1]
  by_cases g2:(B:Int)<=left-m
  ·rw[<-lessI_two g2]
   have f2:¬left-(m:Int)-(B:Int)<0:=by omega
   have k1:=fun o=>HKS.out o (left-m) (by omega) (by omega)
   have k2:=fun o=>HKI.out o (left-m-B) (by omega) (by omega)
   rw[lessI_yes g2]at k1
   have f3:∃R,lessI (left-m-B) L2=R/\ -1<=R:=⟨_,rfl,by unfold lessI;split<;>omega⟩
   obtain⟨R,hR,hR1⟩:=f3
   rw[hR]at k2⊢
   clear hR
   by_cases f4:R<0
   ·obtain rfl:R= -1:=by omega
    go_enter Tryz.func18,Tryz.ntmps18
    go_wp2_with (first|(go_at_call 69;refine(k1 _).mono ?_;rintro e w' ⟨rfl,rfl⟩)|(go_at_call 70;refine(k2 _).mono ?_;rintro e w' ⟨rfl,rfl⟩))
    go_ret
    exact⟨rfl,hb0 _⟩
   ·go_enter Tryz.func18,Tryz.ntmps18
    go_wp2_with (first|(go_at_call 69;refine(k1 _).mono ?_;rintro e w' ⟨rfl,rfl⟩)|(go_at_call 70;refine(k2 _).mono ?_;rintro e w' ⟨rfl,rfl⟩))
    go_ret
    exact⟨rfl,hb0 _⟩
  ·rw[lessI_no (show ¬((B+L2:Nat):Int)<=left-m by omega)]
   have k1:=fun o=>HKS.out o (left-m) (by omega) (by omega)
   rw[lessI_no g2]at k1
   go_enter Tryz.func18,Tryz.ntmps18
   go_wp2_with (first|(go_at_call 69;refine(k1 _).mono ?_;rintro e w' ⟨rfl,rfl⟩))
   go_ret
   exact⟨rfl,hb0 _⟩
 ·have f1:left-(m:Int)<0:=by omega
  rw[lessI_no (show ¬((m+(B+L2):Nat):Int)<=left by omega)]
  go_enter Tryz.func18,Tryz.ntmps18
  go_wp2
  go_ret
  exact⟨rfl,hb0 _⟩
def NdBox (b:Nat) (W:World) (t:TypeId) (N:Nd) (vn vk:Value):Prop:=
 W.heap[b]?=some (.cells #[.int .i64 N.k,.int .i64 N.f,.int .i64 N.t,.int .i64 N.l,.int .i64 N.op,.int .i64 N.n,.string N.x,vn,vk] t (0,0))
theorem nd_cells {b:Nat}{W:World}{t:TypeId}{N:Nd}{vn vk:Value}(h:NdBox b W t N vn vk):
  W.cell? ⟨b,0,none⟩=some (.int .i64 N.k)/\W.cell? ⟨b,1,none⟩=some (.int .i64 N.f)/\W.cell? ⟨b,2,none⟩=some (.int .i64 N.t)/\W.cell? ⟨b,3,none⟩=some (.int .i64 N.l)/\W.cell? ⟨b,4,none⟩=some (.int .i64 N.op)/\W.cell? ⟨b,5,none⟩=some (.int .i64 N.n)/\W.cell? ⟨b,6,none⟩=some (.string N.x)/\W.cell? ⟨b,7,none⟩=some vn/\W.cell? ⟨b,8,none⟩=some vk/\(∀j,W.frozen? ⟨b,j,none⟩=false):=by
 unfold NdBox at h
 exact⟨by rw[cell_of_row _ _ _ _ _ _ h];rfl,by rw[cell_of_row _ _ _ _ _ _ h];rfl,by rw[cell_of_row _ _ _ _ _ _ h];rfl,by rw[cell_of_row _ _ _ _ _ _ h];rfl,by rw[cell_of_row _ _ _ _ _ _ h];rfl,by rw[cell_of_row _ _ _ _ _ _ h];rfl,by rw[cell_of_row _ _ _ _ _ _ h];rfl,by rw[cell_of_row _ _ _ _ _ _ h];rfl,by rw[cell_of_row _ _ _ _ _ _ h];rfl,fun j=>frozen_of_row _ _ _ _ _ h⟩
def zNd:Nd:=⟨0,0,0,0,0,0,⟨#[]⟩,[],[]⟩
theorem NdBox.below {b:Nat}{W W':World}{t:TypeId}{N:Nd}{vn vk:Value}(h:NdBox b W t N vn vk) (hb:Below W.heap.size W W'):NdBox b W' t N vn vk:=(hb.block _ (lt_of_block h)).trans h
def set9 (W:World) (b:Nat) (N:Nd) (vn vk:Value):World:=(((((((((W.setCell ⟨b,0,none⟩ (.int .i64 N.k)).setCell ⟨b,1,none⟩ (.int .i64 N.f)).setCell ⟨b,2,none⟩ (.int .i64 N.t)).setCell ⟨b,3,none⟩ (.int .i64 N.l)).setCell ⟨b,4,none⟩ (.int .i64 N.op)).setCell ⟨b,5,none⟩ (.int .i64 N.n)).setCell ⟨b,6,none⟩ (.string N.x)).setCell ⟨b,7,none⟩ (vn)).setCell ⟨b,8,none⟩ (vk))
theorem nd_set9 {b:Nat}{W:World}{t:TypeId}{M:Nd}{vm vl:Value}(h:NdBox b W t M vm vl) (N:Nd) (vn vk:Value):NdBox b (set9 W b N vn vk) t N vn vk:=by
 unfold set9
 have s0:(W.setCell ⟨b,0,none⟩ (.int .i64 N.k)).heap[b]?=some (.cells #[.int .i64 N.k,.int .i64 M.f,.int .i64 M.t,.int .i64 M.l,.int .i64 M.op,.int .i64 M.n,.string M.x,vm,vl] t (0,0)):=heap_setCell_same _ b 0 _ _ _ h
 have s1:((W.setCell ⟨b,0,none⟩ (.int .i64 N.k)).setCell ⟨b,1,none⟩ (.int .i64 N.f)).heap[b]?=some (.cells #[.int .i64 N.k,.int .i64 N.f,.int .i64 M.t,.int .i64 M.l,.int .i64 M.op,.int .i64 M.n,.string M.x,vm,vl] t (0,0)):=heap_setCell_same _ b 1 _ _ _ s0
 have s2:(((W.setCell ⟨b,0,none⟩ (.int .i64 N.k)).setCell ⟨b,1,none⟩ (.int .i64 N.f)).setCell ⟨b,2,none⟩ (.int .i64 N.t)).heap[b]?=some (.cells #[.int .i64 N.k,.int .i64 N.f,.int .i64 N.t,.int .i64 M.l,.int .i64 M.op,.int .i64 M.n,.string M.x,vm,vl] t (0,0)):=heap_setCell_same _ b 2 _ _ _ s1
 have s3:((((W.setCell ⟨b,0,none⟩ (.int .i64 N.k)).setCell ⟨b,1,none⟩ (.int .i64 N.f)).setCell ⟨b,2,none⟩ (.int .i64 N.t)).setCell ⟨b,3,none⟩ (.int .i64 N.l)).heap[b]?=some (.cells #[.int .i64 N.k,.int .i64 N.f,.int .i64 N.t,.int .i64 N.l,.int .i64 M.op,.int .i64 M.n,.string M.x,vm,vl] t (0,0)):=heap_setCell_same _ b 3 _ _ _ s2
 have s4:(((((W.setCell ⟨b,0,none⟩ (.int .i64 N.k)).setCell ⟨b,1,none⟩ (.int .i64 N.f)).setCell ⟨b,2,none⟩ (.int .i64 N.t)).setCell ⟨b,3,none⟩ (.int .i64 N.l)).setCell ⟨b,4,none⟩ (.int .i64 N.op)).heap[b]?=some (.cells #[.int .i64 N.k,.int .i64 N.f,.int .i64 N.t,.int .i64 N.l,.int .i64 N.op,.int .i64 M.n,.string M.x,vm,vl] t (0,0)):=heap_setCell_same _ b 4 _ _ _ s3
 have s5:((((((W.setCell ⟨b,0,none⟩ (.int .i64 N.k)).setCell ⟨b,1,none⟩ (.int .i64 N.f)).setCell ⟨b,2,none⟩ (.int .i64 N.t)).setCell ⟨b,3,none⟩ (.int .i64 N.l)).setCell ⟨b,4,none⟩ (.int .i64 N.op)).setCell ⟨b,5,none⟩ (.int .i64 N.n)).heap[b]?=some (.cells #[.int .i64 N.k,.int .i64 N.f,.int .i64 N.t,.int .i64 N.l,.int .i64 N.op,.int .i64 N.n,.string M.x,vm,vl] t (0,0)):=heap_setCell_same _ b 5 _ _ _ s4
 have s6:(((((((W.setCell ⟨b,0,none⟩ (.int .i64 N.k)).setCell ⟨b,1,none⟩ (.int .i64 N.f)).setCell ⟨b,2,none⟩ (.int .i64 N.t)).setCell ⟨b,3,none⟩ (.int .i64 N.l)).setCell ⟨b,4,none⟩ (.int .i64 N.op)).setCell ⟨b,5,none⟩ (.int .i64 N.n)).setCell ⟨b,6,none⟩ (.string N.x)).heap[b]?=some (.cells #[.int .i64 N.k,.int .i64 N.f,.int .i64 N.t,.int .i64 N.l,.int .i64 N.op,.int .i64 N.n,.string N.x,vm,vl] t (0,0)):=heap_setCell_same _ b 6 _ _ _ s5
 have s7:((((((((W.setCell ⟨b,0,none⟩ (.int .i64 N.k)).setCell ⟨b,1,none⟩ (.int .i64 N.f)).setCell ⟨b,2,none⟩ (.int .i64 N.t)).setCell ⟨b,3,none⟩ (.int .i64 N.l)).setCell ⟨b,4,none⟩ (.int .i64 N.op)).setCell ⟨b,5,none⟩ (.int .i64 N.n)).setCell ⟨b,6,none⟩ (.string N.x)).setCell ⟨b,7,none⟩ (vn)).heap[b]?=some (.cells #[.int .i64 N.k,.int .i64 N.f,.int .i64 N.t,.int .i64 N.l,.int .i64 N.op,.int .i64 N.n,.string N.x,vn,vl] t (0,0)):=heap_setCell_same _ b 7 _ _ _ s6
 have s8:(((((((((W.setCell ⟨b,0,none⟩ (.int .i64 N.k)).setCell ⟨b,1,none⟩ (.int .i64 N.f)).setCell ⟨b,2,none⟩ (.int .i64 N.t)).setCell ⟨b,3,none⟩ (.int .i64 N.l)).setCell ⟨b,4,none⟩ (.int .i64 N.op)).setCell ⟨b,5,none⟩ (.int .i64 N.n)).setCell ⟨b,6,none⟩ (.string N.x)).setCell ⟨b,7,none⟩ (vn)).setCell ⟨b,8,none⟩ (vk)).heap[b]?=some (.cells #[.int .i64 N.k,.int .i64 N.f,.int .i64 N.t,.int .i64 N.l,.int .i64 N.op,.int .i64 N.n,.string N.x,vn,vk] t (0,0)):=heap_setCell_same _ b 8 _ _ _ s7
 exact s8
theorem own_set9 {W:World}{base e size:Nat}{v:Value}{n:Nat}{xs:List Value}{b:Nat}(h:W.ownsRow base e size v n xs) (hb:b<base) (N:Nd) (vn vk:Value):(set9 W b N vn vk).ownsRow base e size v n xs:=by
 unfold set9
 iterate 9 refine ownsRow_setCell_below ?_ hb _
 exact h
theorem below_set9 {w W:World}{base b:Nat}(h:Below base w W) (hb:base<=b) (N:Nd) (vn vk:Value):Below base w (set9 W b N vn vk):=by
 unfold set9
 iterate 9 refine Below.setCell ?_ hb _
 exact h
theorem toNode_any (w:World) (N:Nd) (vn vk:Value) (hn:StrsAt w vn N.nm) (hk:IntsAt w vk N.ks) (h1:N.nm.length<=1048576) (h2:N.ks.length<=1048576):
  Calls Tryz.prog 27 #[vNd N vn vk] w fun e w'=>∃g1 g2,e= .returned (vNd N (.slice (some ⟨g1,0,none⟩) N.nm.length N.nm.length) (.slice (some ⟨g2,0,none⟩) N.ks.length N.ks.length))/\
   w'.ownsRow w.heap.size 9 1 (.slice (some ⟨g1,0,none⟩) N.nm.length N.nm.length) N.nm.length (N.nm.map Value.string)/\w'.ownsRow w.heap.size 3 1 (.slice (some ⟨g2,0,none⟩) N.ks.length N.ks.length) N.ks.length (N.ks.map (Value.int .i64))/\Below w.heap.size w w':=by
 obtain⟨a1,c1,rfl⟩:=hn.form
 obtain⟨a2,c2,rfl⟩:=hk.form
 unfold vNd
 have HN:Hid (StrsAt w (.slice a1 N.nm.length c1) N.nm/\IntsAt w (.slice a2 N.ks.length c2) N.ks):=⟨hn,hk⟩
 clear hn hk
 obtain⟨L1,hL1⟩:∃n,N.nm.length=n:=⟨_,rfl⟩
 obtain⟨L2,hL2⟩:∃n,N.ks.length=n:=⟨_,rfl⟩
 have HL:Hid (N.nm.length=L1/\N.ks.length=L2):=⟨hL1,hL2⟩
 rw[hL1]at HN h1⊢
 rw[hL2]at HN h2⊢
 clear hL1 hL2
 go_enter Tryz.func27,Tryz.ntmps27
 go_wp2_with (go_at_call 82;fail)
 obtain⟨W9,hW9⟩:∃W9,((w.alloc (.cells #[.int .i64 N.k,.int .i64 N.f,.int .i64 N.t,.int .i64 N.l,.int .i64 N.op,.int .i64 N.n,.string N.x,.slice a1 L1 c1,.slice a2 L2 c2] 62)).alloc (.cells #[.int .i64 0,.int .i64 0,.int .i64 0,.int .i64 0,.int .i64 0,.int .i64 0,.string ⟨#[]⟩,.slice none 0 0,.slice none 0 0] 44)).alloc (.cells #[.int .i64 N.k,.int .i64 N.f,.int .i64 N.t,.int .i64 N.l,.int .i64 N.op,.int .i64 N.n,.string N.x,.slice none 0 0,.slice none 0 0] 44)=W9:=⟨_,rfl⟩
 have hs9:W9.heap.size=w.heap.size+1+1+1:=by rw[<-hW9];simp
 have hA:NdBox w.heap.size W9 62 N (.slice a1 L1 c1) (.slice a2 L2 c2):=by
  rw[<-hW9]
  exact(Below.heap_alloc _ _ _ (by simp;omega)).trans ((Below.heap_alloc _ _ _ (by simp)).trans (heap_alloc_new w _))
 have hZ:NdBox (w.heap.size+1) W9 44 zNd (.slice none 0 0) (.slice none 0 0):=by
  rw[<-hW9]
  have:=heap_alloc_new (w.alloc (.cells #[.int .i64 N.k,.int .i64 N.f,.int .i64 N.t,.int .i64 N.l,.int .i64 N.op,.int .i64 N.n,.string N.x,.slice a1 L1 c1,.slice a2 L2 c2] 62)) (.cells #[.int .i64 0,.int .i64 0,.int .i64 0,.int .i64 0,.int .i64 0,.int .i64 0,.string ⟨#[]⟩,.slice none 0 0,.slice none 0 0] 44)
  rw[World.size_alloc]at this
  exact(Below.heap_alloc _ _ _ (by simp)).trans this
 have hO:NdBox (w.heap.size+1+1) W9 44 N (.slice none 0 0) (.slice none 0 0):=by
  rw[<-hW9]
  have:=heap_alloc_new ((w.alloc (.cells #[.int .i64 N.k,.int .i64 N.f,.int .i64 N.t,.int .i64 N.l,.int .i64 N.op,.int .i64 N.n,.string N.x,.slice a1 L1 c1,.slice a2 L2 c2] 62)).alloc (.cells #[.int .i64 0,.int .i64 0,.int .i64 0,.int .i64 0,.int .i64 0,.int .i64 0,.string ⟨#[]⟩,.slice none 0 0,.slice none 0 0] 44)) (.cells #[.int .i64 N.k,.int .i64 N.f,.int .i64 N.t,.int .i64 N.l,.int .i64 N.op,.int .i64 N.n,.string N.x,.slice none 0 0,.slice none 0 0] 44)
  rw[World.size_alloc,World.size_alloc]at this
  exact this
 have hB:Below w.heap.size w W9:=by rw[<-hW9];exact(((Below.refl _ w).alloc (Nat.le_refl _) _).alloc (by simp) _).alloc (by simp;omega) _
 rw[hW9]
 clear hW9
 have hBB:Below w.heap.size w W9:=hB
 refine(toStringS_any W9 _ N.nm (by have:=HN.out.1.below hB;exact this) (by rw[HL.out.1];exact h1)).mono ?_
 rintro e w1 ⟨rfl,own1,hb1⟩
 rw[HL.out.1]at own1⊢
 have hA1:=hA.below hb1
 have hZ1:=hZ.below hb1
 have hO1:=hO.below hb1
 clear hA hZ hO
 obtain⟨p0,p1,p2,p3,p4,p5,p6,p7,p8,pf⟩:=nd_cells hA1
 obtain⟨o0,o1,o2,o3,o4,o5,o6,o7,o8,of⟩:=nd_cells hO1
 have hx1:=hb1.size
 rw[hs9]at own1
 have hs1:w.heap.size+1+1+1<=w1.heap.size:=by omega
 clear o0 o1 o2 o3 o4 o5 o6 o8 p0 p1 p2 p3 p4 p5 p6 p7 pf
 go_wp2_with (go_at_call 83;fail)
 have hA2:NdBox w.heap.size (w1.setCell ⟨w.heap.size+1+1,7,none⟩ (.slice (some ⟨w.heap.size+1+1+1,0,none⟩) L1 L1)) 62 N (.slice a1 L1 c1) (.slice a2 L2 c2):=(heap_setCell_other _ _ _ _ (by simp;omega)).trans hA1
 have hZ2:NdBox (w.heap.size+1) (w1.setCell ⟨w.heap.size+1+1,7,none⟩ (.slice (some ⟨w.heap.size+1+1+1,0,none⟩) L1 L1)) 44 zNd (.slice none 0 0) (.slice none 0 0):=(heap_setCell_other _ _ _ _ (by simp)).trans hZ1
 have hO2:NdBox (w.heap.size+1+1) (w1.setCell ⟨w.heap.size+1+1,7,none⟩ (.slice (some ⟨w.heap.size+1+1+1,0,none⟩) L1 L1)) 44 N (.slice (some ⟨w.heap.size+1+1+1,0,none⟩) L1 L1) (.slice none 0 0):=heap_setCell_same w1 _ 7 _ _ _ hO1
 have own2:=ownsRow_setCell_below (a:=⟨w.heap.size+1+1,7,none⟩) own1 (by simp) (.slice (some ⟨w.heap.size+1+1+1,0,none⟩) L1 L1)
 have hB2:Below w.heap.size w (w1.setCell ⟨w.heap.size+1+1,7,none⟩ (.slice (some ⟨w.heap.size+1+1+1,0,none⟩) L1 L1)):=(hBB.trans (hb1.mono (by omega))).setCell (by simp;omega) _
 have hz2:w.heap.size+1+1+1<=(w1.setCell ⟨w.heap.size+1+1,7,none⟩ (.slice (some ⟨w.heap.size+1+1+1,0,none⟩) L1 L1)).heap.size:=by simpa [World.setCell] using hs1
 generalize w1.setCell ⟨w.heap.size+1+1,7,none⟩ (.slice (some ⟨w.heap.size+1+1+1,0,none⟩) L1 L1)=W2 at hA2 hZ2 hO2 own2 hB2 hz2⊢
 refine(toIntS_any W2 _ N.ks (by have:=HN.out.2.below hB2;exact this) (by rw[HL.out.2];exact h2)).mono ?_
 rintro e w3 ⟨rfl,own3,hb3⟩
 rw[HL.out.2]at own3⊢
 have hZ3:=hZ2.below hb3
 have hO3:=hO2.below hb3
 have own23:=own_keep own2 hb3
 have hB3:=hB2.trans (hb3.mono hB2.size)
 have hx3:=hb3.size
 clear hA1 hZ1 hO1 hA2 hZ2 hO2 own1 own2 o7 of p8 hb1
 obtain⟨g2,hg2⟩:∃g2,W2.heap.size=g2:=⟨_,rfl⟩
 rw[hg2]at own3 hz2 hx3⊢
 obtain⟨o0,o1,o2,o3,o4,o5,o6,o7,o8,of⟩:=nd_cells hO3
 obtain⟨z0,z1,z2,z3,z4,z5,z6,z7,z8,zf⟩:=nd_cells hZ3
 have hy1:w.heap.size+1<w3.heap.size:=lt_of_block hZ3
 have hy2:w.heap.size+1+1<w3.heap.size:=lt_of_block hO3
 clear hg2
 go_wp2_with fail
 have hZ4:NdBox (w.heap.size+1) (w3.setCell ⟨w.heap.size+1+1,8,none⟩ (.slice (some ⟨g2,0,none⟩) L2 L2)) 44 zNd (.slice none 0 0) (.slice none 0 0):=(heap_setCell_other _ _ _ _ (by simp)).trans hZ3
 have hZ5:=nd_set9 hZ4 N (.slice (some ⟨w.heap.size+1+1+1,0,none⟩) L1 L1) (.slice (some ⟨g2,0,none⟩) L2 L2)
 have oo1:=own_set9 (b:=w.heap.size+1) (ownsRow_setCell_below (a:=⟨w.heap.size+1+1,8,none⟩) own23 (by simp) (.slice (some ⟨g2,0,none⟩) L2 L2)) (by omega) N (.slice (some ⟨w.heap.size+1+1+1,0,none⟩) L1 L1) (.slice (some ⟨g2,0,none⟩) L2 L2)
 have oo2:=own_set9 (b:=w.heap.size+1) (ownsRow_setCell_below (a:=⟨w.heap.size+1+1,8,none⟩) own3 (by simp;omega) (.slice (some ⟨g2,0,none⟩) L2 L2)) (by omega) N (.slice (some ⟨w.heap.size+1+1+1,0,none⟩) L1 L1) (.slice (some ⟨g2,0,none⟩) L2 L2)
 have bb:=below_set9 (b:=w.heap.size+1) (hB3.setCell (p:=⟨w.heap.size+1+1,8,none⟩) (by simp;omega) (.slice (some ⟨g2,0,none⟩) L2 L2)) (by omega) N (.slice (some ⟨w.heap.size+1+1+1,0,none⟩) L1 L1) (.slice (some ⟨g2,0,none⟩) L2 L2)
 change bodyPost _ _ _ _ _ (set9 (w3.setCell ⟨w.heap.size+1+1,8,none⟩ (.slice (some ⟨g2,0,none⟩) L2 L2)) (w.heap.size+1) N (.slice (some ⟨w.heap.size+1+1+1,0,none⟩) L1 L1) (.slice (some ⟨g2,0,none⟩) L2 L2))
 generalize set9 (w3.setCell ⟨w.heap.size+1+1,8,none⟩ (.slice (some ⟨g2,0,none⟩) L2 L2)) (w.heap.size+1) N (.slice (some ⟨w.heap.size+1+1+1,0,none⟩) L1 L1) (.slice (some ⟨g2,0,none⟩) L2 L2)=W5 at hZ5 oo1 oo2 bb⊢
 exact bodyPost_ret (results_cell_row rfl _ _ (w.heap.size+1) _ _ _ _ rfl hZ5 Tryz.underlying44 rfl (by kernel_rfl)) rfl ⟨w.heap.size+1+1+1,g2,rfl,own_le oo1 (by omega),own_le oo2 (by omega),bb⟩
end Go.Proofs.YtelfejiiabbpfaaGreatDoor
namespace Go.Proofs
open Go.Shelf
def Tryz.lays103_ren:Go.Shelf.Ren:=⟨fun|103=>183|210=>196|206=>164|n=>n,fun|9=>9|4=>4|24=>155|3=>3|n=>n,fun|n=>n⟩
theorem Tryz.lays103:Go.Proofs.Lays.n103 Tryz.prog Tryz.lays103_ren:={
 mixed:=by kernel_rfl
 f103:=Tryz.func183.trans (congrArg some (by kernel_rfl))
 f206:=Tryz.func164.trans (congrArg some (by kernel_rfl))
 f210:=Tryz.func196.trans (congrArg some (by kernel_rfl))
 t3:=Tryz.underlying3
 a3:=Tryz.isAgg3
 z3:=Tryz.sizeOf3
 v3:=Tryz.zeroValue3
 t4:=Tryz.underlying4
 a4:=Tryz.isAgg4
 z4:=Tryz.sizeOf4
 v4:=Tryz.zeroValue4
 t9:=Tryz.underlying9
 a9:=Tryz.isAgg9
 z9:=Tryz.sizeOf9
 v9:=Tryz.zeroValue9
 t24:=Tryz.underlying155
 a24:=Tryz.isAgg155
 z24:=Tryz.sizeOf155
 v24:=Tryz.zeroValue155}
open Go.RowKit in
theorem Tryz.strings_CutPrefix (s p:ByteArray) (w:World):
  Calls Tryz.prog 183 #[.string s,.string p] w fun e w'=>e= .returned (.tuple #[.string ⟨(Lib.trimPrefix s.data.toList p.data.toList).toArray⟩,.bool (Lib.hasPrefix s.data.toList p.data.toList)])/\w'=w:=Any.strings_CutPrefix Tryz.lays103 s p w
def Tryz.lays104_ren:Go.Shelf.Ren:=⟨fun|104=>150|211=>169|207=>189|n=>n,fun|9=>9|4=>4|24=>155|3=>3|n=>n,fun|n=>n⟩
theorem Tryz.lays104:Go.Proofs.Lays.n104 Tryz.prog Tryz.lays104_ren:={
 mixed:=by kernel_rfl
 f104:=Tryz.func150.trans (congrArg some (by kernel_rfl))
 f207:=Tryz.func189.trans (congrArg some (by kernel_rfl))
 f211:=Tryz.func169.trans (congrArg some (by kernel_rfl))
 t3:=Tryz.underlying3
 a3:=Tryz.isAgg3
 z3:=Tryz.sizeOf3
 v3:=Tryz.zeroValue3
 t4:=Tryz.underlying4
 a4:=Tryz.isAgg4
 z4:=Tryz.sizeOf4
 v4:=Tryz.zeroValue4
 t9:=Tryz.underlying9
 a9:=Tryz.isAgg9
 z9:=Tryz.sizeOf9
 v9:=Tryz.zeroValue9
 t24:=Tryz.underlying155
 a24:=Tryz.isAgg155
 z24:=Tryz.sizeOf155
 v24:=Tryz.zeroValue155}
open Go.RowKit in
theorem Tryz.strings_CutSuffix (s p:ByteArray) (w:World) (hs:s.size<=9223372036854775807):
  Calls Tryz.prog 150 #[.string s,.string p] w fun e w'=>e= .returned (.tuple #[.string ⟨(Lib.trimSuffix s.data.toList p.data.toList).toArray⟩,.bool (Lib.hasSuffix s.data.toList p.data.toList)])/\w'=w:=Any.strings_CutSuffix Tryz.lays104 s p w hs
def Tryz.laysM173_ren:Go.Shelf.Ren:=⟨fun|173=>133|246=>154|283=>172|284=>173|285=>174|286=>175|129=>191|317=>190|318=>192|319=>193|320=>194|337=>202|338=>203|n=>n,fun|2=>2|3=>3|9=>9|4=>4|171=>206|0=>0|53=>161|37=>38|5=>5|173=>209|212=>228|51=>195|20=>20|213=>229|46=>172|232=>251|233=>252|n=>n,fun|17=>6|18=>8|19=>9|n=>n⟩
theorem Tryz.laysM173:Go.Proofs.LaysM.n173 Tryz.prog Tryz.laysM173_ren:={
 mixed:=by kernel_rfl
 f129:=Tryz.func191.trans (congrArg some (by kernel_rfl))
 f173:=Tryz.func133.trans (congrArg some (by kernel_rfl))
 f246:=Tryz.func154.trans (congrArg some (by kernel_rfl))
 f283:=Tryz.func172.trans (congrArg some (by kernel_rfl))
 f284:=Tryz.func173.trans (congrArg some (by kernel_rfl))
 f285:=Tryz.func174.trans (congrArg some (by kernel_rfl))
 f286:=Tryz.func175.trans (congrArg some (by kernel_rfl))
 f317:=Tryz.func190.trans (congrArg some (by kernel_rfl))
 f318:=Tryz.func192.trans (congrArg some (by kernel_rfl))
 f319:=Tryz.func193.trans (congrArg some (by kernel_rfl))
 f320:=Tryz.func194.trans (congrArg some (by kernel_rfl))
 f337:=Tryz.func202.trans (congrArg some (by kernel_rfl))
 f338:=Tryz.func203.trans (congrArg some (by kernel_rfl))
 t0:=Tryz.underlying0
 a0:=Tryz.isAgg0
 z0:=Tryz.sizeOf0
 v0:=Tryz.zeroValue0
 t2:=Tryz.underlying2
 a2:=Tryz.isAgg2
 z2:=Tryz.sizeOf2
 v2:=Tryz.zeroValue2
 t3:=Tryz.underlying3
 a3:=Tryz.isAgg3
 z3:=Tryz.sizeOf3
 v3:=Tryz.zeroValue3
 t4:=Tryz.underlying4
 a4:=Tryz.isAgg4
 z4:=Tryz.sizeOf4
 v4:=Tryz.zeroValue4
 t5:=Tryz.underlying5
 a5:=Tryz.isAgg5
 z5:=Tryz.sizeOf5
 v5:=Tryz.zeroValue5
 t9:=Tryz.underlying9
 a9:=Tryz.isAgg9
 z9:=Tryz.sizeOf9
 v9:=Tryz.zeroValue9
 t20:=Tryz.underlying20
 a20:=Tryz.isAgg20
 z20:=Tryz.sizeOf20
 v20:=Tryz.zeroValue20
 t37:=Tryz.underlying38
 a37:=Tryz.isAgg38
 z37:=Tryz.sizeOf38
 v37:=Tryz.zeroValue38
 t46:=Tryz.underlying172
 a46:=Tryz.isAgg172
 z46:=Tryz.sizeOf172
 v46:=Tryz.zeroValue172
 t51:=Tryz.underlying195
 a51:=Tryz.isAgg195
 z51:=Tryz.sizeOf195
 v51:=Tryz.zeroValue195
 t53:=Tryz.underlying161
 a53:=Tryz.isAgg161
 z53:=Tryz.sizeOf161
 v53:=Tryz.zeroValue161
 t171:=Tryz.underlying206
 a171:=Tryz.isAgg206
 z171:=Tryz.sizeOf206
 v171:=Tryz.zeroValue206
 t173:=Tryz.underlying209
 a173:=Tryz.isAgg209
 z173:=Tryz.sizeOf209
 v173:=Tryz.zeroValue209
 t212:=Tryz.underlying228
 a212:=Tryz.isAgg228
 z212:=Tryz.sizeOf228
 v212:=Tryz.zeroValue228
 t213:=Tryz.underlying229
 a213:=Tryz.isAgg229
 z213:=Tryz.sizeOf229
 t232:=Tryz.underlying251
 a232:=Tryz.isAgg251
 z232:=Tryz.sizeOf251
 v232:=Tryz.zeroValue251
 t233:=Tryz.underlying252
 a233:=Tryz.isAgg252
 z233:=Tryz.sizeOf252
 v233:=Tryz.zeroValue252
 g17:=by kernel_rfl
 g18:=by kernel_rfl
 g19:=by kernel_rfl
 i0:=by kernel_rfl
 i2:=by kernel_rfl
 i3:=by kernel_rfl
 i4:=by kernel_rfl
 i5:=by kernel_rfl
 i9:=by kernel_rfl
 i20:=by kernel_rfl
 i37:=by kernel_rfl
 i46:=by kernel_rfl
 i51:=by kernel_rfl
 i53:=by kernel_rfl
 i171:=by kernel_rfl
 i173:=by kernel_rfl
 i212:=by kernel_rfl
 i232:=by kernel_rfl
 i233:=by kernel_rfl
 m17:=by kernel_rfl
 m18:=by kernel_rfl
 m19:=by kernel_rfl}
open Go.RowKit Go.Sort Go.Lib in
theorem Tryz.strconv_FormatInt_10 (n:Int) (h0: -9223372036854775808<=n) (h1:n<=9223372036854775807) (w:World) (htab:Lib.TabIs Tryz.prog w "internal/strconv.uint64pow10" .u64 Lib.pow10Tab):
  Calls Tryz.prog 133 #[.int .i64 n,.int .i64 10] w fun e w'=>e= .returned (.string ⟨(Lib.itoa n).toArray⟩)/\∃k os,w'=grow (w.drewN k) os:=Any.strconv_FormatInt_10 Tryz.laysM173 n h0 h1 w htab
def Tryz.lays321_ren:Go.Shelf.Ren:=⟨fun|321=>204|n=>n,fun|5=>5|n=>n,fun|n=>n⟩
theorem Tryz.lays321:Go.Proofs.Lays.n321 Tryz.prog Tryz.lays321_ren:={
 mixed:=by kernel_rfl
 f321:=Tryz.func204.trans (congrArg some (by kernel_rfl))
 t5:=Tryz.underlying5
 a5:=Tryz.isAgg5
 z5:=Tryz.sizeOf5
 v5:=Tryz.zeroValue5}
open Go.RowKit in
theorem Tryz.internal_strconv_lower (c:Int) (w:World):
  Calls Tryz.prog 204 #[.int .u8 c] w fun e w'=>e= .returned (.int .u8 (bits .or .u8 c 32))/\w'=w:=Any.internal_strconv_lower Tryz.lays321 c w
def Tryz.laysC174_ren:Go.Shelf.Ren:=⟨fun|174=>185|247=>199|245=>198|287=>197|279=>206|280=>207|281=>208|282=>209|321=>204|322=>205|316=>210|171=>212|205=>211|243=>213|246=>154|283=>172|284=>173|285=>174|286=>175|129=>191|317=>190|318=>192|319=>193|320=>194|337=>202|338=>203|n=>n,fun|9=>9|3=>3|2=>2|75=>180|85=>216|4=>4|167=>244|5=>5|53=>161|175=>214|46=>172|168=>246|37=>38|0=>0|210=>254|21=>21|127=>200|145=>258|143=>256|171=>206|173=>209|212=>228|51=>195|20=>20|213=>229|232=>251|233=>252|80=>184|n=>n,fun|15=>10|16=>11|17=>6|18=>8|19=>9|n=>n⟩
theorem Tryz.laysC174:Go.Proofs.LaysC.n174 Tryz.prog Tryz.laysC174_ren:={
 mixed:=by kernel_rfl
 f129:=Tryz.func191.trans (congrArg some (by kernel_rfl))
 f171:=Tryz.func212.trans (congrArg some (by kernel_rfl))
 f174:=Tryz.func185.trans (congrArg some (by kernel_rfl))
 f205:=Tryz.func211.trans (congrArg some (by kernel_rfl))
 f243:=Tryz.func213.trans (congrArg some (by kernel_rfl))
 f245:=Tryz.func198.trans (congrArg some (by kernel_rfl))
 f246:=Tryz.func154.trans (congrArg some (by kernel_rfl))
 f247:=Tryz.func199.trans (congrArg some (by kernel_rfl))
 f279:=Tryz.func206.trans (congrArg some (by kernel_rfl))
 f280:=Tryz.func207.trans (congrArg some (by kernel_rfl))
 f281:=Tryz.func208.trans (congrArg some (by kernel_rfl))
 f282:=Tryz.func209.trans (congrArg some (by kernel_rfl))
 f283:=Tryz.func172.trans (congrArg some (by kernel_rfl))
 f284:=Tryz.func173.trans (congrArg some (by kernel_rfl))
 f285:=Tryz.func174.trans (congrArg some (by kernel_rfl))
 f286:=Tryz.func175.trans (congrArg some (by kernel_rfl))
 f287:=Tryz.func197.trans (congrArg some (by kernel_rfl))
 f316:=Tryz.func210.trans (congrArg some (by kernel_rfl))
 f317:=Tryz.func190.trans (congrArg some (by kernel_rfl))
 f318:=Tryz.func192.trans (congrArg some (by kernel_rfl))
 f319:=Tryz.func193.trans (congrArg some (by kernel_rfl))
 f320:=Tryz.func194.trans (congrArg some (by kernel_rfl))
 f321:=Tryz.func204.trans (congrArg some (by kernel_rfl))
 f322:=Tryz.func205.trans (congrArg some (by kernel_rfl))
 f337:=Tryz.func202.trans (congrArg some (by kernel_rfl))
 f338:=Tryz.func203.trans (congrArg some (by kernel_rfl))
 t0:=Tryz.underlying0
 a0:=Tryz.isAgg0
 z0:=Tryz.sizeOf0
 v0:=Tryz.zeroValue0
 t2:=Tryz.underlying2
 a2:=Tryz.isAgg2
 z2:=Tryz.sizeOf2
 v2:=Tryz.zeroValue2
 t3:=Tryz.underlying3
 a3:=Tryz.isAgg3
 z3:=Tryz.sizeOf3
 v3:=Tryz.zeroValue3
 t4:=Tryz.underlying4
 a4:=Tryz.isAgg4
 z4:=Tryz.sizeOf4
 v4:=Tryz.zeroValue4
 t5:=Tryz.underlying5
 a5:=Tryz.isAgg5
 z5:=Tryz.sizeOf5
 v5:=Tryz.zeroValue5
 t9:=Tryz.underlying9
 a9:=Tryz.isAgg9
 z9:=Tryz.sizeOf9
 v9:=Tryz.zeroValue9
 t20:=Tryz.underlying20
 a20:=Tryz.isAgg20
 z20:=Tryz.sizeOf20
 v20:=Tryz.zeroValue20
 t21:=Tryz.underlying21
 a21:=Tryz.isAgg21
 z21:=Tryz.sizeOf21
 v21:=Tryz.zeroValue21
 t37:=Tryz.underlying38
 a37:=Tryz.isAgg38
 z37:=Tryz.sizeOf38
 v37:=Tryz.zeroValue38
 t46:=Tryz.underlying172
 a46:=Tryz.isAgg172
 z46:=Tryz.sizeOf172
 v46:=Tryz.zeroValue172
 t51:=Tryz.underlying195
 a51:=Tryz.isAgg195
 z51:=Tryz.sizeOf195
 v51:=Tryz.zeroValue195
 t53:=Tryz.underlying161
 a53:=Tryz.isAgg161
 z53:=Tryz.sizeOf161
 v53:=Tryz.zeroValue161
 t75:=Tryz.underlying180
 a75:=Tryz.isAgg180
 z75:=Tryz.sizeOf180
 v75:=Tryz.zeroValue180
 t85:=Tryz.underlying216
 a85:=Tryz.isAgg216
 z85:=Tryz.sizeOf216
 v85:=Tryz.zeroValue216
 t127:=Tryz.underlying200
 a127:=Tryz.isAgg200
 z127:=Tryz.sizeOf200
 v127:=Tryz.zeroValue200
 t143:=Tryz.underlying256
 a143:=Tryz.isAgg256
 z143:=Tryz.sizeOf256
 v143:=Tryz.zeroValue256
 t145:=Tryz.underlying258
 a145:=Tryz.isAgg258
 z145:=Tryz.sizeOf258
 v145:=Tryz.zeroValue258
 t167:=Tryz.underlying244
 a167:=Tryz.isAgg244
 z167:=Tryz.sizeOf244
 v167:=Tryz.zeroValue244
 t168:=Tryz.underlying246
 a168:=Tryz.isAgg246
 z168:=Tryz.sizeOf246
 v168:=Tryz.zeroValue246
 t171:=Tryz.underlying206
 a171:=Tryz.isAgg206
 z171:=Tryz.sizeOf206
 v171:=Tryz.zeroValue206
 t173:=Tryz.underlying209
 a173:=Tryz.isAgg209
 z173:=Tryz.sizeOf209
 v173:=Tryz.zeroValue209
 t175:=Tryz.underlying214
 a175:=Tryz.isAgg214
 z175:=Tryz.sizeOf214
 v175:=Tryz.zeroValue214
 t210:=Tryz.underlying254
 a210:=Tryz.isAgg254
 z210:=Tryz.sizeOf254
 v210:=Tryz.zeroValue254
 t212:=Tryz.underlying228
 a212:=Tryz.isAgg228
 z212:=Tryz.sizeOf228
 v212:=Tryz.zeroValue228
 t213:=Tryz.underlying229
 a213:=Tryz.isAgg229
 z213:=Tryz.sizeOf229
 t232:=Tryz.underlying251
 a232:=Tryz.isAgg251
 z232:=Tryz.sizeOf251
 v232:=Tryz.zeroValue251
 t233:=Tryz.underlying252
 a233:=Tryz.isAgg252
 z233:=Tryz.sizeOf252
 v233:=Tryz.zeroValue252
 g15:=by kernel_rfl
 g16:=by kernel_rfl
 g17:=by kernel_rfl
 g18:=by kernel_rfl
 g19:=by kernel_rfl
 t80:=Tryz.underlying184
 a80:=Tryz.isAgg184
 z80:=Tryz.sizeOf184
 v80:=Tryz.zeroValue184
 i0:=by kernel_rfl
 i2:=by kernel_rfl
 i3:=by kernel_rfl
 i4:=by kernel_rfl
 i5:=by kernel_rfl
 i9:=by kernel_rfl
 i20:=by kernel_rfl
 i21:=by kernel_rfl
 i37:=by kernel_rfl
 i46:=by kernel_rfl
 i51:=by kernel_rfl
 i53:=by kernel_rfl
 i75:=by kernel_rfl
 i80:=by kernel_rfl
 i85:=by kernel_rfl
 i127:=by kernel_rfl
 i143:=by kernel_rfl
 i145:=by kernel_rfl
 i167:=by kernel_rfl
 i168:=by kernel_rfl
 i171:=by kernel_rfl
 i173:=by kernel_rfl
 i175:=by kernel_rfl
 i210:=by kernel_rfl
 i212:=by kernel_rfl
 i232:=by kernel_rfl
 i233:=by kernel_rfl
 m15:=by kernel_rfl
 m16:=by kernel_rfl
 m17:=by kernel_rfl
 m18:=by kernel_rfl
 m19:=by kernel_rfl
 c0:=by kernel_rfl
 c2:=by kernel_rfl
 c3:=by kernel_rfl
 c4:=by kernel_rfl
 c5:=by kernel_rfl
 c9:=by kernel_rfl
 c20:=by kernel_rfl
 c21:=by kernel_rfl
 c37:=by kernel_rfl
 c46:=by kernel_rfl
 c51:=by kernel_rfl
 c53:=by kernel_rfl
 c75:=by kernel_rfl
 c80:=by kernel_rfl
 c85:=by kernel_rfl
 c127:=by kernel_rfl
 c143:=by kernel_rfl
 c145:=by kernel_rfl
 c167:=by kernel_rfl
 c168:=by kernel_rfl
 c171:=by kernel_rfl
 c173:=by kernel_rfl
 c175:=by kernel_rfl
 c210:=by kernel_rfl
 c212:=by kernel_rfl
 c213:=by kernel_rfl
 c232:=by kernel_rfl
 c233:=by kernel_rfl}
open Go.RowKit in
theorem Tryz.strconv_ParseInt_10_at64_ok (s:ByteArray) (hmax:s.size<=9223372036854775806) (v:Int) (h:Lib.parseIntB 64 s.data.toList= .ok v) (w:World):
  Calls Tryz.prog 185 #[.string s,.int .i64 10,.int .i64 64] w fun e w'=>e= .returned (.tuple #[.int .i64 v,.nilIface])/\(w'=w\/∃t,w'=Lib.bytesWorld w 5 t):=Any.strconv_ParseInt_10_at64_ok Tryz.laysC174 s hmax v h w
open Go.RowKit in
theorem Tryz.strconv_ParseInt_10_at64_syntax (s:ByteArray) (hlim:s.size<=281474976710656) (h:Lib.parseIntB 64 s.data.toList= .«syntax») (ev:Value) (w:World) (hv:w.cell? ⟨10,0,none⟩=some ev) (hev:ev= .nilIface\/∃te pe,ev= .iface te pe):
  Calls Tryz.prog 185 #[.string s,.int .i64 10,.int .i64 64] w fun e w'=>∃N,e= .returned (.tuple #[.int .i64 (0),.iface 246 (.pointer (some ⟨N,0,none⟩))])/\w.heap.size<=N/\w'.heap[N]?=some (.cells #[.string ⟨#[80,97,114,115,101,73,110,116]⟩,.string s,ev] 254 (0,0))/\Below w.heap.size w w':=Any.strconv_ParseInt_10_at64_syntax Tryz.laysC174 s hlim h ev w hv hev
open Go.RowKit in
theorem Tryz.strconv_ParseInt_10_at64_range (s:ByteArray) (hlim:s.size<=281474976710656) (h:Lib.parseIntB 64 s.data.toList= .range) (ev:Value) (w:World) (hv:w.cell? ⟨11,0,none⟩=some ev) (hev:ev= .nilIface\/∃te pe,ev= .iface te pe):
  Calls Tryz.prog 185 #[.string s,.int .i64 10,.int .i64 64] w fun e w'=>∃N,e= .returned (.tuple #[.int .i64 (Lib.intSat 64 s.data.toList),.iface 246 (.pointer (some ⟨N,0,none⟩))])/\w.heap.size<=N/\w'.heap[N]?=some (.cells #[.string ⟨#[80,97,114,115,101,73,110,116]⟩,.string s,ev] 254 (0,0))/\Below w.heap.size w w':=Any.strconv_ParseInt_10_at64_range Tryz.laysC174 s hlim h ev w hv hev
def Tryz.lays99_ren:Go.Shelf.Ren:=⟨fun|99=>144|206=>164|n=>n,fun|9=>9|4=>4|3=>3|n=>n,fun|n=>n⟩
theorem Tryz.lays99:Go.Proofs.Lays.n99 Tryz.prog Tryz.lays99_ren:={
 mixed:=by kernel_rfl
 f99:=Tryz.func144.trans (congrArg some (by kernel_rfl))
 f206:=Tryz.func164.trans (congrArg some (by kernel_rfl))
 t3:=Tryz.underlying3
 a3:=Tryz.isAgg3
 z3:=Tryz.sizeOf3
 v3:=Tryz.zeroValue3
 t4:=Tryz.underlying4
 a4:=Tryz.isAgg4
 z4:=Tryz.sizeOf4
 v4:=Tryz.zeroValue4
 t9:=Tryz.underlying9
 a9:=Tryz.isAgg9
 z9:=Tryz.sizeOf9
 v9:=Tryz.zeroValue9}
open Go.RowKit Go.Lib in
theorem Tryz.strings_HasPrefix (s p:ByteArray) (w:World):
  Calls Tryz.prog 144 #[.string s,.string p] w fun e w'=>e= .returned (.bool (Lib.hasPrefix s.data.toList p.data.toList))/\w'=w:=Any.strings_HasPrefix Tryz.lays99 s p w
def Tryz.lays157_ren:Go.Shelf.Ren:=⟨fun|157=>149|229=>167|199=>168|261=>188|311=>200|312=>201|n=>n,fun|9=>9|31=>41|3=>3|5=>5|4=>4|119=>201|0=>0|40=>203|152=>221|21=>21|154=>223|51=>195|141=>225|196=>235|193=>232|198=>238|49=>236|194=>233|201=>241|226=>249|46=>172|227=>250|n=>n,fun|0=>4|6=>5|n=>n⟩
theorem Tryz.lays157:Go.Proofs.Lays.n157 Tryz.prog Tryz.lays157_ren:={
 mixed:=by kernel_rfl
 f157:=Tryz.func149.trans (congrArg some (by kernel_rfl))
 f199:=Tryz.func168.trans (congrArg some (by kernel_rfl))
 f229:=Tryz.func167.trans (congrArg some (by kernel_rfl))
 f261:=Tryz.func188.trans (congrArg some (by kernel_rfl))
 f311:=Tryz.func200.trans (congrArg some (by kernel_rfl))
 f312:=Tryz.func201.trans (congrArg some (by kernel_rfl))
 t0:=Tryz.underlying0
 a0:=Tryz.isAgg0
 z0:=Tryz.sizeOf0
 v0:=Tryz.zeroValue0
 t3:=Tryz.underlying3
 a3:=Tryz.isAgg3
 z3:=Tryz.sizeOf3
 v3:=Tryz.zeroValue3
 t4:=Tryz.underlying4
 a4:=Tryz.isAgg4
 z4:=Tryz.sizeOf4
 v4:=Tryz.zeroValue4
 t5:=Tryz.underlying5
 a5:=Tryz.isAgg5
 z5:=Tryz.sizeOf5
 v5:=Tryz.zeroValue5
 t9:=Tryz.underlying9
 a9:=Tryz.isAgg9
 z9:=Tryz.sizeOf9
 v9:=Tryz.zeroValue9
 t21:=Tryz.underlying21
 a21:=Tryz.isAgg21
 z21:=Tryz.sizeOf21
 v21:=Tryz.zeroValue21
 t31:=Tryz.underlying41
 a31:=Tryz.isAgg41
 z31:=Tryz.sizeOf41
 v31:=Tryz.zeroValue41
 t40:=Tryz.underlying203
 a40:=Tryz.isAgg203
 z40:=Tryz.sizeOf203
 v40:=Tryz.zeroValue203
 t46:=Tryz.underlying172
 a46:=Tryz.isAgg172
 z46:=Tryz.sizeOf172
 v46:=Tryz.zeroValue172
 t49:=Tryz.underlying236
 a49:=Tryz.isAgg236
 z49:=Tryz.sizeOf236
 v49:=Tryz.zeroValue236
 t51:=Tryz.underlying195
 a51:=Tryz.isAgg195
 z51:=Tryz.sizeOf195
 v51:=Tryz.zeroValue195
 t119:=Tryz.underlying201
 a119:=Tryz.isAgg201
 z119:=Tryz.sizeOf201
 t141:=Tryz.underlying225
 a141:=Tryz.isAgg225
 z141:=Tryz.sizeOf225
 v141:=Tryz.zeroValue225
 t152:=Tryz.underlying221
 a152:=Tryz.isAgg221
 z152:=Tryz.sizeOf221
 v152:=Tryz.zeroValue221
 t154:=Tryz.underlying223
 a154:=Tryz.isAgg223
 z154:=Tryz.sizeOf223
 v154:=Tryz.zeroValue223
 t193:=Tryz.underlying232
 a193:=Tryz.isAgg232
 z193:=Tryz.sizeOf232
 v193:=Tryz.zeroValue232
 t194:=Tryz.underlying233
 a194:=Tryz.isAgg233
 z194:=Tryz.sizeOf233
 v194:=Tryz.zeroValue233
 t196:=Tryz.underlying235
 a196:=Tryz.isAgg235
 z196:=Tryz.sizeOf235
 v196:=Tryz.zeroValue235
 t198:=Tryz.underlying238
 a198:=Tryz.isAgg238
 z198:=Tryz.sizeOf238
 v198:=Tryz.zeroValue238
 t201:=Tryz.underlying241
 a201:=Tryz.isAgg241
 z201:=Tryz.sizeOf241
 v201:=Tryz.zeroValue241
 t226:=Tryz.underlying249
 a226:=Tryz.isAgg249
 z226:=Tryz.sizeOf249
 v226:=Tryz.zeroValue249
 t227:=Tryz.underlying250
 a227:=Tryz.isAgg250
 z227:=Tryz.sizeOf250
 v227:=Tryz.zeroValue250
 g0:=by kernel_rfl
 g6:=by kernel_rfl}
open Go.RowKit Go.Lib in
theorem Tryz.strings_Fields (s:ByteArray) (w:World) (hs:s.size<4294967281) (hascii:∀(j:Nat) b,s.data.toList[j]?=some b->b.toNat<128) (htab:Lib.TabIs Tryz.prog w "strings.asciiSpace" .u8 Lib.asciiSpaceTab):
  Calls Tryz.prog 149 #[.string s] w fun e w'=>
   e= .returned (.slice (some ⟨w.heap.size,0,none⟩) (Lib.fields s.data.toList).length (Lib.fields s.data.toList).length)/\w'=w.alloc (.cells ((Lib.fields s.data.toList).map fun l=>Value.string ⟨l.toArray⟩).toArray 9):=Any.strings_Fields Tryz.lays157 (by kernel_rfl) (by kernel_rfl) s w hs hascii htab
end Go.Proofs
namespace Go.Proofs.YtelfejiiabbpfaaGreatDoor
open Go.RowKit Go.Maps Go.WideMaps
theorem kqf {a b:Int}(h:a=b) (c:Int) (e:(b==c)=false):(a==c)=false:=by rw[h];exact e
theorem kqt {a b:Int}(h:a=b) (c:Int) (e:(b==c)=true):(a==c)=true:=by rw[h];exact e
end Go.Proofs.YtelfejiiabbpfaaGreatDoor
