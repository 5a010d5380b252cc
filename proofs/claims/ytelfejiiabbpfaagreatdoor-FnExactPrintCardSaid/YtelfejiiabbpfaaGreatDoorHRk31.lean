import Derived.Shelf.Strings.Builder1
import Derived.Shelf.Strings.Builder2
import Derived.Shelf.Strings.OnBuilder
import Derived.Shelf.Small.Wraps
import Derived.Shelf.Strings.BuilderF
import Derived.Shelf.Strings.BuilderK
import Derived.Shelf.Strconv.Itoa0
import Derived.Shelf.Strconv.Itoa1
import Derived.Shelf.LaysM
import Derived.Shelf.Strconv.Itoa2
import Derived.Shelf.Strconv.Itoa3
import Derived.Shelf.Strconv.Itoa4
import Derived.Shelf.Strconv.ParseIntEmpty
import Derived.Shelf.Strconv.Clone
import Derived.Shelf.Strconv.SyntaxError
import Derived.Shelf.LaysC
import Derived.Shelf.Strconv.ToError
import Derived.Shelf.Strconv.Lower
import Derived.Shelf.Strconv.ParseUint10
import Derived.Shelf.Strconv.ParseUint10Empty
import Derived.Shelf.Strconv.ParseUint10Any
import Derived.Shelf.Strconv.ParseInt10
import Derived.Shelf.Strconv.RangeError
import Derived.Shelf.Strconv.ToErrorRange
import Derived.Shelf.Strconv.ParseUintEmpty
import Derived.Shelf.Strconv.ParseUint10b64
import Derived.Shelf.Strconv.ParseUint10b32
import Derived.Shelf.Strconv.ParseUint10b16
import Derived.Shelf.Strconv.ParseUint10b8
import Derived.Shelf.Strconv.ParseUint10At
import Derived.Shelf.Strconv.ParseInt10At64
import Derived.Shelf.Strconv.ParseInt10At32
import Derived.Shelf.Strconv.ParseInt10At16
import Derived.Shelf.Strconv.ParseInt10At8
import Derived.Shelf.Strconv.ParseInt10All
import Derived.Shelf.Strconv.ParseIntPublic10
import Derived.Shelf.Strconv.ErrVarParseInt
import Derived.Ground.MpProg
import Derived.Shelf.Pu.ParseUintPublic10
import Derived.Shelf.Pu.ErrVarParseUint
import Derived.Shelf.Strings.Prefix
import Derived.Shelf.Strings.Fields
import Derived.Shelf.Unicode.Latin
import Derived.Shelf.Bits.Mul64
import Derived.Shelf.Strings.Repeat
import Derived.Shelf.Unicode.Is16White
import Derived.Shelf.Unicode.IsSpaceAny
import Derived.Shelf.Unicode.Is16Any
import Derived.Shelf.Unicode.Is32Any
import Derived.Shelf.Unicode.ExclAny
import Derived.Shelf.Slices.Equal
import Derived.Shelf.Slices.Empties2
import Derived.Test.YtelfejiiabbpfaaGreatDoorProg
import Derived.Test.YtelfejiiabbpfaaGreatDoorHRk02
import Derived.Test.YtelfejiiabbpfaaGreatDoorHRk15
import Derived.Test.YtelfejiiabbpfaaGreatDoorHRk03
import Derived.Test.YtelfejiiabbpfaaGreatDoorHRk30
import Derived.OrdersHeld
import Derived.Deep.RegionHeld3
set_option linter.unusedVariables false
set_option maxRecDepth 100000
set_option maxHeartbeats 6400000
namespace Go.Proofs
open Go.Shelf
def Tryz.lays156_ren:Go.Shelf.Ren:=⟨fun|156=>130|165=>145|166=>146|169=>148|240=>165|241=>166|276=>186|277=>187|n=>n,fun|31=>41|9=>9|3=>3|4=>4|0=>0|20=>20|72=>178|76=>181|70=>176|37=>38|75=>180|127=>200|164=>218|5=>5|80=>184|n=>n,fun|n=>n⟩
theorem Tryz.lays156:Go.Proofs.Lays.n156 Tryz.prog Tryz.lays156_ren:={
 mixed:=by kernel_rfl
 f156:=Tryz.func130.trans (congrArg some (by kernel_rfl))
 f165:=Tryz.func145.trans (congrArg some (by kernel_rfl))
 f166:=Tryz.func146.trans (congrArg some (by kernel_rfl))
 f169:=Tryz.func148.trans (congrArg some (by kernel_rfl))
 f240:=Tryz.func165.trans (congrArg some (by kernel_rfl))
 f241:=Tryz.func166.trans (congrArg some (by kernel_rfl))
 f276:=Tryz.func186.trans (congrArg some (by kernel_rfl))
 f277:=Tryz.func187.trans (congrArg some (by kernel_rfl))
 t0:=Tryz.underlying0
 a0:=Tryz.isAgg0
 z0:=Tryz.sizeOf0
 v0:=Tryz.zeroValue0
 t3:=Tryz.underlying3
 a3:=Tryz.isAgg3
 z3:=Tryz.sizeOf3
 v3:=Tryz.zeroValue3
 t4:=Tryz.underlying4
 a4:=Tryz.isAgg4
 z4:=Tryz.sizeOf4
 v4:=Tryz.zeroValue4
 t9:=Tryz.underlying9
 a9:=Tryz.isAgg9
 z9:=Tryz.sizeOf9
 v9:=Tryz.zeroValue9
 t20:=Tryz.underlying20
 a20:=Tryz.isAgg20
 z20:=Tryz.sizeOf20
 v20:=Tryz.zeroValue20
 t31:=Tryz.underlying41
 a31:=Tryz.isAgg41
 z31:=Tryz.sizeOf41
 v31:=Tryz.zeroValue41
 t37:=Tryz.underlying38
 a37:=Tryz.isAgg38
 z37:=Tryz.sizeOf38
 v37:=Tryz.zeroValue38
 t70:=Tryz.underlying176
 a70:=Tryz.isAgg176
 z70:=Tryz.sizeOf176
 v70:=Tryz.zeroValue176
 t72:=Tryz.underlying178
 a72:=Tryz.isAgg178
 z72:=Tryz.sizeOf178
 v72:=Tryz.zeroValue178
 t75:=Tryz.underlying180
 a75:=Tryz.isAgg180
 z75:=Tryz.sizeOf180
 v75:=Tryz.zeroValue180
 t76:=Tryz.underlying181
 a76:=Tryz.isAgg181
 z76:=Tryz.sizeOf181
 v76:=Tryz.zeroValue181
 t127:=Tryz.underlying200
 a127:=Tryz.isAgg200
 z127:=Tryz.sizeOf200
 v127:=Tryz.zeroValue200
 t164:=Tryz.underlying218
 a164:=Tryz.isAgg218
 z164:=Tryz.sizeOf218
 v164:=Tryz.zeroValue218}
theorem Tryz.Builder_Extra_156:Builder.Extra Tryz.prog Tryz.lays156_ren:={
 sizeBuilder:=by kernel_rfl
 liesBuilder:=by kernel_rfl
 t5:=Tryz.underlying5
 a5:=Tryz.isAgg5
 z5:=Tryz.sizeOf5
 v5:=Tryz.zeroValue5
 infoByte:=by kernel_rfl
 cellsByte:=by kernel_rfl
 sizeByte:=by kernel_rfl
 neB5:=by decide}
open Go.RowKit in
theorem Tryz.strings_Join_none (a:Option Addr) (c:Nat) (sep:ByteArray) (w:World):
  Calls Tryz.prog 130 #[.slice a 0 c,.string sep] w fun e w'=>e= .returned (.string ⟨#[]⟩)/\w'=w:=Any.strings_Join_none Tryz.lays156 Tryz.Builder_Extra_156 a c sep w
open Go.RowKit in
theorem Tryz.strings_Join (bk o c:Nat) (xs:List ByteArray) (sep:ByteArray) (w:World) (hcells:∀(j:Nat) x,xs[j]?=some x->w.cell? ⟨bk,o+j,none⟩=some (.string x)) (hbk:bk<w.heap.size) (hN:xs.length<=140737488355328) (hcap:xs.length<=c) (hlen:(Lib.join (xs.map (·.data.toList)) sep.data.toList).length<=140737488355328):
  Calls Tryz.prog 130 #[.slice (some ⟨bk,o,none⟩) xs.length c,.string sep] w fun e w'=>e= .returned (.string ⟨(Lib.join (xs.map (·.data.toList)) sep.data.toList).toArray⟩)/\Below w.heap.size w w':=Any.strings_Join Tryz.lays156 Tryz.Builder_Extra_156 bk o c xs sep w hcells hbk hN hcap hlen
end Go.Proofs
namespace Go.Proofs.YtelfejiiabbpfaaGreatDoor
open Go.RowKit
def wkB (S:List Int):List Int->Int->Option Int
 |[],a=>some a
 |k::r,a=>if k=a-1/\S.getD k.toNat 0≠0 then wkB S r (a-S.getD k.toNat 0) else none
def szNd (S:List Int) (i:Nat) (ks:List Int):Int:=match wkB S ks.reverse i with|some a=>(i:Int)-a+1|none=>0
def szs (ns:List Nd):List Int:=ns.foldl (fun S N=>S++[szNd S S.length N.ks]) []
theorem szs_app (ns:List Nd) (N:Nd):szs (ns++[N])=szs ns++[szNd (szs ns) (szs ns).length N.ks]:=by simp[szs]
theorem rev_ind {α:Type}{p:List α->Prop}(h0:p []) (h1:∀a x,p a->p (a++[x])) (l:List α):p l:=by
 rw[<-List.reverse_reverse l]
 induction l.reverse with
 |nil=>exact h0
 |cons x r ih=>rw[List.reverse_cons];exact h1 _ x ih
theorem szs_len:∀(ns:List Nd),(szs ns).length=ns.length:=by
 intro ns
 refine rev_ind (p:=fun ns=>(szs ns).length=ns.length) rfl (fun a N ih=>?_) ns
 rw[szs_app];simp[ih]
structure WkIs (S:List Int) (l:List Int) (a:Int) (R:Option Int):Prop where
 out:wkB S l a=R
def SzOk (S:List Int):Prop:=∀(j:Nat) z,S[j]?=some z->0<=z/\z<=(j:Int)+1
theorem wkB_bd {S:List Int}(hS:SzOk S):∀(l:List Int) (a b:Int),(∀k∈l,0<=k)->0<=a->wkB S l a=some b->0<=b/\b<=a
 |[],a,b,_,h0,h=>by simp[wkB]at h;omega
 |k::r,a,b,hk,h0,h=>by
  rw[wkB]at h
  split at h
  ·rename_i hc
   have hk0:=hk k (by simp)
   have hz:0<=S.getD k.toNat 0/\S.getD k.toNat 0<=k+1:=by
    rw[List.getD_eq_getElem?_getD]
    cases hs:S[k.toNat]? with
    |none=>simp;omega
    |some z=>have:=hS _ z hs;simp;omega
   have:=wkB_bd hS r _ b (fun z hz=>hk z (by simp[hz])) (by omega) h
   omega
  ·cases h
theorem szNd_bd {S:List Int}(hS:SzOk S) (i:Nat) (ks:List Int) (hk:∀k∈ks,0<=k):0<=szNd S i ks/\szNd S i ks<=(i:Int)+1:=by
 unfold szNd
 cases h:wkB S ks.reverse i with
 |none=>simp;omega
 |some b=>
  have:=wkB_bd hS ks.reverse i b (fun k hk'=>hk k (by simpa using hk')) (by omega) h
  simp;omega
theorem szs_ok (ns:List Nd):(∀N∈ns,∀k∈N.ks,0<=k)->SzOk (szs ns):=by
 refine rev_ind (p:=fun ns=>(∀N∈ns,∀k∈N.ks,0<=k)->SzOk (szs ns)) (fun _ j z h=>by simp[szs]at h) (fun a N ih hk=>?_) ns
 have iha:=ih (fun M hM=>hk M (by simp[hM]))
 intro j z h
 rw[szs_app]at h
 rcases Nat.lt_or_ge j (szs a).length with g|g
 ·rw[List.getElem?_append_left g]at h;exact iha j z h
 ·rw[List.getElem?_append_right g]at h
  obtain⟨h1,h2⟩:=List.getElem?_eq_some_iff.1 h
  simp at h1 h2
  subst h2
  obtain rfl:j=(szs a).length:=by omega
  exact szNd_bd iha _ _ (fun k hk'=>hk N (by simp) k hk')
theorem set_fill1 (A:List Int) (n k:Nat) (z:Int) (hA:A.length=k) (hk:k<n):(A.map (Value.int .i64)++List.replicate (n-k) (Value.int .i64 0)).set k (.int .i64 z)=(A++[z]).map (Value.int .i64)++List.replicate (n-(k+1)) (Value.int .i64 0):=by
 have hl:(A.map (Value.int .i64)).length=k:=by rw[List.length_map,hA]
 rw[List.set_append_right _ _ (by omega),hl,Nat.sub_self,show n-k=(n-(k+1))+1 by omega,List.replicate_succ,List.set_cons_zero]
 simp
theorem l2sizes_any (w:World) (v:Value) (ns:List Nd) (h:NdsAt w v ns) (hl:ns.length<=3000) (hN:∀N∈ns,N.ks.length<=1048576) (hk:∀(i:Nat) N,ns[i]?=some N->∀k∈N.ks,0<=k/\k<(i:Int)):
  Calls Tryz.prog 20 #[.agg #[v]] w fun e w'=>∃g,e= .returned (.slice (some ⟨g,0,none⟩) ns.length ns.length)/\w'.ownsRow w.heap.size 3 1 (.slice (some ⟨g,0,none⟩) ns.length ns.length) ns.length ((szs ns).map (Value.int .i64))/\Below w.heap.size w w':=by
 obtain⟨a,c,rfl⟩:=h.form
 obtain⟨n,hn⟩:∃n,ns.length=n:=⟨_,rfl⟩
 have HN:Hid (ns.length=n):=hn
 have HA:Hid (NdsAt w (.slice a n c) ns):=by rw[<-hn];exact h
 have HS:Hid ((∀N∈ns,N.ks.length<=1048576)/\(∀(i:Nat) N,ns[i]?=some N->∀k∈N.ks,0<=k/\k<(i:Int))/\∀k,SzOk (szs (ns.take k))):=⟨hN,hk,fun k=>szs_ok _ (fun N hN z hz=>by
  obtain⟨i,hi,e⟩:=List.getElem_of_mem (List.mem_of_mem_take hN)
  exact(hk i N (by rw[List.getElem?_eq_getElem hi,e]) z hz).1)⟩
 rw[hn]at hl⊢
 clear h hn hN hk
 obtain⟨i0,hi,hz0,hz1,hz2⟩:=info_parts infoInt
 go_enter Tryz.func20,Tryz.ntmps20
 go_wp2_with (at_make;refine wpList_make_full _ rfl _ _ 42 rfl w.heap.size 3 i0 (.int .i64 0) 1 Tryz.underlying42 hi hz0 hz1 .i64 .i64 _ _ n rfl rfl rfl rfl (by rw[hz2];omega) (by unfold maxLen;omega) (by simp) ?_;intro w0 hown0 hgrow0;have hb0:Below (w.alloc (.cells #[.slice a n c] 29)).heap.size (w.alloc (.cells #[.slice a n c] 29)) w0:=⟨hgrow0.os,hgrow0.tape,hgrow0.output,hgrow0.size,fun k hk=>hgrow0.block k hk (by simp)⟩;have zc:w0.cell? ⟨w.heap.size,0,none⟩=some (.slice a n c):=by {rw[cell_of_row _ _ _ _ _ _ ((hb0.block _ (by simp)).trans (heap_alloc_new w _))];rfl})
 have bw0:Below w.heap.size w w0:=((Below.refl _ w).alloc (Nat.le_refl _) _).trans (hb0.mono (by simp))
 rw[World.size_alloc,show(madeCells (Value.int .i64 0).cells (n*1)).toList=List.replicate n (Value.int .i64 0) by rw[Nat.mul_one];exact toList_madeCells_one _ n]at hown0
 have hs0:w.heap.size+1<w0.heap.size:=(hown0.lt (w.heap.size+1) rfl).2
 clear zc hb0 hgrow0
 go_loopw [17] (fun vi wr=>∃k:Nat,k<=n/\vi= .int .i64 k/\Hid (wr.ownsRow w.heap.size 3 1 (.slice (some ⟨w.heap.size+1,0,none⟩) n n) n ((szs (ns.take k)).map (Value.int .i64)++List.replicate (n-k) (.int .i64 0)))/\Below w.heap.size w wr) (fun vi _=>n-(intOf vi).toNat)
 case atStart=>exact⟨0,Nat.zero_le _,rfl,hown0,bw0⟩
 case round=>
  obtain⟨k,hk,rfl,HO,hb⟩:=hrel
  clear hown0 bw0 hs0
  by_cases hlt:k<n
  ·obtain⟨N,hsk⟩:=some_at HN.out hlt
   have hkl:=HS.out.1 N (List.mem_of_getElem? hsk)
   have hkr:=HS.out.2.1 k N hsk
   have hok:=HS.out.2.2 k
   obtain⟨a',rfl,vn,vk,hNd⟩:=(HA.out.below hb).get hsk
   have hki:(k:Int)<(n:Int):=by omega
   have hk0:(0:Int)<=(k:Int):=by omega
   obtain⟨c0,c1,c2,c3,c4,c5,c6,c7,c8,hnn,hkk⟩:=hNd
   obtain⟨av,cv,rfl⟩:=hnn.form
   obtain⟨ak,ck,rfl⟩:=hkk.form
   obtain⟨S,hSd⟩:∃S,szs (ns.take k)=S:=⟨_,rfl⟩
   have hSl:S.length=k:=by rw[<-hSd,szs_len,List.length_take,HN.out];omega
   have hnx:szs (ns.take (k+1))=S++[szNd S k N.ks]:=by
    rw[List.take_add_one,hsk]
    show szs (ns.take k++[N])=_
    rw[szs_app,hSd,hSl]
   rw[hSd]at HO hok
   obtain⟨L,hL⟩:∃L,N.ks.length=L:=⟨_,rfl⟩
   rw[hL]at c8 hkl
   have hkk':IntsAt wr (.slice ak L ck) N.ks:=by rw[<-hL];exact hkk
   have HF:Hid (N.ks.length=L/\IntsAt wr (.slice ak L ck) N.ks/\(∀z∈N.ks,0<=z/\z<(k:Int))/\SzOk S/\S.length=k/\szs (ns.take (k+1))=S++[szNd S k N.ks]):=⟨hL,hkk',hkr,hok,hSl,hnx⟩
   have HW0:WkIs S (N.ks.take L).reverse k (wkB S N.ks.reverse k):=⟨by rw[<-hL,List.take_length]⟩
   obtain⟨RR,hRR⟩:∃RR,wkB S N.ks.reverse k=RR:=⟨_,rfl⟩
   rw[hRR]at HW0
   have HRR:Hid (wkB S N.ks.reverse k=RR):=hRR
   generalize N.nm.length=L1 at c7
   clear hsk hnn hkk hkk' hkr hok hSl hnx hSd hL hRR
   go_wp2_with fail
   have hbA:Below wr.heap.size wr (wr.alloc (.cells #[.int .i64 N.k,.int .i64 N.f,.int .i64 N.t,.int .i64 N.l,.int .i64 N.op,.int .i64 N.n,.string N.x,.slice av L1 cv,.slice ak L ck] 44)):=(Below.refl _ wr).alloc (Nat.le_refl _) _
   have d8:(wr.alloc (.cells #[.int .i64 N.k,.int .i64 N.f,.int .i64 N.t,.int .i64 N.l,.int .i64 N.op,.int .i64 N.n,.string N.x,.slice av L1 cv,.slice ak L ck] 44)).cell? ⟨wr.heap.size,8,none⟩=some (.slice ak L ck):=by rw[cell_of_row _ _ _ _ _ _ (heap_alloc_new wr _)];rfl
   have o1:=own_keep HO.out hbA
   generalize wr.alloc (.cells #[.int .i64 N.k,.int .i64 N.f,.int .i64 N.t,.int .i64 N.l,.int .i64 N.op,.int .i64 N.n,.string N.x,.slice av L1 cv,.slice ak L ck] 44)=W1 at hbA d8 o1⊢
   have HI:Hid (IntsAt W1 (.slice ak L ck) N.ks):=HF.out.2.1.below hbA
   have HO1:Hid (W1.ownsRow w.heap.size 3 1 (.slice (some ⟨w.heap.size+1,0,none⟩) n n) n (S.map (Value.int .i64)++List.replicate (n-k) (.int .i64 0))):=o1
   have hbW:Below w.heap.size w W1:=hb.trans (hbA.mono hb.size)
   have hfz:=o1.frozenAt k
   have hck:W1.cell? ⟨w.heap.size+1,k,none⟩=some (.int .i64 0):=by
    rw[o1.cellAt k (by omega),List.getElem?_append_right (by rw[List.length_map,HF.out.2.2.2.2.1];exact Nat.le_refl _),List.length_map,HF.out.2.2.2.2.1,Nat.sub_self,List.getElem?_replicate,if_pos (by omega)]
   clear HO o1 c0 c1 c2 c3 c4 c5 c6 c7 c8 hb hbA
   go_loop [6,7,8] (fun va vo vj=>∃(m:Nat) (A:Int),va= .int .i64 A/\vo= .bool true/\vj= .int .i64 ((m:Int)-1)/\m<=L/\0<=A/\A<=(k:Int)/\WkIs S (N.ks.take m).reverse A RR) (fun _ _ vj=>(intOf vj+1).toNat)
   case atStart=>exact⟨L,k,rfl,rfl,rfl,Nat.le_refl _,by omega,by omega,HW0⟩
   case round=>
    obtain⟨m,A,rfl,rfl,rfl,hm,hA0,hA1,HW⟩:=hrel
    clear HW0
    have hw:=HW.out
    cases m with
    |zero=>
     have hz:szNd S k N.ks=(k:Int)-A+1:=by
      unfold szNd
      rw[HRR.out]
      rw[List.take_zero,List.reverse_nil,wkB]at hw
      rw[<-hw]
     have HZ:Hid (szNd S k N.ks=(k:Int)-A+1):=hz
     have hneg:¬(0:Int)<=((0:Nat):Int)-1:=by omega
     have o2:=(HO1.out.stored k (.int .i64 ((k:Int)-A+1))).1
     rw[set_fill1 S n k _ HF.out.2.2.2.2.1 hlt]at o2
     have HO2:Hid ((W1.setCell ⟨w.heap.size+1,k,none⟩ (.int .i64 ((k:Int)-A+1))).ownsRow w.heap.size 3 1 (.slice (some ⟨w.heap.size+1,0,none⟩) n n) n ((S++[(k:Int)-A+1]).map (Value.int .i64)++List.replicate (n-(k+1)) (.int .i64 0))):=o2
     clear hw HW hz o2
     go_wp2_with fail
     refine⟨⟨k+1,by omega,by go_num,?_,hbW.setCell (by simp) _⟩,by simp[intOf];omega⟩
     show World.ownsRow _ _ _ _ _ _ _
     rw[HF.out.2.2.2.2.2,HZ.out]
     exact HO2.out
    |succ m=>
     obtain⟨z,hz⟩:=some_at HF.out.1 (show m<L by omega)
     obtain⟨b',hak,hcz⟩:=HI.out.get hz
     subst hak
     obtain⟨hz0',hz1'⟩:=HF.out.2.2.1 z (List.mem_of_getElem? hz)
     rw[List.take_add_one,hz]at hw
     simp only[Option.toList_some,List.reverse_append,List.reverse_cons,List.reverse_nil,List.nil_append,List.singleton_append]at hw
     rw[wkB]at hw
     obtain⟨q,rfl⟩:=Int.eq_ofNat_of_zero_le hz0'
     have hq:q<k:=by omega
     obtain⟨sz,hsz⟩:=some_at HF.out.2.2.2.2.1 hq
     have hbd:=HF.out.2.2.2.1 q sz hsz
     have hcq:W1.cell? ⟨w.heap.size+1,q,none⟩=some (.int .i64 sz):=by
      rw[HO1.out.cellAt q (by omega),List.getElem?_append_left (by rw[List.length_map,HF.out.2.2.2.2.1];exact hq),List.getElem?_map,hsz];rfl
     have hgd:S.getD q 0=sz:=by rw[List.getD_eq_getElem?_getD,hsz];rfl
     simp only[Int.toNat_natCast,hgd]at hw
     have em:(((m+1:Nat)):Int)-1=(m:Int):=by omega
     rw[em]
     have hm0:(0:Int)<=(m:Int):=by omega
     have hmL:(m:Int)<(L:Int):=by omega
     have hqn:(q:Int)<(n:Int):=by omega
     have hq0:(0:Int)<=(q:Int):=by omega
     by_cases hc:(q:Int)=A-1/\sz≠0
     ·rw[if_pos hc]at hw
      have HW2:WkIs S (N.ks.take m).reverse (A-sz) RR:=⟨hw⟩
      have hc2:¬sz=0:=hc.2
      have hc1:=hc.1
      clear hw HW hz hsz hgd hc
      obtain rfl:A=(q:Int)+1:=by omega
      clear hc1
      go_wp2_with fail
      go_round
      case rel=>exact⟨m,(q:Int)+1-sz,by go_num,rfl,by go_num,by omega,by omega,by omega,HW2⟩
      case measure=>simp[intOf]
     ·rw[if_neg hc]at hw
      have HZ:Hid (szNd S k N.ks=0):=by
       show szNd S k N.ks=0
       unfold szNd
       rw[HRR.out,<-hw]
      have HO2:Hid (W1.ownsRow w.heap.size 3 1 (.slice (some ⟨w.heap.size+1,0,none⟩) n n) n ((szs (ns.take (k+1))).map (Value.int .i64)++List.replicate (n-(k+1)) (.int .i64 0))):=by
       have h1:=HO1.out
       show World.ownsRow _ _ _ _ _ _ _
       rw[HF.out.2.2.2.2.2,HZ.out,List.map_append]
       rw[show n-k=(n-(k+1))+1 by omega,List.replicate_succ]at h1
       rw[List.append_assoc]
       exact h1
      by_cases hc1:(q:Int)=A-1
      ·have hc2:sz=0:=by
        rcases Int.lt_trichotomy sz 0 with g|g|g
        ·omega
        ·exact g
        ·exact absurd ⟨hc1,by omega⟩ hc
       subst hc2
       clear hw HW hz hsz hgd hc
       obtain rfl:A=(q:Int)+1:=by omega
       clear hc1
       go_wp2_with fail
       exact⟨⟨k+1,by omega,by go_num,HO2,hbW⟩,by simp[intOf];omega⟩
      ·clear hw HW hz hsz hgd hc
       go_wp2_with fail
       exact⟨⟨k+1,by omega,by go_num,HO2,hbW⟩,by simp[intOf];omega⟩
  ·obtain rfl:k=n:=by omega
   go_wp2_with fail
   go_ret
   refine⟨_,rfl,?_,hb⟩
   have h1:=HO.out
   rw[List.take_of_length_le (by rw[HN.out];exact Nat.le_refl _),Nat.sub_self,List.replicate_zero,List.append_nil]at h1
   exact h1
def GoesOr (B:Nat) (W:World) (Z X:World->Prop):Exit->Act->World->Prop
 | .normal,_,W'=>KeepsFrom B W W'/\Z W'
 | .ret,_,W'=>KeepsFrom B W W'/\X W'
 |_,_,_=>False
theorem rangeDown {P:Program}{n:Nat}{g:Operand}{ps:Array Tmp}{assign body:Go.Code}{Q:Exit->Act->World->Prop}{a:Act}{w:World}{gf:Nat}{lb:Array Value}
  (hg:a.eval g= .func (.func gf) #[] lb) (eg:∀args w,(callFunc gf args).run P w= .ok (.enter gf args) w) (enc:Nat->Array Value) (hps:∀x,(enc x).size=ps.size) (len:Nat)
  (Z:Nat->World->Prop) (Ax:Nat->Act->World->Prop) (X:World->Prop)
  (pZ:∀m W r o,Z m W->W.heap[w.heap.size+1]?=some (.loop r)->Z m (W.putObj (w.heap.size+1) o))
  (pAx:∀m a' W r o,Ax m a' W->W.heap[w.heap.size+1]?=some (.loop r)->Ax m a' (W.putObj (w.heap.size+1) o)) (pX:∀W r o,X W->W.heap[w.heap.size+1]?=some (.loop r)->X (W.putObj (w.heap.size+1) o))
  (h0:∀W1,Below w.heap.size w W1->W1.heap.size=w.heap.size+2->Z len W1)
  (hassign:∀(l m:Nat) W (K:Act->World->Prop),m<len->Z (m+1) W->(∀a' W',Ax m a' W'->KeepsFrom w.heap.size W W'->K a' W')->
   assign.wpIn (Fence.wide.inRound l) (n-1-1) P (Exit.then K (fun _ _ _=>False)) {tmps:=(ps.zip (enc m)).foldl (fun t (p,v)=>t.setIfInBounds p v) a.tmps,defers:=[]} W)
  (hbody:∀(l m:Nat) a' W,m<len->Ax m a' W->body.wpIn (Fence.wide.inRound l) (n-1-1) P (GoesOr w.heap.size W (Z m) X) a' W)
  (hseq:∀(l:Nat) (J:Nat->World->Prop) (Jx:World->Prop),(∀m W,J m W->Z m W)->
   (∀m W,m<len->J (m+1) W->YieldAt Fence.wide (n-1-1) P l (enc m) W fun e W'=>(e= .returned (.bool true)/\J m W')\/(e= .returned (.bool false)/\Jx W'))->
   ∀W,J len W->CallsIn Fence.wide (n-1) P gf (#[.func (.yield l) #[] #[]]++lb) W fun e W'=>(∃v,e= .returned v)/\(J 0 W'\/Jx W'))
  (hdone:∀W,Z 0 W->W.heap[w.heap.size]?=some (.deferred (some []))->Q .normal {a with defers:={target:= .collected w.heap.size,args:=#[]}::a.defers} W)
  (hret:∀W,X W->W.heap[w.heap.size]?=some (.deferred (some []))->Q .ret {a with defers:={target:= .collected w.heap.size,args:=#[]}::a.defers} W):
  (Go.Code.rangeFunc g ps assign body).wpIn Fence.wide n P Q a w:=by
 refine wpIn_rangeFunc ?_
 intro fn hfn
 show ∃l mark w₁ d w₁' f args w₂,(Instr.enterLoop fn a.tmps ps assign body none).run P w=_/\_
 obtain⟨rc,hrc⟩:∃rc:LoopState->Option Go.Code->Loop,rc=fun st pe=>{state:=st,pending:=pe,fn,tmps:=a.tmps,params:=ps,assign,body,defers:=w.heap.size}:=⟨_,rfl⟩
 have heq:=run_enterLoop_outer (P:=P) (w:=w) fn a.tmps ps assign body
 rw[show({state:= .ready,pending:=none,fn,tmps:=a.tmps,params:=ps,assign,body,defers:=w.heap.size}:Loop)=rc .ready none by rw[hrc]]at heq
 obtain⟨W1,hW1⟩:∃W1,(w.alloc (.deferred (some []))).alloc (.loop (rc .ready none))=W1:=⟨_,rfl⟩
 rw[hW1]at heq
 have hl1:W1.heap[w.heap.size+1]?=some (.loop (rc .ready none)):=by
  rw[<-hW1];have:=World.alloc_heap_new (w.alloc (.deferred (some []))) (.loop (rc .ready none));rwa [World.size_alloc]at this
 have hd1:W1.heap[w.heap.size]?=some (.deferred (some [])):=by
  rw[<-hW1];exact(Below.heap_alloc _ _ _ (by simp)).trans (World.alloc_heap_new w _)
 have hb1:Below w.heap.size w W1:=by rw[<-hW1];exact((Below.refl _ w).alloc (Nat.le_refl _) _).alloc (by simp) _
 have hs1:W1.heap.size=w.heap.size+2:=by rw[<-hW1];simp
 refine⟨w.heap.size+1,[{target:= .collected w.heap.size,args:=#[]}],W1,{target:= .fn (.func gf) lb,args:=#[.func (.yield (w.heap.size+1)) #[] #[]]},W1,gf,
  #[.func (.yield (w.heap.size+1)) #[] #[]]++lb,W1,heq,?_,?_,?_,fun h=>by simp[Fence.wide]at h,?_⟩
 ·simp only[resolve,hg];simp[go_sem]
 ·intro f' hf';trivial
 ·simp[invoke,go_sem,eg]
 ·refine(hseq (w.heap.size+1) (fun m W=>Z m W/\W.heap[w.heap.size+1]?=some (.loop (rc .ready none))/\W.heap[w.heap.size]?=some (.deferred (some [])))
   (fun W=>X W/\W.heap[w.heap.size+1]?=some (.loop (rc .done (some .ret)))/\W.heap[w.heap.size]?=some (.deferred (some []))) (fun _ _ h=>h.1) ?_ W1 ⟨h0 W1 hb1 hs1,hl1,hd1⟩).mono ?_
  ·rintro m W hm ⟨hZ,hl,hd⟩
   have hy:=run_yield (P:=P) (args:=enc m) hl (by rw[hrc];exact hps m)
   rw[hrc]at hy
   refine⟨fn,_,assign,body,hy,roundIn_of_wpIn hfn (hassign _ m W _ hm hZ fun a' W' hAx hkf=>?_)⟩
   have hl2:=hkf.same _ _ (by omega) hl rfl
   have hd2:=hkf.same _ _ (Nat.le_refl _) hd rfl
   have hlt:w.heap.size+1<W'.heap.size:=(Array.getElem?_eq_some_iff.1 hl2).1
   refine⟨_,run_beginRound hl2 (by rw[hrc]),?_⟩
   have hl3:(W'.putObj (w.heap.size+1) (.loop {rc .ready none with state:= .busy})).heap[w.heap.size+1]?=some (.loop {rc .ready none with state:= .busy}):=World.putObj_heap_same hlt
   have hd3:(W'.putObj (w.heap.size+1) (.loop {rc .ready none with state:= .busy})).heap[w.heap.size]?=some (.deferred (some [])):=(World.putObj_heap_other (by omega)).trans hd2
   refine wpIn_mono (hbody _ m a' _ hm (pAx _ _ _ _ _ hAx hl2)) ?_
   rintro e a3 W3 hp
   cases e with
   |normal=>
    obtain⟨hk3,hz3⟩:=hp
    have hl4:=hk3.same _ _ (by omega) hl3 rfl
    have hd4:=hk3.same _ _ (Nat.le_refl _) hd3 rfl
    have hlt4:=(Array.getElem?_eq_some_iff.1 hl4).1
    refine⟨_,_,run_endRound (P:=P) none hl4,.inl ⟨rfl,pZ _ _ _ _ hz3 hl4,?_,(World.putObj_heap_other (by omega)).trans hd4⟩⟩
    rw[World.putObj_heap_same hlt4];simp[hrc]
   |ret=>
    obtain⟨hk3,hz3⟩:=hp
    have hl4:=hk3.same _ _ (by omega) hl3 rfl
    have hd4:=hk3.same _ _ (Nat.le_refl _) hd3 rfl
    have hlt4:=(Array.getElem?_eq_some_iff.1 hl4).1
    refine⟨_,_,run_endRound (P:=P) (some .ret) hl4,.inr ⟨rfl,pX _ _ _ hz3 hl4,?_,(World.putObj_heap_other (by omega)).trans hd4⟩⟩
    rw[World.putObj_heap_same hlt4];simp[hrc]
   |_=>exact hp.elim
  ·rintro e W2 ⟨⟨v,rfl⟩,⟨hZ,hl,hd⟩|⟨hX,hl,hd⟩⟩
   ·refine⟨none,_,by have:=run_endLoop (P:=P) hl (by rw[hrc];simp);rw[hrc]at this;exact this,?_⟩
    exact hdone _ (pZ _ _ _ _ hZ hl) ((World.putObj_heap_other (by omega)).trans hd)
   ·refine⟨some .ret,_,by have:=run_endLoop (P:=P) hl (by rw[hrc];simp);rw[hrc]at this;exact this,?_⟩
    exact wpIn_ret (hret _ (pX _ _ _ hX hl) ((World.putObj_heap_other (by omega)).trans hd))
theorem upon_round {P:Program}{l n:Nat}{o:Oper}{a:Act}{K:Act->World->Prop}{Q:Exit->Act->World->Prop}(r:Result Next) (h:o.upon P a K Q r):o.uponIn (Fence.wide.inRound l) n P a K Q r:=by
 have hd:(Fence.wide.inRound l).depth.isSome=true->1<=n:=fun h=>by simp[Fence.wide,Fence.inRound]at h
 cases r with
 |ok x w=>
  cases x with
  |value v=>exact h
  |skip=>exact h
  |defer d=>exact h
  |enter f args=>exact⟨hd,CallsIn.inRound l (callsIn_wide.2 h)⟩
  |row row args=>exact⟨hd,fun c cs _=>let ⟨v,w',r,s⟩:=h c cs;⟨v,w',r,stepsIn_wide.2 s⟩⟩
  |_=>exact h.elim
 |halt x w=>
  cases x with
  |panic v=>exact h
  |_=>exact h.elim
def noDef (o:Oper):Bool:=match o.op with| .defer _=>false|_=>true
theorem noDef_ne {o:Oper}(h:noDef o=true):∀c,o.op≠ .defer c:=by
 intro c e
 unfold noDef at h
 rw[e]at h
 cases h
theorem wpOp_round {P:Program}{ops:Array Oper}{Q:Exit->Act->World->Prop}{l n i:Nat}{K:Act->World->Prop}{a:Act}{w:World}(hd:∀(j:Nat) (o:Oper),ops[j]?=some o->noDef o=true) (hq:¬LetsOut Q) (h:wpOp P ops Q i K a w):wpOpIn (Fence.wide.inRound l) n P ops Q i K a w:=by
 unfold wpOp at h
 unfold wpOpIn
 cases ho:ops[i]? with
 |none=>simpa [ho] using h
 |some o=>
  simp only[ho]at h⊢
  split
  ·rename_i hw
   simp only[hw,if_true]at h
   rcases h with h|h
   ·refine⟨fun f _=>trivial,?_⟩
    show o.uponIn _ _ _ _ _ _ ((o.semAt (some l) a.eval).run P w)
    rw[Oper.semAt_some l a.eval o (noDef_ne (hd i o ho))]
    exact upon_round _ h
   ·exact absurd h.2 hq
  ·rename_i hw
   simp only[hw]at h
   exact⟨fun f _=>trivial,by simpa using h⟩
theorem wpAnyIn_round {P:Program}{md:Region.Mode}{ops:Array Oper}{Q:Exit->Act->World->Prop}{l n:Nat}(hd:∀(j:Nat) (o:Oper),ops[j]?=some o->noDef o=true) (hq:¬LetsOut Q):
  ∀(fuel:Nat) (listed:Array Bool) (a:Act) (w:World),wpAny P md ops Q fuel listed a w->wpAnyIn (Fence.wide.inRound l) n P md ops Q fuel listed a w
 |0,_,_,_,h=>h
 |fuel+1,_,_,_,h=>⟨h.1,fun i hi=>wpOp_round hd hq (wpOp_mono (fun a' w' h'=>wpAnyIn_round hd hq fuel _ a' w' h') (h.2 i hi))⟩
theorem region_round {P:Program}{ops:Array Oper}{Q:Exit->Act->World->Prop}{l n id:Nat}{S:World->Prop}{a:Act}{w:World}(hm:P.follows .mixedOrders=true) (hd:ops.all noDef=true) (hq:¬LetsOut Q) (hS:S w.drew)
  (h:S w.drew->wpAnyH P .any ops Q S ops.size (Array.replicate ops.size false) a w.drew):(Go.Code.region id ops true).wpIn (Fence.wide.inRound l) n P Q a w:=
 wpIn_region_any hm (wpAnyIn_round (fun j o ho=>by
  obtain⟨hj,e⟩:=Array.getElem?_eq_some_iff.1 ho
  rw[<-e]
  exact Array.all_eq_true.1 hd j hj) hq _ _ _ _ (wpAny_of_held _ _ _ _ (h hS)))
theorem takeAt {P:Program}{md:Region.Mode}{ops:Array Oper}{Q:Exit->Act->World->Prop}{S:World->Prop}(i:Nat) (d:Tmp) (v:Value) {oi:Oper}{fuel:Nat}{listed:Array Bool}{a:Act}{w:World}(hi:ops[i]?=some oi) (hd:oi.dst=some d)
  (hs:Region.noSelect ops=true) (hf:Region.free md ops listed i=true) (hr:(Region.ready md ops listed).contains i=true)
  (hQ:∀c a w,Q (.panic c) (a.put (some d) v) w->Q (.panic c) a w) (hw:Region.wanted oi (yielded ops a.tmps)=true) (hS:S w) (hy:∀w,S w->(execOp a.eval oi).run P w= .ok (.value v) w)
  (h:wpAnyH P md ops Q S fuel (listed.setIfInBounds i true) (a.put (some d) v) w):wpAnyH P md ops Q S (fuel+1) listed a w:=
 wpAnyH_take hi hs hf hr (by rw[hd];exact hQ) (Or.inl ⟨hw,hy⟩) hS (by rw[hd];exact h)
def markOf (b:Nat):Deferred:={target:= .collected b,args:=#[]}
structure Marks (B:Nat) (c:List Nat) (W:World):Prop where
 nd:c.Nodup
 lo:∀b∈c,B<=b
 at_:∀b∈c,W.heap[b]?=some (.deferred (some []))
structure ShutAll (c:List Nat) (W W':World):Prop where
 os:W'.os=W.os
 tape:W'.tape=W.tape
 output:W'.output=W.output
 size:W'.heap.size=W.heap.size
 same:∀k,k ∉ c->W'.heap[k]?=W.heap[k]?
theorem leaves_marks {F:Fence}{n:Nat}{P:Program}{fn:Func}{tmps:Array Value}{R:Ending->World->Prop}(B:Nat):∀(c:List Nat) (W:World),Marks B c W->(∀W',ShutAll c W W'->LeavesInM F n P fn tmps R [] .returning W')->LeavesInM F n P fn tmps R (c.map markOf) .returning W
 |[],W,_,h=>h W ⟨rfl,rfl,rfl,rfl,fun _ _=>rfl⟩
 |b::c,W,hm,h=>by
  have hb:=hm.at_ b (by simp)
  have hnd:=List.nodup_cons.1 hm.nd
  have hlt:b<W.heap.size:=(Array.getElem?_eq_some_iff.1 hb).1
  refine⟨by simp,.inl ⟨b,_,rfl,run_takeDeferred hb,?_⟩⟩
  refine leaves_marks B c _ ⟨hnd.2,fun k hk=>hm.lo k (by simp[hk]),fun k hk=>?_⟩ (fun W' hw=>?_)
  ·exact(World.putObj_heap_other (by rintro rfl;exact hnd.1 hk)).trans (hm.at_ k (by simp[hk]))
  ·refine h W' ⟨hw.os,hw.tape,hw.output,hw.size.trans (by simp),fun k hk=>?_⟩
   simp at hk
   exact(hw.same k hk.2).trans (World.putObj_heap_other hk.1)
theorem ShutAll.below {c:List Nat}{w W W':World}{B:Nat}(h:ShutAll c W W') (hb:Below B w W) (hc:∀b∈c,B<=b) (hB:B<=w.heap.size):Below B w W':=
 ⟨h.os.trans hb.os,h.tape.trans hb.tape,h.output.trans hb.output,by rw[h.size];exact hb.size,fun k hk=>(h.same k (fun hm=>by have:=hc k hm;omega)).trans (hb.block k hk)⟩
theorem Marks.below {B:Nat}{c:List Nat}{W W':World}(h:Marks B c W) (hb:Below W.heap.size W W'):Marks B c W':=
 ⟨h.nd,h.lo,fun b hm=>(hb.block b (Array.getElem?_eq_some_iff.1 (h.at_ b hm)).1).trans (h.at_ b hm)⟩
theorem Marks.set {B:Nat}{c:List Nat}{W:World}(h:Marks B c W) (a:Addr) (v:Value) {cs:Array Value}{t:TypeId}{fr:Nat×Nat}(ha:W.heap[a.block]?=some (.cells cs t fr)):Marks B c (W.setCell a v):=
 ⟨h.nd,h.lo,fun b hm=>(heap_setCell_other _ _ _ _ (fun e=>by
  have:=h.at_ b hm
  rw[e,ha]at this
  cases this)).trans (h.at_ b hm)⟩
theorem Marks.keeps {B:Nat}{c:List Nat}{W W':World}(h:Marks B c W) (hb:KeepsOthers W W'):Marks B c W':=
 ⟨h.nd,h.lo,fun b hm=>hb.same b _ (h.at_ b hm) rfl⟩
end Go.Proofs.YtelfejiiabbpfaaGreatDoor
