import Derived.Test.YtelfejiiabbpfaaGreatDoorHRk29
import Derived.Deep.RegionLaw
set_option linter.unusedVariables false
set_option maxRecDepth 100000
set_option maxHeartbeats 12800000
namespace Go.Proofs.YtelfejiiabbpfaaGreatDoor
open Go.RowKit Go.Maps Go.WideMaps
theorem AdSt.start {w0 w W:World}{lb mb p bn:Nat}{vs:Value}{L:List Im}{N:Nd}{vn vk:Value}(he:Errs w0) (hL:NsAt w w0.heap.size vs L) (hw:w.heap.size<=bn) (hlbn:lb≠bn) (hpbn:p≠bn) (lk:Lk W lb mb vs) (ns:NsAt W w0.heap.size vs L) (rb:NdBox p W 44 N vn vk) (bx:InBox W bn N vn 0 (.slice none 0 0)) (bl:Below w0.heap.size w0 W) (lo:w0.heap.size<=lb/\w0.heap.size<=bn/\w0.heap.size<=p):
  AdSt w0 lb mb p bn vs L N vn vk (.slice none 0 0) 0 (W.setCell ⟨bn,4,none⟩ (.int .i64 L.length)):=by
 have hs:Below w0.heap.size w0 (W.setCell ⟨bn,4,none⟩ (.int .i64 L.length)):=bl.setCell lo.2.1 _
 have oth:∀{b:Nat},b≠bn->(W.setCell ⟨bn,4,none⟩ (.int .i64 L.length)).heap[b]?=W.heap[b]?:=fun hne=>heap_setCell_other _ _ _ _ hne
 have setr:∀{v:Value}{n:Nat}{xs:List Value},W.ownsRow w0.heap.size 49 1 v n xs->(W.setCell ⟨bn,4,none⟩ (.int .i64 L.length)).ownsRow w0.heap.size 49 1 v n xs:=fun ho=>
  ho.kept (row:=some bn) ⟨rfl,rfl,rfl,by simp[World.setCell],fun k hk hne=>heap_setCell_other _ _ _ _ (fun e=>hne (by rw[e]))⟩ (by
   cases hv:Value.ownBlock _ with
   |none=>exact .inl rfl
   |some k=>exact .inr (fun e=>by obtain⟨⟨c,hc⟩,_⟩:=own_isRow ho hv;obtain rfl:=Option.some.inj e;exact blk_ne bx hc (stT_ne _).1 rfl))
 refine⟨⟨(oth hlbn).trans lk.b,wd_keep lk.m (oth (fun e=>map_ne lk.m bx e)),he.keep hs⟩,⟨setr ns.row,fun i x hx=>?_,fun i x hx=>setr (ns.kid i x hx),ns.far,ns.rng⟩,(oth hpbn).trans rb,?_,?_,.inl rfl,fun x hx=>?_,hs,lo⟩
 ·have:=lt_of_block (hL.box i x hx)
  exact(oth (by omega)).trans (ns.box i x hx)
 ·unfold InBox at bx⊢
  have:=heap_setCell_same W bn 4 _ _ (.int .i64 L.length) bx
  rw[this]
  simp
 ·rw[List.take_zero];exact World.ownsRow_nil _ _ _ _
 ·cases x.kv.ownBlock with
  |none=>exact .inl rfl
  |some k=>exact .inr (by simp[Value.ownBlock])
theorem add_zero_at (g m:Nat):(⟨g,0,none⟩:Addr).add m=⟨g,m,none⟩:=by unfold Addr.add;split<;>simp_all
theorem AdSt.done {w0:World}{lb mb p bn:Nat}{vs:Value}{L:List Im}{N:Nd}{vn vk kv:Value}{W W':World}(he:Errs w0) (h:AdSt w0 lb mb p bn vs L N vn vk kv N.ks.length W) (hr:∀z∈N.ks,0<=z/\z<(L.length:Int)) {vs':Value}(hg:W.grownBy W' vs.ownBlock) (ho:W'.ownsRow w0.heap.size 49 1 vs' (L.length+1) (L.map nV++[nodeV N.k bn])) (hat:vs'.ownBlock=vs.ownBlock\/vs'.ownBlock=some W.heap.size):
  W'.heap[lb]?=some (.cells #[.map (some mb),vs] 74 (0,0))/\
  Lk (W'.setCell ⟨lb,1,none⟩ vs') lb mb vs'/\NsAt (W'.setCell ⟨lb,1,none⟩ vs') w0.heap.size vs' (L++[⟨N,bn,vn,kv⟩])/\InBox (W'.setCell ⟨lb,1,none⟩ vs') bn N vn L.length kv/\Below w0.heap.size w0 (W'.setCell ⟨lb,1,none⟩ vs'):=by
 have hrow:∀k,vs.ownBlock=some k->IsRow W k/\w0.heap.size<=k:=fun k hk=>own_isRow h.ns.row hk
 have keep:∀{b:Nat}{cs:Array Value}{t:TypeId},W.heap[b]?=some (.cells cs t (0,0))->t≠49->W'.heap[b]?=some (.cells cs t (0,0)):=fun hb ht=>
  (hg.block _ (lt_of_block hb) (fun e=>by obtain⟨⟨c,hc⟩,_⟩:=hrow _ e.symm;exact blk_ne hb hc ht rfl)).trans hb
 have lb':=keep h.lk.b (by decide)
 have bel':Below w0.heap.size w0 W':=h.bl.grown hg h.bl.size (fun k hk=>(hrow k hk).2)
 have hs:Below w0.heap.size w0 (W'.setCell ⟨lb,1,none⟩ vs'):=bel'.setCell h.lo.1 _
 have set:∀{b:Nat}{cs:Array Value}{t:TypeId},W'.heap[b]?=some (.cells cs t (0,0))->t≠74->(W'.setCell ⟨lb,1,none⟩ vs').heap[b]?=some (.cells cs t (0,0)):=fun hb ht=>
  (heap_setCell_other _ _ _ _ (fun e=>by exact blk_ne hb lb' ht e)).trans hb
 have setr:∀{v:Value}{n:Nat}{xs:List Value},W'.ownsRow w0.heap.size 49 1 v n xs->(W'.setCell ⟨lb,1,none⟩ vs').ownsRow w0.heap.size 49 1 v n xs:=fun ho=>
  ho.kept (row:=some lb) ⟨rfl,rfl,rfl,by simp[World.setCell],fun k hk hne=>heap_setCell_other _ _ _ _ (fun e=>hne (by rw[e]))⟩ (by
   cases hv:Value.ownBlock _ with
   |none=>exact .inl rfl
   |some k=>exact .inr (fun e=>by obtain⟨⟨c,hc⟩,_⟩:=own_isRow ho hv;obtain rfl:=Option.some.inj e;exact blk_ne lb' hc (by decide) rfl))
 have bx':InBox (W'.setCell ⟨lb,1,none⟩ vs') bn N vn L.length kv:=set (keep h.bx (stT_ne _).1) (stT_ne _).2.1
 have hm:=wd_keep h.lk.m (hg.block _ h.lk.m.lt (fun e=>by obtain⟨⟨c,hc⟩,_⟩:=hrow _ e.symm;exact map_ne h.lk.m hc rfl))
 have hfull:kidsIn L (N.ks.take N.ks.length)=kidsIn L N.ks:=by rw[List.take_length]
 have hkr:=h.kr
 rw[hfull]at hkr
 have fv:∀{v:Value}{n:Nat}{xs:List Value},W.ownsRow w0.heap.size 49 1 v n xs->(v.ownBlock=none\/v.ownBlock≠vs.ownBlock)->(v.ownBlock=none\/v.ownBlock≠vs'.ownBlock):=fun ho hv=>by
  rcases hv with e|e
  ·exact .inl e
  ·rename_i v n xs
   cases hb:v.ownBlock with
   |none=>exact .inl rfl
   |some k=>
    have:=(ho.lt k hb).2
    rcases hat with e2|e2
    ·rw[e2,<-hb];exact .inr e
    ·rw[e2];exact .inr (by simp only[ne_eq,Option.some.injEq];omega)
 refine⟨lb',⟨heap_setCell_same W' lb 1 _ _ _ lb',wd_keep hm (heap_setCell_other _ _ _ _ (fun e=>by exact map_ne hm lb' e)),he.keep hs⟩,⟨?_,?_,?_,?_,?_⟩,bx',hs⟩
 ·rw[List.length_append,List.map_append];exact setr ho
 ·intro i x hx
  rcases Nat.lt_or_ge i L.length with g|g
  ·rw[List.getElem?_append_left g]at hx
   exact set (keep (h.ns.box i x hx) (stT_ne _).1) (stT_ne _).2.1
  ·rw[List.getElem?_append_right g]at hx
   obtain⟨h1,h2⟩:=List.getElem?_eq_some_iff.1 hx
   simp at h1 h2
   subst h2
   obtain rfl:i=L.length:=by omega
   exact bx'
 ·intro i x hx
  rcases Nat.lt_or_ge i L.length with g|g
  ·rw[List.getElem?_append_left g]at hx
   rw[List.take_append_of_le_length (by omega)]
   exact setr ((h.ns.kid i x hx).kept hg (h.ns.far x (List.mem_of_getElem? hx)))
  ·rw[List.getElem?_append_right g]at hx
   obtain⟨h1,h2⟩:=List.getElem?_eq_some_iff.1 hx
   simp at h1 h2
   subst h2
   obtain rfl:i=L.length:=by omega
   rw[List.take_left]
   exact setr (hkr.kept hg h.fr)
 ·intro x hx
  rcases List.mem_append.1 hx with hx|hx
  ·obtain⟨i,hi,ei⟩:=List.getElem_of_mem hx
   exact fv (h.ns.kid i x (by rw[List.getElem?_eq_getElem hi,ei])) (h.ns.far x hx)
  ·obtain rfl:=List.mem_singleton.1 hx
   exact fv hkr h.fr
 ·intro i x z hx hz
  rcases Nat.lt_or_ge i L.length with g|g
  ·rw[List.getElem?_append_left g]at hx
   exact h.ns.rng i x z hx hz
  ·rw[List.getElem?_append_right g]at hx
   obtain⟨h1,h2⟩:=List.getElem?_eq_some_iff.1 hx
   simp at h1 h2
   subst h2
   obtain rfl:i=L.length:=by omega
   exact hr z hz
def kinds (ns:List Nd) (ks:List Int):List Int:=ks.map fun z=>(ns.getD z.toNat zNd).k
theorem NsAt.kids {W:World}{base:Nat}{vs:Value}{L:List Im}(h:NsAt W base vs L) {ns:List Nd}(hns:L.map Im.N=ns.take L.length) {i:Nat}{x:Im}(hx:L[i]?=some x):KidsAt W x.kv (kinds ns x.N.ks):=by
 have hk:=h.kid i x hx
 have hl:(kinds ns x.N.ks).length=x.N.ks.length:=by simp[kinds]
 have hil:i<L.length:=(List.getElem?_eq_some_iff.1 hx).1
 rcases own_zero_or hk with⟨hn,e⟩|⟨g,cap,e⟩
 ·exact .inl ⟨List.eq_nil_of_length_eq_zero (by omega),_,_,e⟩
 ·rw[e]at hk⊢
  refine .inr ⟨⟨g,0,none⟩,cap,by rw[hl],?_,fun j k hj=>?_⟩
  ·rw[hl]
   rcases hk.2 with⟨h1,_⟩|⟨g2,cap2,cur,h1,_,_,h4,_⟩
   ·cases h1
   ·cases h1;exact h4
  ·unfold kinds at hj
   rw[List.getElem?_map]at hj
   cases hz:x.N.ks[j]? with
   |none=>rw[hz]at hj;cases hj
   |some z=>
    rw[hz]at hj
    obtain rfl:=Option.some.inj hj
    obtain⟨z0,z1⟩:=h.rng i x z hx (List.mem_of_getElem? hz)
    obtain⟨y,hy⟩:∃y,L[z.toNat]?=some y:=⟨L[z.toNat]'(by omega),List.getElem?_eq_getElem _⟩
    have hyk:(ns.getD z.toNat zNd)=y.N:=by
     have e1:(L.map Im.N)[z.toNat]?=some y.N:=by rw[List.getElem?_map,hy];rfl
     rw[hns,List.getElem?_take,if_pos (by omega)]at e1
     rw[List.getD_eq_getElem?_getD,e1];rfl
    have hjl:j<x.N.ks.length:=(List.getElem?_eq_some_iff.1 hz).1
    refine⟨y.b,?_,?_⟩
    ·rw[add_zero_at,hk.cellAt j (by omega)]
     unfold kidsIn
     rw[List.getElem?_map,hz]
     simp only[Option.map_some]
     rw[List.getElem?_take,if_pos (by omega),hy,hyk]
     rfl
    ·show W.cell? ⟨y.b,0,none⟩=some (.int .i64 (ns.getD z.toNat zNd).k)
     rw[hyk];exact(h.box _ y hy).cells.1
theorem infoNodeI:(Tryz.prog.info? 49).map (fun i=>(i.zero,i.size,i.bytes))=some (some .nilIface,1,16):=by kernel_rfl
def fldI (N:Nd):Bool:=decide (0<=N.f/\N.f<=N.t/\0<=N.l/\N.ks.length<=200/\N.nm.length<=200)
def addB (ns:List Nd) (i:Nat) (N:Nd):Bool:=
 fldI N&&(sameB (rowN N (cls N.k)) N&&(klB N.ks i N.ks.length 0&&(ffB N N.ks.length (cls N.k)&&kfB N (kinds ns N.ks))))
def AddPost (w0:World) (lb mb:Nat) (L:List Im) (ns:List Nd) (N:Nd) (vn:Value) (e:Ending) (w':World):Prop:=
 e= .returned (.bool (addB ns L.length N))/\Below w0.heap.size w0 w'/\(addB ns L.length N=true->∃vs' x,x.N=N/\x.vn=vn/\Lk w' lb mb vs'/\NsAt w' w0.heap.size vs' (L++[x]))
theorem add_early (w:World) (lb:Nat) (N:Nd) (vn vk:Value) (hn:StrsAt w vn N.nm) (hk:IntsAt w vk N.ks) (sm:NdSmall N) (h:fldI N=false):
  Calls Tryz.prog 29 #[.pointer (some ⟨lb,0,none⟩),vNd N vn vk] w fun e w'=>e= .returned (.bool false)/\Below w.heap.size w w':=by
 have hb0:∀o,Below w.heap.size w (w.alloc o):=fun o=>(Below.refl _ w).alloc (Nat.le_refl _) o
 obtain⟨a1,c1,rfl⟩:=hn.form
 obtain⟨a2,c2,rfl⟩:=hk.form
 have l1:=sm.l1
 have l2:=sm.l2
 unfold fldI at h
 have h':=of_decide_eq_false h
 unfold vNd
 generalize N.nm.length=L1 at l1 h'⊢
 generalize N.ks.length=L2 at l2 h'⊢
 clear hn hk sm h
 obtain⟨nk,nf,nt,nl,nop,nn,nx,nnm,nks⟩:=N
 simp only at h'⊢
 by_cases g1:nf<0
 ·clear h'
  go_enter Tryz.func29,Tryz.ntmps29
  go_wp2
  go_ret
  exact⟨rfl,hb0 _⟩
 by_cases g2:nt<nf
 ·clear h'
  go_enter Tryz.func29,Tryz.ntmps29
  go_wp2
  go_ret
  exact⟨rfl,hb0 _⟩
 by_cases g3:nl<0
 ·clear h'
  go_enter Tryz.func29,Tryz.ntmps29
  go_wp2
  go_ret
  exact⟨rfl,hb0 _⟩
 by_cases g4:(200:Int)<(L2:Int)
 ·clear h'
  go_enter Tryz.func29,Tryz.ntmps29
  go_wp2
  go_ret
  exact⟨rfl,hb0 _⟩
 have g5:(200:Int)<(L1:Int):=by omega
 clear h'
 go_enter Tryz.func29,Tryz.ntmps29
 go_wp2
 go_ret
 exact⟨rfl,hb0 _⟩
theorem frozen_kept {W W':World}(hb:Below W.heap.size W W') {a:Addr}(ha:a.block<W.heap.size) {r:Bool}(h:W.frozen? a=r):W'.frozen? a=r:=by
 rw[<-h];exact World.frozen?_of_block (hb.block _ ha)
theorem rowS {w:World}{N:Nd}{vn:Value}(h:StrsAt w vn N.nm) (k:Int):StrsAt w (rowV vn (cls k)) (rowN N (cls k)).nm:=by
 rcases cls_lt k with hc|hc|hc|hc|hc|hc|hc
 ·rw[hc];exact h
 ·rw[hc];exact .inl ⟨rfl,_,_,rfl⟩
 ·rw[hc];exact .inl ⟨rfl,_,_,rfl⟩
 ·rw[hc];exact .inl ⟨rfl,_,_,rfl⟩
 ·rw[hc];exact .inl ⟨rfl,_,_,rfl⟩
 ·rw[hc];exact h
 ·rw[hc];exact .inl ⟨rfl,_,_,rfl⟩
theorem rowS_len {N:Nd}(k:Int) (h:N.nm.length<=1048576):(rowN N (cls k)).nm.length<=1048576:=by
 rcases cls_lt k with hc|hc|hc|hc|hc|hc|hc
 ·rw[hc];exact h
 ·rw[hc];exact Nat.zero_le _
 ·rw[hc];exact Nat.zero_le _
 ·rw[hc];exact Nat.zero_le _
 ·rw[hc];exact Nat.zero_le _
 ·rw[hc];exact h
 ·rw[hc];exact Nat.zero_le _
theorem add_late (w0 w:World) (he:Errs w0) (hB0:Below w0.heap.size w0 w) (lb mb:Nat) (hlb:w0.heap.size<=lb) (vs:Value) (L:List Im) (h:Lk w lb mb vs) (hN:NsAt w w0.heap.size vs L) (N:Nd) (vn vk:Value) (hn:StrsAt w0 vn N.nm) (hk:IntsAt w0 vk N.ks) (sm:NdSmall N) (hL:L.length<=3000) (ns:List Nd) (hns:L.map Im.N=ns.take L.length) (hin:ns[L.length]?=some N) (htab:∀W,Below w0.heap.size w0 W->Lib.TabIs Tryz.prog W "strings.asciiSpace" .u8 Lib.asciiSpaceTab) (hf:fldI N=true):
  Calls Tryz.prog 29 #[.pointer (some ⟨lb,0,none⟩),vNd N vn vk] w (AddPost w0 lb mb L ns N vn):=by
 have kno:=fun W (hB:Below w.heap.size w W)=>nodeOf_any W N vn vk (by obtain⟨a,c,e⟩:=hn.form;exact⟨_,_,_,e⟩) (by obtain⟨a,c,e⟩:=hk.form;exact⟨_,_,_,e⟩)
 obtain⟨R,hR⟩:∃R,addB ns L.length N=R:=⟨_,rfl⟩
 unfold AddPost
 rw[hR]
 unfold addB at hR
 rw[hf,Bool.true_and]at hR
 obtain⟨a1,c1,rfl⟩:=hn.form
 obtain⟨a2,c2,rfl⟩:=hk.form
 unfold fldI at hf
 obtain⟨f1,f2,f3,f4,f5⟩:=of_decide_eq_true hf
 have HH:Hid (Lk w lb mb vs/\NsAt w w0.heap.size vs L/\StrsAt w0 (.slice a1 N.nm.length c1) N.nm/\IntsAt w0 (.slice a2 N.ks.length c2) N.ks/\NdSmall N/\L.map Im.N=ns.take L.length/\(∀W,Below w0.heap.size w0 W->Lib.TabIs Tryz.prog W "strings.asciiSpace" .u8 Lib.asciiSpaceTab)/\Errs w0/\Below w0.heap.size w0 w/\ns[L.length]?=some N):=⟨h,hN,hn,hk,sm,hns,htab,he,hB0,hin⟩
 have HR:Hid ((sameB (rowN N (cls N.k)) N&&(klB N.ks L.length N.ks.length 0&&(ffB N N.ks.length (cls N.k)&&kfB N (kinds ns N.ks))))=R):=hR
 have g1:¬N.f<0:=by omega
 have g2:¬N.t<N.f:=by omega
 have g3:¬N.l<0:=by omega
 unfold vNd at kno⊢
 obtain⟨L1,hL1⟩:∃n,N.nm.length=n:=⟨_,rfl⟩
 obtain⟨L2,hL2⟩:∃n,N.ks.length=n:=⟨_,rfl⟩
 have HL:Hid (N.nm.length=L1/\N.ks.length=L2):=⟨hL1,hL2⟩
 rw[hL1]at kno HH f5⊢
 rw[hL2]at kno HH f4⊢
 have g4:¬(200:Int)<(L2:Int):=by omega
 have g5:¬(200:Int)<(L1:Int):=by omega
 have hlw:lb<w.heap.size:=lt_of_block HH.out.1.b
 clear hL1 hL2 hn hk sm hns htab he hB0 h hN hR hf f1 f2 f3 hin
 go_enter Tryz.func29,Tryz.ntmps29
 go_wp2_with (go_at_call 84;fail)
 have hbo:Below w.heap.size w (w.alloc (.cells #[.int .i64 N.k,.int .i64 N.f,.int .i64 N.t,.int .i64 N.l,.int .i64 N.op,.int .i64 N.n,.string N.x,.slice a1 L1 c1,.slice a2 L2 c2] 44)):=(Below.refl _ w).alloc (Nat.le_refl _) _
 have hrb:NdBox w.heap.size (w.alloc (.cells #[.int .i64 N.k,.int .i64 N.f,.int .i64 N.t,.int .i64 N.l,.int .i64 N.op,.int .i64 N.n,.string N.x,.slice a1 L1 c1,.slice a2 L2 c2] 44)) 44 N (.slice a1 L1 c1) (.slice a2 L2 c2):=heap_alloc_new w _
 have hs1:(w.alloc (.cells #[.int .i64 N.k,.int .i64 N.f,.int .i64 N.t,.int .i64 N.l,.int .i64 N.op,.int .i64 N.n,.string N.x,.slice a1 L1 c1,.slice a2 L2 c2] 44)).heap.size=w.heap.size+1:=World.size_alloc _ _
 generalize w.alloc (.cells #[.int .i64 N.k,.int .i64 N.f,.int .i64 N.t,.int .i64 N.l,.int .i64 N.op,.int .i64 N.n,.string N.x,.slice a1 L1 c1,.slice a2 L2 c2] 44)=W1 at hbo hrb hs1⊢
 refine(kno W1 hbo).mono ?_
 rintro e w2 ⟨rfl,hbx,hb2⟩
 rw[hs1]at hbx⊢
 obtain⟨bn,hbn⟩:∃bn,w.heap.size+1+1+1=bn:=⟨_,rfl⟩
 rw[hbn]at hbx⊢
 have rb2:=hrb.below hb2
 have b02:Below w.heap.size w w2:=hbo.trans (hb2.mono (by omega))
 obtain⟨d0,d1,d2,d3,d4,d5,d6,d7,d8,df⟩:=nd_cells rb2
 have bD:Below w2.heap.size w2 w2.drew:=bel_drew1 (Below.refl _ w2)
 have hnD:StrsAt w2.drew (.slice a1 L1 c1) N.nm:=((HH.out.2.2.1.below HH.out.2.2.2.2.2.2.2.2.1).below b02).below bD
 have kro:=rowOf_any w2.drew bn N (.slice a1 L1 c1) (.slice none 0 0) 0 ⟨_,_,_,rfl⟩ (hbx.below bD)
 have ksf:=fun W (hB:Below w2.drew.heap.size w2.drew W)=>sameFields_any W (rowN N (cls N.k)) N (rowV (.slice a1 L1 c1) (cls N.k)) (.slice none 0 0) (.slice a1 L1 c1) (.slice a2 L2 c2) ((rowS hnD N.k).below hB) (hnD.below hB) ⟨_,_,_,rfl⟩ ⟨_,_,_,rfl⟩ (rowS_len _ HH.out.2.2.2.2.1.l1) HH.out.2.2.2.2.1.l1
 obtain⟨a3,n3,c3,hrv⟩:∃a n c,rowV (.slice a1 L1 c1) (cls N.k)= .slice a n c:=by
  unfold rowV;split<;>exact⟨_,_,_,rfl⟩
 rw[hrv]at kro ksf
 unfold vNd at kro ksf
 obtain⟨sb,hsb⟩:∃sb,sameB (rowN N (cls N.k)) N=sb:=⟨_,rfl⟩
 rw[hsb]at ksf
 have HSB:Hid (sameB (rowN N (cls N.k)) N=sb):=hsb
 obtain⟨RN,hrn⟩:∃RN,rowN N (cls N.k)=RN:=⟨_,rfl⟩
 rw[hrn]at kro ksf HSB
 clear hsb hnD hrv kno hrb hbo hb2
 have hmt:=fun w=>methK N.k bn w
 have kh:=fun w=>head_any bn w
 unfold nodeV at kro⊢
 have HTP:Hid (ptT (cls N.k)=ptT (cls N.k)):=rfl
 generalize htp:ptT (cls N.k)=tp at kro hmt⊢
 go_wp2_with fail
 cases sb with
 |false=>
  have HRf:Hid (false=R):=by have:=HR.out;rw[hrn,HSB.out,Bool.false_and]at this;exact this
  go_region_held3 (fun w'=>w'.cell? ⟨w.heap.size,0,none⟩=some (.int .i64 N.k)/\w'.cell? ⟨w.heap.size,1,none⟩=some (.int .i64 N.f)/\w'.cell? ⟨w.heap.size,2,none⟩=some (.int .i64 N.t)/\w'.cell? ⟨w.heap.size,3,none⟩=some (.int .i64 N.l)/\w'.cell? ⟨w.heap.size,4,none⟩=some (.int .i64 N.op)/\w'.cell? ⟨w.heap.size,5,none⟩=some (.int .i64 N.n)/\w'.cell? ⟨w.heap.size,6,none⟩=some (.string N.x)/\w'.cell? ⟨w.heap.size,7,none⟩=some (.slice a1 L1 c1)/\w'.cell? ⟨w.heap.size,8,none⟩=some (.slice a2 L2 c2)) (first|go_keep|exact⟨cell_kept hb4 (cell_kept hb3 d0),cell_kept hb4 (cell_kept hb3 d1),cell_kept hb4 (cell_kept hb3 d2),cell_kept hb4 (cell_kept hb3 d3),cell_kept hb4 (cell_kept hb3 d4),cell_kept hb4 (cell_kept hb3 d5),cell_kept hb4 (cell_kept hb3 d6),cell_kept hb4 (cell_kept hb3 d7),cell_kept hb4 (cell_kept hb3 d8)⟩|exact⟨cell_kept hb3 d0,cell_kept hb3 d1,cell_kept hb3 d2,cell_kept hb3 d3,cell_kept hb3 d4,cell_kept hb3 d5,cell_kept hb3 d6,cell_kept hb3 d7,cell_kept hb3 d8⟩) (first|(go_at_call 86;refine kro.mono ?_;rintro e w3 ⟨rfl,hb3⟩)|(go_at_call 85;refine(ksf _ hb3).mono ?_;rintro e w4 ⟨rfl,hb4⟩))
  go_wp2_with fail
  go_ret
  have hbb:Below w.heap.size w w4:=b02.trans (((bel_drew1 (Below.refl _ w2)).trans (hb3.trans (hb4.mono hb3.size))).mono b02.size)
  exact⟨by rw[<-HRf.out];rfl,HH.out.2.2.2.2.2.2.2.2.1.trans (hbb.mono HH.out.2.2.2.2.2.2.2.2.1.size),fun h=>by rw[<-HRf.out]at h;cases h⟩
 |true=>
  have HR2:Hid ((klB N.ks L.length N.ks.length 0&&(ffB N N.ks.length (cls N.k)&&kfB N (kinds ns N.ks)))=R):=by have:=HR.out;rw[hrn,HSB.out,Bool.true_and]at this;exact this
  go_region_held3 (fun w'=>w'.cell? ⟨w.heap.size,0,none⟩=some (.int .i64 N.k)/\w'.cell? ⟨w.heap.size,1,none⟩=some (.int .i64 N.f)/\w'.cell? ⟨w.heap.size,2,none⟩=some (.int .i64 N.t)/\w'.cell? ⟨w.heap.size,3,none⟩=some (.int .i64 N.l)/\w'.cell? ⟨w.heap.size,4,none⟩=some (.int .i64 N.op)/\w'.cell? ⟨w.heap.size,5,none⟩=some (.int .i64 N.n)/\w'.cell? ⟨w.heap.size,6,none⟩=some (.string N.x)/\w'.cell? ⟨w.heap.size,7,none⟩=some (.slice a1 L1 c1)/\w'.cell? ⟨w.heap.size,8,none⟩=some (.slice a2 L2 c2)) (first|go_keep|exact⟨cell_kept hb4 (cell_kept hb3 d0),cell_kept hb4 (cell_kept hb3 d1),cell_kept hb4 (cell_kept hb3 d2),cell_kept hb4 (cell_kept hb3 d3),cell_kept hb4 (cell_kept hb3 d4),cell_kept hb4 (cell_kept hb3 d5),cell_kept hb4 (cell_kept hb3 d6),cell_kept hb4 (cell_kept hb3 d7),cell_kept hb4 (cell_kept hb3 d8)⟩|exact⟨cell_kept hb3 d0,cell_kept hb3 d1,cell_kept hb3 d2,cell_kept hb3 d3,cell_kept hb3 d4,cell_kept hb3 d5,cell_kept hb3 d6,cell_kept hb3 d7,cell_kept hb3 d8⟩) (first|(go_at_call 86;refine kro.mono ?_;rintro e w3 ⟨rfl,hb3⟩)|(go_at_call 85;refine(ksf _ hb3).mono ?_;rintro e w4 ⟨rfl,hb4⟩))
  have b24:Below w2.heap.size w2 w4:=(bel_drew1 (Below.refl _ w2)).trans (hb3.trans (hb4.mono hb3.size))
  have b04:Below w.heap.size w w4:=b02.trans (b24.mono b02.size)
  obtain⟨lk,hns0,hnm,hks,sm,hnse,htab,he,hB0,hin⟩:=HH.out
  have bl4:Below w0.heap.size w0 w4:=hB0.trans (b04.mono hB0.size)
  have lk4:=lk.below b04
  have ns4:=hns0.below b04
  have rb4:=rb2.below b24
  have bx4:=hbx.below b24
  have hw0:=hB0.size
  have st:=AdSt.start he hns0 (by omega) (by omega) (by omega) lk4 ns4 rb4 bx4 bl4 ⟨hlb,by omega,hw0⟩
  obtain⟨av,cv,hvs⟩:=own_form ns4.row
  have d1':w4.cell? ⟨lb,1,none⟩=some (.slice av L.length cv):=by rw[<-hvs,cell_of_row _ _ _ _ _ _ lk4.b];rfl
  have e4:=bx4.cells.2.2.2.1
  have ef:=bx4.cells.2.2.2.2.2
  have hbl4:bn<w4.heap.size:=lt_of_block bx4
  have HST:Hid (AdSt w0 lb mb w.heap.size bn vs L N (.slice a1 L1 c1) (.slice a2 L2 c2) (.slice none 0 0) 0 (w4.setCell ⟨bn,4,none⟩ (.int .i64 L.length))):=st
  obtain⟨nL,hnL⟩:∃nL,L.length=nL:=⟨_,rfl⟩
  rw[hnL]at d1' HST hL
  have HNL:Hid (L.length=nL):=hnL
  clear st lk4 ns4 rb4 bx4 b24 lk hns0 hnm hks sm hnse htab he hB0 hin d0 d1 d2 d3 d4 d5 d6 d7 d8 df kro ksf hbx rb2 bD HSB hnL
  go_wp2_with (go_at_call 233;refine(kh _).mono ?_;rintro e w5 ⟨rfl,rfl⟩)
  obtain⟨i0,hi,hz0,hz1,hz2⟩:=info_parts infoNodeI
  clear d1' e4 ef b04 bl4 hbl4 hvs
  go_loopw [54] (fun vj wr=>∃(j:Nat) (kv:Value),vj= .int .i64 j/\j<=L2/\Hid ((klB N.ks nL (L2-j) j&&(ffB N L2 (cls N.k)&&kfB N (kinds ns N.ks)))=R)/\Hid (∀z∈N.ks.take j,0<=z/\z<(nL:Int))/\Hid (AdSt w0 lb mb w.heap.size bn vs L N (.slice a1 L1 c1) (.slice a2 L2 c2) kv j wr)) (fun vj _=>L2-(intOf vj).toNat)
  case atStart=>
   refine⟨0,_,rfl,Nat.zero_le _,?_,fun z hz=>by simp at hz,HST.out⟩
   have:=HR2.out
   rw[HNL.out,HL.out.2]at this
   exact this
  case round=>
   obtain⟨j,kv,rfl,hj,HJ,HZ,HS⟩:=hrel
   clear HST
   have st:=HS.out
   have hst:=HJ.out
   by_cases hlt:j<L2
   ·obtain⟨z,hz⟩:=some_at HL.out.2 hlt
    obtain⟨a',ha2,hcz⟩:=(HH.out.2.2.2.1.below st.bl).get hz
    subst ha2
    have hji:(j:Int)<(L2:Int):=by omega
    have hj0:(0:Int)<=(j:Int):=by omega
    have e4:=st.bx.cells.2.2.2.1
    rw[HNL.out]at e4
    rw[show L2-j=(L2-(j+1))+1 by omega,klB,List.getD_eq_getElem?_getD,hz,Option.getD_some]at hst
    by_cases gz:0<=z/\z<(nL:Int)
    ·obtain⟨m,rfl⟩:=Int.eq_ofNat_of_zero_le gz.1
     have gm:m<nL:=by omega
     obtain⟨y,hy⟩:=some_at HNL.out gm
     have hro:=st.ns.row
     rw[HNL.out]at hro
     rcases own_zero_or hro with⟨hz0',_⟩|⟨gs,cs,hvs⟩
     ·omega
     subst hvs
     have cv1:wr.cell? ⟨lb,1,none⟩=some (.slice (some ⟨gs,0,none⟩) nL cs):=by rw[cell_of_row _ _ _ _ _ _ st.lk.b];rfl
     have cvm:wr.cell? ⟨gs,m,none⟩=some (.iface (ptT (cls y.N.k)) (.pointer (some ⟨y.b,0,none⟩))):=by
      rw[hro.cellAt m (by omega),List.getElem?_map,hy];rfl
     obtain⟨ak,ck,hkv⟩:=own_form st.kr
     subst hkv
     have e5:=st.bx.cells.2.2.2.2.1
     have ef:=st.bx.cells.2.2.2.2.2 5
     have hkr:=st.kr
     have HT:Hid (kidsIn L (N.ks.take (j+1))=kidsIn L (N.ks.take j)++[.iface (ptT (cls y.N.k)) (.pointer (some ⟨y.b,0,none⟩))]):=by
      show _=_
      rw[List.take_add_one,hz]
      unfold kidsIn
      rw[List.map_append]
      simp[hy,nV,nodeV]
     have HJ2:Hid ((klB N.ks nL (L2-(j+1)) (j+1)&&(ffB N L2 (cls N.k)&&kfB N (kinds ns N.ks)))=R):=by
      rw[decide_eq_true gz,Bool.true_and]at hst;exact hst
     have HZ2:Hid (∀z∈N.ks.take (j+1),0<=z/\z<(nL:Int)):=fun z hzz=>by
      rw[List.take_add_one,hz]at hzz
      rcases List.mem_append.1 hzz with h|h
      ·exact HZ.out z h
      ·simp at h;subst h;exact gz
     have lw1:lb<wr.heap.size:=lt_of_block st.lk.b
     have lw2:bn<wr.heap.size:=lt_of_block st.bx
     have lw3:gs<wr.heap.size:=(hro.lt gs rfl).2
     have kne:∀k,(Value.slice ak j ck).ownBlock=some k->IsRow wr k:=fun k hk=>(own_isRow hkr hk).1
     have ne1:some lb≠(Value.slice ak j ck).ownBlock:=fun e=>by obtain⟨c,hc⟩:=kne lb e.symm;exact blk_ne st.lk.b hc (by decide) rfl
     have ne2:some bn≠(Value.slice ak j ck).ownBlock:=fun e=>by obtain⟨c,hc⟩:=kne bn e.symm;exact blk_ne st.bx hc (stT_ne _).1 rfl
     have ne3:some gs≠(Value.slice ak j ck).ownBlock:=fun e=>by
      rcases st.fr with e2|e2
      ·rw[e2]at e;cases e
      ·exact e2 e.symm
     have hwr0:w0.heap.size<=wr.heap.size:=st.bl.size
     have HY:Hid (ptT (cls y.N.k)=ptT (cls y.N.k)):=rfl
     generalize ptT (cls y.N.k)=ty at cvm HT HY
     generalize y.b=yb at cvm HT
     have bA:∀o,Below wr.heap.size wr (wr.alloc o).drew:=fun o=>bel_drew1 ((Below.refl _ wr).alloc (Nat.le_refl _) o)
     clear st hst hy hz gz hro kne
     go_wp2_with fail
     go_region_law (refine step_append_lies _ (by rfl) _ _ _ (by rfl) w0.heap.size 49 i0 _ 1 16 Tryz.underlying72 hi hz0 hz1 hz2 rfl (by omega) (.slice ak j ck) j (kidsIn L (N.ks.take j)) (by rfl) ((hkr.alloc _).drew) ⟨wr.heap.size,0,none⟩ 1 1 [.iface ty (.pointer (some ⟨yb,0,none⟩))] (by rfl) (by rfl) (World.news_of_block (cs:=#[.iface ty (.pointer (some ⟨yb,0,none⟩))]) (t:=49) (fr:=(0,0)) (heap_alloc_new wr _)) (by simp[Value.oneCell']) (by omega) (by unfold maxLen;omega) (by omega) (by simp;omega) (wr.heap.size+1) (by simp) ?_;intro g cap w5 ho5 hg5 hat hlt5;have e5':=(hg5.cell_far ⟨bn,5,none⟩ (by simp;omega) ne2).trans (cell_kept (bA _) e5);have ef':=(hg5.frozen_far ⟨bn,5,none⟩ (by simp;omega) ne2).trans (frozen_kept (bA _) lw2 ef))
     all_goals
      go_wp2_with fail
      obtain⟨_,hns0,_,_,_,_,_,he,_,_⟩:=HH.out
      have stA:=HS.out.below (bA (.cells #[.iface ty (.pointer (some ⟨yb,0,none⟩))] 49))
      rw[<-HT.out]at ho5
      obtain⟨_,stB⟩:=stA.kid he hg5 ho5 hat (by simp)
      exact⟨⟨j+1,_,by go_num,by omega,HJ2,HZ2,stB⟩,by simp[intOf];omega⟩
    ·have HRf:Hid (false=R):=by rw[decide_eq_false gz,Bool.false_and,Bool.false_and]at hst;exact hst
     have hbl:=st.bl
     by_cases gz0:z<0
     ·clear hst st HS HJ hz
      go_wp2_with fail
      go_ret
      exact⟨by rw[<-HRf.out];rfl,hbl,fun h=>by rw[<-HRf.out]at h;cases h⟩
     ·have gz1:¬z<(nL:Int):=by omega
      clear hst st HS HJ hz gz
      go_wp2_with fail
      go_ret
      exact⟨by rw[<-HRf.out];rfl,hbl,fun h=>by rw[<-HRf.out]at h;cases h⟩
   ·obtain rfl:j=L2:=by omega
    rw[Nat.sub_self,klB,Bool.true_and]at hst
    obtain⟨ak,ck,hkv⟩:=own_form st.kr
    subst hkv
    obtain⟨av,cv,hvs⟩:=own_form st.ns.row
    subst hvs
    rw[HNL.out]
    have cv1:wr.cell? ⟨lb,1,none⟩=some (.slice av nL cv):=by rw[<-HNL.out,cell_of_row _ _ _ _ _ _ st.lk.b];rfl
    have hrow:=st.ns.row
    rw[HNL.out]at hrow
    have hwr0:w0.heap.size<=wr.heap.size:=st.bl.size
    have lw1:lb<wr.heap.size:=lt_of_block st.lk.b
    have bA:∀o,Below wr.heap.size wr (wr.alloc o):=fun o=>(Below.refl _ wr).alloc (Nat.le_refl _) o
    have HST:Hid (AdSt w0 lb mb w.heap.size bn (.slice av L.length cv) L N (.slice a1 L1 c1) (.slice a2 j c2) (.slice ak j ck) j wr):=st
    have HRR:Hid ((ffB N j (cls N.k)&&kfB N (kinds ns N.ks))=R):=hst
    have HRW:Hid (wr.ownsRow w0.heap.size 49 1 (.slice av nL cv) nL (L.map nV)):=hrow
    clear hst st HS HJ hrow
    obtain⟨_,hns0,hnm,hks,sm,hnse,htab,he,hB0,hin⟩:=HH.out
    have HD:Hid (∀o w5 g' cap',(wr.alloc o).grownBy w5 (Value.slice av nL cv).ownBlock->w5.ownsRow w0.heap.size 49 1 (.slice (some ⟨g',0,none⟩) (nL+1) cap') (nL+1) (L.map nV++[.iface tp (.pointer (some ⟨bn,0,none⟩))])->((Value.slice (some ⟨g',0,none⟩) (nL+1) cap').ownBlock=(Value.slice av nL cv).ownBlock\/(Value.slice (some ⟨g',0,none⟩) (nL+1) cap').ownBlock=some (wr.alloc o).heap.size)->
      w5.heap[lb]?=some (.cells #[.map (some mb),.slice av nL cv] 74 (0,0))/\Lk (w5.setCell ⟨lb,1,none⟩ (.slice (some ⟨g',0,none⟩) (nL+1) cap')) lb mb (.slice (some ⟨g',0,none⟩) (nL+1) cap')/\NsAt (w5.setCell ⟨lb,1,none⟩ (.slice (some ⟨g',0,none⟩) (nL+1) cap')) w0.heap.size (.slice (some ⟨g',0,none⟩) (nL+1) cap') (L++[⟨N,bn,.slice a1 L1 c1,.slice ak j ck⟩])/\InBox (w5.setCell ⟨lb,1,none⟩ (.slice (some ⟨g',0,none⟩) (nL+1) cap')) bn N (.slice a1 L1 c1) nL (.slice ak j ck)/\Below w0.heap.size w0 (w5.setCell ⟨lb,1,none⟩ (.slice (some ⟨g',0,none⟩) (nL+1) cap'))):=by
     intro o w5 g' cap' hg ho hat
     have st':=HST.out.below (bA o)
     have hnl:=HNL.out
     have hl2:=HL.out.2
     subst hl2
     subst hnl
     have hr:∀z∈N.ks,0<=z/\z<(L.length:Int):=by
      have:=HZ.out
      rw[List.take_length]at this
      exact this
     refine st'.done he hr hg ?_ hat
     unfold nodeV
     rw[htp]
     exact ho
    clear hns0 hB0 he
    go_wp2_with (at_builtin;refine wpList_append_own_at _ rfl _ _ 72 rfl w0.heap.size 49 i0 _ 1 16 Tryz.underlying72 hi hz0 hz1 hz2 rfl (by decide) _ _ _ rfl (HRW.out.alloc _) ⟨wr.heap.size,0,none⟩ 1 1 [.iface tp (.pointer (some ⟨bn,0,none⟩))] rfl rfl (World.news_of_block (cs:=#[.iface tp (.pointer (some ⟨bn,0,none⟩))]) (fr:=(0,0)) (heap_alloc_new wr _)) (by intro u hu;simp at hu;subst hu;rfl) (by unfold maxLen;omega) (by omega) (by simp;omega) ?_;intro v' w5 ho5 hg5 hn5 hat5;obtain⟨g',cap',rfl⟩:=ownsRow_succ ho5;obtain⟨lb5,lk6,ns6,bx6,bl6⟩:=HD.out _ w5 g' cap' hg5 ho5 hat5;have z1:w5.cell? ⟨lb,1,none⟩=some (.slice av nL cv):=by {rw[cell_of_row _ _ _ _ _ _ lb5];rfl};have zf:w5.frozen? ⟨lb,1,none⟩=false:=frozen_of_row _ _ _ _ _ lb5)
    generalize w5.setCell ⟨lb,1,none⟩ (.slice (some ⟨g',0,none⟩) (nL+1) cap')=W6 at lk6 ns6 bx6 bl6⊢
    have hnl:=HNL.out
    have hl2:=HL.out.2
    have hx6:(L++[⟨N,bn,.slice a1 L1 c1,.slice ak j ck⟩])[nL]?=some ⟨N,bn,.slice a1 L1 c1,.slice ak j ck⟩:=by rw[<-hnl];simp
    have hns6:(L++[(⟨N,bn,.slice a1 L1 c1,.slice ak j ck⟩:Im)]).map Im.N=ns.take (L++[(⟨N,bn,.slice a1 L1 c1,.slice ak j ck⟩:Im)]).length:=by
     rw[List.map_append,hnse,List.length_append,List.length_singleton,List.take_add_one,hin];rfl
    have hkk6:=ns6.kids hns6 hx6
    have kf:=fieldsFit_any W6 lb mb _ lk6 bn N (.slice a1 L1 c1) nL ak j ck (by omega) (hnm.below bl6) sm.l1 sm.ls sm.lx bx6
    unfold nodeV at kf
    rw[htp]at kf
    have hrr:=HRR.out
    cases hfb:ffB N j (cls N.k) with
    |false=>
     rw[hfb]at kf hrr
     rw[Bool.false_and]at hrr
     have HRf:Hid (false=R):=hrr
     refine kf.mono ?_
     rintro e w7 ⟨rfl,hb7⟩
     have bl7:=bl6.trans (hb7.mono bl6.size)
     clear hrr hfb kf
     go_wp2_with fail
     go_ret
     exact⟨by rw[<-HRf.out];rfl,bl7,fun h=>by rw[<-HRf.out]at h;cases h⟩
    |true=>
     rw[hfb]at kf hrr
     rw[Bool.true_and]at hrr
     have hn1:cls N.k=1->0<=N.n/\N.n<=200:=fun hc=>by
      rw[hc]at hfb
      have:=of_decide_eq_true (show decide (1<=N.n/\N.n<(j:Int))=true from hfb)
      omega
     refine kf.mono ?_
     rintro e w7 ⟨rfl,hb7⟩
     have bl7:=bl6.trans (hb7.mono bl6.size)
     have lk7:=lk6.below hb7
     have ns7:=ns6.below hb7
     have hlk:(kinds ns N.ks).length<=1048576:=by unfold kinds;rw[List.length_map,hl2];omega
     have kk:=kidsFit_any w7 bn N (.slice a1 L1 c1) (.slice ak j ck) nL (kinds ns N.ks) (hkk6.below hb7) hlk (fun W hW=>htab W (bl7.trans (hW.mono bl7.size))) (bx6.below hb7) hn1
     rw[hrr]at kk
     unfold nodeV at kk
     rw[htp]at kk
     clear hrr hfb kf hn1 hkk6 hx6 hns6 lk6 ns6 bx6 hin hnse htab sm hnm hks
     go_wp2_with (go_at_call 88;refine kk.mono ?_;rintro e w8 ⟨rfl,hb8⟩)
     go_ret
     exact⟨rfl,bl7.trans (hb8.mono bl7.size),fun _=>⟨_,_,rfl,rfl,lk7.below hb8,ns7.below hb8⟩⟩
theorem addL_any (w0 w:World) (he:Errs w0) (hB0:Below w0.heap.size w0 w) (lb mb:Nat) (hlb:w0.heap.size<=lb) (vs:Value) (L:List Im) (h:Lk w lb mb vs) (hN:NsAt w w0.heap.size vs L) (N:Nd) (vn vk:Value) (hn:StrsAt w0 vn N.nm) (hk:IntsAt w0 vk N.ks) (sm:NdSmall N) (hL:L.length<=3000) (ns:List Nd) (hns:L.map Im.N=ns.take L.length) (hin:ns[L.length]?=some N) (htab:∀W,Below w0.heap.size w0 W->Lib.TabIs Tryz.prog W "strings.asciiSpace" .u8 Lib.asciiSpaceTab):
  Calls Tryz.prog 29 #[.pointer (some ⟨lb,0,none⟩),vNd N vn vk] w (AddPost w0 lb mb L ns N vn):=by
 cases hf:fldI N with
 |true=>exact add_late w0 w he hB0 lb mb hlb vs L h hN N vn vk hn hk sm hL ns hns hin htab hf
 |false=>
  refine(add_early w lb N vn vk (hn.below hB0) (hk.below hB0) sm hf).mono ?_
  rintro e w' ⟨rfl,hb⟩
  have e:addB ns L.length N=false:=by unfold addB;rw[hf,Bool.false_and]
  exact⟨by rw[e],hB0.trans (hb.mono hB0.size),fun h=>by rw[e]at h;cases h⟩
end Go.Proofs.YtelfejiiabbpfaaGreatDoor
