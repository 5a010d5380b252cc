import Derived.Test.YtelfejiiabbpfaaGreatDoorHRk52
import Derived.Test.YtelfejiiabbpfaaGreatDoorHRk49
import Derived.Test.YtelfejiiabbpfaaGreatDoorHRk01
set_option linter.unusedVariables false
set_option maxRecDepth 100000
set_option maxHeartbeats 12800000
namespace Go.Proofs.YtelfejiiabbpfaaGreatDoor
open Go.RowKit Go.Maps Go.WideMaps
theorem results_tc {fn:Func}{p q:Tmp}{u:TypeId}(h:fn.results=#[.tmp p,.cell q u]) (tmps:Array Value) (P:Program) (w:World) (a:Addr) (v v':Value) (hp:tmps.getD p undef=v) (hq:tmps.getD q undef= .pointer (some a))
  (h2:(loadVar u a).run P w= .ok v' w):(results fn tmps).run P w= .ok (.tuple #[v,v']) w:=by
 have hp':tmps[p]?.getD undef=v:=by simpa using hp
 have hq':tmps[q]?.getD undef= .pointer (some a):=by simpa using hq
 simp only[results,h]
 simp[Result.andThen,hp',hq',asAddr,h2]
theorem load_ft (w:World) (b:Nat) (c n:Int) (h:FtBox b w c n):(loadVar 35 ⟨b,0,none⟩).run Tryz.prog w= .ok (.agg #[.int .i64 c,.int .i64 n]) w:=
 run_loadVar_row w b 35 35 _ _ _ h Tryz.underlying35 rfl (by kernel_rfl)
theorem linked_head (w:World) (v:Value) (ns:List Nd) (h:NdsAt w v ns) (hl:ns.length<=1048576) (hb:badHead ns=true):
  Calls Tryz.prog 14 #[.agg #[v]] w fun e w'=>e= .returned (.tuple #[.nilIface,.agg #[.int .i64 1,.int .i64 0]])/\Below w.heap.size w w':=by
 obtain⟨a,c,rfl⟩:=h.form
 have hbb:∀o1 o2,Below w.heap.size w ((w.alloc o1).alloc o2):=fun o1 o2=>((Below.refl _ w).alloc (Nat.le_refl _) o1).alloc (by simp) o2
 have hnew:∀o1 (cs:Array Value) (t:TypeId),((w.alloc o1).alloc (.cells cs t)).heap[w.heap.size+1]?=some (.cells cs t (0,0)):=fun o1 cs t=>by
  have:=heap_alloc_new (w.alloc o1) (.cells cs t)
  rw[World.size_alloc]at this
  exact this
 have hb':=of_decide_eq_true hb
 by_cases g1:ns.length=0
 ·rw[g1]
  go_enter Tryz.func14,Tryz.ntmps14
  go_wp2
  exact bodyPost_ret (results_tc rfl _ _ _ ⟨w.heap.size+1,0,none⟩ _ _ rfl rfl (load_ft _ _ 1 0 (hnew _ _ _))) rfl ⟨rfl,hbb _ _⟩
 by_cases g2:3000<ns.length
 ·obtain⟨m,hm⟩:∃m:Nat,ns.length=m+1:=⟨ns.length-1,by omega⟩
  rw[hm]at g2 hl⊢
  have d1:decide ((m:Int)<0)=false:=decide_eq_false (by omega)
  have d2:(3000:Int)<=(m:Int):=by omega
  have i0:(0:Int)<=(m:Int):=by omega
  clear h hb hb' g1 g2 hm
  go_enter Tryz.func14,Tryz.ntmps14
  go_wp2
  exact bodyPost_ret (results_tc rfl _ _ _ ⟨w.heap.size+1,0,none⟩ _ _ rfl rfl (load_ft _ _ 1 0 (hnew _ _ _))) rfl ⟨rfl,hbb _ _⟩
 ·have g3:(ns.getD (ns.length-1) zNd).k≠1:=by rcases hb' with e|e|e;exact absurd e g1;exact absurd e g2;exact e
  have hlt:ns.length-1<ns.length:=by omega
  obtain⟨N,hN⟩:∃N,ns[ns.length-1]?=some N:=⟨_,List.getElem?_eq_getElem hlt⟩
  rw[List.getD_eq_getElem?_getD,hN,Option.getD_some]at g3
  obtain⟨a',rfl,vn,vk,hd⟩:=h.get hN
  have c0:=hd.c0
  obtain⟨n,hn⟩:∃n,ns.length=n:=⟨_,rfl⟩
  rw[hn]at c0 g1 g2 hl hlt⊢
  obtain⟨m,hm⟩:∃m:Nat,n=m+1:=⟨n-1,by omega⟩
  subst hm
  rw[Nat.add_sub_cancel]at c0
  have e1:((m+1:Nat):Int)-1=(m:Int):=by omega
  have i0:(0:Int)<=(m:Int):=by omega
  have d1:decide ((m:Int)<0)=false:=decide_eq_false (by omega)
  have d2:decide ((3000:Int)<=(m:Int))=false:=decide_eq_false (by omega)
  have i5:(m:Int)<(m:Int)+1:=by omega
  have hcl:∀o1 o2,((w.alloc o1).alloc o2).cell? (a'.add (m*9))=some (.int .i64 N.k):=fun o1 o2=>cell_kept (hbb o1 o2) c0
  clear h hb hb' g1 g2 hN hd hn hlt
  go_enter Tryz.func14,Tryz.ntmps14
  go_wp2
  exact bodyPost_ret (results_tc rfl _ _ _ ⟨w.heap.size+1,0,none⟩ _ _ rfl rfl (load_ft _ _ 1 0 (hnew _ _ _))) rfl ⟨rfl,hbb _ _⟩
structure LiSt (w0:World) (lb mb:Nat) (vs:Value) (L:List Im) (W:World):Prop where
 bl:Below w0.heap.size w0 W
 lk:Lk W lb mb vs
 ns:NsAt W w0.heap.size vs L
theorem LiSt.below {w0:World}{lb mb:Nat}{vs:Value}{L:List Im}{W W':World}(h:LiSt w0 lb mb vs L W) (hb:Below W.heap.size W W'):LiSt w0 lb mb vs L W':=
 ⟨h.bl.trans (hb.mono h.bl.size),h.lk.below hb,h.ns.below hb⟩
theorem FtBox.keep {b B:Nat}{W W':World}{c n:Int}(h:FtBox b W c n) (hb:Below B W W') (hlt:b<B):FtBox b W' c n:=(hb.block _ hlt).trans h
theorem stT_ft (c:Nat):stT c≠35:=by
 unfold stT
 split<;>decide
theorem NsAt.setFt {W:World}{base:Nat}{vs:Value}{L:List Im}(h:NsAt W base vs L) {b:Nat}{c n:Int}(hf:FtBox b W c n) (hb:b<base) (j:Nat) (v:Value):NsAt (W.setCell ⟨b,j,none⟩ v) base vs L:=
 ⟨ownsRow_setCell_below h.row hb _,fun i x hx=>(heap_setCell_other W ⟨b,j,none⟩ x.b v (blk_ne (h.box i x hx) (show W.heap[b]?=some (.cells #[.int .i64 c,.int .i64 n] 35 (0,0)) from hf) (stT_ft _))).trans (h.box i x hx),fun i x hx=>ownsRow_setCell_below (h.kid i x hx) hb _,h.far,h.rng⟩
theorem NsAt.putFt {W:World}{base:Nat}{vs:Value}{L:List Im}(h:NsAt W base vs L) {b:Nat}{c n:Int}(hf:FtBox b W c n) (hb:b<base) (c2 n2:Int):NsAt ((W.setCell ⟨b,0,none⟩ (.int .i64 c2)).setCell ⟨b,1,none⟩ (.int .i64 n2)) base vs L:=
 (h.setFt hf hb 0 _).setFt (c:=c2) (n:=n) (heap_setCell_same _ b 0 _ _ _ hf) hb 1 _
structure LkIn (w:World) (v:Value) (w0:World):Prop where
 tb:w0.heap[w.heap.size]?=some (.cells #[v] 29 (0,0))
 fb:FtBox (w.heap.size+1) w0 0 0
 bl:Below w.heap.size w w0
 sz:w0.heap.size=w.heap.size+1+1
def LinkPg (G:Value->Prop) (w:World) (ns:List Nd) (e:Ending) (w':World):Prop:=
 Below w.heap.size w w'/\
 (((treeF ns).1≠0/\e= .returned (.tuple #[.nilIface,.agg #[.int .i64 (treeF ns).1,.int .i64 (treeF ns).2]]))\/
  (treeF ns=(0,0)/\∃base vs L x,e= .returned (.tuple #[nV x,.agg #[.int .i64 0,.int .i64 0]])/\L[ns.length-1]?=some x/\L.map Im.N=ns/\NsAt w' base vs L/\∀x∈L,StrsAt w x.vn x.N.nm/\G x.vn))
theorem linkedg_main (G:Value->Prop) (w:World) (v:Value) (ns:List Nd) (hGv:∀(ad:Addr) (n c i:Nat) (N:Nd) (vn:Value),v= .slice (some ad) n c->ns[i]?=some N->w.cell? ⟨(ad.add (i*9)).block,(ad.add (i*9)).off+7,none⟩=some vn->G vn) (h:NdsAt w v ns) (hl:ns.length<=1048576) (sm:∀N∈ns,NdSmall N) (he:Errs w) (tt:TypeId) (fr:Nat×Nat) (hG:w.heap[0]?=some (.cells wordV tt fr))
  (htab:∀W,Below w.heap.size w W->Lib.TabIs Tryz.prog W "strings.asciiSpace" .u8 Lib.asciiSpaceTab) (hb:badHead ns=false):
  Calls Tryz.prog 14 #[.agg #[v]] w (LinkPg G w ns):=by
 have HGV:Hid (∀(ad:Addr) (n c i:Nat) (N:Nd) (vn:Value),v= .slice (some ad) n c->ns[i]?=some N->w.cell? ⟨(ad.add (i*9)).block,(ad.add (i*9)).off+7,none⟩=some vn->G vn):=hGv
 clear hGv
 obtain⟨a,c,rfl⟩:=h.form
 have hb':=of_decide_eq_false hb
 have HH:Hid (NdsAt w (.slice a ns.length c) ns/\(∀N∈ns,NdSmall N)/\badHead ns=false):=⟨h,sm,hb⟩
 have HE:Hid (Errs w/\w.heap[0]?=some (.cells wordV tt fr)/\(∀W,Below w.heap.size w W->Lib.TabIs Tryz.prog W "strings.asciiSpace" .u8 Lib.asciiSpaceTab)):=⟨he,hG,htab⟩
 have g1:¬ns.length=0:=fun e=>hb' (.inl e)
 have g2:¬3000<ns.length:=fun e=>hb' (.inr (.inl e))
 have g3:(ns.getD (ns.length-1) zNd).k=1:=by
  by_cases g:(ns.getD (ns.length-1) zNd).k=1
  ·exact g
  ·exact absurd (.inr (.inr g)) hb'
 obtain⟨N,hN⟩:∃N,ns[ns.length-1]?=some N:=⟨_,List.getElem?_eq_getElem (by omega)⟩
 rw[List.getD_eq_getElem?_getD,hN,Option.getD_some]at g3
 obtain⟨a',rfl,vn,vk,hd⟩:=h.get hN
 have c0:=hd.c0
 rw[g3]at c0
 have hbb:∀o1 o2,Below w.heap.size w ((w.alloc o1).alloc o2):=fun o1 o2=>((Below.refl _ w).alloc (Nat.le_refl _) o1).alloc (by simp) o2
 obtain⟨n,hn⟩:∃n,ns.length=n:=⟨_,rfl⟩
 have HN:Hid (ns.length=n):=hn
 rw[hn]at HH c0 g1 g2⊢
 obtain⟨m,hm⟩:∃m:Nat,n=m+1:=⟨n-1,by omega⟩
 have hm1:n-1=m:=by omega
 rw[hm1]at c0
 have hm3:m<3000:=by omega
 have e1:((m+1:Nat):Int)-1=(m:Int):=by omega
 have i0:(0:Int)<=(m:Int):=by omega
 have d1:decide ((m:Int)<0)=false:=decide_eq_false (by omega)
 have d2:decide ((3000:Int)<=(m:Int))=false:=decide_eq_false (by omega)
 have i5:(m:Int)<(m:Int)+1:=by omega
 have hcl:∀o1 o2,((w.alloc o1).alloc o2).cell? (a'.add (m*9))=some (.int .i64 1):=fun o1 o2=>cell_kept (hbb o1 o2) c0
 clear h hb hb' g1 g2 g3 hN hd hn hl sm he hG htab hm1 c0
 subst hm
 go_enter Tryz.func14,Tryz.ntmps14
 go_wp2_with (go_at_call 28;fail)
 have T0:((w.alloc (.cells #[.slice (some a') (m+1) c] 29)).alloc (.cells #[.int .i64 0,.int .i64 0] 35)).heap[w.heap.size]?=some (.cells #[.slice (some a') (m+1) c] 29 (0,0)):=(Below.heap_alloc _ _ _ (by simp)).trans (heap_alloc_new w _)
 have F0:FtBox (w.heap.size+1) ((w.alloc (.cells #[.slice (some a') (m+1) c] 29)).alloc (.cells #[.int .i64 0,.int .i64 0] 35)) 0 0:=by
  have:=heap_alloc_new (w.alloc (.cells #[.slice (some a') (m+1) c] 29)) (.cells #[.int .i64 0,.int .i64 0] 35)
  rw[World.size_alloc]at this
  exact this
 have HW:Hid (LkIn w (.slice (some a') (m+1) c) ((w.alloc (.cells #[.slice (some a') (m+1) c] 29)).alloc (.cells #[.int .i64 0,.int .i64 0] 35))):=⟨T0,F0,hbb _ _,by simp⟩
 generalize (w.alloc (.cells #[.slice (some a') (m+1) c] 29)).alloc (.cells #[.int .i64 0,.int .i64 0] 35)=w0 at HW⊢
 clear T0 F0 hcl
 have hlt:=lt_of_block HE.out.2.1
 have HE0:Hid (Errs w0/\w0.heap[0]?=some (.cells wordV tt fr)/\(∀W,Below w0.heap.size w0 W->Lib.TabIs Tryz.prog W "strings.asciiSpace" .u8 Lib.asciiSpaceTab)):=
  ⟨HE.out.1.below HW.out.bl (Nat.le_refl _),(HW.out.bl.block _ hlt).trans HE.out.2.1,fun W hW=>HE.out.2.2 W (HW.out.bl.trans (hW.mono HW.out.bl.size))⟩
 refine(wordKinds_any (H:=Unit) w0 fr tt HE0.out.2.1).mono ?_
 rintro e w3 ⟨rfl,hm3',hb3⟩
 obtain⟨mb,hmb⟩:∃mb,w0.heap.size=mb:=⟨_,rfl⟩
 have hs0:=HW.out.sz
 have c3:w3.cell? ⟨w.heap.size,0,none⟩=some (.slice (some a') (m+1) c):=one_cell1 ((hb3.block _ (by omega)).trans HW.out.tb)
 have hsz3:=hb3.size
 have hx1:w.heap.size<w3.heap.size:=by omega
 have hx2:w.heap.size≠w3.heap.size:=by omega
 rw[hmb]at hm3'⊢
 have HM:Hid (w3.ownsMap Tryz.prog 9 (plainElem (H:=Unit) Tryz.prog 3) mb 22 (wkD 22)/\Below w0.heap.size w0 w3/\w0.heap.size=mb):=⟨hm3',hb3,hmb⟩
 clear hm3' hb3 hmb hlt hs0 hsz3
 go_wp2_with fail
 have B4:=heap_alloc_new w3 (.cells #[.map (some mb),.slice none 0 0] 74)
 have hb34:Below w3.heap.size w3 (w3.alloc (.cells #[.map (some mb),.slice none 0 0] 74)):=(Below.refl _ w3).alloc (Nat.le_refl _) _
 have st0:LiSt w0 w3.heap.size mb (.slice none 0 0) [] (w3.alloc (.cells #[.map (some mb),.slice none 0 0] 74)):=by
  have bl:=HM.out.2.1.trans (hb34.mono HM.out.2.1.size)
  have hmlt:mb<w3.heap.size:=by
   obtain⟨es,clock,hh,_⟩:=HM.out.1
   exact lt_of_block hh
  exact⟨bl,⟨B4,wd_keep HM.out.1 (hb34.block _ hmlt),HE0.out.1.below bl (Nat.le_refl _)⟩,⟨World.ownsRow_nil _ _ _ _,fun i x hx=>by simp at hx,fun i x hx=>by simp at hx,fun x hx=>by simp at hx,fun i x z hx=>by simp at hx⟩⟩
 have hlb:w0.heap.size<=w3.heap.size:=HM.out.2.1.size
 generalize w3.alloc (.cells #[.map (some mb),.slice none 0 0] 74)=W4 at st0⊢
 obtain⟨lb,hlbe⟩:∃lb,w3.heap.size=lb:=⟨_,rfl⟩
 rw[hlbe]at st0 hlb⊢
 have HLB:Hid (w0.heap.size<=lb):=hlb
 obtain⟨R1,hR1⟩:∃R1,fstI (badNode ns) (m+1) 0=R1:=⟨_,rfl⟩
 have HR1:Hid (fstI (badNode ns) (m+1) 0=R1):=hR1
 have HF1:FsIs (badNode ns) (m+1-0) 0 R1:=⟨hR1⟩
 have HS0:Hid (LiSt w0 lb mb (.slice none 0 0) [] W4):=st0
 clear hR1 c3 hx1 hx2 HM B4 hb34 st0 hlbe hlb
 go_loopw [37] (fun vi wr=>∃(k:Nat) (L:List Im) (vs:Value),k<=m+1/\vi= .int .i64 k/\FsIs (badNode ns) (m+1-k) k R1/\Hid (LiSt w0 lb mb vs L wr/\L.length=k/\L.map Im.N=ns.take k/\∀x∈L,StrsAt w x.vn x.N.nm/\G x.vn)) (fun vi _=>m+1-(intOf vi).toNat)
 case atStart=>exact⟨0,[],_,Nat.zero_le _,rfl,HF1,HS0.out,rfl,rfl,fun x hx=>by simp at hx⟩
 case round=>
  obtain⟨k,L,vs,hk,rfl,HF,HS⟩:=hrel
  clear HS0 HF1
  have hf:=HF.out
  by_cases hlt:k<m+1
  ·obtain⟨N2,hN2⟩:=some_at HN.out hlt
   have hki:(k:Int)<(m:Int)+1:=by omega
   have hk0:(0:Int)<=(k:Int):=by omega
   obtain⟨a2,ha2,vn2,vk2,hd2⟩:=HH.out.1.get hN2
   obtain rfl:=Option.some.inj ha2
   have hBw:Below w.heap.size w wr:=HW.out.bl.trans (HS.out.1.bl.mono HW.out.bl.size)
   obtain⟨d0,d1',d2',d3,d4,d5,d6,d7,d8,hn2,hk2⟩:=hd2
   obtain⟨an,cn,rfl⟩:=hn2.form
   obtain⟨ak,ck,rfl⟩:=hk2.form
   have e0:=cell_kept hBw d0
   have e1':=cell_kept hBw d1'
   have e2:=cell_kept hBw d2'
   have e3:=cell_kept hBw d3
   have e4:=cell_kept hBw d4
   have e5:=cell_kept hBw d5
   have e6:=cell_kept hBw d6
   have e7:=cell_kept hBw d7
   have e8:=cell_kept hBw d8
   have bo:∀o,Below wr.heap.size wr (wr.alloc o):=fun o=>(Below.refl _ wr).alloc (Nat.le_refl _) o
   have ka:=fun o=>addL_any w0 (wr.alloc o) HE0.out.1 (HS.out.1.bl.trans ((bo o).mono HS.out.1.bl.size)) lb mb HLB.out vs L (HS.out.1.lk.below (bo o)) (HS.out.1.ns.below (bo o)) N2 _ _ (hn2.below HW.out.bl) (hk2.below HW.out.bl) (HH.out.2.1 N2 (List.mem_of_getElem? hN2)) (by rw[HS.out.2.1];omega) ns (by rw[HS.out.2.1];exact HS.out.2.2.1) (by rw[HS.out.2.1];exact hN2) HE0.out.2.2
   rw[show m+1-k=(m+1-(k+1))+1 by omega,fstI]at hf
   have eb:badNode ns k=!(nodeB ns k N2):=by unfold badNode;rw[List.getD_eq_getElem?_getD,hN2];rfl
   have ea:addB ns L.length N2=nodeB ns k N2:=by rw[addB_eq,HS.out.2.1]
   rw[eb]at hf
   unfold vNd at ka
   have HP:Hid (addB ns L.length N2=nodeB ns k N2):=ea
   have HK2:Hid (ns[k]?=some N2):=hN2
   obtain⟨L1,hL1⟩:∃n,N2.nm.length=n:=⟨_,rfl⟩
   obtain⟨L2,hL2⟩:∃n,N2.ks.length=n:=⟨_,rfl⟩
   have HNM:Hid (StrsAt w (.slice an N2.nm.length cn) N2.nm/\G (.slice an N2.nm.length cn)):=⟨hn2,HGV.out _ _ _ k N2 _ rfl hN2 d7⟩
   rw[hL1]at ka e7
   replace HNM:Hid (StrsAt w (.slice an L1 cn) N2.nm/\G (.slice an L1 cn)):=by rw[<-hL1];exact HNM
   rw[hL2]at ka e8
   clear d0 d1' d2' d3 d4 d5 d6 d7 d8 hn2 hk2 hN2 ea eb hL1 hL2 HF
   cases hx:nodeB ns k N2 with
   |true=>
    rw[hx]at hf HP
    rw[if_neg (by decide)]at hf
    have HF2:FsIs (badNode ns) (m+1-(k+1)) (k+1) R1:=⟨hf⟩
    clear hf hx
    go_wp2_with (go_at_call 29;fail)
    refine(ka _).mono ?_
    rintro e w5 ⟨rfl,hb5,hp5⟩
    rw[HP.out]
    obtain⟨vs',x,hxN,hxv,lk5,ns5⟩:=hp5 HP.out
    have HS5:Hid (LiSt w0 lb mb vs' (L++[x]) w5/\(L++[x]).length=k+1/\(L++[x]).map Im.N=ns.take (k+1)/\∀y∈L++[x],StrsAt w y.vn y.N.nm/\G y.vn):=
     ⟨⟨hb5,lk5,ns5⟩,by rw[List.length_append,HS.out.2.1];rfl,by rw[List.map_append,HS.out.2.2.1,List.take_add_one,HK2.out];simp[hxN],fun y hy=>by
      rcases List.mem_append.1 hy with hy|hy
      ·exact HS.out.2.2.2 y hy
      ·obtain rfl:=List.mem_singleton.1 hy
       rw[hxN,hxv];exact HNM.out⟩
    clear ka hp5 hb5 lk5 ns5 HS e0 e1' e2 e3 e4 e5 e6 e7 e8 hBw bo
    go_wp2_with fail
    exact⟨⟨k+1,_,_,by omega,by go_num,HF2,HS5⟩,by simp[intOf];omega⟩
   |false=>
    rw[hx]at hf HP
    rw[if_pos (by decide)]at hf
    have HFF:Hid (treeF ns=(2,(k:Int))):=by
     show treeF ns=(2,(k:Int))
     unfold treeF
     rw[HH.out.2.2,if_neg (by decide),HN.out,HR1.out,<-hf]
     rfl
    clear hf hx
    go_wp2_with (go_at_call 29;fail)
    refine(ka _).mono ?_
    rintro e w5 ⟨rfl,hb5,hp5⟩
    rw[HP.out]
    have f5:=HW.out.fb.keep hb5 (by rw[HW.out.sz];omega)
    obtain⟨f0,f1,ff⟩:=ft_cells f5
    have HF5:Hid (FtBox (w.heap.size+1) w5 0 0/\Below w.heap.size w w5):=⟨f5,HW.out.bl.trans (hb5.mono HW.out.bl.size)⟩
    clear ka hp5 hb5 f5 HS e0 e1' e2 e3 e4 e5 e6 e7 e8 hBw bo
    go_wp2_with fail
    exact bodyPost_ret (results_tc rfl _ _ _ ⟨w.heap.size+1,0,none⟩ _ _ rfl rfl (load_ft _ _ 2 k (ft_put HF5.out.1 2 k))) rfl ⟨(HF5.out.2.setCell (by simp) _).setCell (by simp) _,.inl ⟨(by rw[HFF.out];intro e;simp at e),(by rw[HFF.out];rfl)⟩⟩
  ·obtain rfl:k=m+1:=by omega
   rw[Nat.sub_self,fstI]at hf
   have HR1n:Hid (R1=none):=hf.symm
   have hall:=fst_none (show fstI (badNode ns) (m+1) 0=none by rw[HR1.out];exact hf.symm)
   have hLns:L.map Im.N=ns:=by rw[HS.out.2.2.1];exact List.take_of_length_le (by rw[HN.out];exact Nat.le_refl _)
   have hat:∀(i:Nat) x,L[i]?=some x->ns[i]?=some x.N:=fun i x hx=>by rw[<-hLns,List.getElem?_map,hx];rfl
   have hks:∀x∈L,x.N.ks.length<=200:=fun x hx=>by
    obtain⟨i,hi,e⟩:=List.getElem_of_mem hx
    have hN:ns[i]?=some x.N:=hat i x (by rw[List.getElem?_eq_getElem hi,e])
    have hi:i<m+1:=by rw[<-HN.out];exact(List.getElem?_eq_some_iff.1 hN).1
    have h1:=hall i (Nat.zero_le _) (by omega)
    unfold badNode at h1
    rw[List.getD_eq_getElem?_getD,hN,Option.getD_some]at h1
    have h2:nodeB ns i x.N=true:=by simpa using h1
    unfold nodeB fldB at h2
    rw[Bool.and_eq_true]at h2
    exact(of_decide_eq_true h2.1).2.2.2
   have hSz:SzOk (szs ns):=szs_ok ns (fun N hN z hz=>by
    rw[<-hLns]at hN
    obtain⟨x,hx,rfl⟩:=List.mem_map.1 hN
    obtain⟨i,hi,e⟩:=List.getElem_of_mem hx
    exact(HS.out.1.ns.rng i x z (by rw[List.getElem?_eq_getElem hi,e]) hz).1)
   obtain⟨g,cap,rfl⟩:∃g c,vs= .slice (some ⟨g,0,none⟩) (m+1) c:=by
    rcases own_zero_or HS.out.1.ns.row with⟨h,_⟩|h
    ·rw[HS.out.2.1]at h;omega
    ·rw[HS.out.2.1]at h;exact h
   have z1:wr.cell? ⟨lb,1,none⟩=some (.slice (some ⟨g,0,none⟩) (m+1) cap):=by rw[cell_of_row _ _ _ _ _ _ HS.out.1.lk.b];rfl
   have ko:=firstOrder_any wr w0.heap.size _ L HS.out.1.ns ns hLns (m+1) HS.out.2.1 (by omega) (by omega) hks
   have HKD:Hid (∀W,Below wr.heap.size wr W->Calls Tryz.prog 31 #[.slice (some ⟨g,0,none⟩) (m+1) cap] W fun e w'=>e= .returned (deepV (fstI (badDeep (dps ns)) (m+1) 0))/\Below W.heap.size W w'):=
    fun W hB=>firstDeep_any W w0.heap.size _ L (HS.out.1.ns.below hB) ns hLns (m+1) HS.out.2.1 (by omega) (by omega) hks
   obtain⟨R2,hR2⟩:∃R2,fstI (badSize (szs ns)) (m+1) 0=R2:=⟨_,rfl⟩
   have htf:treeF ns=tf3 (szs ns) (dps ns) (m+1) R2:=by
    unfold treeF
    rw[HH.out.2.2,if_neg (by decide),HN.out,HR1.out,HR1n.out]
    show tf3 (szs ns) (dps ns) (m+1) (fstI (badSize (szs ns)) (m+1) 0)=_
    rw[hR2]
   rw[hR2]at ko
   have hfl:=HW.out.sz
   have f0:=HW.out.fb.keep HS.out.1.bl (by rw[HW.out.sz];omega)
   have HST:Hid (LiSt w0 lb mb (.slice (some ⟨g,0,none⟩) (m+1) cap) L wr/\FtBox (w.heap.size+1) wr 0 0/\L.map Im.N=ns/\L.length=m+1/\Below w.heap.size w wr):=⟨HS.out.1,f0,hLns,HS.out.2.1,HW.out.bl.trans (HS.out.1.bl.mono HW.out.bl.size)⟩
   have HNMS:Hid (∀x∈L,StrsAt w x.vn x.N.nm/\G x.vn):=HS.out.2.2.2
   have hor:=order_lt hSz (szs_len ns) (by rw[HN.out];omega)
   rw[HN.out,Nat.add_sub_cancel]at hor
   clear hf hall hat hks hSz HF HS f0 hR2 hLns hfl
   cases R2 with
   |some i=>
    have HFF:Hid (treeF ns=(3,(i:Int))):=htf
    unfold orderV at ko
    clear htf hor
    go_wp2_with (go_at_call 30;fail)
    refine ko.mono ?_
    rintro e w5 ⟨rfl,hb5⟩
    have f5:=HST.out.2.1.below hb5
    obtain⟨f0,f1,ff⟩:=ft_cells f5
    have HF5:Hid (FtBox (w.heap.size+1) w5 0 0/\Below w.heap.size w w5):=⟨f5,HST.out.2.2.2.2.trans (hb5.mono HST.out.2.2.2.2.size)⟩
    clear hb5 f5 ko z1
    go_wp2_with fail
    exact bodyPost_ret (results_tc rfl _ _ _ ⟨w.heap.size+1,0,none⟩ _ _ rfl rfl (load_ft _ _ 3 i (ft_put HF5.out.1 3 i))) rfl ⟨(HF5.out.2.setCell (by simp) _).setCell (by simp) _,.inl ⟨(by rw[HFF.out];intro e;simp at e),(by rw[HFF.out];rfl)⟩⟩
   |none=>
    rw[tf3,Nat.add_sub_cancel]at htf
    unfold orderV at ko
    rw[Nat.add_sub_cancel]at ko
    have em:((m+1:Nat):Int)-1=(m:Int):=by omega
    rw[em]at ko htf
    by_cases hz:(szs ns).getD m 0<((m+1:Nat):Int)
    ·rw[if_pos (hor.2 hz)]at htf
     rw[decide_eq_true hz]at ko
     have HFF:Hid (treeF ns=(3,(m:Int))):=htf
     clear htf hor hz
     go_wp2_with (go_at_call 30;fail)
     refine ko.mono ?_
     rintro e w5 ⟨rfl,hb5⟩
     have f5:=HST.out.2.1.below hb5
     obtain⟨f0,f1,ff⟩:=ft_cells f5
     have HF5:Hid (FtBox (w.heap.size+1) w5 0 0/\Below w.heap.size w w5):=⟨f5,HST.out.2.2.2.2.trans (hb5.mono HST.out.2.2.2.2.size)⟩
     clear hb5 f5 ko z1
     go_wp2_with fail
     exact bodyPost_ret (results_tc rfl _ _ _ ⟨w.heap.size+1,0,none⟩ _ _ rfl rfl (load_ft _ _ 3 m (ft_put HF5.out.1 3 m))) rfl ⟨(HF5.out.2.setCell (by simp) _).setCell (by simp) _,.inl ⟨(by rw[HFF.out];intro e;simp at e),(by rw[HFF.out];rfl)⟩⟩
    ·rw[if_neg (fun h=>hz (hor.1 h))]at htf
     rw[decide_eq_false hz]at ko
     obtain⟨R4,hR4⟩:∃R4,fstI (badDeep (dps ns)) (m+1) 0=R4:=⟨_,rfl⟩
     rw[hR4]at htf HKD
     clear hor hz hR4
     go_wp2_with (go_at_call 30;fail)
     refine ko.mono ?_
     rintro e w5 ⟨rfl,hb5⟩
     have kd:=HKD.out w5 hb5
     have z5:=cell_kept hb5 z1
     clear ko z1
     cases R4 with
     |some i=>
      have HFF:Hid (treeF ns=(4,(i:Int))):=htf
      unfold deepV at kd
      clear htf
      have HB5:Hid (Below wr.heap.size wr w5):=hb5
      clear hb5
      go_wp2_with (go_at_call 31;fail)
      refine kd.mono ?_
      rintro e w6 ⟨rfl,hb6⟩
      have b6:=HB5.out.trans (hb6.mono HB5.out.size)
      have f6:=HST.out.2.1.below b6
      obtain⟨f0,f1,ff⟩:=ft_cells f6
      have HF6:Hid (FtBox (w.heap.size+1) w6 0 0/\Below w.heap.size w w6):=⟨f6,HST.out.2.2.2.2.trans (b6.mono HST.out.2.2.2.2.size)⟩
      clear hb6 b6 f6 kd z5
      go_wp2_with fail
      exact bodyPost_ret (results_tc rfl _ _ _ ⟨w.heap.size+1,0,none⟩ _ _ rfl rfl (load_ft _ _ 4 i (ft_put HF6.out.1 4 i))) rfl ⟨(HF6.out.2.setCell (by simp) _).setCell (by simp) _,.inl ⟨(by rw[HFF.out];intro e;simp at e),(by rw[HFF.out];rfl)⟩⟩
     |none=>
      have HFF:Hid (treeF ns=(0,0)):=htf
      unfold deepV at kd
      clear htf
      have HB5:Hid (Below wr.heap.size wr w5):=hb5
      clear hb5
      go_wp2_with (go_at_call 31;fail)
      refine kd.mono ?_
      rintro e w6 ⟨rfl,hb6⟩
      have b6:=HB5.out.trans (hb6.mono HB5.out.size)
      have z6:=cell_kept hb6 z5
      have f6:=HST.out.2.1.below b6
      have ns6:=HST.out.1.ns.below b6
      obtain⟨x,hx⟩:=some_at HST.out.2.2.2.1 (show m<m+1 by omega)
      have cx:w6.cell? ⟨g,m,none⟩=some (nV x):=by have hr:=ns6.row;rw[HST.out.2.2.2.1]at hr;rw[hr.cellAt m (by omega),List.getElem?_map,hx];rfl
      obtain⟨f0,f1,ff⟩:=ft_cells f6
      have HF6:Hid (FtBox (w.heap.size+1) w6 0 0/\Below w.heap.size w w6/\NsAt w6 w0.heap.size (.slice (some ⟨g,0,none⟩) (m+1) cap) L/\L[m]?=some x):=⟨f6,HST.out.2.2.2.2.trans (b6.mono HST.out.2.2.2.2.size),ns6,hx⟩
      obtain⟨xv,hxv⟩:∃xv,nV x=xv:=⟨_,rfl⟩
      rw[hxv]at cx
      have HXV:Hid (nV x=xv):=hxv
      clear hb6 b6 f6 kd z5 ns6 hx hxv
      go_wp2_with fail
      exact bodyPost_ret (results_tc rfl _ _ _ ⟨w.heap.size+1,0,none⟩ _ _ rfl rfl (load_ft _ _ 0 0 (ft_put HF6.out.1 0 0))) rfl ⟨(HF6.out.2.1.setCell (by simp) _).setCell (by simp) _,.inr ⟨HFF.out,w0.heap.size,_,L,x,by rw[HXV.out];rfl,by rw[HN.out,Nat.add_sub_cancel];exact HF6.out.2.2.2,HST.out.2.2.1,HF6.out.2.2.1.putFt HF6.out.1 (by rw[HW.out.sz];omega) 0 0,HNMS.out⟩⟩
theorem linkedg_any (G:Value->Prop) (w:World) (v:Value) (ns:List Nd) (hGv:∀(ad:Addr) (n c i:Nat) (N:Nd) (vn:Value),v= .slice (some ad) n c->ns[i]?=some N->w.cell? ⟨(ad.add (i*9)).block,(ad.add (i*9)).off+7,none⟩=some vn->G vn) (h:NdsAt w v ns) (hl:ns.length<=1048576) (sm:∀N∈ns,NdSmall N) (he:Errs w) (tt:TypeId) (fr:Nat×Nat) (hG:w.heap[0]?=some (.cells wordV tt fr))
  (htab:∀W,Below w.heap.size w W->Lib.TabIs Tryz.prog W "strings.asciiSpace" .u8 Lib.asciiSpaceTab):
  Calls Tryz.prog 14 #[.agg #[v]] w (LinkPg G w ns):=by
 cases hb:badHead ns with
 |true=>
  have e:treeF ns=(1,0):=by unfold treeF;rw[if_pos hb]
  refine(linked_head w v ns h hl hb).mono ?_
  rintro e' w' ⟨rfl,hb'⟩
  exact⟨hb',.inl ⟨by rw[e];decide,by rw[e]⟩⟩
 |false=>exact linkedg_main G w v ns hGv h hl sm he tt fr hG htab hb
end Go.Proofs.YtelfejiiabbpfaaGreatDoor
