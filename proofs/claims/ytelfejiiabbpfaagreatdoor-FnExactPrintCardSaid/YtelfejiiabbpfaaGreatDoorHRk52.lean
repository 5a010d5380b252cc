import Derived.Test.YtelfejiiabbpfaaGreatDoorHRk33
import Derived.Test.YtelfejiiabbpfaaGreatDoorHRk48
import Derived.Test.YtelfejiiabbpfaaGreatDoorHRk31
set_option linter.unusedSimpArgs false
set_option linter.unusedVariables false
set_option maxRecDepth 100000
set_option maxHeartbeats 12800000
namespace Go.Proofs.YtelfejiiabbpfaaGreatDoor
open Go.RowKit
theorem back1_in (n l Bs len cap:Nat) (a:Option Addr) (f:Nat->Value) (hlen:len<=3000) (hcap:len<=cap) (J:Nat->World->Prop) (Jx:World->Prop)
  (hbox:∀m W,J m W->W.cell? ⟨Bs,0,none⟩=some (.slice a len cap))
  (hcell:∀m W,J m W->∀j,j<len->∃a',a=some a'/\W.cell? (a'.add j)=some (f j))
  (hY:∀m W,m<len->J (m+1) W->YieldAt Fence.wide (n-1) Tryz.prog l #[.int .i64 (m:Int),f m] W fun e W'=>(e= .returned (.bool true)/\J m W')\/(e= .returned (.bool false)/\Jx W'))
  (W:World) (h0:J len W):
  CallsIn Fence.wide n Tryz.prog 129 #[.func (.yield l) #[] #[],.pointer (some ⟨Bs,0,none⟩)] W fun e W'=>(∃v,e= .returned v)/\(J 0 W'\/Jx W'):=by
 have hb0:=hbox _ _ h0
 refine callsIn_of_wp Tryz.func129 rfl trivial ?_ rfl
 simp only[Tryz.ntmps129,List.size_toArray,List.length_cons,List.length_nil,Nat.reduceAdd,Nat.reduceSub,Array.replicate_succ,Array.replicate_zero,List.push_toArray,List.append_toArray,List.nil_append,List.cons_append]
 gi_wp2
 gi_loopw [3] (fun i wr=>∃k:Nat,k<=len/\i= .int .i64 ((k:Int)-1)/\J k wr) (fun i _=>(intOf i+1).toNat)
 case atStart=>exact⟨len,Nat.le_refl _,rfl,h0⟩
 case round=>
  obtain⟨k,hk,rfl,hJ⟩:=hrel
  have hb:=hbox _ _ hJ
  rcases Nat.eq_zero_or_pos k with rfl|hp
  ·gi_wp2
   go_end0
   exact⟨⟨_,rfl⟩,.inl hJ⟩
  ·obtain⟨m,rfl⟩:∃m,k=m+1:=⟨k-1,by omega⟩
   obtain⟨a',rfl,hc⟩:=hcell _ _ hJ m (by omega)
   obtain⟨fn,tmps,assign,body,hy,hR⟩:=hY m wr (by omega) hJ
   have e1:((m+1:Nat):Int)-1=(m:Int):=by omega
   rw[e1]
   have i1:(m:Int)<(len:Int):=by omega
   have i2:(0:Int)<=(m:Int):=by omega
   gi_wp2
   refine⟨fun h=>by simp[Fence.wide]at h,hR.mono ?_⟩
   rintro e W3 (⟨rfl,hJ3⟩|⟨rfl,hJx3⟩)
   ·gi_wp2
    go_roundw
    case rel=>exact⟨m,by omega,by simp,hJ3⟩
    case measure=>simp[intOf]
   ·gi_wp2
    refine bodyPost_ret (results_none rfl _ _ _) rfl ?_
    exact⟨⟨_,rfl⟩,.inr hJx3⟩
theorem backward_any (a:Option Addr) (len cap:Nat) (w:World):
  Calls Tryz.prog 89 #[.slice a len cap] w fun e w'=>e= .returned (.func (.func 129) #[] #[.pointer (some ⟨w.heap.size,0,none⟩)])/\w'=w.alloc (.cells #[.slice a len cap] 72):=by
 refine calls_of_wp Tryz.func89 rfl ?_
 simp only[Tryz.ntmps89,List.size_toArray,List.length_cons,List.length_nil,Nat.reduceAdd,Nat.reduceSub,Array.replicate_succ,Array.replicate_zero,List.push_toArray,List.append_toArray,List.nil_append,List.cons_append]
 go_wp2
 go_ret
 exact⟨rfl,rfl⟩
attribute [local go_sem] Oper.semAt_some
def deepV:Option Nat->Value
 |some i=> .tuple #[.int .i64 (i:Int),.bool true]
 |none=> .tuple #[.int .i64 0,.bool false]
structure FdSt (w:World) (B:Nat) (vs:Value) (n:Nat) (D:List Int) (W:World):Prop where
 bl:Below w.heap.size w W
 row:W.ownsRow w.heap.size 3 1 (.slice (some ⟨w.heap.size,0,none⟩) n n) n (D.map (Value.int .i64))
 bx:W.heap[B]?=some (.cells #[.slice (some ⟨w.heap.size,0,none⟩) n n] 42 (0,0))
 bs:W.heap[B+1]?=some (.cells #[vs] 72 (0,0))
 ok:DpOk n D
theorem FdSt.put {w:World}{B:Nat}{vs:Value}{n:Nat}{D:List Int}{W:World}(h:FdSt w B vs n D W) (hB:w.heap.size<B) {r:Loop}{k:Nat}(hk:B+1<k) (hl:W.heap[k]?=some (.loop r)) (o:Obj):FdSt w B vs n D (W.putObj k o):=
 ⟨h.bl.grown (grownBy_putObj' W k o) h.bl.size (fun j e=>by cases e;omega),ownsRow_putObj h.row o hl rfl,(World.putObj_heap_other (by omega)).trans h.bx,(World.putObj_heap_other (by omega)).trans h.bs,h.ok⟩
structure FkSt (w:World) (B:Nat) (vs:Value) (n t:Nat) (ks D:List Int) (j:Nat) (E:List Int) (W0 W:World):Prop where
 st:FdSt w B vs n E W
 rest:dpK t (ks.drop j) E=dpK t ks D
 kf:KeepsFrom (B+2) W0 W
theorem own_shape {W:World}{base e size n:Nat}{v:Value}{xs:List Value}(h:W.ownsRow base e size v n xs):∃a cap,v= .slice a n cap:=by
 rcases h.2 with⟨rfl,hn⟩|⟨g,cap,cur,rfl,_⟩
 ·exact⟨none,0,by rw[hn]⟩
 ·exact⟨_,_,rfl⟩
theorem own_lenN {W:World}{base e size n m c:Nat}{a:Option Addr}{xs:List Value}(h:W.ownsRow base e size (.slice a n c) m xs):n=m:=by
 obtain⟨a',c',e⟩:=own_shape h
 cases e;rfl
theorem NsAt.at {W:World}{base g n c:Nat}{L:List Im}(h:NsAt W base (.slice (some ⟨g,0,none⟩) n c) L) {i:Nat}{x:Im}(hx:L[i]?=some x):W.cell? ⟨g,i,none⟩=some (.iface (ptT (cls x.N.k)) (.pointer (some ⟨x.b,0,none⟩))):=by
 have hl:i<L.length:=(List.getElem?_eq_some_iff.1 hx).1
 have hn:=own_lenN h.row
 subst hn
 rw[h.row.cellAt i (by omega),List.getElem?_map,hx];rfl
theorem NsAt.kidAt {W:World}{base:Nat}{vs:Value}{L:List Im}(h:NsAt W base vs L) {i:Nat}{x:Im}(hx:L[i]?=some x) {g n c:Nat}(hv:x.kv= .slice (some ⟨g,0,none⟩) n c) {j:Nat}{z:Int}(hz:x.N.ks[j]?=some z):
  ∃q y,z=((q:Nat):Int)/\q<i/\L[q]?=some y/\W.cell? ⟨g,j,none⟩=some (.iface (ptT (cls y.N.k)) (.pointer (some ⟨y.b,0,none⟩))):=by
 obtain⟨z0,z1⟩:=h.rng i x z hx (List.mem_of_getElem? hz)
 obtain⟨q,rfl⟩:=Int.eq_ofNat_of_zero_le z0
 have hil:i<L.length:=(List.getElem?_eq_some_iff.1 hx).1
 have hjl:j<x.N.ks.length:=(List.getElem?_eq_some_iff.1 hz).1
 have hq:q<i:=by omega
 refine⟨q,L[q]'(by omega),rfl,hq,List.getElem?_eq_getElem _,?_⟩
 have hk:=h.kid i x hx
 rw[hv]at hk
 have hn:=own_lenN hk
 subst hn
 rw[hk.cellAt j (by omega)]
 unfold kidsIn
 rw[List.getElem?_map,hz]
 simp only[Option.map_some,Int.toNat_natCast]
 rw[List.getElem?_take,if_pos hq,List.getElem?_eq_getElem (by omega)]
 rfl
theorem firstDeep_any (w:World) (base:Nat) (vs:Value) (L:List Im) (hN:NsAt w base vs L) (ns:List Nd) (hns:L.map Im.N=ns) (n:Nat) (hLn:L.length=n) (h0:1<=n) (h1:n<=3000) (hks:∀x∈L,x.N.ks.length<=200):
  Calls Tryz.prog 31 #[vs] w fun e w'=>e= .returned (deepV (fstI (badDeep (dps ns)) n 0))/\Below w.heap.size w w':=by
 obtain⟨g,cap,rfl⟩:∃g c,vs= .slice (some ⟨g,0,none⟩) n c:=by
  rcases own_zero_or hN.row with⟨h,_⟩|h
  ·omega
  ·rw[<-hLn];exact h
 have hcap:n<=cap:=by
  rcases hN.row.2 with⟨h1,_⟩|⟨g2,cap2,cur,h1,_,_,h4,_⟩
  ·cases h1
  ·cases h1;omega
 obtain⟨i0,hi,hz0,hz1,hz2⟩:=info_parts infoInt
 obtain⟨R,hR⟩:∃R,fstI (badDeep (dps ns)) n 0=R:=⟨_,rfl⟩
 rw[hR]
 have HN:Hid (NsAt w base (.slice (some ⟨g,0,none⟩) n cap) L/\L.map Im.N=ns/\L.length=n/\fstI (badDeep (dps ns)) n 0=R/\∀x∈L,x.N.ks.length<=200):=⟨hN,hns,hLn,hR,hks⟩
 clear hN hns hLn hR hks
 refine callsIn_wide (n:=5).1 ?_
 refine callsIn_of_wp_marks Tryz.func31 rfl trivial ?_ rfl
 simp only[Tryz.ntmps31,List.size_toArray,List.length_cons,List.length_nil,Nat.reduceAdd,Nat.reduceSub,Array.replicate_succ,Array.replicate_zero,List.push_toArray,List.append_toArray,List.nil_append,List.cons_append]
 refine wpIn_wide.2 ?_
 go_wp2_with (first|(at_make;refine wpList_make_full _ rfl _ _ 42 rfl w.heap.size 3 i0 (.int .i64 0) 1 Tryz.underlying42 hi hz0 hz1 .i64 .i64 _ _ n rfl rfl rfl rfl (by rw[hz2];omega) (by unfold maxLen;omega) (Nat.le_refl _) ?_;intro w0 hown0 hgrow0)|(go_at_call 89;refine(backward_any (some ⟨g,0,none⟩) n cap _).mono ?_;rintro e w2 ⟨rfl,rfl⟩))
 rename_i K hK
 have hb0:Below w.heap.size w w0:=⟨hgrow0.os,hgrow0.tape,hgrow0.output,hgrow0.size,fun k hk=>hgrow0.block k hk (by simp)⟩
 rw[show(madeCells (Value.int .i64 0).cells (n*1)).toList=List.replicate n (Value.int .i64 0) by rw[Nat.mul_one];exact toList_madeCells_one _ n]at hown0
 have hs0:w.heap.size<w0.heap.size:=(hown0.lt w.heap.size rfl).2
 obtain⟨B,hB⟩:∃B,w0.heap.size=B:=⟨_,rfl⟩
 have hst0:FdSt w B (.slice (some ⟨g,0,none⟩) n cap) n (List.replicate n 0) ((w0.alloc (.cells #[.slice (some ⟨w.heap.size,0,none⟩) n n] 42)).alloc (.cells #[.slice (some ⟨g,0,none⟩) n cap] 72)):=by
  refine⟨(hb0.alloc (by omega) _).alloc (by simp;omega) _,?_,?_,?_,?_⟩
  ·rw[List.map_replicate];exact(hown0.alloc _).alloc _
  ·exact(Below.heap_alloc _ _ _ (by simp;omega)).trans (by rw[<-hB];exact heap_alloc_new w0 _)
  ·have:=heap_alloc_new (w0.alloc (.cells #[.slice (some ⟨w.heap.size,0,none⟩) n n] 42)) (.cells #[.slice (some ⟨g,0,none⟩) n cap] 72)
   rw[World.size_alloc,hB]at this;exact this
  ·refine⟨by simp,fun j z hj=>?_⟩
   obtain⟨h1,h2⟩:=List.getElem?_eq_some_iff.1 hj
   simp at h1 h2
   omega
 have hsz:((w0.alloc (.cells #[.slice (some ⟨w.heap.size,0,none⟩) n n] 42)).alloc (.cells #[.slice (some ⟨g,0,none⟩) n cap] 72)).heap.size=B+2:=by simp;omega
 rw[hB]at hs0⊢
 generalize (w0.alloc (.cells #[.slice (some ⟨w.heap.size,0,none⟩) n n] 42)).alloc (.cells #[.slice (some ⟨g,0,none⟩) n cap] 72)=W0 at hst0 hsz⊢
 clear hown0 hgrow0 hb0 hB
 refine(wpIn_wide (n:=5)).1 ?_
 refine rangeDown (P:=Tryz.prog) (gf:=129) (lb:=#[.pointer (some ⟨B+1,0,none⟩)]) rfl (enters_of Tryz.func129 (by kernel_rfl) rfl)
  (fun m=>#[.int .i64 (m:Int),match L[m]? with|some x=> .iface (ptT (cls x.N.k)) (.pointer (some ⟨x.b,0,none⟩))|none=> .nilIface]) (fun _=>rfl) n
  (fun m W=>∃D,FdSt w B (.slice (some ⟨g,0,none⟩) n cap) n D W/\dpN ns m D=dps ns)
  (fun m a' W=>(∃D,FdSt w B (.slice (some ⟨g,0,none⟩) n cap) n D W/\dpN ns (m+1) D=dps ns)/\∃x,L[m]?=some x/\
   a'={tmps:=#[.slice (some ⟨g,0,none⟩) n cap,undef,.int .i64 0,.bool false,.pointer (some ⟨B,0,none⟩),.int .i64 (m:Int),.iface (ptT (cls x.N.k)) (.pointer (some ⟨x.b,0,none⟩)),undef,undef,undef,undef,
    .slice (some ⟨g,0,none⟩) n cap,.int .i64 (n:Int),.slice (some ⟨w.heap.size,0,none⟩) n n,.slice (some ⟨g,0,none⟩) n cap,.func (.func 129) #[] #[.pointer (some ⟨B+1,0,none⟩)],.int .i64 (m:Int),.iface (ptT (cls x.N.k)) (.pointer (some ⟨x.b,0,none⟩)),
    undef,undef,undef,undef,undef,undef,undef,undef,undef,undef,undef,undef,undef,undef,undef,undef,undef,undef,undef,undef,undef,undef,undef,undef,undef,undef,undef,undef,undef,undef,undef,undef,undef,undef],defers:=[]})
  (fun _=>False)
  ?pZ ?pAx ?pX ?h0 ?assign ?body ?seq ?done ?ret
 case pZ=>
  rintro m W r o ⟨D,h,hd⟩ hl
  rw[hsz]at hl⊢
  exact⟨D,h.put hs0 (by omega) hl o,hd⟩
 case pAx=>
  rintro m a' W r o ⟨⟨D,h,hd⟩,x,hx,rfl⟩ hl
  rw[hsz]at hl⊢
  exact⟨⟨D,h.put hs0 (by omega) hl o,hd⟩,x,hx,rfl⟩
 case pX=>intro W r o h;exact h.elim
 case h0=>
  intro W1 hb hs
  have hb2:Below w.heap.size w W1:=hst0.bl.trans (hb.mono (by omega))
  exact⟨List.replicate n 0,⟨hb2,own_keep hst0.row hb,(hb.block _ (by omega)).trans hst0.bx,(hb.block _ (by omega)).trans hst0.bs,hst0.ok⟩,by rw[dps,<-HN.out.2.1,List.length_map,HN.out.2.2.1]⟩
 case assign=>
  rintro l m W K2 hm ⟨D,h,hd⟩ hK2
  obtain⟨x,hx⟩:=some_at HN.out.2.2.1 hm
  rw[hx]at⊢
  have HK:=fun a'=>hK2 a' W
  have HD:Hid (FdSt w B (.slice (some ⟨g,0,none⟩) n cap) n D W/\dpN ns (m+1) D=dps ns/\L[m]?=some x):=⟨h,hd,hx⟩
  clear h hd hx
  gi_wp2
  exact hK2 _ _ ⟨⟨D,HD.out.1,HD.out.2.1⟩,x,HD.out.2.2,rfl⟩ (KeepsFrom.refl _ _)
 case body=>
  rintro l m a' W hm ⟨⟨D,h,hd⟩,x,hx,rfl⟩
  rw[hsz]
  have hbx:=cell_kept h.bl (HN.out.1.box m x hx).cells.2.2.2.2.1
  have hkd:=HN.out.1.kid m x hx
  obtain⟨av,cv,hkv⟩:=own_shape hkd
  rw[hkv]at hbx
  have hkl:=HN.out.2.2.2.2 x (List.mem_of_getElem? hx)
  obtain⟨ln,hln⟩:∃ln,x.N.ks.length=ln:=⟨_,rfl⟩
  rw[hln]at hbx hkl hkv
  have hnx:ns[m]?=some x.N:=by rw[<-HN.out.2.1,List.getElem?_map,hx];rfl
  have hd2:dpN ns m (dpK m x.N.ks D)=dps ns:=by
   rw[dpN,List.getD_eq_getElem?_getD,hnx,Option.getD_some]at hd
   exact hd
  have HD:Hid (L[m]?=some x/\dpN ns m (dpK m x.N.ks D)=dps ns/\x.N.ks.length=ln/\x.kv= .slice av ln cv):=⟨hx,hd2,hln,hkv⟩
  have HK0:Hid (FkSt w B (.slice (some ⟨g,0,none⟩) n cap) n m x.N.ks D 0 D W W):=⟨h,rfl,KeepsFrom.refl _ _⟩
  have hmt:=fun w=>methK x.N.k x.b w
  have hmi:(m:Int)<(n:Int):=by omega
  have hm0:(0:Int)<=(m:Int):=by omega
  have kh:=fun (b:Nat) w=>CallsIn.inRound l (callsIn_wide (n:=2).2 (head_any b w))
  generalize ptT (cls x.N.k)=tp at hmt⊢
  clear hx hd hd2 hkd hnx hln hkv h
  gi_wp2_with (refine⟨trivial,?_⟩;gi_at_call 233;refine(kh _ _).mono ?_;rintro e w3 ⟨rfl,hw3⟩;subst w3)
  gi_loopw [24] (fun vi w6=>∃(j:Nat) (E:List Int),j<=ln/\vi= .int .i64 j/\Hid (FkSt w B (.slice (some ⟨g,0,none⟩) n cap) n m x.N.ks D j E W w6)) (fun vi _=>ln-(intOf vi).toNat)
  case atStart=>exact⟨0,D,Nat.zero_le _,rfl,HK0⟩
  case round=>
   obtain⟨j,E,hj,rfl,HE⟩:=hrel
   clear HK0 hbx hmt
   by_cases hjl:j<ln
   ·have hji:(j:Int)<(ln:Int):=by omega
    have hj0:(0:Int)<=(j:Int):=by omega
    obtain⟨z,hz⟩:=some_at HD.out.2.2.1 hjl
    have hkv:=HD.out.2.2.2
    obtain⟨gk,hgk⟩:∃gk,av=some ⟨gk,0,none⟩:=by
     have hkd:=HN.out.1.kid m x HD.out.1
     rw[hkv]at hkd
     rcases own_zero_or hkd with⟨h,_⟩|⟨gk,c,h⟩
     ·rw[HD.out.2.2.1]at h;omega
     ·cases h;exact⟨_,rfl⟩
    subst hgk
    obtain⟨q,y,rfl,hq,hy,hcy⟩:=(HN.out.1.below (HE.out.st.bl)).kidAt HD.out.1 hkv hz
    have hnum:=cell_kept HE.out.st.bl (HN.out.1.box q y hy).cells.2.2.2.1
    obtain⟨et,het⟩:=some_at HE.out.st.ok.1 hm
    obtain⟨eq_,heq⟩:=some_at HE.out.st.ok.1 (show q<n by omega)
    have hbd:=HE.out.st.ok.2 m et het
    have hed:FdSt w B (.slice (some ⟨g,0,none⟩) n cap) n E wr.drew:=⟨HE.out.st.bl.drew,HE.out.st.row,HE.out.st.bx,HE.out.st.bs,HE.out.st.ok⟩
    have hrow:=hed.row
    have ct:wr.drew.cell? ⟨w.heap.size,m,none⟩=some (.int .i64 et):=by rw[hrow.cellAt m (by omega),List.getElem?_map,het];rfl
    have cq:wr.drew.cell? ⟨w.heap.size,q,none⟩=some (.int .i64 eq_):=by rw[hrow.cellAt q (by omega),List.getElem?_map,heq];rfl
    have fq:=hrow.frozenAt q
    have hgt:E.getD m 0=et:=by rw[List.getD_eq_getElem?_getD,het];rfl
    have o2:=(hrow.stored q (.int .i64 (et+1))).1
    rw[<-List.map_set]at o2
    have ok2:=HE.out.st.ok.set m q hm hq
    rw[hgt]at ok2
    have hrest:dpK m (x.N.ks.drop (j+1)) (E.set q (et+1))=dpK m x.N.ks D:=by
     have h1:=HE.out.rest
     have hjk:=(List.getElem?_eq_some_iff.1 hz)
     rw[List.drop_eq_getElem_cons hjk.1,hjk.2,dpK,hgt]at h1
     exact h1
    have cb:wr.drew.cell? ⟨B,0,none⟩=_:=one_cell1 hed.bx
    have st2:FdSt w B (.slice (some ⟨g,0,none⟩) n cap) n (E.set q (et+1)) (wr.drew.setCell ⟨w.heap.size,q,none⟩ (.int .i64 (et+1))):=
     ⟨hed.bl.setCell (Nat.le_refl _) _,o2,(heap_setCell_other _ _ _ _ (by simp;omega)).trans hed.bx,(heap_setCell_other _ _ _ _ (by simp;omega)).trans hed.bs,ok2⟩
    have HE2:Hid (FkSt w B (.slice (some ⟨g,0,none⟩) n cap) n m x.N.ks D (j+1) (E.set q (et+1)) W (wr.drew.setCell ⟨w.heap.size,q,none⟩ (.int .i64 (et+1)))):=⟨st2,hrest,HE.out.kf.trans (((KeepsOthers.drew wr).from _).trans ((KeepsOthers.setCell _ _ _).from _))⟩
    have hnq:q≠m:=by omega
    have hwrp:IntKind.i64.wrap (et+1)=et+1:=by rw[IntKind.wrap_i64];omega
    have hyb0:=lt_of_block (HN.out.1.box q y hy)
    have hS2:(wr.drew.setCell ⟨w.heap.size,q,none⟩ (.int .i64 (et+1))).cell? ⟨B,0,none⟩=some (.slice (some ⟨w.heap.size,0,none⟩) n n)/\(wr.drew.setCell ⟨w.heap.size,q,none⟩ (.int .i64 (et+1))).cell? ⟨y.b,4,none⟩=some (.int .i64 (q:Int))/\(wr.drew.setCell ⟨w.heap.size,q,none⟩ (.int .i64 (et+1))).cell? ⟨w.heap.size,m,none⟩=some (.int .i64 et):=
     ⟨(World.cell?_setCell_far _ _ _ _ (by simp;omega)).trans cb,(World.cell?_setCell_far _ _ _ _ (by simp;omega)).trans hnum,(World.cell?_setCell_other _ _ _ _ (by simp;try omega)).trans ct⟩
    have hqm:(q:Int)<(n:Int):=by omega
    have hq0:(0:Int)<=(q:Int):=by omega
    have hmt:=fun w=>methK y.N.k y.b w
    generalize ptT (cls y.N.k)=tp2 at hmt hcy
    clear hz HE o2 ok2 hrest st2 hrow het heq hgt hkv hy hed
    gi_wp2_with (refine⟨trivial,?_⟩;gi_at_call 233;refine(kh _ _).mono ?_;rintro e w3 ⟨rfl,hw3⟩;subst w3)
    have hS0:wr.drew.cell? ⟨B,0,none⟩=some (.slice (some ⟨w.heap.size,0,none⟩) n n)/\wr.drew.cell? ⟨y.b,4,none⟩=some (.int .i64 (q:Int))/\wr.drew.cell? ⟨w.heap.size,m,none⟩=some (.int .i64 et):=⟨cb,hnum,ct⟩
    refine region_round (S:=fun w'=>w'.cell? ⟨B,0,none⟩=some (.slice (some ⟨w.heap.size,0,none⟩) n n)/\w'.cell? ⟨y.b,4,none⟩=some (.int .i64 (q:Int))/\w'.cell? ⟨w.heap.size,m,none⟩=some (.int .i64 et)) (by kernel_rfl) (by kernel_rfl) (fun ⟨_,_,h⟩=>h) hS0 (fun hS=>?_)
    refine takeAt 0 28 (.slice (some ⟨w.heap.size,0,none⟩) n n) rfl rfl (by kernel_rfl) (by kernel_rfl) (by kernel_rfl) (fun _ _ _ h=>h) (by rfl) hS (fun w' hw'=>by obtain⟨s1,s2,s3⟩:=hw';go_simp) ?_
    simp only[Act.put,List.setIfInBounds_toArray,List.set_cons_zero,List.set_cons_succ]
    refine takeAt 1 29 (.iface tp2 (.pointer (some ⟨y.b,0,none⟩))) rfl rfl (by kernel_rfl) (by kernel_rfl) (by kernel_rfl) (fun _ _ _ h=>h) (by rfl) hS (fun w' hw'=>by obtain⟨s1,s2,s3⟩:=hw';go_simp) ?_
    simp only[Act.put,List.setIfInBounds_toArray,List.set_cons_zero,List.set_cons_succ]
    refine takeAt 6 34 (.slice (some ⟨w.heap.size,0,none⟩) n n) rfl rfl (by kernel_rfl) (by kernel_rfl) (by kernel_rfl) (fun _ _ _ h=>h) (by rfl) hS (fun w' hw'=>by obtain⟨s1,s2,s3⟩:=hw';go_simp) ?_
    simp only[Act.put,List.setIfInBounds_toArray,List.set_cons_zero,List.set_cons_succ]
    refine takeAt 7 35 (.int .i64 (m:Int)) rfl rfl (by kernel_rfl) (by kernel_rfl) (by kernel_rfl) (fun _ _ _ h=>h) (by rfl) hS (fun w' hw'=>by obtain⟨s1,s2,s3⟩:=hw';go_simp) ?_
    simp only[Act.put,List.setIfInBounds_toArray,List.set_cons_zero,List.set_cons_succ]
    refine takeAt 8 36 (.pointer (some ⟨w.heap.size,m,none⟩)) rfl rfl (by kernel_rfl) (by kernel_rfl) (by kernel_rfl) (fun _ _ _ h=>h) (by rfl) hS (fun w' hw'=>by obtain⟨s1,s2,s3⟩:=hw';go_simp) ?_
    simp only[Act.put,List.setIfInBounds_toArray,List.set_cons_zero,List.set_cons_succ]
    refine takeAt 9 37 (.int .i64 et) rfl rfl (by kernel_rfl) (by kernel_rfl) (by kernel_rfl) (fun _ _ _ h=>h) (by rfl) hS (fun w' hw'=>by obtain⟨s1,s2,s3⟩:=hw';go_simp) ?_
    simp only[Act.put,List.setIfInBounds_toArray,List.set_cons_zero,List.set_cons_succ]
    refine takeAt 10 38 (.int .i64 (et+1)) rfl rfl (by kernel_rfl) (by kernel_rfl) (by kernel_rfl) (fun _ _ _ h=>h) (by rfl) hS (fun w' hw'=>by obtain⟨s1,s2,s3⟩:=hw';go_simp) ?_
    simp only[Act.put,List.setIfInBounds_toArray,List.set_cons_zero,List.set_cons_succ]
    refine wpAnyH_ready (rs:=[2]) (by kernel_rfl) (by simp) (AllReadyH.cons rfl (fun K3 hK3=>?_) AllReadyH.nil)
    go_simp
    refine(head_any _ _).mono ?_
    rintro e w3 ⟨rfl,hw3⟩
    subst w3
    refine hK3.out _ _ hS (fun hS=>?_)
    clear hK3 K3
    try simp only[Act.put,List.setIfInBounds_toArray,List.set_cons_zero,List.set_cons_succ]
    refine takeAt 3 31 (.pointer (some ⟨y.b,0,none⟩)) rfl rfl (by kernel_rfl) (by kernel_rfl) (by kernel_rfl) (fun _ _ _ h=>h) (by rfl) hS (fun w' hw'=>by obtain⟨s1,s2,s3⟩:=hw';go_simp) ?_
    simp only[Act.put,List.setIfInBounds_toArray,List.set_cons_zero,List.set_cons_succ]
    refine takeAt 4 32 (.pointer (some ⟨y.b,4,none⟩)) rfl rfl (by kernel_rfl) (by kernel_rfl) (by kernel_rfl) (fun _ _ _ h=>h) (by rfl) hS (fun w' hw'=>by obtain⟨s1,s2,s3⟩:=hw';go_simp) ?_
    simp only[Act.put,List.setIfInBounds_toArray,List.set_cons_zero,List.set_cons_succ]
    refine takeAt 5 33 (.int .i64 (q:Int)) rfl rfl (by kernel_rfl) (by kernel_rfl) (by kernel_rfl) (fun _ _ _ h=>h) (by rfl) hS (fun w' hw'=>by obtain⟨s1,s2,s3⟩:=hw';go_simp) ?_
    simp only[Act.put,List.setIfInBounds_toArray,List.set_cons_zero,List.set_cons_succ]
    refine takeAt 11 39 (.pointer (some ⟨w.heap.size,q,none⟩)) rfl rfl (by kernel_rfl) (by kernel_rfl) (by kernel_rfl) (fun _ _ _ h=>h) (by rfl) hS (fun w' hw'=>by obtain⟨s1,s2,s3⟩:=hw';go_simp) ?_
    simp only[Act.put,List.setIfInBounds_toArray,List.set_cons_zero,List.set_cons_succ]
    refine wpAnyH_ready (rs:=[12]) (by kernel_rfl) (by simp) (AllReadyH.cons rfl (fun K3 hK3=>?_) AllReadyH.nil)
    go_simp
    refine hK3.out _ _ hS2 (fun hS=>?_)
    clear hK3 K3
    refine wpAnyH_done (by kernel_rfl) ?_ _
    gi_wp2
    exact⟨⟨j+1,_,by omega,by go_num,HE2⟩,by simp[intOf];omega⟩
   ·obtain rfl:j=ln:=by omega
    have hfin:Hid (FdSt w B (.slice (some ⟨g,0,none⟩) n cap) n E wr/\dpN ns m E=dps ns/\KeepsFrom (B+2) W wr):=by
     refine⟨HE.out.st,?_,HE.out.kf⟩
     have h1:=HE.out.rest
     rw[List.drop_of_length_le (by rw[HD.out.2.2.1];exact Nat.le_refl _),dpK]at h1
     rw[h1]
     exact HD.out.2.1
    clear HE
    gi_wp2
    exact⟨hfin.out.2.2,E,hfin.out.1,hfin.out.2.1⟩
 case seq=>
  intro l J Jx hJ hY W hW
  refine back1_in 4 l (B+1) n cap (some ⟨g,0,none⟩) _ h1 hcap J Jx (fun m W h=>?_) (fun m W h j hj=>?_) hY W hW
  ·obtain⟨D,hd,_⟩:=hJ m W h
   exact one_cell1 hd.bs
  ·obtain⟨D,hd,_⟩:=hJ m W h
   obtain⟨x,hx⟩:=some_at HN.out.2.2.1 hj
   refine⟨_,rfl,?_⟩
   rw[add_zero_at,hx]
   exact cell_kept hd.bl (HN.out.1.at hx)
 case ret=>intro W h;exact h.elim
 case done=>
  rintro W ⟨D,h,hd⟩ hD
  have hDd:D=dps ns:=hd
  refine hK _ _ ?_
  have cb:=one_cell1 h.bx
  have HD:Hid (FdSt w B (.slice (some ⟨g,0,none⟩) n cap) n D W/\W.heap[B+2]?=some (.deferred (some []))):=⟨h,by rw[<-hsz];exact hD⟩
  have HF0:FsIs (badDeep D) (n-0) 0 R:=⟨by rw[hDd];exact HN.out.2.2.2.1⟩
  have hBW:w.heap.size<B+2:=by omega
  rw[hsz]
  clear h hd hD hDd hK
  go_wp2_with fail
  go_loop [43] (fun vi=>∃k:Nat,k<=n/\vi= .int .i64 k/\FsIs (badDeep D) (n-k) k R) (fun vi=>n-(intOf vi).toNat)
  case atStart=>exact⟨0,Nat.zero_le _,rfl,HF0⟩
  case round=>
   obtain⟨k,hk4,rfl,HF⟩:=hrel
   clear HF0
   have hf:=HF.out
   by_cases hlt4:k<n
   ·have hki:(k:Int)<(n:Int):=by omega
    have hk0:(0:Int)<=(k:Int):=by omega
    obtain⟨z,hz⟩:=some_at HD.out.1.ok.1 hlt4
    have cz:W.cell? ⟨w.heap.size,k,none⟩=some (.int .i64 z):=by rw[HD.out.1.row.cellAt k (by omega),List.getElem?_map,hz];rfl
    rw[show n-k=(n-(k+1))+1 by omega,fstI]at hf
    have eb:badDeep D k=decide (100<z):=by unfold badDeep;rw[List.getD_eq_getElem?_getD,hz];rfl
    rw[eb]at hf
    by_cases hzb:100<z
    ·rw[if_pos (decide_eq_true hzb)]at hf
     have HFF:Hid (R=some k):=hf.symm
     clear hf eb hz HF
     go_wp2_with fail
     refine⟨by simp,.inl ⟨_,_,rfl,run_takeDeferred HD.out.2,?_⟩⟩
     refine⟨_,results_tmp2 rfl _ _ _,by rw[HFF.out];rfl,?_⟩
     exact HD.out.1.bl.grown (grownBy_putObj' W (B+2) (.deferred none)) HD.out.1.bl.size (fun k e=>by cases e;omega)
    ·rw[if_neg (by simpa using hzb)]at hf
     have HF3:FsIs (badDeep D) (n-(k+1)) (k+1) R:=⟨hf⟩
     clear hf eb hz HF
     go_wp2_with fail
     go_round
     case rel=>exact⟨k+1,by omega,by go_num,HF3⟩
     case measure=>simp[intOf];omega
   ·obtain rfl:k=n:=by omega
    rw[Nat.sub_self,fstI]at hf
    have HFF:Hid (R=none):=hf.symm
    clear hf HF
    go_wp2_with fail
    refine⟨by simp,.inl ⟨_,_,rfl,run_takeDeferred HD.out.2,?_⟩⟩
    refine⟨_,results_tmp2 rfl _ _ _,by rw[HFF.out];rfl,?_⟩
    exact HD.out.1.bl.grown (grownBy_putObj' W (B+2) (.deferred none)) HD.out.1.bl.size (fun k e=>by cases e;omega)
attribute [local go_sem] Oper.semAt_some
def orderV (S:List Int) (n:Nat):Option Nat->Value
 |some i=> .tuple #[.int .i64 (i:Int),.bool true]
 |none=> .tuple #[.int .i64 ((n:Int)-1),.bool (decide (S.getD (n-1) 0<(n:Int)))]
structure OoSt (w:World) (B n:Nat) (S:List Int) (c:List Nat) (W:World):Prop where
 bl:Below w.heap.size w W
 r0:W.heap[w.heap.size]?=some (.cells #[.int .i64 0] 3 (0,0))
 r1:W.heap[w.heap.size+1]?=some (.cells #[.bool false] 4 (0,0))
 row:W.ownsRow w.heap.size 3 1 (.slice (some ⟨w.heap.size+1+1,0,none⟩) n n) n (S.map (Value.int .i64)++List.replicate (n-S.length) (.int .i64 0))
 bx:W.heap[B]?=some (.cells #[.slice (some ⟨w.heap.size+1+1,0,none⟩) n n] 42 (0,0))
 mks:Marks (w.heap.size+1+1+1) c W
theorem OoSt.below {w:World}{B n:Nat}{S:List Int}{c:List Nat}{W W':World}(h:OoSt w B n S c W) (hb:Below W.heap.size W W'):OoSt w B n S c W':=
 ⟨h.bl.trans (hb.mono h.bl.size),(hb.block _ (lt_of_block h.r0)).trans h.r0,(hb.block _ (lt_of_block h.r1)).trans h.r1,own_keep h.row hb,(hb.block _ (lt_of_block h.bx)).trans h.bx,h.mks.below hb⟩
theorem OoSt.put {w:World}{B n:Nat}{S:List Int}{c:List Nat}{W:World}(h:OoSt w B n S c W) (hB:w.heap.size+1<B) {r:Loop}{k:Nat}(hk:B<k) (hl:W.heap[k]?=some (.loop r)) (o:Obj):OoSt w B n S c (W.putObj k o):=
 ⟨h.bl.grown (grownBy_putObj' W k o) h.bl.size (fun j e=>by cases e;omega),(World.putObj_heap_other (by omega)).trans h.r0,(World.putObj_heap_other (by omega)).trans h.r1,ownsRow_putObj h.row o hl rfl,(World.putObj_heap_other (by omega)).trans h.bx,
  ⟨h.mks.nd,h.mks.lo,fun b hm=>(World.putObj_heap_other (by rintro rfl;have:=(h.mks.at_ b hm).symm.trans hl;cases this)).trans (h.mks.at_ b hm)⟩⟩
structure IoSt (w:World) (B n:Nat) (S:List Int) (c:List Nat) (sz k:Nat) (kv:Value) (a:Int) (W:World):Prop where
 oo:OoSt w B n S c W
 b5:W.heap[sz]?=some (.cells #[.int .i64 (k:Int)] 3 (0,0))
 b7:W.heap[sz+1]?=some (.cells #[.int .i64 (a-1)] 3 (0,0))
 b8:W.heap[sz+1+1]?=some (.cells #[kv] 72 (0,0))
theorem IoSt.put {w:World}{B n:Nat}{S:List Int}{c:List Nat}{sz k:Nat}{kv:Value}{a:Int}{W:World}(h:IoSt w B n S c sz k kv a W) (hB:w.heap.size+1<B) (hs:B<sz) {r:Loop}{j:Nat}(hk:sz+1+1<j) (hl:W.heap[j]?=some (.loop r)) (o:Obj):IoSt w B n S c sz k kv a (W.putObj j o):=
 ⟨h.oo.put hB (by omega) hl o,(World.putObj_heap_other (by omega)).trans h.b5,(World.putObj_heap_other (by omega)).trans h.b7,(World.putObj_heap_other (by omega)).trans h.b8⟩
theorem results_cell2 {fn:Func}{p q:Tmp}{t u:TypeId}(h:fn.results=#[.cell p t,.cell q u]) (tmps:Array Value) (P:Program) (w:World) (a b:Addr) (v v':Value) (hp:tmps.getD p undef= .pointer (some a)) (hq:tmps.getD q undef= .pointer (some b))
  (h1:(loadVar t a).run P w= .ok v w) (h2:(loadVar u b).run P w= .ok v' w):(results fn tmps).run P w= .ok (.tuple #[v,v']) w:=by
 have hp':tmps[p]?.getD undef= .pointer (some a):=by simpa using hp
 have hq':tmps[q]?.getD undef= .pointer (some b):=by simpa using hq
 simp only[results,h]
 simp[Sem.run_bind,Result.andThen,hp',hq',asAddr,h1,h2]
theorem load_int (w:World) (a:Addr) (z:Int) (h:w.cell? a=some (.int .i64 z)):(loadVar 3 a).run Tryz.prog w= .ok (.int .i64 z) w:=by go_simp
theorem load_bool (w:World) (a:Addr) (z:Bool) (h:w.cell? a=some (.bool z)):(loadVar 4 a).run Tryz.prog w= .ok (.bool z) w:=by go_simp
theorem szs_pre (a b:List Nd):∃t,szs (a++b)=szs a++t:=by
 refine rev_ind (p:=fun b=>∃t,szs (a++b)=szs a++t) ⟨[],by simp⟩ (fun c x ⟨t,h⟩=>?_) b
 rw[<-List.append_assoc,szs_app,h]
 exact⟨t++[_],List.append_assoc _ _ _⟩
theorem szs_next {ns:List Nd}{k:Nat}{N:Nd}(h:ns[k]?=some N):szs (ns.take (k+1))=szs (ns.take k)++[szNd (szs (ns.take k)) k N.ks]:=by
 have hk:k<ns.length:=(List.getElem?_eq_some_iff.1 h).1
 rw[List.take_add_one,h]
 show szs (ns.take k++[N])=_
 rw[szs_app,szs_len,List.length_take,Nat.min_eq_left (by omega)]
theorem szs_at {ns:List Nd}{k:Nat}{N:Nd}(h:ns[k]?=some N):(szs ns).getD k 0=szNd (szs (ns.take k)) k N.ks:=by
 have hk:k<ns.length:=(List.getElem?_eq_some_iff.1 h).1
 obtain⟨t,ht⟩:=szs_pre (ns.take (k+1)) (ns.drop (k+1))
 rw[List.take_append_drop,szs_next h]at ht
 have hl:(szs (ns.take k)).length=k:=by rw[szs_len,List.length_take,Nat.min_eq_left (by omega)]
 rw[ht,List.getD_eq_getElem?_getD,List.append_assoc,List.getElem?_append_right (by omega),hl]
 simp
def kidV (L:List Im) (ks:List Int) (m:Nat):Value:=match ks[m]? with
 |some z=>(match L[z.toNat]? with|some y=> .iface (ptT (cls y.N.k)) (.pointer (some ⟨y.b,0,none⟩))|none=> .nilIface)
 |none=> .nilIface
theorem kidV_eq {L:List Im}{ks:List Int}{m q:Nat}{y:Im}(h1:ks[m]?=some (q:Int)) (h2:L[q]?=some y):kidV L ks m= .iface (ptT (cls y.N.k)) (.pointer (some ⟨y.b,0,none⟩)):=by
 unfold kidV
 rw[h1]
 simp[h2]
structure XoSt (w:World) (c:List Nat) (k:Nat) (W:World):Prop where
 bl:Below w.heap.size w W
 r0:W.heap[w.heap.size]?=some (.cells #[.int .i64 (k:Int)] 3 (0,0))
 r1:W.heap[w.heap.size+1]?=some (.cells #[.bool true] 4 (0,0))
 mks:Marks (w.heap.size+1+1+1) c W
theorem firstOrder_any (w:World) (base:Nat) (vs:Value) (L:List Im) (hN:NsAt w base vs L) (ns:List Nd) (hns:L.map Im.N=ns) (n:Nat) (hLn:L.length=n) (h0:1<=n) (h1:n<=3000) (hks:∀x∈L,x.N.ks.length<=200):
  Calls Tryz.prog 30 #[vs] w fun e w'=>e= .returned (orderV (szs ns) n (fstI (badSize (szs ns)) n 0))/\Below w.heap.size w w':=by
 obtain⟨g,cap,rfl⟩:∃g c,vs= .slice (some ⟨g,0,none⟩) n c:=by
  rcases own_zero_or hN.row with⟨h,_⟩|h
  ·omega
  ·rw[<-hLn];exact h
 have hcap:n<=cap:=by
  rcases hN.row.2 with⟨h1,_⟩|⟨g2,cap2,cur,h1,_,_,h4,_⟩
  ·cases h1
  ·cases h1;omega
 obtain⟨i0,hi,hz0,hz1,hz2⟩:=info_parts infoInt
 obtain⟨R,hR⟩:∃R,fstI (badSize (szs ns)) n 0=R:=⟨_,rfl⟩
 rw[hR]
 have HN:Hid (NsAt w base (.slice (some ⟨g,0,none⟩) n cap) L/\L.map Im.N=ns/\L.length=n/\fstI (badSize (szs ns)) n 0=R/\∀x∈L,x.N.ks.length<=200):=⟨hN,hns,hLn,hR,hks⟩
 clear hN hns hLn hR hks
 refine callsIn_wide (n:=5).1 ?_
 refine callsIn_of_wp_marks Tryz.func30 rfl trivial ?_ rfl
 simp only[Tryz.ntmps30,List.size_toArray,List.length_cons,List.length_nil,Nat.reduceAdd,Nat.reduceSub,Array.replicate_succ,Array.replicate_zero,List.push_toArray,List.append_toArray,List.nil_append,List.cons_append]
 refine wpIn_wide.2 ?_
 go_wp2_with (at_make;refine wpList_make_full _ rfl _ _ 42 rfl w.heap.size 3 i0 (.int .i64 0) 1 Tryz.underlying42 hi hz0 hz1 .i64 .i64 _ _ n rfl rfl rfl rfl (by rw[hz2];omega) (by unfold maxLen;omega) (by simp;omega) ?_;intro w0 hown0 hgrow0)
 rename_i K hK
 have hb0:Below ((w.alloc (.cells #[.int .i64 0] 3)).alloc (.cells #[.bool false] 4)).heap.size ((w.alloc (.cells #[.int .i64 0] 3)).alloc (.cells #[.bool false] 4)) w0:=⟨hgrow0.os,hgrow0.tape,hgrow0.output,hgrow0.size,fun k hk=>hgrow0.block k hk (by simp)⟩
 rw[show(madeCells (Value.int .i64 0).cells (n*1)).toList=List.replicate n (Value.int .i64 0) by rw[Nat.mul_one];exact toList_madeCells_one _ n]at hown0
 simp only[World.size_alloc]at hown0 hb0
 have hs0:w.heap.size+1+1<w0.heap.size:=(hown0.lt _ rfl).2
 have hst0:OoSt w w0.heap.size n [] [] (w0.alloc (.cells #[.slice (some ⟨w.heap.size+1+1,0,none⟩) n n] 42)):=by
  refine⟨?_,?_,?_,?_,heap_alloc_new w0 _,⟨List.nodup_nil,fun b hb=>by simp at hb,fun b hb=>by simp at hb⟩⟩
  ·exact((((Below.refl _ w).alloc (Nat.le_refl _) _).alloc (by simp) _).trans (hb0.mono (by omega))).alloc (by omega) _
  ·exact(Below.heap_alloc _ _ _ (by omega)).trans ((hb0.block _ (by omega)).trans ((Below.heap_alloc _ _ _ (by simp)).trans (heap_alloc_new w _)))
  ·refine(Below.heap_alloc _ _ _ (by omega)).trans ((hb0.block _ (by omega)).trans ?_)
   have:=heap_alloc_new (w.alloc (.cells #[.int .i64 0] 3)) (.cells #[.bool false] 4)
   rw[World.size_alloc]at this;exact this
  ·exact hown0.alloc _
 obtain⟨B,hB⟩:∃B,w0.heap.size=B:=⟨_,rfl⟩
 have hBs:B<(w0.alloc (.cells #[.slice (some ⟨w.heap.size+1+1,0,none⟩) n n] 42)).heap.size:=by simp;omega
 rw[hB]at hst0 hs0⊢
 generalize w0.alloc (.cells #[.slice (some ⟨w.heap.size+1+1,0,none⟩) n n] 42)=W0 at hst0 hBs⊢
 clear hown0 hgrow0 hb0 hB
 have HR0:Hid (OoSt w B n (szs (ns.take 0)) [] W0/\fstI (badSize (szs ns)) (n-0) 0=R/\∀(j:Nat) z,(szs (ns.take 0))[j]?=some z->1<=z):=⟨hst0,HN.out.2.2.2.1,fun j z h=>by simp[szs]at h⟩
 clear hst0
 refine(wpIn_wide (n:=5)).1 (wpIn_loop (fun a' W=>∃(k:Nat) (c:List Nat),k<=n/\B<W.heap.size/\Hid (OoSt w B n (szs (ns.take k)) c W/\fstI (badSize (szs ns)) (n-k) k=R/\∀(j:Nat) z,(szs (ns.take k))[j]?=some z->1<=z)/\
  ∃u5 u6 u7 u17 u18 u19 u20 u21 u22 u23 u24 u25 u26 u27 u28 u45 u46 u47 u48 u49 u50 u51:Value,a'={tmps:=#[.slice (some ⟨g,0,none⟩) n cap,undef,.pointer (some ⟨w.heap.size,0,none⟩),.pointer (some ⟨w.heap.size+1,0,none⟩),.pointer (some ⟨B,0,none⟩),u5,u6,u7,undef,undef,undef,.slice (some ⟨g,0,none⟩) n cap,.int .i64 (n:Int),.slice (some ⟨w.heap.size+1+1,0,none⟩) n n,.slice (some ⟨g,0,none⟩) n cap,.int .i64 (n:Int),.int .i64 (k:Int),u17,u18,u19,u20,u21,u22,u23,u24,u25,u26,u27,u28,undef,undef,undef,undef,undef,undef,undef,undef,undef,undef,undef,undef,undef,undef,undef,undef,u45,u46,u47,u48,u49,u50,u51,undef,undef,undef,undef,undef,undef,undef,undef,undef,undef,undef],defers:=c.map markOf}) (fun a' _=>n-(intOf (a'.tmps.getD 16 undef)).toNat) ?start ?round)
 case start=>exact⟨0,[],Nat.zero_le _,hBs,HR0,undef,undef,undef,undef,undef,undef,undef,undef,undef,undef,undef,undef,undef,undef,undef,undef,undef,undef,undef,undef,undef,undef,rfl⟩
 case round=>
  rintro a' W ⟨k,c,hk,hBW,HR,u5,u6,u7,u17,u18,u19,u20,u21,u22,u23,u24,u25,u26,u27,u28,u45,u46,u47,u48,u49,u50,u51,rfl⟩
  clear HR0
  refine wpIn_wide.2 ?_
  by_cases hlt:k<n
  ·have hki:(k:Int)<(n:Int):=by omega
   have hk0:(0:Int)<=(k:Int):=by omega
   obtain⟨x,hx⟩:=some_at HN.out.2.2.1 hlt
   have hcx:=cell_kept HR.out.1.bl (HN.out.1.at hx)
   have hbx:=cell_kept HR.out.1.bl (HN.out.1.box k x hx).cells.2.2.2.2.1
   have hkd:=HN.out.1.kid k x hx
   obtain⟨av,cv,hkv⟩:=own_shape hkd
   have hkl:=HN.out.2.2.2.2 x (List.mem_of_getElem? hx)
   obtain⟨ln,hln⟩:∃ln,x.N.ks.length=ln:=⟨_,rfl⟩
   rw[hkv]at hbx
   rw[hln]at hbx hkl hkv
   have HX:Hid (L[k]?=some x/\x.kv= .slice av ln cv/\x.N.ks.length=ln):=⟨hx,hkv,hln⟩
   have hmt:=fun w=>methK x.N.k x.b w
   have hxb:x.b<W.heap.size:=Nat.lt_of_lt_of_le (lt_of_block (HN.out.1.box k x hx)) HR.out.1.bl.size
   generalize ptT (cls x.N.k)=tp at hmt hcx
   clear hx hkd hkv hln
   go_wp2_with (first|(go_at_call 233;refine(head_any _ _).mono ?_;rintro e w3 ⟨rfl,hw3⟩;subst w3)|(go_at_call 89;refine(backward_any av ln cv _).mono ?_;rintro e w2 ⟨rfl,hw2⟩;subst w2))
   rename_i K2 hK2
   obtain⟨S,hS⟩:∃S,szs (ns.take k)=S:=⟨_,rfl⟩
   obtain⟨Rk,hRk⟩:∃Rk,wkB S x.N.ks.reverse (k:Int)=Rk:=⟨_,rfl⟩
   rw[hS]at HR
   obtain⟨sz,hsz⟩:∃sz,W.heap.size=sz:=⟨_,rfl⟩
   have hst3:IoSt w B n S c sz k (.slice av ln cv) (k:Int) (((W.alloc (.cells #[.int .i64 (k:Int)] 3)).alloc (.cells #[.int .i64 ((k:Int)-1)] 3)).alloc (.cells #[.slice av ln cv] 72)):=by
    refine⟨HR.out.1.below ((((Below.refl _ W).alloc (Nat.le_refl _) _).alloc (by simp) _).alloc (by simp;omega) _),?_,?_,?_⟩
    ·exact(Below.heap_alloc _ _ _ (by simp;omega)).trans ((Below.heap_alloc _ _ _ (by simp;omega)).trans (by rw[<-hsz];exact heap_alloc_new W _))
    ·refine(Below.heap_alloc _ _ _ (by simp;omega)).trans ?_
     have:=heap_alloc_new (W.alloc (.cells #[.int .i64 (k:Int)] 3)) (.cells #[.int .i64 ((k:Int)-1)] 3)
     rw[World.size_alloc,hsz]at this;exact this
    ·have:=heap_alloc_new ((W.alloc (.cells #[.int .i64 (k:Int)] 3)).alloc (.cells #[.int .i64 ((k:Int)-1)] 3)) (.cells #[.slice av ln cv] 72)
     rw[World.size_alloc,World.size_alloc,hsz]at this;exact this
   have hz3:(((W.alloc (.cells #[.int .i64 (k:Int)] 3)).alloc (.cells #[.int .i64 ((k:Int)-1)] 3)).alloc (.cells #[.slice av ln cv] 72)).heap.size=sz+1+1+1:=by simp;omega
   rw[hsz]at hBW hxb⊢
   generalize ((W.alloc (.cells #[.int .i64 (k:Int)] 3)).alloc (.cells #[.int .i64 ((k:Int)-1)] 3)).alloc (.cells #[.slice av ln cv] 72)=W3 at hst3 hz3⊢
   have hcs:∀b∈c,b<sz:=fun b hb=>by rw[<-hsz];exact(Array.getElem?_eq_some_iff.1 (HR.out.1.mks.at_ b hb)).1
   have hnx:ns[k]?=some x.N:=by rw[<-HN.out.2.1,List.getElem?_map,HX.out.1];rfl
   have hgk:(szs ns).getD k 0=szNd S k x.N.ks:=by rw[szs_at hnx,hS]
   clear hcx hbx hmt
   refine(wpIn_wide (n:=5)).1 ?_
   refine rangeDown (P:=Tryz.prog) (gf:=129) (lb:=#[.pointer (some ⟨sz+1+1,0,none⟩)]) rfl (enters_of Tryz.func129 (by kernel_rfl) rfl)
    (fun m=>#[.int .i64 (m:Int),kidV L x.N.ks m]) (fun _=>rfl) ln
    (fun m W=>∃a:Int,IoSt w B n S c sz k (.slice av ln cv) a W/\0<=a/\a<=(k:Int)/\wkB S (x.N.ks.take m).reverse a=Rk)
    (fun m a' W=>(∃a:Int,IoSt w B n S c sz k (.slice av ln cv) a W/\0<=a/\a<=(k:Int)/\wkB S (x.N.ks.take (m+1)).reverse a=Rk)/\a'={tmps:=#[.slice (some ⟨g,0,none⟩) n cap,undef,.pointer (some ⟨w.heap.size,0,none⟩),.pointer (some ⟨w.heap.size+1,0,none⟩),.pointer (some ⟨B,0,none⟩),.pointer (some ⟨sz,0,none⟩),.iface tp (.pointer (some ⟨x.b,0,none⟩)),.pointer (some ⟨sz+1,0,none⟩),undef,kidV L x.N.ks m,undef,.slice (some ⟨g,0,none⟩) n cap,.int .i64 (n:Int),.slice (some ⟨w.heap.size+1+1,0,none⟩) n n,.slice (some ⟨g,0,none⟩) n cap,.int .i64 (n:Int),.int .i64 (k:Int),.bool true,.int .i64 (k:Int),.pointer (some ⟨g,k,none⟩),.iface tp (.pointer (some ⟨x.b,0,none⟩)),.int .i64 (k:Int),.int .i64 ((k:Int)-1),.iface tp (.pointer (some ⟨x.b,0,none⟩)),.pointer (some ⟨x.b,0,none⟩),.pointer (some ⟨x.b,0,none⟩),.pointer (some ⟨x.b,5,none⟩),.slice av ln cv,.func (.func 129) #[] #[.pointer (some ⟨sz+1+1,0,none⟩)],.int .i64 (m:Int),kidV L x.N.ks m,undef,undef,undef,undef,undef,undef,undef,undef,undef,undef,undef,undef,undef,undef,u45,u46,u47,u48,u49,u50,u51,undef,undef,undef,undef,undef,undef,undef,undef,undef,undef,undef],defers:=[]})
    (fun W=>XoSt w c k W/\Rk=none)
    ?pZ ?pAx ?pX ?h0 ?assign ?body ?seq ?done ?ret
   case pZ=>
    rintro m W r o ⟨a,h,hd⟩ hl
    rw[hz3]at hl⊢
    exact⟨a,h.put (by omega) hBW (by omega) hl o,hd⟩
   case pAx=>
    rintro m a' W r o ⟨⟨a,h,hd⟩,rfl⟩ hl
    rw[hz3]at hl⊢
    exact⟨⟨a,h.put (by omega) hBW (by omega) hl o,hd⟩,rfl⟩
   case pX=>
    rintro W r o ⟨h,hr⟩ hl
    rw[hz3]at hl⊢
    exact⟨⟨h.bl.grown (grownBy_putObj' W _ o) h.bl.size (fun j e=>by cases e;omega),(World.putObj_heap_other (by omega)).trans h.r0,(World.putObj_heap_other (by omega)).trans h.r1,
     ⟨h.mks.nd,h.mks.lo,fun b hm=>(World.putObj_heap_other (by rintro rfl;have:=(h.mks.at_ _ hm).symm.trans hl;cases this)).trans (h.mks.at_ b hm)⟩⟩,hr⟩
   case h0=>
    intro W1 hb hs
    refine⟨(k:Int),⟨hst3.oo.below hb,(hb.block _ (by omega)).trans hst3.b5,(hb.block _ (by omega)).trans hst3.b7,(hb.block _ (by omega)).trans hst3.b8⟩,hk0,Int.le_refl _,?_⟩
    rw[List.take_of_length_le (by rw[HX.out.2.2];exact Nat.le_refl _)];exact hRk
   case assign=>
    rintro l m W K3 hm ⟨a,h,hd⟩ hK3
    have HD:Hid (∃a:Int,IoSt w B n S c sz k (.slice av ln cv) a W/\0<=a/\a<=(k:Int)/\wkB S (x.N.ks.take (m+1)).reverse a=Rk):=⟨a,h,hd⟩
    clear h hd
    gi_wp2
    exact hK3 _ _ ⟨HD.out,rfl⟩ (KeepsFrom.refl _ _)
   case seq=>
    intro l J Jx hJ hY W hW
    have hlc:ln<=cv:=by
     have hkd:=HN.out.1.kid k x HX.out.1
     rw[HX.out.2.1,HX.out.2.2]at hkd
     rcases hkd.2 with⟨h1,h2⟩|⟨g2,cap2,cur,h1,_,_,h4,_⟩
     ·omega
     ·cases h1;omega
    refine back1_in 4 l (sz+1+1) ln cv av _ (by omega) hlc J Jx (fun m W h=>?_) (fun m W h j hj=>?_) hY W hW
    ·obtain⟨a,hd,_⟩:=hJ m W h
     exact one_cell1 hd.b8
    ·obtain⟨a,hd,_⟩:=hJ m W h
     obtain⟨z,hz⟩:=some_at HX.out.2.2 hj
     obtain⟨gk,hgk⟩:∃gk,av=some ⟨gk,0,none⟩:=by
      have hkd:=HN.out.1.kid k x HX.out.1
      rw[HX.out.2.1]at hkd
      rcases own_zero_or hkd with⟨h,_⟩|⟨gk,c,h⟩
      ·rw[HX.out.2.2]at h;omega
      ·cases h;exact⟨_,rfl⟩
     obtain⟨q,y,rfl,hq,hy,hcy⟩:=HN.out.1.kidAt HX.out.1 (by rw[HX.out.2.1,hgk]) hz
     refine⟨_,hgk,?_⟩
     rw[add_zero_at,kidV_eq hz hy]
     exact cell_kept hd.oo.bl hcy
   case body=>
    rintro l m a' W' hm ⟨⟨a,h,ha0,hak,hw⟩,rfl⟩
    rw[hz3]
    obtain⟨z,hz⟩:=some_at HX.out.2.2 hm
    obtain⟨gk,hgkv⟩:∃gk,av=some ⟨gk,0,none⟩:=by
     have hkd:=HN.out.1.kid k x HX.out.1
     rw[HX.out.2.1]at hkd
     rcases own_zero_or hkd with⟨h,_⟩|⟨gk,c,h⟩
     ·rw[HX.out.2.2]at h;omega
     ·cases h;exact⟨_,rfl⟩
    obtain⟨q,y,rfl,hq,hy,hcy⟩:=HN.out.1.kidAt HX.out.1 (by rw[HX.out.2.1,hgkv]) hz
    rw[kidV_eq hz hy]
    have hnum:=cell_kept h.oo.bl (HN.out.1.box q y hy).cells.2.2.2.1
    have hyb:=lt_of_block (HN.out.1.box q y hy)
    have hSl:S.length=k:=by rw[<-hS,szs_len,List.length_take,<-HN.out.2.1,List.length_map,HN.out.2.2.1];omega
    obtain⟨sq,hsq⟩:=some_at hSl hq
    have hsq1:=HR.out.2.2 q sq hsq
    have hsq2:sq<=(q:Int)+1:=by
     have hok:SzOk S:=by
      rw[<-hS]
      refine szs_ok _ (fun N hN z hz=>?_)
      obtain⟨i,hi,e⟩:=List.getElem_of_mem (List.mem_of_mem_take hN)
      have hi2:(L.map Im.N)[i]?=some N:=by rw[HN.out.2.1,List.getElem?_eq_getElem hi,e]
      rw[List.getElem?_map]at hi2
      cases hLi:L[i]? with
      |none=>rw[hLi]at hi2;cases hi2
      |some v=>
       rw[hLi]at hi2
       obtain rfl:=Option.some.inj hi2
       exact(HN.out.1.rng i v z hLi hz).1
     exact(hok q sq hsq).2
    have hgd:S.getD q 0=sq:=by rw[List.getD_eq_getElem?_getD,hsq];rfl
    have hw2:(if(q:Int)=a-1/\sq≠0 then wkB S (x.N.ks.take m).reverse (a-sq) else none)=Rk:=by
     rw[List.take_add_one,hz,Option.toList_some,List.reverse_append]at hw
     show _=Rk
     rw[<-hw]
     show _=wkB S ((q:Int)::(x.N.ks.take m).reverse) a
     rw[wkB,Int.toNat_natCast,hgd]
    have c5:=one_cell1 h.b5
    have c7:=one_cell1 h.b7
    have cB:=one_cell1 h.oo.bx
    have hrow:=h.oo.row
    have cq:W'.cell? ⟨w.heap.size+1+1,q,none⟩=some (.int .i64 sq):=by
     rw[hrow.cellAt q (by omega),List.getElem?_append_left (by simp;omega),List.getElem?_map,hsq];rfl
    have q0:=one_cell1 h.oo.r0
    have q1:=one_cell1 h.oo.r1
    have f0:W'.frozen? ⟨w.heap.size,0,none⟩=false:=frozen_of_row _ _ _ _ _ h.oo.r0
    have f1:W'.frozen? ⟨w.heap.size+1,0,none⟩=false:=frozen_of_row _ _ _ _ _ h.oo.r1
    have f7:W'.frozen? ⟨sz+1,0,none⟩=false:=frozen_of_row _ _ _ _ _ h.b7
    have hmt:=fun w=>methK y.N.k y.b w
    have hS5:W'.drew.cell? ⟨sz+1,0,none⟩=some (.int .i64 (a-1))/\W'.drew.cell? ⟨y.b,4,none⟩=some (.int .i64 (q:Int)):=⟨c7,hnum⟩
    have HI:Hid (IoSt w B n S c sz k (.slice av ln cv) a W'):=h
    generalize ptT (cls y.N.k)=tp2 at hmt⊢
    by_cases hqa:(q:Int)=a-1
    ·rw[if_pos ⟨hqa,by omega⟩]at hw2
     have HW:Hid (wkB S (x.N.ks.take m).reverse (a-sq)=Rk):=hw2
     clear hw2 hw hz hcy h hsq hgd hSl hrow
     have ea:a=(q:Int)+1:=by omega
     subst ea
     have e1:(q:Int)+1-1=(q:Int):=by omega
     rw[e1]at c7 hS5
     clear hqa e1
     have hqn:(q:Int)<(n:Int):=by omega
     have hq0:(0:Int)<=(q:Int):=by omega
     gi_wp2
     refine region_round (S:=fun w'=>w'.cell? ⟨sz+1,0,none⟩=some (.int .i64 (q:Int))/\w'.cell? ⟨y.b,4,none⟩=some (.int .i64 (q:Int))) (by kernel_rfl) (by kernel_rfl) (fun ⟨_,_,h⟩=>h) hS5 (fun hS5=>?_)
     refine takeAt 0 31 (.iface tp2 (.pointer (some ⟨y.b,0,none⟩))) rfl rfl (by kernel_rfl) (by kernel_rfl) (by kernel_rfl) (fun _ _ _ h=>h) (by rfl) hS5 (fun w' hw'=>by obtain⟨s1,s2⟩:=hw';go_simp) ?_
     simp only[Act.put,List.setIfInBounds_toArray,List.set_cons_zero,List.set_cons_succ]
     refine takeAt 5 36 (.int .i64 (q:Int)) rfl rfl (by kernel_rfl) (by kernel_rfl) (by kernel_rfl) (fun _ _ _ h=>h) (by rfl) hS5 (fun w' hw'=>by obtain⟨s1,s2⟩:=hw';go_simp) ?_
     simp only[Act.put,List.setIfInBounds_toArray,List.set_cons_zero,List.set_cons_succ]
     refine wpAnyH_ready (rs:=[1]) (by kernel_rfl) (by simp) (AllReadyH.cons rfl (fun K3 hK3=>?_) AllReadyH.nil)
     go_simp
     refine(head_any _ _).mono ?_
     rintro e w3 ⟨rfl,hw3⟩
     subst w3
     refine hK3.out _ _ hS5 (fun hS5=>?_)
     clear hK3 K3
     try simp only[Act.put,List.setIfInBounds_toArray,List.set_cons_zero,List.set_cons_succ]
     refine takeAt 2 33 (.pointer (some ⟨y.b,0,none⟩)) rfl rfl (by kernel_rfl) (by kernel_rfl) (by kernel_rfl) (fun _ _ _ h=>h) (by rfl) hS5 (fun w' hw'=>by obtain⟨s1,s2⟩:=hw';go_simp) ?_
     simp only[Act.put,List.setIfInBounds_toArray,List.set_cons_zero,List.set_cons_succ]
     refine takeAt 3 34 (.pointer (some ⟨y.b,4,none⟩)) rfl rfl (by kernel_rfl) (by kernel_rfl) (by kernel_rfl) (fun _ _ _ h=>h) (by rfl) hS5 (fun w' hw'=>by obtain⟨s1,s2⟩:=hw';go_simp) ?_
     simp only[Act.put,List.setIfInBounds_toArray,List.set_cons_zero,List.set_cons_succ]
     refine takeAt 4 35 (.int .i64 (q:Int)) rfl rfl (by kernel_rfl) (by kernel_rfl) (by kernel_rfl) (fun _ _ _ h=>h) (by rfl) hS5 (fun w' hw'=>by obtain⟨s1,s2⟩:=hw';go_simp) ?_
     simp only[Act.put,List.setIfInBounds_toArray,List.set_cons_zero,List.set_cons_succ]
     refine takeAt 6 37 (.bool false) rfl rfl (by kernel_rfl) (by kernel_rfl) (by kernel_rfl) (fun _ _ _ h=>h) (by rfl) hS5 (fun w' hw'=>by obtain⟨s1,s2⟩:=hw';go_simp) ?_
     simp only[Act.put,List.setIfInBounds_toArray,List.set_cons_zero,List.set_cons_succ]
     refine wpAnyH_done (by kernel_rfl) ?_ _
     gi_wp2
     have hS6:W'.drew.cell? ⟨sz+1,0,none⟩=some (.int .i64 (q:Int))/\W'.drew.cell? ⟨w.heap.size+1+1,q,none⟩=some (.int .i64 sq)/\W'.drew.cell? ⟨B,0,none⟩=some (.slice (some ⟨w.heap.size+1+1,0,none⟩) n n)/\W'.drew.frozen? ⟨sz+1,0,none⟩=false:=⟨c7,cq,cB,f7⟩
     have hwp:IntKind.i64.wrap ((q:Int)-sq)=(q:Int)-sq:=by rw[IntKind.wrap_i64];omega
     have hI:=HI.out
     have hne:sz+1≠w.heap.size+1+1:=by omega
     have hio:IoSt w B n S c sz k (.slice av ln cv) ((q:Int)+1-sq) (W'.setCell ⟨sz+1,0,none⟩ (.int .i64 ((q:Int)-sq))).drew.drew:=by
      have e7:(q:Int)+1-sq-1=(q:Int)-sq:=by omega
      refine⟨⟨(hI.oo.bl.setCell (by simp;omega) _).drew.drew,(heap_setCell_other _ _ _ _ (by simp;omega)).trans hI.oo.r0,(heap_setCell_other _ _ _ _ (by simp;omega)).trans hI.oo.r1,?_,(heap_setCell_other _ _ _ _ (by simp;omega)).trans hI.oo.bx,(hI.oo.mks.keeps (KeepsOthers.setCell _ _ _)).keeps ((KeepsOthers.drew _).trans (KeepsOthers.drew _))⟩,(heap_setCell_other _ _ _ _ (by simp)).trans hI.b5,?_,(heap_setCell_other _ _ _ _ (by simp)).trans hI.b8⟩
      ·exact(show(W'.setCell ⟨sz+1,0,none⟩ (.int .i64 ((q:Int)-sq))).ownsRow _ _ _ _ _ _ from hI.oo.row.kept (grownBy_setCell' W' (sz+1) _) (.inr (by simp[Value.ownBlock];omega)))
      ·rw[e7];exact heap_setCell_same _ _ 0 _ _ _ hI.b7
     have HZ:Hid (GoesOr (sz+1+1+1) W' (fun W=>∃a:Int,IoSt w B n S c sz k (.slice av ln cv) a W/\0<=a/\a<=(k:Int)/\wkB S (x.N.ks.take m).reverse a=Rk) (fun W=>XoSt w c k W/\Rk=none) .normal {tmps:=#[],defers:=[]} (W'.setCell ⟨sz+1,0,none⟩ (.int .i64 ((q:Int)-sq))).drew.drew):=
      ⟨(((KeepsOthers.setCell _ _ _).trans (KeepsOthers.drew _)).trans (KeepsOthers.drew _)).from _,_,hio,by omega,by omega,HW.out⟩
     clear HI HW HX HN HR hmt hS5 hI hio
     gi_region
     all_goals exact HZ.out
    ·rw[if_neg (fun e=>hqa e.1)]at hw2
     have HW:Hid (none=Rk):=hw2
     have hX:XoSt w c k ((W'.drew.setCell ⟨w.heap.size,0,none⟩ (.int .i64 (k:Int))).setCell ⟨w.heap.size+1,0,none⟩ (.bool true)):=
      ⟨((h.oo.bl.drew.setCell (by simp) _).setCell (by simp) _),(heap_setCell_other _ _ _ _ (by simp)).trans (heap_setCell_same _ _ 0 _ _ _ h.oo.r0),heap_setCell_same _ _ 0 _ _ _ ((heap_setCell_other _ _ _ _ (by simp)).trans h.oo.r1),
       ((h.oo.mks.keeps (KeepsOthers.drew W')).keeps (KeepsOthers.setCell _ _ _)).keeps (KeepsOthers.setCell _ _ _)⟩
     have HXo:Hid (XoSt w c k ((W'.drew.setCell ⟨w.heap.size,0,none⟩ (.int .i64 (k:Int))).setCell ⟨w.heap.size+1,0,none⟩ (.bool true))):=hX
     have dqa:((q:Int)==a-1)=false:=by rw[beq_eq_false_iff_ne];exact hqa
     clear hw2 hw hz hcy h hsq hgd hSl hrow hX
     gi_wp2
     refine region_round (S:=fun w'=>w'.cell? ⟨sz+1,0,none⟩=some (.int .i64 (a-1))/\w'.cell? ⟨y.b,4,none⟩=some (.int .i64 (q:Int))) (by kernel_rfl) (by kernel_rfl) (fun ⟨_,_,h⟩=>h) hS5 (fun hS5=>?_)
     refine takeAt 0 31 (.iface tp2 (.pointer (some ⟨y.b,0,none⟩))) rfl rfl (by kernel_rfl) (by kernel_rfl) (by kernel_rfl) (fun _ _ _ h=>h) (by rfl) hS5 (fun w' hw'=>by obtain⟨s1,s2⟩:=hw';go_simp) ?_
     simp only[Act.put,List.setIfInBounds_toArray,List.set_cons_zero,List.set_cons_succ]
     refine takeAt 5 36 (.int .i64 (a-1)) rfl rfl (by kernel_rfl) (by kernel_rfl) (by kernel_rfl) (fun _ _ _ h=>h) (by rfl) hS5 (fun w' hw'=>by obtain⟨s1,s2⟩:=hw';go_simp) ?_
     simp only[Act.put,List.setIfInBounds_toArray,List.set_cons_zero,List.set_cons_succ]
     refine wpAnyH_ready (rs:=[1]) (by kernel_rfl) (by simp) (AllReadyH.cons rfl (fun K3 hK3=>?_) AllReadyH.nil)
     go_simp
     refine(head_any _ _).mono ?_
     rintro e w3 ⟨rfl,hw3⟩
     subst w3
     refine hK3.out _ _ hS5 (fun hS5=>?_)
     clear hK3 K3
     try simp only[Act.put,List.setIfInBounds_toArray,List.set_cons_zero,List.set_cons_succ]
     refine takeAt 2 33 (.pointer (some ⟨y.b,0,none⟩)) rfl rfl (by kernel_rfl) (by kernel_rfl) (by kernel_rfl) (fun _ _ _ h=>h) (by rfl) hS5 (fun w' hw'=>by obtain⟨s1,s2⟩:=hw';go_simp) ?_
     simp only[Act.put,List.setIfInBounds_toArray,List.set_cons_zero,List.set_cons_succ]
     refine takeAt 3 34 (.pointer (some ⟨y.b,4,none⟩)) rfl rfl (by kernel_rfl) (by kernel_rfl) (by kernel_rfl) (fun _ _ _ h=>h) (by rfl) hS5 (fun w' hw'=>by obtain⟨s1,s2⟩:=hw';go_simp) ?_
     simp only[Act.put,List.setIfInBounds_toArray,List.set_cons_zero,List.set_cons_succ]
     refine takeAt 4 35 (.int .i64 (q:Int)) rfl rfl (by kernel_rfl) (by kernel_rfl) (by kernel_rfl) (fun _ _ _ h=>h) (by rfl) hS5 (fun w' hw'=>by obtain⟨s1,s2⟩:=hw';go_simp) ?_
     simp only[Act.put,List.setIfInBounds_toArray,List.set_cons_zero,List.set_cons_succ]
     refine takeAt 6 37 (.bool true) rfl rfl (by kernel_rfl) (by kernel_rfl) (by kernel_rfl) (fun _ _ _ h=>h) (by rfl) hS5 (fun w' hw'=>by obtain⟨s1,s2⟩:=hw';go_simp) ?_
     simp only[Act.put,List.setIfInBounds_toArray,List.set_cons_zero,List.set_cons_succ]
     refine wpAnyH_done (by kernel_rfl) ?_ _
     gi_wp2
     exact⟨(((KeepsOthers.drew W').from _).trans ((KeepsOthers.setCell _ _ _).from _)).trans ((KeepsOthers.setCell _ _ _).from _),HXo.out,HW.out.symm⟩
   case ret=>
    rintro W' ⟨h,hr⟩ hD
    rw[hz3]at hD⊢
    have hRs:R=some k:=by
     have h1:=HR.out.2.1
     rw[show n-k=(n-(k+1))+1 by omega,fstI,if_pos]at h1
     ·exact h1.symm
     ·unfold badSize
      rw[hgk]
      unfold szNd
      rw[hRk,hr]
      rfl
    show LeavesInM _ _ _ _ _ _ (((sz+1+1+1)::c).map markOf) .returning W'
    refine leaves_marks (w.heap.size+1+1+1) _ W' ⟨List.nodup_cons.2 ⟨fun hm=>by have:=hcs _ hm;omega,h.mks.nd⟩,fun b hb=>?_,fun b hb=>?_⟩ (fun W4 hw=>?_)
    ·rcases List.mem_cons.1 hb with rfl|hb
     ·omega
     ·exact h.mks.lo b hb
    ·rcases List.mem_cons.1 hb with rfl|hb
     ·exact hD
     ·exact h.mks.at_ b hb
    ·have hlo:∀b∈(sz+1+1+1)::c,w.heap.size+1+1+1<=b:=fun b hb=>by
      rcases List.mem_cons.1 hb with rfl|hb
      ·omega
      ·exact h.mks.lo b hb
     have q0:=(hw.same w.heap.size (fun hm=>by have:=hlo _ hm;omega)).trans h.r0
     have q1:=(hw.same (w.heap.size+1) (fun hm=>by have:=hlo _ hm;omega)).trans h.r1
     refine⟨_,results_cell2 rfl _ _ _ ⟨w.heap.size,0,none⟩ ⟨w.heap.size+1,0,none⟩ _ _ rfl rfl (load_int _ _ _ (one_cell1 q0)) (load_bool _ _ _ (one_cell1 q1)),?_,hw.below h.bl (fun b hb=>by have:=hlo b hb;omega) (Nat.le_refl _)⟩
     rw[hRs]
     rfl
   case done=>
    rintro W' ⟨a,h,ha0,hak,hw⟩ hD
    rw[hz3]at hD⊢
    have hRa:Rk=some a:=by rw[<-hw];rfl
    have hsn:szNd S k x.N.ks=(k:Int)-(a-1):=by unfold szNd;rw[hRk,hRa];show(k:Int)-a+1=_;omega
    have hSl:S.length=k:=by rw[<-hS,szs_len,List.length_take,<-HN.out.2.1,List.length_map,HN.out.2.2.1];omega
    have hrow:=h.oo.row
    have ck:W'.cell? ⟨w.heap.size+1+1,k,none⟩=some (.int .i64 0):=by
     rw[hrow.cellAt k (by omega),List.getElem?_append_right (by simp;omega),List.length_map,hSl,Nat.sub_self,List.getElem?_replicate,if_pos (by omega)]
    have fk:=hrow.frozenAt k
    have o2:=(hrow.stored k (.int .i64 ((k:Int)-(a-1)))).1
    rw[hSl,set_fill1 S n k ((k:Int)-(a-1)) hSl hlt]at o2
    have hSn:szs (ns.take (k+1))=S++[(k:Int)-(a-1)]:=by rw[szs_next hnx,hS,hsn]
    have hmk:Marks (w.heap.size+1+1+1) ((sz+1+1+1)::c) W':=⟨List.nodup_cons.2 ⟨fun hm=>by have:=hcs _ hm;omega,h.oo.mks.nd⟩,fun b hb=>by
      rcases List.mem_cons.1 hb with rfl|hb
      ·omega
      ·exact h.oo.mks.lo b hb,fun b hb=>by
      rcases List.mem_cons.1 hb with rfl|hb
      ·exact hD
      ·exact h.oo.mks.at_ b hb⟩
    have hoo:OoSt w B n (S++[(k:Int)-(a-1)]) ((sz+1+1+1)::c) (W'.setCell ⟨w.heap.size+1+1,k,none⟩ (.int .i64 ((k:Int)-(a-1)))):=
     ⟨h.oo.bl.setCell (by simp;omega) _,(heap_setCell_other _ _ _ _ (by simp;omega)).trans h.oo.r0,(heap_setCell_other _ _ _ _ (by simp)).trans h.oo.r1,by rw[List.length_append,hSl];exact o2,(heap_setCell_other _ _ _ _ (by simp;omega)).trans h.oo.bx,hmk.keeps (KeepsOthers.setCell _ _ _)⟩
    have HR2:Hid (OoSt w B n (szs (ns.take (k+1))) ((sz+1+1+1)::c) (W'.setCell ⟨w.heap.size+1+1,k,none⟩ (.int .i64 ((k:Int)-(a-1))))/\fstI (badSize (szs ns)) (n-(k+1)) (k+1)=R/\∀(j:Nat) z,(szs (ns.take (k+1)))[j]?=some z->1<=z):=by
     refine⟨by rw[hSn];exact hoo,?_,fun j z hj=>?_⟩
     ·have h1:=HR.out.2.1
      rw[show n-k=(n-(k+1))+1 by omega,fstI,if_neg]at h1
      ·exact h1
      ·unfold badSize
       rw[hgk,hsn]
       simp
       omega
     ·rw[hSn]at hj
      rcases Nat.lt_or_ge j k with g1|g1
      ·rw[List.getElem?_append_left (by omega)]at hj
       exact HR.out.2.2 j z hj
      ·rw[List.getElem?_append_right (by omega)]at hj
       obtain⟨h1,h2⟩:=List.getElem?_eq_some_iff.1 hj
       simp at h1 h2
       omega
    have c1:=one_cell1 h.oo.bx
    have c2:=one_cell1 h.b5
    have c3:=one_cell1 h.b7
    have hB2:B<(W'.setCell ⟨w.heap.size+1+1,k,none⟩ (.int .i64 ((k:Int)-(a-1)))).heap.size:=lt_of_block hoo.bx
    have hBd:((k:Int)-(a-1))<=3001/\1<=((k:Int)-(a-1)):=by omega
    refine hK2 _ _ ?_
    clear hRa hsn hSl hrow o2 hSn hmk hoo h hw hD hK2 hK HR
    go_wp2_with fail
    exact⟨⟨k+1,(sz+1+1+1)::c,by omega,hB2,HR2,_,_,_,_,_,_,_,_,_,_,_,_,_,_,_,_,_,_,_,_,_,_,rfl⟩,by simp[intOf];omega⟩
  ·obtain rfl:k=n:=by omega
   have hni:¬(k:Int)<(k:Int):=by omega
   obtain⟨m,rfl⟩:∃m,k=m+1:=⟨k-1,by omega⟩
   have hS:szs (ns.take (m+1))=szs ns:=by rw[List.take_of_length_le (by rw[<-HN.out.2.1,List.length_map,HN.out.2.2.1];exact Nat.le_refl _)]
   rw[hS]at HR
   have hSl:(szs ns).length=m+1:=by rw[szs_len,<-HN.out.2.1,List.length_map,HN.out.2.2.1]
   obtain⟨z,hz⟩:=some_at hSl (show m<m+1 by omega)
   have hRn:R=none:=by have:=HR.out.2.1;rw[Nat.sub_self,fstI]at this;exact this.symm
   have hzd:(szs ns).getD m 0=z:=by rw[List.getD_eq_getElem?_getD,hz];rfl
   have HF:Hid (OoSt w B (m+1) (szs ns) c W/\R=none/\(szs ns).getD m 0=z):=⟨HR.out.1,hRn,hzd⟩
   have cz:W.cell? ⟨w.heap.size+1+1,m,none⟩=some (.int .i64 z):=by
    rw[HR.out.1.row.cellAt m (by omega),List.getElem?_append_left (by simp;omega),List.getElem?_map,hz];rfl
   have cB:=one_cell1 HR.out.1.bx
   have q0:=one_cell1 HR.out.1.r0
   have q1:=one_cell1 HR.out.1.r1
   have f0:W.frozen? ⟨w.heap.size,0,none⟩=false:=frozen_of_row _ _ _ _ _ HR.out.1.r0
   have f1:W.frozen? ⟨w.heap.size+1,0,none⟩=false:=frozen_of_row _ _ _ _ _ HR.out.1.r1
   have em:(m:Int)+1-1=(m:Int):=by omega
   have m0:(0:Int)<=(m:Int):=by omega
   have m1:(m:Int)<(m:Int)+1:=by omega
   clear hz hzd hRn hS HR HN
   go_wp2_with fail
   have n1:w.heap.size≠B:=by omega
   have n2:w.heap.size+1≠B:=by omega
   have n3:w.heap.size≠w.heap.size+1+1:=by omega
   have n4:w.heap.size+1≠w.heap.size+1+1:=by omega
   go_region_held3 (fun w'=>w'.cell? ⟨B,0,none⟩=some (.slice (some ⟨w.heap.size+1+1,0,none⟩) (m+1) (m+1))/\w'.cell? ⟨w.heap.size+1+1,m,none⟩=some (.int .i64 z)) (go_keep) (fail)
   all_goals go_wp2_with fail
   have h:=HF.out.1
   show LeavesInM _ _ _ _ _ _ (c.map markOf) .returning _
   refine leaves_marks (w.heap.size+1+1+1) c _ (((h.mks.keeps (KeepsOthers.setCell _ _ _)).keeps (KeepsOthers.setCell _ _ _)).keeps (KeepsOthers.drew _)) (fun W4 hw=>?_)
   have q0':W4.heap[w.heap.size]?=some (.cells #[.int .i64 (m:Int)] 3 (0,0)):=(hw.same _ (fun hm=>by have:=h.mks.lo _ hm;omega)).trans ((heap_setCell_other _ _ _ _ (by simp)).trans (heap_setCell_same _ _ 0 _ _ _ h.r0))
   have q1':W4.heap[w.heap.size+1]?=some (.cells #[.bool (decide (z<(m:Int)+1))] 4 (0,0)):=(hw.same _ (fun hm=>by have:=h.mks.lo _ hm;omega)).trans (heap_setCell_same _ _ 0 _ _ _ ((heap_setCell_other _ _ _ _ (by simp)).trans h.r1))
   refine⟨_,results_cell2 rfl _ _ _ ⟨w.heap.size,0,none⟩ ⟨w.heap.size+1,0,none⟩ _ _ rfl rfl (load_int _ _ _ (one_cell1 q0')) (load_bool _ _ _ (one_cell1 q1')),?_,hw.below (((h.bl.setCell (by simp) _).setCell (by simp) _).drew) (fun b hb=>by have:=h.mks.lo b hb;omega) (Nat.le_refl _)⟩
   have e2:((m+1:Nat):Int)=(m:Int)+1:=by omega
   rw[HF.out.2.1]
   simp only[orderV,Nat.add_sub_cancel,HF.out.2.2,e2,Int.add_sub_cancel]
end Go.Proofs.YtelfejiiabbpfaaGreatDoor
