import Derived.Test.YtelfejiiabbpfaaGreatDoorHRk31
import Derived.Test.YtelfejiiabbpfaaGreatDoorHRk29
import Derived.Test.YtelfejiiabbpfaaGreatDoorHRk04
import Derived.Test.YtelfejiiabbpfaaGreatDoorHRk01
import Derived.Lib.ItoaLen
import Derived.Lib.Join
import Derived.Test.YtelfejiiabbpfaaGreatDoorHRk28
set_option linter.unusedVariables false
set_option maxRecDepth 100000
set_option maxHeartbeats 12800000
namespace Go.Proofs.YtelfejiiabbpfaaGreatDoor
open Go.RowKit Go.Maps Go.WideMaps
def fstI (p:Nat->Bool):Nat->Nat->Option Nat
 |0,_=>none
 |f+1,j=>if p j=true then some j else fstI p f (j+1)
structure FsIs (p:Nat->Bool) (f j:Nat) (R:Option Nat):Prop where
 out:fstI p f j=R
def dpK (i:Nat):List Int->List Int->List Int
 |[],D=>D
 |k::r,D=>dpK i r (D.set k.toNat (D.getD i 0+1))
def dpN (ns:List Nd):Nat->List Int->List Int
 |0,D=>D
 |m+1,D=>dpN ns m (dpK m (ns.getD m zNd).ks D)
def dps (ns:List Nd):List Int:=dpN ns ns.length (List.replicate ns.length 0)
def badHead (ns:List Nd):Bool:=decide (ns.length=0\/3000<ns.length\/(ns.getD (ns.length-1) zNd).k≠1)
def badNode (ns:List Nd) (i:Nat):Bool:=!(nodeB ns i (ns.getD i zNd))
def badSize (S:List Int) (i:Nat):Bool:=S.getD i 0==0
def badDeep (D:List Int) (i:Nat):Bool:=decide (100<D.getD i 0)
def tf4:Option Nat->Int×Int
 |some i=>(4,(i:Int))
 |none=>(0,0)
def tf3 (S D:List Int) (n:Nat):Option Nat->Int×Int
 |some i=>(3,(i:Int))
 |none=>if S.getD (n-1) 0≠(n:Int) then(3,(n:Int)-1) else tf4 (fstI (badDeep D) n 0)
def tf2 (S D:List Int) (n:Nat):Option Nat->Int×Int
 |some i=>(2,(i:Int))
 |none=>tf3 S D n (fstI (badSize S) n 0)
def treeF (ns:List Nd):Int×Int:=if badHead ns=true then(1,0) else tf2 (szs ns) (dps ns) ns.length (fstI (badNode ns) ns.length 0)
def DpOk (n:Nat) (D:List Int):Prop:=D.length=n/\∀(j:Nat) z,D[j]?=some z->0<=z/\z<=(n:Int)-1-j
theorem DpOk.set {n:Nat}{D:List Int}(h:DpOk n D) (i q:Nat) (hi:i<n) (hq:q<i):DpOk n (D.set q (D.getD i 0+1)):=by
 obtain⟨hl,hd⟩:=h
 refine⟨by simp[hl],fun j z hz=>?_⟩
 by_cases hj:q=j
 ·subst hj
  rw[List.getElem?_set_self (by omega)]at hz
  obtain rfl:=Option.some.inj hz
  rw[List.getD_eq_getElem?_getD,List.getElem?_eq_getElem (by omega)]
  have:=hd i D[i] (List.getElem?_eq_getElem (by omega))
  simp
  omega
 ·rw[List.getElem?_set_ne hj]at hz;exact hd j z hz
theorem fst_none {p:Nat->Bool}:∀{f j:Nat},fstI p f j=none->∀k,j<=k->k<j+f->p k=false
 |0,j,_,k,h1,h2=>by omega
 |f+1,j,h,k,h1,h2=>by
  rw[fstI]at h
  split at h
  ·cases h
  ·rename_i hp
   rcases Nat.eq_or_lt_of_le h1 with rfl|g
   ·simpa using hp
   ·exact fst_none h k g (by omega)
def FtBox (b:Nat) (W:World) (c n:Int):Prop:=W.heap[b]?=some (.cells #[.int .i64 c,.int .i64 n] 35 (0,0))
theorem ft_cells {b:Nat}{W:World}{c n:Int}(h:FtBox b W c n):W.cell? ⟨b,0,none⟩=some (.int .i64 c)/\W.cell? ⟨b,1,none⟩=some (.int .i64 n)/\∀j,W.frozen? ⟨b,j,none⟩=false:=by
 unfold FtBox at h
 exact⟨by rw[cell_of_row _ _ _ _ _ _ h];rfl,by rw[cell_of_row _ _ _ _ _ _ h];rfl,fun j=>frozen_of_row _ _ _ _ _ h⟩
theorem ft_put {b:Nat}{W:World}{c n:Int}(h:FtBox b W c n) (c2 n2:Int):FtBox b ((W.setCell ⟨b,0,none⟩ (.int .i64 c2)).setCell ⟨b,1,none⟩ (.int .i64 n2)) c2 n2:=heap_setCell_same _ b 1 _ _ _ (heap_setCell_same _ b 0 _ _ _ h)
theorem FtBox.below {b:Nat}{W W':World}{c n:Int}(h:FtBox b W c n) (hb:Below W.heap.size W W'):FtBox b W' c n:=(hb.block _ (lt_of_block h)).trans h
theorem treeok_head (w:World) (v:Value) (ns:List Nd) (h:NdsAt w v ns) (hl:ns.length<=1048576) (hb:badHead ns=true):
  Calls Tryz.prog 10 #[.agg #[v]] w fun e w'=>e= .returned (.agg #[.int .i64 1,.int .i64 0])/\Below w.heap.size w w':=by
 obtain⟨a,c,rfl⟩:=h.form
 have hbb:∀o1 o2,Below w.heap.size w ((w.alloc o1).alloc o2):=fun o1 o2=>((Below.refl _ w).alloc (Nat.le_refl _) o1).alloc (by simp) o2
 have hnew:∀o1 (cs:Array Value) (t:TypeId),((w.alloc o1).alloc (.cells cs t)).heap[w.heap.size+1]?=some (.cells cs t (0,0)):=fun o1 cs t=>by
  have:=heap_alloc_new (w.alloc o1) (.cells cs t)
  rw[World.size_alloc]at this
  exact this
 have hb':=of_decide_eq_true hb
 by_cases g1:ns.length=0
 ·rw[g1]
  go_enter Tryz.func10,Tryz.ntmps10
  go_wp2
  exact bodyPost_ret (results_cell_row rfl _ _ (w.heap.size+1) _ _ _ _ rfl (hnew _ _ _) Tryz.underlying35 rfl (by kernel_rfl)) rfl ⟨rfl,hbb _ _⟩
 by_cases g2:3000<ns.length
 ·have g2i:(3000:Int)<(ns.length:Int):=by omega
  have g1i:¬(ns.length:Int)=0:=by omega
  generalize ns.length=n at g1i g2i hl⊢
  clear h hb hb' g1 g2
  go_enter Tryz.func10,Tryz.ntmps10
  go_wp2
  exact bodyPost_ret (results_cell_row rfl _ _ (w.heap.size+1) _ _ _ _ rfl (hnew _ _ _) Tryz.underlying35 rfl (by kernel_rfl)) rfl ⟨rfl,hbb _ _⟩
 ·have g3:(ns.getD (ns.length-1) zNd).k≠1:=by rcases hb' with e|e|e;exact absurd e g1;exact absurd e g2;exact e
  have hlt:ns.length-1<ns.length:=by omega
  obtain⟨N,hN⟩:∃N,ns[ns.length-1]?=some N:=⟨_,List.getElem?_eq_getElem hlt⟩
  rw[List.getD_eq_getElem?_getD,hN,Option.getD_some]at g3
  obtain⟨a',rfl,vn,vk,hd⟩:=h.get hN
  have c0:=hd.c0
  obtain⟨n,hn⟩:∃n,ns.length=n:=⟨_,rfl⟩
  rw[hn]at c0 g1 g2 hl hlt⊢
  obtain⟨m,hm⟩:∃m:Nat,n=m+1:=⟨n-1,by omega⟩
  subst hm
  rw[Nat.add_sub_cancel]at c0
  have e1:((m+1:Nat):Int)-1=(m:Int):=by omega
  have i1:¬((m+1:Nat):Int)=0:=by omega
  have i2:¬(3000:Int)<((m+1:Nat):Int):=by omega
  have i3:(m:Int)<((m+1:Nat):Int):=by omega
  have i0:(0:Int)<=(m:Int):=by omega
  have d1:(((m:Int)+1)==0)=false:=by rw[beq_eq_false_iff_ne];omega
  have d2:decide ((3000:Int)<(m:Int)+1)=false:=decide_eq_false (by omega)
  have i5:(m:Int)<(m:Int)+1:=by omega
  have hcl:∀o1 o2,((w.alloc o1).alloc o2).cell? (a'.add (m*9))=some (.int .i64 N.k):=fun o1 o2=>cell_kept (hbb o1 o2) c0
  clear h hb hb' g1 g2 hN hd hn hlt
  go_enter Tryz.func10,Tryz.ntmps10
  go_wp2
  exact bodyPost_ret (results_cell_row rfl _ _ (w.heap.size+1) _ _ _ _ rfl (hnew _ _ _) Tryz.underlying35 rfl (by kernel_rfl)) rfl ⟨rfl,hbb _ _⟩
structure TkSt (w:World) (v:Value) (W:World):Prop where
 tb:W.heap[w.heap.size]?=some (.cells #[v] 29 (0,0))
 fb:FtBox (w.heap.size+1) W 0 0
 bl:Below w.heap.size w W
theorem TkSt.below {w:World}{v:Value}{W W':World}(h:TkSt w v W) (hb:Below W.heap.size W W'):TkSt w v W':=
 ⟨(hb.block _ (lt_of_block h.tb)).trans h.tb,h.fb.below hb,h.bl.trans (hb.mono h.bl.size)⟩
structure DpSt (w:World) (v:Value) (gd n:Nat) (ns:List Nd) (t:Nat) (D:List Int) (W:World):Prop where
 tk:TkSt w v W
 row:W.ownsRow w.heap.size 3 1 (.slice (some ⟨gd,0,none⟩) n n) n (D.map (Value.int .i64))
 ok:DpOk n D
 rest:dpN ns t D=dps ns
structure DkSt (w:World) (v:Value) (gd n t:Nat) (ks D:List Int) (j:Nat) (E:List Int) (W:World):Prop where
 tk:TkSt w v W
 row:W.ownsRow w.heap.size 3 1 (.slice (some ⟨gd,0,none⟩) n n) n (E.map (Value.int .i64))
 ok:DpOk n E
 rest:dpK t (ks.drop j) E=dpK t ks D
theorem one_cell1 {b:Nat}{W:World}{v:Value}{t:TypeId}(h:W.heap[b]?=some (.cells #[v] t (0,0))):W.cell? ⟨b,0,none⟩=some v:=by
 rw[cell_of_row _ _ _ _ _ _ h];rfl
theorem treeok_main (w:World) (v:Value) (ns:List Nd) (h:NdsAt w v ns) (hl:ns.length<=1048576) (sm:∀N∈ns,NdSmall N) (hb:badHead ns=false):
  Calls Tryz.prog 10 #[.agg #[v]] w fun e w'=>e= .returned (.agg #[.int .i64 (treeF ns).1,.int .i64 (treeF ns).2])/\Below w.heap.size w w':=by
 obtain⟨a,c,rfl⟩:=h.form
 have hb':=of_decide_eq_false hb
 have HH:Hid (NdsAt w (.slice a ns.length c) ns/\(∀N∈ns,NdSmall N)/\badHead ns=false):=⟨h,sm,hb⟩
 have g1:¬ns.length=0:=fun e=>hb' (.inl e)
 have g2:¬3000<ns.length:=fun e=>hb' (.inr (.inl e))
 have g3:(ns.getD (ns.length-1) zNd).k=1:=by
  by_cases g:(ns.getD (ns.length-1) zNd).k=1
  ·exact g
  ·exact absurd (.inr (.inr g)) hb'
 obtain⟨N,hN⟩:∃N,ns[ns.length-1]?=some N:=⟨_,List.getElem?_eq_getElem (by omega)⟩
 rw[List.getD_eq_getElem?_getD,hN,Option.getD_some]at g3
 obtain⟨a',rfl,vn,vk,hd⟩:=h.get hN
 have c0:=hd.c0
 rw[g3]at c0
 have hbb:∀o1 o2,Below w.heap.size w ((w.alloc o1).alloc o2):=fun o1 o2=>((Below.refl _ w).alloc (Nat.le_refl _) o1).alloc (by simp) o2
 obtain⟨n,hn⟩:∃n,ns.length=n:=⟨_,rfl⟩
 obtain⟨F,hF⟩:∃F,treeF ns=F:=⟨_,rfl⟩
 have HN:Hid (ns.length=n/\treeF ns=F):=⟨hn,hF⟩
 rw[hF]
 rw[hn]at HH c0 g1 g2⊢
 obtain⟨m,hm⟩:∃m:Nat,n=m+1:=⟨n-1,by omega⟩
 have hm1:n-1=m:=by omega
 rw[hm1]at c0
 have i0:(0:Int)<=(m:Int):=by omega
 have i1:¬(n:Int)=0:=by omega
 have i2:¬(3000:Int)<(n:Int):=by omega
 have i3:(m:Int)<(n:Int):=by omega
 have i4:(n:Int)-1=(m:Int):=by omega
 have d1:(((m:Int)+1)==0)=false:=by rw[beq_eq_false_iff_ne];omega
 have d2:decide ((3000:Int)<(m:Int)+1)=false:=decide_eq_false (by omega)
 have i5:(m:Int)<(m:Int)+1:=by omega
 have hcl:∀o1 o2,((w.alloc o1).alloc o2).cell? (a'.add (m*9))=some (.int .i64 1):=fun o1 o2=>cell_kept (hbb o1 o2) c0
 clear h hb hb' g1 g3 hN hd hn hl sm hF hm1 c0 i1 i2 i3 i4
 subst hm
 go_enter Tryz.func10,Tryz.ntmps10
 go_wp2_with fail
 have T0:((w.alloc (.cells #[.slice (some a') (m+1) c] 29)).alloc (.cells #[.int .i64 0,.int .i64 0] 35)).heap[w.heap.size]?=some (.cells #[.slice (some a') (m+1) c] 29 (0,0)):=(Below.heap_alloc _ _ _ (by simp)).trans (heap_alloc_new w _)
 have F0:FtBox (w.heap.size+1) ((w.alloc (.cells #[.slice (some a') (m+1) c] 29)).alloc (.cells #[.int .i64 0,.int .i64 0] 35)) 0 0:=by
  have:=heap_alloc_new (w.alloc (.cells #[.slice (some a') (m+1) c] 29)) (.cells #[.int .i64 0,.int .i64 0] 35)
  rw[World.size_alloc]at this
  exact this
 have B0:=hbb (.cells #[.slice (some a') (m+1) c] 29) (.cells #[.int .i64 0,.int .i64 0] 35)
 have st0:TkSt w (.slice (some a') (m+1) c) ((w.alloc (.cells #[.slice (some a') (m+1) c] 29)).alloc (.cells #[.int .i64 0,.int .i64 0] 35)):=⟨T0,F0,B0⟩
 generalize (w.alloc (.cells #[.slice (some a') (m+1) c] 29)).alloc (.cells #[.int .i64 0,.int .i64 0] 35)=W2 at st0⊢
 obtain⟨R1,hR1⟩:∃R1,fstI (badNode ns) (m+1) 0=R1:=⟨_,rfl⟩
 have HR1:Hid (fstI (badNode ns) (m+1) 0=R1):=hR1
 have HF1:FsIs (badNode ns) (m+1-0) 0 R1:=⟨hR1⟩
 clear hR1 T0 F0 B0 hcl
 go_loopw [39] (fun vi wr=>∃k:Nat,k<=m+1/\vi= .int .i64 k/\FsIs (badNode ns) (m+1-k) k R1/\TkSt w (.slice (some a') (m+1) c) wr) (fun vi _=>m+1-(intOf vi).toNat)
 case atStart=>exact⟨0,Nat.zero_le _,rfl,HF1,st0⟩
 case round=>
  obtain⟨k,hk,rfl,HF,st⟩:=hrel
  clear st0 HF1
  have hf:=HF.out
  by_cases hlt:k<m+1
  ·obtain⟨N2,hN2⟩:=some_at HN.out.1 hlt
   have hki:(k:Int)<(m:Int)+1:=by omega
   have hk0:(0:Int)<=(k:Int):=by omega
   have kn:=l2nodeok_any wr (.slice (some a') (m+1) c) ns k N2 (HH.out.1.below st.bl) (by rw[HN.out.1];omega) hN2 (HH.out.2.1 N2 (List.mem_of_getElem? hN2))
   have c1:=one_cell1 st.tb
   obtain⟨f0,f1,ff⟩:=ft_cells st.fb
   rw[show m+1-k=(m+1-(k+1))+1 by omega,fstI]at hf
   have eb:badNode ns k=!(nodeB ns k N2):=by unfold badNode;rw[List.getD_eq_getElem?_getD,hN2];rfl
   rw[eb]at hf
   have HST:Hid (TkSt w (.slice (some a') (m+1) c) wr):=st
   cases hx:nodeB ns k N2 with
   |true=>
    rw[hx]at kn hf
    rw[if_neg (by decide)]at hf
    have HF2:FsIs (badNode ns) (m+1-(k+1)) (k+1) R1:=⟨hf⟩
    clear hf hx eb hN2 st HF f0 f1 ff
    go_wp2_with (go_at_call 19;refine kn.mono ?_;rintro e w3 ⟨rfl,hb3⟩)
    exact⟨⟨k+1,by omega,by go_num,HF2,HST.out.below hb3⟩,by simp[intOf];omega⟩
   |false=>
    rw[hx]at kn hf
    rw[if_pos (by decide)]at hf
    have HFF:Hid (F=(2,(k:Int))):=by
     show F=(2,(k:Int))
     rw[<-HN.out.2]
     unfold treeF
     rw[HH.out.2.2,if_neg (by decide),HN.out.1,HR1.out,<-hf]
     rfl
    clear hf hx eb hN2 st HF f0 f1 ff
    go_wp2_with (go_at_call 19;fail)
    refine kn.mono ?_
    rintro e w3 ⟨rfl,hb3⟩
    have s3:=HST.out.below hb3
    obtain⟨f0,f1,ff⟩:=ft_cells s3.fb
    have HS3:Hid (TkSt w (.slice (some a') (m+1) c) w3):=s3
    clear s3 hb3
    go_wp2_with fail
    have s3:=HS3.out
    exact bodyPost_ret (results_cell_row rfl _ _ (w.heap.size+1) _ _ _ _ rfl (ft_put s3.fb 2 k) Tryz.underlying35 rfl (by kernel_rfl)) rfl ⟨by rw[HFF.out],(s3.bl.setCell (by simp) _).setCell (by simp) _⟩
  ·obtain rfl:k=m+1:=by omega
   rw[Nat.sub_self,fstI]at hf
   have HR1n:Hid (R1=none):=hf.symm
   have hall:=fst_none (show fstI (badNode ns) (m+1) 0=none by rw[HR1.out];exact hf.symm)
   have hkr:∀(i:Nat) N,ns[i]?=some N->∀z∈N.ks,0<=z/\z<(i:Int):=fun i N hN z hz=>by
    have hi:i<m+1:=by rw[<-HN.out.1];exact(List.getElem?_eq_some_iff.1 hN).1
    have h1:=hall i (Nat.zero_le _) (by omega)
    unfold badNode at h1
    rw[List.getD_eq_getElem?_getD,hN,Option.getD_some]at h1
    have h2:nodeB ns i N=true:=by simpa using h1
    unfold nodeB at h2
    have h3:klB N.ks i N.ks.length 0=true:=by
     rw[Bool.and_eq_true,Bool.and_eq_true]at h2;exact h2.2.1
    obtain⟨q,hq,rfl⟩:=List.getElem_of_mem hz
    have:=klB_all N.ks i N.ks.length 0 h3 q (by omega) (by omega)
    rw[List.getD_eq_getElem?_getD,List.getElem?_eq_getElem hq]at this
    simpa using this
   have ks:=l2sizes_any wr (.slice (some a') (m+1) c) ns (HH.out.1.below st.bl) (by rw[HN.out.1];omega) (fun N hN=>(HH.out.2.1 N hN).l2) hkr
   rw[HN.out.1]at ks
   have HKR:Hid (∀(i:Nat) N,ns[i]?=some N->∀z∈N.ks,0<=z/\z<(i:Int)):=hkr
   have c1:=one_cell1 st.tb
   have HST:Hid (TkSt w (.slice (some a') (m+1) c) wr):=st
   have hwr:=st.bl.size
   have hwr2:w.heap.size+1<wr.heap.size:=lt_of_block st.fb
   clear hf hall hkr st HF
   go_wp2_with (go_at_call 20;fail)
   refine ks.mono ?_
   rintro e w3 ⟨g,rfl,ho3,hb3⟩
   have s3:=HST.out.below hb3
   obtain⟨S,hS⟩:∃S,szs ns=S:=⟨_,rfl⟩
   have hSl:S.length=m+1:=by rw[<-hS,szs_len,HN.out.1]
   rw[hS]at ho3
   have HS:Hid (szs ns=S/\S.length=m+1/\SzOk S):=⟨hS,hSl,by rw[<-hS];exact szs_ok ns (fun N hN z hz=>by
    obtain⟨i,hi,e⟩:=List.getElem_of_mem hN
    exact(HKR.out i N (by rw[List.getElem?_eq_getElem hi,e]) z hz).1)⟩
   have HS3:Hid (TkSt w (.slice (some a') (m+1) c) w3/\w3.ownsRow wr.heap.size 3 1 (.slice (some ⟨g,0,none⟩) (m+1) (m+1)) (m+1) (S.map (Value.int .i64))):=⟨s3,ho3⟩
   obtain⟨R2,hR2⟩:∃R2,fstI (badSize S) (m+1) 0=R2:=⟨_,rfl⟩
   have HR2:Hid (fstI (badSize S) (m+1) 0=R2):=hR2
   have HF2:FsIs (badSize S) (m+1-0) 0 R2:=⟨hR2⟩
   have HTF:Hid (treeF ns=tf3 S (dps ns) (m+1) R2):=by
    show treeF ns=_
    unfold treeF
    rw[HH.out.2.2,if_neg (by decide),HN.out.1,HR1.out,HR1n.out,hS]
    show tf3 S (dps ns) (m+1) (fstI (badSize S) (m+1) 0)=_
    rw[hR2]
   clear hS hSl hR2 s3 ho3 hb3 ks c1
   go_wp2_with fail
   go_loop [53] (fun vi=>∃k:Nat,k<=m+1/\vi= .int .i64 k/\FsIs (badSize S) (m+1-k) k R2) (fun vi=>m+1-(intOf vi).toNat)
   case atStart=>exact⟨0,Nat.zero_le _,rfl,HF2⟩
   case round=>
    obtain⟨k,hk2,rfl,HF⟩:=hrel
    clear HF2
    have hf:=HF.out
    by_cases hlt2:k<m+1
    ·have hki:(k:Int)<(m:Int)+1:=by omega
     have hk0:(0:Int)<=(k:Int):=by omega
     obtain⟨z,hz⟩:=some_at HS.out.2.1 hlt2
     have cz:w3.cell? ⟨g,k,none⟩=some (.int .i64 z):=by rw[HS3.out.2.cellAt k (by omega),List.getElem?_map,hz];rfl
     rw[show m+1-k=(m+1-(k+1))+1 by omega,fstI]at hf
     have eb:badSize S k=(z==0):=by unfold badSize;rw[List.getD_eq_getElem?_getD,hz];rfl
     rw[eb]at hf
     by_cases hz0:z=0
     ·subst hz0
      rw[if_pos (by decide)]at hf
      have HFF:Hid (F=(3,(k:Int))):=by
       show F=(3,(k:Int))
       rw[<-HN.out.2,HTF.out,<-hf]
       rfl
      obtain⟨f0,f1,ff⟩:=ft_cells HS3.out.1.fb
      clear hf eb hz HF
      go_wp2_with fail
      have s3:=HS3.out.1
      exact bodyPost_ret (results_cell_row rfl _ _ (w.heap.size+1) _ _ _ _ rfl (ft_put s3.fb 3 k) Tryz.underlying35 rfl (by kernel_rfl)) rfl ⟨by rw[HFF.out],(s3.bl.setCell (by simp) _).setCell (by simp) _⟩
     ·rw[if_neg (by simpa using hz0)]at hf
      have HF3:FsIs (badSize S) (m+1-(k+1)) (k+1) R2:=⟨hf⟩
      clear hf eb hz HF
      go_wp2_with fail
      go_round
      case rel=>exact⟨k+1,by omega,by go_num,HF3⟩
      case measure=>simp[intOf];omega
    ·obtain rfl:k=m+1:=by omega
     rw[Nat.sub_self,fstI]at hf
     have HR2n:Hid (R2=none):=hf.symm
     obtain⟨z,hz⟩:=some_at HS.out.2.1 (show m<m+1 by omega)
     have cz:w3.cell? ⟨g,m,none⟩=some (.int .i64 z):=by rw[HS3.out.2.cellAt m (by omega),List.getElem?_map,hz];rfl
     have hgd:S.getD m 0=z:=by rw[List.getD_eq_getElem?_getD,hz];rfl
     have htf:=HTF.out
     rw[HR2n.out,tf3,Nat.add_sub_cancel,hgd]at htf
     by_cases hzm:z=(m:Int)+1
     ·rw[if_neg (by omega)]at htf
      have HTF2:Hid (treeF ns=tf4 (fstI (badDeep (dps ns)) (m+1) 0)):=htf
      subst hzm
      have c1:=one_cell1 HS3.out.1.tb
      clear hf htf hz hgd HF
      obtain⟨i0,hi,hz0,hz1,hz2⟩:=info_parts infoInt
      have hw3:=HS3.out.1.bl.size
      go_wp2_with (at_make;refine wpList_make_full _ rfl _ _ 42 rfl w.heap.size 3 i0 (.int .i64 0) 1 Tryz.underlying42 hi hz0 hz1 .i64 .i64 _ _ (m+1) rfl rfl rfl rfl (by rw[hz2];omega) (by unfold maxLen;omega) hw3 ?_;intro w4 hown4 hgrow4;have hb4:Below w3.heap.size w3 w4:=⟨hgrow4.os,hgrow4.tape,hgrow4.output,hgrow4.size,fun k hk=>hgrow4.block k hk (by simp)⟩;have c4:=cell_kept hb4 c1)
      rw[show(madeCells (Value.int .i64 0).cells ((m+1)*1)).toList=List.replicate (m+1) (Value.int .i64 0) by rw[Nat.mul_one];exact toList_madeCells_one _ _]at hown4
      have st4:DpSt w (.slice (some a') (m+1) c) w3.heap.size (m+1) ns (m+1) (List.replicate (m+1) 0) w4:=by
       refine⟨HS3.out.1.below hb4,?_,⟨by simp,fun j z hz=>?_⟩,?_⟩
       ·rw[List.map_replicate];exact hown4
       ·rw[List.getElem?_replicate]at hz
        split at hz
        ·obtain rfl:=Option.some.inj hz;omega
        ·cases hz
       ·unfold dps;rw[HN.out.1]
      have hw3':w.heap.size+1<w3.heap.size:=lt_of_block HS3.out.1.fb
      clear hown4 hgrow4 hb4 c4 c1 cz
      obtain⟨gd,hgd⟩:∃gd,w3.heap.size=gd:=⟨_,rfl⟩
      rw[hgd]at st4 hw3'⊢
      have HS4:Hid (DpSt w (.slice (some a') (m+1) c) gd (m+1) ns (m+1) (List.replicate (m+1) 0) w4):=st4
      clear st4 hgd HS3 HTF
      go_loopw [8] (fun vi wr=>∃(t:Nat) (D:List Int),t<=m+1/\vi= .int .i64 ((t:Int)-1)/\Hid (DpSt w (.slice (some a') (m+1) c) gd (m+1) ns t D wr)) (fun vi _=>(intOf vi+1).toNat)
      case atStart=>exact⟨m+1,_,Nat.le_refl _,by congr 1;omega,HS4⟩
      case round=>
       obtain⟨t,D,ht,rfl,HD⟩:=hrel
       clear HS4
       cases t with
       |zero=>
        have hneg:¬(0:Int)<=((0:Nat):Int)-1:=by omega
        have hDd:D=dps ns:=HD.out.rest
        have HD2:Hid (TkSt w (.slice (some a') (m+1) c) wr/\wr.ownsRow w.heap.size 3 1 (.slice (some ⟨gd,0,none⟩) (m+1) (m+1)) (m+1) (D.map (Value.int .i64))/\D.length=m+1):=⟨HD.out.tk,HD.out.row,HD.out.ok.1⟩
        have htf:=HTF2.out
        rw[<-hDd]at htf
        obtain⟨R4,hR4⟩:∃R4,fstI (badDeep D) (m+1) 0=R4:=⟨_,rfl⟩
        rw[hR4,HN.out.2]at htf
        have HT4:Hid (F=tf4 R4):=htf
        have HF4:FsIs (badDeep D) (m+1-0) 0 R4:=⟨hR4⟩
        clear htf hR4 hDd HD
        go_wp2_with fail
        go_loop [110] (fun vi=>∃k:Nat,k<=m+1/\vi= .int .i64 k/\FsIs (badDeep D) (m+1-k) k R4) (fun vi=>m+1-(intOf vi).toNat)
        case atStart=>exact⟨0,Nat.zero_le _,rfl,HF4⟩
        case round=>
         obtain⟨k,hk4,rfl,HF⟩:=hrel
         clear HF4
         have hf:=HF.out
         by_cases hlt4:k<m+1
         ·have hki:(k:Int)<(m:Int)+1:=by omega
          have hk0:(0:Int)<=(k:Int):=by omega
          obtain⟨z,hz⟩:=some_at HD2.out.2.2 hlt4
          have cz:wr.cell? ⟨gd,k,none⟩=some (.int .i64 z):=by rw[HD2.out.2.1.cellAt k (by omega),List.getElem?_map,hz];rfl
          rw[show m+1-k=(m+1-(k+1))+1 by omega,fstI]at hf
          have eb:badDeep D k=decide (100<z):=by unfold badDeep;rw[List.getD_eq_getElem?_getD,hz];rfl
          rw[eb]at hf
          by_cases hzb:100<z
          ·rw[if_pos (decide_eq_true hzb)]at hf
           have HFF:Hid (F=(4,(k:Int))):=by
            show F=(4,(k:Int))
            rw[HT4.out,<-hf]
            rfl
           obtain⟨f0,f1,ff⟩:=ft_cells HD2.out.1.fb
           clear hf eb hz HF
           go_wp2_with fail
           have s3:=HD2.out.1
           exact bodyPost_ret (results_cell_row rfl _ _ (w.heap.size+1) _ _ _ _ rfl (ft_put s3.fb 4 k) Tryz.underlying35 rfl (by kernel_rfl)) rfl ⟨by rw[HFF.out],(s3.bl.setCell (by simp) _).setCell (by simp) _⟩
          ·rw[if_neg (by simpa using hzb)]at hf
           have HF3:FsIs (badDeep D) (m+1-(k+1)) (k+1) R4:=⟨hf⟩
           clear hf eb hz HF
           go_wp2_with fail
           go_round
           case rel=>exact⟨k+1,by omega,by go_num,HF3⟩
           case measure=>simp[intOf];omega
         ·obtain rfl:k=m+1:=by omega
          rw[Nat.sub_self,fstI]at hf
          have HFF:Hid (F=(0,0)):=by
           show F=(0,0)
           rw[HT4.out,<-hf]
           rfl
          obtain⟨f0,f1,ff⟩:=ft_cells HD2.out.1.fb
          clear hf HF
          go_wp2_with fail
          have s3:=HD2.out.1
          exact bodyPost_ret (results_cell_row rfl _ _ (w.heap.size+1) _ _ _ _ rfl (ft_put s3.fb 0 0) Tryz.underlying35 rfl (by kernel_rfl)) rfl ⟨by rw[HFF.out],(s3.bl.setCell (by simp) _).setCell (by simp) _⟩
       |succ t=>
        have em:(((t+1:Nat)):Int)-1=(t:Int):=by omega
        rw[em]
        have hti:(t:Int)<(m:Int)+1:=by omega
        have ht0:(0:Int)<=(t:Int):=by omega
        obtain⟨Nt,hNt⟩:=some_at HN.out.1 (show t<m+1 by omega)
        obtain⟨a2,ha2,vn2,vk2,hd2⟩:=HH.out.1.get hNt
        obtain rfl:=Option.some.inj ha2
        have c8:=cell_kept HD.out.tk.bl hd2.c8
        have hkr:=HKR.out t Nt hNt
        have hkk:=hd2.hk
        obtain⟨ak,ck,rfl⟩:=hkk.form
        obtain⟨Lk2,hLk⟩:∃l,Nt.ks.length=l:=⟨_,rfl⟩
        have hlk:=(HH.out.2.1 Nt (List.mem_of_getElem? hNt)).l2
        rw[hLk]at c8 hlk
        have hk0':HD.out.rest=HD.out.rest:=rfl
        have hrest:dpN ns t (dpK t Nt.ks D)=dps ns:=by
         have:=HD.out.rest
         rw[dpN,List.getD_eq_getElem?_getD,hNt,Option.getD_some]at this
         exact this
        have HQ:Hid (Nt.ks.length=Lk2/\(∀z∈Nt.ks,0<=z/\z<(t:Int))/\dpN ns t (dpK t Nt.ks D)=dps ns/\ns[t]?=some Nt):=⟨hLk,hkr,hrest,hNt⟩
        have c1:=one_cell1 HD.out.tk.tb
        have HKK:Hid (IntsAt w (.slice ak Lk2 ck) Nt.ks):=by rw[<-hLk];exact hkk
        have HD0:Hid (DkSt w (.slice (some a') (m+1) c) gd (m+1) t Nt.ks D 0 D wr):=⟨HD.out.tk,HD.out.row,HD.out.ok,rfl⟩
        have hwr:=HD.out.tk.bl.size
        clear hkr hkk hrest hd2 hNt hLk HD hk0'
        go_wp2_with fail
        go_loopw [95] (fun vi w6=>∃(j:Nat) (E:List Int),j<=Lk2/\vi= .int .i64 j/\Hid (DkSt w (.slice (some a') (m+1) c) gd (m+1) t Nt.ks D j E w6)) (fun vi _=>Lk2-(intOf vi).toNat)
        case atStart=>exact⟨0,D,Nat.zero_le _,rfl,HD0⟩
        case round=>
         obtain⟨j,E,hj,rfl,HE⟩:=hrel
         clear HD0
         by_cases hjl:j<Lk2
         ·have hji:(j:Int)<(Lk2:Int):=by omega
          have hj0:(0:Int)<=(j:Int):=by omega
          obtain⟨z,hz⟩:=some_at HQ.out.1 hjl
          obtain⟨b',hak,hcz⟩:=(HKK.out.below HE.out.tk.bl).get hz
          subst hak
          obtain⟨hz0',hz1'⟩:=HQ.out.2.1 z (List.mem_of_getElem? hz)
          obtain⟨q,rfl⟩:=Int.eq_ofNat_of_zero_le hz0'
          have hq:q<t:=by omega
          obtain⟨et,het⟩:=some_at HE.out.ok.1 (show t<m+1 by omega)
          obtain⟨eq_,heq⟩:=some_at HE.out.ok.1 (show q<m+1 by omega)
          have hbd:=HE.out.ok.2 t et het
          have hrow:=HE.out.row
          have ct:wr.cell? ⟨gd,t,none⟩=some (.int .i64 et):=by rw[hrow.cellAt t (by omega),List.getElem?_map,het];rfl
          have cq:wr.cell? ⟨gd,q,none⟩=some (.int .i64 eq_):=by rw[hrow.cellAt q (by omega),List.getElem?_map,heq];rfl
          have fq:=hrow.frozenAt q
          have hgd0:=(hrow.lt gd rfl).1
          have hgt:E.getD t 0=et:=by rw[List.getD_eq_getElem?_getD,het];rfl
          have o2:=(hrow.stored q (.int .i64 (et+1))).1
          rw[<-List.map_set]at o2
          have ok2:=HE.out.ok.set t q (by omega) hq
          rw[hgt]at ok2
          have hrest:dpK t (Nt.ks.drop (j+1)) (E.set q (et+1))=dpK t Nt.ks D:=by
           have h1:=HE.out.rest
           have hjk:=(List.getElem?_eq_some_iff.1 hz)
           rw[List.drop_eq_getElem_cons hjk.1,hjk.2,dpK,hgt]at h1
           exact h1
          have hneT:gd≠w.heap.size:=by omega
          have hneF:gd≠w.heap.size+1:=by omega
          have tk2:TkSt w (.slice (some a') (m+1) c) (wr.setCell ⟨gd,q,none⟩ (.int .i64 (et+1))):=
           ⟨(heap_setCell_other _ _ _ _ (Ne.symm hneT)).trans HE.out.tk.tb,(heap_setCell_other _ _ _ _ (Ne.symm hneF)).trans HE.out.tk.fb,HE.out.tk.bl.setCell hgd0 _⟩
          have HE2:Hid (DkSt w (.slice (some a') (m+1) c) gd (m+1) t Nt.ks D (j+1) (E.set q (et+1)) (wr.setCell ⟨gd,q,none⟩ (.int .i64 (et+1)))):=⟨tk2,o2,ok2,hrest⟩
          have hqm:(q:Int)<(m:Int)+1:=by omega
          have hq0:(0:Int)<=(q:Int):=by omega
          clear hz HE o2 ok2 hrest tk2 hrow het heq hgt
          go_wp2_with fail
          exact⟨⟨j+1,_,by omega,by go_num,HE2⟩,by simp[intOf];omega⟩
         ·obtain rfl:j=Lk2:=by omega
          have hfin:Hid (DpSt w (.slice (some a') (m+1) c) gd (m+1) ns t E wr):=by
           refine⟨HE.out.tk,HE.out.row,HE.out.ok,?_⟩
           have h1:=HE.out.rest
           rw[List.drop_of_length_le (by rw[HQ.out.1];exact Nat.le_refl _),dpK]at h1
           rw[h1]
           exact HQ.out.2.2.1
          clear HE
          go_wp2_with fail
          exact⟨⟨t,E,by omega,rfl,hfin⟩,by simp[intOf]⟩
     ·rw[if_pos (by omega)]at htf
      have HFF:Hid (F=(3,(m:Int))):=by
       show F=(3,(m:Int))
       rw[<-HN.out.2,htf]
       congr 1
       omega
      obtain⟨f0,f1,ff⟩:=ft_cells HS3.out.1.fb
      clear hf htf hz hgd HF
      go_wp2_with fail
      have s3:=HS3.out.1
      exact bodyPost_ret (results_cell_row rfl _ _ (w.heap.size+1) _ _ _ _ rfl (ft_put s3.fb 3 m) Tryz.underlying35 rfl (by kernel_rfl)) rfl ⟨by rw[HFF.out],(s3.bl.setCell (by simp) _).setCell (by simp) _⟩
theorem treeok_any (w:World) (v:Value) (ns:List Nd) (h:NdsAt w v ns) (hl:ns.length<=1048576) (sm:∀N∈ns,NdSmall N):
  Calls Tryz.prog 10 #[.agg #[v]] w fun e w'=>e= .returned (.agg #[.int .i64 (treeF ns).1,.int .i64 (treeF ns).2])/\Below w.heap.size w w':=by
 cases hb:badHead ns with
 |true=>
  have e:treeF ns=(1,0):=by unfold treeF;rw[if_pos hb]
  rw[e]
  exact treeok_head w v ns h hl hb
 |false=>exact treeok_main w v ns h hl sm hb
structure SoundT (ns:List Nd):Prop where
 len:1<=ns.length/\ns.length<=3000
 kid:∀(i:Nat) N,ns[i]?=some N->∀z∈N.ks,0<=z/\z<(i:Int)
 kn:∀N∈ns,N.ks.length<=200
theorem sound_of {ns:List Nd}(h:(treeF ns).1=0):SoundT ns:=by
 unfold treeF at h
 by_cases hb:badHead ns=true
 ·rw[if_pos hb]at h;exact absurd h (by decide)
 rw[if_neg hb]at h
 have hb':badHead ns=false:=by simpa using hb
 have hb2:=of_decide_eq_false hb'
 obtain⟨R1,hR1⟩:∃R1,fstI (badNode ns) ns.length 0=R1:=⟨_,rfl⟩
 rw[hR1]at h
 cases R1 with
 |some i=>rw[tf2]at h;exact absurd h (by simp)
 |none=>
  have hall:=fst_none hR1
  have hn:∀(i:Nat) N,ns[i]?=some N->nodeB ns i N=true:=fun i N hN=>by
   have hi:i<ns.length:=(List.getElem?_eq_some_iff.1 hN).1
   have h1:=hall i (Nat.zero_le _) (by omega)
   unfold badNode at h1
   rw[List.getD_eq_getElem?_getD,hN,Option.getD_some]at h1
   simpa using h1
  refine⟨⟨?_,?_⟩,fun i N hN z hz=>?_,fun N hN=>?_⟩
  ·rcases Nat.eq_zero_or_pos ns.length with g|g
   ·exact absurd (.inl g) hb2
   ·exact g
  ·rcases Nat.lt_or_ge 3000 ns.length with g|g
   ·exact absurd (.inr (.inl g)) hb2
   ·exact g
  ·have h2:=hn i N hN
   unfold nodeB at h2
   have h3:klB N.ks i N.ks.length 0=true:=by
    rw[Bool.and_eq_true,Bool.and_eq_true]at h2;exact h2.2.1
   obtain⟨q,hq,rfl⟩:=List.getElem_of_mem hz
   have:=klB_all N.ks i N.ks.length 0 h3 q (by omega) (by omega)
   rw[List.getD_eq_getElem?_getD,List.getElem?_eq_getElem hq]at this
   simpa using this
  ·obtain⟨i,hi,e⟩:=List.getElem_of_mem hN
   have h2:=hn i N (by rw[List.getElem?_eq_getElem hi,e])
   unfold nodeB fldB at h2
   rw[Bool.and_eq_true]at h2
   exact(of_decide_eq_true h2.1).2.2.2
def quoB (s:ByteArray):ByteArray:=strI (quoteI s)
theorem strI_sizeD (x:List Int):(strI x).size=x.length:=by
 have key:∀(x:List Int) (a:ByteArray),(x.foldl (fun r n=>r.push (UInt8.ofNat n.toNat)) a).size=a.size+x.length:=by
  intro x
  induction x with
  |nil=>intro a;rfl
  |cons b r ih=>intro a;show(r.foldl _ (a.push _)).size=_;rw[ih];simp;omega
 have:=key x ByteArray.empty
 unfold strI
 rw[this]
 simp
theorem quoB_size (s:ByteArray):(quoB s).size<=2+4*s.size:=by
 unfold quoB
 rw[strI_sizeD]
 unfold quoteI
 have:=qt_len s s.size (Nat.le_refl _)
 simp
 omega
theorem nodeB_of {ns:List Nd}(h:(treeF ns).1=0):∀(i:Nat) N,ns[i]?=some N->nodeB ns i N=true:=by
 unfold treeF at h
 by_cases hb:badHead ns=true
 ·rw[if_pos hb]at h;exact absurd h (by decide)
 rw[if_neg hb]at h
 obtain⟨R1,hR1⟩:∃R1,fstI (badNode ns) ns.length 0=R1:=⟨_,rfl⟩
 rw[hR1]at h
 cases R1 with
 |some i=>rw[tf2]at h;exact absurd h (by simp)
 |none=>
  have hall:=fst_none hR1
  intro i N hN
  have hi:i<ns.length:=(List.getElem?_eq_some_iff.1 hN).1
  have h1:=hall i (Nat.zero_le _) (by omega)
  unfold badNode at h1
  rw[List.getD_eq_getElem?_getD,hN,Option.getD_some]at h1
  simpa using h1
theorem bare_x {N:Nd}{a b d:Bool}(h:bareB N a b false d=true):N.x.size<=4000:=by
 unfold bareB at h
 simp only[Bool.and_eq_true,Bool.false_or]at h
 have:=of_decide_eq_true h.1.2
 have e:N.x.toList.length=0:=by rw[this];rfl
 rw[ByteArray.toList_eq]at e
 have:N.x.size=0:=by simpa using e
 omega
theorem nmok_x {s:ByteArray}(h:nmok s=true):s.size<=4000:=by
 have:=(of_decide_eq_true h).1
 omega
theorem fok_x {s:ByteArray}(h:fok s=true):s.size<=4000:=by
 unfold fok at h
 rw[Bool.and_eq_true]at h
 have:=of_decide_eq_true h.1
 omega
theorem ite_or {c:Prop}[Decidable c] {a b:Bool}(h:(if c then a else b)=true):a=true\/b=true:=by
 by_cases hc:c
 ·rw[if_pos hc]at h;exact .inl h
 ·rw[if_neg hc]at h;exact .inr h
theorem txt_of {ns:List Nd}{i:Nat}{N:Nd}(h:nodeB ns i N=true):N.x.size<=4000:=by
 unfold nodeB at h
 rw[Bool.and_eq_true,Bool.and_eq_true]at h
 have h2:=h.2.2
 unfold seB at h2
 rcases ite_or h2 with h2|h2
 ·unfold stB at h2
  rcases ite_or h2 with h2|h2
  ·(simp only[Bool.and_eq_true]at h2;first|exact bare_x h2.1|exact bare_x h2.2|exact bare_x h2.1.1|exact bare_x h2.1.1.1|exact bare_x h2.1.1.1.1|exact bare_x h2.1.1.1.1.1)
  rcases ite_or h2 with h2|h2
  ·(simp only[Bool.and_eq_true]at h2;first|exact bare_x h2.1|exact bare_x h2.2|exact bare_x h2.1.1|exact bare_x h2.1.1.1|exact bare_x h2.1.1.1.1|exact bare_x h2.1.1.1.1.1)
  rcases ite_or h2 with h2|h2
  ·(simp only[Bool.and_eq_true]at h2;first|exact bare_x h2.1|exact bare_x h2.2|exact bare_x h2.1.1|exact bare_x h2.1.1.1|exact bare_x h2.1.1.1.1|exact bare_x h2.1.1.1.1.1)
  rcases ite_or h2 with h2|h2
  ·(simp only[Bool.and_eq_true]at h2;first|exact bare_x h2.1|exact bare_x h2.2|exact bare_x h2.1.1|exact bare_x h2.1.1.1|exact bare_x h2.1.1.1.1|exact bare_x h2.1.1.1.1.1)
  rcases ite_or h2 with h2|h2
  ·(simp only[Bool.and_eq_true]at h2;first|exact bare_x h2.1|exact bare_x h2.2|exact bare_x h2.1.1|exact bare_x h2.1.1.1|exact bare_x h2.1.1.1.1|exact bare_x h2.1.1.1.1.1)
  rcases ite_or h2 with h2|h2
  ·(simp only[Bool.and_eq_true]at h2;first|exact bare_x h2.1|exact bare_x h2.2|exact bare_x h2.1.1|exact bare_x h2.1.1.1|exact bare_x h2.1.1.1.1|exact bare_x h2.1.1.1.1.1)
  rcases ite_or h2 with h2|h2
  ·(simp only[Bool.and_eq_true]at h2;first|exact bare_x h2.1|exact bare_x h2.2|exact bare_x h2.1.1|exact bare_x h2.1.1.1|exact bare_x h2.1.1.1.1|exact bare_x h2.1.1.1.1.1)
  rcases ite_or h2 with h2|h2
  ·(simp only[Bool.and_eq_true]at h2;first|exact bare_x h2.1|exact bare_x h2.2|exact bare_x h2.1.1|exact bare_x h2.1.1.1|exact bare_x h2.1.1.1.1|exact bare_x h2.1.1.1.1.1)
  rcases ite_or h2 with h2|h2
  ·(simp only[Bool.and_eq_true]at h2;first|exact bare_x h2.1|exact bare_x h2.2|exact bare_x h2.1.1|exact bare_x h2.1.1.1|exact bare_x h2.1.1.1.1|exact bare_x h2.1.1.1.1.1)
  rcases ite_or h2 with h2|h2
  ·(simp only[Bool.and_eq_true]at h2;first|exact bare_x h2.1|exact bare_x h2.2|exact bare_x h2.1.1|exact bare_x h2.1.1.1|exact bare_x h2.1.1.1.1|exact bare_x h2.1.1.1.1.1)
  rcases ite_or h2 with h2|h2
  ·(simp only[Bool.and_eq_true]at h2;first|exact bare_x h2.1|exact bare_x h2.2|exact bare_x h2.1.1|exact bare_x h2.1.1.1|exact bare_x h2.1.1.1.1|exact bare_x h2.1.1.1.1.1)
  rcases ite_or h2 with h2|h2
  ·(simp only[Bool.and_eq_true]at h2;first|exact bare_x h2.1|exact bare_x h2.2|exact bare_x h2.1.1|exact bare_x h2.1.1.1|exact bare_x h2.1.1.1.1|exact bare_x h2.1.1.1.1.1)
  rcases ite_or h2 with h2|h2
  ·(simp only[Bool.and_eq_true]at h2;first|exact bare_x h2.1|exact bare_x h2.2|exact bare_x h2.1.1|exact bare_x h2.1.1.1|exact bare_x h2.1.1.1.1|exact bare_x h2.1.1.1.1.1)
  rcases ite_or h2 with h2|h2
  ·(simp only[Bool.and_eq_true]at h2;first|exact bare_x h2.1|exact bare_x h2.2|exact bare_x h2.1.1|exact bare_x h2.1.1.1|exact bare_x h2.1.1.1.1|exact bare_x h2.1.1.1.1.1)
  rcases ite_or h2 with h2|h2
  ·(simp only[Bool.and_eq_true]at h2;first|exact bare_x h2.1|exact bare_x h2.2|exact bare_x h2.1.1|exact bare_x h2.1.1.1|exact bare_x h2.1.1.1.1|exact bare_x h2.1.1.1.1.1)
  rcases ite_or h2 with h2|h2
  ·(simp only[Bool.and_eq_true]at h2;first|exact bare_x h2.1|exact bare_x h2.2|exact bare_x h2.1.1|exact bare_x h2.1.1.1|exact bare_x h2.1.1.1.1|exact bare_x h2.1.1.1.1.1)
  exact absurd h2 (by decide)
 ·unfold exprB at h2
  rcases ite_or h2 with h2|h2
  ·(simp only[Bool.and_eq_true]at h2;first|exact bare_x h2.2|exact fok_x h2.2|exact nmok_x h2.2|exact(by have:=of_decide_eq_true h2.2;omega)|exact bare_x h2.1.2|exact bare_x h2.1.1.2|exact bare_x h2.1.1.1.2)
  rcases ite_or h2 with h2|h2
  ·(simp only[Bool.and_eq_true]at h2;first|exact bare_x h2.2|exact fok_x h2.2|exact nmok_x h2.2|exact(by have:=of_decide_eq_true h2.2;omega)|exact bare_x h2.1.2|exact bare_x h2.1.1.2|exact bare_x h2.1.1.1.2)
  rcases ite_or h2 with h2|h2
  ·(simp only[Bool.and_eq_true]at h2;first|exact bare_x h2.2|exact fok_x h2.2|exact nmok_x h2.2|exact(by have:=of_decide_eq_true h2.2;omega)|exact bare_x h2.1.2|exact bare_x h2.1.1.2|exact bare_x h2.1.1.1.2)
  rcases ite_or h2 with h2|h2
  ·(simp only[Bool.and_eq_true]at h2;first|exact bare_x h2.2|exact fok_x h2.2|exact nmok_x h2.2|exact(by have:=of_decide_eq_true h2.2;omega)|exact bare_x h2.1.2|exact bare_x h2.1.1.2|exact bare_x h2.1.1.1.2)
  rcases ite_or h2 with h2|h2
  ·(simp only[Bool.and_eq_true]at h2;first|exact bare_x h2.2|exact fok_x h2.2|exact nmok_x h2.2|exact(by have:=of_decide_eq_true h2.2;omega)|exact bare_x h2.1.2|exact bare_x h2.1.1.2|exact bare_x h2.1.1.1.2)
  rcases ite_or h2 with h2|h2
  ·(simp only[Bool.and_eq_true]at h2;first|exact bare_x h2.2|exact fok_x h2.2|exact nmok_x h2.2|exact(by have:=of_decide_eq_true h2.2;omega)|exact bare_x h2.1.2|exact bare_x h2.1.1.2|exact bare_x h2.1.1.1.2)
  rcases ite_or h2 with h2|h2
  ·(simp only[Bool.and_eq_true]at h2;first|exact bare_x h2.2|exact fok_x h2.2|exact nmok_x h2.2|exact(by have:=of_decide_eq_true h2.2;omega)|exact bare_x h2.1.2|exact bare_x h2.1.1.2|exact bare_x h2.1.1.1.2)
  rcases ite_or h2 with h2|h2
  ·(simp only[Bool.and_eq_true]at h2;first|exact bare_x h2.2|exact fok_x h2.2|exact nmok_x h2.2|exact(by have:=of_decide_eq_true h2.2;omega)|exact bare_x h2.1.2|exact bare_x h2.1.1.2|exact bare_x h2.1.1.1.2)
  rcases ite_or h2 with h2|h2
  ·(simp only[Bool.and_eq_true]at h2;first|exact bare_x h2.2|exact fok_x h2.2|exact nmok_x h2.2|exact(by have:=of_decide_eq_true h2.2;omega)|exact bare_x h2.1.2|exact bare_x h2.1.1.2|exact bare_x h2.1.1.1.2)
  rcases ite_or h2 with h2|h2
  ·(simp only[Bool.and_eq_true]at h2;first|exact bare_x h2.2|exact fok_x h2.2|exact nmok_x h2.2|exact(by have:=of_decide_eq_true h2.2;omega)|exact bare_x h2.1.2|exact bare_x h2.1.1.2|exact bare_x h2.1.1.1.2)
  rcases ite_or h2 with h2|h2
  ·(simp only[Bool.and_eq_true]at h2;first|exact bare_x h2.2|exact fok_x h2.2|exact nmok_x h2.2|exact(by have:=of_decide_eq_true h2.2;omega)|exact bare_x h2.1.2|exact bare_x h2.1.1.2|exact bare_x h2.1.1.1.2)
  rcases ite_or h2 with h2|h2
  ·(simp only[Bool.and_eq_true]at h2;first|exact bare_x h2.2|exact fok_x h2.2|exact nmok_x h2.2|exact(by have:=of_decide_eq_true h2.2;omega)|exact bare_x h2.1.2|exact bare_x h2.1.1.2|exact bare_x h2.1.1.1.2)
  rcases ite_or h2 with h2|h2
  ·(simp only[Bool.and_eq_true]at h2;first|exact bare_x h2.2|exact fok_x h2.2|exact nmok_x h2.2|exact(by have:=of_decide_eq_true h2.2;omega)|exact bare_x h2.1.2|exact bare_x h2.1.1.2|exact bare_x h2.1.1.1.2)
  rcases ite_or h2 with h2|h2
  ·(simp only[Bool.and_eq_true]at h2;first|exact bare_x h2.2|exact fok_x h2.2|exact nmok_x h2.2|exact(by have:=of_decide_eq_true h2.2;omega)|exact bare_x h2.1.2|exact bare_x h2.1.1.2|exact bare_x h2.1.1.1.2)
  rcases ite_or h2 with h2|h2
  ·(simp only[Bool.and_eq_true]at h2;first|exact bare_x h2.2|exact fok_x h2.2|exact nmok_x h2.2|exact(by have:=of_decide_eq_true h2.2;omega)|exact bare_x h2.1.2|exact bare_x h2.1.1.2|exact bare_x h2.1.1.1.2)
  rcases ite_or h2 with h2|h2
  ·(simp only[Bool.and_eq_true]at h2;first|exact bare_x h2.2|exact fok_x h2.2|exact nmok_x h2.2|exact(by have:=of_decide_eq_true h2.2;omega)|exact bare_x h2.1.2|exact bare_x h2.1.1.2|exact bare_x h2.1.1.1.2)
  rcases ite_or h2 with h2|h2
  ·(simp only[Bool.and_eq_true]at h2;first|exact bare_x h2.2|exact fok_x h2.2|exact nmok_x h2.2|exact(by have:=of_decide_eq_true h2.2;omega)|exact bare_x h2.1.2|exact bare_x h2.1.1.2|exact bare_x h2.1.1.1.2)
  rcases ite_or h2 with h2|h2
  ·(simp only[Bool.and_eq_true]at h2;first|exact bare_x h2.2|exact fok_x h2.2|exact nmok_x h2.2|exact(by have:=of_decide_eq_true h2.2;omega)|exact bare_x h2.1.2|exact bare_x h2.1.1.2|exact bare_x h2.1.1.1.2)
  rcases ite_or h2 with h2|h2
  ·(simp only[Bool.and_eq_true]at h2;first|exact bare_x h2.2|exact fok_x h2.2|exact nmok_x h2.2|exact(by have:=of_decide_eq_true h2.2;omega)|exact bare_x h2.1.2|exact bare_x h2.1.1.2|exact bare_x h2.1.1.1.2)
  rcases ite_or h2 with h2|h2
  ·(simp only[Bool.and_eq_true]at h2;first|exact bare_x h2.2|exact fok_x h2.2|exact nmok_x h2.2|exact(by have:=of_decide_eq_true h2.2;omega)|exact bare_x h2.1.2|exact bare_x h2.1.1.2|exact bare_x h2.1.1.1.2)
  rcases ite_or h2 with h2|h2
  ·(simp only[Bool.and_eq_true]at h2;first|exact bare_x h2.2|exact fok_x h2.2|exact nmok_x h2.2|exact(by have:=of_decide_eq_true h2.2;omega)|exact bare_x h2.1.2|exact bare_x h2.1.1.2|exact bare_x h2.1.1.1.2)
  exact absurd h2 (by decide)
theorem szO_pre (ns:List Nd):∀i,szs (ns.take i)=(szs ns).take i:=by
 refine rev_ind (p:=fun ns=>∀i,szs (ns.take i)=(szs ns).take i) ?_ ?_ ns
 ·intro i;simp[szs]
 ·intro a x ih i
  rcases Nat.lt_or_ge i (a++[x]).length with h|h
  ·have h1:i<=a.length:=by rw[List.length_append]at h;simp at h;omega
   rw[List.take_append_of_le_length h1,ih,szs_app,List.take_append_of_le_length (by rw[szs_len];exact h1)]
  ·rw[List.take_of_length_le h,List.take_of_length_le (by rw[szs_len];exact h)]
theorem szO_at {ns:List Nd}{i:Nat}{N:Nd}(h:ns[i]?=some N):(szs ns).getD i 0=szNd ((szs ns).take i) i N.ks:=by
 have hi:i<ns.length:=(List.getElem?_eq_some_iff.1 h).1
 have e1:ns.take (i+1)=ns.take i++[N]:=by rw[List.take_add_one,h];rfl
 have e2:=szO_pre ns (i+1)
 rw[e1,szs_app,szO_pre,List.length_take,szs_len,Nat.min_eq_left (by omega),List.take_add_one]at e2
 have e3:(szs ns)[i]?=some ((szs ns).getD i 0):=by
  rw[List.getD_eq_getElem?_getD,List.getElem?_eq_getElem (by rw[szs_len];exact hi)];rfl
 rw[e3]at e2
 have e4:=List.append_cancel_left e2
 simpa using e4.symm
def sumK (S:List Int):List Int->Int
 |[]=>0
 |k::l=>S.getD k.toNat 0+sumK S l
theorem sumK_app (S:List Int) (a b:List Int):sumK S (a++b)=sumK S a+sumK S b:=by
 induction a with
 |nil=>simp[sumK]
 |cons k l ih=>simp only[List.cons_append,sumK,ih];omega
theorem sumK_rev (S:List Int) (l:List Int):sumK S l.reverse=sumK S l:=by
 induction l with
 |nil=>rfl
 |cons k l ih=>rw[List.reverse_cons,sumK_app,ih];simp only[sumK];omega
theorem wkB_sum {S:List Int}:∀(l:List Int) (a b:Int),wkB S l a=some b->b=a-sumK S l
 |[],a,b,h=>by simp[wkB]at h;simp[sumK];omega
 |k::r,a,b,h=>by
  rw[wkB]at h
  split at h
  ·have:=wkB_sum r _ _ h
   simp only[sumK]
   omega
  ·cases h
theorem sumK_pre (S:List Int) (i:Nat) (l:List Int) (h:∀k∈l,0<=k/\k<(i:Int)):sumK (S.take i) l=sumK S l:=by
 induction l with
 |nil=>rfl
 |cons k l ih=>
  have hk:=h k List.mem_cons_self
  have e:(S.take i).getD k.toNat 0=S.getD k.toNat 0:=by
   rw[List.getD_eq_getElem?_getD,List.getD_eq_getElem?_getD,List.getElem?_take_of_lt (by omega)]
  simp only[sumK,e,ih fun k hk=>h k (List.mem_cons_of_mem _ hk)]
structure SizeT (ns:List Nd):Prop where
 at_:∀(i:Nat) N,ns[i]?=some N->(szs ns).getD i 0=1+sumK (szs ns) N.ks
 le:∀i,(szs ns).getD i 0<=3000
theorem size_of {ns:List Nd}(h:(treeF ns).1=0):SizeT ns:=by
 have sd:=sound_of h
 unfold treeF at h
 by_cases hb:badHead ns=true
 ·rw[if_pos hb]at h;exact absurd h (by decide)
 rw[if_neg hb]at h
 obtain⟨R1,hR1⟩:∃R1,fstI (badNode ns) ns.length 0=R1:=⟨_,rfl⟩
 rw[hR1]at h
 cases R1 with
 |some i=>rw[tf2]at h;exact absurd h (by simp)
 |none=>
  rw[tf2]at h
  obtain⟨R2,hR2⟩:∃R2,fstI (badSize (szs ns)) ns.length 0=R2:=⟨_,rfl⟩
  rw[hR2]at h
  cases R2 with
  |some i=>rw[tf3]at h;exact absurd h (by simp)
  |none=>
   have hall:=fst_none hR2
   have hok:SzOk (szs ns):=szs_ok ns (fun N hN k hk=>by
    obtain⟨i,hi,e⟩:=List.getElem_of_mem hN
    exact(sd.kid i N (by rw[List.getElem?_eq_getElem hi,e]) k hk).1)
   refine⟨fun i N hN=>?_,fun i=>?_⟩
   ·have hi:i<ns.length:=(List.getElem?_eq_some_iff.1 hN).1
    have h1:=hall i (Nat.zero_le _) (by omega)
    unfold badSize at h1
    rw[szO_at hN]at h1⊢
    unfold szNd at h1⊢
    cases hw:wkB ((szs ns).take i) N.ks.reverse i with
    |none=>rw[hw]at h1;simp at h1
    |some a=>
     have e:=wkB_sum _ _ _ hw
     rw[sumK_rev,sumK_pre _ _ _ (fun k hk=>sd.kid i N hN k hk)]at e
     show(i:Int)-a+1=_
     omega
   ·rcases Nat.lt_or_ge i ns.length with hi|hi
    ·have e3:(szs ns)[i]?=some ((szs ns).getD i 0):=by
      rw[List.getD_eq_getElem?_getD,List.getElem?_eq_getElem (by rw[szs_len];exact hi)];rfl
     have:=hok i _ e3
     have:=sd.len
     omega
    ·rw[List.getD_eq_getElem?_getD,List.getElem?_eq_none (by rw[szs_len];exact hi)]
     decide
theorem kidK_eq (ns:List Nd) (N:Nd) (j:Nat):kidK ns N j=(nodeI ns (kidI N j)).k:=rfl
theorem ex_at {ns:List Nd}{N:Nd}:∀(f j:Nat),exB ns N f j=true->∀q,j<=q->q<j+f->exprK (nodeI ns (kidI N q)).k=true
 |0,j,_,q,h1,h2=>by omega
 |f+1,j,h,q,h1,h2=>by
  rw[exB,Bool.and_eq_true]at h
  rcases Nat.eq_or_lt_of_le h1 with rfl|h3
  ·exact h.1
  ·exact ex_at f (j+1) h.2 q h3 (by omega)
theorem sb_at {ns:List Nd}{N:Nd}:∀(f j:Nat),sbB ns N f j=true->∀q,j<=q->q<j+f->statK (nodeI ns (kidI N q)).k=true
 |0,j,_,q,h1,h2=>by omega
 |f+1,j,h,q,h1,h2=>by
  rw[sbB,Bool.and_eq_true]at h
  rcases Nat.eq_or_lt_of_le h1 with rfl|h3
  ·exact h.1
  ·exact sb_at f (j+1) h.2 q h3 (by omega)
theorem targ_expr {k:Int}(h:targK k=true):exprK k=true:=by
 have:=of_decide_eq_true h
 exact decide_eq_true (by omega)
theorem tg_at {ns:List Nd}{N:Nd}:∀(f j:Nat),tgB ns N f j=true->∀q,j<=q->q<j+f->exprK (nodeI ns (kidI N q)).k=true
 |0,j,_,q,h1,h2=>by omega
 |f+1,j,h,q,h1,h2=>by
  rw[tgB,Bool.and_eq_true]at h
  rcases Nat.eq_or_lt_of_le h1 with rfl|h3
  ·exact targ_expr h.1
  ·exact tg_at f (j+1) h.2 q h3 (by omega)
theorem en_at {ns:List Nd}{N:Nd}:∀(f j:Nat),enB ns N f j=true->∀q,j<=q->q<j+f->40<=(nodeI ns (kidI N q)).k/\(nodeI ns (kidI N q)).k<=42
 |0,j,_,q,h1,h2=>by omega
 |f+1,j,h,q,h1,h2=>by
  rw[enB,Bool.and_eq_true]at h
  rcases Nat.eq_or_lt_of_le h1 with rfl|h3
  ·exact of_decide_eq_true h.1
  ·exact en_at f (j+1) h.2 q h3 (by omega)
structure Kid (ns:List Nd) (i:Nat) (N:Nd) (j q:Nat):Prop where
 at_:N.ks[j]?=some (q:Int)
 lt:q<i
 len:q<ns.length
 id:kidI N j=(q:Int)
theorem kid_of {ns:List Nd}{i:Nat}{N:Nd}(h:nodeB ns i N=true) (hi:i<ns.length) (j:Nat) (hj:j<N.ks.length):∃q,Kid ns i N j q:=by
 unfold nodeB at h
 rw[Bool.and_eq_true,Bool.and_eq_true]at h
 have h1:=klB_all N.ks i N.ks.length 0 h.2.1 j (by omega) (by omega)
 have e:N.ks[j]?=some (N.ks.getD j 0):=by rw[List.getD_eq_getElem?_getD,List.getElem?_eq_getElem hj];rfl
 refine⟨(N.ks.getD j 0).toNat,?_,by omega,by omega,?_⟩
 ·rw[e];congr 1;omega
 ·show N.ks.getD j 0=_;omega
theorem kid_mem {N:Nd}{z:Int}(h:z∈N.ks):∃j,j<N.ks.length/\kidI N j=z:=by
 obtain⟨j,hj,e⟩:=List.getElem_of_mem h
 exact⟨j,hj,by unfold kidI;rw[List.getD_eq_getElem?_getD,List.getElem?_eq_getElem hj];exact e⟩
theorem nb_se {ns:List Nd}{i:Nat}{N:Nd}(h:nodeB ns i N=true):seB ns N=true/\N.ks.length<=200:=by
 unfold nodeB at h
 rw[Bool.and_eq_true,Bool.and_eq_true]at h
 exact⟨h.2.2,(of_decide_eq_true h.1).2.2.2⟩
theorem nb_ex {ns:List Nd}{N:Nd}(h:seB ns N=true) (hk:17<=N.k):exprB ns N=true:=by
 unfold seB at h
 rwa [if_neg (by unfold statK;rw[decide_eq_true_eq];omega)]at h
theorem nb_st {ns:List Nd}{N:Nd}(h:seB ns N=true) (hk:1<=N.k/\N.k<=16):stB ns N=true:=by
 unfold seB at h
 rwa [if_pos (by unfold statK;rw[decide_eq_true_eq];omega)]at h
theorem nb_two {ns:List Nd}{N:Nd}(h:seB ns N=true) (hk:N.k=28\/N.k=29\/N.k=31\/N.k=32\/N.k=41):N.ks.length=2/\exB ns N 2 0=true/\(N.k=31->1<=N.op/\N.op<=18):=by
 have h:=nb_ex h (by omega)
 unfold exprB at h
 rcases hk with e|e|e|e|e<;>simp[e]at h<;>exact⟨by omega,by simp[h],by omega⟩
theorem nb_one {ns:List Nd}{N:Nd}(h:seB ns N=true) (hk:N.k=30\/N.k=33\/N.k=37\/N.k=40\/N.k=42):N.ks.length=1/\exprK (nodeI ns (kidI N 0)).k=true/\(N.k=30->19<=N.op/\N.op<=22):=by
 have h:=nb_ex h (by omega)
 unfold exprB at h
 rcases hk with e|e|e|e|e<;>simp[e,kidK_eq]at h
 ·exact⟨by omega,ex_at 1 0 h.1.1.1.2 0 (by omega) (by omega),by omega⟩
 ·exact⟨by omega,ex_at 1 0 h.1.1.1.2 0 (by omega) (by omega),by omega⟩
 ·exact⟨by omega,decide_eq_true (by omega),by omega⟩
 ·exact⟨by omega,ex_at 1 0 h.1.2 0 (by omega) (by omega),by omega⟩
 ·exact⟨by omega,ex_at 1 0 h.1.1.2 0 (by omega) (by omega),by omega⟩
theorem nb_call {ns:List Nd}{N:Nd}(h:seB ns N=true) (hk:N.k=34):1<=N.ks.length/\exB ns N N.ks.length 0=true:=by
 have h:=nb_ex h (by omega)
 unfold exprB at h
 simp[hk,kidK_eq]at h
 exact⟨by omega,h.1.1.2⟩
theorem nb_table {ns:List Nd}{N:Nd}(h:seB ns N=true) (hk:N.k=35):enB ns N N.ks.length 0=true:=by
 have h:=nb_ex h (by omega)
 unfold exprB at h
 simp[hk]at h
 exact h.1
theorem named_le {N:Nd}{a b:Int}(h:namedB N a b=true) (hb:b<=200):a<=(N.nm.length:Int)/\N.nm.length<=200:=by
 unfold namedB at h
 rw[Bool.and_eq_true]at h
 have:=of_decide_eq_true h.1
 omega
theorem nb_fn {ns:List Nd}{N:Nd}(h:seB ns N=true) (hk:N.k=36):N.ks.length=1/\(nodeI ns (kidI N 0)).k=1/\N.nm.length<=200/\(N.op=0\/N.op=1):=by
 have h:=nb_ex h (by omega)
 unfold exprB at h
 simp[hk,kidK_eq]at h
 exact⟨by omega,h.1.1.1.2,(named_le h.1.2 (by omega)).2,h.2⟩
theorem nb_block {ns:List Nd}{N:Nd}(h:seB ns N=true) (hk:N.k=1):sbB ns N N.ks.length 0=true:=by
 have h:=nb_st h (by omega)
 unfold stB at h
 simp[hk]at h
 exact h.1
theorem nb_kinds {ns:List Nd}{N:Nd}(h:seB ns N=true):(1<=N.k/\N.k<=16)\/(20<=N.k/\N.k<=37)\/(40<=N.k/\N.k<=42):=by
 by_cases h1:1<=N.k/\N.k<=16
 ·exact .inl h1
 ·unfold seB at h
  rw[if_neg (by unfold statK;rw[decide_eq_true_eq];exact h1)]at h
  by_cases h2:(20<=N.k/\N.k<=37)\/(40<=N.k/\N.k<=42)
  ·exact .inr h2
  ·unfold exprB at h
   repeat rw[if_neg (by omega)]at h
   cases h
def sN (ns:List Nd) (i:Int):Nat:=((szs ns).getD i.toNat 0).toNat
def sK (ns:List Nd):List Int->Nat
 |[]=>0
 |k::l=>sN ns k+sK ns l
theorem sK_app (ns:List Nd) (a b:List Int):sK ns (a++b)=sK ns a+sK ns b:=by
 induction a with
 |nil=>simp[sK]
 |cons k l ih=>simp only[List.cons_append,sK,ih];omega
theorem sK_split (ns:List Nd) (l:List Int) (n:Nat):sK ns l=sK ns (l.take n)+sK ns (l.drop n):=by rw[<-sK_app,List.take_append_drop]
structure Szd (ns:List Nd):Prop where
 nb:∀i:Nat,i<ns.length->nodeB ns i (nodeI ns i)=true
 at_:∀i:Nat,i<ns.length->sN ns i=1+sK ns (nodeI ns i).ks
 le:∀i:Int,sN ns i<=3000
theorem szd_of {ns:List Nd}(h:(treeF ns).1=0):Szd ns:=by
 have sz:=size_of h
 have sd:=sound_of h
 have nb:=nodeB_of h
 have hok:SzOk (szs ns):=szs_ok ns (fun N hN k hk=>by
  obtain⟨i,hi,e⟩:=List.getElem_of_mem hN
  exact(sd.kid i N (by rw[List.getElem?_eq_getElem hi,e]) k hk).1)
 have pos:∀i:Nat,0<=(szs ns).getD i 0:=by
  intro i
  rw[List.getD_eq_getElem?_getD]
  cases e:(szs ns)[i]? with
  |none=>decide
  |some z=>exact(hok i z e).1
 have sm:∀l:List Int,sumK (szs ns) l=(sK ns l:Int):=by
  intro l
  induction l with
  |nil=>rfl
  |cons k r ih=>
   have:=pos k.toNat
   simp only[sumK,sK,ih,sN]
   omega
 have at0:∀i:Nat,i<ns.length->ns[i]?=some (nodeI ns i):=fun i hi=>by
  unfold nodeI
  rw[Int.toNat_natCast,List.getD,List.getElem?_eq_getElem hi];rfl
 refine⟨fun i hi=>nb i _ (at0 i hi),fun i hi=>?_,fun i=>?_⟩
 ·have e:=sz.at_ i _ (at0 i hi)
  rw[sm]at e
  show((szs ns).getD (i:Int).toNat 0).toNat=_
  rw[Int.toNat_natCast,e]
  omega
 ·have:=sz.le i.toNat
  unfold sN
  omega
theorem sepB_size (l:List ByteArray):(sepB l).size<=(l.map fun x=>x.size+2).sum:=by
 have key:∀k,(sepB (l.take k)).size<=((l.take k).map fun x=>x.size+2).sum:=by
  intro k
  induction k with
  |zero=>show(ByteArray.empty).size<=_;exact Nat.zero_le _
  |succ k ih=>
   rcases Nat.lt_or_ge k l.length with h|h
   ·rw[sepB_take l k _ (List.getElem?_eq_getElem h),ByteArray.size_append,List.take_succ_eq_append_getElem h,List.map_append,List.sum_append]
    have e:commaB.size=2:=rfl
    have:(if k=0 then sepB (l.take k) else sepB (l.take k)++commaB).size<=(sepB (l.take k)).size+2:=by
     split
     ·omega
     ·rw[ByteArray.size_append,e];exact Nat.le_refl _
    simp only[List.map_cons,List.map_nil,List.sum_cons,List.sum_nil]
    omega
   ·rw[List.take_of_length_le (by omega)]
    rw[List.take_of_length_le (by omega)]at ih
    exact ih
 have:=key l.length
 rwa [List.take_of_length_le (Nat.le_refl _)]at this
theorem sum_le (ns:List Nd) (F:Int->Nat) (d:Nat) (ls:List Int) (h:∀z∈ls,F z+10000<=2000000*sN ns z) (hd:d<=10000):(ls.map fun z=>F z+d).sum<=2000000*sK ns ls:=by
 induction ls with
 |nil=>exact Nat.zero_le _
 |cons z r ih=>
  have h1:=h z List.mem_cons_self
  have h2:=ih fun y hy=>h y (List.mem_cons_of_mem _ hy)
  simp only[List.map_cons,List.sum_cons,sK,Nat.mul_add]
  omega
theorem sepE_le (ns:List Nd) (E:Int->ByteArray) (ls:List Int) (h:∀z∈ls,(E z).size+10000<=2000000*sN ns z):(sepB (ls.map E)).size<=2000000*sK ns ls:=by
 refine Nat.le_trans (sepB_size _) ?_
 rw[List.map_map]
 exact sum_le ns (fun z=>(E z).size) 2 ls h (by omega)
theorem nms_size (l:List ByteArray) (h:∀s∈l,s.size<=4000):(sepB l).size<=4002*l.length:=by
 refine Nat.le_trans (sepB_size _) ?_
 induction l with
 |nil=>exact Nat.zero_le _
 |cons x r ih=>
  have h1:=h x List.mem_cons_self
  have h2:=ih fun y hy=>h y (List.mem_cons_of_mem _ hy)
  simp only[List.map_cons,List.sum_cons,List.length_cons]
  omega
theorem catB_size (l:List ByteArray):(catB l).size=(l.map ByteArray.size).sum:=by
 have key:∀(a:ByteArray),(l.foldl (· ++·) a).size=a.size+(l.map ByteArray.size).sum:=by
  induction l with
  |nil=>intro a;simp
  |cons x r ih=>intro a;rw[List.foldl_cons,ih,ByteArray.size_append,List.map_cons,List.sum_cons];omega
 have:=key ByteArray.empty
 rw[show ByteArray.empty.size=0 from rfl]at this
 unfold catB
 omega
theorem blB_le (ns:List Nd) (S:Int->Nat->ByteArray) (ls:List Int) (tab:Nat) (ht:tab<=9000) (h:∀z∈ls,(S z (tab+1)).size+10000<=2000000*sN ns z):(blB S ls tab).size+10000<=2000000*(1+sK ns ls)-900000:=by
 unfold blB
 by_cases h0:ls=[]
 ·rw[if_pos h0];show 2+10000<=_;omega
 ·rw[if_neg h0,ByteArray.size_append,ByteArray.size_append,ByteArray.size_append,catB_size,lineB_size,List.map_map]
  have e:(ls.map (ByteArray.size ∘ fun k=>lineB (tab+1)++S k (tab+1)))=ls.map fun z=>(S z (tab+1)).size+(tab+2):=by
   apply List.map_congr_left
   intro z hz
   simp only[Function.comp]
   rw[ByteArray.size_append,lineB_size];omega
  rw[e]
  have:=sum_le ns (fun z=>(S z (tab+1)).size) (tab+2) ls h (by omega)
  show 1+_+(tab+1)+1+10000<=_
  omega
theorem ex_zero {ns:List Nd}{N:Nd}(h:exB ns N 1 0=true):exprK (nodeI ns (kidI N 0)).k=true:=ex_at 1 0 h 0 (by omega) (by omega)
theorem nb_let {ns:List Nd}{N:Nd}(h:seB ns N=true) (hk:N.k=2):exB ns N N.ks.length 0=true/\N.nm.length<=200:=by
 have h:=nb_st h (by omega)
 unfold stB at h
 simp only[hk]at h
 simp at h
 exact⟨h.2,(named_le h.1.2 (by omega)).2⟩
theorem nb_const {ns:List Nd}{N:Nd}(h:seB ns N=true) (hk:N.k=3):N.ks.length=1/\exprK (nodeI ns (kidI N 0)).k=true/\N.nm.length=1:=by
 have h:=nb_st h (by omega)
 unfold stB at h
 simp[hk]at h
 have:=named_le h.1.1.2 (by omega)
 have e:=h.1.1.2
 unfold namedB at e
 rw[Bool.and_eq_true]at e
 have:=of_decide_eq_true e.1
 exact⟨by omega,ex_zero h.2,by omega⟩
theorem nb_fns {ns:List Nd}{N:Nd}(h:seB ns N=true) (hk:N.k=4):N.ks.length=1/\(nodeI ns (kidI N 0)).k=36/\N.nm.length=1:=by
 have h:=nb_st h (by omega)
 unfold stB at h
 simp[hk,kidK_eq]at h
 have e:=h.1.1.2
 unfold namedB at e
 rw[Bool.and_eq_true]at e
 have:=of_decide_eq_true e.1
 exact⟨by omega,h.2,by omega⟩
theorem nb_set {ns:List Nd}{N:Nd}(h:seB ns N=true) (hk:N.k=5):1<=N.n/\N.n<(N.ks.length:Int)/\tgB ns N N.n.toNat 0=true/\exB ns N (N.ks.length-N.n.toNat) N.n.toNat=true:=by
 have h:=nb_st h (by omega)
 unfold stB at h
 simp[hk]at h
 exact⟨h.2.1.1,h.2.1.2,h.2.2.1,h.2.2.2⟩
theorem nb_do {ns:List Nd}{N:Nd}(h:seB ns N=true) (hk:N.k=6\/N.k=16):N.ks.length=1/\(nodeI ns (kidI N 0)).k=34:=by
 have h:=nb_st h (by omega)
 unfold stB at h
 rcases hk with e|e<;>simp[e,kidK_eq]at h<;>exact⟨by omega,h.2⟩
theorem nb_if {ns:List Nd}{N:Nd}(h:seB ns N=true) (hk:N.k=7):2<=N.ks.length/\N.ks.length<=3/\exprK (nodeI ns (kidI N 0)).k=true/\(nodeI ns (kidI N 1)).k=1/\(N.ks.length=2\/(nodeI ns (kidI N 2)).k=1\/(nodeI ns (kidI N 2)).k=7):=by
 have h:=nb_st h (by omega)
 unfold stB at h
 simp[hk,kidK_eq]at h
 exact⟨h.2.1.1,h.2.1.2,ex_zero h.2.2.1,h.2.2.2.1,by omega⟩
theorem nb_while {ns:List Nd}{N:Nd}(h:seB ns N=true) (hk:N.k=8):N.ks.length=2/\exprK (nodeI ns (kidI N 0)).k=true/\(nodeI ns (kidI N 1)).k=1:=by
 have h:=nb_st h (by omega)
 unfold stB at h
 simp[hk,kidK_eq]at h
 exact⟨by omega,ex_zero h.1.2,h.2⟩
theorem nb_for {ns:List Nd}{N:Nd}(h:seB ns N=true) (hk:N.k=9):(N.ks.length=3\/N.ks.length=4)/\exB ns N (N.ks.length-1) 0=true/\(nodeI ns (kidI N (N.ks.length-1))).k=1/\N.nm.length=1:=by
 have h:=nb_st h (by omega)
 unfold stB at h
 simp[hk,kidK_eq]at h
 have e:=h.2.1
 unfold namedB at e
 rw[Bool.and_eq_true]at e
 have:=of_decide_eq_true e.1
 exact⟨by omega,h.2.2.2.1,h.2.2.2.2,by omega⟩
theorem nb_each {ns:List Nd}{N:Nd}(h:seB ns N=true) (hk:N.k=10):N.ks.length=2/\exprK (nodeI ns (kidI N 0)).k=true/\(nodeI ns (kidI N 1)).k=1/\N.nm.length<=200:=by
 have h:=nb_st h (by omega)
 unfold stB at h
 simp[hk,kidK_eq]at h
 exact⟨by omega,ex_zero h.1.2,h.2,(named_le h.1.1.1.2 (by omega)).2⟩
theorem nb_ret {ns:List Nd}{N:Nd}(h:seB ns N=true) (hk:N.k=13):exB ns N N.ks.length 0=true:=by
 have h:=nb_st h (by omega)
 unfold stB at h
 simp[hk]at h
 exact h.2
theorem nb_try {ns:List Nd}{N:Nd}(h:seB ns N=true) (hk:N.k=14):N.ks.length=2/\(nodeI ns (kidI N 0)).k=1/\(nodeI ns (kidI N 1)).k=1/\N.nm.length<=200:=by
 have h:=nb_st h (by omega)
 unfold stB at h
 simp[hk,kidK_eq]at h
 exact⟨by omega,h.1.2,h.2,(named_le h.1.1.1.2 (by omega)).2⟩
theorem nb_throw {ns:List Nd}{N:Nd}(h:seB ns N=true) (hk:N.k=15):N.ks.length=1/\exprK (nodeI ns (kidI N 0)).k=true:=by
 have h:=nb_st h (by omega)
 unfold stB at h
 simp[hk]at h
 exact⟨by omega,ex_zero h.2⟩
theorem nms_all (l:List ByteArray):∀(f j:Nat),nmsB l f j=true->∀q,j<=q->q<j+f->(l.getD q ByteArray.empty).size<=4000
 |0,j,_,q,h1,h2=>by omega
 |f+1,j,h,q,h1,h2=>by
  rw[nmsB,Bool.and_eq_true]at h
  rcases Nat.eq_or_lt_of_le h1 with rfl|h3
  ·exact nmok_x h.1
  ·exact nms_all l f (j+1) h.2 q h3 (by omega)
theorem named_short {N:Nd}{a b:Int}(h:namedB N a b=true):∀s∈N.nm,s.size<=4000:=by
 unfold namedB at h
 rw[Bool.and_eq_true]at h
 intro s hs
 obtain⟨j,hj,e⟩:=List.getElem_of_mem hs
 have:=nms_all N.nm N.nm.length 0 h.2 j (by omega) (by omega)
 rw[List.getD_eq_getElem?_getD,List.getElem?_eq_getElem hj,e]at this
 exact this
theorem bare_nm {N:Nd}{a b c:Bool}(h:bareB N a b c false=true):∀s∈N.nm,s.size<=4000:=by
 unfold bareB at h
 simp at h
 intro s hs
 rw[h.2]at hs
 cases hs
theorem nm_short {ns:List Nd}{N:Nd}(h:seB ns N=true):∀s∈N.nm,s.size<=4000:=by
 rcases nb_kinds h with hk|hk
 ·have h:=nb_st h hk
  unfold stB at h
  rcases ite_or h with h|h
  ·(simp only[Bool.and_eq_true]at h;first|exact bare_nm h.1|exact bare_nm h.2|exact bare_nm h.1.1|exact bare_nm h.1.1.1|exact bare_nm h.1.2|exact bare_nm h.1.1.2|exact named_short h.2|exact named_short h.1.2|exact named_short h.1.1.2|exact named_short h.1.1.1.2|exact named_short h.2.1)
  rcases ite_or h with h|h
  ·(simp only[Bool.and_eq_true]at h;first|exact bare_nm h.1|exact bare_nm h.2|exact bare_nm h.1.1|exact bare_nm h.1.1.1|exact bare_nm h.1.2|exact bare_nm h.1.1.2|exact named_short h.2|exact named_short h.1.2|exact named_short h.1.1.2|exact named_short h.1.1.1.2|exact named_short h.2.1)
  rcases ite_or h with h|h
  ·(simp only[Bool.and_eq_true]at h;first|exact bare_nm h.1|exact bare_nm h.2|exact bare_nm h.1.1|exact bare_nm h.1.1.1|exact bare_nm h.1.2|exact bare_nm h.1.1.2|exact named_short h.2|exact named_short h.1.2|exact named_short h.1.1.2|exact named_short h.1.1.1.2|exact named_short h.2.1)
  rcases ite_or h with h|h
  ·(simp only[Bool.and_eq_true]at h;first|exact bare_nm h.1|exact bare_nm h.2|exact bare_nm h.1.1|exact bare_nm h.1.1.1|exact bare_nm h.1.2|exact bare_nm h.1.1.2|exact named_short h.2|exact named_short h.1.2|exact named_short h.1.1.2|exact named_short h.1.1.1.2|exact named_short h.2.1)
  rcases ite_or h with h|h
  ·(simp only[Bool.and_eq_true]at h;first|exact bare_nm h.1|exact bare_nm h.2|exact bare_nm h.1.1|exact bare_nm h.1.1.1|exact bare_nm h.1.2|exact bare_nm h.1.1.2|exact named_short h.2|exact named_short h.1.2|exact named_short h.1.1.2|exact named_short h.1.1.1.2|exact named_short h.2.1)
  rcases ite_or h with h|h
  ·(simp only[Bool.and_eq_true]at h;first|exact bare_nm h.1|exact bare_nm h.2|exact bare_nm h.1.1|exact bare_nm h.1.1.1|exact bare_nm h.1.2|exact bare_nm h.1.1.2|exact named_short h.2|exact named_short h.1.2|exact named_short h.1.1.2|exact named_short h.1.1.1.2|exact named_short h.2.1)
  rcases ite_or h with h|h
  ·(simp only[Bool.and_eq_true]at h;first|exact bare_nm h.1|exact bare_nm h.2|exact bare_nm h.1.1|exact bare_nm h.1.1.1|exact bare_nm h.1.2|exact bare_nm h.1.1.2|exact named_short h.2|exact named_short h.1.2|exact named_short h.1.1.2|exact named_short h.1.1.1.2|exact named_short h.2.1)
  rcases ite_or h with h|h
  ·(simp only[Bool.and_eq_true]at h;first|exact bare_nm h.1|exact bare_nm h.2|exact bare_nm h.1.1|exact bare_nm h.1.1.1|exact bare_nm h.1.2|exact bare_nm h.1.1.2|exact named_short h.2|exact named_short h.1.2|exact named_short h.1.1.2|exact named_short h.1.1.1.2|exact named_short h.2.1)
  rcases ite_or h with h|h
  ·(simp only[Bool.and_eq_true]at h;first|exact bare_nm h.1|exact bare_nm h.2|exact bare_nm h.1.1|exact bare_nm h.1.1.1|exact bare_nm h.1.2|exact bare_nm h.1.1.2|exact named_short h.2|exact named_short h.1.2|exact named_short h.1.1.2|exact named_short h.1.1.1.2|exact named_short h.2.1)
  rcases ite_or h with h|h
  ·(simp only[Bool.and_eq_true]at h;first|exact bare_nm h.1|exact bare_nm h.2|exact bare_nm h.1.1|exact bare_nm h.1.1.1|exact bare_nm h.1.2|exact bare_nm h.1.1.2|exact named_short h.2|exact named_short h.1.2|exact named_short h.1.1.2|exact named_short h.1.1.1.2|exact named_short h.2.1)
  rcases ite_or h with h|h
  ·(simp only[Bool.and_eq_true]at h;first|exact bare_nm h.1|exact bare_nm h.2|exact bare_nm h.1.1|exact bare_nm h.1.1.1|exact bare_nm h.1.2|exact bare_nm h.1.1.2|exact named_short h.2|exact named_short h.1.2|exact named_short h.1.1.2|exact named_short h.1.1.1.2|exact named_short h.2.1)
  rcases ite_or h with h|h
  ·(simp only[Bool.and_eq_true]at h;first|exact bare_nm h.1|exact bare_nm h.2|exact bare_nm h.1.1|exact bare_nm h.1.1.1|exact bare_nm h.1.2|exact bare_nm h.1.1.2|exact named_short h.2|exact named_short h.1.2|exact named_short h.1.1.2|exact named_short h.1.1.1.2|exact named_short h.2.1)
  rcases ite_or h with h|h
  ·(simp only[Bool.and_eq_true]at h;first|exact bare_nm h.1|exact bare_nm h.2|exact bare_nm h.1.1|exact bare_nm h.1.1.1|exact bare_nm h.1.2|exact bare_nm h.1.1.2|exact named_short h.2|exact named_short h.1.2|exact named_short h.1.1.2|exact named_short h.1.1.1.2|exact named_short h.2.1)
  rcases ite_or h with h|h
  ·(simp only[Bool.and_eq_true]at h;first|exact bare_nm h.1|exact bare_nm h.2|exact bare_nm h.1.1|exact bare_nm h.1.1.1|exact bare_nm h.1.2|exact bare_nm h.1.1.2|exact named_short h.2|exact named_short h.1.2|exact named_short h.1.1.2|exact named_short h.1.1.1.2|exact named_short h.2.1)
  rcases ite_or h with h|h
  ·(simp only[Bool.and_eq_true]at h;first|exact bare_nm h.1|exact bare_nm h.2|exact bare_nm h.1.1|exact bare_nm h.1.1.1|exact bare_nm h.1.2|exact bare_nm h.1.1.2|exact named_short h.2|exact named_short h.1.2|exact named_short h.1.1.2|exact named_short h.1.1.1.2|exact named_short h.2.1)
  rcases ite_or h with h|h
  ·(simp only[Bool.and_eq_true]at h;first|exact bare_nm h.1|exact bare_nm h.2|exact bare_nm h.1.1|exact bare_nm h.1.1.1|exact bare_nm h.1.2|exact bare_nm h.1.1.2|exact named_short h.2|exact named_short h.1.2|exact named_short h.1.1.2|exact named_short h.1.1.1.2|exact named_short h.2.1)
  cases h
 ·have h:=nb_ex h (by omega)
  unfold exprB at h
  rcases ite_or h with h|h
  ·(simp only[Bool.and_eq_true]at h;first|exact bare_nm h.1|exact bare_nm h.2|exact bare_nm h.1.1|exact bare_nm h.1.1.1|exact bare_nm h.1.2|exact bare_nm h.1.1.2|exact named_short h.2|exact named_short h.1.2|exact named_short h.1.1.2|exact named_short h.1.1.1.2|exact named_short h.2.1)
  rcases ite_or h with h|h
  ·(simp only[Bool.and_eq_true]at h;first|exact bare_nm h.1|exact bare_nm h.2|exact bare_nm h.1.1|exact bare_nm h.1.1.1|exact bare_nm h.1.2|exact bare_nm h.1.1.2|exact named_short h.2|exact named_short h.1.2|exact named_short h.1.1.2|exact named_short h.1.1.1.2|exact named_short h.2.1)
  rcases ite_or h with h|h
  ·(simp only[Bool.and_eq_true]at h;first|exact bare_nm h.1|exact bare_nm h.2|exact bare_nm h.1.1|exact bare_nm h.1.1.1|exact bare_nm h.1.2|exact bare_nm h.1.1.2|exact named_short h.2|exact named_short h.1.2|exact named_short h.1.1.2|exact named_short h.1.1.1.2|exact named_short h.2.1)
  rcases ite_or h with h|h
  ·(simp only[Bool.and_eq_true]at h;first|exact bare_nm h.1|exact bare_nm h.2|exact bare_nm h.1.1|exact bare_nm h.1.1.1|exact bare_nm h.1.2|exact bare_nm h.1.1.2|exact named_short h.2|exact named_short h.1.2|exact named_short h.1.1.2|exact named_short h.1.1.1.2|exact named_short h.2.1)
  rcases ite_or h with h|h
  ·(simp only[Bool.and_eq_true]at h;first|exact bare_nm h.1|exact bare_nm h.2|exact bare_nm h.1.1|exact bare_nm h.1.1.1|exact bare_nm h.1.2|exact bare_nm h.1.1.2|exact named_short h.2|exact named_short h.1.2|exact named_short h.1.1.2|exact named_short h.1.1.1.2|exact named_short h.2.1)
  rcases ite_or h with h|h
  ·(simp only[Bool.and_eq_true]at h;first|exact bare_nm h.1|exact bare_nm h.2|exact bare_nm h.1.1|exact bare_nm h.1.1.1|exact bare_nm h.1.2|exact bare_nm h.1.1.2|exact named_short h.2|exact named_short h.1.2|exact named_short h.1.1.2|exact named_short h.1.1.1.2|exact named_short h.2.1)
  rcases ite_or h with h|h
  ·(simp only[Bool.and_eq_true]at h;first|exact bare_nm h.1|exact bare_nm h.2|exact bare_nm h.1.1|exact bare_nm h.1.1.1|exact bare_nm h.1.2|exact bare_nm h.1.1.2|exact named_short h.2|exact named_short h.1.2|exact named_short h.1.1.2|exact named_short h.1.1.1.2|exact named_short h.2.1)
  rcases ite_or h with h|h
  ·(simp only[Bool.and_eq_true]at h;first|exact bare_nm h.1|exact bare_nm h.2|exact bare_nm h.1.1|exact bare_nm h.1.1.1|exact bare_nm h.1.2|exact bare_nm h.1.1.2|exact named_short h.2|exact named_short h.1.2|exact named_short h.1.1.2|exact named_short h.1.1.1.2|exact named_short h.2.1)
  rcases ite_or h with h|h
  ·(simp only[Bool.and_eq_true]at h;first|exact bare_nm h.1|exact bare_nm h.2|exact bare_nm h.1.1|exact bare_nm h.1.1.1|exact bare_nm h.1.2|exact bare_nm h.1.1.2|exact named_short h.2|exact named_short h.1.2|exact named_short h.1.1.2|exact named_short h.1.1.1.2|exact named_short h.2.1)
  rcases ite_or h with h|h
  ·(simp only[Bool.and_eq_true]at h;first|exact bare_nm h.1|exact bare_nm h.2|exact bare_nm h.1.1|exact bare_nm h.1.1.1|exact bare_nm h.1.2|exact bare_nm h.1.1.2|exact named_short h.2|exact named_short h.1.2|exact named_short h.1.1.2|exact named_short h.1.1.1.2|exact named_short h.2.1)
  rcases ite_or h with h|h
  ·(simp only[Bool.and_eq_true]at h;first|exact bare_nm h.1|exact bare_nm h.2|exact bare_nm h.1.1|exact bare_nm h.1.1.1|exact bare_nm h.1.2|exact bare_nm h.1.1.2|exact named_short h.2|exact named_short h.1.2|exact named_short h.1.1.2|exact named_short h.1.1.1.2|exact named_short h.2.1)
  rcases ite_or h with h|h
  ·(simp only[Bool.and_eq_true]at h;first|exact bare_nm h.1|exact bare_nm h.2|exact bare_nm h.1.1|exact bare_nm h.1.1.1|exact bare_nm h.1.2|exact bare_nm h.1.1.2|exact named_short h.2|exact named_short h.1.2|exact named_short h.1.1.2|exact named_short h.1.1.1.2|exact named_short h.2.1)
  rcases ite_or h with h|h
  ·(simp only[Bool.and_eq_true]at h;first|exact bare_nm h.1|exact bare_nm h.2|exact bare_nm h.1.1|exact bare_nm h.1.1.1|exact bare_nm h.1.2|exact bare_nm h.1.1.2|exact named_short h.2|exact named_short h.1.2|exact named_short h.1.1.2|exact named_short h.1.1.1.2|exact named_short h.2.1)
  rcases ite_or h with h|h
  ·(simp only[Bool.and_eq_true]at h;first|exact bare_nm h.1|exact bare_nm h.2|exact bare_nm h.1.1|exact bare_nm h.1.1.1|exact bare_nm h.1.2|exact bare_nm h.1.1.2|exact named_short h.2|exact named_short h.1.2|exact named_short h.1.1.2|exact named_short h.1.1.1.2|exact named_short h.2.1)
  rcases ite_or h with h|h
  ·(simp only[Bool.and_eq_true]at h;first|exact bare_nm h.1|exact bare_nm h.2|exact bare_nm h.1.1|exact bare_nm h.1.1.1|exact bare_nm h.1.2|exact bare_nm h.1.1.2|exact named_short h.2|exact named_short h.1.2|exact named_short h.1.1.2|exact named_short h.1.1.1.2|exact named_short h.2.1)
  rcases ite_or h with h|h
  ·(simp only[Bool.and_eq_true]at h;first|exact bare_nm h.1|exact bare_nm h.2|exact bare_nm h.1.1|exact bare_nm h.1.1.1|exact bare_nm h.1.2|exact bare_nm h.1.1.2|exact named_short h.2|exact named_short h.1.2|exact named_short h.1.1.2|exact named_short h.1.1.1.2|exact named_short h.2.1)
  rcases ite_or h with h|h
  ·(simp only[Bool.and_eq_true]at h;first|exact bare_nm h.1|exact bare_nm h.2|exact bare_nm h.1.1|exact bare_nm h.1.1.1|exact bare_nm h.1.2|exact bare_nm h.1.1.2|exact named_short h.2|exact named_short h.1.2|exact named_short h.1.1.2|exact named_short h.1.1.1.2|exact named_short h.2.1)
  rcases ite_or h with h|h
  ·(simp only[Bool.and_eq_true]at h;first|exact bare_nm h.1|exact bare_nm h.2|exact bare_nm h.1.1|exact bare_nm h.1.1.1|exact bare_nm h.1.2|exact bare_nm h.1.1.2|exact named_short h.2|exact named_short h.1.2|exact named_short h.1.1.2|exact named_short h.1.1.1.2|exact named_short h.2.1)
  rcases ite_or h with h|h
  ·(simp only[Bool.and_eq_true]at h;first|exact bare_nm h.1|exact bare_nm h.2|exact bare_nm h.1.1|exact bare_nm h.1.1.1|exact bare_nm h.1.2|exact bare_nm h.1.1.2|exact named_short h.2|exact named_short h.1.2|exact named_short h.1.1.2|exact named_short h.1.1.1.2|exact named_short h.2.1)
  rcases ite_or h with h|h
  ·(simp only[Bool.and_eq_true]at h;first|exact bare_nm h.1|exact bare_nm h.2|exact bare_nm h.1.1|exact bare_nm h.1.1.1|exact bare_nm h.1.2|exact bare_nm h.1.1.2|exact named_short h.2|exact named_short h.1.2|exact named_short h.1.1.2|exact named_short h.1.1.1.2|exact named_short h.2.1)
  rcases ite_or h with h|h
  ·(simp only[Bool.and_eq_true]at h;first|exact bare_nm h.1|exact bare_nm h.2|exact bare_nm h.1.1|exact bare_nm h.1.1.1|exact bare_nm h.1.2|exact bare_nm h.1.1.2|exact named_short h.2|exact named_short h.1.2|exact named_short h.1.1.2|exact named_short h.1.1.1.2|exact named_short h.2.1)
  cases h
theorem kid_get0 {N:Nd}{j:Nat}(h:j<N.ks.length):N.ks[j]=kidI N j:=by unfold kidI;rw[List.getD_eq_getElem?_getD,List.getElem?_eq_getElem h];rfl
theorem sK_one (ns:List Nd) {N:Nd}(h:N.ks.length=1):sK ns N.ks=sN ns (kidI N 0):=by
 unfold kidI
 match e:N.ks,h with
 |[a],_=>simp[sK]
theorem sK_two (ns:List Nd) {N:Nd}(h:N.ks.length=2):sK ns N.ks=sN ns (kidI N 0)+sN ns (kidI N 1):=by
 unfold kidI
 match e:N.ks,h with
 |[a,b],_=>simp[sK]
theorem sK_three (ns:List Nd) {N:Nd}(h:N.ks.length=3):sK ns N.ks=sN ns (kidI N 0)+sN ns (kidI N 1)+sN ns (kidI N 2):=by
 unfold kidI
 match e:N.ks,h with
 |[a,b,c],_=>simp[sK];omega
theorem sK_last (ns:List Nd) {N:Nd}(h:0<N.ks.length):sK ns N.ks=sK ns (N.ks.take (N.ks.length-1))+sN ns (kidI N (N.ks.length-1)):=by
 rw[sK_split ns N.ks (N.ks.length-1)]
 congr 1
 rw[List.drop_eq_getElem_cons (by omega),kid_get0,List.drop_of_length_le (by omega)]
 simp[sK]
theorem sK_head (ns:List Nd) {N:Nd}(h:0<N.ks.length):sK ns N.ks=sN ns (kidI N 0)+sK ns (N.ks.drop 1):=by
 rw[sK_split ns N.ks 1]
 congr 1
 unfold kidI
 match e:N.ks,h with
 |a::r,_=>simp[sK]
theorem intS_size (n:Int) (h1:n<=9223372036854775807):(intS n).size<=30:=by
 unfold intS
 split
 ·rw[hxO_size];omega
 ·rename_i h
  have:=Lib.itoa_length_le n (by omega) h1
  show(Lib.decDigits n.toNat).toArray.size<=30
  rw[List.size_toArray]
  unfold Lib.itoa at this
  simp only[h,if_false]at this
  omega
theorem plB_size (N:Nd) (hx:N.x.size<=4000) (hn:N.n<=9223372036854775807):(plB N).size<=20000:=by
 unfold plB
 repeat' split
 ·show 3<=_;omega
 ·show 4<=_;omega
 ·show 5<=_;omega
 ·have:=intS_size N.n hn;omega
 ·omega
 ·have:=quoB_size N.x;unfold quoB at this;omega
 ·show 3<=_;omega
 ·show 0<=_;omega
theorem hold_size (ns:List Nd) (E:Int->ByteArray) (k least:Int):(holdB ns E k least).size<=(E k).size+2:=by
 unfold holdB
 split
 ·rw[parB_size];omega
 ·omega
theorem bs_size (ns:List Nd) (E:Int->ByteArray) (k:Int):(bsB ns E k).size<=(E k).size+2:=by
 unfold bsB
 split
 ·omega
 ·rw[parB_size];omega
theorem un_size (ns:List Nd) (N:Nd):(unS ns N).size<=4:=by
 unfold unS
 repeat' split
 ·show 4<=4;omega
 ·show 1<=4;omega
 ·show 1<=4;omega
 ·show 2<=4;omega
 ·show 1<=4;omega
theorem bin_size {op:Int}(h:1<=op/\op<=18):(txtI (60+op)).size<=4:=by
 obtain⟨h1,h2⟩:=h
 rcases(show op=1\/op=2\/op=3\/op=4\/op=5\/op=6\/op=7\/op=8\/op=9\/op=10\/op=11\/op=12\/op=13\/op=14\/op=15\/op=16\/op=17\/op=18 by omega) with rfl|rfl|rfl|rfl|rfl|rfl|rfl|rfl|rfl|rfl|rfl|rfl|rfl|rfl|rfl|rfl|rfl|rfl
 all_goals decide+kernel
structure SzE (ns:List Nd) (E:Int->ByteArray) (S:Int->Nat->ByteArray) (i:Nat) (tab:Nat):Prop where
 e:∀z:Nat,z<i->(E z).size+10000<=2000000*sN ns z
 s:∀z:Nat,z<i->(S z (tab+1)).size+10000<=2000000*sN ns z
theorem SzE.kid {ns:List Nd}{E:Int->ByteArray}{S:Int->Nat->ByteArray}{i tab:Nat}(h:SzE ns E S i tab) (d:Szd ns) {q:Nat}(hq:q<=i) (hql:q<ns.length):∀z∈(nodeI ns q).ks,(E z).size+10000<=2000000*sN ns z/\(S z (tab+1)).size+10000<=2000000*sN ns z:=by
 intro z hz
 obtain⟨j,hj,rfl⟩:=kid_mem hz
 obtain⟨y,hy⟩:=kid_of (d.nb q hql) hql j hj
 rw[hy.id]
 have:=hy.lt
 exact⟨h.e y (by omega),h.s y (by omega)⟩
theorem SzE.blk {ns:List Nd}{E:Int->ByteArray}{S:Int->Nat->ByteArray}{i tab:Nat}(h:SzE ns E S i tab) (d:Szd ns) (ht:tab<=9000) {q:Nat}(hq:q<=i) (hql:q<ns.length):(blB S (nodeI ns q).ks tab).size+910000<=2000000*sN ns q:=by
 have:=blB_le ns S (nodeI ns q).ks tab ht (fun z hz=>(h.kid d hq hql z hz).2)
 rw[d.at_ q hql]
 omega
theorem prm_size {ns:List Nd}{N:Nd}(h:seB ns N=true) (hn:N.nm.length<=200):(prmB N).size<=810000:=by
 unfold prmB
 have:=nms_size N.nm (nm_short h)
 simp only[ByteArray.size_append]
 have h1:(if N.op=1 then(if N.nm=[] then(⟨#[46,46,46]⟩:ByteArray) else commaB++⟨#[46,46,46]⟩) else ByteArray.empty).size<=5:=by
  repeat' split
  ·show 3<=5;omega
  ·show 5<=5;omega
  ·show 0<=5;omega
 show 1+_+_+2<=_
 omega
theorem SzE.bod {ns:List Nd}{E:Int->ByteArray}{S:Int->Nat->ByteArray}{i tab:Nat}(h:SzE ns E S i tab) (d:Szd ns) (ht:tab<=9000) {q:Nat}(hq:q<=i) (hql:q<ns.length) (hk:(nodeI ns q).k=36):(bodB ns S (nodeI ns q) tab).size+20000<=2000000*sN ns q:=by
 obtain⟨h1,h2,h3,h4⟩:=nb_fn (nb_se (d.nb q hql)).1 hk
 obtain⟨y,hy⟩:=kid_of (d.nb q hql) hql 0 (by omega)
 have b:=h.blk d ht (Nat.le_trans (Nat.le_of_lt hy.lt) hq) hy.len
 unfold bodB
 rw[ByteArray.size_append,hy.id,d.at_ q hql,sK_one ns h1,hy.id]
 have:=prm_size (nb_se (d.nb q hql)).1 h3
 omega
theorem ent_size {ns:List Nd}{E:Int->ByteArray}{S:Int->Nat->ByteArray}{i tab:Nat}(h:SzE ns E S i tab) (d:Szd ns) {q:Nat}(hq:q<=i) (hql:q<ns.length) (hk:40<=(nodeI ns q).k/\(nodeI ns q).k<=42):(entB ns E (nodeI ns q)).size+10000<=2000000*sN ns q:=by
 have hs:=(nb_se (d.nb q hql)).1
 have hx:=txt_of (d.nb q hql)
 have kd:=fun j hj=>kid_of (d.nb q hql) hql j hj
 rw[d.at_ q hql]
 unfold entB
 by_cases e1:(nodeI ns q).k=41
 ·rw[if_pos e1]
  obtain⟨h1,_,_⟩:=nb_two hs (by omega)
  obtain⟨a,ha⟩:=kd 0 (by omega)
  obtain⟨b,hb⟩:=kd 1 (by omega)
  rw[sK_two ns h1,ha.id,hb.id]
  have:=h.e a (by have:=ha.lt;omega)
  have:=h.e b (by have:=hb.lt;omega)
  simp only[ByteArray.size_append]
  show 1+_+4+_+_<=_
  omega
 ·rw[if_neg e1]
  obtain⟨h1,_,_⟩:=nb_one hs (show _ by omega)
  obtain⟨a,ha⟩:=kd 0 (by omega)
  rw[sK_one ns h1,ha.id]
  have:=h.e a (by have:=ha.lt;omega)
  split
  ·simp only[ByteArray.size_append]
   show 1+_+3+_+_<=_
   omega
  ·omega
theorem prE_size {ns:List Nd}{E:Int->ByteArray}{S:Int->Nat->ByteArray}{i tab:Nat}(h:SzE ns E S i tab) (d:Szd ns) (ht:tab<=9000) (hi:i<ns.length) (hn:(nodeI ns i).n<=9223372036854775807):(prE ns E S (nodeI ns i) tab).size+10000<=2000000*sN ns i:=by
 have hs:=(nb_se (d.nb i hi)).1
 have hx:=txt_of (d.nb i hi)
 have kd:=fun j hj=>kid_of (d.nb i hi) hi j hj
 have inf:∀(sg:ByteArray) (p:Int),sg.size<=100->((nodeI ns i).k=28\/(nodeI ns i).k=29\/(nodeI ns i).k=31\/(nodeI ns i).k=32\/(nodeI ns i).k=41)->(infB ns E (nodeI ns i) sg p).size+10000<=2000000*sN ns i:=by
  intro sg p hsg hk
  obtain⟨h1,_,_⟩:=nb_two hs hk
  obtain⟨a,ha⟩:=kd 0 (by omega)
  obtain⟨b,hb⟩:=kd 1 (by omega)
  rw[d.at_ i hi,sK_two ns h1,ha.id,hb.id]
  unfold infB
  rw[ha.id,hb.id]
  have:=h.e a ha.lt
  have:=h.e b hb.lt
  have:=hold_size ns E a (leftK (nodeI ns i) p)
  have:=hold_size ns E b (rgtK (nodeI ns i).k (nodeI ns i).op)
  simp only[ByteArray.size_append]
  omega
 unfold prE
 by_cases e1:(nodeI ns i).k=28
 ·rw[if_pos e1];exact inf _ _ (by show 5<=100;omega) (by omega)
 rw[if_neg e1]
 by_cases e2:(nodeI ns i).k=29
 ·rw[if_pos e2];exact inf _ _ (by show 4<=100;omega) (by omega)
 rw[if_neg e2]
 by_cases e3:(nodeI ns i).k=31
 ·rw[if_pos e3]
  have:=bin_size ((nb_two hs (by omega)).2.2 e3)
  exact inf _ _ (by simp only[ByteArray.size_append];show 1+_+1<=_;omega) (by omega)
 rw[if_neg e3]
 by_cases e4:(nodeI ns i).k=30
 ·rw[if_pos e4]
  obtain⟨h1,_,_⟩:=nb_one hs (by omega)
  obtain⟨a,ha⟩:=kd 0 (by omega)
  rw[d.at_ i hi,sK_one ns h1,ha.id]
  unfold unB
  rw[ha.id]
  have:=h.e a ha.lt
  have:=hold_size ns E a 11
  have:=un_size ns (nodeI ns i)
  simp only[ByteArray.size_append]
  omega
 rw[if_neg e4]
 by_cases e5:(nodeI ns i).k=32
 ·rw[if_pos e5]
  obtain⟨h1,_,_⟩:=nb_two hs (by omega)
  obtain⟨a,ha⟩:=kd 0 (by omega)
  obtain⟨b,hb⟩:=kd 1 (by omega)
  rw[d.at_ i hi,sK_two ns h1,ha.id,hb.id]
  have:=h.e a ha.lt
  have:=h.e b hb.lt
  have:=bs_size ns E a
  simp only[ByteArray.size_append]
  show _+1+_+1+_<=_
  omega
 rw[if_neg e5]
 by_cases e6:(nodeI ns i).k=33
 ·rw[if_pos e6]
  obtain⟨h1,_,_⟩:=nb_one hs (by omega)
  obtain⟨a,ha⟩:=kd 0 (by omega)
  rw[d.at_ i hi,sK_one ns h1,ha.id]
  have:=h.e a ha.lt
  have:=bs_size ns E a
  simp only[ByteArray.size_append]
  show _+(1+_)+_<=_
  omega
 rw[if_neg e6]
 by_cases e7:(nodeI ns i).k=34
 ·rw[if_pos e7]
  obtain⟨h1,_⟩:=nb_call hs e7
  obtain⟨a,ha⟩:=kd 0 (by omega)
  rw[d.at_ i hi,sK_head ns (by omega),ha.id]
  have:=h.e a ha.lt
  have:=bs_size ns E a
  have:=sepE_le ns E ((nodeI ns i).ks.drop 1) (fun z hz=>(h.kid d (Nat.le_refl _) hi z (List.mem_of_mem_drop hz)).1)
  simp only[ByteArray.size_append]
  show _+1+_+1+_<=_
  omega
 rw[if_neg e7]
 by_cases e8:(nodeI ns i).k=35
 ·rw[if_pos e8]
  unfold tblB
  have h1:=nb_table hs e8
  have:=sepE_le ns (fun k=>entB ns E (nodeI ns k)) (nodeI ns i).ks (fun z hz=>by
   obtain⟨j,hj,rfl⟩:=kid_mem hz
   obtain⟨y,hy⟩:=kd j hj
   have h2:=en_at _ 0 h1 j (by omega) (by omega)
   rw[hy.id]at h2⊢
   exact ent_size h d (Nat.le_of_lt hy.lt) hy.len h2)
  rw[d.at_ i hi]
  simp only[ByteArray.size_append]
  show 1+_+1+_<=_
  omega
 rw[if_neg e8]
 by_cases e9:(nodeI ns i).k=36
 ·rw[if_pos e9]
  have:=h.bod d ht (Nat.le_refl _) hi e9
  simp only[ByteArray.size_append]
  show 2+_+_<=_
  omega
 rw[if_neg e9]
 by_cases e10:(nodeI ns i).k=37
 ·rw[if_pos e10]
  obtain⟨h1,_,_⟩:=nb_one hs (by omega)
  obtain⟨a,ha⟩:=kd 0 (by omega)
  rw[d.at_ i hi,sK_one ns h1,ha.id,parB_size]
  have:=h.e a ha.lt
  omega
 rw[if_neg e10]
 have:=plB_size (nodeI ns i) hx hn
 rw[d.at_ i hi]
 omega
theorem prBr_size {ns:List Nd}{E:Int->ByteArray}{S:Int->Nat->ByteArray}{Br:Int->ByteArray->ByteArray}{i tab:Nat}(h:SzE ns E S i tab) (d:Szd ns) (ht:tab<=9000) (hi:i<ns.length) (hk:(nodeI ns i).k=7)
  (hB:∀(z:Nat) (w:ByteArray),z<i->(nodeI ns z).k=7->w.size<=10->(Br z w).size+10000<=2000000*sN ns z) (word:ByteArray) (hw:word.size<=10):(prBr ns E S Br (nodeI ns i) word tab).size+10000<=2000000*sN ns i:=by
 have hs:=(nb_se (d.nb i hi)).1
 have kd:=fun j hj=>kid_of (d.nb i hi) hi j hj
 obtain⟨h1,h2,h3,h4,h5⟩:=nb_if hs hk
 obtain⟨a,ha⟩:=kd 0 (by omega)
 obtain⟨b,hb⟩:=kd 1 (by omega)
 have ea:=h.e a ha.lt
 have eb:=h.blk d ht (Nat.le_of_lt hb.lt) hb.len
 unfold prBr
 rw[ha.id,hb.id,d.at_ i hi]
 simp only[ByteArray.size_append]
 rcases Nat.lt_or_ge (nodeI ns i).ks.length 3 with g|g
 ·rw[if_pos g,sK_two ns (by omega),ha.id,hb.id]
  show _+_+1+_+0+_<=_
  omega
 ·rw[if_neg (by omega),sK_three ns (by omega),ha.id,hb.id]
  obtain⟨c,hc⟩:=kd 2 (by omega)
  rw[hc.id]at h5⊢
  by_cases e:(nodeI ns c).k=7
  ·rw[if_pos e]
   have:=hB c ⟨#[32,101,108,105,102,32]⟩ hc.lt e (by show 6<=10;omega)
   show _+_+1+_+_+_<=_
   omega
  ·rw[if_neg e]
   have:=h.blk d ht (Nat.le_of_lt hc.lt) hc.len
   rw[ByteArray.size_append]
   show _+_+1+_+(6+_)+_<=_
   omega
theorem nm0_size {ns:List Nd}{N:Nd}(h:seB ns N=true):(nm0 N).size<=4000:=by
 unfold nm0
 rw[List.getD_eq_getElem?_getD]
 cases e:N.nm[0]? with
 |none=>show 0<=4000;omega
 |some s=>exact nm_short h s (List.mem_of_getElem? e)
theorem prS_size {ns:List Nd}{E:Int->ByteArray}{S:Int->Nat->ByteArray}{Br:Int->ByteArray->ByteArray}{i tab:Nat}(h:SzE ns E S i tab) (d:Szd ns) (ht:tab<=9000) (hi:i<ns.length)
  (hB:(nodeI ns i).k=7->(Br (-1) ⟨#[105,102,32]⟩).size+10000<=2000000*sN ns i):(prS ns E S Br (nodeI ns i) tab).size+10000<=2000000*sN ns i:=by
 have hs:=(nb_se (d.nb i hi)).1
 have kd:=fun j hj=>kid_of (d.nb i hi) hi j hj
 have kE:=fun z hz=>(h.kid d (Nat.le_refl _) hi z hz).1
 have nm0:=nm0_size hs
 have nms:=nms_size (nodeI ns i).nm (nm_short hs)
 unfold prS
 by_cases e1:(nodeI ns i).k=1
 ·rw[if_pos e1];have:=h.blk d ht (Nat.le_refl _) hi;omega
 rw[if_neg e1]
 by_cases e2:(nodeI ns i).k=2
 ·rw[if_pos e2,d.at_ i hi]
  obtain⟨h1,h2⟩:=nb_let hs e2
  have:=sepE_le ns E (nodeI ns i).ks kE
  simp only[ByteArray.size_append]
  split
  ·show 4+_+0+_<=_;omega
  ·rw[ByteArray.size_append];show 4+_+(3+_)+_<=_;omega
 rw[if_neg e2]
 by_cases e3:(nodeI ns i).k=3
 ·rw[if_pos e3,d.at_ i hi]
  obtain⟨h1,h2,h3⟩:=nb_const hs e3
  obtain⟨a,ha⟩:=kd 0 (by omega)
  rw[sK_one ns h1,ha.id]
  have:=h.e a ha.lt
  simp only[ByteArray.size_append]
  show 6+_+3+_+_<=_;omega
 rw[if_neg e3]
 by_cases e4:(nodeI ns i).k=4
 ·rw[if_pos e4,d.at_ i hi]
  obtain⟨h1,h2,h3⟩:=nb_fns hs e4
  obtain⟨a,ha⟩:=kd 0 (by omega)
  rw[sK_one ns h1]
  rw[ha.id]at h2⊢
  have:=h.bod d ht (Nat.le_of_lt ha.lt) ha.len h2
  simp only[ByteArray.size_append]
  show 3+_+_+_<=_;omega
 rw[if_neg e4]
 by_cases e5:(nodeI ns i).k=5
 ·rw[if_pos e5,d.at_ i hi,sK_split ns (nodeI ns i).ks (nodeI ns i).n.toNat]
  have:=sepE_le ns E ((nodeI ns i).ks.take (nodeI ns i).n.toNat) (fun z hz=>kE z (List.mem_of_mem_take hz))
  have:=sepE_le ns E ((nodeI ns i).ks.drop (nodeI ns i).n.toNat) (fun z hz=>kE z (List.mem_of_mem_drop hz))
  simp only[ByteArray.size_append]
  show _+3+_+_<=_;omega
 rw[if_neg e5]
 by_cases e6:(nodeI ns i).k=6
 ·rw[if_pos e6,d.at_ i hi]
  obtain⟨h1,h2⟩:=nb_do hs (by omega)
  obtain⟨a,ha⟩:=kd 0 (by omega)
  rw[sK_one ns h1,ha.id]
  have:=h.e a ha.lt
  omega
 rw[if_neg e6]
 by_cases e7:(nodeI ns i).k=7
 ·rw[if_pos e7];exact hB e7
 rw[if_neg e7]
 by_cases e8:(nodeI ns i).k=8
 ·rw[if_pos e8,d.at_ i hi]
  obtain⟨h1,h2,h3⟩:=nb_while hs e8
  obtain⟨a,ha⟩:=kd 0 (by omega)
  obtain⟨b,hb⟩:=kd 1 (by omega)
  rw[sK_two ns h1,ha.id,hb.id]
  have:=h.e a ha.lt
  have:=h.blk d ht (Nat.le_of_lt hb.lt) hb.len
  simp only[ByteArray.size_append]
  show 6+_+1+_+_<=_;omega
 rw[if_neg e8]
 by_cases e9:(nodeI ns i).k=9\/(nodeI ns i).k=10
 ·rw[if_pos e9,d.at_ i hi]
  have hl:0<(nodeI ns i).ks.length/\(nodeI ns i).nm.length<=200:=by
   rcases e9 with e|e
   ·obtain⟨h1,h2,h3,h4⟩:=nb_for hs e;omega
   ·obtain⟨h1,h2,h3,h4⟩:=nb_each hs e;omega
  obtain⟨b,hb⟩:=kd ((nodeI ns i).ks.length-1) (by omega)
  rw[sK_last ns hl.1,hb.id]
  have:=sepE_le ns E ((nodeI ns i).ks.take ((nodeI ns i).ks.length-1)) (fun z hz=>kE z (List.mem_of_mem_take hz))
  have:=h.blk d ht (Nat.le_of_lt hb.lt) hb.len
  have hq:(if(nodeI ns i).k=9 then(⟨#[32,61,32]⟩:ByteArray) else⟨#[32,105,110,32]⟩).size<=4:=by
   split
   ·show 3<=4;omega
   ·show 4<=4;omega
  simp only[ByteArray.size_append]
  show 4+_+_+_+1+_+_<=_;omega
 rw[if_neg e9]
 by_cases e11:(nodeI ns i).k=11
 ·rw[if_pos e11,d.at_ i hi];show 5+_<=_;omega
 rw[if_neg e11]
 by_cases e12:(nodeI ns i).k=12
 ·rw[if_pos e12,d.at_ i hi];show 4+_<=_;omega
 rw[if_neg e12]
 by_cases e13:(nodeI ns i).k=13
 ·rw[if_pos e13,d.at_ i hi]
  have:=sepE_le ns E (nodeI ns i).ks kE
  simp only[ByteArray.size_append]
  split
  ·show 6+0+_<=_;omega
  ·rw[ByteArray.size_append];show 6+(1+_)+_<=_;omega
 rw[if_neg e13]
 by_cases e14:(nodeI ns i).k=14
 ·rw[if_pos e14,d.at_ i hi]
  obtain⟨h1,h2,h3,h4⟩:=nb_try hs e14
  obtain⟨a,ha⟩:=kd 0 (by omega)
  obtain⟨b,hb⟩:=kd 1 (by omega)
  rw[sK_two ns h1,ha.id,hb.id]
  have:=h.blk d ht (Nat.le_of_lt ha.lt) ha.len
  have:=h.blk d ht (Nat.le_of_lt hb.lt) hb.len
  simp only[ByteArray.size_append]
  show 4+_+7+_+1+_+_<=_;omega
 rw[if_neg e14]
 by_cases e15:(nodeI ns i).k=15
 ·rw[if_pos e15,d.at_ i hi]
  obtain⟨h1,h2⟩:=nb_throw hs e15
  obtain⟨a,ha⟩:=kd 0 (by omega)
  rw[sK_one ns h1,ha.id]
  have:=h.e a ha.lt
  simp only[ByteArray.size_append]
  show 6+_+_<=_;omega
 rw[if_neg e15]
 by_cases e16:(nodeI ns i).k=16
 ·rw[if_pos e16,d.at_ i hi]
  obtain⟨h1,h2⟩:=nb_do hs (by omega)
  obtain⟨a,ha⟩:=kd 0 (by omega)
  rw[sK_one ns h1,ha.id]
  have:=h.e a ha.lt
  simp only[ByteArray.size_append]
  show 6+_+_<=_;omega
 rw[if_neg e16,d.at_ i hi]
 show 0+_<=_;omega
theorem tx_size {ns:List Nd}(d:Szd ns) (hn:∀i:Int,(nodeI ns i).n<=9223372036854775807):∀(f i tab:Nat),i<ns.length->tab+f<=8000->
  (txE ns f i tab).size+10000<=2000000*sN ns i/\(txS ns f i tab).size+10000<=2000000*sN ns i/\((nodeI ns i).k=7->∀w:ByteArray,w.size<=10->(txBr ns f i w tab).size+10000<=2000000*sN ns i)
 |0,i,tab,hi,ht=>by
  have:=d.at_ i hi
  refine⟨?_,?_,fun _ w _=>?_⟩
  all_goals (first|(rw[txE];show 0+_<=_;omega)|(rw[txS];show 0+_<=_;omega)|(rw[txBr];show 0+_<=_;omega))
 |f+1,i,tab,hi,ht=>by
  have ih:=fun (z t:Nat) (hz:z<i) (h:t+f<=8000)=>tx_size d hn f z t (by omega) h
  have sz:SzE ns (fun k=>txE ns f k tab) (fun k t=>txS ns f k t) i tab:=⟨fun z hz=>(ih z tab hz (by omega)).1,fun z hz=>(ih z (tab+1) hz (by omega)).2.1⟩
  have br:(nodeI ns i).k=7->∀w:ByteArray,w.size<=10->(prBr ns (fun k=>txE ns f k tab) (fun k t=>txS ns f k t) (fun k w=>txBr ns f k w tab) (nodeI ns i) w tab).size+10000<=2000000*sN ns i:=fun hk w hw=>
   prBr_size sz d (by omega) hi hk (fun z w hz hk hw=>(ih z tab hz (by omega)).2.2 hk w hw) w hw
  refine⟨?_,?_,?_⟩
  ·rw[txE];exact prE_size sz d (by omega) hi (hn _)
  ·rw[txS];exact prS_size sz d (by omega) hi (fun hk=>br hk _ (by show 3<=10;omega))
  ·intro hk w hw;rw[txBr];exact br hk w hw
theorem print_size {ns:List Nd}(d:Szd ns) (hn:∀i:Int,(nodeI ns i).n<=9223372036854775807) (hl:ns.length<=3000) (h0:0<ns.length):(printT ns).size<=6000000000:=by
 unfold printT
 rw[catB_size,List.map_map]
 have e:((ns.length:Int)-1)=((ns.length-1:Nat):Int):=by omega
 rw[e]
 have hk:∀z∈(nodeI ns ((ns.length-1:Nat):Int)).ks,(txS ns ns.length z 0).size+10000<=2000000*sN ns z:=by
  intro z hz
  obtain⟨j,hj,rfl⟩:=kid_mem hz
  obtain⟨y,hy⟩:=kid_of (d.nb _ (by omega)) (by omega) j hj
  rw[hy.id]
  exact(tx_size d hn ns.length y 0 hy.len (by omega)).2.1
 have h2:=sum_le ns (fun z=>(txS ns ns.length z 0).size) 1 _ hk (by omega)
 have h3:=d.at_ (ns.length-1) (by omega)
 have h4:=d.le ((ns.length-1:Nat):Int)
 have e2:((nodeI ns ((ns.length-1:Nat):Int)).ks.map (ByteArray.size ∘ fun k=>txS ns ns.length k 0++⟨#[10]⟩))=(nodeI ns ((ns.length-1:Nat):Int)).ks.map fun z=>(txS ns ns.length z 0).size+1:=by
  apply List.map_congr_left
  intro z hz
  simp only[Function.comp]
  rw[ByteArray.size_append];rfl
 rw[e2]
 omega
end Go.Proofs.YtelfejiiabbpfaaGreatDoor
