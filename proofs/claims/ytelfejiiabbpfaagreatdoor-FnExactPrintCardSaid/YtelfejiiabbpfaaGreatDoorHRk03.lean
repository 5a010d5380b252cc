import Derived.Test.YtelfejiiabbpfaaGreatDoorHRk02
import Derived.BigQuiet
import Derived.Test.YtelfejiiabbpfaaGreatDoorHRk01
set_option linter.unusedVariables false
set_option maxRecDepth 100000
set_option maxHeartbeats 3200000
namespace Go.Proofs.YtelfejiiabbpfaaGreatDoor
open Go.RowKit
theorem bel_drew {B:Nat}{a w:World}(h:Below B a w) (n:Nat):Below B a (w.drewN n):=⟨h.os,h.tape,h.output,h.size,h.block⟩
theorem bel_drew1 {B:Nat}{a w:World}(h:Below B a w):Below B a w.drew:=⟨h.os,h.tape,h.output,h.size,h.block⟩
theorem eqStringS_any (w:World) (v1 v2:Value) (l:List ByteArray) (h1:StrsAt w v1 l) (h2:StrsAt w v2 l) (hl:l.length<=1048576):
  Calls Tryz.prog 105 #[v1,v2] w fun e w'=>e= .returned (.bool true)/\Below w.heap.size w w':=by
 obtain⟨a1,c1,rfl⟩:=h1.form
 obtain⟨a2,c2,rfl⟩:=h2.form
 obtain⟨n,hn⟩:∃n,l.length=n:=⟨_,rfl⟩
 have HN:Hid (l.length=n):=hn
 have HA:Hid (StrsAt w (.slice a1 n c1) l/\StrsAt w (.slice a2 n c2) l):=by rw[<-hn];exact⟨h1,h2⟩
 rw[hn]at hl⊢
 clear h1 h2 hn
 go_enter Tryz.func105,Tryz.ntmps105
 go_wp2_with fail
 go_loopw [5] (fun vi wr=>∃k:Nat,k<=n/\vi= .int .i64 k/\Below w.heap.size w wr) (fun vi _=>n-(intOf vi).toNat)
 case atStart=>exact⟨0,by omega,rfl,Below.refl _ _⟩
 case round=>
  obtain⟨k,hk,rfl,hb⟩:=hrel
  by_cases hlt:k<n
  ·obtain⟨s,hsk⟩:=some_at HN.out hlt
   obtain⟨b1,rfl,d1⟩:=(HA.out.1.below hb).get hsk
   obtain⟨b2,rfl,d2⟩:=(HA.out.2.below hb).get hsk
   have hki:(k:Int)<(n:Int):=by omega
   have hk0:(0:Int)<=(k:Int):=by omega
   clear hsk
   go_wp2_with fail
   go_quiet (fail)
   go_wp2_with fail
   exact⟨⟨k+1,by omega,by go_num,bel_drew hb _⟩,by simp[intOf];omega⟩
  ·obtain rfl:k=n:=by omega
   go_wp2_with fail
   go_ret
   exact⟨rfl,hb⟩
theorem eqIntS_any (w:World) (v1 v2:Value) (l:List Int) (h1:IntsAt w v1 l) (h2:IntsAt w v2 l) (hl:l.length<=1048576):
  Calls Tryz.prog 106 #[v1,v2] w fun e w'=>e= .returned (.bool true)/\Below w.heap.size w w':=by
 obtain⟨a1,c1,rfl⟩:=h1.form
 obtain⟨a2,c2,rfl⟩:=h2.form
 obtain⟨n,hn⟩:∃n,l.length=n:=⟨_,rfl⟩
 have HN:Hid (l.length=n):=hn
 have HA:Hid (IntsAt w (.slice a1 n c1) l/\IntsAt w (.slice a2 n c2) l):=by rw[<-hn];exact⟨h1,h2⟩
 rw[hn]at hl⊢
 clear h1 h2 hn
 go_enter Tryz.func106,Tryz.ntmps106
 go_wp2_with fail
 go_loopw [5] (fun vi wr=>∃k:Nat,k<=n/\vi= .int .i64 k/\Below w.heap.size w wr) (fun vi _=>n-(intOf vi).toNat)
 case atStart=>exact⟨0,by omega,rfl,Below.refl _ _⟩
 case round=>
  obtain⟨k,hk,rfl,hb⟩:=hrel
  by_cases hlt:k<n
  ·obtain⟨s,hsk⟩:=some_at HN.out hlt
   obtain⟨b1,rfl,d1⟩:=(HA.out.1.below hb).get hsk
   obtain⟨b2,rfl,d2⟩:=(HA.out.2.below hb).get hsk
   have hki:(k:Int)<(n:Int):=by omega
   have hk0:(0:Int)<=(k:Int):=by omega
   clear hsk
   go_wp2_with fail
   go_quiet (fail)
   go_wp2_with fail
   exact⟨⟨k+1,by omega,by go_num,bel_drew hb _⟩,by simp[intOf];omega⟩
  ·obtain rfl:k=n:=by omega
   go_wp2_with fail
   go_ret
   exact⟨rfl,hb⟩
theorem eqNode_any (w:World) (N:Nd) (vn1 vk1 vn2 vk2:Value) (n1:StrsAt w vn1 N.nm) (k1:IntsAt w vk1 N.ks) (n2:StrsAt w vn2 N.nm) (k2:IntsAt w vk2 N.ks) (hl1:N.nm.length<=1048576) (hl2:N.ks.length<=1048576):
  Calls Tryz.prog 68 #[vNd N vn1 vk1,vNd N vn2 vk2] w fun e w'=>e= .returned (.bool true)/\Below w.heap.size w w':=by
 have hb0:∀o1 o2,Below w.heap.size w ((w.alloc o1).alloc o2):=fun o1 o2=>((Below.refl _ w).alloc (Nat.le_refl _) o1).alloc (by simp) o2
 have ks:=fun o1 o2=>eqStringS_any ((w.alloc o1).alloc o2) vn1 vn2 N.nm (n1.below (hb0 o1 o2)) (n2.below (hb0 o1 o2)) hl1
 have ki:=fun W (hb:Below w.heap.size w W)=>eqIntS_any W vk1 vk2 N.ks (k1.below hb) (k2.below hb) hl2
 obtain⟨a1,c1,rfl⟩:=n1.form
 obtain⟨a2,c2,rfl⟩:=n2.form
 obtain⟨a3,c3,rfl⟩:=k1.form
 obtain⟨a4,c4,rfl⟩:=k2.form
 unfold vNd
 generalize N.nm.length=L1 at ks⊢
 generalize N.ks.length=L2 at ki⊢
 clear n1 k1 n2 k2 hl1 hl2
 obtain⟨nk,nf,nt,nl,nop,nn,nx,nnm,nks⟩:=N
 simp only
 go_enter Tryz.func68,Tryz.ntmps68
 go_wp2_with (go_at_call 105;fail)
 have e1:((w.alloc (.cells #[.int .i64 nk,.int .i64 nf,.int .i64 nt,.int .i64 nl,.int .i64 nop,.int .i64 nn,.string nx,.slice a1 L1 c1,.slice a3 L2 c3] 44)).alloc (.cells #[.int .i64 nk,.int .i64 nf,.int .i64 nt,.int .i64 nl,.int .i64 nop,.int .i64 nn,.string nx,.slice a2 L1 c2,.slice a4 L2 c4] 44)).cell? ⟨w.heap.size,8,none⟩=some (.slice a3 L2 c3):=by
  rw[cell_of_row _ _ _ _ _ _ ((Below.heap_alloc _ _ _ (by simp)).trans (heap_alloc_new w _))];rfl
 have e2:((w.alloc (.cells #[.int .i64 nk,.int .i64 nf,.int .i64 nt,.int .i64 nl,.int .i64 nop,.int .i64 nn,.string nx,.slice a1 L1 c1,.slice a3 L2 c3] 44)).alloc (.cells #[.int .i64 nk,.int .i64 nf,.int .i64 nt,.int .i64 nl,.int .i64 nop,.int .i64 nn,.string nx,.slice a2 L1 c2,.slice a4 L2 c4] 44)).cell? ⟨w.heap.size+1,8,none⟩=some (.slice a4 L2 c4):=by
  have:=heap_alloc_new (w.alloc (.cells #[.int .i64 nk,.int .i64 nf,.int .i64 nt,.int .i64 nl,.int .i64 nop,.int .i64 nn,.string nx,.slice a1 L1 c1,.slice a3 L2 c3] 44)) (.cells #[.int .i64 nk,.int .i64 nf,.int .i64 nt,.int .i64 nl,.int .i64 nop,.int .i64 nn,.string nx,.slice a2 L1 c2,.slice a4 L2 c4] 44)
  rw[World.size_alloc]at this
  rw[cell_of_row _ _ _ _ _ _ this];rfl
 have hbB:=hb0 (.cells #[.int .i64 nk,.int .i64 nf,.int .i64 nt,.int .i64 nl,.int .i64 nop,.int .i64 nn,.string nx,.slice a1 L1 c1,.slice a3 L2 c3] 44) (.cells #[.int .i64 nk,.int .i64 nf,.int .i64 nt,.int .i64 nl,.int .i64 nop,.int .i64 nn,.string nx,.slice a2 L1 c2,.slice a4 L2 c4] 44)
 have k9:=ks (.cells #[.int .i64 nk,.int .i64 nf,.int .i64 nt,.int .i64 nl,.int .i64 nop,.int .i64 nn,.string nx,.slice a1 L1 c1,.slice a3 L2 c3] 44) (.cells #[.int .i64 nk,.int .i64 nf,.int .i64 nt,.int .i64 nl,.int .i64 nop,.int .i64 nn,.string nx,.slice a2 L1 c2,.slice a4 L2 c4] 44)
 generalize (w.alloc (.cells #[.int .i64 nk,.int .i64 nf,.int .i64 nt,.int .i64 nl,.int .i64 nop,.int .i64 nn,.string nx,.slice a1 L1 c1,.slice a3 L2 c3] 44)).alloc (.cells #[.int .i64 nk,.int .i64 nf,.int .i64 nt,.int .i64 nl,.int .i64 nop,.int .i64 nn,.string nx,.slice a2 L1 c2,.slice a4 L2 c4] 44)=W2 at e1 e2 hbB k9⊢
 refine k9.mono ?_
 rintro e w1 ⟨rfl,hb1⟩
 have f1:=cell_kept hb1 e1
 have f2:=cell_kept hb1 e2
 have hb2:=hbB.trans (hb1.mono hbB.size)
 have kz:=ki w1 hb2
 clear e1 e2 k9 ks ki hb1 hbB hb0
 go_wp2_with (go_at_call 106;refine kz.mono ?_;rintro e w3 ⟨rfl,hb3⟩)
 go_ret
 exact⟨rfl,hb2.trans (hb3.mono hb2.size)⟩
theorem eqNodeS_any (w:World) (v1 v2:Value) (l:List Nd) (h1:NdsAt w v1 l) (h2:NdsAt w v2 l) (hl:l.length<=1048576) (hN:∀N∈l,N.nm.length<=1048576/\N.ks.length<=1048576):
  Calls Tryz.prog 17 #[v1,v2] w fun e w'=>e= .returned (.bool true)/\Below w.heap.size w w':=by
 obtain⟨a1,c1,rfl⟩:=h1.form
 obtain⟨a2,c2,rfl⟩:=h2.form
 obtain⟨n,hn⟩:∃n,l.length=n:=⟨_,rfl⟩
 have HN:Hid (l.length=n):=hn
 have HA:Hid (NdsAt w (.slice a1 n c1) l/\NdsAt w (.slice a2 n c2) l):=by rw[<-hn];exact⟨h1,h2⟩
 have HS:Hid (∀N∈l,N.nm.length<=1048576/\N.ks.length<=1048576):=hN
 rw[hn]at hl⊢
 clear h1 h2 hn hN
 go_enter Tryz.func17,Tryz.ntmps17
 go_wp2_with fail
 go_loopw [5] (fun vi wr=>∃k:Nat,k<=n/\vi= .int .i64 k/\Below w.heap.size w wr) (fun vi _=>n-(intOf vi).toNat)
 case atStart=>exact⟨0,by omega,rfl,Below.refl _ _⟩
 case round=>
  obtain⟨k,hk,rfl,hb⟩:=hrel
  by_cases hlt:k<n
  ·obtain⟨N,hsk⟩:=some_at HN.out hlt
   obtain⟨hs1,hs2⟩:=HS.out N (List.mem_of_getElem? hsk)
   obtain⟨b1,rfl,vn1,vk1,g1⟩:=(HA.out.1.below hb).get hsk
   obtain⟨b2,rfl,vn2,vk2,g2⟩:=(HA.out.2.below hb).get hsk
   have hki:(k:Int)<(n:Int):=by omega
   have hk0:(0:Int)<=(k:Int):=by omega
   obtain⟨p0,p1,p2,p3,p4,p5,p6,p7,p8,n1,k1⟩:=g1
   obtain⟨q0,q1,q2,q3,q4,q5,q6,q7,q8,n2,k2⟩:=g2
   have ke:=eqNode_any wr.drew N vn1 vk1 vn2 vk2 n1 k1 n2 k2 hs1 hs2
   obtain⟨x1,y1,rfl⟩:=n1.form
   obtain⟨x2,y2,rfl⟩:=n2.form
   obtain⟨x3,y3,rfl⟩:=k1.form
   obtain⟨x4,y4,rfl⟩:=k2.form
   unfold vNd at ke
   clear hsk n1 k1 n2 k2 hs1 hs2
   generalize N.nm.length=L1 at p7 q7 ke
   generalize N.ks.length=L2 at p8 q8 ke
   obtain⟨nk,nf,nt,nl,nop,nn,nx,nnm,nks⟩:=N
   simp only at p0 p1 p2 p3 p4 p5 p6 q0 q1 q2 q3 q4 q5 q6 ke
   go_wp2_with fail
   go_region_held3 (fun w'=>w'.cell? (b1.add (k*9))=some (.int .i64 nk)/\w'.cell? ⟨(b1.add (k*9)).block,(b1.add (k*9)).off+1,none⟩=some (.int .i64 nf)/\w'.cell? ⟨(b1.add (k*9)).block,(b1.add (k*9)).off+2,none⟩=some (.int .i64 nt)/\w'.cell? ⟨(b1.add (k*9)).block,(b1.add (k*9)).off+3,none⟩=some (.int .i64 nl)/\w'.cell? ⟨(b1.add (k*9)).block,(b1.add (k*9)).off+4,none⟩=some (.int .i64 nop)/\w'.cell? ⟨(b1.add (k*9)).block,(b1.add (k*9)).off+5,none⟩=some (.int .i64 nn)/\w'.cell? ⟨(b1.add (k*9)).block,(b1.add (k*9)).off+6,none⟩=some (.string nx)/\w'.cell? ⟨(b1.add (k*9)).block,(b1.add (k*9)).off+7,none⟩=some (.slice x1 L1 y1)/\w'.cell? ⟨(b1.add (k*9)).block,(b1.add (k*9)).off+8,none⟩=some (.slice x3 L2 y3)/\w'.cell? (b2.add (k*9))=some (.int .i64 nk)/\w'.cell? ⟨(b2.add (k*9)).block,(b2.add (k*9)).off+1,none⟩=some (.int .i64 nf)/\w'.cell? ⟨(b2.add (k*9)).block,(b2.add (k*9)).off+2,none⟩=some (.int .i64 nt)/\w'.cell? ⟨(b2.add (k*9)).block,(b2.add (k*9)).off+3,none⟩=some (.int .i64 nl)/\w'.cell? ⟨(b2.add (k*9)).block,(b2.add (k*9)).off+4,none⟩=some (.int .i64 nop)/\w'.cell? ⟨(b2.add (k*9)).block,(b2.add (k*9)).off+5,none⟩=some (.int .i64 nn)/\w'.cell? ⟨(b2.add (k*9)).block,(b2.add (k*9)).off+6,none⟩=some (.string nx)/\w'.cell? ⟨(b2.add (k*9)).block,(b2.add (k*9)).off+7,none⟩=some (.slice x2 L1 y2)/\w'.cell? ⟨(b2.add (k*9)).block,(b2.add (k*9)).off+8,none⟩=some (.slice x4 L2 y4)) (first|go_keep|exact⟨cell_kept hb4 p0,cell_kept hb4 p1,cell_kept hb4 p2,cell_kept hb4 p3,cell_kept hb4 p4,cell_kept hb4 p5,cell_kept hb4 p6,cell_kept hb4 p7,cell_kept hb4 p8,cell_kept hb4 q0,cell_kept hb4 q1,cell_kept hb4 q2,cell_kept hb4 q3,cell_kept hb4 q4,cell_kept hb4 q5,cell_kept hb4 q6,cell_kept hb4 q7,cell_kept hb4 q8⟩) ((go_at_call 68;refine ke.mono ?_;rintro e w4 ⟨rfl,hb4⟩))
   go_wp2_with fail
   exact⟨⟨k+1,by omega,by go_num,(bel_drew1 hb).trans (hb4.mono hb.size)⟩,by simp[intOf];omega⟩
  ·obtain rfl:k=n:=by omega
   go_wp2_with fail
   go_ret
   exact⟨rfl,hb⟩
theorem eqTree_any (w:World) (v1 v2:Value) (l:List Nd) (h1:NdsAt w v1 l) (h2:NdsAt w v2 l) (hl:l.length<=1048576) (hN:∀N∈l,N.nm.length<=1048576/\N.ks.length<=1048576):
  Calls Tryz.prog 8 #[.agg #[v1],.agg #[v2]] w fun e w'=>e= .returned (.bool true)/\Below w.heap.size w w':=by
 have hb0:∀o1 o2,Below w.heap.size w ((w.alloc o1).alloc o2):=fun o1 o2=>((Below.refl _ w).alloc (Nat.le_refl _) o1).alloc (by simp) o2
 have ks:=fun o1 o2=>eqNodeS_any ((w.alloc o1).alloc o2) v1 v2 l (h1.below (hb0 o1 o2)) (h2.below (hb0 o1 o2)) hl hN
 obtain⟨a1,c1,rfl⟩:=h1.form
 obtain⟨a2,c2,rfl⟩:=h2.form
 generalize l.length=n at ks
 clear h1 h2 hl hN
 go_enter Tryz.func8,Tryz.ntmps8
 go_wp2_with (go_at_call 17;refine(ks _ _).mono ?_;rintro e w3 ⟨rfl,hb3⟩)
 go_ret
 exact⟨rfl,(hb0 _ _).trans (hb3.mono (by simp;omega))⟩
def mkT:Nat->Nat->ByteArray->ByteArray
 |0,_,o=>o
 |f+1,c,o=>if c=0 then o else mkT f (c / 10) (strI [48+((c%10:Nat):Int)]++o)
def mtI (k:Nat):ByteArray:=⟨#[109]⟩++mkT k k ⟨#[]⟩
theorem own_form {W:World}{base e size n:Nat}{v:Value}{xs:List Value}(h:W.ownsRow base e size v n xs):∃a cap,v= .slice a n cap:=by
 rcases h.2 with⟨rfl,hn⟩|⟨g,cap,cur,rfl,_⟩
 ·exact⟨none,0,by rw[hn]⟩
 ·exact⟨_,_,rfl⟩
def mks (K n:Nat):List ByteArray:=(List.range n).map fun j=>mtI (K+j)
theorem own_zero_or {W:World}{base e size n:Nat}{v:Value}{xs:List Value}(h:W.ownsRow base e size v n xs):(n=0/\v= .slice none 0 0)\/∃g cap,v= .slice (some ⟨g,0,none⟩) n cap:=by
 rcases h.2 with⟨rfl,hn⟩|⟨g,cap,cur,rfl,_⟩
 ·exact .inl ⟨hn,rfl⟩
 ·exact .inr ⟨_,_,rfl⟩
def emptyB (x:ByteArray):Bool:=decide (x.toList=[])
def bareB (N:Nd) (op num text names:Bool):Bool:=(op||N.op==0)&&(num||N.n==0)&&(text||emptyB N.x)&&(names||decide (N.nm.length=0))
theorem l2bare_ffff (w:World) (N:Nd) (vn vk:Value) (hn:StrsAt w vn N.nm) (hk:IntsAt w vk N.ks) (hl:N.nm.length<=1048576):
  Calls Tryz.prog 108 #[vNd N vn vk,.bool false,.bool false,.bool false,.bool false] w fun e w'=>e= .returned (.bool (bareB N false false false false))/\Below w.heap.size w w':=by
 have hb0:∀o,Below w.heap.size w (w.alloc o):=fun o=>(Below.refl _ w).alloc (Nat.le_refl _) o
 obtain⟨a2,c2,rfl⟩:=hn.form
 obtain⟨a3,c3,rfl⟩:=hk.form
 clear hn hk
 obtain⟨R,hR⟩:∃R,bareB N false false false false=R:=⟨_,rfl⟩
 rw[hR]
 unfold vNd
 generalize N.ks.length=L2
 obtain⟨nk,nf,nt,nl,nop,nn,nx,nnm,nks⟩:=N
 simp only at hl⊢
 unfold bareB emptyB at hR
 simp only at hR
 obtain⟨L1,hL1⟩:∃L1,nnm.length=L1:=⟨_,rfl⟩
 rw[hL1]at hl hR⊢
 clear hL1
 cases t1:(nop==0) with
 |false=>
  rw[t1]at hR
  have HR:Hid (false=R):=by first|exact hR|simpa using hR
  clear hR
  go_enter Tryz.func108,Tryz.ntmps108
  go_wp2
  go_ret
  exact⟨by rw[<-HR.out];rfl,hb0 _⟩
 |true=>
  rw[t1]at hR
  cases t2:(nn==0) with
  |false=>
   rw[t2]at hR
   have HR:Hid (false=R):=by first|exact hR|simpa using hR
   clear hR
   go_enter Tryz.func108,Tryz.ntmps108
   go_wp2
   go_ret
   exact⟨by rw[<-HR.out];rfl,hb0 _⟩
  |true=>
   rw[t2]at hR
   by_cases t3:nx.toList=[]
   case neg=>
    rw[decide_eq_false t3]at hR
    have HR:Hid (false=R):=by first|exact hR|simpa using hR
    clear hR
    go_enter Tryz.func108,Tryz.ntmps108
    go_wp2
    go_ret
    exact⟨by rw[<-HR.out];rfl,hb0 _⟩
   rw[decide_eq_true t3]at hR
   by_cases h4:L1=0
   ·subst h4
    have HR:Hid (true=R):=by first|exact hR|simpa using hR
    clear hR
    go_enter Tryz.func108,Tryz.ntmps108
    go_wp2
    go_ret
    exact⟨by rw[<-HR.out];rfl,hb0 _⟩
   ·have t4:((L1:Int)==0)=false:=by rw[beq_eq_false_iff_ne];omega
    rw[decide_eq_false h4]at hR
    have HR:Hid (false=R):=by first|exact hR|simpa using hR
    clear hR
    go_enter Tryz.func108,Tryz.ntmps108
    go_wp2
    go_ret
    exact⟨by rw[<-HR.out];rfl,hb0 _⟩
theorem l2bare_ffft (w:World) (N:Nd) (vn vk:Value) (hn:StrsAt w vn N.nm) (hk:IntsAt w vk N.ks) (hl:N.nm.length<=1048576):
  Calls Tryz.prog 108 #[vNd N vn vk,.bool false,.bool false,.bool false,.bool true] w fun e w'=>e= .returned (.bool (bareB N false false false true))/\Below w.heap.size w w':=by
 have hb0:∀o,Below w.heap.size w (w.alloc o):=fun o=>(Below.refl _ w).alloc (Nat.le_refl _) o
 obtain⟨a2,c2,rfl⟩:=hn.form
 obtain⟨a3,c3,rfl⟩:=hk.form
 clear hn hk
 obtain⟨R,hR⟩:∃R,bareB N false false false true=R:=⟨_,rfl⟩
 rw[hR]
 unfold vNd
 generalize N.ks.length=L2
 obtain⟨nk,nf,nt,nl,nop,nn,nx,nnm,nks⟩:=N
 simp only at hl⊢
 unfold bareB emptyB at hR
 simp only at hR
 obtain⟨L1,hL1⟩:∃L1,nnm.length=L1:=⟨_,rfl⟩
 rw[hL1]at hl hR⊢
 clear hL1
 cases t1:(nop==0) with
 |false=>
  rw[t1]at hR
  have HR:Hid (false=R):=by first|exact hR|simpa using hR
  clear hR
  go_enter Tryz.func108,Tryz.ntmps108
  go_wp2
  go_ret
  exact⟨by rw[<-HR.out];rfl,hb0 _⟩
 |true=>
  rw[t1]at hR
  cases t2:(nn==0) with
  |false=>
   rw[t2]at hR
   have HR:Hid (false=R):=by first|exact hR|simpa using hR
   clear hR
   go_enter Tryz.func108,Tryz.ntmps108
   go_wp2
   go_ret
   exact⟨by rw[<-HR.out];rfl,hb0 _⟩
  |true=>
   rw[t2]at hR
   by_cases t3:nx.toList=[]
   case neg=>
    rw[decide_eq_false t3]at hR
    have HR:Hid (false=R):=by first|exact hR|simpa using hR
    clear hR
    go_enter Tryz.func108,Tryz.ntmps108
    go_wp2
    go_ret
    exact⟨by rw[<-HR.out];rfl,hb0 _⟩
   rw[decide_eq_true t3]at hR
   have HR:Hid (true=R):=by first|exact hR|simpa using hR
   clear hR
   go_enter Tryz.func108,Tryz.ntmps108
   go_wp2
   go_ret
   exact⟨by rw[<-HR.out];rfl,hb0 _⟩
theorem l2bare_ftff (w:World) (N:Nd) (vn vk:Value) (hn:StrsAt w vn N.nm) (hk:IntsAt w vk N.ks) (hl:N.nm.length<=1048576):
  Calls Tryz.prog 108 #[vNd N vn vk,.bool false,.bool true,.bool false,.bool false] w fun e w'=>e= .returned (.bool (bareB N false true false false))/\Below w.heap.size w w':=by
 have hb0:∀o,Below w.heap.size w (w.alloc o):=fun o=>(Below.refl _ w).alloc (Nat.le_refl _) o
 obtain⟨a2,c2,rfl⟩:=hn.form
 obtain⟨a3,c3,rfl⟩:=hk.form
 clear hn hk
 obtain⟨R,hR⟩:∃R,bareB N false true false false=R:=⟨_,rfl⟩
 rw[hR]
 unfold vNd
 generalize N.ks.length=L2
 obtain⟨nk,nf,nt,nl,nop,nn,nx,nnm,nks⟩:=N
 simp only at hl⊢
 unfold bareB emptyB at hR
 simp only at hR
 obtain⟨L1,hL1⟩:∃L1,nnm.length=L1:=⟨_,rfl⟩
 rw[hL1]at hl hR⊢
 clear hL1
 cases t1:(nop==0) with
 |false=>
  rw[t1]at hR
  have HR:Hid (false=R):=by first|exact hR|simpa using hR
  clear hR
  go_enter Tryz.func108,Tryz.ntmps108
  go_wp2
  go_ret
  exact⟨by rw[<-HR.out];rfl,hb0 _⟩
 |true=>
  rw[t1]at hR
  by_cases t3:nx.toList=[]
  case neg=>
   rw[decide_eq_false t3]at hR
   have HR:Hid (false=R):=by first|exact hR|simpa using hR
   clear hR
   go_enter Tryz.func108,Tryz.ntmps108
   go_wp2
   go_ret
   exact⟨by rw[<-HR.out];rfl,hb0 _⟩
  rw[decide_eq_true t3]at hR
  by_cases h4:L1=0
  ·subst h4
   have HR:Hid (true=R):=by first|exact hR|simpa using hR
   clear hR
   go_enter Tryz.func108,Tryz.ntmps108
   go_wp2
   go_ret
   exact⟨by rw[<-HR.out];rfl,hb0 _⟩
  ·have t4:((L1:Int)==0)=false:=by rw[beq_eq_false_iff_ne];omega
   rw[decide_eq_false h4]at hR
   have HR:Hid (false=R):=by first|exact hR|simpa using hR
   clear hR
   go_enter Tryz.func108,Tryz.ntmps108
   go_wp2
   go_ret
   exact⟨by rw[<-HR.out];rfl,hb0 _⟩
theorem l2bare_fftf (w:World) (N:Nd) (vn vk:Value) (hn:StrsAt w vn N.nm) (hk:IntsAt w vk N.ks) (hl:N.nm.length<=1048576):
  Calls Tryz.prog 108 #[vNd N vn vk,.bool false,.bool false,.bool true,.bool false] w fun e w'=>e= .returned (.bool (bareB N false false true false))/\Below w.heap.size w w':=by
 have hb0:∀o,Below w.heap.size w (w.alloc o):=fun o=>(Below.refl _ w).alloc (Nat.le_refl _) o
 obtain⟨a2,c2,rfl⟩:=hn.form
 obtain⟨a3,c3,rfl⟩:=hk.form
 clear hn hk
 obtain⟨R,hR⟩:∃R,bareB N false false true false=R:=⟨_,rfl⟩
 rw[hR]
 unfold vNd
 generalize N.ks.length=L2
 obtain⟨nk,nf,nt,nl,nop,nn,nx,nnm,nks⟩:=N
 simp only at hl⊢
 unfold bareB emptyB at hR
 simp only at hR
 obtain⟨L1,hL1⟩:∃L1,nnm.length=L1:=⟨_,rfl⟩
 rw[hL1]at hl hR⊢
 clear hL1
 cases t1:(nop==0) with
 |false=>
  rw[t1]at hR
  have HR:Hid (false=R):=by first|exact hR|simpa using hR
  clear hR
  go_enter Tryz.func108,Tryz.ntmps108
  go_wp2
  go_ret
  exact⟨by rw[<-HR.out];rfl,hb0 _⟩
 |true=>
  rw[t1]at hR
  cases t2:(nn==0) with
  |false=>
   rw[t2]at hR
   have HR:Hid (false=R):=by first|exact hR|simpa using hR
   clear hR
   go_enter Tryz.func108,Tryz.ntmps108
   go_wp2
   go_ret
   exact⟨by rw[<-HR.out];rfl,hb0 _⟩
  |true=>
   rw[t2]at hR
   by_cases h4:L1=0
   ·subst h4
    have HR:Hid (true=R):=by first|exact hR|simpa using hR
    clear hR
    go_enter Tryz.func108,Tryz.ntmps108
    go_wp2
    go_ret
    exact⟨by rw[<-HR.out];rfl,hb0 _⟩
   ·have t4:((L1:Int)==0)=false:=by rw[beq_eq_false_iff_ne];omega
    rw[decide_eq_false h4]at hR
    have HR:Hid (false=R):=by first|exact hR|simpa using hR
    clear hR
    go_enter Tryz.func108,Tryz.ntmps108
    go_wp2
    go_ret
    exact⟨by rw[<-HR.out];rfl,hb0 _⟩
theorem l2bare_tfff (w:World) (N:Nd) (vn vk:Value) (hn:StrsAt w vn N.nm) (hk:IntsAt w vk N.ks) (hl:N.nm.length<=1048576):
  Calls Tryz.prog 108 #[vNd N vn vk,.bool true,.bool false,.bool false,.bool false] w fun e w'=>e= .returned (.bool (bareB N true false false false))/\Below w.heap.size w w':=by
 have hb0:∀o,Below w.heap.size w (w.alloc o):=fun o=>(Below.refl _ w).alloc (Nat.le_refl _) o
 obtain⟨a2,c2,rfl⟩:=hn.form
 obtain⟨a3,c3,rfl⟩:=hk.form
 clear hn hk
 obtain⟨R,hR⟩:∃R,bareB N true false false false=R:=⟨_,rfl⟩
 rw[hR]
 unfold vNd
 generalize N.ks.length=L2
 obtain⟨nk,nf,nt,nl,nop,nn,nx,nnm,nks⟩:=N
 simp only at hl⊢
 unfold bareB emptyB at hR
 simp only at hR
 obtain⟨L1,hL1⟩:∃L1,nnm.length=L1:=⟨_,rfl⟩
 rw[hL1]at hl hR⊢
 clear hL1
 cases t2:(nn==0) with
 |false=>
  rw[t2]at hR
  have HR:Hid (false=R):=by first|exact hR|simpa using hR
  clear hR
  go_enter Tryz.func108,Tryz.ntmps108
  go_wp2
  go_ret
  exact⟨by rw[<-HR.out];rfl,hb0 _⟩
 |true=>
  rw[t2]at hR
  by_cases t3:nx.toList=[]
  case neg=>
   rw[decide_eq_false t3]at hR
   have HR:Hid (false=R):=by first|exact hR|simpa using hR
   clear hR
   go_enter Tryz.func108,Tryz.ntmps108
   go_wp2
   go_ret
   exact⟨by rw[<-HR.out];rfl,hb0 _⟩
  rw[decide_eq_true t3]at hR
  by_cases h4:L1=0
  ·subst h4
   have HR:Hid (true=R):=by first|exact hR|simpa using hR
   clear hR
   go_enter Tryz.func108,Tryz.ntmps108
   go_wp2
   go_ret
   exact⟨by rw[<-HR.out];rfl,hb0 _⟩
  ·have t4:((L1:Int)==0)=false:=by rw[beq_eq_false_iff_ne];omega
   rw[decide_eq_false h4]at hR
   have HR:Hid (false=R):=by first|exact hR|simpa using hR
   clear hR
   go_enter Tryz.func108,Tryz.ntmps108
   go_wp2
   go_ret
   exact⟨by rw[<-HR.out];rfl,hb0 _⟩
theorem l2bare_tfft (w:World) (N:Nd) (vn vk:Value) (hn:StrsAt w vn N.nm) (hk:IntsAt w vk N.ks) (hl:N.nm.length<=1048576):
  Calls Tryz.prog 108 #[vNd N vn vk,.bool true,.bool false,.bool false,.bool true] w fun e w'=>e= .returned (.bool (bareB N true false false true))/\Below w.heap.size w w':=by
 have hb0:∀o,Below w.heap.size w (w.alloc o):=fun o=>(Below.refl _ w).alloc (Nat.le_refl _) o
 obtain⟨a2,c2,rfl⟩:=hn.form
 obtain⟨a3,c3,rfl⟩:=hk.form
 clear hn hk
 obtain⟨R,hR⟩:∃R,bareB N true false false true=R:=⟨_,rfl⟩
 rw[hR]
 unfold vNd
 generalize N.ks.length=L2
 obtain⟨nk,nf,nt,nl,nop,nn,nx,nnm,nks⟩:=N
 simp only at hl⊢
 unfold bareB emptyB at hR
 simp only at hR
 obtain⟨L1,hL1⟩:∃L1,nnm.length=L1:=⟨_,rfl⟩
 rw[hL1]at hl hR⊢
 clear hL1
 cases t2:(nn==0) with
 |false=>
  rw[t2]at hR
  have HR:Hid (false=R):=by first|exact hR|simpa using hR
  clear hR
  go_enter Tryz.func108,Tryz.ntmps108
  go_wp2
  go_ret
  exact⟨by rw[<-HR.out];rfl,hb0 _⟩
 |true=>
  rw[t2]at hR
  by_cases t3:nx.toList=[]
  case neg=>
   rw[decide_eq_false t3]at hR
   have HR:Hid (false=R):=by first|exact hR|simpa using hR
   clear hR
   go_enter Tryz.func108,Tryz.ntmps108
   go_wp2
   go_ret
   exact⟨by rw[<-HR.out];rfl,hb0 _⟩
  rw[decide_eq_true t3]at hR
  have HR:Hid (true=R):=by first|exact hR|simpa using hR
  clear hR
  go_enter Tryz.func108,Tryz.ntmps108
  go_wp2
  go_ret
  exact⟨by rw[<-HR.out];rfl,hb0 _⟩
end Go.Proofs.YtelfejiiabbpfaaGreatDoor
