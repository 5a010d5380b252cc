import Derived.Test.YtelfejiiabbpfaaGreatDoorHRk08
import Derived.Test.YtelfejiiabbpfaaGreatDoorHRk11
import Derived.Test.YtelfejiiabbpfaaGreatDoorHRk02
set_option linter.unusedVariables false
set_option maxRecDepth 100000
set_option maxHeartbeats 3200000
namespace Go.Proofs.YtelfejiiabbpfaaGreatDoor
open Go.Lib (strCells strCells_length wpList_append_own_string)
open Go.RowKit
structure Pg (w0:World) (T:ByteArray) (W:World):Prop where
 bel:Below w0.heap.size w0 W
 row:∃(o:Value) (X:ByteArray) (ov:Bool),W.heap[w0.heap.size]?=some (.cells #[o,.bool ov] 54 (0,0))/\W.ownsRow (w0.heap.size+1) 5 1 o X.size (strCells X)/\X.size<=65536/\(T.size<=65536->ov=false/\X=T)/\(65536<T.size->ov=true)
theorem Pg.lt {w0:World}{T:ByteArray}{W:World}(h:Pg w0 T W):w0.heap.size<W.heap.size:=by
 obtain⟨o,X,ov,h1,h2⟩:=h.row
 exact lt_of_block h1
theorem Pg.below {w0:World}{T:ByteArray}{W W':World}(h:Pg w0 T W) (hb:Below W.heap.size W W'):Pg w0 T W':=by
 obtain⟨o,X,ov,h1,h2,h3,h4,h5⟩:=h.row
 exact⟨h.bel.trans (hb.mono h.bel.size),o,X,ov,(hb.block _ (lt_of_block h1)).trans h1,own_keep h2 hb,h3,h4,h5⟩
theorem add_any (w0:World) (T s:ByteArray) (w:World) (h:Pg w0 T w) (hs:s.size<=100000000):
  Calls Tryz.prog 229 #[.pointer (some ⟨w0.heap.size,0,none⟩),.string s] w fun e w'=>e= .returned (.tuple #[])/\Pg w0 (T++s) w'/\Kq w0.heap.size w w':=by
 obtain⟨o,X,ov,hb,ho,hX,hT1,hT2⟩:=h.row
 have hbel:=h.bel
 obtain⟨n,hn⟩:∃n,X.size=n:=⟨_,rfl⟩
 rw[hn]at ho hX
 obtain⟨av,cv,rfl⟩:=own_form ho
 obtain⟨j0,ji,jz0,jz1,jz2⟩:=info_parts infoU8
 have hmw:=lt_of_block hb
 have c0:w.cell? ⟨w0.heap.size,0,none⟩=some (.slice av n cv):=by rw[cell_of_row _ _ _ _ _ _ hb];rfl
 have c1:w.cell? ⟨w0.heap.size,1,none⟩=some (.bool ov):=by rw[cell_of_row _ _ _ _ _ _ hb];rfl
 have f1:∀j,w.frozen? ⟨w0.heap.size,j,none⟩=false:=fun j=>frozen_of_row _ _ _ _ _ hb
 have hnb:=pr_ne hb (by decide) ho
 have HO:Hid (w.ownsRow (w0.heap.size+1) 5 1 (.slice av n cv) n (strCells X)/\w.heap[w0.heap.size]?=some (.cells #[.slice av n cv,.bool ov] 54 (0,0))/\X.size=n/\Below w0.heap.size w0 w):=⟨ho,hb,hn,hbel⟩
 have HT:Hid ((T.size<=65536->ov=false/\X=T)/\(65536<T.size->ov=true)):=⟨hT1,hT2⟩
 clear ho hb hn h hbel hT1 hT2
 by_cases hbig:n+s.size>65536
 ·have hb1:((n:Int)+(s.size:Int))>65536:=by omega
  have hb2:(65536:Int)<((n:Int)+(s.size:Int)):=by omega
  have fin:Pg w0 (T++s) (w.setCell ⟨w0.heap.size,1,none⟩ (.bool true)):=by
   refine⟨HO.out.2.2.2.setCell (Nat.le_refl _) _,.slice av n cv,X,true,heap_setCell_same _ _ 1 _ _ _ HO.out.2.1,?_,by rw[HO.out.2.2.1];exact hX,fun h1=>?_,fun _=>rfl⟩
   ·rw[HO.out.2.2.1]
    exact HO.out.1.kept (row:=some w0.heap.size) ⟨rfl,rfl,rfl,by simp[World.setCell],fun k hk hne=>heap_setCell_other _ _ _ _ (fun e=>hne (by rw[e]))⟩ (by
     cases hv:(Value.slice av n cv).ownBlock with
     |none=>exact .inl rfl
     |some g=>exact .inr (fun e=>by cases e;exact(hnb _ hv).1 rfl))
   ·rw[ByteArray.size_append]at h1
    obtain⟨_,e2⟩:=HT.out.1 (by omega)
    have:=HO.out.2.2.1
    rw[e2]at this
    omega
  go_enter Tryz.func229,Tryz.ntmps229
  go_wp2_with fail
  exact bodyPost_ret (results_none rfl _ _ _) rfl ⟨rfl,fin,Kq.putP _ _ _ _⟩
 ·have hb1:¬((n:Int)+(s.size:Int))>65536:=by omega
  have hb2:¬(65536:Int)<((n:Int)+(s.size:Int)):=by omega
  go_enter Tryz.func229,Tryz.ntmps229
  go_wp2_with (at_builtin;refine wpList_append_own_string _ rfl _ _ 38 9 rfl (w0.heap.size+1) 5 j0 Tryz.underlying38 Tryz.underlying9 ji jz0 jz1 jz2 _ _ _ rfl HO.out.1 s rfl (by unfold maxLen;omega) (by omega) (by omega) ?_;intro v' w5 ho5 hg5 hn5;obtain⟨av5,cap5,rfl⟩:=own_form ho5;have hb5:w5.heap[w0.heap.size]?=some (.cells #[.slice av n cv,.bool ov] 54 (0,0)):=(hg5.block _ hmw (fun e=>(hnb _ e.symm).1 rfl)).trans HO.out.2.1;have z5:w5.cell? ⟨w0.heap.size,0,none⟩=some (.slice av n cv):=(by rw[cell_of_row _ _ _ _ _ _ hb5];rfl);have f5:w5.frozen? ⟨w0.heap.size,0,none⟩=false:=frozen_of_row _ _ _ _ _ hb5)
  have fin:Pg w0 (T++s) (w5.setCell ⟨w0.heap.size,0,none⟩ (.slice av5 (n+s.size) cap5)):=by
   refine⟨(HO.out.2.2.2.grown hg5 (by omega) (fun k hk=>by have:=(hnb k hk).2;omega)).setCell (Nat.le_refl _) _,.slice av5 (n+s.size) cap5,X++s,ov,heap_setCell_same _ _ 0 _ _ _ hb5,?_,by rw[ByteArray.size_append,HO.out.2.2.1];omega,fun h1=>?_,fun h1=>?_⟩
   ·rw[ByteArray.size_append,HO.out.2.2.1,strCells_app]
    exact ho5.kept (row:=some w0.heap.size) ⟨rfl,rfl,rfl,by simp[World.setCell],fun k hk hne=>heap_setCell_other _ _ _ _ (fun e=>hne (by rw[e]))⟩ (by
     cases hv:(Value.slice av5 (n+s.size) cap5).ownBlock with
     |none=>exact .inl rfl
     |some g=>exact .inr (fun e=>by cases e;exact(pr_ne hb5 (by decide) ho5 _ hv).1 rfl))
   ·rw[ByteArray.size_append]at h1
    obtain⟨e1,e2⟩:=HT.out.1 (by omega)
    exact⟨e1,by rw[e2]⟩
   ·rw[ByteArray.size_append]at h1
    by_cases h2:T.size<=65536
    ·obtain⟨_,e2⟩:=HT.out.1 h2
     have:=HO.out.2.2.1
     rw[e2]at this
     omega
    ·exact HT.out.2 (by omega)
  have fg:Kq w0.heap.size w (w5.setCell ⟨w0.heap.size,0,none⟩ (.slice av5 (n+s.size) cap5)):=by
   refine⟨hg5.os,hg5.tape,hg5.output,by simp[World.setCell];exact hg5.size,fun k hk hne hc=>?_⟩
   rw[heap_setCell_other _ _ _ _ hne]
   refine hg5.block k hk (fun e=>?_)
   have e2:(Value.slice av n cv).ownBlock=some k:=e.symm
   rcases HO.out.1.2 with⟨h1,_⟩|⟨g2,cap2,cur,h1,_,h3,_⟩
   ·rw[h1]at e2;simp[Value.ownBlock]at e2
   ·rw[h1]at e2
    obtain rfl:g2=k:=by simpa [Value.ownBlock] using e2
    exact hc _ _ h3
  go_end0
  exact⟨rfl,fin,fg⟩
def mgA (w0:World) (t:Nat):Value:= .agg #[.pointer (some ⟨w0.heap.size,0,none⟩),.string (tabB t)]
def mgV (w0:World) (t:Nat):Value:= .iface 59 (mgA w0 t)
theorem m_put (b:Nat) (s:ByteArray) (w:World):(method 371 59 (.agg #[.pointer (some ⟨b,0,none⟩),.string s]) "loop.example/warp/impl.put").run Tryz.prog w= .ok (232,.agg #[.pointer (some ⟨b,0,none⟩),.string s]) w:=by kernel_rfl
theorem m_line (b:Nat) (s:ByteArray) (w:World):(method 371 59 (.agg #[.pointer (some ⟨b,0,none⟩),.string s]) "loop.example/warp/impl.newLine").run Tryz.prog w= .ok (231,.agg #[.pointer (some ⟨b,0,none⟩),.string s]) w:=by kernel_rfl
theorem m_inner (b:Nat) (s:ByteArray) (w:World):(method 371 59 (.agg #[.pointer (some ⟨b,0,none⟩),.string s]) "loop.example/warp/impl.inner").run Tryz.prog w= .ok (230,.agg #[.pointer (some ⟨b,0,none⟩),.string s]) w:=by kernel_rfl
theorem put_any (w0:World) (t:Nat) (T s:ByteArray) (w:World) (h:Pg w0 T w) (hs:s.size<=100000000):
  Calls Tryz.prog 232 #[mgA w0 t,.string s] w fun e w'=>e= .returned (.tuple #[])/\Pg w0 (T++s) w'/\Kq w0.heap.size w w':=by
 have hb:∀o,Below w.heap.size w (w.alloc o):=fun o=>(Below.refl _ w).alloc (Nat.le_refl _) o
 have HK:Hid (∀W,Below w.heap.size w W->Calls Tryz.prog 229 #[.pointer (some ⟨w0.heap.size,0,none⟩),.string s] W fun e w'=>e= .returned (.tuple #[])/\Pg w0 (T++s) w'/\Kq w0.heap.size W w'):=fun W hW=>add_any w0 T s W (h.below hW) hs
 unfold mgA
 generalize tabB t=tb
 clear h
 go_enter Tryz.func232,Tryz.ntmps232
 go_wp2_with (go_at_call 229;refine(HK.out _ (hb _)).mono ?_;rintro e w2 ⟨rfl,p2,k2⟩)
 go_end0
 exact⟨rfl,p2,(Kq.of_below (hb _)).trans k2⟩
theorem newLine_any (w0:World) (t:Nat) (ht:t<=1000000) (T:ByteArray) (w:World) (h:Pg w0 T w):
  Calls Tryz.prog 231 #[mgA w0 t] w fun e w'=>e= .returned (.tuple #[])/\Pg w0 (T++lineB t) w'/\Kq w0.heap.size w w':=by
 have hb:∀o,Below w.heap.size w (w.alloc o):=fun o=>(Below.refl _ w).alloc (Nat.le_refl _) o
 have HK:Hid (∀W,Below w.heap.size w W->Calls Tryz.prog 229 #[.pointer (some ⟨w0.heap.size,0,none⟩),.string (lineB t)] W fun e w'=>e= .returned (.tuple #[])/\Pg w0 (T++lineB t) w'/\Kq w0.heap.size W w'):=fun W hW=>add_any w0 T (lineB t) W (h.below hW) (by rw[lineB_size];omega)
 have hz:=tabB_size t
 unfold mgA
 unfold lineB at HK⊢
 generalize tabB t=tb at HK hz
 clear h
 go_enter Tryz.func231,Tryz.ntmps231
 go_wp2_with (go_at_call 229;refine(HK.out _ (hb _)).mono ?_;rintro e w2 ⟨rfl,p2,k2⟩)
 go_end0
 exact⟨rfl,p2,(Kq.of_below (hb _)).trans k2⟩
theorem inner_any (w0:World) (t:Nat) (ht:t<=1000000) (w:World):
  Calls Tryz.prog 230 #[mgA w0 t] w fun e w'=>e= .returned (mgV w0 (t+1))/\Below w.heap.size w w':=by
 have hb:∀o,Below w.heap.size w (w.alloc o):=fun o=>(Below.refl _ w).alloc (Nat.le_refl _) o
 have hz:=tabB_size t
 have e1:tabB (t+1)=tabB t++⟨#[9]⟩:=rfl
 unfold mgV mgA
 rw[e1]
 generalize tabB t=s at hz
 clear e1
 go_enter Tryz.func230,Tryz.ntmps230
 go_wp2_with fail
 go_ret
 exact⟨rfl,hb _⟩
end Go.Proofs.YtelfejiiabbpfaaGreatDoor
namespace Go.Proofs.YtelfejiiabbpfaaGreatDoor
open Go.RowKit Go.Maps Go.WideMaps
def exKinds:List Int:=[20,21,22,27,23,24,25,26,28,29,32,30,31,33,34,35,36,37,40,41,42]
theorem l2ex_no {w:World}{vt:Value}{ns:List Nd}{N:Nd}{vn vk:Value}(A:NArg w vt ns N vn vk) (hK:∀c∈exKinds,N.k≠c):
  Calls Tryz.prog 73 #[.agg #[vt],vNd N vn vk] w fun e w'=>e= .returned (.bool false)/\Below w.heap.size w w':=by
 obtain⟨a1,c1,rfl⟩:=A.t.form
 obtain⟨a2,c2,rfl⟩:=A.n.form
 obtain⟨a3,c3,rfl⟩:=A.k.form
 have st:=St.start A
 clear A
 have q20:(N.k==20)=false:=by rw[beq_eq_false_iff_ne];exact fun h=>hK 20 (by decide) h
 have q21:(N.k==21)=false:=by rw[beq_eq_false_iff_ne];exact fun h=>hK 21 (by decide) h
 have q22:(N.k==22)=false:=by rw[beq_eq_false_iff_ne];exact fun h=>hK 22 (by decide) h
 have q27:(N.k==27)=false:=by rw[beq_eq_false_iff_ne];exact fun h=>hK 27 (by decide) h
 have q23:(N.k==23)=false:=by rw[beq_eq_false_iff_ne];exact fun h=>hK 23 (by decide) h
 have q24:(N.k==24)=false:=by rw[beq_eq_false_iff_ne];exact fun h=>hK 24 (by decide) h
 have q25:(N.k==25)=false:=by rw[beq_eq_false_iff_ne];exact fun h=>hK 25 (by decide) h
 have q26:(N.k==26)=false:=by rw[beq_eq_false_iff_ne];exact fun h=>hK 26 (by decide) h
 have q28:(N.k==28)=false:=by rw[beq_eq_false_iff_ne];exact fun h=>hK 28 (by decide) h
 have q29:(N.k==29)=false:=by rw[beq_eq_false_iff_ne];exact fun h=>hK 29 (by decide) h
 have q32:(N.k==32)=false:=by rw[beq_eq_false_iff_ne];exact fun h=>hK 32 (by decide) h
 have q30:(N.k==30)=false:=by rw[beq_eq_false_iff_ne];exact fun h=>hK 30 (by decide) h
 have q31:(N.k==31)=false:=by rw[beq_eq_false_iff_ne];exact fun h=>hK 31 (by decide) h
 have q33:(N.k==33)=false:=by rw[beq_eq_false_iff_ne];exact fun h=>hK 33 (by decide) h
 have q34:(N.k==34)=false:=by rw[beq_eq_false_iff_ne];exact fun h=>hK 34 (by decide) h
 have q35:(N.k==35)=false:=by rw[beq_eq_false_iff_ne];exact fun h=>hK 35 (by decide) h
 have q36:(N.k==36)=false:=by rw[beq_eq_false_iff_ne];exact fun h=>hK 36 (by decide) h
 have q37:(N.k==37)=false:=by rw[beq_eq_false_iff_ne];exact fun h=>hK 37 (by decide) h
 have q40:(N.k==40)=false:=by rw[beq_eq_false_iff_ne];exact fun h=>hK 40 (by decide) h
 have q41:(N.k==41)=false:=by rw[beq_eq_false_iff_ne];exact fun h=>hK 41 (by decide) h
 have q42:(N.k==42)=false:=by rw[beq_eq_false_iff_ne];exact fun h=>hK 42 (by decide) h
 clear hK
 unfold vNd
 go_enter Tryz.func73,Tryz.ntmps73
 go_wp2
 go_ret
 exact⟨rfl,st.bel⟩
def enB (ns:List Nd) (N:Nd):Nat->Nat->Bool
 |0,_=>true
 |f+1,j=>decide (40<=kidK ns N j/\kidK ns N j<=42)&&enB ns N f (j+1)
structure EnIs (ns:List Nd) (N:Nd) (f j:Nat) (R:Bool):Prop where
 out:enB ns N f j=R
theorem l2ex_e35 {w:World}{vt:Value}{ns:List Nd}{N:Nd}{vn vk:Value}(A:NArg w vt ns N vn vk) (hK:N.k=35):
  Calls Tryz.prog 73 #[.agg #[vt],vNd N vn vk] w fun e w'=>e= .returned (.bool (enB ns N N.ks.length 0&&bareB N false false false false))/\Below w.heap.size w w':=by
 obtain⟨a1,c1,rfl⟩:=A.t.form
 obtain⟨a2,c2,rfl⟩:=A.n.form
 obtain⟨a3,c3,rfl⟩:=A.k.form
 have st:=St.start A
 have hl2:=A.l2
 clear A
 have q20:=kqf hK 20 rfl
 have q21:=kqf hK 21 rfl
 have q22:=kqf hK 22 rfl
 have q27:=kqf hK 27 rfl
 have q23:=kqf hK 23 rfl
 have q24:=kqf hK 24 rfl
 have q25:=kqf hK 25 rfl
 have q26:=kqf hK 26 rfl
 have q28:=kqf hK 28 rfl
 have q29:=kqf hK 29 rfl
 have q32:=kqf hK 32 rfl
 have q30:=kqf hK 30 rfl
 have q31:=kqf hK 31 rfl
 have q33:=kqf hK 33 rfl
 have q34:=kqf hK 34 rfl
 have q35:=kqt hK 35 rfl
 clear hK
 obtain⟨R,hR⟩:∃R,enB ns N N.ks.length 0=R:=⟨_,rfl⟩
 rw[hR]
 have HR:EnIs ns N N.ks.length 0 R:=⟨hR⟩
 clear hR
 unfold vNd
 go_enter Tryz.func73,Tryz.ntmps73
 go_wp2_with fail
 generalize (w.alloc (.cells #[.slice a1 ns.length c1] 29)).alloc (.cells #[.int .i64 N.k,.int .i64 N.f,.int .i64 N.t,.int .i64 N.l,.int .i64 N.op,.int .i64 N.n,.string N.x,.slice a2 N.nm.length c2,.slice a3 N.ks.length c3] 44)=W2 at st⊢
 go_loopw [6,7,200] (fun _ _ vj wr=>∃(j:Nat),vj= .int .i64 j/\j<=N.ks.length/\EnIs ns N (N.ks.length-j) j R/\St w (.slice a1 ns.length c1) ns N (.slice a2 N.nm.length c2) (.slice a3 N.ks.length c3) wr) (fun _ _ vj _=>N.ks.length-(intOf vj).toNat)
 case atStart=>exact⟨0,rfl,by omega,HR,st⟩
 case round=>
  clear st
  obtain⟨j,rfl,hj,HJ,st⟩:=hrel
  obtain⟨x0,x1,x2,x3,x4,x5,x6,x7,x8,xf⟩:=nd_cells st.bn
  have xt:=st.bt
  have hst:=HJ.out
  by_cases hlt:j<N.ks.length
  ·rw[show N.ks.length-j=(N.ks.length-(j+1))+1 by omega,enB]at hst
   have hji:(j:Int)<(N.ks.length:Int):=by omega
   have ke:=kid_any st.a j hlt
   unfold vNd at ke
   generalize kidK ns N j=m at hst ke
   by_cases g1:m<40
   ·rw[decide_eq_false (by omega),Bool.false_and]at hst
    have HS:Hid (false=R):=hst
    clear hst
    go_wp2_with (go_at_call 107;refine ke.mono ?_;rintro e w' ⟨rfl,hb'⟩;replace st:=st.below hb';clear hb';obtain⟨x0,x1,x2,x3,x4,x5,x6,x7,x8,xf⟩:=nd_cells st.bn;have xt:=st.bt)
    go_ret
    exact⟨by rw[<-HS.out];rfl,st.bel⟩
   by_cases g2:42<m
   ·rw[decide_eq_false (by omega),Bool.false_and]at hst
    have HS:Hid (false=R):=hst
    clear hst
    go_wp2_with (go_at_call 107;refine ke.mono ?_;rintro e w' ⟨rfl,hb'⟩;replace st:=st.below hb';clear hb';obtain⟨x0,x1,x2,x3,x4,x5,x6,x7,x8,xf⟩:=nd_cells st.bn;have xt:=st.bt)
    go_ret
    exact⟨by rw[<-HS.out];rfl,st.bel⟩
   rw[decide_eq_true (by omega),Bool.true_and]at hst
   have HS:EnIs ns N (N.ks.length-(j+1)) (j+1) R:=⟨hst⟩
   clear hst
   go_wp2_with (go_at_call 107;refine ke.mono ?_;rintro e w' ⟨rfl,hb'⟩;replace st:=st.below hb';clear hb';obtain⟨x0,x1,x2,x3,x4,x5,x6,x7,x8,xf⟩:=nd_cells st.bn;have xt:=st.bt)
   exact⟨⟨j+1,by go_num,by omega,HS,st⟩,by simp[intOf];omega⟩
  ·rw[show N.ks.length-j=0 by omega,enB]at hst
   have HS:Hid (true=R):=hst
   have hji:¬(j:Int)<(N.ks.length:Int):=by omega
   clear hst
   go_wp2_with (go_at_call 108;refine(l2bare_ffff _ N _ _ st.a.n st.a.k st.a.l1).mono ?_;rintro e w' ⟨rfl,hb'⟩;replace st:=st.below hb';clear hb';obtain⟨x0,x1,x2,x3,x4,x5,x6,x7,x8,xf⟩:=nd_cells st.bn;have xt:=st.bt)
   go_ret
   exact⟨by rw[<-HS.out];rfl,st.bel⟩
theorem l2st_s10 {w:World}{vt:Value}{ns:List Nd}{N:Nd}{vn vk:Value}(A:NArg w vt ns N vn vk) (hK:N.k=10):
  Calls Tryz.prog 72 #[.agg #[vt],vNd N vn vk] w fun e w'=>e= .returned (.bool (bareB N false false false true&&namedB N 1 200&&((N.ks.length:Int)==2)&&exB ns N 1 0&&(kidK ns N 1==1)))/\Below w.heap.size w w':=by
 obtain⟨a1,c1,rfl⟩:=A.t.form
 obtain⟨a2,c2,rfl⟩:=A.n.form
 obtain⟨a3,c3,rfl⟩:=A.k.form
 have st:=St.start A
 have hlx:=A.lx
 have HX:Hid (N.x.size<=1100000):=by show _<=_;omega
 clear A
 have q1:=kqf hK 1 rfl
 have q2:=kqf hK 2 rfl
 have q3:=kqf hK 3 rfl
 have q4:=kqf hK 4 rfl
 have q5:=kqf hK 5 rfl
 have q6:=kqf hK 6 rfl
 have q16:=kqf hK 16 rfl
 have q7:=kqf hK 7 rfl
 have q8:=kqf hK 8 rfl
 have q9:=kqf hK 9 rfl
 have q10:=kqt hK 10 rfl
 clear hK
 cases t0:bareB N false false false true
 case' true=>
  cases t1:namedB N 1 200
  case' true=>
   cases t2:((N.ks.length:Int)==2)
   case' true=>
    have HL:N.ks.length=2:=by have:=eq_of_beq t2;omega
    have HLE:Hid (1<=N.ks.length):=by show _<=_;omega
    have HLT:Hid (0<N.ks.length):=by show _<_;omega
    have HLT1:Hid (1<N.ks.length):=by show _<_;omega
    clear HL
    cases t3:exB ns N 1 0
    case' true=>
     cases t4:(kidK ns N 1==1)
 all_goals
  unfold vNd
  go_enter Tryz.func72,Tryz.ntmps72
  go_wp2_with (first|(go_at_call 108;refine(l2bare_ffft _ N _ _ st.a.n st.a.k st.a.l1).mono ?_;rintro e w' ⟨rfl,hb'⟩;replace st:=st.below hb';clear hb';obtain⟨x0,x1,x2,x3,x4,x5,x6,x7,x8,xf⟩:=nd_cells st.bn;have xt:=st.bt)|(go_at_call 109;refine(l2named_any _ N _ _ 1 200 st.a.n st.a.k st.a.l1 st.a.ls).mono ?_;rintro e w' ⟨rfl,hb'⟩;replace st:=st.below hb';clear hb';obtain⟨x0,x1,x2,x3,x4,x5,x6,x7,x8,xf⟩:=nd_cells st.bn;have xt:=st.bt)|(go_at_call 110;refine(l2exprs_any _ _ ns N _ _ 0 1 st.a.t st.a.n st.a.k st.a.ok HLE.out st.a.ln st.a.l2).mono ?_;rintro e w' ⟨rfl,hb'⟩;replace st:=st.below hb';clear hb';obtain⟨x0,x1,x2,x3,x4,x5,x6,x7,x8,xf⟩:=nd_cells st.bn;have xt:=st.bt)|(go_at_call 107;with_reducible refine(kid1_any st.a HLT1.out).mono ?_;rintro e w' ⟨rfl,hb'⟩;replace st:=st.below hb';clear hb';obtain⟨x0,x1,x2,x3,x4,x5,x6,x7,x8,xf⟩:=nd_cells st.bn;have xt:=st.bt))
  go_ret
  exact⟨rfl,st.bel⟩
theorem l2st_s13 {w:World}{vt:Value}{ns:List Nd}{N:Nd}{vn vk:Value}(A:NArg w vt ns N vn vk) (hK:N.k=13):
  Calls Tryz.prog 72 #[.agg #[vt],vNd N vn vk] w fun e w'=>e= .returned (.bool (bareB N false false false false&&exB ns N N.ks.length 0))/\Below w.heap.size w w':=by
 obtain⟨a1,c1,rfl⟩:=A.t.form
 obtain⟨a2,c2,rfl⟩:=A.n.form
 obtain⟨a3,c3,rfl⟩:=A.k.form
 have st:=St.start A
 have hlx:=A.lx
 have HX:Hid (N.x.size<=1100000):=by show _<=_;omega
 clear A
 have q1:=kqf hK 1 rfl
 have q2:=kqf hK 2 rfl
 have q3:=kqf hK 3 rfl
 have q4:=kqf hK 4 rfl
 have q5:=kqf hK 5 rfl
 have q6:=kqf hK 6 rfl
 have q16:=kqf hK 16 rfl
 have q7:=kqf hK 7 rfl
 have q8:=kqf hK 8 rfl
 have q9:=kqf hK 9 rfl
 have q10:=kqf hK 10 rfl
 have q11:=kqf hK 11 rfl
 have q12:=kqf hK 12 rfl
 have q13:=kqt hK 13 rfl
 clear hK
 cases t0:bareB N false false false false
 case' true=>
  cases t1:exB ns N N.ks.length 0
 all_goals
  unfold vNd
  go_enter Tryz.func72,Tryz.ntmps72
  go_wp2_with (first|(go_at_call 108;refine(l2bare_ffff _ N _ _ st.a.n st.a.k st.a.l1).mono ?_;rintro e w' ⟨rfl,hb'⟩;replace st:=st.below hb';clear hb';obtain⟨x0,x1,x2,x3,x4,x5,x6,x7,x8,xf⟩:=nd_cells st.bn;have xt:=st.bt)|(go_at_call 110;refine(l2exprs_any _ _ ns N _ _ 0 N.ks.length st.a.t st.a.n st.a.k st.a.ok (Nat.le_refl _) st.a.ln st.a.l2).mono ?_;rintro e w' ⟨rfl,hb'⟩;replace st:=st.below hb';clear hb';obtain⟨x0,x1,x2,x3,x4,x5,x6,x7,x8,xf⟩:=nd_cells st.bn;have xt:=st.bt))
  go_ret
  exact⟨rfl,st.bel⟩
end Go.Proofs.YtelfejiiabbpfaaGreatDoor
