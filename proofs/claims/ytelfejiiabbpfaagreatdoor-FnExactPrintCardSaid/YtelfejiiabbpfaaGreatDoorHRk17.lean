import Derived.Test.YtelfejiiabbpfaaGreatDoorHRk11
import Derived.Test.YtelfejiiabbpfaaGreatDoorHRk02
set_option linter.unusedVariables false
set_option maxRecDepth 100000
set_option maxHeartbeats 3200000
namespace Go.Proofs.YtelfejiiabbpfaaGreatDoor
open Go.RowKit Go.Maps Go.WideMaps
theorem l2ex_e20 {w:World}{vt:Value}{ns:List Nd}{N:Nd}{vn vk:Value}(A:NArg w vt ns N vn vk) (hK:N.k=20):
  Calls Tryz.prog 73 #[.agg #[vt],vNd N vn vk] w fun e w'=>e= .returned (.bool (((N.ks.length:Int)==0)&&bareB N false false false false))/\Below w.heap.size w w':=by
 obtain⟨a1,c1,rfl⟩:=A.t.form
 obtain⟨a2,c2,rfl⟩:=A.n.form
 obtain⟨a3,c3,rfl⟩:=A.k.form
 have st:=St.start A
 have hlx:=A.lx
 have HX:Hid (N.x.size<=1100000):=by show _<=_;omega
 clear A
 have q20:=kqt hK 20 rfl
 clear hK
 cases t0:((N.ks.length:Int)==0)
 case' true=>
  cases t1:bareB N false false false false
 all_goals
  unfold vNd
  go_enter Tryz.func73,Tryz.ntmps73
  go_wp2_with (first|(go_at_call 108;refine(l2bare_ffff _ N _ _ st.a.n st.a.k st.a.l1).mono ?_;rintro e w' ⟨rfl,hb'⟩;replace st:=st.below hb';clear hb';obtain⟨x0,x1,x2,x3,x4,x5,x6,x7,x8,xf⟩:=nd_cells st.bn;have xt:=st.bt))
  go_ret
  exact⟨rfl,st.bel⟩
theorem l2ex_e21 {w:World}{vt:Value}{ns:List Nd}{N:Nd}{vn vk:Value}(A:NArg w vt ns N vn vk) (hK:N.k=21):
  Calls Tryz.prog 73 #[.agg #[vt],vNd N vn vk] w fun e w'=>e= .returned (.bool (((N.ks.length:Int)==0)&&bareB N false false false false))/\Below w.heap.size w w':=by
 obtain⟨a1,c1,rfl⟩:=A.t.form
 obtain⟨a2,c2,rfl⟩:=A.n.form
 obtain⟨a3,c3,rfl⟩:=A.k.form
 have st:=St.start A
 have hlx:=A.lx
 have HX:Hid (N.x.size<=1100000):=by show _<=_;omega
 clear A
 have q20:=kqf hK 20 rfl
 have q21:=kqt hK 21 rfl
 clear hK
 cases t0:((N.ks.length:Int)==0)
 case' true=>
  cases t1:bareB N false false false false
 all_goals
  unfold vNd
  go_enter Tryz.func73,Tryz.ntmps73
  go_wp2_with (first|(go_at_call 108;refine(l2bare_ffff _ N _ _ st.a.n st.a.k st.a.l1).mono ?_;rintro e w' ⟨rfl,hb'⟩;replace st:=st.below hb';clear hb';obtain⟨x0,x1,x2,x3,x4,x5,x6,x7,x8,xf⟩:=nd_cells st.bn;have xt:=st.bt))
  go_ret
  exact⟨rfl,st.bel⟩
theorem l2ex_e22 {w:World}{vt:Value}{ns:List Nd}{N:Nd}{vn vk:Value}(A:NArg w vt ns N vn vk) (hK:N.k=22):
  Calls Tryz.prog 73 #[.agg #[vt],vNd N vn vk] w fun e w'=>e= .returned (.bool (((N.ks.length:Int)==0)&&bareB N false false false false))/\Below w.heap.size w w':=by
 obtain⟨a1,c1,rfl⟩:=A.t.form
 obtain⟨a2,c2,rfl⟩:=A.n.form
 obtain⟨a3,c3,rfl⟩:=A.k.form
 have st:=St.start A
 have hlx:=A.lx
 have HX:Hid (N.x.size<=1100000):=by show _<=_;omega
 clear A
 have q20:=kqf hK 20 rfl
 have q21:=kqf hK 21 rfl
 have q22:=kqt hK 22 rfl
 clear hK
 cases t0:((N.ks.length:Int)==0)
 case' true=>
  cases t1:bareB N false false false false
 all_goals
  unfold vNd
  go_enter Tryz.func73,Tryz.ntmps73
  go_wp2_with (first|(go_at_call 108;refine(l2bare_ffff _ N _ _ st.a.n st.a.k st.a.l1).mono ?_;rintro e w' ⟨rfl,hb'⟩;replace st:=st.below hb';clear hb';obtain⟨x0,x1,x2,x3,x4,x5,x6,x7,x8,xf⟩:=nd_cells st.bn;have xt:=st.bt))
  go_ret
  exact⟨rfl,st.bel⟩
theorem l2ex_e27 {w:World}{vt:Value}{ns:List Nd}{N:Nd}{vn vk:Value}(A:NArg w vt ns N vn vk) (hK:N.k=27):
  Calls Tryz.prog 73 #[.agg #[vt],vNd N vn vk] w fun e w'=>e= .returned (.bool (((N.ks.length:Int)==0)&&bareB N false false false false))/\Below w.heap.size w w':=by
 obtain⟨a1,c1,rfl⟩:=A.t.form
 obtain⟨a2,c2,rfl⟩:=A.n.form
 obtain⟨a3,c3,rfl⟩:=A.k.form
 have st:=St.start A
 have hlx:=A.lx
 have HX:Hid (N.x.size<=1100000):=by show _<=_;omega
 clear A
 have q20:=kqf hK 20 rfl
 have q21:=kqf hK 21 rfl
 have q22:=kqf hK 22 rfl
 have q27:=kqt hK 27 rfl
 clear hK
 cases t0:((N.ks.length:Int)==0)
 case' true=>
  cases t1:bareB N false false false false
 all_goals
  unfold vNd
  go_enter Tryz.func73,Tryz.ntmps73
  go_wp2_with (first|(go_at_call 108;refine(l2bare_ffff _ N _ _ st.a.n st.a.k st.a.l1).mono ?_;rintro e w' ⟨rfl,hb'⟩;replace st:=st.below hb';clear hb';obtain⟨x0,x1,x2,x3,x4,x5,x6,x7,x8,xf⟩:=nd_cells st.bn;have xt:=st.bt))
  go_ret
  exact⟨rfl,st.bel⟩
theorem l2ex_e23 {w:World}{vt:Value}{ns:List Nd}{N:Nd}{vn vk:Value}(A:NArg w vt ns N vn vk) (hK:N.k=23):
  Calls Tryz.prog 73 #[.agg #[vt],vNd N vn vk] w fun e w'=>e= .returned (.bool (((N.ks.length:Int)==0)&&bareB N false true false false))/\Below w.heap.size w w':=by
 obtain⟨a1,c1,rfl⟩:=A.t.form
 obtain⟨a2,c2,rfl⟩:=A.n.form
 obtain⟨a3,c3,rfl⟩:=A.k.form
 have st:=St.start A
 have hlx:=A.lx
 have HX:Hid (N.x.size<=1100000):=by show _<=_;omega
 clear A
 have q20:=kqf hK 20 rfl
 have q21:=kqf hK 21 rfl
 have q22:=kqf hK 22 rfl
 have q27:=kqf hK 27 rfl
 have q23:=kqt hK 23 rfl
 clear hK
 cases t0:((N.ks.length:Int)==0)
 case' true=>
  cases t1:bareB N false true false false
 all_goals
  unfold vNd
  go_enter Tryz.func73,Tryz.ntmps73
  go_wp2_with (first|(go_at_call 108;refine(l2bare_ftff _ N _ _ st.a.n st.a.k st.a.l1).mono ?_;rintro e w' ⟨rfl,hb'⟩;replace st:=st.below hb';clear hb';obtain⟨x0,x1,x2,x3,x4,x5,x6,x7,x8,xf⟩:=nd_cells st.bn;have xt:=st.bt))
  go_ret
  exact⟨rfl,st.bel⟩
theorem l2ex_e24 {w:World}{vt:Value}{ns:List Nd}{N:Nd}{vn vk:Value}(A:NArg w vt ns N vn vk) (hK:N.k=24):
  Calls Tryz.prog 73 #[.agg #[vt],vNd N vn vk] w fun e w'=>e= .returned (.bool (((N.ks.length:Int)==0)&&bareB N false false true false&&fok N.x))/\Below w.heap.size w w':=by
 obtain⟨a1,c1,rfl⟩:=A.t.form
 obtain⟨a2,c2,rfl⟩:=A.n.form
 obtain⟨a3,c3,rfl⟩:=A.k.form
 have st:=St.start A
 have hlx:=A.lx
 have HX:Hid (N.x.size<=1100000):=by show _<=_;omega
 clear A
 have q20:=kqf hK 20 rfl
 have q21:=kqf hK 21 rfl
 have q22:=kqf hK 22 rfl
 have q27:=kqf hK 27 rfl
 have q23:=kqf hK 23 rfl
 have q24:=kqt hK 24 rfl
 clear hK
 cases t0:((N.ks.length:Int)==0)
 case' true=>
  cases t1:bareB N false false true false
  case' true=>
   cases t2:fok N.x
 all_goals
  unfold vNd
  go_enter Tryz.func73,Tryz.ntmps73
  go_wp2_with (first|(go_at_call 108;refine(l2bare_fftf _ N _ _ st.a.n st.a.k st.a.l1).mono ?_;rintro e w' ⟨rfl,hb'⟩;replace st:=st.below hb';clear hb';obtain⟨x0,x1,x2,x3,x4,x5,x6,x7,x8,xf⟩:=nd_cells st.bn;have xt:=st.bt)|(go_at_call 112;refine(l1fltok_any N.x HX.out _).mono ?_;rintro e w' ⟨rfl,hb'⟩;replace st:=st.below hb';clear hb';obtain⟨x0,x1,x2,x3,x4,x5,x6,x7,x8,xf⟩:=nd_cells st.bn;have xt:=st.bt))
  go_ret
  exact⟨rfl,st.bel⟩
theorem l2ex_e25 {w:World}{vt:Value}{ns:List Nd}{N:Nd}{vn vk:Value}(A:NArg w vt ns N vn vk) (hK:N.k=25):
  Calls Tryz.prog 73 #[.agg #[vt],vNd N vn vk] w fun e w'=>e= .returned (.bool (((N.ks.length:Int)==0)&&bareB N false false true false&&decide ((N.x.size:Int)<=4000)))/\Below w.heap.size w w':=by
 obtain⟨a1,c1,rfl⟩:=A.t.form
 obtain⟨a2,c2,rfl⟩:=A.n.form
 obtain⟨a3,c3,rfl⟩:=A.k.form
 have st:=St.start A
 have hlx:=A.lx
 have HX:Hid (N.x.size<=1100000):=by show _<=_;omega
 clear A
 have q20:=kqf hK 20 rfl
 have q21:=kqf hK 21 rfl
 have q22:=kqf hK 22 rfl
 have q27:=kqf hK 27 rfl
 have q23:=kqf hK 23 rfl
 have q24:=kqf hK 24 rfl
 have q25:=kqt hK 25 rfl
 clear hK
 cases t0:((N.ks.length:Int)==0)
 case' true=>
  cases t1:bareB N false false true false
  case' true=>
   cases t2:decide ((N.x.size:Int)<=4000)
 all_goals
  unfold vNd
  go_enter Tryz.func73,Tryz.ntmps73
  go_wp2_with (first|(go_at_call 108;refine(l2bare_fftf _ N _ _ st.a.n st.a.k st.a.l1).mono ?_;rintro e w' ⟨rfl,hb'⟩;replace st:=st.below hb';clear hb';obtain⟨x0,x1,x2,x3,x4,x5,x6,x7,x8,xf⟩:=nd_cells st.bn;have xt:=st.bt))
  go_ret
  exact⟨rfl,st.bel⟩
theorem l2ex_e26 {w:World}{vt:Value}{ns:List Nd}{N:Nd}{vn vk:Value}(A:NArg w vt ns N vn vk) (hK:N.k=26):
  Calls Tryz.prog 73 #[.agg #[vt],vNd N vn vk] w fun e w'=>e= .returned (.bool (((N.ks.length:Int)==0)&&bareB N false false true false&&nmok N.x))/\Below w.heap.size w w':=by
 obtain⟨a1,c1,rfl⟩:=A.t.form
 obtain⟨a2,c2,rfl⟩:=A.n.form
 obtain⟨a3,c3,rfl⟩:=A.k.form
 have st:=St.start A
 have hlx:=A.lx
 have HX:Hid (N.x.size<=1100000):=by show _<=_;omega
 clear A
 have q20:=kqf hK 20 rfl
 have q21:=kqf hK 21 rfl
 have q22:=kqf hK 22 rfl
 have q27:=kqf hK 27 rfl
 have q23:=kqf hK 23 rfl
 have q24:=kqf hK 24 rfl
 have q25:=kqf hK 25 rfl
 have q26:=kqt hK 26 rfl
 clear hK
 cases t0:((N.ks.length:Int)==0)
 case' true=>
  cases t1:bareB N false false true false
  case' true=>
   cases t2:nmok N.x
 all_goals
  unfold vNd
  go_enter Tryz.func73,Tryz.ntmps73
  go_wp2_with (first|(go_at_call 108;refine(l2bare_fftf _ N _ _ st.a.n st.a.k st.a.l1).mono ?_;rintro e w' ⟨rfl,hb'⟩;replace st:=st.below hb';clear hb';obtain⟨x0,x1,x2,x3,x4,x5,x6,x7,x8,xf⟩:=nd_cells st.bn;have xt:=st.bt)|(go_at_call 113;refine(l1nameok_any N.x HX.out _).mono ?_;rintro e w' ⟨rfl,hb'⟩;replace st:=st.below hb';clear hb';obtain⟨x0,x1,x2,x3,x4,x5,x6,x7,x8,xf⟩:=nd_cells st.bn;have xt:=st.bt))
  go_ret
  exact⟨rfl,st.bel⟩
def sbB (ns:List Nd) (N:Nd):Nat->Nat->Bool
 |0,_=>true
 |f+1,j=>statK (kidK ns N j)&&sbB ns N f (j+1)
structure SbIs (ns:List Nd) (N:Nd) (f j:Nat) (R:Bool):Prop where
 out:sbB ns N f j=R
theorem l2st_s1 {w:World}{vt:Value}{ns:List Nd}{N:Nd}{vn vk:Value}(A:NArg w vt ns N vn vk) (hK:N.k=1):
  Calls Tryz.prog 72 #[.agg #[vt],vNd N vn vk] w fun e w'=>e= .returned (.bool (sbB ns N N.ks.length 0&&bareB N false false false false))/\Below w.heap.size w w':=by
 obtain⟨a1,c1,rfl⟩:=A.t.form
 obtain⟨a2,c2,rfl⟩:=A.n.form
 obtain⟨a3,c3,rfl⟩:=A.k.form
 have st:=St.start A
 have hl2:=A.l2
 clear A
 have q1:(N.k==1)=true:=by rw[hK];rfl
 clear hK
 obtain⟨R,hR⟩:∃R,sbB ns N N.ks.length 0=R:=⟨_,rfl⟩
 rw[hR]
 have HR:SbIs ns N N.ks.length 0 R:=⟨hR⟩
 clear hR
 unfold vNd
 go_enter Tryz.func72,Tryz.ntmps72
 go_wp2_with fail
 generalize (w.alloc (.cells #[.slice a1 ns.length c1] 29)).alloc (.cells #[.int .i64 N.k,.int .i64 N.f,.int .i64 N.t,.int .i64 N.l,.int .i64 N.op,.int .i64 N.n,.string N.x,.slice a2 N.nm.length c2,.slice a3 N.ks.length c3] 44)=W2 at st⊢
 go_loopw [6,18] (fun _ vj wr=>∃(j:Nat),vj= .int .i64 j/\j<=N.ks.length/\SbIs ns N (N.ks.length-j) j R/\St w (.slice a1 ns.length c1) ns N (.slice a2 N.nm.length c2) (.slice a3 N.ks.length c3) wr) (fun _ vj _=>N.ks.length-(intOf vj).toNat)
 case atStart=>exact⟨0,rfl,by omega,HR,st⟩
 case round=>
  clear st
  obtain⟨j,rfl,hj,HJ,st⟩:=hrel
  obtain⟨x0,x1,x2,x3,x4,x5,x6,x7,x8,xf⟩:=nd_cells st.bn
  have xt:=st.bt
  have hst:=HJ.out
  by_cases hlt:j<N.ks.length
  ·rw[show N.ks.length-j=(N.ks.length-(j+1))+1 by omega,sbB]at hst
   have hji:(j:Int)<(N.ks.length:Int):=by omega
   have ke:=kid_any st.a j hlt
   unfold vNd at ke
   generalize kidK ns N j=m at hst ke
   have kq:=fun w=>l2stat_any m w
   cases hx:statK m with
   |false=>
    rw[hx,Bool.false_and]at hst
    rw[hx]at kq
    have HS:Hid (false=R):=hst
    clear hst hx
    go_wp2_with (first|(go_at_call 107;refine ke.mono ?_;rintro e w' ⟨rfl,hb'⟩;replace st:=st.below hb';clear hb';obtain⟨x0,x1,x2,x3,x4,x5,x6,x7,x8,xf⟩:=nd_cells st.bn;have xt:=st.bt)|(go_at_call 71;refine(kq _).mono ?_;rintro e w' ⟨rfl,rfl⟩))
    go_ret
    exact⟨by rw[<-HS.out];rfl,st.bel⟩
   |true=>
    rw[hx,Bool.true_and]at hst
    rw[hx]at kq
    have HS:SbIs ns N (N.ks.length-(j+1)) (j+1) R:=⟨hst⟩
    clear hst hx
    go_wp2_with (first|(go_at_call 107;refine ke.mono ?_;rintro e w' ⟨rfl,hb'⟩;replace st:=st.below hb';clear hb';obtain⟨x0,x1,x2,x3,x4,x5,x6,x7,x8,xf⟩:=nd_cells st.bn;have xt:=st.bt)|(go_at_call 71;refine(kq _).mono ?_;rintro e w' ⟨rfl,rfl⟩))
    exact⟨⟨j+1,by go_num,by omega,HS,st⟩,by simp[intOf];omega⟩
  ·rw[show N.ks.length-j=0 by omega,sbB]at hst
   have HS:Hid (true=R):=hst
   have hji:¬(j:Int)<(N.ks.length:Int):=by omega
   clear hst
   go_wp2_with (go_at_call 108;refine(l2bare_ffff _ N _ _ st.a.n st.a.k st.a.l1).mono ?_;rintro e w' ⟨rfl,hb'⟩;replace st:=st.below hb';clear hb';obtain⟨x0,x1,x2,x3,x4,x5,x6,x7,x8,xf⟩:=nd_cells st.bn;have xt:=st.bt)
   go_ret
   exact⟨by rw[<-HS.out];rfl,st.bel⟩
def tgB (ns:List Nd) (N:Nd):Nat->Nat->Bool
 |0,_=>true
 |f+1,j=>targK (kidK ns N j)&&tgB ns N f (j+1)
structure TgIs (ns:List Nd) (N:Nd) (f j:Nat) (R:Bool):Prop where
 out:tgB ns N f j=R
theorem l2st_s5 {w:World}{vt:Value}{ns:List Nd}{N:Nd}{vn vk:Value}(A:NArg w vt ns N vn vk) (hK:N.k=5):
  Calls Tryz.prog 72 #[.agg #[vt],vNd N vn vk] w fun e w'=>e= .returned (.bool (bareB N false true false false&&(decide (1<=N.n/\N.n<(N.ks.length:Int))&&(tgB ns N N.n.toNat 0&&exB ns N (N.ks.length-N.n.toNat) N.n.toNat))))/\Below w.heap.size w w':=by
 obtain⟨a1,c1,rfl⟩:=A.t.form
 obtain⟨a2,c2,rfl⟩:=A.n.form
 obtain⟨a3,c3,rfl⟩:=A.k.form
 have st:=St.start A
 have hl2:=A.l2
 clear A
 have q1:=kqf hK 1 rfl
 have q2:=kqf hK 2 rfl
 have q3:=kqf hK 3 rfl
 have q4:=kqf hK 4 rfl
 have q5:=kqt hK 5 rfl
 clear hK
 unfold vNd
 cases t0:bareB N false true false false with
 |false=>
  go_enter Tryz.func72,Tryz.ntmps72
  go_wp2_with (first|(go_at_call 108;refine(l2bare_ftff _ N _ _ st.a.n st.a.k st.a.l1).mono ?_;rintro e w' ⟨rfl,hb'⟩;replace st:=st.below hb';clear hb';obtain⟨x0,x1,x2,x3,x4,x5,x6,x7,x8,xf⟩:=nd_cells st.bn;have xt:=st.bt))
  go_ret
  exact⟨rfl,st.bel⟩
 |true=>
  by_cases g1:N.n<1
  ·rw[decide_eq_false (by omega)]
   go_enter Tryz.func72,Tryz.ntmps72
   go_wp2_with (first|(go_at_call 108;refine(l2bare_ftff _ N _ _ st.a.n st.a.k st.a.l1).mono ?_;rintro e w' ⟨rfl,hb'⟩;replace st:=st.below hb';clear hb';obtain⟨x0,x1,x2,x3,x4,x5,x6,x7,x8,xf⟩:=nd_cells st.bn;have xt:=st.bt))
   go_ret
   exact⟨rfl,st.bel⟩
  by_cases g2:(N.ks.length:Int)<=N.n
  ·rw[decide_eq_false (by omega)]
   go_enter Tryz.func72,Tryz.ntmps72
   go_wp2_with (first|(go_at_call 108;refine(l2bare_ftff _ N _ _ st.a.n st.a.k st.a.l1).mono ?_;rintro e w' ⟨rfl,hb'⟩;replace st:=st.below hb';clear hb';obtain⟨x0,x1,x2,x3,x4,x5,x6,x7,x8,xf⟩:=nd_cells st.bn;have xt:=st.bt))
   go_ret
   exact⟨rfl,st.bel⟩
  rw[decide_eq_true (by omega)]
  obtain⟨m,hm⟩:∃m:Nat,N.n=(m:Int):=⟨N.n.toNat,by omega⟩
  have hmn:N.n.toNat=m:=by omega
  rw[hmn]
  have hml:m<N.ks.length:=by omega
  have HM:Hid (N.n=(m:Int)):=hm
  obtain⟨R,hR⟩:∃R,tgB ns N m 0=R:=⟨_,rfl⟩
  rw[hR]
  have HR:TgIs ns N m 0 R:=⟨hR⟩
  clear hR hm hmn
  go_enter Tryz.func72,Tryz.ntmps72
  go_wp2_with (first|(go_at_call 108;refine(l2bare_ftff _ N _ _ st.a.n st.a.k st.a.l1).mono ?_;rintro e w' ⟨rfl,hb'⟩;replace st:=st.below hb';clear hb';obtain⟨x0,x1,x2,x3,x4,x5,x6,x7,x8,xf⟩:=nd_cells st.bn;have xt:=st.bt))
  go_loopw [7] (fun vj wr=>∃(j:Nat),vj= .int .i64 j/\j<=m/\TgIs ns N (m-j) j R/\St w (.slice a1 ns.length c1) ns N (.slice a2 N.nm.length c2) (.slice a3 N.ks.length c3) wr) (fun vj _=>m-(intOf vj).toNat)
  case atStart=>exact⟨0,rfl,by omega,HR,st⟩
  case round=>
   clear st
   obtain⟨j,rfl,hj,HJ,st⟩:=hrel
   obtain⟨y0,y1,y2,y3,y4,y5,y6,y7,y8,yf⟩:=nd_cells st.bn
   have yt:=st.bt
   have hst:=HJ.out
   have hmm:=HM.out
   by_cases hlt:j<m
   ·rw[show m-j=(m-(j+1))+1 by omega,tgB]at hst
    have hji:(j:Int)<N.n:=by omega
    have ke:=kid_any st.a j (by omega)
    unfold vNd at ke
    have kq:=fun w=>l2target_any (kidK ns N j) w
    clear hmm
    generalize kidK ns N j=c at hst ke kq
    cases hx:targK c with
    |false=>
     rw[hx,Bool.false_and]at hst
     rw[hx]at kq
     have HS:Hid (false=R):=hst
     clear hst hx
     go_wp2_with (first|(go_at_call 107;refine ke.mono ?_;rintro e w' ⟨rfl,hb'⟩;replace st:=st.below hb';clear hb';obtain⟨x0,x1,x2,x3,x4,x5,x6,x7,x8,xf⟩:=nd_cells st.bn;have xt:=st.bt)|(go_at_call 111;refine(kq _).mono ?_;rintro e w' ⟨rfl,rfl⟩))
     go_ret
     exact⟨by rw[<-HS.out];rfl,st.bel⟩
    |true=>
     rw[hx,Bool.true_and]at hst
     rw[hx]at kq
     have HS:TgIs ns N (m-(j+1)) (j+1) R:=⟨hst⟩
     clear hst hx
     go_wp2_with (first|(go_at_call 107;refine ke.mono ?_;rintro e w' ⟨rfl,hb'⟩;replace st:=st.below hb';clear hb';obtain⟨x0,x1,x2,x3,x4,x5,x6,x7,x8,xf⟩:=nd_cells st.bn;have xt:=st.bt)|(go_at_call 111;refine(kq _).mono ?_;rintro e w' ⟨rfl,rfl⟩))
     exact⟨⟨j+1,by go_num,by omega,HS,st⟩,by simp[intOf];omega⟩
   ·rw[show m-j=0 by omega,tgB]at hst
    have HS:Hid (true=R):=hst
    have hji:¬(j:Int)<N.n:=by omega
    have kx:=l2exprs_any _ _ ns N _ _ m N.ks.length st.a.t st.a.n st.a.k st.a.ok (Nat.le_refl _) st.a.ln st.a.l2
    unfold vNd at kx
    rw[<-hmm]at kx
    clear hst hmm
    go_wp2_with (go_at_call 110;refine kx.mono ?_;rintro e w' ⟨rfl,hb'⟩;replace st:=st.below hb';clear hb';obtain⟨x0,x1,x2,x3,x4,x5,x6,x7,x8,xf⟩:=nd_cells st.bn;have xt:=st.bt)
    go_ret
    exact⟨by rw[<-HS.out];rfl,st.bel⟩
end Go.Proofs.YtelfejiiabbpfaaGreatDoor
