import Derived.Test.YtelfejiiabbpfaaGreatDoorHRk11
import Derived.Test.YtelfejiiabbpfaaGreatDoorHRk02
set_option linter.unusedVariables false
set_option maxRecDepth 100000
set_option maxHeartbeats 3200000
namespace Go.Proofs.YtelfejiiabbpfaaGreatDoor
open Go.RowKit Go.Maps Go.WideMaps
theorem kidm_any {w:World}{vt:Value}{ns:List Nd}{N:Nd}{vn vk:Value}(A:NArg w vt ns N vn vk) (hi:0<N.ks.length):
  Calls Tryz.prog 107 #[.agg #[vt],.agg #[.int .i64 N.k,.int .i64 N.f,.int .i64 N.t,.int .i64 N.l,.int .i64 N.op,.int .i64 N.n,.string N.x,vn,vk],.int .i64 ((N.ks.length:Int)-1)] w fun e w'=>e= .returned (.int .i64 (kidK ns N (N.ks.length-1)))/\Below w.heap.size w w':=by
 have h:=kid_any A (N.ks.length-1) (by omega)
 rw[show((N.ks.length-1:Nat):Int)=(N.ks.length:Int)-1 by omega]at h
 exact h
theorem exm_any {w:World}{vt:Value}{ns:List Nd}{N:Nd}{vn vk:Value}(A:NArg w vt ns N vn vk) (hi:0<N.ks.length):
  Calls Tryz.prog 110 #[.agg #[vt],.agg #[.int .i64 N.k,.int .i64 N.f,.int .i64 N.t,.int .i64 N.l,.int .i64 N.op,.int .i64 N.n,.string N.x,vn,vk],.int .i64 0,.int .i64 ((N.ks.length:Int)-1)] w fun e w'=>e= .returned (.bool (exB ns N (N.ks.length-1) 0))/\Below w.heap.size w w':=by
 have h:=l2exprs_any w vt ns N vn vk 0 (N.ks.length-1) A.t A.n A.k A.ok (by omega) A.ln A.l2
 rw[show((N.ks.length-1:Nat):Int)=(N.ks.length:Int)-1 by omega]at h
 exact h
theorem l2st_s9 {w:World}{vt:Value}{ns:List Nd}{N:Nd}{vn vk:Value}(A:NArg w vt ns N vn vk) (hK:N.k=9):
  Calls Tryz.prog 72 #[.agg #[vt],vNd N vn vk] w fun e w'=>e= .returned (.bool (bareB N false false false true&&(namedB N 1 1&&(((N.ks.length:Int)==3||(N.ks.length:Int)==4)&&(exB ns N (N.ks.length-1) 0&&(kidK ns N (N.ks.length-1)==1))))))/\Below w.heap.size w w':=by
 obtain⟨a1,c1,rfl⟩:=A.t.form
 obtain⟨a2,c2,rfl⟩:=A.n.form
 obtain⟨a3,c3,rfl⟩:=A.k.form
 have st:=St.start A
 have hl2:=A.l2
 clear A
 have q1:=kqf hK 1 rfl
 have q2:=kqf hK 2 rfl
 have q3:=kqf hK 3 rfl
 have q4:=kqf hK 4 rfl
 have q5:=kqf hK 5 rfl
 have q6:=kqf hK 6 rfl
 have q16:=kqf hK 16 rfl
 have q7:=kqf hK 7 rfl
 have q8:=kqf hK 8 rfl
 have q9:=kqt hK 9 rfl
 clear hK
 unfold vNd
 cases t0:bareB N false false false true
 case' true=>
  cases t1:namedB N 1 1
  case' true=>
   cases t2:((N.ks.length:Int)==3)
   case' false=>cases t5:((N.ks.length:Int)==4)
   case' false.true=>
    have HLT:Hid (0<N.ks.length):=by show _<_;have:=eq_of_beq t5;omega
    cases t3:exB ns N (N.ks.length-1) 0
    case' true=>cases t4:(kidK ns N (N.ks.length-1)==1)
   case' true.true.true=>
    have HLT:Hid (0<N.ks.length):=by show _<_;have:=eq_of_beq t2;omega
    cases t3:exB ns N (N.ks.length-1) 0
    case' true=>cases t4:(kidK ns N (N.ks.length-1)==1)
 all_goals
  go_enter Tryz.func72,Tryz.ntmps72
  go_wp2_with (first|(go_at_call 108;refine(l2bare_ffft _ N _ _ st.a.n st.a.k st.a.l1).mono ?_;rintro e w' ⟨rfl,hb'⟩;replace st:=st.below hb';clear hb';obtain⟨x0,x1,x2,x3,x4,x5,x6,x7,x8,xf⟩:=nd_cells st.bn;have xt:=st.bt)|(go_at_call 109;refine(l2named_any _ N _ _ 1 1 st.a.n st.a.k st.a.l1 st.a.ls).mono ?_;rintro e w' ⟨rfl,hb'⟩;replace st:=st.below hb';clear hb';obtain⟨x0,x1,x2,x3,x4,x5,x6,x7,x8,xf⟩:=nd_cells st.bn;have xt:=st.bt)|(go_at_call 110;with_reducible refine(exm_any st.a HLT.out).mono ?_;rintro e w' ⟨rfl,hb'⟩;replace st:=st.below hb';clear hb';obtain⟨x0,x1,x2,x3,x4,x5,x6,x7,x8,xf⟩:=nd_cells st.bn;have xt:=st.bt)|(go_at_call 107;with_reducible refine(kidm_any st.a HLT.out).mono ?_;rintro e w' ⟨rfl,hb'⟩;replace st:=st.below hb';clear hb';obtain⟨x0,x1,x2,x3,x4,x5,x6,x7,x8,xf⟩:=nd_cells st.bn;have xt:=st.bt))
  go_ret
  exact⟨rfl,st.bel⟩
end Go.Proofs.YtelfejiiabbpfaaGreatDoor
