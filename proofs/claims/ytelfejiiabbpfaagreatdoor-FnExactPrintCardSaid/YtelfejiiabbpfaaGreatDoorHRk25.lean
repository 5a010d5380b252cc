import Derived.Test.YtelfejiiabbpfaaGreatDoorHRk11
import Derived.Test.YtelfejiiabbpfaaGreatDoorHRk02
set_option linter.unusedVariables false
set_option maxRecDepth 100000
set_option maxHeartbeats 3200000
namespace Go.Proofs.YtelfejiiabbpfaaGreatDoor
open Go.RowKit Go.Maps Go.WideMaps
theorem kid2_any {w:World}{vt:Value}{ns:List Nd}{N:Nd}{vn vk:Value}(A:NArg w vt ns N vn vk) (hi:2<N.ks.length):
  Calls Tryz.prog 107 #[.agg #[vt],.agg #[.int .i64 N.k,.int .i64 N.f,.int .i64 N.t,.int .i64 N.l,.int .i64 N.op,.int .i64 N.n,.string N.x,vn,vk],.int .i64 2] w fun e w'=>e= .returned (.int .i64 (kidK ns N 2))/\Below w.heap.size w w':=kid_any A 2 hi
theorem l2st_s7 {w:World}{vt:Value}{ns:List Nd}{N:Nd}{vn vk:Value}(A:NArg w vt ns N vn vk) (hK:N.k=7):
  Calls Tryz.prog 72 #[.agg #[vt],vNd N vn vk] w fun e w'=>e= .returned (.bool (bareB N false false false false&&(decide (2<=N.ks.length/\N.ks.length<=3)&&(exB ns N 1 0&&(!(kidK ns N 1 !=1)&&((N.ks.length:Int)==2||(kidK ns N 2==1||kidK ns N 2==7)))))))/\Below w.heap.size w w':=by
 obtain⟨a1,c1,rfl⟩:=A.t.form
 obtain⟨a2,c2,rfl⟩:=A.n.form
 obtain⟨a3,c3,rfl⟩:=A.k.form
 have st:=St.start A
 have hl2:=A.l2
 clear A
 have q1:=kqf hK 1 rfl
 have q2:=kqf hK 2 rfl
 have q3:=kqf hK 3 rfl
 have q4:=kqf hK 4 rfl
 have q5:=kqf hK 5 rfl
 have q6:=kqf hK 6 rfl
 have q16:=kqf hK 16 rfl
 have q7:=kqt hK 7 rfl
 clear hK
 unfold vNd
 cases t0:bareB N false false false false
 case' true=>
  by_cases g1:(N.ks.length:Int)<2
  case' pos=>rw[decide_eq_false (by omega)]
  case' neg=>
   by_cases g2:(3:Int)<(N.ks.length:Int)
   case' pos=>rw[decide_eq_false (by omega)]
   case' neg=>
    rw[decide_eq_true (by omega)]
    have HLE:Hid (1<=N.ks.length):=by show _<=_;omega
    have HLT1:Hid (1<N.ks.length):=by show _<_;omega
    cases t1:exB ns N 1 0
    case' true=>
     cases t2:(kidK ns N 1 !=1)
     case' false=>
      cases t3:((N.ks.length:Int)==2)
      case' false=>
       have HLT2:Hid (2<N.ks.length):=by show _<_;have:=ne_of_beq_false t3;omega
       cases t4:(kidK ns N 2==1)
       case' false=>cases t5:(kidK ns N 2==7)
 all_goals
  go_enter Tryz.func72,Tryz.ntmps72
  go_wp2_with (first|(go_at_call 108;refine(l2bare_ffff _ N _ _ st.a.n st.a.k st.a.l1).mono ?_;rintro e w' ⟨rfl,hb'⟩;replace st:=st.below hb';clear hb';obtain⟨x0,x1,x2,x3,x4,x5,x6,x7,x8,xf⟩:=nd_cells st.bn;have xt:=st.bt)|(go_at_call 110;refine(l2exprs_any _ _ ns N _ _ 0 1 st.a.t st.a.n st.a.k st.a.ok HLE.out st.a.ln st.a.l2).mono ?_;rintro e w' ⟨rfl,hb'⟩;replace st:=st.below hb';clear hb';obtain⟨x0,x1,x2,x3,x4,x5,x6,x7,x8,xf⟩:=nd_cells st.bn;have xt:=st.bt)|(go_at_call 107;with_reducible refine(kid1_any st.a HLT1.out).mono ?_;rintro e w' ⟨rfl,hb'⟩;replace st:=st.below hb';clear hb';obtain⟨x0,x1,x2,x3,x4,x5,x6,x7,x8,xf⟩:=nd_cells st.bn;have xt:=st.bt)|(go_at_call 107;with_reducible refine(kid2_any st.a HLT2.out).mono ?_;rintro e w' ⟨rfl,hb'⟩;replace st:=st.below hb';clear hb';obtain⟨x0,x1,x2,x3,x4,x5,x6,x7,x8,xf⟩:=nd_cells st.bn;have xt:=st.bt))
  go_ret
  exact⟨rfl,st.bel⟩
end Go.Proofs.YtelfejiiabbpfaaGreatDoor
