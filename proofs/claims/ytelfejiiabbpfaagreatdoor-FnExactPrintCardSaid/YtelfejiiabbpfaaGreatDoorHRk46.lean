import Derived.Test.YtelfejiiabbpfaaGreatDoorHRk28
set_option linter.unusedVariables false
set_option maxRecDepth 100000
set_option maxHeartbeats 6400000
namespace Go.Proofs.YtelfejiiabbpfaaGreatDoor
open Go.RowKit
theorem expr_index (w0:World) (p1:Addr) (n c1:Nat) (ns:List Nd) (hNs:NdsAt w0 (.slice (some p1) n c1) ns) (hcap:KCap w0 p1 ns) (hnn:ns.length=n) (hln:n<=1048576) (tab:Nat) (i:Nat) (hi:i<n) (N:Nd) (hN:nodeI ns i=N) (hlk:N.ks.length<=1048576) (hk:N.k=32) (hop:N.k=31->1<=N.op/\N.op<=18) (least:Int) (hle:¬powP N.k N.op<least) (q0:Nat) (hk0:N.ks[0]?=some (q0:Int)) (Y0:ByteArray) (hB0:Wr w0 (.slice (some p1) n c1) tab 79 #[pW w0,.int .i64 (q0:Int)] Y0) (q1:Nat) (hk1:N.ks[1]?=some (q1:Int)) (E1:ByteArray) (hE1:Wr w0 (.slice (some p1) n c1) tab 24 #[pW w0,.int .i64 (q1:Int),.int .i64 0] E1):
  Wr w0 (.slice (some p1) n c1) tab 24 #[pW w0,.int .i64 (i:Int),.int .i64 least] (Y0++⟨#[91]⟩++E1++⟨#[93]⟩):=by
 intro T w h hl
 obtain⟨an,M,cn,ak,L,ck,R⟩:=nd_in hNs hcap (show i<ns.length by omega)
 rw[hN]at R
 have hlt:=h.lt
 obtain⟨z0,z2,zf⟩:=h.cells
 have hL:=R.hL
 have hM:=R.hM
 obtain⟨pk,rfl⟩:=R.ks.ptr (by have:=kid_lt hk1;omega)
 have hj0:(0:Int)<(L:Int):=by have:=kid_lt hk0;omega
 have hj1:(1:Int)<(L:Int):=by have:=kid_lt hk1;omega
 obtain⟨m0,m1,m2,m3,m4,m5,m6,m7,m8,_,_⟩:=R.rd w h.bel
 have B0:Hid (Bx w0 (.slice (some p1) n c1) tab w N (.slice an M cn) (.slice (some pk) L ck) T (w.alloc (boxN N (.slice an M cn) (.slice (some pk) L ck)))):=Bx.new h N _ _
 try simp only[ByteArray.size_append]at hl
 have hii:(i:Int)<(n:Int):=by omega
 have hii0:(0:Int)<=(i:Int):=by omega
 have cel:Hid (∀(T:ByteArray) (W:World),Bx w0 (.slice (some p1) n c1) tab w N (.slice an M cn) (.slice (some pk) L ck) T W->Cel W w.heap.size N (.slice an M cn) (.slice (some pk) L ck)/\W.cell? pk=some (.int .i64 (q0:Int))/\W.cell? ⟨pk.block,pk.off+1,none⟩=some (.int .i64 (q1:Int))):=fun T W B=>⟨B.cells,B.kid0 R.ks hk0,B.kid R.ks hk1 (by decide)⟩
 have g28:=kqf hk 28 rfl
 have g29:=kqf hk 29 rfl
 have g31:=kqf hk 31 rfl
 have g30:=kqf hk 30 rfl
 have g32:=kqt hk 32 rfl
 have KP:Hid (∀w:World,Calls Tryz.prog 75 #[vNd N (.slice an M cn) (.slice (some pk) L ck)] w fun e w'=>e= .returned (.int .i64 (powP N.k N.op))/\Below w.heap.size w w'):=fun w=>l4power_any N _ _ hop w
 have S0:Hid (Wr w0 (.slice (some p1) n c1) tab 79 _ (Y0)):=hB0
 have S1:Hid (Wr w0 (.slice (some p1) n c1) tab 12 _ (⟨#[91]⟩)):=fun T' W' hp hl=>say_any w0 _ T' (⟨#[91]⟩) _ W' hp hl
 have S2:Hid (Wr w0 (.slice (some p1) n c1) tab 24 _ (E1)):=hE1
 have S3:Hid (Wr w0 (.slice (some p1) n c1) tab 12 _ (⟨#[93]⟩)):=fun T' W' hp hl=>say_any w0 _ T' (⟨#[93]⟩) _ W' hp hl
 have HR:Hid (NdR w0 p1 i N an M cn (some pk) L ck):=R
 obtain⟨⟨x0,x1,x2,x3,x4,x5,x6,x7,x8⟩,y0,y1⟩:=cel.out _ _ B0.out
 clear h R hNs hcap hN hnn zf z2 hL hM hk hop
 unfold vNd at KP
 generalize hpw:powP N.k N.op=pw at *
 clear hpw
 go_enter Tryz.func24,Tryz.ntmps24
 go_wp2_with (go_at_call 75;fail)
 refine(KP.out _).mono ?_
 rintro e yp ⟨rfl,hbp⟩
 have C0:Hid (Bx w0 (.slice (some p1) n c1) tab w N (.slice an M cn) (.slice (some pk) L ck) T yp):=B0.out.below hbp
 obtain⟨⟨x0,x1,x2,x3,x4,x5,x6,x7,x8⟩,y0,y1⟩:=cel.out _ _ C0.out
 clear hbp m0 m1 m2 m3 m4 m5 m6 m7 m8 z0
 go_wp2_with (go_at_call 79;fail)
 refine(S0.out _ _ C0.out.pr (by(try simp only[ByteArray.size_append]);omega)).mono ?_
 rintro e yw0 ⟨rfl,qq,kk⟩
 have B1:Hid (Bx w0 (.slice (some p1) n c1) tab w N (.slice an M cn) (.slice (some pk) L ck) (T++(Y0)) yw0):=C0.out.next hlt qq kk
 obtain⟨⟨x0,x1,x2,x3,x4,x5,x6,x7,x8⟩,y0,y1⟩:=cel.out _ _ B1.out
 clear qq kk
 go_wp2_with (go_at_call 12;fail)
 refine(S1.out _ _ B1.out.pr (by(try simp only[ByteArray.size_append]);omega)).mono ?_
 rintro e yw1 ⟨rfl,qq,kk⟩
 have B2:Hid (Bx w0 (.slice (some p1) n c1) tab w N (.slice an M cn) (.slice (some pk) L ck) (T++(Y0)++(⟨#[91]⟩)) yw1):=B1.out.next hlt qq kk
 obtain⟨⟨x0,x1,x2,x3,x4,x5,x6,x7,x8⟩,y0,y1⟩:=cel.out _ _ B2.out
 clear qq kk
 go_wp2_with (go_at_call 24;fail)
 refine(S2.out _ _ B2.out.pr (by(try simp only[ByteArray.size_append]);omega)).mono ?_
 rintro e yw2 ⟨rfl,qq,kk⟩
 have B3:Hid (Bx w0 (.slice (some p1) n c1) tab w N (.slice an M cn) (.slice (some pk) L ck) (T++(Y0)++(⟨#[91]⟩)++(E1)) yw2):=B2.out.next hlt qq kk
 obtain⟨⟨x0,x1,x2,x3,x4,x5,x6,x7,x8⟩,y0,y1⟩:=cel.out _ _ B3.out
 clear qq kk
 go_wp2_with (go_at_call 12;fail)
 refine(S3.out _ _ B3.out.pr (by(try simp only[ByteArray.size_append]);omega)).mono ?_
 rintro e yw3 ⟨rfl,qq,kk⟩
 have B4:Hid (Bx w0 (.slice (some p1) n c1) tab w N (.slice an M cn) (.slice (some pk) L ck) (T++(Y0)++(⟨#[91]⟩)++(E1)++(⟨#[93]⟩)) yw3):=B3.out.next hlt qq kk
 obtain⟨⟨x0,x1,x2,x3,x4,x5,x6,x7,x8⟩,y0,y1⟩:=cel.out _ _ B4.out
 clear qq kk
 go_wp2_with fail
 go_end0
 refine⟨rfl,?_,B4.out.kq⟩
 have:=B4.out.pr
 simpa only[ByteArray.append_assoc] using this
theorem expr_field (w0:World) (p1:Addr) (n c1:Nat) (ns:List Nd) (hNs:NdsAt w0 (.slice (some p1) n c1) ns) (hcap:KCap w0 p1 ns) (hnn:ns.length=n) (hln:n<=1048576) (tab:Nat) (i:Nat) (hi:i<n) (N:Nd) (hN:nodeI ns i=N) (hlk:N.ks.length<=1048576) (hk:N.k=33) (hop:N.k=31->1<=N.op/\N.op<=18) (least:Int) (hle:¬powP N.k N.op<least) (q0:Nat) (hk0:N.ks[0]?=some (q0:Int)) (Y0:ByteArray) (hB0:Wr w0 (.slice (some p1) n c1) tab 79 #[pW w0,.int .i64 (q0:Int)] Y0):
  Wr w0 (.slice (some p1) n c1) tab 24 #[pW w0,.int .i64 (i:Int),.int .i64 least] (Y0++(⟨#[46]⟩++N.x)):=by
 intro T w h hl
 obtain⟨an,M,cn,ak,L,ck,R⟩:=nd_in hNs hcap (show i<ns.length by omega)
 rw[hN]at R
 have hlt:=h.lt
 obtain⟨z0,z2,zf⟩:=h.cells
 have hL:=R.hL
 have hM:=R.hM
 obtain⟨pk,rfl⟩:=R.ks.ptr (by have:=kid_lt hk0;omega)
 have hj0:(0:Int)<(L:Int):=by have:=kid_lt hk0;omega
 obtain⟨m0,m1,m2,m3,m4,m5,m6,m7,m8,_,_⟩:=R.rd w h.bel
 have B0:Hid (Bx w0 (.slice (some p1) n c1) tab w N (.slice an M cn) (.slice (some pk) L ck) T (w.alloc (boxN N (.slice an M cn) (.slice (some pk) L ck)))):=Bx.new h N _ _
 try simp only[ByteArray.size_append]at hl
 have hii:(i:Int)<(n:Int):=by omega
 have hii0:(0:Int)<=(i:Int):=by omega
 have cel:Hid (∀(T:ByteArray) (W:World),Bx w0 (.slice (some p1) n c1) tab w N (.slice an M cn) (.slice (some pk) L ck) T W->Cel W w.heap.size N (.slice an M cn) (.slice (some pk) L ck)/\W.cell? pk=some (.int .i64 (q0:Int))):=fun T W B=>⟨B.cells,B.kid0 R.ks hk0⟩
 have g28:=kqf hk 28 rfl
 have g29:=kqf hk 29 rfl
 have g31:=kqf hk 31 rfl
 have g30:=kqf hk 30 rfl
 have g32:=kqf hk 32 rfl
 have g33:=kqt hk 33 rfl
 have KP:Hid (∀w:World,Calls Tryz.prog 75 #[vNd N (.slice an M cn) (.slice (some pk) L ck)] w fun e w'=>e= .returned (.int .i64 (powP N.k N.op))/\Below w.heap.size w w'):=fun w=>l4power_any N _ _ hop w
 have S0:Hid (Wr w0 (.slice (some p1) n c1) tab 79 _ (Y0)):=hB0
 have S1:Hid (Wr w0 (.slice (some p1) n c1) tab 12 _ ((⟨#[46]⟩++N.x))):=fun T' W' hp hl=>say_any w0 _ T' ((⟨#[46]⟩++N.x)) _ W' hp hl
 have HR:Hid (NdR w0 p1 i N an M cn (some pk) L ck):=R
 obtain⟨⟨x0,x1,x2,x3,x4,x5,x6,x7,x8⟩,y0⟩:=cel.out _ _ B0.out
 clear h R hNs hcap hN hnn zf z2 hL hM hk hop
 unfold vNd at KP
 generalize hpw:powP N.k N.op=pw at *
 clear hpw
 go_enter Tryz.func24,Tryz.ntmps24
 go_wp2_with (go_at_call 75;fail)
 refine(KP.out _).mono ?_
 rintro e yp ⟨rfl,hbp⟩
 have C0:Hid (Bx w0 (.slice (some p1) n c1) tab w N (.slice an M cn) (.slice (some pk) L ck) T yp):=B0.out.below hbp
 obtain⟨⟨x0,x1,x2,x3,x4,x5,x6,x7,x8⟩,y0⟩:=cel.out _ _ C0.out
 clear hbp m0 m1 m2 m3 m4 m5 m6 m7 m8 z0
 go_wp2_with (go_at_call 79;fail)
 refine(S0.out _ _ C0.out.pr (by(try simp only[ByteArray.size_append]);omega)).mono ?_
 rintro e yw0 ⟨rfl,qq,kk⟩
 have B1:Hid (Bx w0 (.slice (some p1) n c1) tab w N (.slice an M cn) (.slice (some pk) L ck) (T++(Y0)) yw0):=C0.out.next hlt qq kk
 obtain⟨⟨x0,x1,x2,x3,x4,x5,x6,x7,x8⟩,y0⟩:=cel.out _ _ B1.out
 clear qq kk
 go_wp2_with (go_at_call 12;fail)
 refine(S1.out _ _ B1.out.pr (by(try simp only[ByteArray.size_append]);omega)).mono ?_
 rintro e yw1 ⟨rfl,qq,kk⟩
 have B2:Hid (Bx w0 (.slice (some p1) n c1) tab w N (.slice an M cn) (.slice (some pk) L ck) (T++(Y0)++((⟨#[46]⟩++N.x))) yw1):=B1.out.next hlt qq kk
 obtain⟨⟨x0,x1,x2,x3,x4,x5,x6,x7,x8⟩,y0⟩:=cel.out _ _ B2.out
 clear qq kk
 go_wp2_with fail
 go_end0
 refine⟨rfl,?_,B2.out.kq⟩
 have:=B2.out.pr
 simpa only[ByteArray.append_assoc] using this
theorem expr_fn (w0:World) (p1:Addr) (n c1:Nat) (ns:List Nd) (hNs:NdsAt w0 (.slice (some p1) n c1) ns) (hcap:KCap w0 p1 ns) (hnn:ns.length=n) (hln:n<=1048576) (tab:Nat) (i:Nat) (hi:i<n) (N:Nd) (hN:nodeI ns i=N) (hlk:N.ks.length<=1048576) (hk:N.k=36) (hop:N.k=31->1<=N.op/\N.op<=18) (least:Int) (hle:¬powP N.k N.op<least) (Y:ByteArray) (hB:Wr w0 (.slice (some p1) n c1) tab 25 #[pW w0,.int .i64 (i:Int)] Y):
  Wr w0 (.slice (some p1) n c1) tab 24 #[pW w0,.int .i64 (i:Int),.int .i64 least] (⟨#[102,110]⟩++Y):=by
 intro T w h hl
 obtain⟨an,M,cn,ak,L,ck,R⟩:=nd_in hNs hcap (show i<ns.length by omega)
 rw[hN]at R
 have hlt:=h.lt
 obtain⟨z0,z2,zf⟩:=h.cells
 have hL:=R.hL
 have hM:=R.hM
 obtain⟨m0,m1,m2,m3,m4,m5,m6,m7,m8,_,_⟩:=R.rd w h.bel
 have B0:Hid (Bx w0 (.slice (some p1) n c1) tab w N (.slice an M cn) (.slice ak L ck) T (w.alloc (boxN N (.slice an M cn) (.slice ak L ck)))):=Bx.new h N _ _
 try simp only[ByteArray.size_append]at hl
 have hii:(i:Int)<(n:Int):=by omega
 have hii0:(0:Int)<=(i:Int):=by omega
 have cel:Hid (∀(T:ByteArray) (W:World),Bx w0 (.slice (some p1) n c1) tab w N (.slice an M cn) (.slice ak L ck) T W->Cel W w.heap.size N (.slice an M cn) (.slice ak L ck)):=fun T W B=>B.cells
 have g28:=kqf hk 28 rfl
 have g29:=kqf hk 29 rfl
 have g31:=kqf hk 31 rfl
 have g30:=kqf hk 30 rfl
 have g32:=kqf hk 32 rfl
 have g33:=kqf hk 33 rfl
 have g34:=kqf hk 34 rfl
 have g35:=kqf hk 35 rfl
 have g36:=kqt hk 36 rfl
 have KP:Hid (∀w:World,Calls Tryz.prog 75 #[vNd N (.slice an M cn) (.slice ak L ck)] w fun e w'=>e= .returned (.int .i64 (powP N.k N.op))/\Below w.heap.size w w'):=fun w=>l4power_any N _ _ hop w
 have S0:Hid (Wr w0 (.slice (some p1) n c1) tab 12 _ (⟨#[102,110]⟩)):=fun T' W' hp hl=>say_any w0 _ T' (⟨#[102,110]⟩) _ W' hp hl
 have S1:Hid (Wr w0 (.slice (some p1) n c1) tab 25 _ (Y)):=hB
 have HR:Hid (NdR w0 p1 i N an M cn ak L ck):=R
 obtain⟨x0,x1,x2,x3,x4,x5,x6,x7,x8⟩:=cel.out _ _ B0.out
 clear h R hNs hcap hN hnn zf z2 hL hM hk hop
 unfold vNd at KP
 generalize hpw:powP N.k N.op=pw at *
 clear hpw
 go_enter Tryz.func24,Tryz.ntmps24
 go_wp2_with (go_at_call 75;fail)
 refine(KP.out _).mono ?_
 rintro e yp ⟨rfl,hbp⟩
 have C0:Hid (Bx w0 (.slice (some p1) n c1) tab w N (.slice an M cn) (.slice ak L ck) T yp):=B0.out.below hbp
 obtain⟨x0,x1,x2,x3,x4,x5,x6,x7,x8⟩:=cel.out _ _ C0.out
 clear hbp m0 m1 m2 m3 m4 m5 m6 m7 m8 z0
 go_wp2_with (go_at_call 12;fail)
 refine(S0.out _ _ C0.out.pr (by(try simp only[ByteArray.size_append]);omega)).mono ?_
 rintro e yw0 ⟨rfl,qq,kk⟩
 have B1:Hid (Bx w0 (.slice (some p1) n c1) tab w N (.slice an M cn) (.slice ak L ck) (T++(⟨#[102,110]⟩)) yw0):=C0.out.next hlt qq kk
 obtain⟨x0,x1,x2,x3,x4,x5,x6,x7,x8⟩:=cel.out _ _ B1.out
 clear qq kk
 go_wp2_with (go_at_call 25;fail)
 refine(S1.out _ _ B1.out.pr (by(try simp only[ByteArray.size_append]);omega)).mono ?_
 rintro e yw1 ⟨rfl,qq,kk⟩
 have B2:Hid (Bx w0 (.slice (some p1) n c1) tab w N (.slice an M cn) (.slice ak L ck) (T++(⟨#[102,110]⟩)++(Y)) yw1):=B1.out.next hlt qq kk
 obtain⟨x0,x1,x2,x3,x4,x5,x6,x7,x8⟩:=cel.out _ _ B2.out
 clear qq kk
 go_wp2_with fail
 go_end0
 refine⟨rfl,?_,B2.out.kq⟩
 have:=B2.out.pr
 simpa only[ByteArray.append_assoc] using this
theorem expr_one (w0:World) (p1:Addr) (n c1:Nat) (ns:List Nd) (hNs:NdsAt w0 (.slice (some p1) n c1) ns) (hcap:KCap w0 p1 ns) (hnn:ns.length=n) (hln:n<=1048576) (tab:Nat) (i:Nat) (hi:i<n) (N:Nd) (hN:nodeI ns i=N) (hlk:N.ks.length<=1048576) (hk:N.k=37) (hop:N.k=31->1<=N.op/\N.op<=18) (least:Int) (hle:¬powP N.k N.op<least) (q0:Nat) (hk0:N.ks[0]?=some (q0:Int)) (E0:ByteArray) (hE0:Wr w0 (.slice (some p1) n c1) tab 24 #[pW w0,.int .i64 (q0:Int),.int .i64 0] E0):
  Wr w0 (.slice (some p1) n c1) tab 24 #[pW w0,.int .i64 (i:Int),.int .i64 least] (⟨#[40]⟩++E0++⟨#[41]⟩):=by
 intro T w h hl
 obtain⟨an,M,cn,ak,L,ck,R⟩:=nd_in hNs hcap (show i<ns.length by omega)
 rw[hN]at R
 have hlt:=h.lt
 obtain⟨z0,z2,zf⟩:=h.cells
 have hL:=R.hL
 have hM:=R.hM
 obtain⟨pk,rfl⟩:=R.ks.ptr (by have:=kid_lt hk0;omega)
 have hj0:(0:Int)<(L:Int):=by have:=kid_lt hk0;omega
 obtain⟨m0,m1,m2,m3,m4,m5,m6,m7,m8,_,_⟩:=R.rd w h.bel
 have B0:Hid (Bx w0 (.slice (some p1) n c1) tab w N (.slice an M cn) (.slice (some pk) L ck) T (w.alloc (boxN N (.slice an M cn) (.slice (some pk) L ck)))):=Bx.new h N _ _
 try simp only[ByteArray.size_append]at hl
 have hii:(i:Int)<(n:Int):=by omega
 have hii0:(0:Int)<=(i:Int):=by omega
 have cel:Hid (∀(T:ByteArray) (W:World),Bx w0 (.slice (some p1) n c1) tab w N (.slice an M cn) (.slice (some pk) L ck) T W->Cel W w.heap.size N (.slice an M cn) (.slice (some pk) L ck)/\W.cell? pk=some (.int .i64 (q0:Int))):=fun T W B=>⟨B.cells,B.kid0 R.ks hk0⟩
 have g28:=kqf hk 28 rfl
 have g29:=kqf hk 29 rfl
 have g31:=kqf hk 31 rfl
 have g30:=kqf hk 30 rfl
 have g32:=kqf hk 32 rfl
 have g33:=kqf hk 33 rfl
 have g34:=kqf hk 34 rfl
 have g35:=kqf hk 35 rfl
 have g36:=kqf hk 36 rfl
 have g37:=kqt hk 37 rfl
 have KP:Hid (∀w:World,Calls Tryz.prog 75 #[vNd N (.slice an M cn) (.slice (some pk) L ck)] w fun e w'=>e= .returned (.int .i64 (powP N.k N.op))/\Below w.heap.size w w'):=fun w=>l4power_any N _ _ hop w
 have S0:Hid (Wr w0 (.slice (some p1) n c1) tab 12 _ (⟨#[40]⟩)):=fun T' W' hp hl=>say_any w0 _ T' (⟨#[40]⟩) _ W' hp hl
 have S1:Hid (Wr w0 (.slice (some p1) n c1) tab 24 _ (E0)):=hE0
 have S2:Hid (Wr w0 (.slice (some p1) n c1) tab 12 _ (⟨#[41]⟩)):=fun T' W' hp hl=>say_any w0 _ T' (⟨#[41]⟩) _ W' hp hl
 have HR:Hid (NdR w0 p1 i N an M cn (some pk) L ck):=R
 obtain⟨⟨x0,x1,x2,x3,x4,x5,x6,x7,x8⟩,y0⟩:=cel.out _ _ B0.out
 clear h R hNs hcap hN hnn zf z2 hL hM hk hop
 unfold vNd at KP
 generalize hpw:powP N.k N.op=pw at *
 clear hpw
 go_enter Tryz.func24,Tryz.ntmps24
 go_wp2_with (go_at_call 75;fail)
 refine(KP.out _).mono ?_
 rintro e yp ⟨rfl,hbp⟩
 have C0:Hid (Bx w0 (.slice (some p1) n c1) tab w N (.slice an M cn) (.slice (some pk) L ck) T yp):=B0.out.below hbp
 obtain⟨⟨x0,x1,x2,x3,x4,x5,x6,x7,x8⟩,y0⟩:=cel.out _ _ C0.out
 clear hbp m0 m1 m2 m3 m4 m5 m6 m7 m8 z0
 go_wp2_with (go_at_call 12;fail)
 refine(S0.out _ _ C0.out.pr (by(try simp only[ByteArray.size_append]);omega)).mono ?_
 rintro e yw0 ⟨rfl,qq,kk⟩
 have B1:Hid (Bx w0 (.slice (some p1) n c1) tab w N (.slice an M cn) (.slice (some pk) L ck) (T++(⟨#[40]⟩)) yw0):=C0.out.next hlt qq kk
 obtain⟨⟨x0,x1,x2,x3,x4,x5,x6,x7,x8⟩,y0⟩:=cel.out _ _ B1.out
 clear qq kk
 go_wp2_with (go_at_call 24;fail)
 refine(S1.out _ _ B1.out.pr (by(try simp only[ByteArray.size_append]);omega)).mono ?_
 rintro e yw1 ⟨rfl,qq,kk⟩
 have B2:Hid (Bx w0 (.slice (some p1) n c1) tab w N (.slice an M cn) (.slice (some pk) L ck) (T++(⟨#[40]⟩)++(E0)) yw1):=B1.out.next hlt qq kk
 obtain⟨⟨x0,x1,x2,x3,x4,x5,x6,x7,x8⟩,y0⟩:=cel.out _ _ B2.out
 clear qq kk
 go_wp2_with (go_at_call 12;fail)
 refine(S2.out _ _ B2.out.pr (by(try simp only[ByteArray.size_append]);omega)).mono ?_
 rintro e yw2 ⟨rfl,qq,kk⟩
 have B3:Hid (Bx w0 (.slice (some p1) n c1) tab w N (.slice an M cn) (.slice (some pk) L ck) (T++(⟨#[40]⟩)++(E0)++(⟨#[41]⟩)) yw2):=B2.out.next hlt qq kk
 obtain⟨⟨x0,x1,x2,x3,x4,x5,x6,x7,x8⟩,y0⟩:=cel.out _ _ B3.out
 clear qq kk
 go_wp2_with fail
 go_end0
 refine⟨rfl,?_,B3.out.kq⟩
 have:=B3.out.pr
 simpa only[ByteArray.append_assoc] using this
end Go.Proofs.YtelfejiiabbpfaaGreatDoor
