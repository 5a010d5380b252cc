import Derived.Test.YtelfejiiabbpfaaGreatDoorHRk28
set_option linter.unusedVariables false
set_option maxRecDepth 100000
set_option maxHeartbeats 6400000
namespace Go.Proofs.YtelfejiiabbpfaaGreatDoor
open Go.RowKit
theorem stat_while (w0:World) (p1:Addr) (n c1:Nat) (ns:List Nd) (hNs:NdsAt w0 (.slice (some p1) n c1) ns) (hcap:KCap w0 p1 ns) (hnn:ns.length=n) (hln:n<=1048576) (tab:Nat) (i:Nat) (hi:i<n) (N:Nd) (hN:nodeI ns i=N) (hk:N.k=8) (hlk:N.ks.length<=1048576) (q0:Nat) (hk0:N.ks[0]?=some (q0:Int)) (E0:ByteArray) (hE0:Wr w0 (.slice (some p1) n c1) tab 24 #[pW w0,.int .i64 (q0:Int),.int .i64 0] E0) (q1:Nat) (hk1:N.ks[1]?=some (q1:Int)) (Y1:ByteArray) (hB1:Wr w0 (.slice (some p1) n c1) tab 21 #[pW w0,.int .i64 (q1:Int)] Y1):
  Wr w0 (.slice (some p1) n c1) tab 11 #[pW w0,.int .i64 (i:Int)] (⟨#[119,104,105,108,101,32]⟩++E0++⟨#[32]⟩++Y1):=by
 intro T w h hl
 obtain⟨an,M,cn,ak,L,ck,R⟩:=nd_in hNs hcap (show i<ns.length by omega)
 rw[hN]at R
 have hlt:=h.lt
 obtain⟨z0,z2,zf⟩:=h.cells
 have hL:=R.hL
 have hM:=R.hM
 obtain⟨pk,rfl⟩:=R.ks.ptr (by have:=kid_lt hk1;omega)
 have hj0:(0:Int)<(L:Int):=by have:=kid_lt hk0;omega
 have hj1:(1:Int)<(L:Int):=by have:=kid_lt hk1;omega
 obtain⟨m0,m1,m2,m3,m4,m5,m6,m7,m8,_,_⟩:=R.rd w h.bel
 have B0:Hid (Bx w0 (.slice (some p1) n c1) tab w N (.slice an M cn) (.slice (some pk) L ck) T (w.alloc (boxN N (.slice an M cn) (.slice (some pk) L ck)))):=Bx.new h N _ _
 try simp only[ByteArray.size_append]at hl
 have hii:(i:Int)<(n:Int):=by omega
 have hii0:(0:Int)<=(i:Int):=by omega
 have cel:Hid (∀(T:ByteArray) (W:World),Bx w0 (.slice (some p1) n c1) tab w N (.slice an M cn) (.slice (some pk) L ck) T W->Cel W w.heap.size N (.slice an M cn) (.slice (some pk) L ck)/\W.cell? pk=some (.int .i64 (q0:Int))/\W.cell? ⟨pk.block,pk.off+1,none⟩=some (.int .i64 (q1:Int))):=fun T W B=>⟨B.cells,B.kid0 R.ks hk0,B.kid R.ks hk1 (by decide)⟩
 have g1:=kqf hk 1 rfl
 have g2:=kqf hk 2 rfl
 have g3:=kqf hk 3 rfl
 have g4:=kqf hk 4 rfl
 have g5:=kqf hk 5 rfl
 have g6:=kqf hk 6 rfl
 have g7:=kqf hk 7 rfl
 have g8:=kqt hk 8 rfl
 have S0:Hid (Wr w0 (.slice (some p1) n c1) tab 12 _ (⟨#[119,104,105,108,101,32]⟩)):=fun T' W' hp hl=>say_any w0 _ T' (⟨#[119,104,105,108,101,32]⟩) _ W' hp hl
 have S1:Hid (Wr w0 (.slice (some p1) n c1) tab 24 _ (E0)):=hE0
 have S2:Hid (Wr w0 (.slice (some p1) n c1) tab 12 _ (⟨#[32]⟩)):=fun T' W' hp hl=>say_any w0 _ T' (⟨#[32]⟩) _ W' hp hl
 have S3:Hid (Wr w0 (.slice (some p1) n c1) tab 21 _ (Y1)):=hB1
 have HR:Hid (NdR w0 p1 i N an M cn (some pk) L ck):=R
 obtain⟨⟨x0,x1,x2,x3,x4,x5,x6,x7,x8⟩,y0,y1⟩:=cel.out _ _ B0.out
 clear h R hNs hcap hN hnn zf z2 hL hM hk
 go_enter Tryz.func11,Tryz.ntmps11
 go_wp2_with (go_at_call 12;fail)
 refine(S0.out _ _ B0.out.pr (by(try simp only[ByteArray.size_append]);omega)).mono ?_
 rintro e yw0 ⟨rfl,qq,kk⟩
 have B1:Hid (Bx w0 (.slice (some p1) n c1) tab w N (.slice an M cn) (.slice (some pk) L ck) (T++(⟨#[119,104,105,108,101,32]⟩)) yw0):=B0.out.next hlt qq kk
 obtain⟨⟨x0,x1,x2,x3,x4,x5,x6,x7,x8⟩,y0,y1⟩:=cel.out _ _ B1.out
 clear qq kk m0 m1 m2 m3 m4 m5 m6 m7 m8 z0
 go_wp2_with (go_at_call 24;fail)
 refine(S1.out _ _ B1.out.pr (by(try simp only[ByteArray.size_append]);omega)).mono ?_
 rintro e yw1 ⟨rfl,qq,kk⟩
 have B2:Hid (Bx w0 (.slice (some p1) n c1) tab w N (.slice an M cn) (.slice (some pk) L ck) (T++(⟨#[119,104,105,108,101,32]⟩)++(E0)) yw1):=B1.out.next hlt qq kk
 obtain⟨⟨x0,x1,x2,x3,x4,x5,x6,x7,x8⟩,y0,y1⟩:=cel.out _ _ B2.out
 clear qq kk
 go_wp2_with (go_at_call 12;fail)
 refine(S2.out _ _ B2.out.pr (by(try simp only[ByteArray.size_append]);omega)).mono ?_
 rintro e yw2 ⟨rfl,qq,kk⟩
 have B3:Hid (Bx w0 (.slice (some p1) n c1) tab w N (.slice an M cn) (.slice (some pk) L ck) (T++(⟨#[119,104,105,108,101,32]⟩)++(E0)++(⟨#[32]⟩)) yw2):=B2.out.next hlt qq kk
 obtain⟨⟨x0,x1,x2,x3,x4,x5,x6,x7,x8⟩,y0,y1⟩:=cel.out _ _ B3.out
 clear qq kk
 go_wp2_with (go_at_call 21;fail)
 refine(S3.out _ _ B3.out.pr (by(try simp only[ByteArray.size_append]);omega)).mono ?_
 rintro e yw3 ⟨rfl,qq,kk⟩
 have B4:Hid (Bx w0 (.slice (some p1) n c1) tab w N (.slice an M cn) (.slice (some pk) L ck) (T++(⟨#[119,104,105,108,101,32]⟩)++(E0)++(⟨#[32]⟩)++(Y1)) yw3):=B3.out.next hlt qq kk
 obtain⟨⟨x0,x1,x2,x3,x4,x5,x6,x7,x8⟩,y0,y1⟩:=cel.out _ _ B4.out
 clear qq kk
 go_wp2_with fail
 go_end0
 refine⟨rfl,?_,B4.out.kq⟩
 have:=B4.out.pr
 simpa only[ByteArray.append_assoc] using this
theorem stat_break (w0:World) (p1:Addr) (n c1:Nat) (ns:List Nd) (hNs:NdsAt w0 (.slice (some p1) n c1) ns) (hcap:KCap w0 p1 ns) (hnn:ns.length=n) (hln:n<=1048576) (tab:Nat) (i:Nat) (hi:i<n) (N:Nd) (hN:nodeI ns i=N) (hk:N.k=11) (hlk:N.ks.length<=1048576):
  Wr w0 (.slice (some p1) n c1) tab 11 #[pW w0,.int .i64 (i:Int)] (⟨#[98,114,101,97,107]⟩):=by
 intro T w h hl
 obtain⟨an,M,cn,ak,L,ck,R⟩:=nd_in hNs hcap (show i<ns.length by omega)
 rw[hN]at R
 have hlt:=h.lt
 obtain⟨z0,z2,zf⟩:=h.cells
 have hL:=R.hL
 have hM:=R.hM
 obtain⟨m0,m1,m2,m3,m4,m5,m6,m7,m8,_,_⟩:=R.rd w h.bel
 have B0:Hid (Bx w0 (.slice (some p1) n c1) tab w N (.slice an M cn) (.slice ak L ck) T (w.alloc (boxN N (.slice an M cn) (.slice ak L ck)))):=Bx.new h N _ _
 try simp only[ByteArray.size_append]at hl
 have hii:(i:Int)<(n:Int):=by omega
 have hii0:(0:Int)<=(i:Int):=by omega
 have cel:Hid (∀(T:ByteArray) (W:World),Bx w0 (.slice (some p1) n c1) tab w N (.slice an M cn) (.slice ak L ck) T W->Cel W w.heap.size N (.slice an M cn) (.slice ak L ck)):=fun T W B=>B.cells
 have g1:=kqf hk 1 rfl
 have g2:=kqf hk 2 rfl
 have g3:=kqf hk 3 rfl
 have g4:=kqf hk 4 rfl
 have g5:=kqf hk 5 rfl
 have g6:=kqf hk 6 rfl
 have g7:=kqf hk 7 rfl
 have g8:=kqf hk 8 rfl
 have g9:=kqf hk 9 rfl
 have g10:=kqf hk 10 rfl
 have g11:=kqt hk 11 rfl
 have S0:Hid (Wr w0 (.slice (some p1) n c1) tab 12 _ (⟨#[98,114,101,97,107]⟩)):=fun T' W' hp hl=>say_any w0 _ T' (⟨#[98,114,101,97,107]⟩) _ W' hp hl
 have HR:Hid (NdR w0 p1 i N an M cn ak L ck):=R
 obtain⟨x0,x1,x2,x3,x4,x5,x6,x7,x8⟩:=cel.out _ _ B0.out
 clear h R hNs hcap hN hnn zf z2 hL hM hk
 go_enter Tryz.func11,Tryz.ntmps11
 go_wp2_with (go_at_call 12;fail)
 refine(S0.out _ _ B0.out.pr (by(try simp only[ByteArray.size_append]);omega)).mono ?_
 rintro e yw0 ⟨rfl,qq,kk⟩
 have B1:Hid (Bx w0 (.slice (some p1) n c1) tab w N (.slice an M cn) (.slice ak L ck) (T++(⟨#[98,114,101,97,107]⟩)) yw0):=B0.out.next hlt qq kk
 obtain⟨x0,x1,x2,x3,x4,x5,x6,x7,x8⟩:=cel.out _ _ B1.out
 clear qq kk m0 m1 m2 m3 m4 m5 m6 m7 m8 z0
 go_wp2_with fail
 go_end0
 refine⟨rfl,?_,B1.out.kq⟩
 have:=B1.out.pr
 simpa only[ByteArray.append_assoc] using this
theorem stat_next (w0:World) (p1:Addr) (n c1:Nat) (ns:List Nd) (hNs:NdsAt w0 (.slice (some p1) n c1) ns) (hcap:KCap w0 p1 ns) (hnn:ns.length=n) (hln:n<=1048576) (tab:Nat) (i:Nat) (hi:i<n) (N:Nd) (hN:nodeI ns i=N) (hk:N.k=12) (hlk:N.ks.length<=1048576):
  Wr w0 (.slice (some p1) n c1) tab 11 #[pW w0,.int .i64 (i:Int)] (⟨#[110,101,120,116]⟩):=by
 intro T w h hl
 obtain⟨an,M,cn,ak,L,ck,R⟩:=nd_in hNs hcap (show i<ns.length by omega)
 rw[hN]at R
 have hlt:=h.lt
 obtain⟨z0,z2,zf⟩:=h.cells
 have hL:=R.hL
 have hM:=R.hM
 obtain⟨m0,m1,m2,m3,m4,m5,m6,m7,m8,_,_⟩:=R.rd w h.bel
 have B0:Hid (Bx w0 (.slice (some p1) n c1) tab w N (.slice an M cn) (.slice ak L ck) T (w.alloc (boxN N (.slice an M cn) (.slice ak L ck)))):=Bx.new h N _ _
 try simp only[ByteArray.size_append]at hl
 have hii:(i:Int)<(n:Int):=by omega
 have hii0:(0:Int)<=(i:Int):=by omega
 have cel:Hid (∀(T:ByteArray) (W:World),Bx w0 (.slice (some p1) n c1) tab w N (.slice an M cn) (.slice ak L ck) T W->Cel W w.heap.size N (.slice an M cn) (.slice ak L ck)):=fun T W B=>B.cells
 have g1:=kqf hk 1 rfl
 have g2:=kqf hk 2 rfl
 have g3:=kqf hk 3 rfl
 have g4:=kqf hk 4 rfl
 have g5:=kqf hk 5 rfl
 have g6:=kqf hk 6 rfl
 have g7:=kqf hk 7 rfl
 have g8:=kqf hk 8 rfl
 have g9:=kqf hk 9 rfl
 have g10:=kqf hk 10 rfl
 have g11:=kqf hk 11 rfl
 have g12:=kqt hk 12 rfl
 have S0:Hid (Wr w0 (.slice (some p1) n c1) tab 12 _ (⟨#[110,101,120,116]⟩)):=fun T' W' hp hl=>say_any w0 _ T' (⟨#[110,101,120,116]⟩) _ W' hp hl
 have HR:Hid (NdR w0 p1 i N an M cn ak L ck):=R
 obtain⟨x0,x1,x2,x3,x4,x5,x6,x7,x8⟩:=cel.out _ _ B0.out
 clear h R hNs hcap hN hnn zf z2 hL hM hk
 go_enter Tryz.func11,Tryz.ntmps11
 go_wp2_with (go_at_call 12;fail)
 refine(S0.out _ _ B0.out.pr (by(try simp only[ByteArray.size_append]);omega)).mono ?_
 rintro e yw0 ⟨rfl,qq,kk⟩
 have B1:Hid (Bx w0 (.slice (some p1) n c1) tab w N (.slice an M cn) (.slice ak L ck) (T++(⟨#[110,101,120,116]⟩)) yw0):=B0.out.next hlt qq kk
 obtain⟨x0,x1,x2,x3,x4,x5,x6,x7,x8⟩:=cel.out _ _ B1.out
 clear qq kk m0 m1 m2 m3 m4 m5 m6 m7 m8 z0
 go_wp2_with fail
 go_end0
 refine⟨rfl,?_,B1.out.kq⟩
 have:=B1.out.pr
 simpa only[ByteArray.append_assoc] using this
theorem stat_ret0 (w0:World) (p1:Addr) (n c1:Nat) (ns:List Nd) (hNs:NdsAt w0 (.slice (some p1) n c1) ns) (hcap:KCap w0 p1 ns) (hnn:ns.length=n) (hln:n<=1048576) (tab:Nat) (i:Nat) (hi:i<n) (N:Nd) (hN:nodeI ns i=N) (hk:N.k=13) (hlk:N.ks.length<=1048576) (h0:N.ks.length=0):
  Wr w0 (.slice (some p1) n c1) tab 11 #[pW w0,.int .i64 (i:Int)] (⟨#[114,101,116,117,114,110]⟩):=by
 intro T w h hl
 obtain⟨an,M,cn,ak,L,ck,R⟩:=nd_in hNs hcap (show i<ns.length by omega)
 rw[hN]at R
 have hlt:=h.lt
 obtain⟨z0,z2,zf⟩:=h.cells
 have hL:=R.hL
 have hM:=R.hM
 obtain⟨m0,m1,m2,m3,m4,m5,m6,m7,m8,_,_⟩:=R.rd w h.bel
 have B0:Hid (Bx w0 (.slice (some p1) n c1) tab w N (.slice an M cn) (.slice ak L ck) T (w.alloc (boxN N (.slice an M cn) (.slice ak L ck)))):=Bx.new h N _ _
 try simp only[ByteArray.size_append]at hl
 have hii:(i:Int)<(n:Int):=by omega
 have hii0:(0:Int)<=(i:Int):=by omega
 have cel:Hid (∀(T:ByteArray) (W:World),Bx w0 (.slice (some p1) n c1) tab w N (.slice an M cn) (.slice ak L ck) T W->Cel W w.heap.size N (.slice an M cn) (.slice ak L ck)):=fun T W B=>B.cells
 have g1:=kqf hk 1 rfl
 have g2:=kqf hk 2 rfl
 have g3:=kqf hk 3 rfl
 have g4:=kqf hk 4 rfl
 have g5:=kqf hk 5 rfl
 have g6:=kqf hk 6 rfl
 have g7:=kqf hk 7 rfl
 have g8:=kqf hk 8 rfl
 have g9:=kqf hk 9 rfl
 have g10:=kqf hk 10 rfl
 have g11:=kqf hk 11 rfl
 have g12:=kqf hk 12 rfl
 have g13:=kqt hk 13 rfl
 have hq:¬(0:Int)<(L:Int):=by omega
 have S0:Hid (Wr w0 (.slice (some p1) n c1) tab 12 _ (⟨#[114,101,116,117,114,110]⟩)):=fun T' W' hp hl=>say_any w0 _ T' (⟨#[114,101,116,117,114,110]⟩) _ W' hp hl
 have HR:Hid (NdR w0 p1 i N an M cn ak L ck):=R
 obtain⟨x0,x1,x2,x3,x4,x5,x6,x7,x8⟩:=cel.out _ _ B0.out
 clear h R hNs hcap hN hnn zf z2 hL hM hk
 go_enter Tryz.func11,Tryz.ntmps11
 go_wp2_with (go_at_call 12;fail)
 refine(S0.out _ _ B0.out.pr (by(try simp only[ByteArray.size_append]);omega)).mono ?_
 rintro e yw0 ⟨rfl,qq,kk⟩
 have B1:Hid (Bx w0 (.slice (some p1) n c1) tab w N (.slice an M cn) (.slice ak L ck) (T++(⟨#[114,101,116,117,114,110]⟩)) yw0):=B0.out.next hlt qq kk
 obtain⟨x0,x1,x2,x3,x4,x5,x6,x7,x8⟩:=cel.out _ _ B1.out
 clear qq kk m0 m1 m2 m3 m4 m5 m6 m7 m8 z0
 go_wp2_with fail
 go_end0
 refine⟨rfl,?_,B1.out.kq⟩
 have:=B1.out.pr
 simpa only[ByteArray.append_assoc] using this
theorem stat_ret (w0:World) (p1:Addr) (n c1:Nat) (ns:List Nd) (hNs:NdsAt w0 (.slice (some p1) n c1) ns) (hcap:KCap w0 p1 ns) (hnn:ns.length=n) (hln:n<=1048576) (tab:Nat) (i:Nat) (hi:i<n) (N:Nd) (hN:nodeI ns i=N) (hk:N.k=13) (hlk:N.ks.length<=1048576) (h0:0<N.ks.length) (X:ByteArray) (hXX:∀v,IntsAt w0 v (N.ks)->Wr w0 (.slice (some p1) n c1) tab 23 #[pW w0,v] X):
  Wr w0 (.slice (some p1) n c1) tab 11 #[pW w0,.int .i64 (i:Int)] (⟨#[114,101,116,117,114,110]⟩++(⟨#[32]⟩++X)):=by
 intro T w h hl
 obtain⟨an,M,cn,ak,L,ck,R⟩:=nd_in hNs hcap (show i<ns.length by omega)
 rw[hN]at R
 have hlt:=h.lt
 obtain⟨z0,z2,zf⟩:=h.cells
 have hL:=R.hL
 have hM:=R.hM
 obtain⟨m0,m1,m2,m3,m4,m5,m6,m7,m8,_,_⟩:=R.rd w h.bel
 have B0:Hid (Bx w0 (.slice (some p1) n c1) tab w N (.slice an M cn) (.slice ak L ck) T (w.alloc (boxN N (.slice an M cn) (.slice ak L ck)))):=Bx.new h N _ _
 try simp only[ByteArray.size_append]at hl
 have hii:(i:Int)<(n:Int):=by omega
 have hii0:(0:Int)<=(i:Int):=by omega
 have cel:Hid (∀(T:ByteArray) (W:World),Bx w0 (.slice (some p1) n c1) tab w N (.slice an M cn) (.slice ak L ck) T W->Cel W w.heap.size N (.slice an M cn) (.slice ak L ck)):=fun T W B=>B.cells
 have g1:=kqf hk 1 rfl
 have g2:=kqf hk 2 rfl
 have g3:=kqf hk 3 rfl
 have g4:=kqf hk 4 rfl
 have g5:=kqf hk 5 rfl
 have g6:=kqf hk 6 rfl
 have g7:=kqf hk 7 rfl
 have g8:=kqf hk 8 rfl
 have g9:=kqf hk 9 rfl
 have g10:=kqf hk 10 rfl
 have g11:=kqf hk 11 rfl
 have g12:=kqf hk 12 rfl
 have g13:=kqt hk 13 rfl
 have hq:(0:Int)<(L:Int):=by omega
 have S0:Hid (Wr w0 (.slice (some p1) n c1) tab 12 _ (⟨#[114,101,116,117,114,110]⟩)):=fun T' W' hp hl=>say_any w0 _ T' (⟨#[114,101,116,117,114,110]⟩) _ W' hp hl
 have S1:Hid (Wr w0 (.slice (some p1) n c1) tab 12 _ (⟨#[32]⟩)):=fun T' W' hp hl=>say_any w0 _ T' (⟨#[32]⟩) _ W' hp hl
 have S2:Hid (Wr w0 (.slice (some p1) n c1) tab 23 _ (X)):=hXX (.slice ak L ck) R.ks
 have HR:Hid (NdR w0 p1 i N an M cn ak L ck):=R
 obtain⟨x0,x1,x2,x3,x4,x5,x6,x7,x8⟩:=cel.out _ _ B0.out
 clear h R hNs hcap hN hnn zf z2 hL hM hk
 go_enter Tryz.func11,Tryz.ntmps11
 go_wp2_with (go_at_call 12;fail)
 refine(S0.out _ _ B0.out.pr (by(try simp only[ByteArray.size_append]);omega)).mono ?_
 rintro e yw0 ⟨rfl,qq,kk⟩
 have B1:Hid (Bx w0 (.slice (some p1) n c1) tab w N (.slice an M cn) (.slice ak L ck) (T++(⟨#[114,101,116,117,114,110]⟩)) yw0):=B0.out.next hlt qq kk
 obtain⟨x0,x1,x2,x3,x4,x5,x6,x7,x8⟩:=cel.out _ _ B1.out
 clear qq kk m0 m1 m2 m3 m4 m5 m6 m7 m8 z0
 go_wp2_with (go_at_call 12;fail)
 refine(S1.out _ _ B1.out.pr (by(try simp only[ByteArray.size_append]);omega)).mono ?_
 rintro e yw1 ⟨rfl,qq,kk⟩
 have B2:Hid (Bx w0 (.slice (some p1) n c1) tab w N (.slice an M cn) (.slice ak L ck) (T++(⟨#[114,101,116,117,114,110]⟩)++(⟨#[32]⟩)) yw1):=B1.out.next hlt qq kk
 obtain⟨x0,x1,x2,x3,x4,x5,x6,x7,x8⟩:=cel.out _ _ B2.out
 clear qq kk
 go_wp2_with (go_at_call 23;fail)
 refine(S2.out _ _ B2.out.pr (by(try simp only[ByteArray.size_append]);omega)).mono ?_
 rintro e yw2 ⟨rfl,qq,kk⟩
 have B3:Hid (Bx w0 (.slice (some p1) n c1) tab w N (.slice an M cn) (.slice ak L ck) (T++(⟨#[114,101,116,117,114,110]⟩)++(⟨#[32]⟩)++(X)) yw2):=B2.out.next hlt qq kk
 obtain⟨x0,x1,x2,x3,x4,x5,x6,x7,x8⟩:=cel.out _ _ B3.out
 clear qq kk
 go_wp2_with fail
 go_end0
 refine⟨rfl,?_,B3.out.kq⟩
 have:=B3.out.pr
 simpa only[ByteArray.append_assoc] using this
theorem stat_try (w0:World) (p1:Addr) (n c1:Nat) (ns:List Nd) (hNs:NdsAt w0 (.slice (some p1) n c1) ns) (hcap:KCap w0 p1 ns) (hnn:ns.length=n) (hln:n<=1048576) (tab:Nat) (i:Nat) (hi:i<n) (N:Nd) (hN:nodeI ns i=N) (hk:N.k=14) (hlk:N.ks.length<=1048576) (hNm:∀v,StrsAt w0 v N.nm->Wr w0 (.slice (some p1) n c1) tab 22 #[pW w0,v] (sepB N.nm)) (q0:Nat) (hk0:N.ks[0]?=some (q0:Int)) (Y0:ByteArray) (hB0:Wr w0 (.slice (some p1) n c1) tab 21 #[pW w0,.int .i64 (q0:Int)] Y0) (q1:Nat) (hk1:N.ks[1]?=some (q1:Int)) (Y1:ByteArray) (hB1:Wr w0 (.slice (some p1) n c1) tab 21 #[pW w0,.int .i64 (q1:Int)] Y1):
  Wr w0 (.slice (some p1) n c1) tab 11 #[pW w0,.int .i64 (i:Int)] (⟨#[116,114,121,32]⟩++Y0++⟨#[32,99,97,116,99,104,32]⟩++sepB N.nm++⟨#[32]⟩++Y1):=by
 intro T w h hl
 obtain⟨an,M,cn,ak,L,ck,R⟩:=nd_in hNs hcap (show i<ns.length by omega)
 rw[hN]at R
 have hlt:=h.lt
 obtain⟨z0,z2,zf⟩:=h.cells
 have hL:=R.hL
 have hM:=R.hM
 obtain⟨pk,rfl⟩:=R.ks.ptr (by have:=kid_lt hk1;omega)
 have hj0:(0:Int)<(L:Int):=by have:=kid_lt hk0;omega
 have hj1:(1:Int)<(L:Int):=by have:=kid_lt hk1;omega
 obtain⟨m0,m1,m2,m3,m4,m5,m6,m7,m8,_,_⟩:=R.rd w h.bel
 have B0:Hid (Bx w0 (.slice (some p1) n c1) tab w N (.slice an M cn) (.slice (some pk) L ck) T (w.alloc (boxN N (.slice an M cn) (.slice (some pk) L ck)))):=Bx.new h N _ _
 try simp only[ByteArray.size_append]at hl
 have hii:(i:Int)<(n:Int):=by omega
 have hii0:(0:Int)<=(i:Int):=by omega
 have cel:Hid (∀(T:ByteArray) (W:World),Bx w0 (.slice (some p1) n c1) tab w N (.slice an M cn) (.slice (some pk) L ck) T W->Cel W w.heap.size N (.slice an M cn) (.slice (some pk) L ck)/\W.cell? pk=some (.int .i64 (q0:Int))/\W.cell? ⟨pk.block,pk.off+1,none⟩=some (.int .i64 (q1:Int))):=fun T W B=>⟨B.cells,B.kid0 R.ks hk0,B.kid R.ks hk1 (by decide)⟩
 have g1:=kqf hk 1 rfl
 have g2:=kqf hk 2 rfl
 have g3:=kqf hk 3 rfl
 have g4:=kqf hk 4 rfl
 have g5:=kqf hk 5 rfl
 have g6:=kqf hk 6 rfl
 have g7:=kqf hk 7 rfl
 have g8:=kqf hk 8 rfl
 have g9:=kqf hk 9 rfl
 have g10:=kqf hk 10 rfl
 have g11:=kqf hk 11 rfl
 have g12:=kqf hk 12 rfl
 have g13:=kqf hk 13 rfl
 have g14:=kqt hk 14 rfl
 have S0:Hid (Wr w0 (.slice (some p1) n c1) tab 12 _ (⟨#[116,114,121,32]⟩)):=fun T' W' hp hl=>say_any w0 _ T' (⟨#[116,114,121,32]⟩) _ W' hp hl
 have S1:Hid (Wr w0 (.slice (some p1) n c1) tab 21 _ (Y0)):=hB0
 have S2:Hid (Wr w0 (.slice (some p1) n c1) tab 12 _ (⟨#[32,99,97,116,99,104,32]⟩)):=fun T' W' hp hl=>say_any w0 _ T' (⟨#[32,99,97,116,99,104,32]⟩) _ W' hp hl
 have S3:Hid (Wr w0 (.slice (some p1) n c1) tab 22 _ (sepB N.nm)):=hNm (.slice an M cn) R.nm
 have S4:Hid (Wr w0 (.slice (some p1) n c1) tab 12 _ (⟨#[32]⟩)):=fun T' W' hp hl=>say_any w0 _ T' (⟨#[32]⟩) _ W' hp hl
 have S5:Hid (Wr w0 (.slice (some p1) n c1) tab 21 _ (Y1)):=hB1
 have HR:Hid (NdR w0 p1 i N an M cn (some pk) L ck):=R
 obtain⟨⟨x0,x1,x2,x3,x4,x5,x6,x7,x8⟩,y0,y1⟩:=cel.out _ _ B0.out
 clear h R hNs hcap hN hnn zf z2 hL hM hk
 go_enter Tryz.func11,Tryz.ntmps11
 go_wp2_with (go_at_call 12;fail)
 refine(S0.out _ _ B0.out.pr (by(try simp only[ByteArray.size_append]);omega)).mono ?_
 rintro e yw0 ⟨rfl,qq,kk⟩
 have B1:Hid (Bx w0 (.slice (some p1) n c1) tab w N (.slice an M cn) (.slice (some pk) L ck) (T++(⟨#[116,114,121,32]⟩)) yw0):=B0.out.next hlt qq kk
 obtain⟨⟨x0,x1,x2,x3,x4,x5,x6,x7,x8⟩,y0,y1⟩:=cel.out _ _ B1.out
 clear qq kk m0 m1 m2 m3 m4 m5 m6 m7 m8 z0
 go_wp2_with (go_at_call 21;fail)
 refine(S1.out _ _ B1.out.pr (by(try simp only[ByteArray.size_append]);omega)).mono ?_
 rintro e yw1 ⟨rfl,qq,kk⟩
 have B2:Hid (Bx w0 (.slice (some p1) n c1) tab w N (.slice an M cn) (.slice (some pk) L ck) (T++(⟨#[116,114,121,32]⟩)++(Y0)) yw1):=B1.out.next hlt qq kk
 obtain⟨⟨x0,x1,x2,x3,x4,x5,x6,x7,x8⟩,y0,y1⟩:=cel.out _ _ B2.out
 clear qq kk
 go_wp2_with (go_at_call 12;fail)
 refine(S2.out _ _ B2.out.pr (by(try simp only[ByteArray.size_append]);omega)).mono ?_
 rintro e yw2 ⟨rfl,qq,kk⟩
 have B3:Hid (Bx w0 (.slice (some p1) n c1) tab w N (.slice an M cn) (.slice (some pk) L ck) (T++(⟨#[116,114,121,32]⟩)++(Y0)++(⟨#[32,99,97,116,99,104,32]⟩)) yw2):=B2.out.next hlt qq kk
 obtain⟨⟨x0,x1,x2,x3,x4,x5,x6,x7,x8⟩,y0,y1⟩:=cel.out _ _ B3.out
 clear qq kk
 go_wp2_with (go_at_call 22;fail)
 refine(S3.out _ _ B3.out.pr (by(try simp only[ByteArray.size_append]);omega)).mono ?_
 rintro e yw3 ⟨rfl,qq,kk⟩
 have B4:Hid (Bx w0 (.slice (some p1) n c1) tab w N (.slice an M cn) (.slice (some pk) L ck) (T++(⟨#[116,114,121,32]⟩)++(Y0)++(⟨#[32,99,97,116,99,104,32]⟩)++(sepB N.nm)) yw3):=B3.out.next hlt qq kk
 obtain⟨⟨x0,x1,x2,x3,x4,x5,x6,x7,x8⟩,y0,y1⟩:=cel.out _ _ B4.out
 clear qq kk
 go_wp2_with (go_at_call 12;fail)
 refine(S4.out _ _ B4.out.pr (by(try simp only[ByteArray.size_append]);omega)).mono ?_
 rintro e yw4 ⟨rfl,qq,kk⟩
 have B5:Hid (Bx w0 (.slice (some p1) n c1) tab w N (.slice an M cn) (.slice (some pk) L ck) (T++(⟨#[116,114,121,32]⟩)++(Y0)++(⟨#[32,99,97,116,99,104,32]⟩)++(sepB N.nm)++(⟨#[32]⟩)) yw4):=B4.out.next hlt qq kk
 obtain⟨⟨x0,x1,x2,x3,x4,x5,x6,x7,x8⟩,y0,y1⟩:=cel.out _ _ B5.out
 clear qq kk
 go_wp2_with (go_at_call 21;fail)
 refine(S5.out _ _ B5.out.pr (by(try simp only[ByteArray.size_append]);omega)).mono ?_
 rintro e yw5 ⟨rfl,qq,kk⟩
 have B6:Hid (Bx w0 (.slice (some p1) n c1) tab w N (.slice an M cn) (.slice (some pk) L ck) (T++(⟨#[116,114,121,32]⟩)++(Y0)++(⟨#[32,99,97,116,99,104,32]⟩)++(sepB N.nm)++(⟨#[32]⟩)++(Y1)) yw5):=B5.out.next hlt qq kk
 obtain⟨⟨x0,x1,x2,x3,x4,x5,x6,x7,x8⟩,y0,y1⟩:=cel.out _ _ B6.out
 clear qq kk
 go_wp2_with fail
 go_end0
 refine⟨rfl,?_,B6.out.kq⟩
 have:=B6.out.pr
 simpa only[ByteArray.append_assoc] using this
theorem stat_throw (w0:World) (p1:Addr) (n c1:Nat) (ns:List Nd) (hNs:NdsAt w0 (.slice (some p1) n c1) ns) (hcap:KCap w0 p1 ns) (hnn:ns.length=n) (hln:n<=1048576) (tab:Nat) (i:Nat) (hi:i<n) (N:Nd) (hN:nodeI ns i=N) (hk:N.k=15) (hlk:N.ks.length<=1048576) (q0:Nat) (hk0:N.ks[0]?=some (q0:Int)) (E0:ByteArray) (hE0:Wr w0 (.slice (some p1) n c1) tab 24 #[pW w0,.int .i64 (q0:Int),.int .i64 0] E0):
  Wr w0 (.slice (some p1) n c1) tab 11 #[pW w0,.int .i64 (i:Int)] (⟨#[116,104,114,111,119,32]⟩++E0):=by
 intro T w h hl
 obtain⟨an,M,cn,ak,L,ck,R⟩:=nd_in hNs hcap (show i<ns.length by omega)
 rw[hN]at R
 have hlt:=h.lt
 obtain⟨z0,z2,zf⟩:=h.cells
 have hL:=R.hL
 have hM:=R.hM
 obtain⟨pk,rfl⟩:=R.ks.ptr (by have:=kid_lt hk0;omega)
 have hj0:(0:Int)<(L:Int):=by have:=kid_lt hk0;omega
 obtain⟨m0,m1,m2,m3,m4,m5,m6,m7,m8,_,_⟩:=R.rd w h.bel
 have B0:Hid (Bx w0 (.slice (some p1) n c1) tab w N (.slice an M cn) (.slice (some pk) L ck) T (w.alloc (boxN N (.slice an M cn) (.slice (some pk) L ck)))):=Bx.new h N _ _
 try simp only[ByteArray.size_append]at hl
 have hii:(i:Int)<(n:Int):=by omega
 have hii0:(0:Int)<=(i:Int):=by omega
 have cel:Hid (∀(T:ByteArray) (W:World),Bx w0 (.slice (some p1) n c1) tab w N (.slice an M cn) (.slice (some pk) L ck) T W->Cel W w.heap.size N (.slice an M cn) (.slice (some pk) L ck)/\W.cell? pk=some (.int .i64 (q0:Int))):=fun T W B=>⟨B.cells,B.kid0 R.ks hk0⟩
 have g1:=kqf hk 1 rfl
 have g2:=kqf hk 2 rfl
 have g3:=kqf hk 3 rfl
 have g4:=kqf hk 4 rfl
 have g5:=kqf hk 5 rfl
 have g6:=kqf hk 6 rfl
 have g7:=kqf hk 7 rfl
 have g8:=kqf hk 8 rfl
 have g9:=kqf hk 9 rfl
 have g10:=kqf hk 10 rfl
 have g11:=kqf hk 11 rfl
 have g12:=kqf hk 12 rfl
 have g13:=kqf hk 13 rfl
 have g14:=kqf hk 14 rfl
 have g15:=kqt hk 15 rfl
 have S0:Hid (Wr w0 (.slice (some p1) n c1) tab 12 _ (⟨#[116,104,114,111,119,32]⟩)):=fun T' W' hp hl=>say_any w0 _ T' (⟨#[116,104,114,111,119,32]⟩) _ W' hp hl
 have S1:Hid (Wr w0 (.slice (some p1) n c1) tab 24 _ (E0)):=hE0
 have HR:Hid (NdR w0 p1 i N an M cn (some pk) L ck):=R
 obtain⟨⟨x0,x1,x2,x3,x4,x5,x6,x7,x8⟩,y0⟩:=cel.out _ _ B0.out
 clear h R hNs hcap hN hnn zf z2 hL hM hk
 go_enter Tryz.func11,Tryz.ntmps11
 go_wp2_with (go_at_call 12;fail)
 refine(S0.out _ _ B0.out.pr (by(try simp only[ByteArray.size_append]);omega)).mono ?_
 rintro e yw0 ⟨rfl,qq,kk⟩
 have B1:Hid (Bx w0 (.slice (some p1) n c1) tab w N (.slice an M cn) (.slice (some pk) L ck) (T++(⟨#[116,104,114,111,119,32]⟩)) yw0):=B0.out.next hlt qq kk
 obtain⟨⟨x0,x1,x2,x3,x4,x5,x6,x7,x8⟩,y0⟩:=cel.out _ _ B1.out
 clear qq kk m0 m1 m2 m3 m4 m5 m6 m7 m8 z0
 go_wp2_with (go_at_call 24;fail)
 refine(S1.out _ _ B1.out.pr (by(try simp only[ByteArray.size_append]);omega)).mono ?_
 rintro e yw1 ⟨rfl,qq,kk⟩
 have B2:Hid (Bx w0 (.slice (some p1) n c1) tab w N (.slice an M cn) (.slice (some pk) L ck) (T++(⟨#[116,104,114,111,119,32]⟩)++(E0)) yw1):=B1.out.next hlt qq kk
 obtain⟨⟨x0,x1,x2,x3,x4,x5,x6,x7,x8⟩,y0⟩:=cel.out _ _ B2.out
 clear qq kk
 go_wp2_with fail
 go_end0
 refine⟨rfl,?_,B2.out.kq⟩
 have:=B2.out.pr
 simpa only[ByteArray.append_assoc] using this
theorem stat_defer (w0:World) (p1:Addr) (n c1:Nat) (ns:List Nd) (hNs:NdsAt w0 (.slice (some p1) n c1) ns) (hcap:KCap w0 p1 ns) (hnn:ns.length=n) (hln:n<=1048576) (tab:Nat) (i:Nat) (hi:i<n) (N:Nd) (hN:nodeI ns i=N) (hk:N.k=16) (hlk:N.ks.length<=1048576) (q0:Nat) (hk0:N.ks[0]?=some (q0:Int)) (E0:ByteArray) (hE0:Wr w0 (.slice (some p1) n c1) tab 24 #[pW w0,.int .i64 (q0:Int),.int .i64 0] E0):
  Wr w0 (.slice (some p1) n c1) tab 11 #[pW w0,.int .i64 (i:Int)] (⟨#[100,101,102,101,114,32]⟩++E0):=by
 intro T w h hl
 obtain⟨an,M,cn,ak,L,ck,R⟩:=nd_in hNs hcap (show i<ns.length by omega)
 rw[hN]at R
 have hlt:=h.lt
 obtain⟨z0,z2,zf⟩:=h.cells
 have hL:=R.hL
 have hM:=R.hM
 obtain⟨pk,rfl⟩:=R.ks.ptr (by have:=kid_lt hk0;omega)
 have hj0:(0:Int)<(L:Int):=by have:=kid_lt hk0;omega
 obtain⟨m0,m1,m2,m3,m4,m5,m6,m7,m8,_,_⟩:=R.rd w h.bel
 have B0:Hid (Bx w0 (.slice (some p1) n c1) tab w N (.slice an M cn) (.slice (some pk) L ck) T (w.alloc (boxN N (.slice an M cn) (.slice (some pk) L ck)))):=Bx.new h N _ _
 try simp only[ByteArray.size_append]at hl
 have hii:(i:Int)<(n:Int):=by omega
 have hii0:(0:Int)<=(i:Int):=by omega
 have cel:Hid (∀(T:ByteArray) (W:World),Bx w0 (.slice (some p1) n c1) tab w N (.slice an M cn) (.slice (some pk) L ck) T W->Cel W w.heap.size N (.slice an M cn) (.slice (some pk) L ck)/\W.cell? pk=some (.int .i64 (q0:Int))):=fun T W B=>⟨B.cells,B.kid0 R.ks hk0⟩
 have g1:=kqf hk 1 rfl
 have g2:=kqf hk 2 rfl
 have g3:=kqf hk 3 rfl
 have g4:=kqf hk 4 rfl
 have g5:=kqf hk 5 rfl
 have g6:=kqf hk 6 rfl
 have g7:=kqf hk 7 rfl
 have g8:=kqf hk 8 rfl
 have g9:=kqf hk 9 rfl
 have g10:=kqf hk 10 rfl
 have g11:=kqf hk 11 rfl
 have g12:=kqf hk 12 rfl
 have g13:=kqf hk 13 rfl
 have g14:=kqf hk 14 rfl
 have g15:=kqf hk 15 rfl
 have g16:=kqt hk 16 rfl
 have S0:Hid (Wr w0 (.slice (some p1) n c1) tab 12 _ (⟨#[100,101,102,101,114,32]⟩)):=fun T' W' hp hl=>say_any w0 _ T' (⟨#[100,101,102,101,114,32]⟩) _ W' hp hl
 have S1:Hid (Wr w0 (.slice (some p1) n c1) tab 24 _ (E0)):=hE0
 have HR:Hid (NdR w0 p1 i N an M cn (some pk) L ck):=R
 obtain⟨⟨x0,x1,x2,x3,x4,x5,x6,x7,x8⟩,y0⟩:=cel.out _ _ B0.out
 clear h R hNs hcap hN hnn zf z2 hL hM hk
 go_enter Tryz.func11,Tryz.ntmps11
 go_wp2_with (go_at_call 12;fail)
 refine(S0.out _ _ B0.out.pr (by(try simp only[ByteArray.size_append]);omega)).mono ?_
 rintro e yw0 ⟨rfl,qq,kk⟩
 have B1:Hid (Bx w0 (.slice (some p1) n c1) tab w N (.slice an M cn) (.slice (some pk) L ck) (T++(⟨#[100,101,102,101,114,32]⟩)) yw0):=B0.out.next hlt qq kk
 obtain⟨⟨x0,x1,x2,x3,x4,x5,x6,x7,x8⟩,y0⟩:=cel.out _ _ B1.out
 clear qq kk m0 m1 m2 m3 m4 m5 m6 m7 m8 z0
 go_wp2_with (go_at_call 24;fail)
 refine(S1.out _ _ B1.out.pr (by(try simp only[ByteArray.size_append]);omega)).mono ?_
 rintro e yw1 ⟨rfl,qq,kk⟩
 have B2:Hid (Bx w0 (.slice (some p1) n c1) tab w N (.slice an M cn) (.slice (some pk) L ck) (T++(⟨#[100,101,102,101,114,32]⟩)++(E0)) yw1):=B1.out.next hlt qq kk
 obtain⟨⟨x0,x1,x2,x3,x4,x5,x6,x7,x8⟩,y0⟩:=cel.out _ _ B2.out
 clear qq kk
 go_wp2_with fail
 go_end0
 refine⟨rfl,?_,B2.out.kq⟩
 have:=B2.out.pr
 simpa only[ByteArray.append_assoc] using this
theorem expr_and (w0:World) (p1:Addr) (n c1:Nat) (ns:List Nd) (hNs:NdsAt w0 (.slice (some p1) n c1) ns) (hcap:KCap w0 p1 ns) (hnn:ns.length=n) (hln:n<=1048576) (tab:Nat) (i:Nat) (hi:i<n) (N:Nd) (hN:nodeI ns i=N) (hlk:N.ks.length<=1048576) (hk:N.k=28) (hop:N.k=31->1<=N.op/\N.op<=18) (least:Int) (hle:¬powP N.k N.op<least) (Y:ByteArray) (hY:∀vn vk,StrsAt w0 vn N.nm->IntsAt w0 vk N.ks->Wr w0 (.slice (some p1) n c1) tab 76 #[pW w0,vNd N vn vk,.string ⟨#[32,97,110,100,32]⟩,.int .i64 (powP N.k N.op)] Y):
  Wr w0 (.slice (some p1) n c1) tab 24 #[pW w0,.int .i64 (i:Int),.int .i64 least] (Y):=by
 intro T w h hl
 obtain⟨an,M,cn,ak,L,ck,R⟩:=nd_in hNs hcap (show i<ns.length by omega)
 rw[hN]at R
 have hlt:=h.lt
 obtain⟨z0,z2,zf⟩:=h.cells
 have hL:=R.hL
 have hM:=R.hM
 obtain⟨m0,m1,m2,m3,m4,m5,m6,m7,m8,_,_⟩:=R.rd w h.bel
 have B0:Hid (Bx w0 (.slice (some p1) n c1) tab w N (.slice an M cn) (.slice ak L ck) T (w.alloc (boxN N (.slice an M cn) (.slice ak L ck)))):=Bx.new h N _ _
 try simp only[ByteArray.size_append]at hl
 have hii:(i:Int)<(n:Int):=by omega
 have hii0:(0:Int)<=(i:Int):=by omega
 have cel:Hid (∀(T:ByteArray) (W:World),Bx w0 (.slice (some p1) n c1) tab w N (.slice an M cn) (.slice ak L ck) T W->Cel W w.heap.size N (.slice an M cn) (.slice ak L ck)):=fun T W B=>B.cells
 have g28:=kqt hk 28 rfl
 have KP:Hid (∀w:World,Calls Tryz.prog 75 #[vNd N (.slice an M cn) (.slice ak L ck)] w fun e w'=>e= .returned (.int .i64 (powP N.k N.op))/\Below w.heap.size w w'):=fun w=>l4power_any N _ _ hop w
 have S0:Hid (Wr w0 (.slice (some p1) n c1) tab 76 _ (Y)):=hY (.slice an M cn) (.slice ak L ck) R.nm R.ks
 have HR:Hid (NdR w0 p1 i N an M cn ak L ck):=R
 obtain⟨x0,x1,x2,x3,x4,x5,x6,x7,x8⟩:=cel.out _ _ B0.out
 clear h R hNs hcap hN hnn zf z2 hL hM hk hop
 unfold vNd at KP S0
 generalize hpw:powP N.k N.op=pw at *
 clear hpw
 go_enter Tryz.func24,Tryz.ntmps24
 go_wp2_with (go_at_call 75;fail)
 refine(KP.out _).mono ?_
 rintro e yp ⟨rfl,hbp⟩
 have C0:Hid (Bx w0 (.slice (some p1) n c1) tab w N (.slice an M cn) (.slice ak L ck) T yp):=B0.out.below hbp
 obtain⟨x0,x1,x2,x3,x4,x5,x6,x7,x8⟩:=cel.out _ _ C0.out
 clear hbp m0 m1 m2 m3 m4 m5 m6 m7 m8 z0
 go_wp2_with (go_at_call 76;fail)
 refine(S0.out _ _ C0.out.pr (by(try simp only[ByteArray.size_append]);omega)).mono ?_
 rintro e yw0 ⟨rfl,qq,kk⟩
 have B1:Hid (Bx w0 (.slice (some p1) n c1) tab w N (.slice an M cn) (.slice ak L ck) (T++(Y)) yw0):=C0.out.next hlt qq kk
 obtain⟨x0,x1,x2,x3,x4,x5,x6,x7,x8⟩:=cel.out _ _ B1.out
 clear qq kk
 go_wp2_with fail
 go_end0
 refine⟨rfl,?_,B1.out.kq⟩
 have:=B1.out.pr
 simpa only[ByteArray.append_assoc] using this
theorem expr_or (w0:World) (p1:Addr) (n c1:Nat) (ns:List Nd) (hNs:NdsAt w0 (.slice (some p1) n c1) ns) (hcap:KCap w0 p1 ns) (hnn:ns.length=n) (hln:n<=1048576) (tab:Nat) (i:Nat) (hi:i<n) (N:Nd) (hN:nodeI ns i=N) (hlk:N.ks.length<=1048576) (hk:N.k=29) (hop:N.k=31->1<=N.op/\N.op<=18) (least:Int) (hle:¬powP N.k N.op<least) (Y:ByteArray) (hY:∀vn vk,StrsAt w0 vn N.nm->IntsAt w0 vk N.ks->Wr w0 (.slice (some p1) n c1) tab 76 #[pW w0,vNd N vn vk,.string ⟨#[32,111,114,32]⟩,.int .i64 (powP N.k N.op)] Y):
  Wr w0 (.slice (some p1) n c1) tab 24 #[pW w0,.int .i64 (i:Int),.int .i64 least] (Y):=by
 intro T w h hl
 obtain⟨an,M,cn,ak,L,ck,R⟩:=nd_in hNs hcap (show i<ns.length by omega)
 rw[hN]at R
 have hlt:=h.lt
 obtain⟨z0,z2,zf⟩:=h.cells
 have hL:=R.hL
 have hM:=R.hM
 obtain⟨m0,m1,m2,m3,m4,m5,m6,m7,m8,_,_⟩:=R.rd w h.bel
 have B0:Hid (Bx w0 (.slice (some p1) n c1) tab w N (.slice an M cn) (.slice ak L ck) T (w.alloc (boxN N (.slice an M cn) (.slice ak L ck)))):=Bx.new h N _ _
 try simp only[ByteArray.size_append]at hl
 have hii:(i:Int)<(n:Int):=by omega
 have hii0:(0:Int)<=(i:Int):=by omega
 have cel:Hid (∀(T:ByteArray) (W:World),Bx w0 (.slice (some p1) n c1) tab w N (.slice an M cn) (.slice ak L ck) T W->Cel W w.heap.size N (.slice an M cn) (.slice ak L ck)):=fun T W B=>B.cells
 have g28:=kqf hk 28 rfl
 have g29:=kqt hk 29 rfl
 have KP:Hid (∀w:World,Calls Tryz.prog 75 #[vNd N (.slice an M cn) (.slice ak L ck)] w fun e w'=>e= .returned (.int .i64 (powP N.k N.op))/\Below w.heap.size w w'):=fun w=>l4power_any N _ _ hop w
 have S0:Hid (Wr w0 (.slice (some p1) n c1) tab 76 _ (Y)):=hY (.slice an M cn) (.slice ak L ck) R.nm R.ks
 have HR:Hid (NdR w0 p1 i N an M cn ak L ck):=R
 obtain⟨x0,x1,x2,x3,x4,x5,x6,x7,x8⟩:=cel.out _ _ B0.out
 clear h R hNs hcap hN hnn zf z2 hL hM hk hop
 unfold vNd at KP S0
 generalize hpw:powP N.k N.op=pw at *
 clear hpw
 go_enter Tryz.func24,Tryz.ntmps24
 go_wp2_with (go_at_call 75;fail)
 refine(KP.out _).mono ?_
 rintro e yp ⟨rfl,hbp⟩
 have C0:Hid (Bx w0 (.slice (some p1) n c1) tab w N (.slice an M cn) (.slice ak L ck) T yp):=B0.out.below hbp
 obtain⟨x0,x1,x2,x3,x4,x5,x6,x7,x8⟩:=cel.out _ _ C0.out
 clear hbp m0 m1 m2 m3 m4 m5 m6 m7 m8 z0
 go_wp2_with (go_at_call 76;fail)
 refine(S0.out _ _ C0.out.pr (by(try simp only[ByteArray.size_append]);omega)).mono ?_
 rintro e yw0 ⟨rfl,qq,kk⟩
 have B1:Hid (Bx w0 (.slice (some p1) n c1) tab w N (.slice an M cn) (.slice ak L ck) (T++(Y)) yw0):=C0.out.next hlt qq kk
 obtain⟨x0,x1,x2,x3,x4,x5,x6,x7,x8⟩:=cel.out _ _ B1.out
 clear qq kk
 go_wp2_with fail
 go_end0
 refine⟨rfl,?_,B1.out.kq⟩
 have:=B1.out.pr
 simpa only[ByteArray.append_assoc] using this
theorem expr_unary (w0:World) (p1:Addr) (n c1:Nat) (ns:List Nd) (hNs:NdsAt w0 (.slice (some p1) n c1) ns) (hcap:KCap w0 p1 ns) (hnn:ns.length=n) (hln:n<=1048576) (tab:Nat) (i:Nat) (hi:i<n) (N:Nd) (hN:nodeI ns i=N) (hlk:N.ks.length<=1048576) (hk:N.k=30) (hop:N.k=31->1<=N.op/\N.op<=18) (least:Int) (hle:¬powP N.k N.op<least) (Y:ByteArray) (hY:∀vn vk,StrsAt w0 vn N.nm->IntsAt w0 vk N.ks->Wr w0 (.slice (some p1) n c1) tab 78 #[pW w0,vNd N vn vk] Y):
  Wr w0 (.slice (some p1) n c1) tab 24 #[pW w0,.int .i64 (i:Int),.int .i64 least] (Y):=by
 intro T w h hl
 obtain⟨an,M,cn,ak,L,ck,R⟩:=nd_in hNs hcap (show i<ns.length by omega)
 rw[hN]at R
 have hlt:=h.lt
 obtain⟨z0,z2,zf⟩:=h.cells
 have hL:=R.hL
 have hM:=R.hM
 obtain⟨m0,m1,m2,m3,m4,m5,m6,m7,m8,_,_⟩:=R.rd w h.bel
 have B0:Hid (Bx w0 (.slice (some p1) n c1) tab w N (.slice an M cn) (.slice ak L ck) T (w.alloc (boxN N (.slice an M cn) (.slice ak L ck)))):=Bx.new h N _ _
 try simp only[ByteArray.size_append]at hl
 have hii:(i:Int)<(n:Int):=by omega
 have hii0:(0:Int)<=(i:Int):=by omega
 have cel:Hid (∀(T:ByteArray) (W:World),Bx w0 (.slice (some p1) n c1) tab w N (.slice an M cn) (.slice ak L ck) T W->Cel W w.heap.size N (.slice an M cn) (.slice ak L ck)):=fun T W B=>B.cells
 have g28:=kqf hk 28 rfl
 have g29:=kqf hk 29 rfl
 have g31:=kqf hk 31 rfl
 have g30:=kqt hk 30 rfl
 have KP:Hid (∀w:World,Calls Tryz.prog 75 #[vNd N (.slice an M cn) (.slice ak L ck)] w fun e w'=>e= .returned (.int .i64 (powP N.k N.op))/\Below w.heap.size w w'):=fun w=>l4power_any N _ _ hop w
 have S0:Hid (Wr w0 (.slice (some p1) n c1) tab 78 _ (Y)):=hY (.slice an M cn) (.slice ak L ck) R.nm R.ks
 have HR:Hid (NdR w0 p1 i N an M cn ak L ck):=R
 obtain⟨x0,x1,x2,x3,x4,x5,x6,x7,x8⟩:=cel.out _ _ B0.out
 clear h R hNs hcap hN hnn zf z2 hL hM hk hop
 unfold vNd at KP S0
 generalize hpw:powP N.k N.op=pw at *
 clear hpw
 go_enter Tryz.func24,Tryz.ntmps24
 go_wp2_with (go_at_call 75;fail)
 refine(KP.out _).mono ?_
 rintro e yp ⟨rfl,hbp⟩
 have C0:Hid (Bx w0 (.slice (some p1) n c1) tab w N (.slice an M cn) (.slice ak L ck) T yp):=B0.out.below hbp
 obtain⟨x0,x1,x2,x3,x4,x5,x6,x7,x8⟩:=cel.out _ _ C0.out
 clear hbp m0 m1 m2 m3 m4 m5 m6 m7 m8 z0
 go_wp2_with (go_at_call 78;fail)
 refine(S0.out _ _ C0.out.pr (by(try simp only[ByteArray.size_append]);omega)).mono ?_
 rintro e yw0 ⟨rfl,qq,kk⟩
 have B1:Hid (Bx w0 (.slice (some p1) n c1) tab w N (.slice an M cn) (.slice ak L ck) (T++(Y)) yw0):=C0.out.next hlt qq kk
 obtain⟨x0,x1,x2,x3,x4,x5,x6,x7,x8⟩:=cel.out _ _ B1.out
 clear qq kk
 go_wp2_with fail
 go_end0
 refine⟨rfl,?_,B1.out.kq⟩
 have:=B1.out.pr
 simpa only[ByteArray.append_assoc] using this
theorem expr_table (w0:World) (p1:Addr) (n c1:Nat) (ns:List Nd) (hNs:NdsAt w0 (.slice (some p1) n c1) ns) (hcap:KCap w0 p1 ns) (hnn:ns.length=n) (hln:n<=1048576) (tab:Nat) (i:Nat) (hi:i<n) (N:Nd) (hN:nodeI ns i=N) (hlk:N.ks.length<=1048576) (hk:N.k=35) (hop:N.k=31->1<=N.op/\N.op<=18) (least:Int) (hle:¬powP N.k N.op<least) (Y:ByteArray) (hY:∀vn vk,StrsAt w0 vn N.nm->IntsAt w0 vk N.ks->Wr w0 (.slice (some p1) n c1) tab 80 #[pW w0,vNd N vn vk] Y):
  Wr w0 (.slice (some p1) n c1) tab 24 #[pW w0,.int .i64 (i:Int),.int .i64 least] (Y):=by
 intro T w h hl
 obtain⟨an,M,cn,ak,L,ck,R⟩:=nd_in hNs hcap (show i<ns.length by omega)
 rw[hN]at R
 have hlt:=h.lt
 obtain⟨z0,z2,zf⟩:=h.cells
 have hL:=R.hL
 have hM:=R.hM
 obtain⟨m0,m1,m2,m3,m4,m5,m6,m7,m8,_,_⟩:=R.rd w h.bel
 have B0:Hid (Bx w0 (.slice (some p1) n c1) tab w N (.slice an M cn) (.slice ak L ck) T (w.alloc (boxN N (.slice an M cn) (.slice ak L ck)))):=Bx.new h N _ _
 try simp only[ByteArray.size_append]at hl
 have hii:(i:Int)<(n:Int):=by omega
 have hii0:(0:Int)<=(i:Int):=by omega
 have cel:Hid (∀(T:ByteArray) (W:World),Bx w0 (.slice (some p1) n c1) tab w N (.slice an M cn) (.slice ak L ck) T W->Cel W w.heap.size N (.slice an M cn) (.slice ak L ck)):=fun T W B=>B.cells
 have g28:=kqf hk 28 rfl
 have g29:=kqf hk 29 rfl
 have g31:=kqf hk 31 rfl
 have g30:=kqf hk 30 rfl
 have g32:=kqf hk 32 rfl
 have g33:=kqf hk 33 rfl
 have g34:=kqf hk 34 rfl
 have g35:=kqt hk 35 rfl
 have KP:Hid (∀w:World,Calls Tryz.prog 75 #[vNd N (.slice an M cn) (.slice ak L ck)] w fun e w'=>e= .returned (.int .i64 (powP N.k N.op))/\Below w.heap.size w w'):=fun w=>l4power_any N _ _ hop w
 have S0:Hid (Wr w0 (.slice (some p1) n c1) tab 80 _ (Y)):=hY (.slice an M cn) (.slice ak L ck) R.nm R.ks
 have HR:Hid (NdR w0 p1 i N an M cn ak L ck):=R
 obtain⟨x0,x1,x2,x3,x4,x5,x6,x7,x8⟩:=cel.out _ _ B0.out
 clear h R hNs hcap hN hnn zf z2 hL hM hk hop
 unfold vNd at KP S0
 generalize hpw:powP N.k N.op=pw at *
 clear hpw
 go_enter Tryz.func24,Tryz.ntmps24
 go_wp2_with (go_at_call 75;fail)
 refine(KP.out _).mono ?_
 rintro e yp ⟨rfl,hbp⟩
 have C0:Hid (Bx w0 (.slice (some p1) n c1) tab w N (.slice an M cn) (.slice ak L ck) T yp):=B0.out.below hbp
 obtain⟨x0,x1,x2,x3,x4,x5,x6,x7,x8⟩:=cel.out _ _ C0.out
 clear hbp m0 m1 m2 m3 m4 m5 m6 m7 m8 z0
 go_wp2_with (go_at_call 80;fail)
 refine(S0.out _ _ C0.out.pr (by(try simp only[ByteArray.size_append]);omega)).mono ?_
 rintro e yw0 ⟨rfl,qq,kk⟩
 have B1:Hid (Bx w0 (.slice (some p1) n c1) tab w N (.slice an M cn) (.slice ak L ck) (T++(Y)) yw0):=C0.out.next hlt qq kk
 obtain⟨x0,x1,x2,x3,x4,x5,x6,x7,x8⟩:=cel.out _ _ B1.out
 clear qq kk
 go_wp2_with fail
 go_end0
 refine⟨rfl,?_,B1.out.kq⟩
 have:=B1.out.pr
 simpa only[ByteArray.append_assoc] using this
theorem expr_plain (w0:World) (p1:Addr) (n c1:Nat) (ns:List Nd) (hNs:NdsAt w0 (.slice (some p1) n c1) ns) (hcap:KCap w0 p1 ns) (hnn:ns.length=n) (hln:n<=1048576) (tab:Nat) (i:Nat) (hi:i<n) (N:Nd) (hN:nodeI ns i=N) (hlk:N.ks.length<=1048576) (hk:20<=N.k/\N.k<=27) (hop:N.k=31->1<=N.op/\N.op<=18) (least:Int) (hle:¬powP N.k N.op<least) (Y:ByteArray) (hY:∀vn vk,StrsAt w0 vn N.nm->IntsAt w0 vk N.ks->Wr w0 (.slice (some p1) n c1) tab 81 #[pW w0,vNd N vn vk] Y):
  Wr w0 (.slice (some p1) n c1) tab 24 #[pW w0,.int .i64 (i:Int),.int .i64 least] (Y):=by
 intro T w h hl
 obtain⟨an,M,cn,ak,L,ck,R⟩:=nd_in hNs hcap (show i<ns.length by omega)
 rw[hN]at R
 have hlt:=h.lt
 obtain⟨z0,z2,zf⟩:=h.cells
 have hL:=R.hL
 have hM:=R.hM
 obtain⟨m0,m1,m2,m3,m4,m5,m6,m7,m8,_,_⟩:=R.rd w h.bel
 have B0:Hid (Bx w0 (.slice (some p1) n c1) tab w N (.slice an M cn) (.slice ak L ck) T (w.alloc (boxN N (.slice an M cn) (.slice ak L ck)))):=Bx.new h N _ _
 try simp only[ByteArray.size_append]at hl
 have hii:(i:Int)<(n:Int):=by omega
 have hii0:(0:Int)<=(i:Int):=by omega
 have cel:Hid (∀(T:ByteArray) (W:World),Bx w0 (.slice (some p1) n c1) tab w N (.slice an M cn) (.slice ak L ck) T W->Cel W w.heap.size N (.slice an M cn) (.slice ak L ck)):=fun T W B=>B.cells
 have g28:(N.k==28)=false:=by simp;omega
 have g29:(N.k==29)=false:=by simp;omega
 have g31:(N.k==31)=false:=by simp;omega
 have g30:(N.k==30)=false:=by simp;omega
 have g32:(N.k==32)=false:=by simp;omega
 have g33:(N.k==33)=false:=by simp;omega
 have g34:(N.k==34)=false:=by simp;omega
 have g35:(N.k==35)=false:=by simp;omega
 have g36:(N.k==36)=false:=by simp;omega
 have g37:(N.k==37)=false:=by simp;omega
 have KP:Hid (∀w:World,Calls Tryz.prog 75 #[vNd N (.slice an M cn) (.slice ak L ck)] w fun e w'=>e= .returned (.int .i64 (powP N.k N.op))/\Below w.heap.size w w'):=fun w=>l4power_any N _ _ hop w
 have S0:Hid (Wr w0 (.slice (some p1) n c1) tab 81 _ (Y)):=hY (.slice an M cn) (.slice ak L ck) R.nm R.ks
 have HR:Hid (NdR w0 p1 i N an M cn ak L ck):=R
 obtain⟨x0,x1,x2,x3,x4,x5,x6,x7,x8⟩:=cel.out _ _ B0.out
 clear h R hNs hcap hN hnn zf z2 hL hM hk hop
 unfold vNd at KP S0
 generalize hpw:powP N.k N.op=pw at *
 clear hpw
 go_enter Tryz.func24,Tryz.ntmps24
 go_wp2_with (go_at_call 75;fail)
 refine(KP.out _).mono ?_
 rintro e yp ⟨rfl,hbp⟩
 have C0:Hid (Bx w0 (.slice (some p1) n c1) tab w N (.slice an M cn) (.slice ak L ck) T yp):=B0.out.below hbp
 obtain⟨x0,x1,x2,x3,x4,x5,x6,x7,x8⟩:=cel.out _ _ C0.out
 clear hbp m0 m1 m2 m3 m4 m5 m6 m7 m8 z0
 go_wp2_with (go_at_call 81;fail)
 refine(S0.out _ _ C0.out.pr (by(try simp only[ByteArray.size_append]);omega)).mono ?_
 rintro e yw0 ⟨rfl,qq,kk⟩
 have B1:Hid (Bx w0 (.slice (some p1) n c1) tab w N (.slice an M cn) (.slice ak L ck) (T++(Y)) yw0):=C0.out.next hlt qq kk
 obtain⟨x0,x1,x2,x3,x4,x5,x6,x7,x8⟩:=cel.out _ _ B1.out
 clear qq kk
 go_wp2_with fail
 go_end0
 refine⟨rfl,?_,B1.out.kq⟩
 have:=B1.out.pr
 simpa only[ByteArray.append_assoc] using this
end Go.Proofs.YtelfejiiabbpfaaGreatDoor
