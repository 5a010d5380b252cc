import Derived.Test.YtelfejiiabbpfaaGreatDoorHRk28
set_option linter.unusedVariables false
set_option maxRecDepth 100000
set_option maxHeartbeats 6400000
namespace Go.Proofs.YtelfejiiabbpfaaGreatDoor
open Go.RowKit
theorem stat_block (w0:World) (p1:Addr) (n c1:Nat) (ns:List Nd) (hNs:NdsAt w0 (.slice (some p1) n c1) ns) (hcap:KCap w0 p1 ns) (hnn:ns.length=n) (hln:n<=1048576) (tab:Nat) (i:Nat) (hi:i<n) (N:Nd) (hN:nodeI ns i=N) (hk:N.k=1) (hlk:N.ks.length<=1048576) (Y:ByteArray) (hB:Wr w0 (.slice (some p1) n c1) tab 21 #[pW w0,.int .i64 (i:Int)] Y):
  Wr w0 (.slice (some p1) n c1) tab 11 #[pW w0,.int .i64 (i:Int)] (Y):=by
 intro T w h hl
 obtain⟨an,M,cn,ak,L,ck,R⟩:=nd_in hNs hcap (show i<ns.length by omega)
 rw[hN]at R
 have hlt:=h.lt
 obtain⟨z0,z2,zf⟩:=h.cells
 have hL:=R.hL
 have hM:=R.hM
 obtain⟨m0,m1,m2,m3,m4,m5,m6,m7,m8,_,_⟩:=R.rd w h.bel
 have B0:Hid (Bx w0 (.slice (some p1) n c1) tab w N (.slice an M cn) (.slice ak L ck) T (w.alloc (boxN N (.slice an M cn) (.slice ak L ck)))):=Bx.new h N _ _
 try simp only[ByteArray.size_append]at hl
 have hii:(i:Int)<(n:Int):=by omega
 have hii0:(0:Int)<=(i:Int):=by omega
 have cel:Hid (∀(T:ByteArray) (W:World),Bx w0 (.slice (some p1) n c1) tab w N (.slice an M cn) (.slice ak L ck) T W->Cel W w.heap.size N (.slice an M cn) (.slice ak L ck)):=fun T W B=>B.cells
 have g1:=kqt hk 1 rfl
 have S0:Hid (Wr w0 (.slice (some p1) n c1) tab 21 _ (Y)):=hB
 have HR:Hid (NdR w0 p1 i N an M cn ak L ck):=R
 obtain⟨x0,x1,x2,x3,x4,x5,x6,x7,x8⟩:=cel.out _ _ B0.out
 clear h R hNs hcap hN hnn zf z2 hL hM hk
 go_enter Tryz.func11,Tryz.ntmps11
 go_wp2_with (go_at_call 21;fail)
 refine(S0.out _ _ B0.out.pr (by(try simp only[ByteArray.size_append]);omega)).mono ?_
 rintro e yw0 ⟨rfl,qq,kk⟩
 have B1:Hid (Bx w0 (.slice (some p1) n c1) tab w N (.slice an M cn) (.slice ak L ck) (T++(Y)) yw0):=B0.out.next hlt qq kk
 obtain⟨x0,x1,x2,x3,x4,x5,x6,x7,x8⟩:=cel.out _ _ B1.out
 clear qq kk m0 m1 m2 m3 m4 m5 m6 m7 m8 z0
 go_wp2_with fail
 go_end0
 refine⟨rfl,?_,B1.out.kq⟩
 have:=B1.out.pr
 simpa only[ByteArray.append_assoc] using this
theorem stat_let0 (w0:World) (p1:Addr) (n c1:Nat) (ns:List Nd) (hNs:NdsAt w0 (.slice (some p1) n c1) ns) (hcap:KCap w0 p1 ns) (hnn:ns.length=n) (hln:n<=1048576) (tab:Nat) (i:Nat) (hi:i<n) (N:Nd) (hN:nodeI ns i=N) (hk:N.k=2) (hlk:N.ks.length<=1048576) (hNm:∀v,StrsAt w0 v N.nm->Wr w0 (.slice (some p1) n c1) tab 22 #[pW w0,v] (sepB N.nm)) (h0:N.ks.length=0):
  Wr w0 (.slice (some p1) n c1) tab 11 #[pW w0,.int .i64 (i:Int)] (⟨#[108,101,116,32]⟩++sepB N.nm):=by
 intro T w h hl
 obtain⟨an,M,cn,ak,L,ck,R⟩:=nd_in hNs hcap (show i<ns.length by omega)
 rw[hN]at R
 have hlt:=h.lt
 obtain⟨z0,z2,zf⟩:=h.cells
 have hL:=R.hL
 have hM:=R.hM
 obtain⟨m0,m1,m2,m3,m4,m5,m6,m7,m8,_,_⟩:=R.rd w h.bel
 have B0:Hid (Bx w0 (.slice (some p1) n c1) tab w N (.slice an M cn) (.slice ak L ck) T (w.alloc (boxN N (.slice an M cn) (.slice ak L ck)))):=Bx.new h N _ _
 try simp only[ByteArray.size_append]at hl
 have hii:(i:Int)<(n:Int):=by omega
 have hii0:(0:Int)<=(i:Int):=by omega
 have cel:Hid (∀(T:ByteArray) (W:World),Bx w0 (.slice (some p1) n c1) tab w N (.slice an M cn) (.slice ak L ck) T W->Cel W w.heap.size N (.slice an M cn) (.slice ak L ck)):=fun T W B=>B.cells
 have g1:=kqf hk 1 rfl
 have g2:=kqt hk 2 rfl
 have hq:¬(0:Int)<(L:Int):=by omega
 have S0:Hid (Wr w0 (.slice (some p1) n c1) tab 12 _ (⟨#[108,101,116,32]⟩)):=fun T' W' hp hl=>say_any w0 _ T' (⟨#[108,101,116,32]⟩) _ W' hp hl
 have S1:Hid (Wr w0 (.slice (some p1) n c1) tab 22 _ (sepB N.nm)):=hNm (.slice an M cn) R.nm
 have HR:Hid (NdR w0 p1 i N an M cn ak L ck):=R
 obtain⟨x0,x1,x2,x3,x4,x5,x6,x7,x8⟩:=cel.out _ _ B0.out
 clear h R hNs hcap hN hnn zf z2 hL hM hk
 go_enter Tryz.func11,Tryz.ntmps11
 go_wp2_with (go_at_call 12;fail)
 refine(S0.out _ _ B0.out.pr (by(try simp only[ByteArray.size_append]);omega)).mono ?_
 rintro e yw0 ⟨rfl,qq,kk⟩
 have B1:Hid (Bx w0 (.slice (some p1) n c1) tab w N (.slice an M cn) (.slice ak L ck) (T++(⟨#[108,101,116,32]⟩)) yw0):=B0.out.next hlt qq kk
 obtain⟨x0,x1,x2,x3,x4,x5,x6,x7,x8⟩:=cel.out _ _ B1.out
 clear qq kk m0 m1 m2 m3 m4 m5 m6 m7 m8 z0
 go_wp2_with (go_at_call 22;fail)
 refine(S1.out _ _ B1.out.pr (by(try simp only[ByteArray.size_append]);omega)).mono ?_
 rintro e yw1 ⟨rfl,qq,kk⟩
 have B2:Hid (Bx w0 (.slice (some p1) n c1) tab w N (.slice an M cn) (.slice ak L ck) (T++(⟨#[108,101,116,32]⟩)++(sepB N.nm)) yw1):=B1.out.next hlt qq kk
 obtain⟨x0,x1,x2,x3,x4,x5,x6,x7,x8⟩:=cel.out _ _ B2.out
 clear qq kk
 go_wp2_with fail
 go_end0
 refine⟨rfl,?_,B2.out.kq⟩
 have:=B2.out.pr
 simpa only[ByteArray.append_assoc] using this
theorem stat_let (w0:World) (p1:Addr) (n c1:Nat) (ns:List Nd) (hNs:NdsAt w0 (.slice (some p1) n c1) ns) (hcap:KCap w0 p1 ns) (hnn:ns.length=n) (hln:n<=1048576) (tab:Nat) (i:Nat) (hi:i<n) (N:Nd) (hN:nodeI ns i=N) (hk:N.k=2) (hlk:N.ks.length<=1048576) (hNm:∀v,StrsAt w0 v N.nm->Wr w0 (.slice (some p1) n c1) tab 22 #[pW w0,v] (sepB N.nm)) (h0:0<N.ks.length) (X:ByteArray) (hXX:∀v,IntsAt w0 v (N.ks)->Wr w0 (.slice (some p1) n c1) tab 23 #[pW w0,v] X):
  Wr w0 (.slice (some p1) n c1) tab 11 #[pW w0,.int .i64 (i:Int)] (⟨#[108,101,116,32]⟩++sepB N.nm++(⟨#[32,61,32]⟩++X)):=by
 intro T w h hl
 obtain⟨an,M,cn,ak,L,ck,R⟩:=nd_in hNs hcap (show i<ns.length by omega)
 rw[hN]at R
 have hlt:=h.lt
 obtain⟨z0,z2,zf⟩:=h.cells
 have hL:=R.hL
 have hM:=R.hM
 obtain⟨m0,m1,m2,m3,m4,m5,m6,m7,m8,_,_⟩:=R.rd w h.bel
 have B0:Hid (Bx w0 (.slice (some p1) n c1) tab w N (.slice an M cn) (.slice ak L ck) T (w.alloc (boxN N (.slice an M cn) (.slice ak L ck)))):=Bx.new h N _ _
 try simp only[ByteArray.size_append]at hl
 have hii:(i:Int)<(n:Int):=by omega
 have hii0:(0:Int)<=(i:Int):=by omega
 have cel:Hid (∀(T:ByteArray) (W:World),Bx w0 (.slice (some p1) n c1) tab w N (.slice an M cn) (.slice ak L ck) T W->Cel W w.heap.size N (.slice an M cn) (.slice ak L ck)):=fun T W B=>B.cells
 have g1:=kqf hk 1 rfl
 have g2:=kqt hk 2 rfl
 have hq:(0:Int)<(L:Int):=by omega
 have S0:Hid (Wr w0 (.slice (some p1) n c1) tab 12 _ (⟨#[108,101,116,32]⟩)):=fun T' W' hp hl=>say_any w0 _ T' (⟨#[108,101,116,32]⟩) _ W' hp hl
 have S1:Hid (Wr w0 (.slice (some p1) n c1) tab 22 _ (sepB N.nm)):=hNm (.slice an M cn) R.nm
 have S2:Hid (Wr w0 (.slice (some p1) n c1) tab 12 _ (⟨#[32,61,32]⟩)):=fun T' W' hp hl=>say_any w0 _ T' (⟨#[32,61,32]⟩) _ W' hp hl
 have S3:Hid (Wr w0 (.slice (some p1) n c1) tab 23 _ (X)):=hXX (.slice ak L ck) R.ks
 have HR:Hid (NdR w0 p1 i N an M cn ak L ck):=R
 obtain⟨x0,x1,x2,x3,x4,x5,x6,x7,x8⟩:=cel.out _ _ B0.out
 clear h R hNs hcap hN hnn zf z2 hL hM hk
 go_enter Tryz.func11,Tryz.ntmps11
 go_wp2_with (go_at_call 12;fail)
 refine(S0.out _ _ B0.out.pr (by(try simp only[ByteArray.size_append]);omega)).mono ?_
 rintro e yw0 ⟨rfl,qq,kk⟩
 have B1:Hid (Bx w0 (.slice (some p1) n c1) tab w N (.slice an M cn) (.slice ak L ck) (T++(⟨#[108,101,116,32]⟩)) yw0):=B0.out.next hlt qq kk
 obtain⟨x0,x1,x2,x3,x4,x5,x6,x7,x8⟩:=cel.out _ _ B1.out
 clear qq kk m0 m1 m2 m3 m4 m5 m6 m7 m8 z0
 go_wp2_with (go_at_call 22;fail)
 refine(S1.out _ _ B1.out.pr (by(try simp only[ByteArray.size_append]);omega)).mono ?_
 rintro e yw1 ⟨rfl,qq,kk⟩
 have B2:Hid (Bx w0 (.slice (some p1) n c1) tab w N (.slice an M cn) (.slice ak L ck) (T++(⟨#[108,101,116,32]⟩)++(sepB N.nm)) yw1):=B1.out.next hlt qq kk
 obtain⟨x0,x1,x2,x3,x4,x5,x6,x7,x8⟩:=cel.out _ _ B2.out
 clear qq kk
 go_wp2_with (go_at_call 12;fail)
 refine(S2.out _ _ B2.out.pr (by(try simp only[ByteArray.size_append]);omega)).mono ?_
 rintro e yw2 ⟨rfl,qq,kk⟩
 have B3:Hid (Bx w0 (.slice (some p1) n c1) tab w N (.slice an M cn) (.slice ak L ck) (T++(⟨#[108,101,116,32]⟩)++(sepB N.nm)++(⟨#[32,61,32]⟩)) yw2):=B2.out.next hlt qq kk
 obtain⟨x0,x1,x2,x3,x4,x5,x6,x7,x8⟩:=cel.out _ _ B3.out
 clear qq kk
 go_wp2_with (go_at_call 23;fail)
 refine(S3.out _ _ B3.out.pr (by(try simp only[ByteArray.size_append]);omega)).mono ?_
 rintro e yw3 ⟨rfl,qq,kk⟩
 have B4:Hid (Bx w0 (.slice (some p1) n c1) tab w N (.slice an M cn) (.slice ak L ck) (T++(⟨#[108,101,116,32]⟩)++(sepB N.nm)++(⟨#[32,61,32]⟩)++(X)) yw3):=B3.out.next hlt qq kk
 obtain⟨x0,x1,x2,x3,x4,x5,x6,x7,x8⟩:=cel.out _ _ B4.out
 clear qq kk
 go_wp2_with fail
 go_end0
 refine⟨rfl,?_,B4.out.kq⟩
 have:=B4.out.pr
 simpa only[ByteArray.append_assoc] using this
theorem stat_do (w0:World) (p1:Addr) (n c1:Nat) (ns:List Nd) (hNs:NdsAt w0 (.slice (some p1) n c1) ns) (hcap:KCap w0 p1 ns) (hnn:ns.length=n) (hln:n<=1048576) (tab:Nat) (i:Nat) (hi:i<n) (N:Nd) (hN:nodeI ns i=N) (hk:N.k=6) (hlk:N.ks.length<=1048576) (q0:Nat) (hk0:N.ks[0]?=some (q0:Int)) (E0:ByteArray) (hE0:Wr w0 (.slice (some p1) n c1) tab 24 #[pW w0,.int .i64 (q0:Int),.int .i64 0] E0):
  Wr w0 (.slice (some p1) n c1) tab 11 #[pW w0,.int .i64 (i:Int)] (E0):=by
 intro T w h hl
 obtain⟨an,M,cn,ak,L,ck,R⟩:=nd_in hNs hcap (show i<ns.length by omega)
 rw[hN]at R
 have hlt:=h.lt
 obtain⟨z0,z2,zf⟩:=h.cells
 have hL:=R.hL
 have hM:=R.hM
 obtain⟨pk,rfl⟩:=R.ks.ptr (by have:=kid_lt hk0;omega)
 have hj0:(0:Int)<(L:Int):=by have:=kid_lt hk0;omega
 obtain⟨m0,m1,m2,m3,m4,m5,m6,m7,m8,_,_⟩:=R.rd w h.bel
 have B0:Hid (Bx w0 (.slice (some p1) n c1) tab w N (.slice an M cn) (.slice (some pk) L ck) T (w.alloc (boxN N (.slice an M cn) (.slice (some pk) L ck)))):=Bx.new h N _ _
 try simp only[ByteArray.size_append]at hl
 have hii:(i:Int)<(n:Int):=by omega
 have hii0:(0:Int)<=(i:Int):=by omega
 have cel:Hid (∀(T:ByteArray) (W:World),Bx w0 (.slice (some p1) n c1) tab w N (.slice an M cn) (.slice (some pk) L ck) T W->Cel W w.heap.size N (.slice an M cn) (.slice (some pk) L ck)/\W.cell? pk=some (.int .i64 (q0:Int))):=fun T W B=>⟨B.cells,B.kid0 R.ks hk0⟩
 have g1:=kqf hk 1 rfl
 have g2:=kqf hk 2 rfl
 have g3:=kqf hk 3 rfl
 have g4:=kqf hk 4 rfl
 have g5:=kqf hk 5 rfl
 have g6:=kqt hk 6 rfl
 have S0:Hid (Wr w0 (.slice (some p1) n c1) tab 24 _ (E0)):=hE0
 have HR:Hid (NdR w0 p1 i N an M cn (some pk) L ck):=R
 obtain⟨⟨x0,x1,x2,x3,x4,x5,x6,x7,x8⟩,y0⟩:=cel.out _ _ B0.out
 clear h R hNs hcap hN hnn zf z2 hL hM hk
 go_enter Tryz.func11,Tryz.ntmps11
 go_wp2_with (go_at_call 24;fail)
 refine(S0.out _ _ B0.out.pr (by(try simp only[ByteArray.size_append]);omega)).mono ?_
 rintro e yw0 ⟨rfl,qq,kk⟩
 have B1:Hid (Bx w0 (.slice (some p1) n c1) tab w N (.slice an M cn) (.slice (some pk) L ck) (T++(E0)) yw0):=B0.out.next hlt qq kk
 obtain⟨⟨x0,x1,x2,x3,x4,x5,x6,x7,x8⟩,y0⟩:=cel.out _ _ B1.out
 clear qq kk m0 m1 m2 m3 m4 m5 m6 m7 m8 z0
 go_wp2_with fail
 go_end0
 refine⟨rfl,?_,B1.out.kq⟩
 have:=B1.out.pr
 simpa only[ByteArray.append_assoc] using this
theorem stat_each (w0:World) (p1:Addr) (n c1:Nat) (ns:List Nd) (hNs:NdsAt w0 (.slice (some p1) n c1) ns) (hcap:KCap w0 p1 ns) (hnn:ns.length=n) (hln:n<=1048576) (tab:Nat) (i:Nat) (hi:i<n) (N:Nd) (hN:nodeI ns i=N) (hk:N.k=10) (hlk:N.ks.length<=1048576) (hNm:∀v,StrsAt w0 v N.nm->Wr w0 (.slice (some p1) n c1) tab 22 #[pW w0,v] (sepB N.nm)) (hLn:N.ks.length=2) (X:ByteArray) (hXX:∀v,IntsAt w0 v (N.ks.take 1)->Wr w0 (.slice (some p1) n c1) tab 23 #[pW w0,v] X) (q:Nat) (hk1:N.ks[1]?=some (q:Int)) (Y1:ByteArray) (hB1:Wr w0 (.slice (some p1) n c1) tab 21 #[pW w0,.int .i64 (q:Int)] Y1):
  Wr w0 (.slice (some p1) n c1) tab 11 #[pW w0,.int .i64 (i:Int)] (⟨#[102,111,114,32]⟩++sepB N.nm++⟨#[32,105,110,32]⟩++X++⟨#[32]⟩++Y1):=by
 intro T w h hl
 obtain⟨an,M,cn,ak,L,ck,R⟩:=nd_in hNs hcap (show i<ns.length by omega)
 rw[hN]at R
 have hlt:=h.lt
 obtain⟨z0,z2,zf⟩:=h.cells
 have hL:=R.hL
 have hM:=R.hM
 obtain⟨pk,rfl⟩:=R.ks.ptr (by have:=kid_lt hk1;omega)
 have hj1:(1:Int)<(L:Int):=by have:=kid_lt hk1;omega
 obtain⟨m0,m1,m2,m3,m4,m5,m6,m7,m8,_,_⟩:=R.rd w h.bel
 have B0:Hid (Bx w0 (.slice (some p1) n c1) tab w N (.slice an M cn) (.slice (some pk) L ck) T (w.alloc (boxN N (.slice an M cn) (.slice (some pk) L ck)))):=Bx.new h N _ _
 try simp only[ByteArray.size_append]at hl
 have hii:(i:Int)<(n:Int):=by omega
 have hii0:(0:Int)<=(i:Int):=by omega
 have cel:Hid (∀(T:ByteArray) (W:World),Bx w0 (.slice (some p1) n c1) tab w N (.slice an M cn) (.slice (some pk) L ck) T W->Cel W w.heap.size N (.slice an M cn) (.slice (some pk) L ck)/\W.cell? ⟨pk.block,pk.off+1,none⟩=some (.int .i64 (q:Int))):=fun T W B=>⟨B.cells,B.kid R.ks hk1 (by decide)⟩
 have g1:=kqf hk 1 rfl
 have g2:=kqf hk 2 rfl
 have g3:=kqf hk 3 rfl
 have g4:=kqf hk 4 rfl
 have g5:=kqf hk 5 rfl
 have g6:=kqf hk 6 rfl
 have g7:=kqf hk 7 rfl
 have g8:=kqf hk 8 rfl
 have g9:=kqf hk 9 rfl
 have g10:=kqt hk 10 rfl
 obtain rfl:L=2:=by omega
 have hc:=R.cap
 have hc0:¬ck=0:=by omega
 have hc1:(1:Int)<=(ck:Int):=by omega
 have S0:Hid (Wr w0 (.slice (some p1) n c1) tab 12 _ (⟨#[102,111,114,32]⟩)):=fun T' W' hp hl=>say_any w0 _ T' (⟨#[102,111,114,32]⟩) _ W' hp hl
 have S1:Hid (Wr w0 (.slice (some p1) n c1) tab 22 _ (sepB N.nm)):=hNm (.slice an M cn) R.nm
 have S2:Hid (Wr w0 (.slice (some p1) n c1) tab 12 _ (⟨#[32,105,110,32]⟩)):=fun T' W' hp hl=>say_any w0 _ T' (⟨#[32,105,110,32]⟩) _ W' hp hl
 have S3:Hid (Wr w0 (.slice (some p1) n c1) tab 23 _ (X)):=hXX (.slice (some pk) 1 ck) (R.ks.take 1 (by omega))
 have S4:Hid (Wr w0 (.slice (some p1) n c1) tab 12 _ (⟨#[32]⟩)):=fun T' W' hp hl=>say_any w0 _ T' (⟨#[32]⟩) _ W' hp hl
 have S5:Hid (Wr w0 (.slice (some p1) n c1) tab 21 _ (Y1)):=hB1
 have HR:Hid (NdR w0 p1 i N an M cn (some pk) 2 ck):=R
 obtain⟨⟨x0,x1,x2,x3,x4,x5,x6,x7,x8⟩,y1⟩:=cel.out _ _ B0.out
 clear h R hNs hcap hN hnn zf z2 hL hM hk
 go_enter Tryz.func11,Tryz.ntmps11
 go_wp2_with (go_at_call 12;fail)
 refine(S0.out _ _ B0.out.pr (by(try simp only[ByteArray.size_append]);omega)).mono ?_
 rintro e yw0 ⟨rfl,qq,kk⟩
 have B1:Hid (Bx w0 (.slice (some p1) n c1) tab w N (.slice an M cn) (.slice (some pk) 2 ck) (T++(⟨#[102,111,114,32]⟩)) yw0):=B0.out.next hlt qq kk
 obtain⟨⟨x0,x1,x2,x3,x4,x5,x6,x7,x8⟩,y1⟩:=cel.out _ _ B1.out
 clear qq kk m0 m1 m2 m3 m4 m5 m6 m7 m8 z0
 go_wp2_with (go_at_call 22;fail)
 refine(S1.out _ _ B1.out.pr (by(try simp only[ByteArray.size_append]);omega)).mono ?_
 rintro e yw1 ⟨rfl,qq,kk⟩
 have B2:Hid (Bx w0 (.slice (some p1) n c1) tab w N (.slice an M cn) (.slice (some pk) 2 ck) (T++(⟨#[102,111,114,32]⟩)++(sepB N.nm)) yw1):=B1.out.next hlt qq kk
 obtain⟨⟨x0,x1,x2,x3,x4,x5,x6,x7,x8⟩,y1⟩:=cel.out _ _ B2.out
 clear qq kk
 go_wp2_with (go_at_call 12;fail)
 refine(S2.out _ _ B2.out.pr (by(try simp only[ByteArray.size_append]);omega)).mono ?_
 rintro e yw2 ⟨rfl,qq,kk⟩
 have B3:Hid (Bx w0 (.slice (some p1) n c1) tab w N (.slice an M cn) (.slice (some pk) 2 ck) (T++(⟨#[102,111,114,32]⟩)++(sepB N.nm)++(⟨#[32,105,110,32]⟩)) yw2):=B2.out.next hlt qq kk
 obtain⟨⟨x0,x1,x2,x3,x4,x5,x6,x7,x8⟩,y1⟩:=cel.out _ _ B3.out
 clear qq kk
 go_wp2_with (go_at_call 23;fail)
 refine(S3.out _ _ B3.out.pr (by(try simp only[ByteArray.size_append]);omega)).mono ?_
 rintro e yw3 ⟨rfl,qq,kk⟩
 have B4:Hid (Bx w0 (.slice (some p1) n c1) tab w N (.slice an M cn) (.slice (some pk) 2 ck) (T++(⟨#[102,111,114,32]⟩)++(sepB N.nm)++(⟨#[32,105,110,32]⟩)++(X)) yw3):=B3.out.next hlt qq kk
 obtain⟨⟨x0,x1,x2,x3,x4,x5,x6,x7,x8⟩,y1⟩:=cel.out _ _ B4.out
 clear qq kk
 go_wp2_with (go_at_call 12;fail)
 refine(S4.out _ _ B4.out.pr (by(try simp only[ByteArray.size_append]);omega)).mono ?_
 rintro e yw4 ⟨rfl,qq,kk⟩
 have B5:Hid (Bx w0 (.slice (some p1) n c1) tab w N (.slice an M cn) (.slice (some pk) 2 ck) (T++(⟨#[102,111,114,32]⟩)++(sepB N.nm)++(⟨#[32,105,110,32]⟩)++(X)++(⟨#[32]⟩)) yw4):=B4.out.next hlt qq kk
 obtain⟨⟨x0,x1,x2,x3,x4,x5,x6,x7,x8⟩,y1⟩:=cel.out _ _ B5.out
 clear qq kk
 go_wp2_with (go_at_call 21;fail)
 refine(S5.out _ _ B5.out.pr (by(try simp only[ByteArray.size_append]);omega)).mono ?_
 rintro e yw5 ⟨rfl,qq,kk⟩
 have B6:Hid (Bx w0 (.slice (some p1) n c1) tab w N (.slice an M cn) (.slice (some pk) 2 ck) (T++(⟨#[102,111,114,32]⟩)++(sepB N.nm)++(⟨#[32,105,110,32]⟩)++(X)++(⟨#[32]⟩)++(Y1)) yw5):=B5.out.next hlt qq kk
 obtain⟨⟨x0,x1,x2,x3,x4,x5,x6,x7,x8⟩,y1⟩:=cel.out _ _ B6.out
 clear qq kk
 go_wp2_with fail
 go_end0
 refine⟨rfl,?_,B6.out.kq⟩
 have:=B6.out.pr
 simpa only[ByteArray.append_assoc] using this
theorem stat_for3 (w0:World) (p1:Addr) (n c1:Nat) (ns:List Nd) (hNs:NdsAt w0 (.slice (some p1) n c1) ns) (hcap:KCap w0 p1 ns) (hnn:ns.length=n) (hln:n<=1048576) (tab:Nat) (i:Nat) (hi:i<n) (N:Nd) (hN:nodeI ns i=N) (hk:N.k=9) (hlk:N.ks.length<=1048576) (hNm:∀v,StrsAt w0 v N.nm->Wr w0 (.slice (some p1) n c1) tab 22 #[pW w0,v] (sepB N.nm)) (hLn:N.ks.length=3) (X:ByteArray) (hXX:∀v,IntsAt w0 v (N.ks.take 2)->Wr w0 (.slice (some p1) n c1) tab 23 #[pW w0,v] X) (q:Nat) (hk2:N.ks[2]?=some (q:Int)) (Y2:ByteArray) (hB2:Wr w0 (.slice (some p1) n c1) tab 21 #[pW w0,.int .i64 (q:Int)] Y2):
  Wr w0 (.slice (some p1) n c1) tab 11 #[pW w0,.int .i64 (i:Int)] (⟨#[102,111,114,32]⟩++sepB N.nm++⟨#[32,61,32]⟩++X++⟨#[32]⟩++Y2):=by
 intro T w h hl
 obtain⟨an,M,cn,ak,L,ck,R⟩:=nd_in hNs hcap (show i<ns.length by omega)
 rw[hN]at R
 have hlt:=h.lt
 obtain⟨z0,z2,zf⟩:=h.cells
 have hL:=R.hL
 have hM:=R.hM
 obtain⟨pk,rfl⟩:=R.ks.ptr (by have:=kid_lt hk2;omega)
 have hj2:(2:Int)<(L:Int):=by have:=kid_lt hk2;omega
 obtain⟨m0,m1,m2,m3,m4,m5,m6,m7,m8,_,_⟩:=R.rd w h.bel
 have B0:Hid (Bx w0 (.slice (some p1) n c1) tab w N (.slice an M cn) (.slice (some pk) L ck) T (w.alloc (boxN N (.slice an M cn) (.slice (some pk) L ck)))):=Bx.new h N _ _
 try simp only[ByteArray.size_append]at hl
 have hii:(i:Int)<(n:Int):=by omega
 have hii0:(0:Int)<=(i:Int):=by omega
 have cel:Hid (∀(T:ByteArray) (W:World),Bx w0 (.slice (some p1) n c1) tab w N (.slice an M cn) (.slice (some pk) L ck) T W->Cel W w.heap.size N (.slice an M cn) (.slice (some pk) L ck)/\W.cell? ⟨pk.block,pk.off+2,none⟩=some (.int .i64 (q:Int))):=fun T W B=>⟨B.cells,B.kid R.ks hk2 (by decide)⟩
 have g1:=kqf hk 1 rfl
 have g2:=kqf hk 2 rfl
 have g3:=kqf hk 3 rfl
 have g4:=kqf hk 4 rfl
 have g5:=kqf hk 5 rfl
 have g6:=kqf hk 6 rfl
 have g7:=kqf hk 7 rfl
 have g8:=kqf hk 8 rfl
 have g9:=kqt hk 9 rfl
 obtain rfl:L=3:=by omega
 have hc:=R.cap
 have hc0:¬ck=0:=by omega
 have hc1:(2:Int)<=(ck:Int):=by omega
 have S0:Hid (Wr w0 (.slice (some p1) n c1) tab 12 _ (⟨#[102,111,114,32]⟩)):=fun T' W' hp hl=>say_any w0 _ T' (⟨#[102,111,114,32]⟩) _ W' hp hl
 have S1:Hid (Wr w0 (.slice (some p1) n c1) tab 22 _ (sepB N.nm)):=hNm (.slice an M cn) R.nm
 have S2:Hid (Wr w0 (.slice (some p1) n c1) tab 12 _ (⟨#[32,61,32]⟩)):=fun T' W' hp hl=>say_any w0 _ T' (⟨#[32,61,32]⟩) _ W' hp hl
 have S3:Hid (Wr w0 (.slice (some p1) n c1) tab 23 _ (X)):=hXX (.slice (some pk) 2 ck) (R.ks.take 2 (by omega))
 have S4:Hid (Wr w0 (.slice (some p1) n c1) tab 12 _ (⟨#[32]⟩)):=fun T' W' hp hl=>say_any w0 _ T' (⟨#[32]⟩) _ W' hp hl
 have S5:Hid (Wr w0 (.slice (some p1) n c1) tab 21 _ (Y2)):=hB2
 have HR:Hid (NdR w0 p1 i N an M cn (some pk) 3 ck):=R
 obtain⟨⟨x0,x1,x2,x3,x4,x5,x6,x7,x8⟩,y2⟩:=cel.out _ _ B0.out
 clear h R hNs hcap hN hnn zf z2 hL hM hk
 go_enter Tryz.func11,Tryz.ntmps11
 go_wp2_with (go_at_call 12;fail)
 refine(S0.out _ _ B0.out.pr (by(try simp only[ByteArray.size_append]);omega)).mono ?_
 rintro e yw0 ⟨rfl,qq,kk⟩
 have B1:Hid (Bx w0 (.slice (some p1) n c1) tab w N (.slice an M cn) (.slice (some pk) 3 ck) (T++(⟨#[102,111,114,32]⟩)) yw0):=B0.out.next hlt qq kk
 obtain⟨⟨x0,x1,x2,x3,x4,x5,x6,x7,x8⟩,y2⟩:=cel.out _ _ B1.out
 clear qq kk m0 m1 m2 m3 m4 m5 m6 m7 m8 z0
 go_wp2_with (go_at_call 22;fail)
 refine(S1.out _ _ B1.out.pr (by(try simp only[ByteArray.size_append]);omega)).mono ?_
 rintro e yw1 ⟨rfl,qq,kk⟩
 have B2:Hid (Bx w0 (.slice (some p1) n c1) tab w N (.slice an M cn) (.slice (some pk) 3 ck) (T++(⟨#[102,111,114,32]⟩)++(sepB N.nm)) yw1):=B1.out.next hlt qq kk
 obtain⟨⟨x0,x1,x2,x3,x4,x5,x6,x7,x8⟩,y2⟩:=cel.out _ _ B2.out
 clear qq kk
 go_wp2_with (go_at_call 12;fail)
 refine(S2.out _ _ B2.out.pr (by(try simp only[ByteArray.size_append]);omega)).mono ?_
 rintro e yw2 ⟨rfl,qq,kk⟩
 have B3:Hid (Bx w0 (.slice (some p1) n c1) tab w N (.slice an M cn) (.slice (some pk) 3 ck) (T++(⟨#[102,111,114,32]⟩)++(sepB N.nm)++(⟨#[32,61,32]⟩)) yw2):=B2.out.next hlt qq kk
 obtain⟨⟨x0,x1,x2,x3,x4,x5,x6,x7,x8⟩,y2⟩:=cel.out _ _ B3.out
 clear qq kk
 go_wp2_with (go_at_call 23;fail)
 refine(S3.out _ _ B3.out.pr (by(try simp only[ByteArray.size_append]);omega)).mono ?_
 rintro e yw3 ⟨rfl,qq,kk⟩
 have B4:Hid (Bx w0 (.slice (some p1) n c1) tab w N (.slice an M cn) (.slice (some pk) 3 ck) (T++(⟨#[102,111,114,32]⟩)++(sepB N.nm)++(⟨#[32,61,32]⟩)++(X)) yw3):=B3.out.next hlt qq kk
 obtain⟨⟨x0,x1,x2,x3,x4,x5,x6,x7,x8⟩,y2⟩:=cel.out _ _ B4.out
 clear qq kk
 go_wp2_with (go_at_call 12;fail)
 refine(S4.out _ _ B4.out.pr (by(try simp only[ByteArray.size_append]);omega)).mono ?_
 rintro e yw4 ⟨rfl,qq,kk⟩
 have B5:Hid (Bx w0 (.slice (some p1) n c1) tab w N (.slice an M cn) (.slice (some pk) 3 ck) (T++(⟨#[102,111,114,32]⟩)++(sepB N.nm)++(⟨#[32,61,32]⟩)++(X)++(⟨#[32]⟩)) yw4):=B4.out.next hlt qq kk
 obtain⟨⟨x0,x1,x2,x3,x4,x5,x6,x7,x8⟩,y2⟩:=cel.out _ _ B5.out
 clear qq kk
 go_wp2_with (go_at_call 21;fail)
 refine(S5.out _ _ B5.out.pr (by(try simp only[ByteArray.size_append]);omega)).mono ?_
 rintro e yw5 ⟨rfl,qq,kk⟩
 have B6:Hid (Bx w0 (.slice (some p1) n c1) tab w N (.slice an M cn) (.slice (some pk) 3 ck) (T++(⟨#[102,111,114,32]⟩)++(sepB N.nm)++(⟨#[32,61,32]⟩)++(X)++(⟨#[32]⟩)++(Y2)) yw5):=B5.out.next hlt qq kk
 obtain⟨⟨x0,x1,x2,x3,x4,x5,x6,x7,x8⟩,y2⟩:=cel.out _ _ B6.out
 clear qq kk
 go_wp2_with fail
 go_end0
 refine⟨rfl,?_,B6.out.kq⟩
 have:=B6.out.pr
 simpa only[ByteArray.append_assoc] using this
theorem stat_for4 (w0:World) (p1:Addr) (n c1:Nat) (ns:List Nd) (hNs:NdsAt w0 (.slice (some p1) n c1) ns) (hcap:KCap w0 p1 ns) (hnn:ns.length=n) (hln:n<=1048576) (tab:Nat) (i:Nat) (hi:i<n) (N:Nd) (hN:nodeI ns i=N) (hk:N.k=9) (hlk:N.ks.length<=1048576) (hNm:∀v,StrsAt w0 v N.nm->Wr w0 (.slice (some p1) n c1) tab 22 #[pW w0,v] (sepB N.nm)) (hLn:N.ks.length=4) (X:ByteArray) (hXX:∀v,IntsAt w0 v (N.ks.take 3)->Wr w0 (.slice (some p1) n c1) tab 23 #[pW w0,v] X) (q:Nat) (hk3:N.ks[3]?=some (q:Int)) (Y3:ByteArray) (hB3:Wr w0 (.slice (some p1) n c1) tab 21 #[pW w0,.int .i64 (q:Int)] Y3):
  Wr w0 (.slice (some p1) n c1) tab 11 #[pW w0,.int .i64 (i:Int)] (⟨#[102,111,114,32]⟩++sepB N.nm++⟨#[32,61,32]⟩++X++⟨#[32]⟩++Y3):=by
 intro T w h hl
 obtain⟨an,M,cn,ak,L,ck,R⟩:=nd_in hNs hcap (show i<ns.length by omega)
 rw[hN]at R
 have hlt:=h.lt
 obtain⟨z0,z2,zf⟩:=h.cells
 have hL:=R.hL
 have hM:=R.hM
 obtain⟨pk,rfl⟩:=R.ks.ptr (by have:=kid_lt hk3;omega)
 have hj3:(3:Int)<(L:Int):=by have:=kid_lt hk3;omega
 obtain⟨m0,m1,m2,m3,m4,m5,m6,m7,m8,_,_⟩:=R.rd w h.bel
 have B0:Hid (Bx w0 (.slice (some p1) n c1) tab w N (.slice an M cn) (.slice (some pk) L ck) T (w.alloc (boxN N (.slice an M cn) (.slice (some pk) L ck)))):=Bx.new h N _ _
 try simp only[ByteArray.size_append]at hl
 have hii:(i:Int)<(n:Int):=by omega
 have hii0:(0:Int)<=(i:Int):=by omega
 have cel:Hid (∀(T:ByteArray) (W:World),Bx w0 (.slice (some p1) n c1) tab w N (.slice an M cn) (.slice (some pk) L ck) T W->Cel W w.heap.size N (.slice an M cn) (.slice (some pk) L ck)/\W.cell? ⟨pk.block,pk.off+3,none⟩=some (.int .i64 (q:Int))):=fun T W B=>⟨B.cells,B.kid R.ks hk3 (by decide)⟩
 have g1:=kqf hk 1 rfl
 have g2:=kqf hk 2 rfl
 have g3:=kqf hk 3 rfl
 have g4:=kqf hk 4 rfl
 have g5:=kqf hk 5 rfl
 have g6:=kqf hk 6 rfl
 have g7:=kqf hk 7 rfl
 have g8:=kqf hk 8 rfl
 have g9:=kqt hk 9 rfl
 obtain rfl:L=4:=by omega
 have hc:=R.cap
 have hc0:¬ck=0:=by omega
 have hc1:(3:Int)<=(ck:Int):=by omega
 have S0:Hid (Wr w0 (.slice (some p1) n c1) tab 12 _ (⟨#[102,111,114,32]⟩)):=fun T' W' hp hl=>say_any w0 _ T' (⟨#[102,111,114,32]⟩) _ W' hp hl
 have S1:Hid (Wr w0 (.slice (some p1) n c1) tab 22 _ (sepB N.nm)):=hNm (.slice an M cn) R.nm
 have S2:Hid (Wr w0 (.slice (some p1) n c1) tab 12 _ (⟨#[32,61,32]⟩)):=fun T' W' hp hl=>say_any w0 _ T' (⟨#[32,61,32]⟩) _ W' hp hl
 have S3:Hid (Wr w0 (.slice (some p1) n c1) tab 23 _ (X)):=hXX (.slice (some pk) 3 ck) (R.ks.take 3 (by omega))
 have S4:Hid (Wr w0 (.slice (some p1) n c1) tab 12 _ (⟨#[32]⟩)):=fun T' W' hp hl=>say_any w0 _ T' (⟨#[32]⟩) _ W' hp hl
 have S5:Hid (Wr w0 (.slice (some p1) n c1) tab 21 _ (Y3)):=hB3
 have HR:Hid (NdR w0 p1 i N an M cn (some pk) 4 ck):=R
 obtain⟨⟨x0,x1,x2,x3,x4,x5,x6,x7,x8⟩,y3⟩:=cel.out _ _ B0.out
 clear h R hNs hcap hN hnn zf z2 hL hM hk
 go_enter Tryz.func11,Tryz.ntmps11
 go_wp2_with (go_at_call 12;fail)
 refine(S0.out _ _ B0.out.pr (by(try simp only[ByteArray.size_append]);omega)).mono ?_
 rintro e yw0 ⟨rfl,qq,kk⟩
 have B1:Hid (Bx w0 (.slice (some p1) n c1) tab w N (.slice an M cn) (.slice (some pk) 4 ck) (T++(⟨#[102,111,114,32]⟩)) yw0):=B0.out.next hlt qq kk
 obtain⟨⟨x0,x1,x2,x3,x4,x5,x6,x7,x8⟩,y3⟩:=cel.out _ _ B1.out
 clear qq kk m0 m1 m2 m3 m4 m5 m6 m7 m8 z0
 go_wp2_with (go_at_call 22;fail)
 refine(S1.out _ _ B1.out.pr (by(try simp only[ByteArray.size_append]);omega)).mono ?_
 rintro e yw1 ⟨rfl,qq,kk⟩
 have B2:Hid (Bx w0 (.slice (some p1) n c1) tab w N (.slice an M cn) (.slice (some pk) 4 ck) (T++(⟨#[102,111,114,32]⟩)++(sepB N.nm)) yw1):=B1.out.next hlt qq kk
 obtain⟨⟨x0,x1,x2,x3,x4,x5,x6,x7,x8⟩,y3⟩:=cel.out _ _ B2.out
 clear qq kk
 go_wp2_with (go_at_call 12;fail)
 refine(S2.out _ _ B2.out.pr (by(try simp only[ByteArray.size_append]);omega)).mono ?_
 rintro e yw2 ⟨rfl,qq,kk⟩
 have B3:Hid (Bx w0 (.slice (some p1) n c1) tab w N (.slice an M cn) (.slice (some pk) 4 ck) (T++(⟨#[102,111,114,32]⟩)++(sepB N.nm)++(⟨#[32,61,32]⟩)) yw2):=B2.out.next hlt qq kk
 obtain⟨⟨x0,x1,x2,x3,x4,x5,x6,x7,x8⟩,y3⟩:=cel.out _ _ B3.out
 clear qq kk
 go_wp2_with (go_at_call 23;fail)
 refine(S3.out _ _ B3.out.pr (by(try simp only[ByteArray.size_append]);omega)).mono ?_
 rintro e yw3 ⟨rfl,qq,kk⟩
 have B4:Hid (Bx w0 (.slice (some p1) n c1) tab w N (.slice an M cn) (.slice (some pk) 4 ck) (T++(⟨#[102,111,114,32]⟩)++(sepB N.nm)++(⟨#[32,61,32]⟩)++(X)) yw3):=B3.out.next hlt qq kk
 obtain⟨⟨x0,x1,x2,x3,x4,x5,x6,x7,x8⟩,y3⟩:=cel.out _ _ B4.out
 clear qq kk
 go_wp2_with (go_at_call 12;fail)
 refine(S4.out _ _ B4.out.pr (by(try simp only[ByteArray.size_append]);omega)).mono ?_
 rintro e yw4 ⟨rfl,qq,kk⟩
 have B5:Hid (Bx w0 (.slice (some p1) n c1) tab w N (.slice an M cn) (.slice (some pk) 4 ck) (T++(⟨#[102,111,114,32]⟩)++(sepB N.nm)++(⟨#[32,61,32]⟩)++(X)++(⟨#[32]⟩)) yw4):=B4.out.next hlt qq kk
 obtain⟨⟨x0,x1,x2,x3,x4,x5,x6,x7,x8⟩,y3⟩:=cel.out _ _ B5.out
 clear qq kk
 go_wp2_with (go_at_call 21;fail)
 refine(S5.out _ _ B5.out.pr (by(try simp only[ByteArray.size_append]);omega)).mono ?_
 rintro e yw5 ⟨rfl,qq,kk⟩
 have B6:Hid (Bx w0 (.slice (some p1) n c1) tab w N (.slice an M cn) (.slice (some pk) 4 ck) (T++(⟨#[102,111,114,32]⟩)++(sepB N.nm)++(⟨#[32,61,32]⟩)++(X)++(⟨#[32]⟩)++(Y3)) yw5):=B5.out.next hlt qq kk
 obtain⟨⟨x0,x1,x2,x3,x4,x5,x6,x7,x8⟩,y3⟩:=cel.out _ _ B6.out
 clear qq kk
 go_wp2_with fail
 go_end0
 refine⟨rfl,?_,B6.out.kq⟩
 have:=B6.out.pr
 simpa only[ByteArray.append_assoc] using this
theorem stat_if (w0:World) (p1:Addr) (n c1:Nat) (ns:List Nd) (hNs:NdsAt w0 (.slice (some p1) n c1) ns) (hcap:KCap w0 p1 ns) (hnn:ns.length=n) (hln:n<=1048576) (tab:Nat) (i:Nat) (hi:i<n) (N:Nd) (hN:nodeI ns i=N) (hk:N.k=7) (hlk:N.ks.length<=1048576) (Y:ByteArray) (hY:∀vn vk,StrsAt w0 vn N.nm->IntsAt w0 vk N.ks->Wr w0 (.slice (some p1) n c1) tab 26 #[pW w0,vNd N vn vk,.string ⟨#[105,102,32]⟩] Y):
  Wr w0 (.slice (some p1) n c1) tab 11 #[pW w0,.int .i64 (i:Int)] (Y):=by
 intro T w h hl
 obtain⟨an,M,cn,ak,L,ck,R⟩:=nd_in hNs hcap (show i<ns.length by omega)
 rw[hN]at R
 have hlt:=h.lt
 obtain⟨z0,z2,zf⟩:=h.cells
 have hL:=R.hL
 have hM:=R.hM
 obtain⟨m0,m1,m2,m3,m4,m5,m6,m7,m8,_,_⟩:=R.rd w h.bel
 have B0:Hid (Bx w0 (.slice (some p1) n c1) tab w N (.slice an M cn) (.slice ak L ck) T (w.alloc (boxN N (.slice an M cn) (.slice ak L ck)))):=Bx.new h N _ _
 try simp only[ByteArray.size_append]at hl
 have hii:(i:Int)<(n:Int):=by omega
 have hii0:(0:Int)<=(i:Int):=by omega
 have cel:Hid (∀(T:ByteArray) (W:World),Bx w0 (.slice (some p1) n c1) tab w N (.slice an M cn) (.slice ak L ck) T W->Cel W w.heap.size N (.slice an M cn) (.slice ak L ck)):=fun T W B=>B.cells
 have g1:=kqf hk 1 rfl
 have g2:=kqf hk 2 rfl
 have g3:=kqf hk 3 rfl
 have g4:=kqf hk 4 rfl
 have g5:=kqf hk 5 rfl
 have g6:=kqf hk 6 rfl
 have g7:=kqt hk 7 rfl
 have S0:Hid (Wr w0 (.slice (some p1) n c1) tab 26 _ (Y)):=hY (.slice an M cn) (.slice ak L ck) R.nm R.ks
 unfold vNd at S0
 have HR:Hid (NdR w0 p1 i N an M cn ak L ck):=R
 obtain⟨x0,x1,x2,x3,x4,x5,x6,x7,x8⟩:=cel.out _ _ B0.out
 clear h R hNs hcap hN hnn zf z2 hL hM hk
 go_enter Tryz.func11,Tryz.ntmps11
 go_wp2_with (go_at_call 26;fail)
 refine(S0.out _ _ B0.out.pr (by(try simp only[ByteArray.size_append]);omega)).mono ?_
 rintro e yw0 ⟨rfl,qq,kk⟩
 have B1:Hid (Bx w0 (.slice (some p1) n c1) tab w N (.slice an M cn) (.slice ak L ck) (T++(Y)) yw0):=B0.out.next hlt qq kk
 obtain⟨x0,x1,x2,x3,x4,x5,x6,x7,x8⟩:=cel.out _ _ B1.out
 clear qq kk m0 m1 m2 m3 m4 m5 m6 m7 m8 z0
 go_wp2_with fail
 go_end0
 refine⟨rfl,?_,B1.out.kq⟩
 have:=B1.out.pr
 simpa only[ByteArray.append_assoc] using this
theorem stat_set (w0:World) (p1:Addr) (n c1:Nat) (ns:List Nd) (hNs:NdsAt w0 (.slice (some p1) n c1) ns) (hcap:KCap w0 p1 ns) (hnn:ns.length=n) (hln:n<=1048576) (tab:Nat) (i:Nat) (hi:i<n) (N:Nd) (hN:nodeI ns i=N) (hk:N.k=5) (hlk:N.ks.length<=1048576) (m:Nat) (hmn:N.n=(m:Int)) (hm1:1<=m) (hm2:m<N.ks.length) (X:ByteArray) (hXX:∀v,IntsAt w0 v (N.ks.take m)->Wr w0 (.slice (some p1) n c1) tab 23 #[pW w0,v] X) (Z:ByteArray) (hXZ:∀v,IntsAt w0 v (N.ks.drop m)->Wr w0 (.slice (some p1) n c1) tab 23 #[pW w0,v] Z):
  Wr w0 (.slice (some p1) n c1) tab 11 #[pW w0,.int .i64 (i:Int)] (X++⟨#[32,61,32]⟩++Z):=by
 intro T w h hl
 obtain⟨an,M,cn,ak,L,ck,R⟩:=nd_in hNs hcap (show i<ns.length by omega)
 rw[hN]at R
 have hlt:=h.lt
 obtain⟨z0,z2,zf⟩:=h.cells
 have hL:=R.hL
 have hM:=R.hM
 obtain⟨pk,rfl⟩:=R.ks.ptr (by omega)
 obtain⟨m0,m1,m2,m3,m4,m5,m6,m7,m8,_,_⟩:=R.rd w h.bel
 have B0:Hid (Bx w0 (.slice (some p1) n c1) tab w N (.slice an M cn) (.slice (some pk) L ck) T (w.alloc (boxN N (.slice an M cn) (.slice (some pk) L ck)))):=Bx.new h N _ _
 try simp only[ByteArray.size_append]at hl
 have hii:(i:Int)<(n:Int):=by omega
 have hii0:(0:Int)<=(i:Int):=by omega
 have cel:Hid (∀(T:ByteArray) (W:World),Bx w0 (.slice (some p1) n c1) tab w N (.slice an M cn) (.slice (some pk) L ck) T W->W.cell? ⟨w.heap.size,0,none⟩=some (.int .i64 N.k)/\W.cell? ⟨w.heap.size,1,none⟩=some (.int .i64 N.f)/\W.cell? ⟨w.heap.size,2,none⟩=some (.int .i64 N.t)/\W.cell? ⟨w.heap.size,3,none⟩=some (.int .i64 N.l)/\W.cell? ⟨w.heap.size,4,none⟩=some (.int .i64 N.op)/\W.cell? ⟨w.heap.size,5,none⟩=some (.int .i64 (m:Int))/\W.cell? ⟨w.heap.size,6,none⟩=some (.string N.x)/\W.cell? ⟨w.heap.size,7,none⟩=some (.slice an M cn)/\W.cell? ⟨w.heap.size,8,none⟩=some (.slice (some pk) L ck)):=fun T W B=>⟨B.cells.1,B.cells.2.1,B.cells.2.2.1,B.cells.2.2.2.1,B.cells.2.2.2.2.1,(by rw[<-hmn];exact B.cells.2.2.2.2.2.1),B.cells.2.2.2.2.2.2.1,B.cells.2.2.2.2.2.2.2.1,B.cells.2.2.2.2.2.2.2.2⟩
 have g1:=kqf hk 1 rfl
 have g2:=kqf hk 2 rfl
 have g3:=kqf hk 3 rfl
 have g4:=kqf hk 4 rfl
 have g5:=kqt hk 5 rfl
 have hc:=R.cap
 have hc0:¬ck=0:=by omega
 have hc1:(m:Int)<=(ck:Int):=by omega
 have hc2:(m:Int)<=(L:Int):=by omega
 have hc3:¬ck=m:=by omega
 have hc4:(0:Int)<=(m:Int):=by omega
 have S0:Hid (Wr w0 (.slice (some p1) n c1) tab 23 _ (X)):=hXX (.slice (some pk) m ck) (R.ks.take m (by omega))
 have S1:Hid (Wr w0 (.slice (some p1) n c1) tab 12 _ (⟨#[32,61,32]⟩)):=fun T' W' hp hl=>say_any w0 _ T' (⟨#[32,61,32]⟩) _ W' hp hl
 have S2:Hid (Wr w0 (.slice (some p1) n c1) tab 23 _ (Z)):=hXZ (.slice (some (pk.add m)) (L-m) (ck-m)) (R.ks.drop m _ (by omega) (by omega))
 have HR:Hid (NdR w0 p1 i N an M cn (some pk) L ck):=R
 obtain⟨x0,x1,x2,x3,x4,x5,x6,x7,x8⟩:=cel.out _ _ B0.out
 clear h R hNs hcap hN hnn zf z2 hL hM hk hmn
 go_enter Tryz.func11,Tryz.ntmps11
 go_wp2_with (go_at_call 23;fail)
 refine(S0.out _ _ B0.out.pr (by(try simp only[ByteArray.size_append]);omega)).mono ?_
 rintro e yw0 ⟨rfl,qq,kk⟩
 have B1:Hid (Bx w0 (.slice (some p1) n c1) tab w N (.slice an M cn) (.slice (some pk) L ck) (T++(X)) yw0):=B0.out.next hlt qq kk
 obtain⟨x0,x1,x2,x3,x4,x5,x6,x7,x8⟩:=cel.out _ _ B1.out
 clear qq kk m0 m1 m2 m3 m4 m5 m6 m7 m8 z0
 go_wp2_with (go_at_call 12;fail)
 refine(S1.out _ _ B1.out.pr (by(try simp only[ByteArray.size_append]);omega)).mono ?_
 rintro e yw1 ⟨rfl,qq,kk⟩
 have B2:Hid (Bx w0 (.slice (some p1) n c1) tab w N (.slice an M cn) (.slice (some pk) L ck) (T++(X)++(⟨#[32,61,32]⟩)) yw1):=B1.out.next hlt qq kk
 obtain⟨x0,x1,x2,x3,x4,x5,x6,x7,x8⟩:=cel.out _ _ B2.out
 clear qq kk
 go_wp2_with (go_at_call 23;fail)
 refine(S2.out _ _ B2.out.pr (by(try simp only[ByteArray.size_append]);omega)).mono ?_
 rintro e yw2 ⟨rfl,qq,kk⟩
 have B3:Hid (Bx w0 (.slice (some p1) n c1) tab w N (.slice an M cn) (.slice (some pk) L ck) (T++(X)++(⟨#[32,61,32]⟩)++(Z)) yw2):=B2.out.next hlt qq kk
 obtain⟨x0,x1,x2,x3,x4,x5,x6,x7,x8⟩:=cel.out _ _ B3.out
 clear qq kk
 go_wp2_with fail
 go_end0
 refine⟨rfl,?_,B3.out.kq⟩
 have:=B3.out.pr
 simpa only[ByteArray.append_assoc] using this
theorem expr_call (w0:World) (p1:Addr) (n c1:Nat) (ns:List Nd) (hNs:NdsAt w0 (.slice (some p1) n c1) ns) (hcap:KCap w0 p1 ns) (hnn:ns.length=n) (hln:n<=1048576) (tab:Nat) (i:Nat) (hi:i<n) (N:Nd) (hN:nodeI ns i=N) (hlk:N.ks.length<=1048576) (hk:N.k=34) (hop:N.k=31->1<=N.op/\N.op<=18) (least:Int) (hle:¬powP N.k N.op<least) (q0:Nat) (hk0:N.ks[0]?=some (q0:Int)) (Y0:ByteArray) (hB0:Wr w0 (.slice (some p1) n c1) tab 79 #[pW w0,.int .i64 (q0:Int)] Y0) (X:ByteArray) (hXX:∀v,IntsAt w0 v (N.ks.drop 1)->Wr w0 (.slice (some p1) n c1) tab 23 #[pW w0,v] X):
  Wr w0 (.slice (some p1) n c1) tab 24 #[pW w0,.int .i64 (i:Int),.int .i64 least] (Y0++⟨#[40]⟩++X++⟨#[41]⟩):=by
 intro T w h hl
 obtain⟨an,M,cn,ak,L,ck,R⟩:=nd_in hNs hcap (show i<ns.length by omega)
 rw[hN]at R
 have hlt:=h.lt
 obtain⟨z0,z2,zf⟩:=h.cells
 have hL:=R.hL
 have hM:=R.hM
 obtain⟨pk,rfl⟩:=R.ks.ptr (by have:=kid_lt hk0;omega)
 have hj0:(0:Int)<(L:Int):=by have:=kid_lt hk0;omega
 obtain⟨m0,m1,m2,m3,m4,m5,m6,m7,m8,_,_⟩:=R.rd w h.bel
 have B0:Hid (Bx w0 (.slice (some p1) n c1) tab w N (.slice an M cn) (.slice (some pk) L ck) T (w.alloc (boxN N (.slice an M cn) (.slice (some pk) L ck)))):=Bx.new h N _ _
 try simp only[ByteArray.size_append]at hl
 have hii:(i:Int)<(n:Int):=by omega
 have hii0:(0:Int)<=(i:Int):=by omega
 by_cases hck:ck=1
 ·have hL1:L=1:=by have:=R.cap;have:=kid_lt hk0;omega
  subst hck hL1
  have cel:Hid (∀(T:ByteArray) (W:World),Bx w0 (.slice (some p1) n c1) tab w N (.slice an M cn) (.slice (some pk) 1 1) T W->Cel W w.heap.size N (.slice an M cn) (.slice (some pk) 1 1)/\W.cell? pk=some (.int .i64 (q0:Int))):=fun T W B=>⟨B.cells,B.kid0 R.ks hk0⟩
  have g28:=kqf hk 28 rfl
  have g29:=kqf hk 29 rfl
  have g31:=kqf hk 31 rfl
  have g30:=kqf hk 30 rfl
  have g32:=kqf hk 32 rfl
  have g33:=kqf hk 33 rfl
  have g34:=kqt hk 34 rfl
  have KP:Hid (∀w:World,Calls Tryz.prog 75 #[vNd N (.slice an M cn) (.slice (some pk) 1 1)] w fun e w'=>e= .returned (.int .i64 (powP N.k N.op))/\Below w.heap.size w w'):=fun w=>l4power_any N _ _ hop w
  have hc:=R.cap
  have hc2:(1:Int)<=(1:Int):=by omega
  have hc0:1<=1:=by omega
  have S0:Hid (Wr w0 (.slice (some p1) n c1) tab 79 _ (Y0)):=hB0
  have S1:Hid (Wr w0 (.slice (some p1) n c1) tab 12 _ (⟨#[40]⟩)):=fun T' W' hp hl=>say_any w0 _ T' (⟨#[40]⟩) _ W' hp hl
  have S2:Hid (Wr w0 (.slice (some p1) n c1) tab 23 _ (X)):=hXX (.slice (some pk) 0 0) (.inl ⟨by rw[List.drop_eq_nil_iff];omega,_,_,rfl⟩)
  have S3:Hid (Wr w0 (.slice (some p1) n c1) tab 12 _ (⟨#[41]⟩)):=fun T' W' hp hl=>say_any w0 _ T' (⟨#[41]⟩) _ W' hp hl
  have HR:Hid (NdR w0 p1 i N an M cn (some pk) 1 1):=R
  obtain⟨⟨x0,x1,x2,x3,x4,x5,x6,x7,x8⟩,y0⟩:=cel.out _ _ B0.out
  clear h R hNs hcap hN hnn zf z2 hL hM hk hop
  unfold vNd at KP
  generalize hpw:powP N.k N.op=pw at *
  clear hpw
  go_enter Tryz.func24,Tryz.ntmps24
  go_wp2_with (go_at_call 75;fail)
  refine(KP.out _).mono ?_
  rintro e yp ⟨rfl,hbp⟩
  have C0:Hid (Bx w0 (.slice (some p1) n c1) tab w N (.slice an M cn) (.slice (some pk) 1 1) T yp):=B0.out.below hbp
  obtain⟨⟨x0,x1,x2,x3,x4,x5,x6,x7,x8⟩,y0⟩:=cel.out _ _ C0.out
  clear hbp m0 m1 m2 m3 m4 m5 m6 m7 m8 z0
  go_wp2_with (go_at_call 79;fail)
  refine(S0.out _ _ C0.out.pr (by(try simp only[ByteArray.size_append]);omega)).mono ?_
  rintro e yw0 ⟨rfl,qq,kk⟩
  have B1:Hid (Bx w0 (.slice (some p1) n c1) tab w N (.slice an M cn) (.slice (some pk) 1 1) (T++(Y0)) yw0):=C0.out.next hlt qq kk
  obtain⟨⟨x0,x1,x2,x3,x4,x5,x6,x7,x8⟩,y0⟩:=cel.out _ _ B1.out
  clear qq kk
  go_wp2_with (go_at_call 12;fail)
  refine(S1.out _ _ B1.out.pr (by(try simp only[ByteArray.size_append]);omega)).mono ?_
  rintro e yw1 ⟨rfl,qq,kk⟩
  have B2:Hid (Bx w0 (.slice (some p1) n c1) tab w N (.slice an M cn) (.slice (some pk) 1 1) (T++(Y0)++(⟨#[40]⟩)) yw1):=B1.out.next hlt qq kk
  obtain⟨⟨x0,x1,x2,x3,x4,x5,x6,x7,x8⟩,y0⟩:=cel.out _ _ B2.out
  clear qq kk
  go_wp2_with (go_at_call 23;fail)
  refine(S2.out _ _ B2.out.pr (by(try simp only[ByteArray.size_append]);omega)).mono ?_
  rintro e yw2 ⟨rfl,qq,kk⟩
  have B3:Hid (Bx w0 (.slice (some p1) n c1) tab w N (.slice an M cn) (.slice (some pk) 1 1) (T++(Y0)++(⟨#[40]⟩)++(X)) yw2):=B2.out.next hlt qq kk
  obtain⟨⟨x0,x1,x2,x3,x4,x5,x6,x7,x8⟩,y0⟩:=cel.out _ _ B3.out
  clear qq kk
  go_wp2_with (go_at_call 12;fail)
  refine(S3.out _ _ B3.out.pr (by(try simp only[ByteArray.size_append]);omega)).mono ?_
  rintro e yw3 ⟨rfl,qq,kk⟩
  have B4:Hid (Bx w0 (.slice (some p1) n c1) tab w N (.slice an M cn) (.slice (some pk) 1 1) (T++(Y0)++(⟨#[40]⟩)++(X)++(⟨#[41]⟩)) yw3):=B3.out.next hlt qq kk
  obtain⟨⟨x0,x1,x2,x3,x4,x5,x6,x7,x8⟩,y0⟩:=cel.out _ _ B4.out
  clear qq kk
  go_wp2_with fail
  go_end0
  refine⟨rfl,?_,B4.out.kq⟩
  have:=B4.out.pr
  simpa only[ByteArray.append_assoc] using this
 ·have hck2:(ck==1)=false:=by simpa using hck
  have cel:Hid (∀(T:ByteArray) (W:World),Bx w0 (.slice (some p1) n c1) tab w N (.slice an M cn) (.slice (some pk) L ck) T W->Cel W w.heap.size N (.slice an M cn) (.slice (some pk) L ck)/\W.cell? pk=some (.int .i64 (q0:Int))):=fun T W B=>⟨B.cells,B.kid0 R.ks hk0⟩
  have g28:=kqf hk 28 rfl
  have g29:=kqf hk 29 rfl
  have g31:=kqf hk 31 rfl
  have g30:=kqf hk 30 rfl
  have g32:=kqf hk 32 rfl
  have g33:=kqf hk 33 rfl
  have g34:=kqt hk 34 rfl
  have KP:Hid (∀w:World,Calls Tryz.prog 75 #[vNd N (.slice an M cn) (.slice (some pk) L ck)] w fun e w'=>e= .returned (.int .i64 (powP N.k N.op))/\Below w.heap.size w w'):=fun w=>l4power_any N _ _ hop w
  have hc:=R.cap
  have hc2:(1:Int)<=(L:Int):=by omega
  have hc0:1<=L:=by omega
  have S0:Hid (Wr w0 (.slice (some p1) n c1) tab 79 _ (Y0)):=hB0
  have S1:Hid (Wr w0 (.slice (some p1) n c1) tab 12 _ (⟨#[40]⟩)):=fun T' W' hp hl=>say_any w0 _ T' (⟨#[40]⟩) _ W' hp hl
  have S2:Hid (Wr w0 (.slice (some p1) n c1) tab 23 _ (X)):=hXX (.slice (some (pk.add 1)) (L-1) (ck-1)) (R.ks.drop 1 _ (by have:=kid_lt hk0;omega) (by omega))
  have S3:Hid (Wr w0 (.slice (some p1) n c1) tab 12 _ (⟨#[41]⟩)):=fun T' W' hp hl=>say_any w0 _ T' (⟨#[41]⟩) _ W' hp hl
  have HR:Hid (NdR w0 p1 i N an M cn (some pk) L ck):=R
  obtain⟨⟨x0,x1,x2,x3,x4,x5,x6,x7,x8⟩,y0⟩:=cel.out _ _ B0.out
  clear h R hNs hcap hN hnn zf z2 hL hM hk hop
  unfold vNd at KP
  generalize hpw:powP N.k N.op=pw at *
  clear hpw
  go_enter Tryz.func24,Tryz.ntmps24
  go_wp2_with (go_at_call 75;fail)
  refine(KP.out _).mono ?_
  rintro e yp ⟨rfl,hbp⟩
  have C0:Hid (Bx w0 (.slice (some p1) n c1) tab w N (.slice an M cn) (.slice (some pk) L ck) T yp):=B0.out.below hbp
  obtain⟨⟨x0,x1,x2,x3,x4,x5,x6,x7,x8⟩,y0⟩:=cel.out _ _ C0.out
  clear hbp m0 m1 m2 m3 m4 m5 m6 m7 m8 z0
  go_wp2_with (go_at_call 79;fail)
  refine(S0.out _ _ C0.out.pr (by(try simp only[ByteArray.size_append]);omega)).mono ?_
  rintro e yw0 ⟨rfl,qq,kk⟩
  have B1:Hid (Bx w0 (.slice (some p1) n c1) tab w N (.slice an M cn) (.slice (some pk) L ck) (T++(Y0)) yw0):=C0.out.next hlt qq kk
  obtain⟨⟨x0,x1,x2,x3,x4,x5,x6,x7,x8⟩,y0⟩:=cel.out _ _ B1.out
  clear qq kk
  go_wp2_with (go_at_call 12;fail)
  refine(S1.out _ _ B1.out.pr (by(try simp only[ByteArray.size_append]);omega)).mono ?_
  rintro e yw1 ⟨rfl,qq,kk⟩
  have B2:Hid (Bx w0 (.slice (some p1) n c1) tab w N (.slice an M cn) (.slice (some pk) L ck) (T++(Y0)++(⟨#[40]⟩)) yw1):=B1.out.next hlt qq kk
  obtain⟨⟨x0,x1,x2,x3,x4,x5,x6,x7,x8⟩,y0⟩:=cel.out _ _ B2.out
  clear qq kk
  go_wp2_with (go_at_call 23;fail)
  refine(S2.out _ _ B2.out.pr (by(try simp only[ByteArray.size_append]);omega)).mono ?_
  rintro e yw2 ⟨rfl,qq,kk⟩
  have B3:Hid (Bx w0 (.slice (some p1) n c1) tab w N (.slice an M cn) (.slice (some pk) L ck) (T++(Y0)++(⟨#[40]⟩)++(X)) yw2):=B2.out.next hlt qq kk
  obtain⟨⟨x0,x1,x2,x3,x4,x5,x6,x7,x8⟩,y0⟩:=cel.out _ _ B3.out
  clear qq kk
  go_wp2_with (go_at_call 12;fail)
  refine(S3.out _ _ B3.out.pr (by(try simp only[ByteArray.size_append]);omega)).mono ?_
  rintro e yw3 ⟨rfl,qq,kk⟩
  have B4:Hid (Bx w0 (.slice (some p1) n c1) tab w N (.slice an M cn) (.slice (some pk) L ck) (T++(Y0)++(⟨#[40]⟩)++(X)++(⟨#[41]⟩)) yw3):=B3.out.next hlt qq kk
  obtain⟨⟨x0,x1,x2,x3,x4,x5,x6,x7,x8⟩,y0⟩:=cel.out _ _ B4.out
  clear qq kk
  go_wp2_with fail
  go_end0
  refine⟨rfl,?_,B4.out.kq⟩
  have:=B4.out.pr
  simpa only[ByteArray.append_assoc] using this
theorem expr_bin (w0:World) (p1:Addr) (n c1:Nat) (ns:List Nd) (hNs:NdsAt w0 (.slice (some p1) n c1) ns) (hcap:KCap w0 p1 ns) (hnn:ns.length=n) (hln:n<=1048576) (tab:Nat) (i:Nat) (hi:i<n) (N:Nd) (hN:nodeI ns i=N) (hlk:N.ks.length<=1048576) (hk:N.k=31) (hop:N.k=31->1<=N.op/\N.op<=18) (least:Int) (hle:¬powP N.k N.op<least) (hop2:1<=N.op/\N.op<=18) (hsz:(txtI (60+N.op)).size<=4) (Y:ByteArray) (hY:∀vn vk,StrsAt w0 vn N.nm->IntsAt w0 vk N.ks->Wr w0 (.slice (some p1) n c1) tab 76 #[pW w0,vNd N vn vk,.string (⟨#[32]⟩++txtI (60+N.op)++⟨#[32]⟩),.int .i64 (powP N.k N.op)] Y):
  Wr w0 (.slice (some p1) n c1) tab 24 #[pW w0,.int .i64 (i:Int),.int .i64 least] (Y):=by
 intro T w h hl
 obtain⟨an,M,cn,ak,L,ck,R⟩:=nd_in hNs hcap (show i<ns.length by omega)
 rw[hN]at R
 have hlt:=h.lt
 obtain⟨z0,z2,zf⟩:=h.cells
 have hL:=R.hL
 have hM:=R.hM
 obtain⟨m0,m1,m2,m3,m4,m5,m6,m7,m8,_,_⟩:=R.rd w h.bel
 have B0:Hid (Bx w0 (.slice (some p1) n c1) tab w N (.slice an M cn) (.slice ak L ck) T (w.alloc (boxN N (.slice an M cn) (.slice ak L ck)))):=Bx.new h N _ _
 try simp only[ByteArray.size_append]at hl
 have hii:(i:Int)<(n:Int):=by omega
 have hii0:(0:Int)<=(i:Int):=by omega
 have cel:Hid (∀(T:ByteArray) (W:World),Bx w0 (.slice (some p1) n c1) tab w N (.slice an M cn) (.slice ak L ck) T W->Cel W w.heap.size N (.slice an M cn) (.slice ak L ck)):=fun T W B=>B.cells
 have g28:=kqf hk 28 rfl
 have g29:=kqf hk 29 rfl
 have g31:=kqt hk 31 rfl
 have KP:Hid (∀w:World,Calls Tryz.prog 75 #[vNd N (.slice an M cn) (.slice ak L ck)] w fun e w'=>e= .returned (.int .i64 (powP N.k N.op))/\Below w.heap.size w w'):=fun w=>l4power_any N _ _ hop w
 have S0:Hid (Wr w0 (.slice (some p1) n c1) tab 76 _ (Y)):=hY (.slice an M cn) (.slice ak L ck) R.nm R.ks
 have HR:Hid (NdR w0 p1 i N an M cn ak L ck):=R
 obtain⟨x0,x1,x2,x3,x4,x5,x6,x7,x8⟩:=cel.out _ _ B0.out
 clear h R hNs hcap hN hnn zf z2 hL hM hk hop
 have KT:Hid (∀w:World,Calls Tryz.prog 77 #[.int .i64 (60+N.op)] w fun e w'=>e= .returned (.string (txtI (60+N.op)))/\Below w.heap.size w w'):=fun w=>l1text_any _ w
 have hz2:(txtI (60+N.op)).size<=4:=hsz
 have hop1:1<=N.op:=hop2.1
 have hop3:N.op<=18:=hop2.2
 have hwr:IntKind.i64.wrap (60+N.op)=60+N.op:=by rw[IntKind.wrap_i64];omega
 clear hop2 hsz hY
 generalize txtI (60+N.op)=tx at KT hz2 S0
 have f1:¬9223372036854775807<1+tx.size:=by omega
 have f2:¬9223372036854775807<1+tx.size+1:=by omega
 unfold vNd at KP S0
 generalize hpw:powP N.k N.op=pw at *
 clear hpw
 go_enter Tryz.func24,Tryz.ntmps24
 go_wp2_with (go_at_call 75;fail)
 refine(KP.out _).mono ?_
 rintro e yp ⟨rfl,hbp⟩
 have C0:Hid (Bx w0 (.slice (some p1) n c1) tab w N (.slice an M cn) (.slice ak L ck) T yp):=B0.out.below hbp
 obtain⟨x0,x1,x2,x3,x4,x5,x6,x7,x8⟩:=cel.out _ _ C0.out
 clear hbp m0 m1 m2 m3 m4 m5 m6 m7 m8 z0
 go_wp2_with fail
 go_region_held3 (fun W'=>W'.cell? ⟨w.heap.size,0,none⟩=some (.int .i64 N.k)/\W'.cell? ⟨w.heap.size,1,none⟩=some (.int .i64 N.f)/\W'.cell? ⟨w.heap.size,2,none⟩=some (.int .i64 N.t)/\W'.cell? ⟨w.heap.size,3,none⟩=some (.int .i64 N.l)/\W'.cell? ⟨w.heap.size,4,none⟩=some (.int .i64 N.op)/\W'.cell? ⟨w.heap.size,5,none⟩=some (.int .i64 N.n)/\W'.cell? ⟨w.heap.size,6,none⟩=some (.string N.x)/\W'.cell? ⟨w.heap.size,7,none⟩=some (.slice an M cn)/\W'.cell? ⟨w.heap.size,8,none⟩=some (.slice ak L ck)) (first|exact cel.out _ _ (C0.out.below (bel_drew1 (Below.refl _ _)))|exact cel.out _ _ ((C0.out.below (bel_drew1 (Below.refl _ _))).below hb6)|exact cel.out _ _ (((C0.out.below (bel_drew1 (Below.refl _ _))).below hb6).next hlt q7 k7)|go_keep) (first|(go_at_call 77;(try rw[hwr]);refine(KT.out _).mono ?_;rintro e w6 ⟨rfl,hb6⟩)|(go_at_call 76;refine(S0.out _ _ ((C0.out.below (bel_drew1 (Below.refl _ _))).below hb6).pr (by omega)).mono ?_;rintro e w7 ⟨rfl,q7,k7⟩))
 have B1:Hid (Bx w0 (.slice (some p1) n c1) tab w N (.slice an M cn) (.slice ak L ck) (T++(Y)) w7):=((C0.out.below (bel_drew1 (Below.refl _ _))).below hb6).next hlt q7 k7
 go_wp2_with fail
 go_end0
 refine⟨rfl,?_,B1.out.kq⟩
 have:=B1.out.pr
 simpa only[ByteArray.append_assoc] using this
theorem expr_par (w0:World) (p1:Addr) (n c1:Nat) (ns:List Nd) (hNs:NdsAt w0 (.slice (some p1) n c1) ns) (hcap:KCap w0 p1 ns) (hnn:ns.length=n) (hln:n<=1048576) (tab:Int) (i:Nat) (hi:i<n) (N:Nd) (hN:nodeI ns i=N) (hop:N.k=31->1<=N.op/\N.op<=18) (least:Int) (hle:powP N.k N.op<least) (Y:ByteArray)
  (hE:Wr w0 (.slice (some p1) n c1) tab 24 #[pW w0,.int .i64 (i:Int),.int .i64 0] Y):Wr w0 (.slice (some p1) n c1) tab 24 #[pW w0,.int .i64 (i:Int),.int .i64 least] (parB Y):=by
 intro T w h hl
 obtain⟨an,M,cn,ak,L,ck,R⟩:=nd_in hNs hcap (show i<ns.length by omega)
 rw[hN]at R
 have hlt:=h.lt
 obtain⟨z0,z2,zf⟩:=h.cells
 obtain⟨m0,m1,m2,m3,m4,m5,m6,m7,m8,_,_⟩:=R.rd w h.bel
 have B0:Hid (Bx w0 (.slice (some p1) n c1) tab w N (.slice an M cn) (.slice ak L ck) T (w.alloc (boxN N (.slice an M cn) (.slice ak L ck)))):=Bx.new h N _ _
 unfold parB at hl⊢
 simp only[ByteArray.size_append]at hl
 have hii:(i:Int)<(n:Int):=by omega
 have hii0:(0:Int)<=(i:Int):=by omega
 have KP:Hid (∀w:World,Calls Tryz.prog 75 #[vNd N (.slice an M cn) (.slice ak L ck)] w fun e w'=>e= .returned (.int .i64 (powP N.k N.op))/\Below w.heap.size w w'):=fun w=>l4power_any N _ _ hop w
 have cel:Hid (∀(T:ByteArray) (W:World),Bx w0 (.slice (some p1) n c1) tab w N (.slice an M cn) (.slice ak L ck) T W->Cel W w.heap.size N (.slice an M cn) (.slice ak L ck)):=fun T W B=>B.cells
 have S0:Hid (Wr w0 (.slice (some p1) n c1) tab 12 _ ⟨#[40]⟩):=fun T' W' hp hl=>say_any w0 _ T' ⟨#[40]⟩ _ W' hp hl
 have S1:Hid (Wr w0 (.slice (some p1) n c1) tab 24 #[pW w0,.int .i64 (i:Int),.int .i64 0] Y):=hE
 have S2:Hid (Wr w0 (.slice (some p1) n c1) tab 12 _ ⟨#[41]⟩):=fun T' W' hp hl=>say_any w0 _ T' ⟨#[41]⟩ _ W' hp hl
 obtain⟨x0,x1,x2,x3,x4,x5,x6,x7,x8⟩:=cel.out _ _ B0.out
 clear h R hNs hcap hN hnn zf z2 hop hE
 unfold vNd at KP
 generalize hpw:powP N.k N.op=pw at *
 clear hpw
 go_enter Tryz.func24,Tryz.ntmps24
 go_wp2_with (go_at_call 75;fail)
 refine(KP.out _).mono ?_
 rintro e yp ⟨rfl,hbp⟩
 have C0:Hid (Bx w0 (.slice (some p1) n c1) tab w N (.slice an M cn) (.slice ak L ck) T yp):=B0.out.below hbp
 clear hbp m0 m1 m2 m3 m4 m5 m6 m7 m8 z0 x0 x1 x2 x3 x4 x5 x6 x7 x8
 go_wp2_with (go_at_call 12;fail)
 refine(S0.out _ _ C0.out.pr (by omega)).mono ?_
 rintro e y1 ⟨rfl,qq,kk⟩
 have B1:Hid (Pr w0 (.slice (some p1) n c1) (T++⟨#[40]⟩) tab y1/\Kq w0.heap.size w y1):=⟨qq,C0.out.kq.trans kk⟩
 clear qq kk
 go_wp2_with (go_at_call 24;fail)
 refine(S1.out _ _ B1.out.1 (by simp only[ByteArray.size_append];omega)).mono ?_
 rintro e y2 ⟨rfl,qq,kk⟩
 have B2:Hid (Pr w0 (.slice (some p1) n c1) (T++⟨#[40]⟩++Y) tab y2/\Kq w0.heap.size w y2):=⟨qq,B1.out.2.trans kk⟩
 clear qq kk
 go_wp2_with (go_at_call 12;fail)
 refine(S2.out _ _ B2.out.1 (by simp only[ByteArray.size_append];omega)).mono ?_
 rintro e y3 ⟨rfl,qq,kk⟩
 have B3:Hid (Pr w0 (.slice (some p1) n c1) (T++⟨#[40]⟩++Y++⟨#[41]⟩) tab y3/\Kq w0.heap.size w y3):=⟨qq,B2.out.2.trans kk⟩
 clear qq kk
 go_wp2_with fail
 refine bodyPost_ret (results_none rfl _ _ _) rfl ⟨rfl,?_,B3.out.2⟩
 have:=B3.out.1
 simpa only[ByteArray.append_assoc] using this
theorem unary_neg (w0:World) (vt:Value) (ns:List Nd) (E:Int->ByteArray) (t:Int) (B:Nat) (hO:OkE w0 vt ns E t B) (hNs:NdsAt w0 vt ns) (hln:ns.length<=1048576) (N:Nd) (vn vk:Value) (hks:IntsAt w0 vk N.ks) (k:Nat) (hk0:N.ks[0]?=some (k:Int)) (hk:k<B) (hkl:k<ns.length) (hl2:N.ks.length<=1048576) (he:exprK (nodeI ns k).k=true)
  (hop:N.op=19) (T:ByteArray) (w:World) (h:Pr w0 vt T t w) (hl:T.size+(unB ns E N).size<=140737488355328):
  Calls Tryz.prog 78 #[.pointer (some ⟨w0.heap.size,0,none⟩),vNd N vn vk] w fun e w'=>e= .returned (.tuple #[])/\Pr w0 vt (T++unB ns E N) t w'/\Kq w0.heap.size w w':=by
 have hb:Below w.heap.size w (w.alloc (.cells #[.int .i64 N.k,.int .i64 N.f,.int .i64 N.t,.int .i64 N.l,.int .i64 N.op,.int .i64 N.n,.string N.x,vn,vk] 44)):=(Below.refl _ w).alloc (Nat.le_refl _) _
 have hbx:NdBox w.heap.size (w.alloc (.cells #[.int .i64 N.k,.int .i64 N.f,.int .i64 N.t,.int .i64 N.l,.int .i64 N.op,.int .i64 N.n,.string N.x,vn,vk] 44)) 44 N vn vk:=heap_alloc_new w _
 have hlt:=h.lt
 obtain⟨a1,c1,rfl⟩:=hks.form
 obtain⟨p1,rfl,_⟩:=hks.get hk0
 obtain⟨a2,c2,rfl⟩:=hNs.form
 obtain⟨p2,rfl,_⟩:=hNs.get (node_at hkl)
 have hkid:kidI N 0=(k:Int):=by unfold kidI;rw[List.getD,hk0];rfl
 have hlen:0<N.ks.length:=by rcases Nat.eq_zero_or_pos N.ks.length with e|e;rw[List.getElem?_eq_none (by omega)]at hk0;cases hk0;exact e
 obtain⟨n,hN⟩:∃n,ns.length=n:=⟨_,rfl⟩
 obtain⟨L,hL⟩:∃L,N.ks.length=L:=⟨_,rfl⟩
 have HP:Hid (Pr w0 (.slice (some p2) n c2) T t (w.alloc (.cells #[.int .i64 N.k,.int .i64 N.f,.int .i64 N.t,.int .i64 N.l,.int .i64 N.op,.int .i64 N.n,.string N.x,vn,.slice (some p1) L c1] 44))/\Kq w0.heap.size w (w.alloc (.cells #[.int .i64 N.k,.int .i64 N.f,.int .i64 N.t,.int .i64 N.l,.int .i64 N.op,.int .i64 N.n,.string N.x,vn,.slice (some p1) L c1] 44))
  /\NdBox w.heap.size (w.alloc (.cells #[.int .i64 N.k,.int .i64 N.f,.int .i64 N.t,.int .i64 N.l,.int .i64 N.op,.int .i64 N.n,.string N.x,vn,.slice (some p1) L c1] 44)) 44 N vn (.slice (some p1) L c1)/\IntsAt w0 (.slice (some p1) L c1) N.ks/\N.ks[0]?=some (k:Int)/\NdsAt w0 (.slice (some p2) n c2) ns/\ns[k]?=some (nodeI ns k)):=by
  rw[<-hN,<-hL]
  exact⟨h.below hb,Kq.of_below hb,hbx,hks,hk0,hNs,node_at hkl⟩
 obtain⟨X,hX⟩:∃X,unB ns E N=X:=⟨_,rfl⟩
 rw[hX]at hl⊢
 unfold unB at hX
 rw[hkid]at hX
 have HO:Hid (OkE w0 (.slice (some p2) n c2) ns E t B/\exprK (nodeI ns k).k=true):=by rw[<-hN];exact⟨hO,he⟩
 rw[hN,hL]
 rw[hN]at hln hkl
 rw[hL]at hlen hl2
 clear h hb hbx hks hk0 hO he hNs hN hL
 obtain⟨Y,hY⟩:∃Y,holdB ns E k 11=Y:=⟨_,rfl⟩
 have hsg:unS ns N=if negK (nodeI ns k)=true then⟨#[45]⟩++⟨#[32]⟩ else⟨#[45]⟩:=by
  unfold unS
  rw[if_neg (by omega),if_neg (by omega),if_neg (by omega),hkid]
 rw[hsg,hY]at hX
 have HY:Hid (holdB ns E k 11=Y):=hY
 clear hsg hY hkid
 unfold vNd
 have g1:(N.op==21)=false:=by simp;omega
 have g2:(N.op==22)=false:=by simp;omega
 have g3:(N.op==20)=false:=by simp;omega
 have hi1:(0:Int)<(L:Int):=by omega
 have hki:(k:Int)<(n:Int):=by omega
 have hki0:(0:Int)<=(k:Int):=by omega
 have hXs:T.size+1<=140737488355328:=by
  have:1<=X.size:=by
   rw[<-hX,ByteArray.size_append]
   split
   ·rw[ByteArray.size_append];show 1<=1+1+_;omega
   ·show 1<=1+_;omega
  omega
 clear hop
 go_enter Tryz.func78,Tryz.ntmps78
 go_wp2_with (go_at_call 12;fail)
 refine(say_any w0 _ T ⟨#[45]⟩ t _ HP.out.1 hXs).mono ?_
 rintro e w2 ⟨rfl,q2,k2⟩
 have hb2:=k2.box HP.out.2.2.1 (by omega)
 obtain⟨b0,b1,b2,b3,b4,b5,b6,b7,b8,bf⟩:=nd_cells hb2
 obtain⟨p',e1,bp⟩:=(HP.out.2.2.2.1.below q2.bel).get HP.out.2.2.2.2.1
 cases e1
 have bp0:w2.cell? p1=some (.int .i64 (k:Int)):=by simpa [Addr.add] using bp
 obtain⟨p'',e2,vn1,vk1,gM⟩:=(HP.out.2.2.2.2.2.1.below q2.bel).get HP.out.2.2.2.2.2.2
 cases e2
 obtain⟨z0,z2,zf⟩:=q2.cells
 obtain⟨m0,m1,m2,m3,m4,m5,m6,m7,m8,hmn,hmk⟩:=gM
 obtain⟨an,cn,rfl⟩:=hmn.form
 obtain⟨ak,ck,rfl⟩:=hmk.form
 have hlt2:=lt_of_block hb2
 have H2:Hid (Pr w0 (.slice (some p2) n c2) (T++⟨#[45]⟩) t w2/\Kq w0.heap.size w w2/\NdBox w.heap.size w2 44 N vn (.slice (some p1) L c1)):=⟨q2,HP.out.2.1.trans k2,hb2⟩
 have HM:Hid (X=(if negK (nodeI ns k)=true then⟨#[45]⟩++⟨#[32]⟩ else⟨#[45]⟩)++Y):=hX.symm
 generalize hMM:nodeI ns k=M at m0 m1 m2 m3 m4 m5 m6 m7 m8 hX
 have HMM:Hid (nodeI ns k=M):=hMM
 clear q2 k2 hb2 hmn hmk hX bp b0 b1 b2 b3 b4 b5 b6 b7 bf hMM
 generalize M.nm.length=L1 at m7
 generalize M.ks.length=L2 at m8
 obtain⟨nk,nf,nt,nl,nop,nn,nx,nnm,nks⟩:=M
 simp only at m0 m1 m2 m3 m4 m5 m6
 go_wp2_with fail
 go_region_held3 (fun w'=>w'.cell? ⟨w0.heap.size,0,none⟩=some (.slice (some p2) n c2)/\w'.cell? ⟨w.heap.size,8,none⟩=some (.slice (some p1) L c1)/\w'.cell? p1=some (.int .i64 (k:Int))/\w'.cell? (p2.add (k*9))=some (.int .i64 nk)/\w'.cell? ⟨(p2.add (k*9)).block,(p2.add (k*9)).off+1,none⟩=some (.int .i64 nf)/\w'.cell? ⟨(p2.add (k*9)).block,(p2.add (k*9)).off+2,none⟩=some (.int .i64 nt)/\w'.cell? ⟨(p2.add (k*9)).block,(p2.add (k*9)).off+3,none⟩=some (.int .i64 nl)/\w'.cell? ⟨(p2.add (k*9)).block,(p2.add (k*9)).off+4,none⟩=some (.int .i64 nop)/\w'.cell? ⟨(p2.add (k*9)).block,(p2.add (k*9)).off+5,none⟩=some (.int .i64 nn)/\w'.cell? ⟨(p2.add (k*9)).block,(p2.add (k*9)).off+6,none⟩=some (.string nx)/\w'.cell? ⟨(p2.add (k*9)).block,(p2.add (k*9)).off+7,none⟩=some (.slice an L1 cn)/\w'.cell? ⟨(p2.add (k*9)).block,(p2.add (k*9)).off+8,none⟩=some (.slice ak L2 ck)) (go_keep) (fail)
 have hb3:Below w2.heap.size w2 (w2.alloc (.cells #[.int .i64 nk,.int .i64 nf,.int .i64 nt,.int .i64 nl,.int .i64 nop,.int .i64 nn,.string nx,.slice an L1 cn,.slice ak L2 ck] 44)).drew:=bel_drew1 ((Below.refl _ w2).alloc (Nat.le_refl _) _)
 have hn3:NdBox w2.heap.size (w2.alloc (.cells #[.int .i64 nk,.int .i64 nf,.int .i64 nt,.int .i64 nl,.int .i64 nop,.int .i64 nn,.string nx,.slice an L1 cn,.slice ak L2 ck] 44)).drew 44 ⟨nk,nf,nt,nl,nop,nn,nx,nnm,nks⟩ (.slice an L1 cn) (.slice ak L2 ck):=heap_alloc_new w2 _
 generalize (w2.alloc (.cells #[.int .i64 nk,.int .i64 nf,.int .i64 nt,.int .i64 nl,.int .i64 nop,.int .i64 nn,.string nx,.slice an L1 cn,.slice ak L2 ck] 44)).drew=W3 at hb3 hn3⊢
 have H3:Hid (Pr w0 (.slice (some p2) n c2) (T++⟨#[45]⟩) t W3/\Kq w0.heap.size w W3/\NdBox w.heap.size W3 44 N vn (.slice (some p1) L c1)):=⟨H2.out.1.below hb3,H2.out.2.1.trans (Kq.of_below hb3),H2.out.2.2.below hb3⟩
 obtain⟨d0,_,_,_,d4,_⟩:=nd_cells hn3
 simp only at d0 d4
 have fin:∀(W:World) (S:ByteArray),Pr w0 (.slice (some p2) n c2) (T++S) t W->Kq w0.heap.size w W->NdBox w.heap.size W 44 N vn (.slice (some p1) L c1)->X=S++Y->
   W.cell? ⟨w.heap.size,8,none⟩=some (.slice (some p1) L c1)/\W.cell? p1=some (.int .i64 (k:Int))/\Calls Tryz.prog 24 #[.pointer (some ⟨w0.heap.size,0,none⟩),.int .i64 (k:Int),.int .i64 11] W fun e w'=>e= .returned (.tuple #[])/\Pr w0 (.slice (some p2) n c2) (T++X) t w'/\Kq w0.heap.size w w':=by
  intro W S q5 k5 b5 hS
  obtain⟨_,_,_,_,_,_,_,_,x8,_⟩:=nd_cells b5
  obtain⟨p',e1,xp⟩:=(HP.out.2.2.2.1.below q5.bel).get HP.out.2.2.2.2.1
  cases e1
  rw[hS,ByteArray.size_append]at hl
  refine⟨x8,by simpa [Addr.add] using xp,?_⟩
  refine(HO.out.1 k 11 _ W hk HO.out.2 (by omega) (by omega) q5 (by rw[HY.out,ByteArray.size_append];omega)).mono ?_
  rintro e w3 ⟨rfl,q6,k6⟩
  rw[HY.out,ByteArray.append_assoc,<-hS]at q6
  exact⟨rfl,q6,k5.trans k6⟩
 have HF:Hid (∀(W:World) (S:ByteArray),Pr w0 (.slice (some p2) n c2) (T++S) t W->Kq w0.heap.size w W->NdBox w.heap.size W 44 N vn (.slice (some p1) L c1)->X=S++Y->
   W.cell? ⟨w.heap.size,8,none⟩=some (.slice (some p1) L c1)/\W.cell? p1=some (.int .i64 (k:Int))/\Calls Tryz.prog 24 #[.pointer (some ⟨w0.heap.size,0,none⟩),.int .i64 (k:Int),.int .i64 11] W fun e w'=>e= .returned (.tuple #[])/\Pr w0 (.slice (some p2) n c2) (T++X) t w'/\Kq w0.heap.size w w'):=fin
 have HXX:=HM.out
 rw[HMM.out]at HXX
 unfold negK at HXX
 simp only at HXX
 clear fin hb3 hn3 m0 m1 m2 m3 m4 m5 m6 m7 m8 z0 z2 zf b8 bp0 HM HMM H2
 have hsz:X.size=X.size:=rfl
 by_cases hng:(nk==30&&nop==19)=true
 ·rw[if_pos hng]at HXX
  obtain⟨h30,h19⟩:(nk==30)=true/\(nop==19)=true:=by simpa [Bool.and_eq_true] using hng
  have HX2:Hid (X=⟨#[45]⟩++⟨#[32]⟩++Y):=HXX
  clear hng HXX
  go_wp2_with (go_at_call 12;fail)
  refine(say_any w0 _ _ ⟨#[32]⟩ t _ H3.out.1 (by have:=hl;rw[HX2.out,ByteArray.size_append,ByteArray.size_append]at this;rw[ByteArray.size_append];have e1:(⟨#[45]⟩:ByteArray).size=1:=rfl;have e2:(⟨#[32]⟩:ByteArray).size=1:=rfl;omega)).mono ?_
  rintro e w4 ⟨rfl,q4,k4⟩
  obtain⟨x8,xp,ke⟩:=HF.out w4 (⟨#[45]⟩++⟨#[32]⟩) (by rw[<-ByteArray.append_assoc];exact q4) (H3.out.2.1.trans k4) (k4.box H3.out.2.2 (by omega)) HX2.out
  clear q4 k4
  go_wp2_with (go_at_call 24;fail)
  refine ke.mono ?_
  rintro e w5 ⟨rfl,q5,k5⟩
  go_wp2_with fail
  go_end0
  exact⟨rfl,q5,k5⟩
 ·rw[if_neg hng]at HXX
  obtain⟨x8,xp,ke⟩:=HF.out W3 ⟨#[45]⟩ H3.out.1 H3.out.2.1 H3.out.2.2 HXX
  clear HXX
  cases h30:(nk==30) with
  |true=>
   have h19:(nop==19)=false:=by
    cases h:(nop==19) with
    |false=>rfl
    |true=>exact absurd (by rw[h30,h];rfl) hng
   clear hng
   go_wp2_with (go_at_call 24;fail)
   refine ke.mono ?_
   rintro e w5 ⟨rfl,q5,k5⟩
   go_wp2_with fail
   go_end0
   exact⟨rfl,q5,k5⟩
  |false=>
   clear hng
   go_wp2_with (go_at_call 24;fail)
   refine ke.mono ?_
   rintro e w5 ⟨rfl,q5,k5⟩
   go_wp2_with fail
   go_end0
   exact⟨rfl,q5,k5⟩
theorem unary_any (w0:World) (vt:Value) (ns:List Nd) (E:Int->ByteArray) (t:Int) (B:Nat) (hO:OkE w0 vt ns E t B) (hNs:NdsAt w0 vt ns) (hln:ns.length<=1048576) (N:Nd) (vn vk:Value) (hks:IntsAt w0 vk N.ks) (k:Nat) (hk0:N.ks[0]?=some (k:Int)) (hk:k<B) (hkl:k<ns.length) (hl2:N.ks.length<=1048576) (he:exprK (nodeI ns k).k=true)
  (hop:19<=N.op/\N.op<=22) (T:ByteArray) (w:World) (h:Pr w0 vt T t w) (hl:T.size+(unB ns E N).size<=140737488355328):
  Calls Tryz.prog 78 #[.pointer (some ⟨w0.heap.size,0,none⟩),vNd N vn vk] w fun e w'=>e= .returned (.tuple #[])/\Pr w0 vt (T++unB ns E N) t w'/\Kq w0.heap.size w w':=by
 by_cases e:N.op=19
 ·exact unary_neg w0 vt ns E t B hO hNs hln N vn vk hks k hk0 hk hkl hl2 he e T w h hl
 ·exact unary_plain w0 vt ns E t B hO N vn vk hks k hk0 hk hl2 he (by omega) T w h hl
def ExAll (ns:List Nd) (B:Nat) (ls:List Int):Prop:=∀z∈ls,∃k:Nat,z=(k:Int)/\k<B/\k<ns.length/\exprK (nodeI ns k).k=true
theorem exprs_any (w0:World) (vt v:Value) (ns:List Nd) (E:Int->ByteArray) (t:Int) (B:Nat) (hO:OkE w0 vt ns E t B) (ls:List Int) (hs:IntsAt w0 v ls) (hA:ExAll ns B ls) (hn:ls.length<=1048576) (T:ByteArray) (w:World) (h:Pr w0 vt T t w) (hl:T.size+(sepB (ls.map E)).size<=140737488355328):
  Calls Tryz.prog 23 #[.pointer (some ⟨w0.heap.size,0,none⟩),v] w fun e w'=>e= .returned (.tuple #[])/\Pr w0 vt (T++sepB (ls.map E)) t w'/\Kq w0.heap.size w w':=by
 have HP:Hid (Pr w0 vt T t w/\IntsAt w0 v ls/\ExAll ns B ls/\OkE w0 vt ns E t B):=⟨h,hs,hA,hO⟩
 obtain⟨a,c,rfl⟩:=hs.form
 clear h hs hA hO
 obtain⟨n,hN⟩:∃n,ls.length=n:=⟨_,rfl⟩
 rw[hN]at hn HP⊢
 have HN:Hid (ls.length=n):=hN
 clear hN
 obtain⟨l,hL⟩:∃l,ls.map E=l:=⟨_,rfl⟩
 rw[hL]at hl⊢
 have HL:Hid (ls.map E=l/\l.length=n):=⟨hL,by rw[<-hL,List.length_map];exact HN.out⟩
 clear hL
 go_enter Tryz.func23,Tryz.ntmps23
 go_wp2_with fail
 go_loopw [8] (fun i wr=>∃k:Nat,k<=n/\i= .int .i64 k/\Hid (Pr w0 vt (T++sepB (l.take k)) t wr/\Kq w0.heap.size w wr)) (fun i _=>n-(intOf i).toNat)
 case atStart=>exact⟨0,by omega,rfl,by rw[show T++sepB (l.take 0)=T from ByteArray.append_empty];exact HP.out.1,Kq.refl _ _⟩
 case round=>
  obtain⟨k,hk,rfl,HS⟩:=hrel
  by_cases hlt:k<n
  ·obtain⟨z,hsk⟩:=some_at HN.out hlt
   obtain⟨q,rfl,hq1,hq2,hq3⟩:=HP.out.2.2.1 z (List.mem_of_getElem? hsk)
   obtain⟨a',rfl,cs⟩:=(HP.out.2.1.below HS.out.1.bel).get hsk
   have hki:(k:Int)<(n:Int):=by omega
   have hk0:(0:Int)<=(k:Int):=by omega
   have hsl:l[k]?=some (E q):=by rw[<-HL.out.1,List.getElem?_map,hsk];rfl
   have h1:=sepB_take l k (E q) hsl
   have h2:=sepB_le l (k+1)
   have HH:Hid (sepB (l.take (k+1))=(if k=0 then sepB (l.take k) else sepB (l.take k)++commaB)++E q/\(sepB (l.take (k+1))).size<=(sepB l).size):=⟨h1,h2⟩
   have HQ:Hid (q<B/\exprK (nodeI ns q).k=true):=⟨hq1,hq3⟩
   clear h1 h2 hsk hsl hq1 hq2 hq3
   by_cases h0:k=0
   ·subst h0
    have e1:sepB (l.take (0+1))=sepB (l.take 0)++E q:=by rw[HH.out.1,if_pos rfl]
    have e2:=HH.out.2
    rw[e1,ByteArray.size_append]at e2
    have E1:Hid (sepB (l.take (0+1))=sepB (l.take 0)++E q/\(sepB (l.take 0)).size+(E q).size<=(sepB l).size):=⟨e1,e2⟩
    clear e1 e2 HH
    have cs0:wr.cell? a'=some (.int .i64 (q:Int)):=by simpa [Addr.add] using cs
    go_wp2_with (go_at_call 24;fail)
    refine(HP.out.2.2.2.zero q _ _ HQ.out.1 HQ.out.2 HS.out.1 (by have:=E1.out.2;rw[ByteArray.size_append];omega)).mono ?_
    rintro e w2 ⟨rfl,p2,k2⟩
    have H2:Hid (Pr w0 vt (T++sepB (l.take 0)++E q) t w2/\Kq w0.heap.size wr w2):=⟨p2,k2⟩
    clear p2 k2
    go_wp2_with fail
    refine⟨⟨1,by omega,by go_num,?_,HS.out.2.trans H2.out.2⟩,by simp[intOf];omega⟩
    rw[show(1:Nat)=0+1 from rfl,E1.out.1,<-ByteArray.append_assoc]
    exact H2.out.1
   ·have e1:sepB (l.take (k+1))=sepB (l.take k)++commaB++E q:=by rw[HH.out.1,if_neg h0]
    have e2:=HH.out.2
    rw[e1,ByteArray.size_append,ByteArray.size_append]at e2
    have e3:commaB.size=2:=rfl
    have E1:Hid (sepB (l.take (k+1))=sepB (l.take k)++commaB++E q/\(sepB (l.take k)).size+commaB.size+(E q).size<=(sepB l).size/\commaB.size=2):=⟨e1,e2,e3⟩
    clear e1 e2 e3 HH
    have hkp:(0:Int)<(k:Int):=by omega
    go_wp2_with (go_at_call 12;fail)
    refine(say_any w0 vt _ _ _ _ HS.out.1 (by have:=E1.out.2;rw[ByteArray.size_append];show _+commaB.size<=_;omega)).mono ?_
    rintro e w2 ⟨rfl,p2,k2⟩
    have H2:Hid (Pr w0 vt (T++sepB (l.take k)++commaB) t w2/\Kq w0.heap.size wr w2):=⟨p2,k2⟩
    clear p2 k2
    go_wp2_with (go_at_call 24;fail)
    refine(HP.out.2.2.2.zero q _ _ HQ.out.1 HQ.out.2 H2.out.1 (by have:=E1.out.2;rw[ByteArray.size_append,ByteArray.size_append];omega)).mono ?_
    rintro e w3 ⟨rfl,p3,k3⟩
    have H3:Hid (Pr w0 vt (T++sepB (l.take k)++commaB++E q) t w3/\Kq w0.heap.size w2 w3):=⟨p3,k3⟩
    clear p3 k3
    go_wp2_with fail
    refine⟨⟨k+1,by omega,by go_num,?_,(HS.out.2.trans H2.out.2).trans H3.out.2⟩,by simp[intOf];omega⟩
    rw[E1.out.1,<-ByteArray.append_assoc,<-ByteArray.append_assoc]
    exact H3.out.1
  ·obtain rfl:k=n:=by omega
   go_wp2_with fail
   go_end0
   refine⟨rfl,?_,HS.out.2⟩
   have:=HS.out.1
   rwa [List.take_of_length_le (by rw[HL.out.2];exact Nat.le_refl _)]at this
end Go.Proofs.YtelfejiiabbpfaaGreatDoor
