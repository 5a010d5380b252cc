import Derived.Test.YtelfejiiabbpfaaGreatDoorHRk28
set_option linter.unusedVariables false
set_option maxRecDepth 100000
set_option maxHeartbeats 6400000
namespace Go.Proofs.YtelfejiiabbpfaaGreatDoor
open Go.RowKit
theorem stat_const (w0:World) (p1:Addr) (n c1:Nat) (ns:List Nd) (hNs:NdsAt w0 (.slice (some p1) n c1) ns) (hcap:KCap w0 p1 ns) (hnn:ns.length=n) (hln:n<=1048576) (tab:Nat) (i:Nat) (hi:i<n) (N:Nd) (hN:nodeI ns i=N) (hk:N.k=3) (hlk:N.ks.length<=1048576) (s:ByteArray) (hs0:N.nm[0]?=some s) (q0:Nat) (hk0:N.ks[0]?=some (q0:Int)) (E0:ByteArray) (hE0:Wr w0 (.slice (some p1) n c1) tab 24 #[pW w0,.int .i64 (q0:Int),.int .i64 0] E0):
  Wr w0 (.slice (some p1) n c1) tab 11 #[pW w0,.int .i64 (i:Int)] ((⟨#[99,111,110,115,116,32]⟩++s++⟨#[32,61,32]⟩)++E0):=by
 intro T w h hl
 obtain⟨an,M,cn,ak,L,ck,R⟩:=nd_in hNs hcap (show i<ns.length by omega)
 rw[hN]at R
 have hlt:=h.lt
 obtain⟨z0,z2,zf⟩:=h.cells
 have hL:=R.hL
 have hM:=R.hM
 obtain⟨pk,rfl⟩:=R.ks.ptr (by have:=kid_lt hk0;omega)
 obtain⟨pn,rfl⟩:=R.nm.ptr (show 0<N.nm.length from(List.getElem?_eq_some_iff.1 hs0).1)
 have hm0:(0:Int)<(M:Int):=by have:=(List.getElem?_eq_some_iff.1 hs0).1;omega
 have hj0:(0:Int)<(L:Int):=by have:=kid_lt hk0;omega
 obtain⟨m0,m1,m2,m3,m4,m5,m6,m7,m8,_,_⟩:=R.rd w h.bel
 have B0:Hid (Bx w0 (.slice (some p1) n c1) tab w N (.slice (some pn) M cn) (.slice (some pk) L ck) T (w.alloc (boxN N (.slice (some pn) M cn) (.slice (some pk) L ck)))):=Bx.new h N _ _
 try simp only[ByteArray.size_append]at hl
 have hii:(i:Int)<(n:Int):=by omega
 have hii0:(0:Int)<=(i:Int):=by omega
 have cel:Hid (∀(T:ByteArray) (W:World),Bx w0 (.slice (some p1) n c1) tab w N (.slice (some pn) M cn) (.slice (some pk) L ck) T W->Cel W w.heap.size N (.slice (some pn) M cn) (.slice (some pk) L ck)/\W.cell? pk=some (.int .i64 (q0:Int))/\W.cell? pn=some (.string s)):=fun T W B=>⟨B.cells,B.kid0 R.ks hk0,B.name0 R.nm hs0⟩
 have g1:=kqf hk 1 rfl
 have g2:=kqf hk 2 rfl
 have g3:=kqt hk 3 rfl
 have S0:Hid (Wr w0 (.slice (some p1) n c1) tab 12 _ ((⟨#[99,111,110,115,116,32]⟩++s++⟨#[32,61,32]⟩))):=fun T' W' hp hl=>say_any w0 _ T' ((⟨#[99,111,110,115,116,32]⟩++s++⟨#[32,61,32]⟩)) _ W' hp hl
 have S1:Hid (Wr w0 (.slice (some p1) n c1) tab 24 _ (E0)):=hE0
 have HR:Hid (NdR w0 p1 i N (some pn) M cn (some pk) L ck):=R
 obtain⟨⟨x0,x1,x2,x3,x4,x5,x6,x7,x8⟩,y0,yn⟩:=cel.out _ _ B0.out
 clear h R hNs hcap hN hnn zf z2 hL hM hk
 go_enter Tryz.func11,Tryz.ntmps11
 go_wp2_with (go_at_call 12;fail)
 refine(S0.out _ _ B0.out.pr (by(try simp only[ByteArray.size_append]);omega)).mono ?_
 rintro e yw0 ⟨rfl,qq,kk⟩
 have B1:Hid (Bx w0 (.slice (some p1) n c1) tab w N (.slice (some pn) M cn) (.slice (some pk) L ck) (T++((⟨#[99,111,110,115,116,32]⟩++s++⟨#[32,61,32]⟩))) yw0):=B0.out.next hlt qq kk
 obtain⟨⟨x0,x1,x2,x3,x4,x5,x6,x7,x8⟩,y0,yn⟩:=cel.out _ _ B1.out
 clear qq kk m0 m1 m2 m3 m4 m5 m6 m7 m8 z0
 go_wp2_with (go_at_call 24;fail)
 refine(S1.out _ _ B1.out.pr (by(try simp only[ByteArray.size_append]);omega)).mono ?_
 rintro e yw1 ⟨rfl,qq,kk⟩
 have B2:Hid (Bx w0 (.slice (some p1) n c1) tab w N (.slice (some pn) M cn) (.slice (some pk) L ck) (T++((⟨#[99,111,110,115,116,32]⟩++s++⟨#[32,61,32]⟩))++(E0)) yw1):=B1.out.next hlt qq kk
 obtain⟨⟨x0,x1,x2,x3,x4,x5,x6,x7,x8⟩,y0,yn⟩:=cel.out _ _ B2.out
 clear qq kk
 go_wp2_with fail
 go_end0
 refine⟨rfl,?_,B2.out.kq⟩
 have:=B2.out.pr
 simpa only[ByteArray.append_assoc] using this
theorem stat_fn (w0:World) (p1:Addr) (n c1:Nat) (ns:List Nd) (hNs:NdsAt w0 (.slice (some p1) n c1) ns) (hcap:KCap w0 p1 ns) (hnn:ns.length=n) (hln:n<=1048576) (tab:Nat) (i:Nat) (hi:i<n) (N:Nd) (hN:nodeI ns i=N) (hk:N.k=4) (hlk:N.ks.length<=1048576) (s:ByteArray) (hs0:N.nm[0]?=some s) (q0:Nat) (hk0:N.ks[0]?=some (q0:Int)) (Y0:ByteArray) (hB0:Wr w0 (.slice (some p1) n c1) tab 25 #[pW w0,.int .i64 (q0:Int)] Y0):
  Wr w0 (.slice (some p1) n c1) tab 11 #[pW w0,.int .i64 (i:Int)] ((⟨#[102,110,32]⟩++s)++Y0):=by
 intro T w h hl
 obtain⟨an,M,cn,ak,L,ck,R⟩:=nd_in hNs hcap (show i<ns.length by omega)
 rw[hN]at R
 have hlt:=h.lt
 obtain⟨z0,z2,zf⟩:=h.cells
 have hL:=R.hL
 have hM:=R.hM
 obtain⟨pk,rfl⟩:=R.ks.ptr (by have:=kid_lt hk0;omega)
 obtain⟨pn,rfl⟩:=R.nm.ptr (show 0<N.nm.length from(List.getElem?_eq_some_iff.1 hs0).1)
 have hm0:(0:Int)<(M:Int):=by have:=(List.getElem?_eq_some_iff.1 hs0).1;omega
 have hj0:(0:Int)<(L:Int):=by have:=kid_lt hk0;omega
 obtain⟨m0,m1,m2,m3,m4,m5,m6,m7,m8,_,_⟩:=R.rd w h.bel
 have B0:Hid (Bx w0 (.slice (some p1) n c1) tab w N (.slice (some pn) M cn) (.slice (some pk) L ck) T (w.alloc (boxN N (.slice (some pn) M cn) (.slice (some pk) L ck)))):=Bx.new h N _ _
 try simp only[ByteArray.size_append]at hl
 have hii:(i:Int)<(n:Int):=by omega
 have hii0:(0:Int)<=(i:Int):=by omega
 have cel:Hid (∀(T:ByteArray) (W:World),Bx w0 (.slice (some p1) n c1) tab w N (.slice (some pn) M cn) (.slice (some pk) L ck) T W->Cel W w.heap.size N (.slice (some pn) M cn) (.slice (some pk) L ck)/\W.cell? pk=some (.int .i64 (q0:Int))/\W.cell? pn=some (.string s)):=fun T W B=>⟨B.cells,B.kid0 R.ks hk0,B.name0 R.nm hs0⟩
 have g1:=kqf hk 1 rfl
 have g2:=kqf hk 2 rfl
 have g3:=kqf hk 3 rfl
 have g4:=kqt hk 4 rfl
 have S0:Hid (Wr w0 (.slice (some p1) n c1) tab 12 _ ((⟨#[102,110,32]⟩++s))):=fun T' W' hp hl=>say_any w0 _ T' ((⟨#[102,110,32]⟩++s)) _ W' hp hl
 have S1:Hid (Wr w0 (.slice (some p1) n c1) tab 25 _ (Y0)):=hB0
 have HR:Hid (NdR w0 p1 i N (some pn) M cn (some pk) L ck):=R
 obtain⟨⟨x0,x1,x2,x3,x4,x5,x6,x7,x8⟩,y0,yn⟩:=cel.out _ _ B0.out
 clear h R hNs hcap hN hnn zf z2 hL hM hk
 go_enter Tryz.func11,Tryz.ntmps11
 go_wp2_with (go_at_call 12;fail)
 refine(S0.out _ _ B0.out.pr (by(try simp only[ByteArray.size_append]);omega)).mono ?_
 rintro e yw0 ⟨rfl,qq,kk⟩
 have B1:Hid (Bx w0 (.slice (some p1) n c1) tab w N (.slice (some pn) M cn) (.slice (some pk) L ck) (T++((⟨#[102,110,32]⟩++s))) yw0):=B0.out.next hlt qq kk
 obtain⟨⟨x0,x1,x2,x3,x4,x5,x6,x7,x8⟩,y0,yn⟩:=cel.out _ _ B1.out
 clear qq kk m0 m1 m2 m3 m4 m5 m6 m7 m8 z0
 go_wp2_with (go_at_call 25;fail)
 refine(S1.out _ _ B1.out.pr (by(try simp only[ByteArray.size_append]);omega)).mono ?_
 rintro e yw1 ⟨rfl,qq,kk⟩
 have B2:Hid (Bx w0 (.slice (some p1) n c1) tab w N (.slice (some pn) M cn) (.slice (some pk) L ck) (T++((⟨#[102,110,32]⟩++s))++(Y0)) yw1):=B1.out.next hlt qq kk
 obtain⟨⟨x0,x1,x2,x3,x4,x5,x6,x7,x8⟩,y0,yn⟩:=cel.out _ _ B2.out
 clear qq kk
 go_wp2_with fail
 go_end0
 refine⟨rfl,?_,B2.out.kq⟩
 have:=B2.out.pr
 simpa only[ByteArray.append_assoc] using this
end Go.Proofs.YtelfejiiabbpfaaGreatDoor
