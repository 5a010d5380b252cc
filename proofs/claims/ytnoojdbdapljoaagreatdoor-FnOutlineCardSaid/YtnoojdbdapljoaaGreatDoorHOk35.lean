import Derived.Test.YtnoojdbdapljoaaGreatDoorHOk27
set_option linter.all false
set_option maxRecDepth 100000
set_option maxHeartbeats 6400000
open Go.Value renaming slice->M,int->Q,string->R
open Option renaming some->O
namespace Go.Proofs.YtnoojdbdapljoaaGreatDoor
open Go.RowKit
theorem Fw(w0:World)(p1:Addr)(n c1:Nat)(p:List Nd)(F:cg w0 (M (O p1) n c1) p)(G:ij w0 p1 p)(a8:p.length=n)(b8:n<=1048576)(tab:Nat)(i:Nat)(b3:i<n)(N:Nd)(E:al p i=N)(r:N.k=3)(b7:N.ks.length<=1048576)(s:ByteArray)(B:N.nm[0]?=O s)(C:Nat)(z:N.ks[0]?=O (C:Int))(x:ByteArray)(a5:Wr w0 (M (O p1) n c1) tab 123 #[pW w0,Q .i64 (C:Int),Q .i64 0] x):
  Wr w0 (M (O p1) n c1) tab 62 #[pW w0,Q .i64 (i:Int)] ((⟨#[99,111,110,115,116,32]⟩++s++⟨#[32,61,32]⟩)++x):=by
 intro g f m A;obtain⟨bF,c,j,bE,b,h,a⟩:=eG F G (show i<p.length by omega);rw[E]at a;have H:=m.lt;obtain⟨z0,bx,bA⟩:=m.cells;have a6:=a.hL;have a7:=a.hM;obtain⟨d,rfl⟩:=a.ks.ptr (by have:=dh z;omega);obtain⟨e,rfl⟩:=a.nm.ptr (show 0<N.nm.length from(List.getElem?_eq_some_iff.1 B).1);have b9:(0:Int)<(c:Int):=by have:=(List.getElem?_eq_some_iff.1 B).1;omega
 have b6:(0:Int)<(b:Int):=by have:=dh z;omega
 obtain⟨bb,bd,bf,bl,bn,bo,bp,br,bs,_,_⟩:=a.rd f m.bel;have u:Hid (Bx w0 (M (O p1) n c1) tab f N (M (O e) c j) (M (O d) b h) g (f.alloc (ia N (M (O e) c j) (M (O d) b h)))):=Bx.new m N _ _;try simp only[ag]at A
 have b4:(i:Int)<(n:Int):=by omega
 have b5:(0:Int)<=(i:Int):=by omega
 have y:Hid (∀(g:ByteArray)(l:World),Bx w0 (M (O p1) n c1) tab f N (M (O e) c j) (M (O d) b h) g l->tg l f.heap.size N (M (O e) c j) (M (O d) b h)/\l.cell? d=O (Q .i64 (C:Int))/\l.cell? e=O (R s)):=fun g l t=>⟨t.cells,t.kid0 a.ks z,t.name0 a.nm B⟩;have b0:=cC r 1 rfl;have b1:=cC r 2 rfl;have b2:=jd r 3 rfl;have a0:Hid (Wr w0 (M (O p1) n c1) tab 63 _ ((⟨#[99,111,110,115,116,32]⟩++s++⟨#[32,61,32]⟩))):=fun a2 a3 a9 A=>aE w0 _ a2 ((⟨#[99,111,110,115,116,32]⟩++s++⟨#[32,61,32]⟩)) _ a3 a9 A;have a1:=aq a5;have bD:=aq a;obtain⟨⟨I,J,K,L,ad,af,am,ao,ap⟩,ar,av⟩:=y.out _ _ u.out;clear m a F G E a8 bA bx a6 a7 r;go_in;go_wp2_with fail;refine(a0.out _ _ u.out.pr (by(try simp only[ag]);omega)).mono ?_;rintro a4 bt ⟨rfl,q,o⟩;have v:Hid (Bx w0 (M (O p1) n c1) tab f N (M (O e) c j) (M (O d) b h) (g++((⟨#[99,111,110,115,116,32]⟩++s++⟨#[32,61,32]⟩))) bt):=u.out.next H q o
 obtain⟨⟨I,J,K,L,ad,af,am,ao,ap⟩,ar,av⟩:=y.out _ _ v.out;clear q o bb bd bf bl bn bo bp br bs z0;go_wp2_with fail;refine(a1.out _ _ v.out.pr (by(try simp only[ag]);omega)).mono ?_;rintro a4 bw ⟨rfl,q,o⟩;have w:Hid (Bx w0 (M (O p1) n c1) tab f N (M (O e) c j) (M (O d) b h) (g++((⟨#[99,111,110,115,116,32]⟩++s++⟨#[32,61,32]⟩))++(x)) bw):=v.out.next H q o
 obtain⟨⟨I,J,K,L,ad,af,am,ao,ap⟩,ar,av⟩:=y.out _ _ w.out;clear q o;go_wp2_with fail;go_end0
 refine⟨rfl,?_,w.out.kq⟩;have:=w.out.pr;simpa only[aF] using this
theorem adp(w0:World)(p1:Addr)(n c1:Nat)(q:List Nd)(F:cg w0 (M (O p1) n c1) q)(G:ij w0 p1 q)(a8:q.length=n)(b9:n<=1048576)(tab:Nat)(i:Nat)(b4:i<n)(N:Nd)(E:al q i=N)(o:N.k=4)(b8:N.ks.length<=1048576)(s:ByteArray)(B:N.nm[0]?=O s)(C:Nat)(z:N.ks[0]?=O (C:Int))(x:ByteArray)(a5:Wr w0 (M (O p1) n c1) tab 124 #[pW w0,Q .i64 (C:Int)] x):
  Wr w0 (M (O p1) n c1) tab 62 #[pW w0,Q .i64 (i:Int)] ((⟨#[102,110,32]⟩++s)++x):=by
 intro g f m A;obtain⟨bF,c,j,bE,b,h,a⟩:=eG F G (show i<q.length by omega);rw[E]at a;have H:=m.lt;obtain⟨z0,bx,bA⟩:=m.cells;have a6:=a.hL;have a7:=a.hM;obtain⟨d,rfl⟩:=a.ks.ptr (by have:=dh z;omega);obtain⟨e,rfl⟩:=a.nm.ptr (show 0<N.nm.length from(List.getElem?_eq_some_iff.1 B).1);have ca:(0:Int)<(c:Int):=by have:=(List.getElem?_eq_some_iff.1 B).1;omega
 have b7:(0:Int)<(b:Int):=by have:=dh z;omega
 obtain⟨bb,bd,bf,bl,bn,bo,bp,br,bs,_,_⟩:=a.rd f m.bel;have u:Hid (Bx w0 (M (O p1) n c1) tab f N (M (O e) c j) (M (O d) b h) g (f.alloc (ia N (M (O e) c j) (M (O d) b h)))):=Bx.new m N _ _;try simp only[ag]at A
 have b5:(i:Int)<(n:Int):=by omega
 have b6:(0:Int)<=(i:Int):=by omega
 have y:Hid (∀(g:ByteArray)(l:World),Bx w0 (M (O p1) n c1) tab f N (M (O e) c j) (M (O d) b h) g l->tg l f.heap.size N (M (O e) c j) (M (O d) b h)/\l.cell? d=O (Q .i64 (C:Int))/\l.cell? e=O (R s)):=fun g l t=>⟨t.cells,t.kid0 a.ks z,t.name0 a.nm B⟩;have b0:=cC o 1 rfl;have b1:=cC o 2 rfl;have b2:=cC o 3 rfl;have b3:=jd o 4 rfl;have a0:Hid (Wr w0 (M (O p1) n c1) tab 63 _ ((⟨#[102,110,32]⟩++s))):=fun a2 a3 a9 A=>aE w0 _ a2 ((⟨#[102,110,32]⟩++s)) _ a3 a9 A;have a1:=aq a5;have bD:=aq a;obtain⟨⟨I,J,K,L,ad,af,am,ao,ap⟩,ar,av⟩:=y.out _ _ u.out;clear m a F G E a8 bA bx a6 a7 o;go_in;go_wp2_with fail;refine(a0.out _ _ u.out.pr (by(try simp only[ag]);omega)).mono ?_;rintro a4 bt ⟨rfl,r,p⟩;have v:Hid (Bx w0 (M (O p1) n c1) tab f N (M (O e) c j) (M (O d) b h) (g++((⟨#[102,110,32]⟩++s))) bt):=u.out.next H r p
 obtain⟨⟨I,J,K,L,ad,af,am,ao,ap⟩,ar,av⟩:=y.out _ _ v.out;clear r p bb bd bf bl bn bo bp br bs z0;go_wp2_with fail;refine(a1.out _ _ v.out.pr (by(try simp only[ag]);omega)).mono ?_;rintro a4 bw ⟨rfl,r,p⟩;have w:Hid (Bx w0 (M (O p1) n c1) tab f N (M (O e) c j) (M (O d) b h) (g++((⟨#[102,110,32]⟩++s))++(x)) bw):=v.out.next H r p
 obtain⟨⟨I,J,K,L,ad,af,am,ao,ap⟩,ar,av⟩:=y.out _ _ w.out;clear r p;go_wp2_with fail;go_end0
 refine⟨rfl,?_,w.out.kq⟩;have:=w.out.pr;simpa only[aF] using this
