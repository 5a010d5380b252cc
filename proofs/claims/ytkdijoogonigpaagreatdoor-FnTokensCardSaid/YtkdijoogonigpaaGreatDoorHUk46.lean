import Derived.Test.YtkdijoogonigpaaGreatDoorHUk36
set_option linter.all false
set_option maxRecDepth 100000
set_option maxHeartbeats 6400000
open Go.Value renaming slice->M,int->Q,string->R
open Option renaming some->O
namespace Go.Proofs.YtkdijoogonigpaaGreatDoor
open Go.RowKit
theorem CB(w0:World)(p1:Addr)(n c1:Nat)(ns:List Nd)(E:bI w0 (M (O p1) n c1) ns)(F:fI w0 p1 ns)(a9:ns.length=n)(cb:n<=1048576)(tab:Nat)(i:Nat)(b6:i<n)(N:Nd)(C:nodeI ns i=N)(q:N.k=3)(ca:N.ks.length<=1048576)(s:ByteArray)(A:N.nm[0]?=O s)(B:Nat)(y:N.ks[0]?=O (B:Int))(w:ByteArray)(a6:Wr w0 (M (O p1) n c1) tab 110 #[pW w0,Q .i64 (B:Int),Q .i64 0] w):
  Wr w0 (M (O p1) n c1) tab 80 #[pW w0,Q .i64 (i:Int)] ((⟨#[99,111,110,115,116,32]⟩++s++⟨#[32,61,32]⟩)++w):=by
 intro g f m z;obtain⟨b2,c,j,b1,b,h,a⟩:=dH E F (show i<ns.length by omega);rw[C]at a;have G:=m.lt;obtain⟨z0,bx,bE⟩:=m.cells;have a7:=a.hL;have a8:=a.hM;obtain⟨d,rfl⟩:=a.ks.ptr (by have:=cd y;omega);obtain⟨e,rfl⟩:=a.nm.ptr (show 0<N.nm.length from(List.getElem?_eq_some_iff.1 A).1);have cc:(0:Int)<(c:Int):=by have:=(List.getElem?_eq_some_iff.1 A).1;omega
 have b9:(0:Int)<(b:Int):=by have:=cd y;omega
 obtain⟨bd,bf,bj,bl,bn,bo,bp,br,bs,_,_⟩:=a.rd f m.bel;have t:Hid (Bx w0 (M (O p1) n c1) tab f N (M (O e) c j) (M (O d) b h) g (f.alloc (fx N (M (O e) c j) (M (O d) b h)))):=Bx.new m N _ _;try simp only[ae]at z
 have b7:(i:Int)<(n:Int):=by omega
 have b8:(0:Int)<=(i:Int):=by omega
 have x:Hid (∀(g:ByteArray)(l:World),Bx w0 (M (O p1) n c1) tab f N (M (O e) c j) (M (O d) b h) g l->qp l f.heap.size N (M (O e) c j) (M (O d) b h)/\l.cell? d=O (Q .i64 (B:Int))/\l.cell? e=O (R s)):=fun g l r=>⟨r.cells,r.kid0 a.ks y,r.name0 a.nm A⟩;have b3:=bu q 1 rfl;have b4:=bu q 2 rfl;have b5:=gE q 3 rfl;have a1:Hid (Wr w0 (M (O p1) n c1) tab 81 _ ((⟨#[99,111,110,115,116,32]⟩++s++⟨#[32,61,32]⟩))):=fun a3 a4 bb z=>az w0 _ a3 ((⟨#[99,111,110,115,116,32]⟩++s++⟨#[32,61,32]⟩)) _ a4 bb z;have a2:=ar a6;have b0:=ar a;obtain⟨⟨H,I,J,K,L,af,al,am,ap⟩,av,a0⟩:=x.out _ _ t.out;clear m a E F C a9 bE bx a7 a8 q;go_in;go_wp2_with fail;refine(a1.out _ _ t.out.pr (by(try simp only[ae]);omega)).mono ?_;rintro a5 bt ⟨rfl,p,o⟩;have u:Hid (Bx w0 (M (O p1) n c1) tab f N (M (O e) c j) (M (O d) b h) (g++((⟨#[99,111,110,115,116,32]⟩++s++⟨#[32,61,32]⟩))) bt):=t.out.next G p o
 obtain⟨⟨H,I,J,K,L,af,al,am,ap⟩,av,a0⟩:=x.out _ _ u.out;clear p o bd bf bj bl bn bo bp br bs z0;go_wp2_with fail;refine(a2.out _ _ u.out.pr (by(try simp only[ae]);omega)).mono ?_;rintro a5 bw ⟨rfl,p,o⟩;have v:Hid (Bx w0 (M (O p1) n c1) tab f N (M (O e) c j) (M (O d) b h) (g++((⟨#[99,111,110,115,116,32]⟩++s++⟨#[32,61,32]⟩))++(w)) bw):=u.out.next G p o
 obtain⟨⟨H,I,J,K,L,af,al,am,ap⟩,av,a0⟩:=x.out _ _ v.out;clear p o;go_wp2_with fail;go_end0
 refine⟨rfl,?_,v.out.kq⟩;have:=v.out.pr;simpa only[aB] using this
theorem Ly(w0:World)(p1:Addr)(n c1:Nat)(ns:List Nd)(E:bI w0 (M (O p1) n c1) ns)(F:fI w0 p1 ns)(a9:ns.length=n)(cc:n<=1048576)(tab:Nat)(i:Nat)(b7:i<n)(N:Nd)(C:nodeI ns i=N)(o:N.k=4)(cb:N.ks.length<=1048576)(s:ByteArray)(A:N.nm[0]?=O s)(B:Nat)(y:N.ks[0]?=O (B:Int))(w:ByteArray)(a6:Wr w0 (M (O p1) n c1) tab 111 #[pW w0,Q .i64 (B:Int)] w):
  Wr w0 (M (O p1) n c1) tab 80 #[pW w0,Q .i64 (i:Int)] ((⟨#[102,110,32]⟩++s)++w):=by
 intro g f m z;obtain⟨b2,c,j,b1,b,h,a⟩:=dH E F (show i<ns.length by omega);rw[C]at a;have G:=m.lt;obtain⟨z0,bx,bE⟩:=m.cells;have a7:=a.hL;have a8:=a.hM;obtain⟨d,rfl⟩:=a.ks.ptr (by have:=cd y;omega);obtain⟨e,rfl⟩:=a.nm.ptr (show 0<N.nm.length from(List.getElem?_eq_some_iff.1 A).1);have ce:(0:Int)<(c:Int):=by have:=(List.getElem?_eq_some_iff.1 A).1;omega
 have ca:(0:Int)<(b:Int):=by have:=cd y;omega
 obtain⟨bd,bf,bj,bl,bn,bo,bp,br,bs,_,_⟩:=a.rd f m.bel;have t:Hid (Bx w0 (M (O p1) n c1) tab f N (M (O e) c j) (M (O d) b h) g (f.alloc (fx N (M (O e) c j) (M (O d) b h)))):=Bx.new m N _ _;try simp only[ae]at z
 have b8:(i:Int)<(n:Int):=by omega
 have b9:(0:Int)<=(i:Int):=by omega
 have x:Hid (∀(g:ByteArray)(l:World),Bx w0 (M (O p1) n c1) tab f N (M (O e) c j) (M (O d) b h) g l->qp l f.heap.size N (M (O e) c j) (M (O d) b h)/\l.cell? d=O (Q .i64 (B:Int))/\l.cell? e=O (R s)):=fun g l r=>⟨r.cells,r.kid0 a.ks y,r.name0 a.nm A⟩;have b3:=bu o 1 rfl;have b4:=bu o 2 rfl;have b5:=bu o 3 rfl;have b6:=gE o 4 rfl;have a1:Hid (Wr w0 (M (O p1) n c1) tab 81 _ ((⟨#[102,110,32]⟩++s))):=fun a3 a4 bb z=>az w0 _ a3 ((⟨#[102,110,32]⟩++s)) _ a4 bb z;have a2:=ar a6;have b0:=ar a;obtain⟨⟨H,I,J,K,L,af,al,am,ap⟩,av,a0⟩:=x.out _ _ t.out;clear m a E F C a9 bE bx a7 a8 o;go_in;go_wp2_with fail;refine(a1.out _ _ t.out.pr (by(try simp only[ae]);omega)).mono ?_;rintro a5 bt ⟨rfl,q,p⟩;have u:Hid (Bx w0 (M (O p1) n c1) tab f N (M (O e) c j) (M (O d) b h) (g++((⟨#[102,110,32]⟩++s))) bt):=t.out.next G q p
 obtain⟨⟨H,I,J,K,L,af,al,am,ap⟩,av,a0⟩:=x.out _ _ u.out;clear q p bd bf bj bl bn bo bp br bs z0;go_wp2_with fail;refine(a2.out _ _ u.out.pr (by(try simp only[ae]);omega)).mono ?_;rintro a5 bw ⟨rfl,q,p⟩;have v:Hid (Bx w0 (M (O p1) n c1) tab f N (M (O e) c j) (M (O d) b h) (g++((⟨#[102,110,32]⟩++s))++(w)) bw):=u.out.next G q p
 obtain⟨⟨H,I,J,K,L,af,al,am,ap⟩,av,a0⟩:=x.out _ _ v.out;clear q p;go_wp2_with fail;go_end0
 refine⟨rfl,?_,v.out.kq⟩;have:=v.out.pr;simpa only[aB] using this
