import Derived.Test.YthjpdjibdnecoaaGreatDoorHQk52
import Derived.Test.YthjpdjibdnecoaaGreatDoorHQk31
set_option linter.all false
set_option maxRecDepth 100000
set_option maxHeartbeats 1600000
namespace Go.Proofs.YthjpdjibdnecoaaGreatDoor
open Go.RowKit Go.Maps Go.WideMaps
theorem Gt.c1{s:ByteArray}{c a:Int}{ns:List Nd}(h:Gt s c a ns):c=1->s.size<=65536:=by
 cases h with
 |big _=>intro h;cases h
 |at_ h _ _=>exact fun _=>h
 |ok h _ _=>exact fun _=>h
theorem AnL.below{w W:World}(h:AnL w)(a:Below w.heap.size w W):AnL W:=by
 obtain⟨c,b,d,e⟩:=h;exact⟨ai a c,b,ai a d,ai a e⟩
theorem Ji(w:World)(s:ByteArray)(af:s.size<=9223372036854775807)(n:PL w)(u:AnL w)(o:zJ w):
  Calls Tryz.prog 3 #[.string s] w fun e J=>e= .returned (.bool true)/\Below w.heap.size w J:=by
 by_cases ad:1048576<s.size
 ·have H:(1048576:Int)<(s.size:Int):=by omega
  go_in;go_wp2_with fail;go_ret;exact⟨rfl,ag _ _⟩
 ·have H:¬(1048576:Int)<(s.size:Int):=by omega
  obtain⟨A,y,ns,f⟩:=akn s;have a:=f.nn;have i:=f.le;have m:(pi ns).size<=70368744177664:=by
   unfold pi;split
   ·exact a.dz
   ·exact aL _
  have p:=Ii w s (by omega) (ns:=ns) (D:=pi ns) a.cs i.1 i.2 m (Dn w s (by omega) f) (fun b j c=>Gk b j ns c a.len a.sm a.int a.dz) (fun q b C E=>jr q (by omega) (by omega) b);have g:=fun (b:World) (c:Below w.heap.size w b)=>Ih b s (ns:=ns) (D:=pi ns) a.cs i.1 i.2 f.c1 m (u.below c)
   (fun h d=>Dm h s (by omega) ((n.below c (ae _)).below d (ae _)) f)
   (fun h j d v=>Gl h j ns v a.len a.sm a.int a.dz ((o.below c).below d) (fun x t=>by
    have k:=((n.below c (ae _)).below d (ae _)).below t (ae _);obtain⟨I,B,F⟩:=k.lay.tabs.word;exact zK x j ns (v.below t) a.len a.sm k.lay.errs I B F (fun b G=>qu k.asc G (ae _))))
   (fun q h C E d=>tD q (by omega) (by omega) h ((o.below c).below d))
  generalize aeh s A y (pi ns)=L at p g;have r:=aw g;clear g f a i m n u o;go_in;go_wp2_with fail;refine aJ p fun K l=>?_;have g:=r.out K l;clear p r;go_wp2_with fail;refine aJ g fun ak z=>?_;clear g;go_wp2_with fail;go_ret;exact⟨rfl,l.trans (z.mono l.size)⟩
