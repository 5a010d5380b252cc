import Derived.Test.YtkdijoogonigpaaGreatDoorHUk50
set_option linter.all false
set_option maxRecDepth 100000
set_option maxHeartbeats 6400000
namespace Go.Proofs.YtkdijoogonigpaaGreatDoor
open Go.RowKit Go.Maps Go.WideMaps
theorem aeC{t p:ByteArray}{i j:Nat}(b:i<=j)(a:j<=t.size):uT (t.extract 0 i++p++t.extract j t.size)<=uT t+uT p:=by
 rw[ft,ft,sF t (aG i) (by omega),sF t a (ag _)];have c:=jC t (aG i) (show i<=t.size by omega);have d:=jC t b a;unfold uT;omega
theorem af2{t:ByteArray}{i j:Nat}(b:i<=j)(a:j<=t.size):uT (t.extract 0 i++t.extract j t.size)<=uT t:=by
 rw[ft,sF t (aG i) (by omega),sF t a (ag _)];have c:=jC t (aG i) (show i<=t.size by omega);have d:=jC t b a;unfold uT;omega
theorem af3{t p b:ByteArray}{i j:Nat}(c:i<=j)(d:j<=t.size):uT (t.extract 0 i++p++b++t.extract j t.size)<=uT t+uT p+uT b:=by
 have a:=aeC (p:=p) c d;rw[ft,ft]at a;rw[ft,ft,ft];omega
theorem af4{t:ByteArray}{i:Nat}(a:i<=t.size):uT (t.extract 0 i)<=uT t:=by
 rw[sF t (aG i) a];have b:=jC t (aG i) a;unfold uT;omega
theorem Eh(t:ByteArray)(i j:Nat):(t.extract i j).size<=t.size:=by rw[je];omega
section
variable {E : Bs} {W : World} {y : Int}
theorem af5(av:Cu E W y)(ca:y<=10):Calls Tryz.prog 10 #[cV E] W fun e cc=>∃t:ByteArray,e= .returned (.string t)/\uT t<=65536/\Below E.base W cc:=by
 have bn:=aeB av ca;go_in;go_wp2_with fail;refine bn.mono ?_;rintro e w1 ⟨t,f,rfl,⟨b8,ak⟩,q,a4⟩;have bf:=fv q 3 (by decide) (by decide) (by decide);have B:=cH ak a4;clear bn q a4 ak b8;go_wp2_with fail;refine bf.mono ?_;rintro e cv ⟨ce,rfl,cu,a0,_,a5⟩;have C:=cH a0 (B.out.2.trans a5);clear bf a0 a5;go_wp2_with fail;go_loopw [3,4] (fun cb al wr=>∃(t:ByteArray) (f:Nat) (c:Int),cb= .string t/\al= .int .i64 c/\(0<=c/\c<=2)/\Hid ((uT t:Int)+122*c<=39994+8010*(f:Int))/\Cu {E with g:=f} wr (50000000-1000*c)/\Hid (Below E.base W wr)) (fun _ al _=>(intOf al).toNat)
 case atStart=>exact⟨t,f,ce,rfl,rfl,by omega,by show _<=_;have:=B.out.1;omega,C.out.1.wide (by omega),C.out.2⟩
 case round=>
  clear B C av;obtain⟨t,f,c,rfl,rfl,cq,j,q,F⟩:=hrel;have L:=q.g3;have b7:t.size<=33000:=by have:=j.out;have:=tB t;have:f<=3:=L;omega
  by_cases cr:0<c
  ·have ct:IntKind.i64.wrap (c-1)=c-1:=by rw[cB];omega
   have cs:IntKind.i64.wrap ((t.size:Int)+1)=(t.size:Int)+1:=by rw[cB];omega
   have l:=acu q ((t.size:Int)+1) (by omega) (by omega) (by omega);clear q;go_wp2_with fail;refine l.mono ?_;rintro e cy ⟨b,rfl,a9,a1,_,a6⟩;obtain⟨b,rfl⟩:=fe a9.1;have af:b<=t.size:=by omega
   have bj:=fv a1 4 (by decide) (by decide) (by omega);have an:=ar (F.out.trans a6);clear l a1 a6 a9;go_wp2_with fail;refine bj.mono ?_;rintro e cz ⟨am,rfl,bd,a2,_,a7⟩;obtain⟨am,rfl⟩:=fe bd.1;obtain⟨k,bE⟩:=aD (b+am);have b9:IntKind.i64.wrap ((b:Int)+(am:Int))=(k:Int):=by rw[cB];omega
   have bb:b<=k:=by omega
   have bl:=fv a2 5 (by decide) (by decide) (by omega);have br:=ar (an.out.trans a7);clear bj a2 a7 bd bE an F;have cn:(0:Int)<=(b:Int):=by omega
   have cp:(b:Int)<=(t.size:Int):=by omega
   have b4:=Eh t 0 b;have b5:=Eh t b t.size;have I:∃d:Nat,b<=d/\d<=t.size/\(((t.size:Int)<(k:Int)/\d=t.size)\/(¬(t.size:Int)<(k:Int)/\d=k)):=by
    by_cases v:(t.size:Int)<(k:Int)
    ·exact⟨t.size,af,ag _,.inl ⟨v,rfl⟩⟩
    ·exact⟨k,bb,by omega,.inr ⟨v,rfl⟩⟩
   obtain⟨d,J,K,I⟩:=I;have cl:(0:Int)<=(d:Int):=by omega
   have cm:(d:Int)<=(t.size:Int):=by omega
   have b6:=Eh t d t.size;have i:Hid ((∀a,uT (t.extract 0 b++a++t.extract b t.size)<=uT t+uT a)/\uT (t.extract 0 b++t.extract d t.size)<=uT t/\(∀a G,uT (t.extract 0 b++a++G++t.extract d t.size)<=uT t+uT a+uT G)/\uT (t.extract 0 b)<=uT t/\∀a,uT (t.extract 0 b++a++t.extract d t.size)<=uT t+uT a):=⟨fun a=>aeC (ag b) af,af2 J K,fun a G=>af3 J K,af4 af,fun a=>aeC J K⟩;obtain⟨h,bs⟩:=aD (t.extract 0 b);obtain⟨bp,bt⟩:=aD (t.extract b t.size);obtain⟨A,bw⟩:=aD (t.extract d t.size);rw[bs]at b4 i;rw[bt]at b5 i;rw[bw]at b6 i;have cf:=gy j.out L b7;rcases I with⟨v,a3⟩|⟨v,a3⟩;all_goals
    go_wp2_with fail;first|rw[show(t.size:Int)=(d:Int) by omega]|rw[show(k:Int)=(d:Int) by omega]
    refine bl.mono ?_;rintro e p ⟨x,rfl,ak,r,_,a8⟩;have s:=ar (br.out.trans a8);have l:=Lh (r.below (bq (aq _ p)) r.lt) (by omega);have w:=D4 (r.below (bq (aq _ p)) r.lt) 1 (by decide) (by decide) (by omega);have m:=ar r;clear bl a8 r v a3 b9 bb;rcases(show x=0\/x=1\/x=2\/x=3\/x=4 by omega) with rfl|rfl|rfl|rfl|rfl
    ·clear w;go_wp2_with fail;go_region_held3 (fun _=>True) (trivial) ((go_at_call 11;refine l.mono ?_;rintro e bo ⟨a,o,rfl,b1,z,n,u⟩;have bx:o<=3:=n.g3;have b3:a.size<=20000:=(by have:=tB a;omega);have H:¬9223372036854775807<h.size+a.size:=(by omega);have ap:¬9223372036854775807<h.size+a.size+bp.size:=(by omega)))
     go_wp2_with fail;go_roundw
     case rel=>exact⟨_,o,c-1,rfl,rfl,by omega,by show _<=_;have b2:uT a+8010*f<=120+8010*o:=z;have:=j.out;have:=i.out.1 a;omega,n.wide (by omega),(s.out.trans ((bq (aq _ p)).mono m.out.lo.2)).trans u⟩
     case measure=>simp[intOf];omega
    ·clear w l;have H:¬9223372036854775807<h.size+A.size:=by omega
     go_wp2_with fail;go_region_held3 (fun _=>True) (trivial) (fail)
     go_wp2_with fail;go_roundw
     case rel=>exact⟨_,f,c-1,rfl,rfl,by omega,by show _<=_;have:=j.out;have:=i.out.2.1;omega,(m.out.below (bq (aq _ p)) m.out.lt).wide (by omega),s.out.trans ((bq (aq _ p)).mono m.out.lo.2)⟩
     case measure=>simp[intOf];omega
    ·clear w;go_wp2_with fail;go_region_held3 (fun _=>True) (trivial) ((go_at_call 11;refine l.mono ?_;rintro e bo ⟨a,o,rfl,b1,z,n,u⟩;have bx:o<=3:=n.g3;have b3:a.size<=20000:=(by have:=tB a;omega);have H:¬9223372036854775807<h.size+a.size:=(by omega);have ap:¬9223372036854775807<h.size+a.size+1:=(by omega);have ck:¬9223372036854775807<h.size+a.size+1+A.size:=(by omega)))
     go_wp2_with fail;go_roundw
     case rel=>exact⟨_,o,c-1,rfl,rfl,by omega,by show _<=_;have b2:uT a+8010*f<=120+8010*o:=z;have:=j.out;have:=i.out.2.2.1 a ⟨#[32]⟩;have:uT ⟨#[32]⟩=2:=(by decide);omega,n.wide (by omega),(s.out.trans ((bq (aq _ p)).mono m.out.lo.2)).trans u⟩
     case measure=>simp[intOf];omega
    ·clear w l;go_wp2_with fail;go_roundw
     case rel=>exact⟨_,f,c-1,rfl,rfl,by omega,by show _<=_;have:=j.out;have:=i.out.2.2.2.1;omega,m.out.wide (by omega),s.out⟩
     case measure=>simp[intOf];omega
    ·clear l;go_wp2_with fail;go_region_held3 (fun _=>True) (trivial) ((go_at_call 30;refine w.mono ?_;rintro e bo ⟨a,rfl,z,n,_,u⟩;have H:¬9223372036854775807<h.size+a.size:=(by omega);have ap:¬9223372036854775807<h.size+a.size+A.size:=(by omega)))
     go_wp2_with fail;go_roundw
     case rel=>exact⟨_,f,c-1,rfl,rfl,by omega,by show _<=_;have:=Jd a;have:=j.out;have:=i.out.2.2.2.2 a;omega,n.wide (by omega),(s.out.trans ((bq (aq _ p)).mono m.out.lo.2)).trans u⟩
     case measure=>simp[intOf];omega
  ·have b0:c=0:=by omega
   subst b0;go_wp2_with fail;go_ret;exact⟨t,rfl,by have:=j.out;have:f<=3:=L;omega,F.out⟩
end
