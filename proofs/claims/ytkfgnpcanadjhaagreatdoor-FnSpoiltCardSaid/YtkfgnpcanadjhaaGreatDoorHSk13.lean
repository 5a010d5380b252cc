import Derived.Test.YtkfgnpcanadjhaaGreatDoorHSk07
import Derived.Test.YtkfgnpcanadjhaaGreatDoorHSk12
set_option linter.all false
set_option maxRecDepth 100000
set_option maxHeartbeats 12800000
namespace Go.Proofs.YtkfgnpcanadjhaaGreatDoor
open Go.RowKit Go.Maps Go.WideMaps
theorem Ct(a b:ByteArray)(i:Nat):aG (a++b) i=if i<a.size then aG a i else aG b (i-a.size):=by
 have e:(a++b).data.toList=a.data.toList++b.data.toList:=by rw[iB,BE]
 have f:a.data.toList.length=a.size:=gw
 rw[pj,e]
 split<;>rename_i c
 all_goals
  by_cases d:i<a.size
  ·rw[ab d,pj]
   rw[gL (by omega)]at c
   rw[c]
  ·rw[aa d,pj]
   rw[gq (by omega),f]at c
   rw[c]
theorem yz(s:ByteArray)(n i:Nat)(c:n<=s.size)(b:i<n):aG (s.extract 0 n) i=aG s i:=by
 rw[pj,pj]
 have a:(s.extract 0 n).data.toList=(s.data.toList.drop 0).take (n-0):=by rw[<-gc,Lib.extract_toList]
 rw[a,dJ,Nat.sub_zero,iE,ab b]
theorem Iq(a:ByteArray):a++(⟨#[]⟩:ByteArray)=a:=by apply mG;rw[iB];simp
theorem ad9(a:ByteArray):(⟨#[]⟩:ByteArray)++a=a:=by apply mG;rw[iB];simp
def opn(k:Int):Bool:=decide (k=46\/k=47\/k=40\/k=44\/k=10\/k=25\/60<k)
structure Cs (x:ByteArray) (n:Nat):Prop where
 out:2*x.size<=n
theorem Cs.le{x:ByteArray}{m n:Nat}(a:Cs x m)(b:m<=n):Cs x n:=⟨ch a.out b⟩
theorem qu{x:ByteArray}{n:Nat}(a:2*x.size<=n:=by decide):Cs x n:=⟨a⟩
theorem agt:Cs ⟨#[]⟩ 0:=⟨by decide⟩
theorem Ir(s:ByteArray):(eI (iK s)).size<=2+4*s.size:=by
 have:=xC s s.size (ah _)
 rw[qK]
 unfold iK
 rw[aD]
 simp
 omega
theorem agu(s:ByteArray):Cs (eI (iK s)) (16+18*s.size):=⟨by have:=Ir s;omega⟩
structure Shr (s:ByteArray):Prop where
 sz:s.size<=3
 cs:Cs s 26
structure Lng (s:ByteArray):Prop where
 lo:20<=s.size
 hi:s.size<=4001
 dg:∀i,i<s.size->cL (aG s i)=true
 b0:aG s 0=48
 b1:aG s 1=49
def Sml(s:ByteArray):Prop:=s.size<=19/\Cs (eI (iK s)) 106
def A7:Nat->ByteArray
 |0=>⟨#[48,49,50,51,52,53,54,55,56,57]⟩
 |n+1=>A7 n++A7 n
theorem qv:∀n,(A7 n).size=10*2 ^ n
 |0=>rfl
 |n+1=>by rw[A7,ax,qv n,Nat.pow_succ];omega
theorem agv{n:Nat}(a:n<=8):(A7 n).size<=2560:=by
 have:=Nat.pow_le_pow_right (n:=2) (by decide) a
 rw[qv]
 omega
structure DgT (t:ByteArray):Prop where
 dg:∀i,i<t.size->cL (aG t i)=true
 b0:aG t 0=48
 b1:aG t 1=49
theorem dgt:∀n,DgT (A7 n)
 |0=>⟨fun i b=>by
  have:i<10:=b
  rcases(show i=0\/i=1\/i=2\/i=3\/i=4\/i=5\/i=6\/i=7\/i=8\/i=9 by omega) with rfl|rfl|rfl|rfl|rfl|rfl|rfl|rfl|rfl|rfl<;>decide,by decide,by decide⟩
 |n+1=>by
  have a:=dgt n
  have c:=dp a.b0
  have d:=dp a.b1
  rw[A7]
  refine⟨fun i b=>?_,by rw[Ct,ab c];exact a.b0,by rw[Ct,ab d];exact a.b1⟩
  rw[ax]at b
  rw[Ct]
  split
  ·exact a.dg i (by omega)
  ·exact a.dg _ (by omega)
theorem DgT.lng{t:ByteArray}(a:DgT t){n:Nat}(d:20<=n)(e:n<=4001)(b:n<=t.size):Lng (t.extract 0 n):=by
 have g:(t.extract 0 n).size=n:=by rw[lj];omega
 refine⟨by omega,by omega,fun c f=>?_,by rw[yz t n 0 b (by omega)];exact a.b0,by rw[yz t n 1 b (by omega)];exact a.b1⟩
 rw[yz t n c b (by omega)]
 exact a.dg c (by omega)
section
variable {C : Cd} {E : Bs} {w w' W : World} {c c1 c2 c3 : Cr} {z k y n : Int}
theorem Cw.set3(a:Cw C E W w c)(r:Int):Cw C E W (w.setCell ⟨E.cb,3,none⟩ (.int .i64 r)) ⟨c.p,c.q,r⟩:=
 have b:=uo (sJ w E.cb) 3 (.int .i64 r)
 ⟨a.cu.grown b (bI _ E.cb 3 _ _ _ a.cu.cur),jb a.gr b⟩
theorem xr(e:Rc C 13 [.int .i64 6] c (.int .i64 z) c1)(f:Rc C 13 [.int .i64 k] c1 (.int .i64 y) c2)(i:(z=0/\k=3/\IntKind.i64.wrap (9223372036854775807-y)=n)\/(z=1/\k=3/\IntKind.i64.wrap (-9223372036854775808+y)=n)\/(z=2/\k=70000/\IntKind.i64.wrap (y-35000)=n)\/((z==0)=false/\(z==1)=false/\(z==2)=false/\k=12/\IntKind.i64.wrap (y-3)=n)):Rc C 113 [] c (.int .i64 n) c2:=by
 intro j p d
 have g:=d.cw
 clear d
 rcases i with⟨rfl,rfl,a⟩|⟨rfl,rfl,a⟩|⟨rfl,rfl,a⟩|⟨l,m,o,rfl,a⟩
 all_goals
  go_in
  go_wp2_with fail
  refine g.run e fun w1 h _=>?_
  go_wp2_with fail
  refine h.run f fun q b _=>?_
  go_wp2_with fail
  go_ret
  exact⟨rfl,b.cu,b.gr⟩
theorem Is(C:Cd)(c:Cr)(l:0<=c.p)(o:c.p<=800000000):∃n h,(-9223372036854775808<=n/\n<=9223372036854775807)/\(c.p<=h.p/\h.p<=c.p+3/\h.r=c.r)/\Rc C 113 [] c (.int .i64 n) h:=by
 obtain⟨f,i,q,m,g⟩:=dc C c 6 (by decide) (by decide) l (by omega)
 rcases(show f=0\/f=1\/f=2\/(f≠0/\f≠1/\f≠2) by omega) with d|d|d|d
 ·obtain⟨e,b,k,j,a⟩:=dc C i 3 (by decide) (by decide) (by omega) (by omega)
  exact⟨9223372036854775807-e,b,by omega,by omega,xr g a (.inl ⟨d,rfl,by rw[bm];omega⟩)⟩
 ·obtain⟨e,b,k,j,a⟩:=dc C i 3 (by decide) (by decide) (by omega) (by omega)
  exact⟨-9223372036854775808+e,b,by omega,by omega,xr g a (.inr (.inl ⟨d,rfl,by rw[bm];omega⟩))⟩
 ·obtain⟨e,b,k,j,a⟩:=Av C i 70000 (by decide) (by decide) (by omega) (by omega)
  exact⟨e-35000,b,by omega,by omega,xr g a (.inr (.inr (.inl ⟨d,rfl,by rw[bm];omega⟩)))⟩
 ·obtain⟨e,b,k,j,a⟩:=dc C i 12 (by decide) (by decide) (by omega) (by omega)
  exact⟨e-3,b,by omega,by omega,xr g a (.inr (.inr (.inr ⟨by simpa using d.1,by simpa using d.2.1,by simpa using d.2.2,rfl,by rw[bm];omega⟩)))⟩
theorem aa5(y:Rc C 13 [.int .i64 6] c (.int .i64 3) c1)(A:Rc C 13 [.int .i64 20] c1 (.int .i64 0) c2)(an:c2.r<3)(ao:0<=c2.r)(B:Rc C 13 [.int .i64 3] ⟨c2.p,c2.q,c2.r+1⟩ (.int .i64 z) c3)(u:0<=z/\z<3):Rc C 116 [] c (.string ((A7 9).extract 0 (3999+z.toNat))) c3:=by
 intro af ar s
 have j:=s.cw
 clear s
 have o:(A7 9).size=5120:=by rw[qv]
 go_in
 go_wp2_with fail
 refine j.run y fun w1 k _=>?_
 go_wp2_with fail
 refine k.run A fun av d _=>?_
 have al:=d.cu.cells
 have ap:IntKind.i64.wrap (c2.r+1)=c2.r+1:=by rw[bm];omega
 have E:=aj (d.set3 (c2.r+1))
 clear j k
 go_wp2_with fail
 go_loop [3] (fun i=>∃n:Nat,n<=9/\i= .string (A7 n)) (fun i=>6000-aia i)
 case atStart=>exact⟨0,by decide,rfl⟩
 case round=>
  obtain⟨n,am,rfl⟩:=hrel
  clear d
  by_cases G:n<=8
  ·have L:=agv G
   have K:10<=(A7 n).size:=by rw[qv];have:=Nat.one_le_two_pow (n:=n);omega
   have f:((A7 n).size:Int)<4000:=by omega
   have e:A7 (n+1)=A7 n++A7 n:=rfl
   generalize A7 n=a at L K f e
   have J:=aj e
   clear e o
   go_wp2
   go_round
   case rel=>exact⟨n+1,by omega,by rw[J.out]⟩
   case measure=>show 6000-(a++a).size<6000-a.size;rw[ax];omega
  ·obtain rfl:n=9:=by omega
   have f:¬((A7 9).size:Int)<4000:=by omega
   have v:Hid (∀a b,a=A7 9->b=3999+z.toNat->Value.string (a.extract 0 b)= .string ((A7 9).extract 0 (3999+z.toNat))):=fun a b m F=>by rw[m,F]
   obtain⟨a,h⟩:=aE (A7 9)
   have x:=aj h
   rw[h]at o f⊢
   clear h
   have t:∀z:Int,0<=z->z<3->IntKind.i64.wrap (3999+z)=((3999+z.toNat:Nat):Int):=fun z ak m=>by rw[bm];omega
   have ad:=t z u.1 u.2
   have H:(((3999+z.toNat:Nat):Int))<=(a.size:Int):=by omega
   have I:(0:Int)<=((3999+z.toNat:Nat):Int):=by omega
   obtain⟨b,g⟩:=aE (3999+z.toNat)
   have w:=aj g
   rw[g]at ad H I
   clear t g
   go_wp2_with fail
   refine E.out.run B fun a0 l _=>?_
   go_wp2
   go_ret
   exact⟨congrArg Ending.returned (v.out a b x.out.symm w.out.symm),l.cu,l.gr⟩
theorem Ey{s:ByteArray}(e:Rc C 13 [.int .i64 6] c (.int .i64 z) c1)(a:(z=0/\s=⟨#[]⟩/\c2=c1)\/(z=2/\s=⟨#[97,34,98,92,99,10,100,9,101]⟩/\c2=c1)\/((z=4\/z=5)/\s=⟨#[116,101,120,116]⟩/\c2=c1)\/(z=3/\s=⟨#[116,101,120,116]⟩/\∃y,Rc C 13 [.int .i64 20] c1 (.int .i64 y) c2/\((y==0)=false\/(y=0/\¬c2.r<3)))):Rc C 116 [] c (.string s) c2:=by
 intro j l h
 have f:=h.cw
 clear h
 rcases a with⟨rfl,rfl,rfl⟩|⟨rfl,rfl,rfl⟩|⟨rfl|rfl,rfl,rfl⟩|⟨rfl,rfl,y,i,a⟩
 case inr.inr.inr=>
  rcases a with a|⟨rfl,a⟩
  all_goals
   go_in
   go_wp2_with fail
   refine f.run e fun w1 b _=>?_
   go_wp2_with fail
   refine b.run i fun m d _=>?_
   have k:=d.cu.cells
   have g:=aj d
   clear d
   go_wp2
   go_ret
   exact⟨rfl,g.out.cu,g.out.gr⟩
 all_goals
  go_in
  go_wp2_with fail
  refine f.run e fun w1 b _=>?_
  go_wp2
  go_ret
  exact⟨rfl,b.cu,b.gr⟩
theorem aii{s:ByteArray}(d:Rc C 13 [.int .i64 6] c (.int .i64 1) c1)(e:Rc C 13 [.int .i64 6] c1 (.int .i64 y) c2)(f:Rc C 103 [.int .i64 y] c2 (.string s) c3):Rc C 116 [] c (.string s) c3:=by
 intro j k b
 have g:=b.cw
 clear b
 go_in
 go_wp2_with fail
 refine g.run d fun w1 h _=>?_
 go_wp2_with fail
 refine h.run e fun l i _=>?_
 go_wp2_with fail
 refine i.run f fun m a _=>?_
 go_wp2
 go_ret
 exact⟨rfl,a.cu,a.gr⟩
theorem afy(C:Cd)(c:Cr)(v:0<=c.p)(z:c.p<=800000000)(A:0<=c.r):∃s g,((Sml s/\g.r=c.r)\/(Lng s/\c.r<3/\g.r=c.r+1))/\(c.p<=g.p/\g.p<=c.p+110)/\Rc C 116 [] c (.string s) g:=by
 obtain⟨e,h,E,l,b⟩:=dc C c 6 (by decide) (by decide) v (by omega)
 rcases(show e=0\/e=1\/e=2\/e=3\/(e=4\/e=5) by omega) with d|d|d|d|d
 ·exact⟨_,h,.inl ⟨⟨by decide,qu⟩,l.2⟩,by omega,Ey b (.inl ⟨d,rfl,rfl⟩)⟩
 ·subst d
  obtain⟨j,a,t,u,f⟩:=dc C h 6 (by decide) (by decide) (by omega) (by omega)
  obtain⟨x,rfl⟩:=dv t.1
  obtain⟨s,i,B,n,k⟩:=B5 C a x (by omega) (by omega) (by omega)
  exact⟨s,i,.inl ⟨⟨by omega,(agu s).le (by omega)⟩,by omega⟩,by omega,aii b f k⟩
 ·exact⟨_,h,.inl ⟨⟨by decide,qu⟩,l.2⟩,by omega,Ey b (.inr (.inl ⟨d,rfl,rfl⟩))⟩
 ·obtain⟨j,a,t,u,f⟩:=dc C h 20 (by decide) (by decide) (by omega) (by omega)
  by_cases m:j=0
  ·by_cases o:a.r<3
   ·subst d m
    obtain⟨F,i,w,n,k⟩:=dc C ⟨a.p,a.q,a.r+1⟩ 3 (by decide) (by decide) (by show 0<=a.p;omega) (by show a.p<=_;omega)
    have y:i.p=a.p+1/\i.r=a.r+1:=n
    exact⟨_,i,.inr ⟨(dgt 9).lng (by omega) (by omega) (by rw[qv];omega),by omega,by omega⟩,by omega,aa5 b f o (by omega) k w⟩
   ·exact⟨_,a,.inl ⟨⟨by decide,qu⟩,by omega⟩,by omega,Ey b (.inr (.inr (.inr ⟨d,rfl,j,f,.inr ⟨m,o⟩⟩)))⟩
  ·exact⟨_,a,.inl ⟨⟨by decide,qu⟩,by omega⟩,by omega,Ey b (.inr (.inr (.inr ⟨d,rfl,j,f,.inl (by simpa using m)⟩)))⟩
 ·exact⟨_,h,.inl ⟨⟨by decide,qu⟩,l.2⟩,by omega,Ey b (.inr (.inr (.inl ⟨d,rfl,rfl⟩)))⟩
end
def bgC(c k:Int):Bool:=decide ((k=1/\cD c=true)\/((k=2\/k=3)/\cL c=true)\/(k=4/\c=34))
def bgT(x:ByteArray)(k:Int):Bool:=decide (x.size<=(wh k).size)&&(((wh k).extract 0 x.size).toList==x.toList)
def bgL(x:ByteArray):List Int->Bool
 |[]=>false
 |k::r=>if bgC (aG x 0) k=true then true else if bgT x k=true then true else bgL x r
def Cv(ks:List Int)(x:ByteArray):Bool:=if x.size=1/\aG x 0=45 then true else bgL x ks
structure agw (x:ByteArray) (ks:List Int) (R:Bool):Prop where
 out:bgL x ks=R
theorem Ez(w:World)(v:Value)(ks:List Int)(x:ByteArray)(q:cH w v ks)(a3:ks.length<=1000)(a0:0<x.size)(bf:x.size<=70000):
  Calls Tryz.prog 224 #[v,.string x] w fun e w'=>e= .returned (.bool (Cv ks x))/\Below w.heap.size w w':=by
 have G:=fun w=>dE a0 w
 rw[show(((0:Nat):Int))=0 from rfl]at G
 obtain⟨a7,a9,rfl⟩:=q.form
 unfold Cv
 by_cases k:x.size=1/\aG x 0=45
 ·rw[ab k]
  rw[k.2]at G
  have bk:=k.1
  clear q k
  go_in
  go_wp2_with fail
  go_ret
  exact⟨rfl,ag _ _⟩
 ·rw[aa k]
  obtain⟨y,z⟩:=aE (bgL x ks)
  rw[z]
  obtain⟨r,F⟩:=aE ks.length
  rw[F]at q a3⊢
  have t:=eJ q F
  have af:agw x (ks.drop 0) y:=⟨z⟩
  obtain⟨d,B⟩:=aE (aG x 0)
  have an:=aj B
  rw[B]at G k
  have a1:((x.size:Int)=1/\(d==45)=false)\/((x.size:Int)==1)=false:=by
   rcases Classical.em (x.size=1) with g|g
   ·exact .inl ⟨by omega,by rw[cJ];exact fun e=>k ⟨g,e⟩⟩
   ·exact .inr (by rw[cJ];omega)
  clear q F z B k
  rcases a1 with⟨p1,p2⟩|p1
  all_goals
   go_in
   go_wp2_with fail
   clear p1
   try clear p2
   go_loopw [18] (fun ad wr=>∃f:Nat,f<=r/\ad= .int .i64 f/\agw x (ks.drop f) y/\Below w.heap.size w wr) (fun ad _=>r-(intOf ad).toNat)
   case atStart=>exact⟨0,aJ _,rfl,af,ag _ _⟩
   case round=>
    obtain⟨f,bb,rfl,u,s⟩:=hrel
    clear af
    have c:=u.out
    by_cases a2:f<r
    ·have bd:(f:Int)<(r:Int):=by omega
     have bc:(0:Int)<=(f:Int):=by omega
     obtain⟨a,E⟩:=bC t.2 a2
     obtain⟨a8,rfl,ba⟩:=(t.1.below s).get E
     have C:=List.getElem?_eq_some_iff.1 E
     rw[ju C.1,C.2,bgL,an.out]at c
     have i:=aj s
     clear E C u s
     by_cases p:bgC d a=true
     ·rw[ab p]at c
      have j:=aj c
      have n:=bi p
      clear c p
      rcases n with⟨rfl,b⟩|⟨rfl|rfl,b⟩|⟨rfl,rfl⟩
      ·go_wp2_with (go_at_call 180;refine(ip b _).mono ?_;rintro e w' ⟨rfl,o⟩;subst w')
       go_ret
       exact⟨by rw[<-j.out];rfl,i⟩
      ·go_wp2_with (go_at_call 178;refine(di b _).mono ?_;rintro e w' ⟨rfl,o⟩;subst w')
       go_ret
       exact⟨by rw[<-j.out];rfl,i⟩
      ·go_wp2_with (go_at_call 178;refine(di b _).mono ?_;rintro e w' ⟨rfl,o⟩;subst w')
       go_ret
       exact⟨by rw[<-j.out];rfl,i⟩
      ·go_wp2_with fail
       go_ret
       exact⟨by rw[<-j.out];rfl,i⟩
     ·rw[aa p]at c
      have n:¬((a=1/\cD d=true)\/((a=2\/a=3)/\cL d=true)\/(a=4/\d=34)):=fun h=>p (bB h)
      have ak:(a=1/\cD d=false)\/(a=2/\cL d=false)\/(a=3/\cL d=false)\/(a=4/\(d==34)=false)\/((a==1)=false/\(a==2)=false/\(a==3)=false/\(a==4)=false):=by
       by_cases H:a=1
       ·refine .inl ⟨H,?_⟩
        cases h:cD d with
        |false=>rfl
        |true=>exact absurd (.inl ⟨H,h⟩) n
       by_cases I:a=2
       ·refine .inr (.inl ⟨I,?_⟩)
        cases h:cL d with
        |false=>rfl
        |true=>exact absurd (.inr (.inl ⟨.inl I,h⟩)) n
       by_cases J:a=3
       ·refine .inr (.inr (.inl ⟨J,?_⟩))
        cases h:cL d with
        |false=>rfl
        |true=>exact absurd (.inr (.inl ⟨.inr J,h⟩)) n
       by_cases K:a=4
       ·exact .inr (.inr (.inr (.inl ⟨K,beq_eq_false_iff_ne.2 fun h=>n (.inr (.inr ⟨K,h⟩))⟩)))
       ·exact .inr (.inr (.inr (.inr ⟨beq_eq_false_iff_ne.2 H,beq_eq_false_iff_ne.2 I,beq_eq_false_iff_ne.2 J,beq_eq_false_iff_ne.2 K⟩)))
      have L:=fun w=>ya a w
      unfold bgT at c
      generalize wh a=l at L c
      clear n p
      by_cases m:(decide (x.size<=l.size)&&((l.extract 0 x.size).toList==x.toList))=true
      ·rw[ab m]at c
       have j:=aj c
       rw[dr]at m
       obtain⟨al,a5⟩:=m
       have t3:(x.size:Int)<=(l.size:Int):=by have:=bi al;omega
       clear c al
       rcases ak with⟨rfl,b⟩|⟨rfl,b⟩|⟨rfl,b⟩|⟨rfl,b⟩|⟨ao,ap,ar,av⟩
       all_goals
        go_wp2_with (first|(go_at_call 180;refine(ip b _).mono ?_;rintro e w' ⟨rfl,o⟩;subst w')|(go_at_call 178;refine(di b _).mono ?_;rintro e w' ⟨rfl,o⟩;subst w')|(go_at_call 155;refine(L _).mono ?_;rintro e a6 ⟨rfl,A⟩))
        go_ret
        exact⟨by rw[<-j.out];rfl,i.out.trans (A.mono i.size)⟩
      ·rw[aa m]at c
       have am:agw x (ks.drop (f+1)) y:=⟨c⟩
       clear c
       have a4:(x.size:Int)<=(l.size:Int)/\((l.extract 0 x.size).toList==x.toList)=false\/¬(x.size:Int)<=(l.size:Int):=by
        rcases ci l.size x.size with g|g
        ·exact .inr (by omega)
        ·refine .inl ⟨by omega,?_⟩
         rw[bB g,ez]at m
         simpa using m
       clear m
       rcases a4 with⟨t3,a5⟩|t3
       all_goals
        rcases ak with⟨rfl,b⟩|⟨rfl,b⟩|⟨rfl,b⟩|⟨rfl,b⟩|⟨ao,ap,ar,av⟩
        all_goals
         go_wp2_with (first|(go_at_call 180;refine(ip b _).mono ?_;rintro e w' ⟨rfl,o⟩;subst w')|(go_at_call 178;refine(di b _).mono ?_;rintro e w' ⟨rfl,o⟩;subst w')|(go_at_call 155;refine(L _).mono ?_;rintro e a6 ⟨rfl,A⟩))
         exact⟨⟨f+1,by omega,by go_num,am,i.out.trans (A.mono i.size)⟩,by simp[intOf];omega⟩
    ·obtain rfl:f=r:=by omega
     rw[oJ (by rw[t.out.2];exact ah _),bgL]at c
     have j:=aj c
     clear c u
     go_wp2_with fail
     go_ret
     exact⟨by rw[<-j.out];rfl,s⟩
def aa6(s:ByteArray)(p n:Nat):Bool:=cD (aG s p)&&(!(cD (lk s (p+n)))&&!(cL (lk s (p+n))))
def wrL(s:ByteArray)(p:Nat)(ks:List Int):Nat->Nat->Nat
 |0,n=>n
 |f+1,n=>if p+n<s.size/\Cv ks (s.extract p (p+n+1))=true then(if aa6 s p (n+1)=true then n+1 else wrL s p ks f (n+1)) else n
def wrongF(s:ByteArray)(p:Nat)(ks:List Int):Nat:=p+wrL s p ks (s.size+1) 0
structure aa7 (s:ByteArray) (p:Nat) (ks:List Int) (f n R:Nat):Prop where
 out:wrL s p ks f n=R
theorem vG(w:World)(s:ByteArray)(p:Nat)(v:Value)(ks:List Int)(g:cH w v ks)(K:ks.length<=1000)(bc:s.size<=70000)(a5:p<s.size):
  Calls Tryz.prog 195 #[.string s,.int .i64 p,v] w fun e w'=>e= .returned (.int .i64 (wrongF s p ks))/\Below w.heap.size w w':=by
 have a6:=fun w=>dE a5 w
 obtain⟨H,I,rfl⟩:=g.form
 unfold wrongF
 obtain⟨j,u⟩:=aE (wrL s p ks (s.size+1) 0)
 rw[u]
 obtain⟨af,B⟩:=aE ks.length
 have E:Hid (cH w (.slice H af I) ks/\ks.length<=1000):=⟨by rw[<-B];exact g,K⟩
 have F:aa7 s p ks (s.size+1) 0 j:=⟨u⟩
 rw[B]
 obtain⟨ap,A⟩:=aE (aG s p)
 have al:=aj A
 rw[A]at a6
 have bd:(p:Int)<(s.size:Int):=by omega
 clear g K u A B
 go_in
 go_wp2_with fail
 go_loopw [7] (fun C wr=>∃(a d:Nat),p+a<=s.size/\s.size<p+a+d/\C= .int .i64 a/\aa7 s p ks d a j/\Below w.heap.size w wr) (fun C _=>s.size+1-(intOf C).toNat)
 case atStart=>exact⟨0,s.size+1,by omega,by omega,rfl,F,ag _ _⟩
 case round=>
  obtain⟨a,d,ba,a9,rfl,n,k⟩:=hrel
  clear F
  obtain⟨d,rfl⟩:∃a1,d=a1+1:=⟨d-1,by omega⟩
  have b:=n.out
  rw[wrL]at b
  by_cases L:p+a<s.size
  ·have a4:(p:Int)+(a:Int)<(s.size:Int):=by omega
   have bb:(0:Int)<=(p:Int)+(a:Int):=by omega
   have ad:(s.extract p (p+a+1)).size=a+1:=by rw[lj];omega
   have l:=fun (G:World) (a2:Below w.heap.size w G)=>Ez G (.slice H af I) ks (s.extract p (p+a+1)) (E.1.below a2) E.2 (by omega) (by omega)
   have ar:(p:Int)+(a:Int)+1<=(s.size:Int):=by omega
   have av:IntKind.i64.wrap ((p:Int)+(a:Int)+1)=(p:Int)+(a:Int)+1:=by rw[bm];omega
   have a0:((p:Int)+(a:Int)+1).toNat=p+a+1:=by omega
   have c:=aj k
   obtain⟨ak,t⟩:=aE (Cv ks (s.extract p (p+a+1)))
   rw[t]at l b
   have a3:=c.out
   cases ak with
   |false=>
    rw[aa (fun g=>by cases g.2)]at b
    have f:=aj b
    clear b n k t ad
    go_wp2_with fail
    refine dG (l _ c) fun a7 h=>?_
    clear l
    go_wp2_with fail
    go_ret
    exact⟨by first|(rw[<-f.out,sE];rfl)|(rw[<-f.out];rfl),c.out.trans (h.mono c.size)⟩
   |true=>
    rw[ab ⟨L,rfl⟩]at b
    unfold aa6 at b
    rw[al.out]at b
    have m:=fun w=>fs s (by omega) ((p:Int)+((a:Int)+1)) (p+(a+1)) (by omega) w
    generalize lk s (p+(a+1))=J at m b
    obtain⟨am,x⟩:=aE (cD ap)
    obtain⟨an,y⟩:=aE (cD J)
    obtain⟨ao,z⟩:=aE (cL J)
    rw[x,y,z]at b
    have q:=fun w=>ip x w
    have r:=fun w=>ip y w
    have o:=fun w=>di z w
    have a8:=aj k
    clear x y z n k t ad a3
    go_wp2_with fail
    refine dG (l _ c) fun a7 h=>?_
    clear l ar av a0
    cases am with
    |false=>
     have i:aa7 s p ks d (a+1) j:=⟨b⟩
     clear b r o m
     go_wp2_with (first|(go_at_call 180;with_reducible refine dj (q _) ?_))
     exact⟨⟨a+1,d,by omega,by omega,by go_num,i,c.out.trans (h.mono c.size)⟩,by simp[intOf];omega⟩
    |true=>
     cases an with
     |true=>
      have i:aa7 s p ks d (a+1) j:=⟨b⟩
      clear b o
      go_wp2_with (first|(go_at_call 180;with_reducible refine dj (q _) ?_)|(go_at_call 180;with_reducible refine dj (r _) ?_)|(go_at_call 223;refine dj (m _) ?_))
      exact⟨⟨a+1,d,by omega,by omega,by go_num,i,c.out.trans (h.mono c.size)⟩,by simp[intOf];omega⟩
     |false=>
      cases ao with
      |true=>
       have i:aa7 s p ks d (a+1) j:=⟨b⟩
       clear b
       go_wp2_with (first|(go_at_call 180;with_reducible refine dj (q _) ?_)|(go_at_call 180;with_reducible refine dj (r _) ?_)|(go_at_call 178;refine dj (o _) ?_)|(go_at_call 223;refine dj (m _) ?_))
       exact⟨⟨a+1,d,by omega,by omega,by go_num,i,c.out.trans (h.mono c.size)⟩,by simp[intOf];omega⟩
      |false=>
       have f:=aj b
       clear b
       go_wp2_with (first|(go_at_call 180;with_reducible refine dj (q _) ?_)|(go_at_call 180;with_reducible refine dj (r _) ?_)|(go_at_call 178;refine dj (o _) ?_)|(go_at_call 223;refine dj (m _) ?_))
       go_ret
       exact⟨by first|(rw[<-f.out,sE,sE];rfl)|(rw[<-f.out,sE];rfl)|(rw[<-f.out];rfl),c.out.trans (h.mono c.size)⟩
  ·rw[aa (fun g=>L g.1)]at b
   have f:=aj b
   have a4:¬(p:Int)+(a:Int)<(s.size:Int):=by omega
   clear b n
   go_wp2_with fail
   go_ret
   exact⟨by first|(rw[<-f.out,sE];rfl)|(rw[<-f.out];rfl),k⟩
def yA(S:List Int):List Int->Int->Option Int
 |[],a=>some a
 |k::r,a=>if k=a-1/\S.getD k.toNat 0≠0 then yA S r (a-S.getD k.toNat 0) else none
def py(S:List Int)(i:Nat)(ks:List Int):Int:=match yA S ks.reverse i with|some a=>(i:Int)-a+1|none=>0
def gE(c:List Nd):List Int:=c.foldl (fun a b=>a++[py a a.length b.ks]) []
theorem pz(a:List Nd)(N:Nd):gE (a++[N])=gE a++[py (gE a) (gE a).length N.ks]:=by simp[gE]
theorem xu{α:Type}{p:List α->Prop}(h0:p [])(h1:∀a x,p a->p (a++[x]))(l:List α):p l:=by
 rw[<-List.reverse_reverse l]
 induction l.reverse with
 |nil=>exact h0
 |cons x r ih=>rw[List.reverse_cons];exact h1 _ x ih
theorem ie:∀(a:List Nd),(gE a).length=a.length:=by
 intro a
 refine xu (p:=fun a=>(gE a).length=a.length) rfl (fun d c b=>?_) a
 rw[pz];simp[b]
structure agx (S:List Int) (l:List Int) (a:Int) (R:Option Int):Prop where
 out:yA S l a=R
def yB(S:List Int):Prop:=∀(a:Nat) z,S[a]?=some z->0<=z/\z<=(a:Int)+1
theorem aa8{S:List Int}(hS:yB S):∀(l:List Int)(a b:Int),(∀k∈l,0<=k)->0<=a->yA S l a=some b->0<=b/\b<=a
 |[],a,b,_,g,c=>by simp[yA]at c;omega
 |k::r,a,b,e,g,c=>by
  rw[yA]at c
  split at c
  ·rename_i h
   have i:=e k (by simp)
   have f:0<=S.getD k.toNat 0/\S.getD k.toNat 0<=k+1:=by
    rw[aL]
    cases hs:S[k.toNat]? with
    |none=>simp;omega
    |some d=>have:=hS _ d hs;simp;omega
   have:=aa8 hS r _ b (fun d f=>e d (by simp[f])) (by omega) c
   omega
  ·cases c
theorem aea{S:List Int}(hS:yB S)(i:Nat)(ks:List Int)(b:∀k∈ks,0<=k):0<=py S i ks/\py S i ks<=(i:Int)+1:=by
 unfold py
 cases h:yA S ks.reverse i with
 |none=>simp;omega
 |some a=>
  have:=aa8 hS ks.reverse i a (fun k c=>b k (by simpa using c)) (by omega) h
  simp;omega
theorem uE(b:List Nd):(∀N∈b,∀k∈N.ks,0<=k)->yB (gE b):=by
 refine xu (p:=fun b=>(∀N∈b,∀k∈N.ks,0<=k)->yB (gE b)) (fun _ c i a=>by simp[gE]at a) (fun d N o f=>?_) b
 have h:=o (fun j m=>f j (by simp[m]))
 intro c i a
 rw[pz]at a
 rcases ci c (gE d).length with g|g
 ·rw[gL g]at a;exact h c i a
 ·rw[gq g]at a
  obtain⟨l,e⟩:=List.getElem?_eq_some_iff.1 a
  simp at l e
  subst e
  obtain rfl:c=(gE d).length:=by omega
  exact aea h _ _ (fun k n=>f N (by simp) k n)
theorem A8(a:List Int)(n k:Nat)(z:Int)(b:a.length=k)(d:k<n):(a.map (Value.int .i64)++List.replicate (n-k) (Value.int .i64 0)).set k (.int .i64 z)=(a++[z]).map (Value.int .i64)++List.replicate (n-(k+1)) (Value.int .i64 0):=by
 have c:(a.map (Value.int .i64)).length=k:=by rw[aI,b]
 rw[BB _ _ (by omega),c,fw,show n-k=(n-(k+1))+1 by omega,List.replicate_succ,aA]
 simp
theorem EA(w:World)(v:Value)(b:List Nd)(ap:dK w v b)(cd:b.length<=3000)(G:∀N∈b,N.ks.length<=1048576)(r:∀(i:Nat) N,b[i]?=some N->∀k∈N.ks,0<=k/\k<(i:Int)):
  Calls Tryz.prog 19 #[.agg #[v]] w fun e w'=>∃g,e= .returned (.slice (some ⟨g,0,none⟩) b.length b.length)/\w'.ownsRow w.heap.size 3 1 (.slice (some ⟨g,0,none⟩) b.length b.length) b.length ((gE b).map (Value.int .i64))/\Below w.heap.size w w':=by
 obtain⟨E,F,rfl⟩:=ap.form
 obtain⟨a,L⟩:=aE b.length
 have af:=aj L
 have bF:Hid (dK w (.slice E a F) b):=by rw[<-L];exact ap
 have am:Hid ((∀N∈b,N.ks.length<=1048576)/\(∀(i:Nat) N,b[i]?=some N->∀k∈N.ks,0<=k/\k<(i:Int))/\∀k,yB (gE (b.take k))):=⟨G,r,fun k=>uE _ (fun N G ba l=>by
  obtain⟨i,a3,e⟩:=gh (sG G)
  exact(r i N (by rw[aF a3,e]) ba l).1)⟩
 rw[L]at cd⊢
 clear ap L G r
 obtain⟨cm,a3,ce,cg,cl⟩:=dD rh
 go_in
 go_wp2_with (at_make;refine xh _ rfl _ _ 31 rfl w.heap.size 3 cm (.int .i64 0) 1 Tryz.underlying31 a3 ce cg .i64 .i64 _ _ a rfl rfl rfl rfl (by rw[cl];omega) (by unfold maxLen;omega) (by simp) ?_;intro bE a6 q;have a1:Below (w.alloc (.cells #[.slice E a F] 25)).heap.size (w.alloc (.cells #[.slice E a F] 25)) bE:=⟨q.os,q.tape,q.output,q.size,fun k r=>q.block k r (by simp)⟩;have zc:bE.cell? ⟨w.heap.size,0,none⟩=some (.slice E a F):=by {rw[au _ _ _ _ _ _ ((a1.block _ (by simp)).trans (ay w _))];rfl})
 have bf:=((ag _ w).alloc (ah _) _).trans (a1.mono (by simp))
 rw[db,show(madeCells (Value.int .i64 0).cells (a*1)).toList=List.replicate a (Value.int .i64 0) by rw[oL];exact sC _ a]at a6
 clear zc a1 q
 go_loopw [17] (fun a8 wr=>∃k:Nat,k<=a/\a8= .int .i64 k/\Hid (wr.ownsRow w.heap.size 3 1 (.slice (some ⟨w.heap.size+1,0,none⟩) a a) a ((gE (b.take k)).map (Value.int .i64)++List.replicate (a-k) (.int .i64 0)))/\Below w.heap.size w wr) (fun a8 _=>a-(intOf a8).toNat)
 case atStart=>exact⟨0,aJ _,rfl,a6,bf⟩
 case round=>
  obtain⟨k,r,rfl,A,y⟩:=hrel
  clear a6 bf
  by_cases bw:k<a
  ·obtain⟨N,z⟩:=bC af.out bw
   have cc:=am.1 N (bJ z)
   have bv:=am.2.1 k N z
   have a5:=am.2.2 k
   obtain⟨cr,rfl,dz,ds,ca⟩:=(bF.below y).get z
   obtain⟨b2,b3,b4,b5,b6,b7,b8,bk,bl,bx,a4⟩:=ca
   obtain⟨cs,cu,rfl⟩:=bx.form
   obtain⟨bd,bn,rfl⟩:=a4.form
   obtain⟨d,H⟩:=aE (gE (b.take k))
   have a0:d.length=k:=by rw[<-H,ie,dt,af.out];omega
   have bA:gE (b.take (k+1))=d++[py d k N.ks]:=by
    rw[gv,z]
    show gE (b.take k++[N])=_
    rw[pz,H,a0]
   rw[H]at A a5
   obtain⟨p,x⟩:=aE N.ks.length
   rw[x]at bl cc
   have bt:cH wr (.slice bd p bn) N.ks:=by rw[<-x];exact a4
   have j:=ah8 x bt bv a5 a0 bA
   have an:agx d (N.ks.take p).reverse k (yA d N.ks.reverse k):=⟨by rw[<-x,xe]⟩
   obtain⟨bc,ar⟩:=aE (yA d N.ks.reverse k)
   rw[ar]at an
   have bb:=aj ar
   generalize N.nm.length=cq at bk
   clear z bx a4 bt bv a5 a0 bA H x ar
   go_wp2_with fail
   generalize br:wr.alloc _=C
   obtain⟨bo,I, -⟩:=al1 br
   replace bo:C.cell? ⟨wr.heap.size,8,none⟩=some (.slice bd p bn):=(au _ _ _ _ _ _ bo).trans rfl
   have ad:=cF A.out I
   clear br
   have b0:=j.2.1.below I
   have al:=aj ad
   have a2:=y.trans (I.mono y.size)
   have c9:=ad.frozenAt k
   have cz:C.cell? ⟨w.heap.size+1,k,none⟩=some (.int .i64 0):=by
    rw[ad.cellAt k (by omega),gq (by rw[aI,j.out.2.2.2.2.1];exact ah _),aI,j.out.2.2.2.2.1,fw,By,ab (by omega)]
   clear A ad b2 b3 b4 b5 b6 b7 b8 bk bl y I
   go_loop [6,7,8] (fun cn cp a9=>∃(f:Nat) (h:Int),cn= .int .i64 h/\cp= .bool true/\a9= .int .i64 ((f:Int)-1)/\f<=p/\0<=h/\h<=(k:Int)/\agx d (N.ks.take f).reverse h bc) (fun _ _ a9=>(intOf a9+1).toNat)
   case atStart=>exact⟨p,k,rfl,rfl,rfl,ah _,by omega,by omega,an⟩
   case round=>
    obtain⟨f,h,rfl,rfl,rfl,dd,cw,cx,t⟩:=hrel
    clear an
    have c:=t.out
    cases f with
    |zero=>
     have l:py d k N.ks=(k:Int)-h+1:=by
      unfold py
      rw[bb.out]
      rw[Bp,List.reverse_nil,yA]at c
      rw[<-c]
     have ao:=aj l
     have a7:=(al.stored k (.int .i64 ((k:Int)-h+1))).1
     rw[A8 d a k _ j.out.2.2.2.2.1 bw]at a7
     have B:=aj a7
     clear c t l a7
     go_wp2_with fail
     refine⟨⟨k+1,by omega,by go_num,?_,a2.setCell (by simp) _⟩,by simp[intOf];omega⟩
     show World.ownsRow _ _ _ _ _ _ _
     rw[j.out.2.2.2.2.2,ao.out]
     exact B
    |succ f=>
     obtain⟨ba,l⟩:=bC j.1 (show f<p by omega)
     obtain⟨ct,cb,cI⟩:=b0.get l
     subst cb
     obtain⟨cf,dn⟩:=j.2.2.1 ba (bJ l)
     rw[gv,l]at c
     simp only[BG,List.reverse_append,List.reverse_cons,List.reverse_nil,er,List.singleton_append]at c
     rw[yA]at c
     obtain⟨m,rfl⟩:=dv cf
     have bD:m<k:=by omega
     obtain⟨o,s⟩:=bC j.2.2.2.2.1 bD
     have cy:=j.2.2.2.1 m o s
     have cB:C.cell? ⟨w.heap.size+1,m,none⟩=some (.int .i64 o):=by
      rw[al.out.cellAt m (by omega),gL (by rw[aI,j.out.2.2.2.2.1];exact bD),bq,s];rfl
     have K:d.getD m 0=o:=by rw[aL,s];rfl
     simp only[mH,K]at c
     have b9:(((f+1:Nat)):Int)-1=(f:Int):=by omega
     rw[b9]
     have df:(0:Int)<=(f:Int):=by omega
     have dg:(f:Int)<(p:Int):=by omega
     have dk:(m:Int)<(a:Int):=by omega
     by_cases n:(m:Int)=h-1/\o≠0
     ·rw[ab n]at c
      have b1:agx d (N.ks.take f).reverse (h-o) bc:=⟨c⟩
      have bs:=n.2
      have J:=n.1
      clear c t l s K n
      obtain rfl:h=(m:Int)+1:=by omega
      clear J
      go_wp2_with fail
      go_round
      case rel=>exact⟨f,(m:Int)+1-o,by go_num,rfl,by go_num,by omega,by omega,by omega,b1⟩
      case measure=>simp[intOf]
     ·rw[aa n]at c
      have ao:Hid (py d k N.ks=0):=by
       show py d k N.ks=0
       unfold py
       rw[bb.out,<-c]
      have B:Hid (C.ownsRow w.heap.size 3 1 (.slice (some ⟨w.heap.size+1,0,none⟩) a a) a ((gE (b.take (k+1))).map (Value.int .i64)++List.replicate (a-(k+1)) (.int .i64 0))):=by
       have u:=al.out
       show World.ownsRow _ _ _ _ _ _ _
       rw[j.out.2.2.2.2.2,ao.out,dm]
       rw[show a-k=(a-(k+1))+1 by omega,List.replicate_succ]at u
       rw[cG]
       exact u
      by_cases J:(m:Int)=h-1
      ·have bs:o=0:=by
        rcases Int.lt_trichotomy o 0 with g|g|g
        ·omega
        ·exact g
        ·exact absurd ⟨J,by omega⟩ n
       subst bs
       clear c t l s K n
       obtain rfl:h=(m:Int)+1:=by omega
       clear J
       go_wp2_with fail
       exact⟨⟨k+1,by omega,by go_num,B,a2⟩,by simp[intOf];omega⟩
      ·clear c t l s K n
       go_wp2_with fail
       exact⟨⟨k+1,by omega,by go_num,B,a2⟩,by simp[intOf];omega⟩
  ·obtain rfl:k=a:=by omega
   go_wp2_with fail
   go_ret
   refine⟨_,rfl,?_,y⟩
   have u:=A.out
   rw[bH (by rw[af.out];exact ah _),fw,List.replicate_zero,dA]at u
   exact u
