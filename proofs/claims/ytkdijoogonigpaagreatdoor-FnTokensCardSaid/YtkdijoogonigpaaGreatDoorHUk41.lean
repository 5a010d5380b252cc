import Derived.Test.YtkdijoogonigpaaGreatDoorHUk34
import Derived.Test.YtkdijoogonigpaaGreatDoorHUk38
import Derived.Test.YtkdijoogonigpaaGreatDoorHUk40
set_option linter.all false
set_option maxRecDepth 100000
set_option maxHeartbeats 3200000
open Bool renaming true->M,false->N
open Go.Ending renaming returned->O
open Go.Value renaming string->Q,int->U
open Go.Proofs.Tryz renaming prog->R
open Go.RowKit renaming Below->S
open Go renaming Calls->T,World->X
namespace Go.Proofs.YtkdijoogonigpaaGreatDoor
open Go.RowKit Go.Maps Go.WideMaps
section
variable {E : Bs} {W : World} {y : Int}
theorem Cu.went{b:X}{z:Int}(a:Cu E W y)(d:W.grownBy b (some E.cb)){p q r:Int}(h:dv E.cb b E.a0 E.len E.cap p q r)(e:0<=p/\p<=z)(i:0<=r/\r<=3/\(E.g:Int)<=r):Cu E b z/\Kb W b/\S E.base W b:=by
 obtain⟨j,k,l,f,_⟩:=a.cur;have c:=jr d a.lo.1 a.lo.2;exact⟨⟨⟨a.lo.1,bA a.lo.2 c.size⟩,a.hl,a.code.below c,p,q,r,h,e.1,e.2,i⟩,Kb.grown d f (.inr (.inr rfl)),c⟩
theorem Cu.long(a:Cu E W y){p q r:Int}(d:dv E.cb W E.a0 E.len E.cap p q r)(c:0<=p/\p<=y)(f:0<=r/\r<3/\(E.g:Int)<=r):Cu {E with g:=E.g+1} (W.setCell ⟨E.cb,3,none⟩ (U .i64 (r+1))) y/\S E.base W (W.setCell ⟨E.cb,3,none⟩ (U .i64 (r+1))):=by
 have e:=pI (lH W E.cb) 3 (U .i64 (r+1));have b:=jr e a.lo.1 a.lo.2;exact⟨⟨⟨a.lo.1,bA a.lo.2 b.size⟩,a.hl,a.code.below b,p,q,r+1,d.set3 (r+1),c.1,c.2,by omega,by omega,by show((E.g+1:Nat):Int)<=r+1;omega⟩,b⟩
theorem acu(a:Cu E W y)(k:Int)(w:1<=k)(o:k<=100000)(x:y<=800000000):
  T R 9 #[cV E,U .i64 k] W fun e b=>∃z:Int,e= O (U .i64 z)/\(0<=z/\z<k)/\Cu E b (y+2)/\Kb W b/\S E.base W b:=by
 by_cases h:k=1
 ·subst h;go_in;go_wp2;go_ret;exact⟨0,rfl,by decide,a.wide (by omega),Kb.refl _,aq _ _⟩
 by_cases i:k<=200
 ·refine(fv a k (by omega) i (by omega)).mono ?_;rintro e b ⟨z,rfl,q,c,n,j⟩;exact⟨z,rfl,q,c.wide (by omega),n,j⟩
 ·obtain⟨r,t,u,c,s,A,p⟩:=a.cur;refine(tE k (by omega) o E.cb E.base W E.a0 E.len E.cap r t u a.lo.1 a.lo.2 c a.code s (by omega) a.hl).mono ?_;rintro e b ⟨z,z0,v,rfl,B,l,m⟩;obtain⟨d,f,g⟩:=a.went (z:=y+2) m l (by omega) p;exact⟨z,rfl,⟨z0,v⟩,d,f,g⟩
theorem D4(a:Cu E W y)(n:Int)(k:0<=n)(t:n<=100)(v:y<=800000000):
  T R 30 #[cV E,U .i64 n] W fun e b=>∃s:ByteArray,e= O (Q s)/\(s.size:Int)<=n/\Cu E b (y+100)/\Kb W b/\S E.base W b:=by
 obtain⟨m,rfl⟩:=fe k;obtain⟨o,q,r,g,p,A,l⟩:=a.cur;refine(xw m (by omega) E.cb E.base W E.a0 E.len E.cap o q r a.lo.1 a.lo.2 g a.code p (by omega) a.hl).mono ?_;rintro e b ⟨s,u,i,w,C,x,B,h,j⟩;obtain⟨c,d,f⟩:=a.went (z:=y+100) j h (by omega) l;exact⟨s,i,by omega,c,d,f⟩
theorem aef(m:Cu E W y)(f:y<=700000000):
  T R 32 #[cV E] W fun e q=>∃n:Int,e= O (U .i64 n)/\(-9223372036854775808<=n/\n<=9223372036854775807)/\Cu E q (y+10)/\S E.base W q:=by
 have p:=fv m 6 (by decide) (by decide) (by omega);go_in;go_wp2_with fail;refine p.mono ?_;rintro e w1 ⟨a,rfl,x,j,_,o⟩;have d:=ar o;clear o p m;have h:=fv j 3 (by decide) (by decide) (by omega);have g:=fv j 12 (by decide) (by decide) (by omega);have i:=acu j 70000 (by decide) (by decide) (by omega);rcases(show a=0\/a=1\/a=2\/(a≠0/\a≠1/\a≠2) by omega) with rfl|rfl|rfl|⟨r,s,t⟩
 ·clear g i;go_wp2_with fail;refine h.mono ?_;rintro e l ⟨y,rfl,f,b,_,c⟩;have k:IntKind.i64.wrap (9223372036854775807-y)=9223372036854775807-y:=by rw[cB];omega
  go_wp2_with fail;go_ret;exact⟨_,rfl,by omega,b.wide (by omega),d.out.trans c⟩
 ·clear g i;go_wp2_with fail;refine h.mono ?_;rintro e l ⟨y,rfl,f,b,_,c⟩;have k:IntKind.i64.wrap (-9223372036854775808+y)= -9223372036854775808+y:=by rw[cB];omega
  go_wp2_with fail;go_ret;exact⟨_,rfl,by omega,b.wide (by omega),d.out.trans c⟩
 ·clear g h;go_wp2_with fail;refine i.mono ?_;rintro e l ⟨y,rfl,f,b,_,c⟩;have k:IntKind.i64.wrap (y-35000)=y-35000:=by rw[cB];omega
  go_wp2_with fail;go_ret;exact⟨_,rfl,by omega,b.wide (by omega),d.out.trans c⟩
 ·clear i h;have u:(a==0)=N:=by simpa using r
  have v:(a==1)=N:=by simpa using s
  have w:(a==2)=N:=by simpa using t
  go_wp2_with fail;refine g.mono ?_;rintro e l ⟨y,rfl,f,b,_,c⟩;have k:IntKind.i64.wrap (y-3)=y-3:=by rw[cB];omega
  go_wp2_with fail;go_ret;exact⟨_,rfl,by omega,b.wide (by omega),d.out.trans c⟩
theorem Cu.g3(a:Cu E W y):E.g<=3:=by
 obtain⟨b,c,d,_,_,_,e,f,h⟩:=a.cur;omega
def DrP(E:Bs)(W:X)(a:Nat)(y:Int)(e:Ending)(d:X):Prop:=
 ∃(c:ByteArray) (b:Nat),e= O (Q c)/\E.g<=b/\uT c+8010*E.g<=a+8010*b/\Cu {E with g:=b} d y/\S E.base W d
theorem drp{b:X}{t:ByteArray}{a:Nat}{z:Int}(e:uT t<=a)(d:Cu E b z)(c:S E.base W b):DrP E W a z (O (Q t)) b:=⟨t,E.g,rfl,ag _,by omega,d,c⟩
end
section
variable {E : Bs} {W : World} {y : Int}
theorem agD(u:Cu E W y)(bf:y<=700000000):
  T R 35 #[cV E] W fun e J=>∃(s:ByteArray) (m:Nat),e= O (Q s)/\((s.size<=9/\m=E.g)\/(Lng s/\m=E.g+1))/\Cu {E with g:=m} J (y+200)/\S E.base W J:=by
 have H:=fv u 6 (by decide) (by decide) (by omega);go_in;go_wp2_with fail;refine H.mono ?_;rintro e w1 ⟨h,rfl,bl,l,_,w⟩;have a:=cH l w;clear w H u;rcases(show h=0\/h=1\/h=2\/h=3\/h=4\/h=5 by omega) with rfl|rfl|rfl|rfl|rfl|rfl
 ·go_wp2;go_ret;exact⟨_,E.g,rfl,.inl ⟨by decide,rfl⟩,a.out.1.wide (by omega),a.out.2⟩
 ·have j:=fv l 6 (by decide) (by decide) (by omega);go_wp2_with fail;refine j.mono ?_;rintro e av ⟨c,rfl,F,f,_,i⟩;have ak:=D4 f c (by omega) (by omega) (by omega);have d:=ar i;clear i j;go_wp2_with fail;refine ak.mono ?_;rintro e br ⟨s,rfl,bb,K,_,L⟩;go_wp2;go_ret;exact⟨_,E.g,rfl,.inl ⟨by omega,rfl⟩,K.wide (by omega),(a.out.2.trans d.out).trans L⟩
 ·go_wp2;go_ret;exact⟨_,E.g,rfl,.inl ⟨by decide,rfl⟩,a.out.1.wide (by omega),a.out.2⟩
 ·have j:=fv l 20 (by decide) (by decide) (by omega);go_wp2_with fail;refine j.mono ?_;rintro e av ⟨c,rfl,F,f,_,i⟩;have d:=cH f (a.out.2.trans i);clear i j l;obtain⟨bn,bo,o,z,al,am,an,bp,ap⟩:=f.cur;obtain⟨a0,a1,a2,a3,a4,a5,a6⟩:=oK z;by_cases G:c=0
  ·subst G;by_cases af:o<3
   ·have n:=f.long z ⟨al,am⟩ ⟨an,af,ap⟩;have q:=cH n.1 n.2;clear n f;have bd:IntKind.i64.wrap (o+1)=o+1:=by rw[cB];omega
    go_wp2_with fail;go_loop [3] (fun p=>∃b:ByteArray,p= Q b/\Hw b.size/\DgT b) (fun p=>6000-acI p)
    case atStart=>exact⟨_,rfl,.inl rfl,afy⟩
    case round=>
     obtain⟨b,rfl,C,A⟩:=hrel;have k:=ar C;have t:=ar A;clear C A;by_cases B:b.size<4000
     ·go_wp2;go_round
      case rel=>exact⟨_,rfl,xy k.out B,t.out.twice⟩
      case measure=>have a7:=EB k.out;show 6000-(b++b).size<6000-b.size;rw[ae];omega
     ·have a8:4001<=b.size:=Ez k.out B;have a9:b.size<=5120:=EA k.out;have I:=fv q.out.1 3 (by decide) (by decide) (by omega);go_wp2_with fail;refine I.mono ?_;rintro e bs ⟨c,rfl,F,v,_,x⟩;have r:=cH v ((d.out.2.trans q.out.2).trans x);clear v x I;rcases(show c=0\/c=1\/c=2 by omega) with rfl|rfl|rfl;all_goals
       go_wp2;go_ret;exact⟨_,E.g+1,rfl,.inr ⟨t.out.lng (by omega) (by omega) (by omega),rfl⟩,r.out.1.wide (by omega),r.out.2⟩
   ·go_wp2;go_ret;exact⟨_,E.g,rfl,.inl ⟨by decide,rfl⟩,d.out.1.wide (by omega),d.out.2⟩
  ·have bj:(c==0)=N:=by simp[G]
   go_wp2;go_ret;exact⟨_,E.g,rfl,.inl ⟨by decide,rfl⟩,d.out.1.wide (by omega),d.out.2⟩
 ·go_wp2;go_ret;exact⟨_,E.g,rfl,.inl ⟨by decide,rfl⟩,a.out.1.wide (by omega),a.out.2⟩
 ·go_wp2;go_ret;exact⟨_,E.g,rfl,.inl ⟨by decide,rfl⟩,a.out.1.wide (by omega),a.out.2⟩
theorem aeg(s:ByteArray):uT (co (bG s))=2*(bG s).length:=by
 have d:∀c,c<(co (bG s)).size->uw (ao (co (bG s)) c)=2:=fun c b=>by
  rw[kF]at b;rw[og _ (fun h e=>by have:=mD s h e;omega),aF b];have:=mD s _ (lG b);unfold uw;simp only[ga];rw[ab (by omega)]
 have g:∀a,a<=(co (bG s)).size->uS (co (bG s)) 0 a=2*a:=by
  intro a
  induction a with
  |zero=>intro _;rfl
  |succ a f=>intro i;rw[uS,f (by omega),fm,d a (by omega)];omega
 unfold uT uR;rw[ng,g _ (ag _),kF]
theorem abB(s:ByteArray):(bG s).length<=4*s.size+2:=by
 unfold bG qt;simp only[aH,db,gH,List.length_flatMap];have:∀a:List UInt8,(a.map fun b=>(esc (b.toNat:Int)).length).sum<=4*a.length:=by
  intro a
  induction a with
  |nil=>exact ag _
  |cons b a e=>simp only[fo,List.sum_cons,db];have:=afu (b.toNat:Int);omega
 have c:=this (s.data.toList.take s.size);have d:(s.data.toList.take s.size).length<=s.size:=List.length_take_le _ _;omega
theorem abC{s:ByteArray}(f:Lng s):(bG s).length=s.size+2:=by
 unfold bG qt;have e:s.data.toList.take s.size=s.data.toList:=cC (by rw[cJ];exact ag _);have h:s.data.toList.length=s.size:=cJ;simp only[aH,db,gH,List.length_flatMap,e];have:∀b:List UInt8,(∀a∈b,aL (a.toNat:Int)=M)->(b.map fun a=>(esc (a.toNat:Int)).length).sum=b.length:=by
  intro b
  induction b with
  |nil=>intro _;rfl
  |cons a b j=>
   intro c;have l:=dl (c a dt);have:(esc (a.toNat:Int)).length=1:=by unfold esc;rw[aa (by omega),aa (by omega),aa (by omega),aa (by omega)];rfl
   simp only[fo,List.sum_cons,db];rw[j (fun k i=>c k (dJ _ i)),this];omega
 rw[this _ (fun a c=>by
  obtain⟨d,g,rfl⟩:=gp c;have:=(dq s d s.data.toList[d]).1 (aF g);rw[<-this.2];exact f.dg d this.1),h]
theorem acv(g:Cu E W y)(af:y<=700000000):T R 31 #[cV E] W (fun e u=>∃t:ByteArray,e= O (Q t)/\uT t<=84/\Cu E u (y+200)/\S E.base W u):=by
 have H:=g.lt;have G:=g.lo;have r:=fv g 60 (by decide) (by decide) (by omega);go_in;go_wp2_with fail;refine r.mono ?_;rintro e w1 ⟨w,rfl,ak,f,_,o⟩;have i:=ar o;clear o r;by_cases l:w=0
 ·subst l;go_wp2_with fail;go_loopw [3] (fun h wr=>∃t:ByteArray,h= Q t/\t.size<=41/\Hid (uT t<=2*t.size)/\Cu E wr (y+1+t.size)/\S E.base W wr) (fun h _=>50-acI h)
  case atStart=>exact⟨_,rfl,by decide,by show _<=_;decide,f.wide (by omega),i.out⟩
  case round=>
   obtain⟨t,rfl,K,n,z,q⟩:=hrel;have s:=fv z 3 (by decide) (by decide) (by omega);have x:=ar q;clear q;go_wp2_with fail;refine s.mono ?_;rintro e v ⟨a,rfl,A,b,_,c⟩;have d:=cH b (x.out.trans c);clear b c s;have L:IntKind.i64.wrap (39+a)=39+a:=by rw[cB];omega
   by_cases I:(t.size:Int)<39+a
   ·go_wp2_with fail;go_roundw
    case rel=>exact⟨_,rfl,by rw[ae];show t.size+1<=41;omega,by show _<=_;rw[ft,ae];have:=n.out;have:uT ⟨#[95]⟩=2:=(by decide);show _<=2*(t.size+1);omega,d.out.1.wide (by rw[ae];show _<=y+1+((t.size+1:Nat):Int);omega),d.out.2⟩
    case measure=>show 50-(t++⟨#[95]⟩).size<50-t.size;rw[ae];show 50-(t.size+1)<_;omega
   ·go_wp2_with fail;go_ret;exact⟨t,rfl,by have:=n.out;omega,d.out.1.wide (by omega),d.out.2⟩
 ·have F:(w==0)=N:=by simpa using l
  have k:=ar fun (C:Obj)=>fv (f.below (dF w1 C) f.lt) 12 (by decide) (by decide) (by omega);go_wp2_with fail;refine(k.out _).mono ?_;rintro e v ⟨a,rfl,A,b,m,c⟩;have p:=m.blk (ax w1 _) (by decide);have J:=fun B=>ay v w1.heap.size B _ _ _ p;have j:=cH b ((i.out.trans ((dF w1 _).mono f.lo.2)).trans c);clear b m c p k;rcases(show a=0\/a=1\/a=2\/a=3\/a=4\/a=5\/a=6\/a=7\/a=8\/a=9\/a=10\/a=11 by omega) with rfl|rfl|rfl|rfl|rfl|rfl|rfl|rfl|rfl|rfl|rfl|rfl;all_goals
   go_wp2_with fail;go_ret;exact⟨_,rfl,by decide,j.out.1.wide (by omega),j.out.2⟩
theorem agE(b:Cu E W y)(p:y<=700000000):T R 33 #[cV E] W (fun e i=>∃t:ByteArray,e= O (Q t)/\uT t<=84/\Cu E i (y+1)/\S E.base W i):=by
 have l:=b.lt;have k:=b.lo;have c:=ar fun (n:Obj)=>fv (b.below (dF W n) l) 9 (by decide) (by decide) (by omega);go_in;go_wp2_with fail;refine(c.out _).mono ?_;rintro e w1 ⟨a,rfl,q,d,f,g⟩;have h:=f.blk (ax W _) (by decide);have o:=fun m=>ay w1 W.heap.size m _ _ _ h;have j:=cH d (((dF W _).mono k.2).trans g);clear d f g h c;rcases(show a=0\/a=1\/a=2\/a=3\/a=4\/a=5\/a=6\/a=7\/a=8 by omega) with rfl|rfl|rfl|rfl|rfl|rfl|rfl|rfl|rfl;all_goals
  go_wp2_with fail;go_ret;exact⟨_,rfl,by decide,j.out⟩
theorem agF(d:Cu E W y)(A:y<=600000000):T R 12 #[cV E] W (fun e m=>∃t:ByteArray,e= O (Q t)/\uT t<=100/\Cu E m (y+300)/\S E.base W m):=by
 have k:=fv d 12 (by decide) (by decide) (by omega);go_in;go_wp2_with fail;refine k.mono ?_;rintro e w1 ⟨a,rfl,B,f,_,h⟩;have b:=cH f h;clear h k d;rcases(show a=0\/a=1\/a=2\/a=3\/(a≠0/\a≠1/\a≠2/\a≠3) by omega) with rfl|rfl|rfl|rfl|⟨n,o,p,q⟩
 ·go_wp2_with fail;go_ret;exact⟨_,rfl,by decide,b.out.1.wide (by omega),b.out.2⟩
 ·go_wp2_with fail;go_ret;exact⟨_,rfl,by decide,b.out.1.wide (by omega),b.out.2⟩
 ·have l:=acv f (by omega);go_wp2_with fail;refine l.mono ?_;rintro e C ⟨t,rfl,j,g,i⟩;have c:=gy g i j;have z:t.size<=42:=by have:=tB t;omega
  have w:¬9223372036854775807<3+t.size:=by omega
  have x:¬9223372036854775807<3+t.size+1:=by omega
  clear g i l j;go_wp2_with fail;go_ret;refine⟨_,rfl,?_,c.out.1.wide (by omega),b.out.2.trans c.out.2.1⟩;rw[ft,ft];have r:uT ⟨#[32,45,45]⟩=6:=by decide
  have s:uT ⟨#[10]⟩=2:=by decide
  have:=c.out.2.2;omega
 ·go_wp2_with fail;go_ret;exact⟨_,rfl,by decide,b.out.1.wide (by omega),b.out.2⟩
 ·have u:(a==0)=N:=by simpa using n
  have r:(a==1)=N:=by simpa using o
  have s:(a==2)=N:=by simpa using p
  have v:(a==3)=N:=by simpa using q
  go_wp2_with fail;go_ret;exact⟨_,rfl,by decide,b.out.1.wide (by omega),b.out.2⟩
end
theorem aeh:∀k:Fin 22,uT (bi cK k.val)<=120:=by decide
theorem afE:∀k:Fin 30,uT (bi ic k.val)<=120:=by decide
theorem afF{n:Int}(a:n<=9223372036854775807):uT (lr n)<=120:=by
 have:=yz n a;have:=Jd (lr n);omega
section
variable {E : Bs} {W : World} {y : Int}
theorem afG{E:Bs}{s:ByteArray}{m:Nat}(a:(s.size<=9/\m=E.g)\/(Lng s/\m=E.g+1)):E.g<=m/\uT (co (bG s))+8010*E.g<=120+8010*m/\s.size<=4100:=by
 rw[aeg];rcases a with⟨a,rfl⟩|⟨a,rfl⟩
 ·have:=abB s;omega
 ·rw[abC a];have:=a.hi;omega
theorem Lh(I:Cu E W y)(a7:y<=600000000):T R 11 #[cV E] W (DrP E W 120 (y+300)):=by
 have ak:=fv I 12 (by decide) (by decide) (by omega);go_in;go_wp2_with fail;refine ak.mono ?_;rintro m w1 ⟨j,rfl,a8,b,_,L⟩;have l:=cH b L;clear L ak I;rcases(show j=0\/j=1\/j=2\/j=3\/(j=4\/j=5)\/(j=6\/j=7\/j=8)\/j=9\/j=10\/j=11 by omega) with rfl|rfl|rfl|rfl|h45|h678|rfl|rfl|rfl
 ·have d:=acv b (by omega);go_wp2_with fail;refine d.mono ?_;rintro m i ⟨a4,rfl,w,c,f⟩;have a:=gy c f w;clear c f w d b;go_wp2_with fail;go_ret;exact drp (by have:=a.out.2.2;omega) (a.out.1.wide (by omega)) (l.out.2.trans a.out.2.1)
 ·have d:=aef b (by omega);go_wp2_with fail;refine d.mono ?_;rintro m i ⟨a2,rfl,A,c,f⟩;have a:=cH c f;have k:=sA a2 A.1 A.2 i;have af:=ar (afF A.2);clear c f d b;go_wp2_with fail;refine lc k fun x p=>?_;have g:=cH (a.out.1.below p a.out.1.lt) (a.out.2.trans (p.mono a.out.1.lo.2));clear p k;go_wp2_with fail;go_ret;exact drp af.out (g.out.1.wide (by omega)) (l.out.2.trans g.out.2)
 ·have d:=agE b (by omega);go_wp2_with fail;refine d.mono ?_;rintro m i ⟨a4,rfl,w,c,f⟩;have a:=gy c f w;clear c f w d b;go_wp2_with fail;go_ret;exact drp (by have:=a.out.2.2;omega) (a.out.1.wide (by omega)) (l.out.2.trans a.out.2.1)
 ·have d:=agD b (by omega);go_wp2_with fail;refine d.mono ?_;rintro m i ⟨C,a1,rfl,B,c,f⟩;have a:=cH c f;obtain⟨al,am,an⟩:=afG B;have k:=uG C an i;have H:=cH al am;clear c f d b B al am an;go_wp2_with fail;refine lc k fun x p=>?_;have g:=cH (a.out.1.below p a.out.1.lt) (a.out.2.trans (p.mono a.out.1.lo.2));clear p k;go_wp2_with fail;go_ret;exact⟨_,a1,rfl,H.out.1,H.out.2,g.out.1.wide (by omega),l.out.2.trans g.out.2⟩
 ·rcases h45 with rfl|rfl;all_goals
   have d:=lI w1;go_wp2_with fail;refine d.mono ?_;rintro m i ⟨rfl,r⟩;have o:S w1.heap.size w1 i:=by rw[r];exact dF w1 _
   have n:i.heap[w1.heap.size]?=some (.cells cK 9 (0,0)):=by rw[r];exact ax w1 _
   have c:=b.below o b.lt;have a:=ar (l.out.2.trans (o.mono b.lo.2));have k:=fv c 22 (by decide) (by decide) (by omega);clear r o c d b;go_wp2_with fail;refine k.mono ?_;rintro m x ⟨h,rfl,q,s,t,u⟩;obtain⟨h,rfl⟩:=fe q.1;have v:h<22:=by omega
   have z:x.cell? ⟨w1.heap.size,h,none⟩=some (Q (bi cK h)):=by rw[ay _ _ _ _ _ _ (t.blk n (by decide))];exact uh ⟨h,v⟩
   have g:=gy s (a.out.trans u) (aeh ⟨h,v⟩);have ap:=q.1;have av:=q.2;generalize bi cK h=a5 at z g;clear s u k n t;go_wp2_with fail;go_ret;exact drp g.out.2.2 (g.out.1.wide (by omega)) g.out.2.1
 ·rcases h678 with rfl|rfl|rfl;all_goals
   have d:=ob w1;go_wp2_with fail;refine d.mono ?_;rintro m i ⟨rfl,r⟩;have o:S w1.heap.size w1 i:=by rw[r];exact dF w1 _
   have n:i.heap[w1.heap.size]?=some (.cells ic 9 (0,0)):=by rw[r];exact ax w1 _
   have c:=b.below o b.lt;have a:=ar (l.out.2.trans (o.mono b.lo.2));have k:=fv c 30 (by decide) (by decide) (by omega);clear r o c d b;go_wp2_with fail;refine k.mono ?_;rintro m x ⟨h,rfl,q,s,t,u⟩;obtain⟨h,rfl⟩:=fe q.1;have v:h<30:=by omega
   have z:x.cell? ⟨w1.heap.size,h,none⟩=some (Q (bi ic h)):=by rw[ay _ _ _ _ _ _ (t.blk n (by decide))];exact CJ ⟨h,v⟩
   have g:=gy s (a.out.trans u) (afE ⟨h,v⟩);have ap:=q.1;have av:=q.2;generalize bi ic h=a5 at z g;clear s u k n t;go_wp2_with fail;go_ret;exact drp g.out.2.2 (g.out.1.wide (by omega)) g.out.2.1
 ·go_wp2_with fail;go_ret;exact drp (by decide) (l.out.1.wide (by omega)) l.out.2
 ·have G:=ar fun (a3:Obj)=>fv (b.below (dF w1 a3) b.lt) 20 (by decide) (by decide) (by omega);go_wp2_with fail;refine(G.out _).mono ?_;rintro m i ⟨e,rfl,af,J,K,f⟩;have n:=K.blk (ax w1 _) (by decide);have a6:=fun a0=>ay i w1.heap.size a0 _ _ _ n;have F:=cH J ((l.out.2.trans ((dF w1 _).mono b.lo.2)).trans f);clear J K f n G b;rcases(show e=0\/e=1\/e=2\/e=3\/e=4\/e=5\/e=6\/e=7\/e=8\/e=9\/e=10\/e=11\/e=12\/e=13\/e=14\/e=15\/e=16\/e=17\/e=18\/e=19 by omega) with rfl|rfl|rfl|rfl|rfl|rfl|rfl|rfl|rfl|rfl|rfl|rfl|rfl|rfl|rfl|rfl|rfl|rfl|rfl|rfl;all_goals
   go_wp2_with fail;go_ret;exact drp (by decide) (F.out.1.wide (by omega)) F.out.2
 ·have d:=D4 b 1 (by decide) (by decide) (by omega);go_wp2_with fail;refine d.mono ?_;rintro m i ⟨C,rfl,B,c,_,f⟩;have a:=cH c f;clear c f d b;go_wp2_with fail;go_ret;exact drp (by have:=Jd C;omega) (a.out.1.wide (by omega)) (l.out.2.trans a.out.2)
end
theorem Cw{c:Int}(a:nH c=M):(97<=c/\c<=122)\/(65<=c/\c<=90)\/c=95\/(48<=c/\c<=57):=by
 unfold nH bc aL at a;simp at a;omega
theorem aei(s:ByteArray):∀(a p i:Nat),p<=i->i<jy s a p->nH (ao s i)=M:=fun a p i c b=>by
 rw[rv]at b;exact lh _ s a p i c b
theorem aej(s:ByteArray)(p:Nat)(a:p<=s.size):nH (ao s (jy s (s.size+1) p))=N:=by
 rw[rv];exact mB _ (by decide) s _ p (by omega)
theorem Li{q:Nat}{c:Int}(a:nH c=M):iJ q c≠4/\iJ q c≠3:=by
 have:=Cw a;unfold iJ;rw[aa (show ¬c=10 by omega),aa (show ¬c=92 by omega),aa (show ¬c=10 by omega),aa (show ¬c=9 by omega)]
 repeat' split
 all_goals omega
theorem aek{s:ByteArray}{p:Nat}(d:gD s p≠4)(a:nH (ao s p)=N):G9 s p/\F4 s p=0:=by
 refine⟨⟨fun c=>absurd c d,fun _=>?_⟩,by unfold F4;rw[aa (fun b=>by rw[a]at b;cases b.2)]⟩;unfold nH at a;rw[Bool.or_eq_false_iff]at a;exact a.2
theorem abD:∀j:Fin 22,Le (10+(j.val:Int))=M->ao (bi cK j.val) 0=97\/ao (bi cK j.val) 0=110:=by decide+kernel
theorem ael{a b:ByteArray}(c:a.toList=b.toList)(i:Nat):ao a i=ao b i:=by
 rw[ll,ll];rw[eo,eo]at c;rw[c]
def Stp(s:ByteArray)(p:Nat):Prop:=(uR s p (bB s p).a+Ha (bB s p).k+gA s (bB s p).a<=gA s p\/((bB s p).k=7/\10+gA s (bB s p).a<=gA s p))/\((bB s p).k=5->10+gA s (bB s p).a<=gA s p)/\G9 s (bB s p).a
theorem abE{q:Nat}{c:Int}(b:bc c=M)(g:q≠4):((q=1\/q=2)/\iI q c=2)\/(¬(q=1\/q=2)/\8<=iI q c/\(c=97\/c=110->iI q c=12)):=by
 have h:=lg b;have f:aL c=N:=by simp[aL];omega
 have e:c≠92:=fun a=>by subst a;revert b;decide
 unfold iI;rw[aa g,aa e,aa (by omega),aa (by omega),aa (by omega),aa (by omega),aa (by rw[f];simp),ab b];by_cases a:q=1\/q=2
 ·rw[ab a];exact .inl ⟨a,rfl⟩
 ·rw[aa a];refine .inr ⟨a,?_,fun d=>by rw[ab d]⟩;split<;>omega
theorem abF{s:ByteArray}{p:Nat}(B:p<s.size)(t:G9 s p)(c:bc (ao s p)=M):Stp s p:=by
 have C:=lg c;have x:gD s p≠4:=fun b=>by rcases t.bs b with e|e<;>omega
 obtain⟨a,f⟩:∃a,jy s (s.size+1) p=a:=⟨_,rfl⟩;have e:bB s p=⟨M,a,0,(si s p).1,0,(si s p).2⟩:=by unfold bB;rw[ab c,f]
 have l:=Fd s p c;have h:=qa s (s.size+1) p (by omega);have g:=aei s (s.size+1) p;have k:=aej s p (by omega);rw[f]at l h g k;have z:gD s a≠4:=by
  have:a=(a-1)+1:=by omega
  rw[this,gm (by omega)];exact(Li (g (a-1) (by omega) (by omega))).1
 obtain⟨n,o⟩:=aek z k;have G:=uv (s:=s) (p:=p) (a:=a) l h.2 (fun A i j=>by have:=Cw (g A i j);omega) (by omega);have F:uw (ao s p)=2:=by unfold uw;rw[ab (by omega)]
 have w:Le (si s p).1=M->ao s p=97\/ao s p=110:=by
  unfold si;rw[f];cases ef:oa cK (s.extract p a) 22 0 with
  |none=>intro b;have d:Le 1=M:=b;exact absurd d (by decide)
  |some m=>
   intro b;obtain⟨i,j,r⟩:=js cK _ 22 0 m ef;have:=abD ⟨m,by omega⟩ b;simp only at this;rw[ael r 0,gv s p a 0 h.2 (by omega),gK]at this;exact this
 have v:(si s p).1≠5:=by
  unfold si;split
  ·simp only;omega
  ·simp
 unfold Stp;rw[e];simp only;unfold gA;rw[o];have u:F4 s p=if(gD s p=1\/gD s p=2) then 10 else 0:=by
  unfold F4;have:nH (ao s p)=M:=by unfold nH;rw[c];rfl
  rw[this];simp
 rw[u];refine⟨.inl ?_,fun b=>absurd b v,n⟩;rcases abE c x with⟨b,d⟩|⟨b,d,q⟩
 ·rw[ab b];have:=Lg (si s p).1;omega
 ·rw[aa b];unfold Ha;by_cases go:Le (si s p).1=M
  ·rw[ab go];have:=q (w go);omega
  ·rw[aa go];omega
theorem pu(s:ByteArray)(p i:Nat)(a:p<=i)(b:i<ju s p):aL (ao s i)=M:=lh aL s _ p i a b
theorem Hb(s:ByteArray)(p:Nat)(J:p<s.size)(k:aL (ao s p)=M):(∀i,p<=i->i<(bD s p).1->43<=ao s i)/\((bD s p).2=M->nH (ao s ((bD s p).1-1))=M/\(aL (ao s (bD s p).1)=M->(bD s p).1=p+1/\ao s p=48)):=by
 have l:∀a,a<=s.size->aL (ao s (ju s a))=N:=fun a v=>mB aL nw s _ a (by omega);unfold bD;by_cases m:ao s p=48/\ao s (p+1)=120
 ·rw[ab m];have c:=ba m.2 (by omega);have x:=Im s (p+2) (by omega);have w:∀i,p+2<=i->i<xa s (p+2)->gz (ao s i)=M:=fun i d c=>lh gz s _ (p+2) i d c;have G:gz (ao s (xa s (p+2)))=N:=mB gz re s _ (p+2) (by omega);have B:∀i,p<=i->i<xa s (p+2)->43<=ao s i:=fun i d c=>by
   rcases(show i=p\/i=p+1\/p+2<=i by omega) with rfl|rfl|g
   ·omega
   ·omega
   ·have:=(jt _).1 (w i g c);omega
  unfold ie;by_cases g:p+2+16<xa s (p+2)
  ·rw[ab g];exact⟨fun i d c=>B i d (by simp only at c;omega),fun f=>by cases f⟩
  ·rw[aa g];refine⟨B,fun f=>?_⟩;have C:p+2<xa s (p+2):=aI f;refine⟨?_,fun F=>?_⟩
   ·have:=(jt _).1 (w (xa s (p+2)-1) (by omega) (by omega));unfold nH bc aL;simp;omega
   ·have:=dl F;have:gz (ao s (xa s (p+2)))=M:=(jt _).2 (.inl this);rw[G]at this;cases this
 ·rw[aa m];have A:∀{t:Int},aL t=M->nH t=M:=fun f=>by unfold nH;rw[f];simp
  have o:=ss s p J;have j:=su s (nA0 s p) o.2;have r:=zl s (nA1 s (nA0 s p)) j.2;have n:(∀i,p<=i->i<nA0 s p->43<=ao s i)/\aL (ao s (nA0 s p-1))=M/\(aL (ao s (nA0 s p))=M->nA0 s p=p+1/\ao s p=48):=by
   unfold nA0;by_cases g:ao s p=48
   ·rw[ab g];exact⟨fun i d c=>by obtain rfl:i=p:=(by omega);omega,by rw[show p+1-1=p by omega];exact k,fun _=>⟨rfl,g⟩⟩
   ·rw[aa g];have z:=jo s (p+1) (by omega);refine⟨fun i d c=>?_,?_,fun e=>by rw[l (p+1) (by omega)]at e;cases e⟩
    ·rcases(show i=p\/p+1<=i by omega) with rfl|q
     ·have:=dl k;omega
     ·have:=dl (pu s (p+1) i q c);omega
    ·rcases(show ju s (p+1)=p+1\/p+1<ju s (p+1) by omega) with q|q
     ·rw[q,show p+1-1=p by omega];exact k
     ·exact pu s (p+1) _ (by omega) (by omega)
  obtain⟨a,v⟩:∃a,nA0 s p=a:=⟨_,rfl⟩;rw[v]at o j r n⊢;have h:(∀i,p<=i->i<nA1 s a->43<=ao s i)/\aL (ao s (nA1 s a-1))=M/\(aL (ao s (nA1 s a))=M->nA1 s a=p+1/\ao s p=48):=by
   unfold nA1;by_cases g:ao s a=46/\aL (ao s (a+1))=M
   ·rw[ab g];have C:=li g.2;have z:=jo s (a+1) (by omega);have H:a+1<ju s (a+1):=by
     unfold ju;rw[eH,ab g.2];have:=jm aL nw s s.size (a+1+1) (by omega);omega
    refine⟨fun i d c=>?_,pu s (a+1) _ (by omega) (by omega),fun e=>by rw[l (a+1) (by omega)]at e;cases e⟩;rcases(show i<a\/i=a\/a+1<=i by omega) with q|rfl|q
    ·exact n.1 i d q
    ·omega
    ·have:=dl (pu s (a+1) i q c);omega
   ·rw[aa g];exact n
  obtain⟨b,x⟩:∃b,nA1 s a=b:=⟨_,rfl⟩;rw[x]at j r h⊢;unfold jn;by_cases g:ao s b=101
  ·rw[ab g];have C:=ba g (by omega);have c:b+1<=nA2 s b/\nA2 s b<=s.size/\∀i,b+1<=i->i<nA2 s b->43<=ao s i:=by
    unfold nA2;by_cases q:ao s (b+1)=43\/ao s (b+1)=45
    ·have:b+1<s.size:=by rcases q with q|q<;>exact ba q (by omega)
     rw[ab q];exact⟨by omega,by omega,fun i d c=>by obtain rfl:i=b+1:=(by omega);omega⟩
    ·rw[aa q];exact⟨by omega,by omega,fun i d c=>by omega⟩
   have z:=jo s (nA2 s b) c.2.1;refine⟨fun i d u=>?_,fun I=>?_⟩
   ·simp only at u;rcases(show i<b\/i=b\/(b+1<=i/\i<nA2 s b)\/nA2 s b<=i by omega) with q|rfl|q|q
    ·exact h.1 i d q
    ·omega
    ·exact c.2.2 i q.1 q.2
    ·have:=dl (pu s (nA2 s b) i q u);omega
   ·have H:nA2 s b<ju s (nA2 s b):=aI I;simp only;exact⟨A (pu s (nA2 s b) _ (by omega) (by omega)),fun e=>by rw[l _ c.2.1]at e;cases e⟩
  ·rw[aa g];exact⟨h.1,fun _=>⟨A h.2.1,h.2.2⟩⟩
theorem abG{s:ByteArray}{p:Nat}(f:p<s.size)(h:G9 s p)(b:aL (ao s p)=M)(c:(bB s p).ok=M):Stp s p:=by
 have I:=dl b;have i:bc (ao s p)=N:=by simp[bc];omega
 have w:gD s p≠4:=fun g=>by rcases h.bs g with e|e<;>omega
 have v:gD s p≠1:=fun g=>by have:=h.dg g;rw[b]at this;cases this
 have H:=qr s p;obtain⟨k,A⟩:=Hb s p f b;have d:=pb s p f;have j:(bD s p).2=M:=by
  unfold bB at c;rw[aa (by rw[i];simp),ab b]at c;split at c
  ·rename_i g;exact g
  ·cases c
 obtain⟨l,m⟩:=A j;have e:bB s p=⟨M,(bD s p).1,0,(jp s p).1,(jp s p).2.1,(jp s p).2.2⟩:=by unfold bB;rw[aa (by rw[i];simp),ab b,ab j]
 have u:(jp s p).1=2\/(jp s p).1=3:=by
  unfold jp;split
  ·exact .inl rfl
  ·split
   ·exact .inl rfl
   ·exact .inr rfl
 obtain⟨a,r⟩:∃a,(bD s p).1=a:=⟨_,rfl⟩;rw[r]at k l m d e;have K:=uv (s:=s) (p:=p) (a:=a) d.1 d.2 (fun z n o=>by have:=k z n o;omega) (by omega);have x:gD s a≠4:=by
  have:a=(a-1)+1:=by omega
  rw[this,gm (by omega)];exact(Li l).1
 have J:uw (ao s p)=2:=by unfold uw;rw[ab (by omega)]
 have G:F4 s a<=10:=by unfold F4;split<;>omega
 have F:iI (gD s p) (ao s p)+F4 s p ≥ 18:=by
  have:nH (ao s p)=M:=by unfold nH;rw[b];simp
  unfold iI F4;rw[this,aa w,aa (by omega),aa (by omega),aa (by omega),aa (by omega),aa (by omega),ab b,aa v];by_cases g:gD s p=2
  ·rw[ab g,ab ⟨.inr g,rfl⟩];decide
  ·rw[aa g,aa (fun q=>by rcases q.1 with q|q<;>omega)];decide
 have t:Ha (jp s p).1=6:=by rcases u with g|g<;>rw[g]<;>decide
 unfold Stp;rw[e];simp only;rw[t];unfold gA;refine⟨.inl (by omega),fun g=>by omega,⟨fun g=>absurd g x,fun g=>?_⟩⟩;cases hd2:aL (ao s a) with
 |false=>rfl
 |true=>
  obtain⟨B,C⟩:=m hd2;rw[B,gm f,C]at g;have:iJ (gD s p) 48=2:=by
   rcases(show gD s p=0\/gD s p=2\/gD s p=3 by omega) with q|q|q<;>rw[q]<;>decide
  omega
theorem D5(s:ByteArray):∀(f p:Nat)(d:List Int),(bH s f p d).1=M->p<=s.size->(∀i,p<=i->i<(bH s f p d).2.1->ao s i≠10)/\p<(bH s f p d).2.1/\ao s ((bH s f p d).2.1-1)=34
 |0,p,d,a,_=>by rw[bH]at a;cases a
 |f+1,p,d,a,B=>by
  rw[bH]at a⊢;by_cases t:s.size<=p
  ·rw[ab t]at a;cases a
  rw[aa t]at a⊢;by_cases j:ao s p=34
  ·rw[ab j];simp only;exact⟨fun i e c=>by obtain rfl:i=p:=(by omega);omega,by omega,by rw[show p+1-1=p by omega];exact j⟩
  rw[aa j]at a⊢;by_cases g:ao s p=10
  ·rw[ab g]at a;cases a
  rw[aa g]at a⊢;by_cases u:ao s p=92
  ·rw[ab u]at a⊢;by_cases b:(ed s (p+1)).2.2=M
   ·rw[ab b]at a⊢;have z:=qK s (p+1) (by omega);have C:=qL s (p+1) (by omega) b;obtain⟨k,A,l⟩:=D5 s f _ _ a z.2.1;refine⟨fun i e c=>?_,by omega,l⟩;rcases(show i=p\/(p+1<=i/\i<(ed s (p+1)).2.1)\/(ed s (p+1)).2.1<=i by omega) with rfl|q|q
    ·exact g
    ·revert q;unfold ed at b⊢;by_cases e:ao s (p+1)=110
     ·rw[ab e];intro q;obtain rfl:i=p+1:=by simp only at q;omega
      omega
     rw[aa e]at b⊢;by_cases c:ao s (p+1)=116
     ·rw[ab c];intro q;obtain rfl:i=p+1:=by simp only at q;omega
      omega
     rw[aa c]at b⊢;by_cases o:ao s (p+1)=34\/ao s (p+1)=92
     ·rw[ab o];intro q;obtain rfl:i=p+1:=by simp only at q;omega
      omega
     rw[aa o]at b⊢;by_cases r:ao s (p+1)=120
     ·rw[ab r]at b⊢;unfold hexI at b⊢;by_cases m:dE (ao s (p+1+1))<0
      ·rw[ab m]at b;cases b
      rw[aa m]at b⊢;by_cases n:dE (ao s (p+1+1+1))<0
      ·rw[ab n]at b;cases b
      rw[aa n];intro q;have w:∀h:Int,¬dE h<0->h≠10:=fun h v x=>by rw[x]at v;exact v (by decide)
      rcases(show i=p+1\/i=p+1+1\/i=p+1+1+1 by simp only at q;omega) with rfl|rfl|rfl
      ·omega
      ·exact w _ m
      ·exact w _ n
     ·rw[aa r]at b;cases b
    ·exact k i q c
   ·rw[aa b]at a;cases a
  rw[aa u]at a⊢;obtain⟨k,A,l⟩:=D5 s f _ _ a (by omega);refine⟨fun i e c=>?_,by omega,l⟩;rcases(show i=p\/p+1<=i by omega) with rfl|q
  ·exact g
  ·exact k i q c
theorem agG{q:Nat}(a:q<=4)(b:q≠4):iI q 34=8:=by
 rcases(show q=0\/q=1\/q=2\/q=3 by omega) with rfl|rfl|rfl|rfl<;>decide
theorem n34{q:Nat}(a:q<=4):iJ q 34=0:=by
 rcases(show q=0\/q=1\/q=2\/q=3\/q=4 by omega) with rfl|rfl|rfl|rfl|rfl<;>decide
theorem D6{s:ByteArray}{p:Nat}(b:gD s p=0\/gD s p=3):G9 s p/\F4 s p=0:=⟨⟨fun a=>by omega,fun a=>by omega⟩,by unfold F4;rw[aa (fun a=>by have:=a.1;omega)]⟩
theorem abH{s:ByteArray}{p:Nat}(C:p<s.size)(o:G9 s p)(g:ao s p=34)(d:(bB s p).ok=M):Stp s p:=by
 have u:gD s p≠4:=fun b=>by rcases o.bs b with e|e<;>omega
 have c:bB s p=(if(bH s (s.size+1) (p+1) []).1=M then⟨M,(bH s (s.size+1) (p+1) []).2.1,0,4,0,co (bH s (s.size+1) (p+1) []).2.2⟩ else⟨N,(bH s (s.size+1) (p+1) []).2.1,0,0,0,ByteArray.empty⟩):=by
  unfold bB;rw[g,aa (by decide),aa (by decide),ab rfl]
 have i:(bH s (s.size+1) (p+1) []).1=M:=by
  rw[c]at d;split at d
  ·rename_i b;exact b
  ·cases d
 rw[ab i]at c;have h:=nK s (s.size+1) (p+1) [] (by omega);obtain⟨j,x,k⟩:=D5 s _ _ _ i (by omega);obtain⟨a,r⟩:∃a,(bH s (s.size+1) (p+1) []).2.1=a:=⟨_,rfl⟩;rw[r]at h j x k c;have z:=uv (s:=s) (p:=p) (a:=a) (by omega) h.2.1 (fun f A n=>by
  rcases(show f=p\/p+1<=f by omega) with rfl|q
  ·omega
  ·exact j f q n) (by omega)
 have v:gD s a=0:=by
  have:a=(a-1)+1:=by omega
  rw[this,gm (by omega),k];exact n34 (qr s _)
 obtain⟨l,m⟩:=D6 (.inl v);have t:=agG (qr s p) u;have w:uw 34=2:=by decide
 rw[g,t,w]at z;unfold Stp;rw[c];simp only;unfold gA;rw[m];have B:Ha 4=6:=by decide
 exact⟨.inl (by omega),fun b=>absurd b (by decide),l⟩
theorem Aq(V:Array Value)(base:Int)(r:ByteArray):∀(f i:Nat)(a:Int×Nat),(ro V base r f i a).1=a.1\/(base+i<=(ro V base r f i a).1/\(ro V base r f i a).1<base+i+f)
 |0,i,a=> .inl rfl
 |f+1,i,a=>by
  rw[ro];rcases Aq V base r f (i+1) (if a.2<(bi V i).size/\Lib.hasPrefix r.data.toList (bi V i).data.toList=M then(base+(i:Int),(bi V i).size) else a) with h|h
  ·split at h
   ·rename_i b;rw[ab b]at *;right;omega
   ·rename_i b;rw[aa b]at *;left;exact h
  ·right;omega
theorem Cx(r:ByteArray)(l:0<r.size)(g:jz r≠0):(jz r=5\/jz r=7\/(40<=jz r/\jz r<=78))/\∀i,i<(dh (jz r)).size->ao r i=ao (dh (jz r)) i:=by
 by_cases b:ao r 0=59
 ·have a:jz r=5:=by unfold jz;rw[ab b]
  rw[a];exact⟨.inl rfl,fun i e=>by
   have:i<1:=e;obtain rfl:i=0:=by omega
   rw[b];decide⟩
 by_cases d:ao r 0=10
 ·have a:jz r=7:=by unfold jz;rw[aa b,ab d]
  rw[a];exact⟨.inr (.inl rfl),fun i e=>by
   have:i<1:=e;obtain rfl:i=0:=by omega
   rw[d];decide⟩
 have a:jz r=(ro gF 61 r 18 0 (ro fl 40 r 11 0 (0,0))).1:=by unfold jz;rw[aa b,aa d]
 have h:=Aq fl 40 r 11 0 (0,0);have j:=Aq gF 61 r 18 0 (ro fl 40 r 11 0 (0,0));have k:=rp fl 40 r 11 (by omega) Fb 11 0 (0,0) (by omega) (.inl ⟨rfl,rfl⟩);have f:=rp gF 61 r 18 (by omega) Fc 18 0 _ (by omega) k;rw[<-a]at j f;refine⟨.inr (.inr ?_),?_⟩
 ·simp only at h;omega
 ·rcases f with⟨c,_⟩|⟨_,_,c,_⟩
  ·exact absurd c g
  ·exact(zF r _).1 c
theorem aem:∀k:Fin 79,(k.val=5\/40<=k.val)->∀j:Fin 3,j.val<(dh (k.val:Int)).size->33<=ao (dh (k.val:Int)) j.val/\ao (dh (k.val:Int)) j.val<=126/\nH (ao (dh (k.val:Int)) j.val)=N/\ao (dh (k.val:Int)) j.val≠34/\ao (dh (k.val:Int)) j.val≠92:=by decide+kernel
theorem aen:∀k:Fin 79,(k.val=5\/40<=k.val)->(dh (k.val:Int)).size<=3:=by decide+kernel
theorem abI{q:Nat}{c:Int}(d:q≠4)(b:33<=c/\c<=126/\nH c=N/\c≠34/\c≠92):iI q c=12:=by
 obtain⟨g,h,a,e,f⟩:=b;unfold nH at a;rw[Bool.or_eq_false_iff]at a;unfold iI;rw[aa d,aa f,aa (by omega),aa (by omega),aa (by omega),aa (by omega),aa (by rw[a.2];simp),aa (by rw[a.1];simp),aa e,ab (by omega)]
theorem abJ{q:Nat}{c:Int}(d:33<=c/\c<=126/\nH c=N/\c≠34/\c≠92):iJ q c=0:=by
 obtain⟨g,h,a,i,f⟩:=d;have e:=a;unfold nH at a;rw[Bool.or_eq_false_iff]at a;unfold iJ;by_cases b:q=4
 ·rw[ab b,aa (by omega),aa (by rw[e];simp)]
 ·rw[aa b,aa f,aa (by omega),aa (by omega),aa (by rw[a.2];simp),aa (by rw[a.1];simp)]
theorem F6{s:ByteArray}{p:Nat}(z:p<s.size)(G:G9 s p)(x:¬bc (ao s p)=M)(v:¬aL (ao s p)=M)(t:¬ao s p=34)(i:(bB s p).ok=M):Stp s p:=by
 obtain⟨b,d⟩:∃b,jz (s.extract p s.size)=b:=⟨_,rfl⟩;have a0:=gk s p s.size (ag _);have j:b≠0:=fun g=>by
  unfold bB at i;rw[aa x,aa v,aa t,ab (by rw[d];exact g)]at i;cases i
 have e:bB s p=⟨M,p+(dh b).size,if b=7 then 1 else 0,b,0,ByteArray.empty⟩:=by
  unfold bB;rw[aa x,aa v,aa t,d,aa j]
 obtain⟨C,n⟩:=Cx (s.extract p s.size) (by omega) (by rw[d];exact j);have I:=un (s.extract p s.size) (by omega) (by rw[d];exact j);rw[d]at C n I;have o:∀c,c<(dh b).size->ao s (p+c)=ao (dh b) c:=fun c H=>by
  rw[<-n c H,gv s p s.size c (ag _) (by omega)]
 have m:=o 0 (by omega);rw[gK]at m;unfold Stp;rw[e];simp only;by_cases F:b=7
 ·subst F;have L:(dh 7).size=1:=by decide
  have u:ao s p=10:=by rw[m];decide
  rw[L];have ak:gD s (p+1)=3:=by
   rw[gm z,u];have:=qr s p;rcases(show gD s p=0\/gD s p=1\/gD s p=2\/gD s p=3\/gD s p=4 by omega) with g|g|g|g|g<;>rw[g]<;>decide
  obtain⟨k,l⟩:=D6 (s:=s) (p:=p+1) (.inr ak);have h:iI (gD s p) 10=12:=by
   have:=qr s p;rcases(show gD s p=0\/gD s p=1\/gD s p=2\/gD s p=3\/gD s p=4 by omega) with g|g|g|g|g<;>rw[g]<;>decide
  have K:=mH z;rw[u,h]at K;unfold gA;rw[l];exact⟨.inr ⟨rfl,by omega⟩,fun g=>absurd g (by decide),k⟩
 ·have av:0<=b/\b<=78/\(b=5\/40<=b):=by omega
  have B:((b.toNat:Nat):Int)=b:=by omega
  have A:=aem ⟨b.toNat,by omega⟩ (by simp only;omega);have an:=aen ⟨b.toNat,by omega⟩ (by simp only;omega);simp only[B]at A an;have f:∀c,p<=c->c<p+(dh b).size->33<=ao s c/\ao s c<=126/\nH (ao s c)=N/\ao s c≠34/\ao s c≠92:=fun c q r=>by
   have w:=o (c-p) (by omega);rw[show p+(c-p)=c by omega]at w;rw[w];exact A ⟨c-p,by omega⟩ (by simp only;omega)
  have first:=f p (ag _) (by omega)
  have J:gD s p≠4:=fun g=>by rcases G.bs g with e|e<;>omega
  have am:=uv (s:=s) (p:=p) (a:=p+(dh b).size) (by omega) (by omega) (fun c q r=>by have:=f c q r;omega) (by omega);have af:gD s (p+(dh b).size)=0:=by
   have:p+(dh b).size=(p+(dh b).size-1)+1:=by omega
   rw[this,gm (by omega)];exact abJ (f _ (by omega) (by omega))
  obtain⟨k,l⟩:=D6 (s:=s) (p:=p+(dh b).size) (.inl af);have h:=abI J first
  have al:uw (ao s p)=2:=by unfold uw;rw[ab (by omega)]
  have ap:=Lg b;have a1:=BE s p (p+(dh b).size);rw[h,al]at am;unfold gA;rw[l];exact⟨.inl (by omega),fun _=>by omega,k⟩
theorem F7{s:ByteArray}{p:Nat}(b:p<s.size)(a:G9 s p)(c:(bB s p).ok=M):Stp s p:=by
 by_cases d:bc (ao s p)=M
 ·exact abF b a d
 by_cases e:aL (ao s p)=M
 ·exact abG b a e c
 by_cases f:ao s p=34
 ·exact abH b a f c
 ·exact F6 b a d e f c
theorem oA(s:ByteArray):∀(f p:Nat),p<=s.size->G9 s p->gA s (blk s f p)<=gA s p/\G9 s (blk s f p)
 |0,p,_,a=>⟨ag _,a⟩
 |f+1,p,q,a=>by
  rw[blk];by_cases l:s.size<=p
  ·rw[ab l];exact⟨ag _,a⟩
  rw[aa l];by_cases j:eJ (ao s p)=M
  ·rw[ab j];have b:ao s p=32\/ao s p=9\/ao s p=13:=aI j;have t:gD s p≠4:=fun g=>by rcases a.bs g with e|e<;>omega
   have r:gD s (p+1)=0\/gD s (p+1)=3:=by
    rw[gm (by omega)];have:=qr s p;rcases(show gD s p=0\/gD s p=1\/gD s p=2\/gD s p=3 by omega) with g|g|g|g<;>rcases b with c|c|c<;>rw[g,c]<;>decide
   obtain⟨h,i⟩:=D6 r;obtain⟨d,k⟩:=oA s f (p+1) (by omega) h;refine⟨?_,k⟩;have:=mH (s:=s) (p:=p) (by omega);unfold gA at d⊢;rw[i]at d;omega
  rw[aa j];by_cases m:ao s p=45/\ao s (p+1)=45
  ·rw[ab m];have o:=oe s p q;have n:Gt (ao s (vv s p))=N:=mB Gt Dm s _ p (by omega);have b:ao s (vv s p)=10\/ao s (vv s p)= -1:=by
    unfold Gt at n;have:=na n;omega
   have h:G9 s (vv s p):=⟨fun _=>by
    rcases b with c|c
    ·exact .inl c
    ·right;rcases be (vv s p) s.size with g|g
     ·have:=fG g;omega
     ·exact g,fun _=>by rcases b with c|c<;>rw[c]<;>decide⟩
   have i:F4 s (vv s p)=0:=by
    unfold F4;rw[aa (fun g=>by rcases b with c|c<;>rw[c]at g<;>exact absurd g.2 (by decide))]
   obtain⟨d,k⟩:=oA s f (vv s p) o.2 h;refine⟨?_,k⟩;have:=Cv (s:=s) (p:=p) (vv s p-p) (by omega);rw[show p+(vv s p-p)=vv s p by omega]at this;unfold gA at d⊢;rw[i]at d;omega
  ·rw[aa m];exact⟨ag _,a⟩
def F8(s:ByteArray)(a:Tk):Nat:=if a.k=6 then 0 else if a.k=5 then 10 else uR s a.f.toNat a.t.toNat+Ha a.k
def Ar(s:ByteArray)(a:List Tk):Nat:=(a.map (F8 s)).sum
theorem ux(s:ByteArray)(b:List Tk)(a:Tk):Ar s (b++[a])=Ar s b+F8 s a:=by unfold Ar;simp
theorem sf(s:ByteArray):∀(f:Nat)(st:List Int)(p:Nat)(l:Int)(d:List Tk),p<=s.size->G9 s p->Ar s (AF s f st p l d).1<=Ar s d+gA s p
 |0,st,p,l,d,_,_=>by rw[AF];exact aG _
 |f+1,st,p,l,d,am,r=>by
  rw[AF];split
  ·rename_i F;simp only;rw[ux];have:F8 s ⟨6,(s.size:Nat),(s.size:Nat),l,0,⟨#[]⟩⟩=0:=by unfold F8;rw[ab rfl]
   omega
  ·rename_i F;split
   ·rename_i m;obtain⟨c,b⟩:=abb s p m;have i:=gb s p (by omega) c;obtain⟨q,_,u⟩:=F7 (by omega) r c;obtain⟨A,j⟩:=oA s (s.size+1) (bB s p).a i.2.1 u;have o:=gC s (s.size+1) (bB s p).a i.2.1;have al:10+gA s (bB s p).a<=gA s p:=by
     rcases q with g|g
     ·have ap:=BE s p (bB s p).a;rw[b]at g;have:Ha 7=6:=by decide
      by_cases af:(bB s p).a=p+1
      ·have h:ao s p=10:=by
        unfold bB at c b;by_cases v:bc (ao s p)=M
        ·rw[ab v]at b;exact absurd b (acl s p)
        rw[aa v]at c b;by_cases w:aL (ao s p)=M
        ·rw[ab w]at c b;split at b
         ·exact absurd b (acm s p)
         ·simp at b
        rw[aa w]at c b;by_cases z:ao s p=34
        ·rw[ab z]at c b;split at b<;>simp at b
        rw[aa z]at c b;split at b
        ·simp at b
        ·rename_i L;simp only at b;have:=(Cx (s.extract p s.size) (by rw[gk s p s.size (ag _)];omega) L).2 0 (by rw[b];decide);rw[b,gv s p s.size 0 (ag _) (by omega),gK]at this;rw[this];decide
       have H:=F6 (s:=s) (p:=p) (by omega) r (by rw[h];decide) (by rw[h];decide) (by rw[h];decide) c;rcases H.1 with g2|g2
       ·have I:=mH (s:=s) (p:=p) (by omega);have an:=qr s p;have:iI (gD s p) 10=12:=by rcases(show gD s p=0\/gD s p=1\/gD s p=2\/gD s p=3\/gD s p=4 by omega) with e|e|e|e|e<;>rw[e]<;>decide
        have G:gD s (p+1)=3:=by
         rw[gm (by omega),h];rcases(show gD s p=0\/gD s p=1\/gD s p=2\/gD s p=3\/gD s p=4 by omega) with e|e|e|e|e<;>rw[e]<;>decide
        have J:=(D6 (s:=s) (p:=p+1) (.inr G)).2;rw[h]at I;unfold gA;rw[af,J];omega
       ·exact g2.2
      ·omega
     ·exact g.2
    split
    ·have:=sf s f (eG st 5).1 (blk s (s.size+1) (bB s p).a) (l+1) (d++[⟨5,(p:Nat),((bB s p).a:Nat),l,(bB s p).n,(bB s p).x⟩]) o.2 j;rw[ux]at this;have B:F8 s ⟨5,(p:Nat),((bB s p).a:Nat),l,(bB s p).n,(bB s p).x⟩=10:=by unfold F8;rw[aa (show ¬(5:Int)=6 by decide),ab rfl]
     omega
    ·have:=sf s f st (blk s (s.size+1) (bB s p).a) (l+1) d o.2 j;omega
   ·rename_i m;split
    ·split
     ·rename_i t;have K:vL s p=(bB s p).k:=by unfold vL;rw[ab t]
      have i:=gb s p (by omega) t;obtain⟨q,ak,u⟩:=F7 (by omega) r t;obtain⟨A,j⟩:=oA s (s.size+1) (bB s p).a i.2.1 u;have o:=gC s (s.size+1) (bB s p).a i.2.1;have:=sf s f (eG st (vL s p)).1 (blk s (s.size+1) (bB s p).a) l (d++[⟨vL s p,(p:Nat),((bB s p).a:Nat),l,(bB s p).n,(bB s p).x⟩]) o.2 j;rw[ux]at this;have B:F8 s ⟨vL s p,(p:Nat),((bB s p).a:Nat),l,(bB s p).n,(bB s p).x⟩+gA s (bB s p).a<=gA s p:=by
       unfold F8;simp only[jJ];rw[K]at m⊢;split
       ·rcases q with g|g<;>omega
       split
       ·rename_i C;have:=ak C;omega
       ·rcases q with g|g
        ·exact g
        ·exact absurd g.1 m
      omega
     ·exact aG _
    ·exact aG _
theorem Lk(s:ByteArray):Ar s (oz s).1<=oh 0 (cD s):=by
 have e:Ar s []=0:=rfl;have b:G9 s 0:=(D6 (s:=s) (p:=0) (.inl rfl)).1;have c:F4 s 0=0:=(D6 (s:=s) (p:=0) (.inl rfl)).2;have f:gA s 0=oh 0 (cD s):=by unfold gA;rw[c];rfl
 obtain⟨d,a⟩:=oA s (s.size+1) 0 (aG _) b;have:=sf s (s.size+1) [100,6] (blk s (s.size+1) 0) 1 [] (gC s (s.size+1) 0 (aG _)).2 a;unfold oz;split
 ·exact aG _
 split
 ·show Ar s (mE s).1<=_;unfold mE;omega
 ·exact aG _
