import Derived.Test.YthkcmkmkapijkaaGreatDoorh06
import Derived.Test.YthkcmkmkapijkaaGreatDoorh10
set_option linter.all false
set_option maxRecDepth 100000
set_option maxHeartbeats 12800000
open Bool renaming false->M,true->N
namespace Go.Proofs.YthkcmkmkapijkaaGreatDoor
open Go.RowKit
def bgC(c k:Int):Bool:=decide ((k=1/\bi c=N)\/((k=2\/k=3)/\co c=N)\/(k=4/\c=34))
def bgT(x:Bz)(k:Int):Bool:=decide (x.size<=(rK k).size)&&(((rK k).extract 0 x.size).toList==x.toList)
def bgL(x:Bz):zLI->Bool|[]=>M|k::r=>ite (bgC (aq x 0) k=N) N<|ite (bgT x k=N) N<|bgL x r
def yu(ks:zLI)(x:Bz):Bool:=ite (x.size=1/\aq x 0=45) N<|bgL x ks
structure auj (x:Bz) (ks:zLI) (R1:Bool):Prop where
 out:bgL x ks=R1
def ac5(w v ks)(x:Bz)(h:dt w v ks)(ax:ks.length<=1000)(ao:0<x.size)(a5:x.size<=70000):
  Calls Tryz.prog 207 #[v,.string x] w λe d=>e= .returned (.bool<|yu ks x)/\Below w.heap.size w d:=by
 have E:=λw=>dy ao w;rw[show(((0:Nat):Int))=0 from rfl]at E;obtain⟨_,_,rfl⟩:=h.form;unfold yu;by_cases l:x.size=1/\aq x 0=45
 .rw[ae l];rw[l.2]at E;have a:=l.1;exact giX blR
 .rw[aa l];have⟨t,u⟩:=aw<|bgL x ks;rw[u];have⟨p,C⟩:=aw ks.length;rw[C]at h ax⊢;have r:=fs h C;have K:auj x (ks.drop 0) t:=⟨u⟩;have⟨g,z⟩:=aw<|aq x 0;have af:=ah z;rw[z]at E l;have ap:((x.size:Int)=1/\(g==45)=M)\/((x.size:Int)==1)=M:=by
   grind
  clear h C u z l;obtain⟨p1,p2⟩|p1:=ap;all_goals
   go_in;go_wp2_with fail;clear p1;try clear p2
   go_loopw [18] (λH wr=>∃f:Nat,f<=p/\H=zI f/\auj x (ks.drop f) t/\Below w.heap.size w wr) (λH _=>p-(intOf H).toNat)
   .exact⟨0,O,R,K,blR⟩
   .
    obtain⟨f,_,rfl,s,q⟩:=hrel;clear K;have b:=s.out;by_cases av:f<p
    .have a4:(f:Int)<(p:Int):=O;have a3:(0:Int)<=(f:Int):=O;have⟨c,B⟩:=bg r.2 av;obtain⟨_,rfl,_⟩:=(r.1.below q).get B;have A:=dr.1 B;rw[my A.1,A.2,bgL,af.out]at b;have i:=ah q;clear B A s q;by_cases n:bgC g c=N
     .rw[ae n]at b;have j:=ah b;have G:=aL n;clear b n;obtain⟨rfl,a⟩|⟨rfl|rfl,a⟩|⟨rfl,rfl⟩:=G
      .go_wp2_with (go_at_call 201;apply(me a _).mono;rintro e d ⟨rfl,m⟩;subst d);go_ret;exact⟨by rw[<-j.out];rfl,i⟩
      .go_wp2_with (go_at_call 203;apply(eH a _).mono;rintro e d ⟨rfl,m⟩;subst d);go_ret;exact⟨by rw[<-j.out];rfl,i⟩
      .go_wp2_with (go_at_call 203;apply(eH a _).mono;rintro e d ⟨rfl,m⟩;subst d);go_ret;exact⟨by rw[<-j.out];rfl,i⟩
      .go_wp2;go_ret;exact⟨by rw[<-j.out];rfl,i⟩
     .rw[aa n]at b;have G:¬((c=1/\bi g=N)\/((c=2\/c=3)/\co g=N)\/(c=4/\g=34)):=λar=>n<|eI ar;have L:(c=1/\bi g=M)\/(c=2/\co g=M)\/(c=3/\co g=M)\/(c=4/\(g==34)=M)\/((c==1)=M/\(c==2)=M/\(c==3)=M/\(c==4)=M):=by
       grind
      have F:=λw=>GH c w;unfold bgT at b;generalize rK c=k at F b;clear G n;by_cases o:(decide (x.size<=k.size)&&((k.extract 0 x.size).toList==x.toList))=N
      .rw[ae o]at b;have j:=ah b;rw[dF]at o;obtain⟨ad,a1⟩:=o;have t3:(x.size:Int)<=(k.size:Int):=U;clear b ad;obtain⟨rfl,a⟩|⟨rfl,a⟩|⟨rfl,a⟩|⟨rfl,a⟩|⟨ak,al,am,an⟩:=L;all_goals
        go_wp2_with (first|(go_at_call 201;apply(me a _).mono;rintro e d ⟨rfl,m⟩;subst d)|(go_at_call 203;apply(eH a _).mono;rintro e d ⟨rfl,m⟩;subst d)|(go_at_call 192;refine(F _).mono ?_;rintro e a2 ⟨rfl,y⟩));go_ret;exact⟨by rw[<-j.out];rfl,i.out.trans<|y.mono i.size⟩
      .rw[aa o]at b;have ad:auj x (ks.drop<|f+1) t:=⟨b⟩;clear b;have a0:(x.size:Int)<=(k.size:Int)/\((k.extract 0 x.size).toList==x.toList)=M\/¬(x.size:Int)<=(k.size:Int):=by
        grind
       clear o;obtain⟨t3,a1⟩|t3:=a0;all_goals
        obtain⟨rfl,a⟩|⟨rfl,a⟩|⟨rfl,a⟩|⟨rfl,a⟩|⟨ak,al,am,an⟩:=L;all_goals
         go_wp2_with (first|(go_at_call 201;apply(me a _).mono;rintro e d ⟨rfl,m⟩;subst d)|(go_at_call 203;apply(eH a _).mono;rintro e d ⟨rfl,m⟩;subst d)|(go_at_call 192;refine(F _).mono ?_;rintro e a2 ⟨rfl,y⟩));exact⟨⟨f+1,O,by go_num,ad,i.out.trans<|y.mono i.size⟩,by simp[intOf];omega⟩
    .obtain rfl:f=p:=O;rw[lG (by rw[r.out.2];omega),bgL]at b;have j:=ah b;clear b s;go_wp2;go_ret;exact⟨by rw[<-j.out];rfl,q⟩
def A6(s:Bz)(p n:Nat):Bool:=bi (aq s p)&&(!(bi<|lk s<|p+n)&&!(co<|lk s<|p+n))
def wrL(s:Bz)(p:Nat)(ks:zLI):Nat->Nat->Nat|0,n=>n|f+1,n=>ite (p+n<s.size/\yu ks (s.extract p<|p+n+1)=N) (ite (A6 s p (n+1)=N) (n+1)<|wrL s p ks f<|n+1) n
def wrongF(s:Bz)(p:Nat)(ks:zLI):Nat:=p+wrL s p ks (s.size+1) 0
structure amf (s:Bz) (p:Nat) (ks:zLI) (f n R1:Nat):Prop where
 out:wrL s p ks f n=R1
def EG(w)(s:Bz)(p v ks)(h:dt w v ks)(G:ks.length<=1000)(bb:s.size<=70000)(a5:p<s.size):
  Calls Tryz.prog 128 #[.string s,zI p,v] w λe a=>e= .returned (zI<|wrongF s p ks)/\Below w.heap.size w a:=by
 have a6:=λw=>dy a5 w;obtain⟨ak,ao,rfl⟩:=h.form;unfold wrongF;have⟨j,u⟩:=aw<|wrL s p ks (s.size+1) 0;rw[u];have⟨a7,H⟩:=aw ks.length;have C:Hid (dt w (.slice ak a7 ao) ks/\ks.length<=1000):=⟨U,G⟩;have E:amf s p ks (s.size+1) 0 j:=⟨u⟩;rw[H];have⟨ap,A⟩:=aw<|aq s p;have ad:=ah A;rw[A]at a6;have bc:(p:Int)<(s.size:Int):=O;clear h G u A H;go_in;go_wp2;go_loopw [7] (λB wr=>∃a d,p+a<=s.size/\s.size<p+a+d/\B=zI a/\amf s p ks d a j/\Below w.heap.size w wr) (λB _=>s.size+1-(intOf B).toNat)
 .exact⟨0,_,O,O,R,E,blR⟩
 .
  obtain⟨a,d,_,_,rfl,n,k⟩:=hrel;clear E;obtain⟨d,rfl⟩:∃a0,d=a0+1:=⟨d-1,O⟩;have b:=n.out;rw[wrL]at b;by_cases a4:p+a<s.size
  .have a3:(p:Int)+(a:Int)<(s.size:Int):=O;have ba:(0:Int)<=(p:Int)+(a:Int):=O;have K:(s.extract p<|p+a+1).size=a+1:=by rw[lh];omega
   have l:=λaf a1=>ac5 af _ _ (s.extract p<|p+a+1) (C.1.below a1) C.2 O O;have ar:(p:Int)+(a:Int)+1<=(s.size:Int):=O;have av:IntKind.i64.wrap ((p:Int)+(a:Int)+1)=(p:Int)+(a:Int)+1:=by rw[du];omega
   have ax:((p:Int)+(a:Int)+1).toNat=p+a+1:=O;have c:=ah k;have⟨L,t⟩:=aw<|yu ks<|s.extract p<|p+a+1;rw[t]at l b;have a2:=c.out;cases L with
   |false=>
    rw[aa U]at b;have g:=ah b;clear b n k t K;go_wp2_with fail;refine dd (l _ c) λa8 f=>?_;clear l;go_wp2;go_ret;exact⟨by(rw[<-g.out,agk];rfl),c.out.trans<|f.mono c.size⟩|true=>
    rw[ae ⟨a4,R⟩]at b;unfold A6 at b;rw[ad.out]at b;have m:=λw=>jd s O (p+(a+1)) (p+(a+1)) O w;generalize lk s (p+(a+1))=F at m b;have⟨al,x⟩:=aw<|bi ap;have⟨am,y⟩:=aw<|bi F;have⟨an,z⟩:=aw<|co F;rw[x,y,z]at b;have q:=λw=>me x w;have r:=λw=>me y w;have o:=λw=>eH z w;have a9:=ah k;clear x y z n k t K a2;go_wp2_with fail;refine dd (l _ c) λa8 f=>?_;clear l ar av ax;cases al with
    |false=>
     have i:amf s p ks d (a+1) j:=⟨b⟩;clear b r o m;go_wp2_with (first|(go_at_call 201;apply ez<|q _));exact⟨⟨_,d,O,O,by go_num,i,c.out.trans<|f.mono c.size⟩,by simp[intOf];omega⟩
    |true=>
     cases am with
     |true=>
      have i:amf s p ks d (a+1) j:=⟨b⟩;clear b o;go_wp2_with (first|(go_at_call 201;with_reducible refine ez (q _) ?_)|(go_at_call 201;apply ez<|r _)|(go_at_call 200;apply ez<|m _));exact⟨⟨_,d,O,O,by go_num,i,c.out.trans<|f.mono c.size⟩,by simp[intOf];omega⟩
     |false=>
      cases an with
      |true=>
       have i:amf s p ks d (a+1) j:=⟨b⟩;clear b;go_wp2_with (first|(go_at_call 201;with_reducible refine ez (q _) ?_)|(go_at_call 201;apply ez<|r _)|(go_at_call 203;apply ez<|o _)|(go_at_call 200;apply ez<|m _));exact⟨⟨_,d,O,O,by go_num,i,c.out.trans<|f.mono c.size⟩,by simp[intOf];omega⟩
      |false=>
       have g:=ah b;clear b;go_wp2_with (first|(go_at_call 201;with_reducible refine ez (q _) ?_)|(go_at_call 201;apply ez<|r _)|(go_at_call 203;apply ez<|o _)|(go_at_call 200;apply ez<|m _));go_ret;exact⟨by(rw[<-g.out,agk];rfl),c.out.trans<|f.mono c.size⟩
  .rw[aa O]at b;have g:=ah b;have a3:¬(p:Int)+(a:Int)<(s.size:Int):=O;clear b n;go_wp2;go_ret;exact⟨by(rw[<-g.out];rfl),k⟩
