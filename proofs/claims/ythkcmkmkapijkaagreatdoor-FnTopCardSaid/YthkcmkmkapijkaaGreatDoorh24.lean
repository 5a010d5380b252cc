import Derived.Test.YthkcmkmkapijkaaGreatDoorh11
set_option linter.all false
set_option maxRecDepth 100000
set_option maxHeartbeats 12800000
open Go.Value renaming slice->M
namespace Go.Proofs.YthkcmkmkapijkaaGreatDoor
open Go.RowKit
def EnW(e:World)(d:Value)(t:Nat)(X:Nd)(c:Bz):Prop:=
 (X.k=41/\X.ks.length=2/\∃(b g:Nat) (a f:Bz),X.ks[0]?=some (b:Int)/\X.ks[1]?=some (g:Int)/\Hid (WE e d t b a)/\Hid (WE e d t g f)/\c=⟨#[91]⟩++a++⟨#[93,32,61,32]⟩++f)
  \/(X.ks.length=1/\∃(b:Nat) (a:Bz),X.ks[0]?=some (b:Int)/\Hid (WE e d t b a)/\(X.k=42/\c=⟨#[46]⟩++X.x++⟨#[32,61,32]⟩++a\/(X.k≠41/\X.k≠42)/\c=a))
def ajp{c o n r b}(K:dE c (M (some o) n r) b)(L:D5 c o b)(cb:b.length=n)(b9:n<=1048576){E tab N am al}(t:dt c al N.ks)(bd:N.ks.length<=1048576)
  (H:∀z∈N.ks,∃k:Nat,z=(k:Int)/\k<b.length/\EnW c (M (some o) n r) tab (ab b k) (uK b E<|ab b k)):Wr c (M (some o) n r) tab 195 #[pW c,jq N am al] (ae1 b E N):=by
 intro v bk w A;obtain⟨a0,a5,rfl⟩:=t.form;have⟨e,x⟩:=aw N.ks.length;rw[x]at t bd⊢;have bh:=w.lt;have a:=ah<|Bx.new w N am<|M a0 e a5;unfold ae1 at A⊢;obtain⟨d,B⟩:∃d,(N.ks.map λk=>uK b E<|ab b k)=d:=⟨_,R⟩;rw[B]at A⊢;have ad:d.length=e:=U;simp[az]at A;have b3:(⟨#[123]⟩:Bz).size=1:=rfl;have b4:fj.size=2:=rfl;have F:=fs K L;have i:=Lx t H x B ad;clear w K L t H x B ad;unfold jq;go_in;go_wp2_with fail;apply Bx.stp a blR (Hq _) bh O;intro ax a;have a:=ah a;have a4:=a.cells.2.2.2.2.2.2.2.2;go_wp2;go_loopw [12] (λC wr=>∃k:Nat,k<=e/\C=zI k/\Hid (Pr c (M (some o) n r) (v++⟨#[123]⟩++cD (d.take k)) tab wr/\Kq c.heap.size bk wr)) (λC _=>e-(intOf C).toNat)
 .exact⟨0,O,R,by rw[show v++⟨#[123]⟩++cD (d.take 0)=v++⟨#[123]⟩ from lj];exact a.pr,a.kq⟩
 .
  clear a4 a;obtain⟨k,_,rfl,f⟩:=hrel;by_cases bc:k<e
  .have⟨z,u⟩:=bg i.2.2.1 bc;obtain⟨h,rfl,af,bj⟩:=i.2.1 z<|db u;obtain⟨_,rfl,_⟩:=(i.1.below f.1.bel).get u;have b7:(k:Int)<(e:Int):=O;have b6:(0:Int)<=(k:Int):=O;have m:=rG d k (uK b E _) (by rw[<-i.out.2.2.2.1,cJ,u];rfl);have s:=Ge d<|k+1;have cd:(h:Int)<(n:Int):=O;have cc:(0:Int)<=(h:Int):=O;have⟨a3,ar,a7,a2,ap,a6,l⟩:=CJ F.1 F.2 af;generalize ab b h=q at *;generalize uK b E q=b0 at *;have⟨_,y⟩:=aw<|cD<|d.take<|k+1;rw[y]at m s;have ao:=ah y;clear y u;obtain h0|h0:=F7 k
   case' inl=>
    rw[ae h0]at m;have G:¬(0:Int)<(k:Int):=O;clear h0;have P:=f
   case' inr=>
    rw[aa O]at m;have G:(0:Int)<(k:Int):=O;subst m;simp[az]at s;go_wp2_with fail;apply(ig c _ _ fj tab _ f.1 U).mono;rintro a8 _ ⟨rfl,p,g⟩;have P:=fs p<|f.2.trans g;clear p g
   all_goals
    try subst m
    try simp only[az]at s
    have bb:=l.hL;have⟨z0,bE,bF⟩:=P.1.cells;have bf:=P.1.lt;obtain⟨_,_,_,_,_,_,_,_,_,_,_⟩:=l.rd _ P.1.bel;have a:=ah<|Bx.new P.1 q (M a3 ar a7)<|M a2 ap a6;obtain⟨g,G,h,_,E,_,a9,_,av,_,rfl⟩|⟨G,h,E,a9,av,⟨g,rfl⟩|⟨g,rfl⟩⟩:=bj;all_goals
     try simp only[az]at s
     obtain⟨_,rfl⟩:=l.ks.ptr;obtain rfl:=bb.symm.trans G;have p:=ah l;first|have ba:=kqs g;have h:=kqf g|have ba:(q.k==41)=false:=U
     try have b5:(q.k==42)=false:=by simpa using g.2
     clear g;have⟨bl,bn,bo,br,bs,bt,bw,bx,bz⟩:=a.cells
     (have bA:=a.kid0 p.ks O)
     (try have bD:=a.kid p.ks O Z)
     clear l bF bE af
     repeat (go_wp2_with fail;refine Bx.stp a (by first|exact blR|exact dj _ _) (by with_reducible first|exact ah (Hq _)|assumption) bf (by simp only[az];omega) ?_;intro ax a;have a:=ah a;have⟨bl,bn,bo,br,bs,bt,bw,bx,bz⟩:=a.cells;(try have bA:=a.kid0 p.ks byW);(try have bD:=a.kid p.ks (j:=1) byW Z))
     go_wp2;exact⟨⟨k+1,O,by go_num,by rw[ao.out];have:=a.pr;simpa only[aB] using this,P.2.trans a.kq⟩,by simp[intOf];omega⟩
  .obtain rfl:k=e:=O;go_wp2_with fail;apply(ig c _ _ _ _ _ f.1 (by have:=Ge d k;grind)).mono;rintro a8 _ ⟨rfl,g,h⟩;go_wp2_with fail;go_end0
   refine⟨R,?_,f.2.trans h⟩;rw[ci (by rw[i.out.2.2.2.2];omega)]at g;rw[<-aB,<-aB];exact g
