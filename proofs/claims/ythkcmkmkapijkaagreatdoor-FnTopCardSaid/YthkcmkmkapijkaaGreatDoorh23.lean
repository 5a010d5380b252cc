import Derived.Test.YthkcmkmkapijkaaGreatDoorh11
set_option linter.all false
set_option maxRecDepth 100000
set_option maxHeartbeats 25600000
open Go.Value renaming slice->Q
open Option renaming some->S
namespace Go.Proofs.YthkcmkmkapijkaaGreatDoor
open Go.RowKit
section
variable (w0 : World) (vt : Value) (t : Nat)
inductive BrO (p1:Addr) (n i:Nat) (ns:zLD) (N:Nd) (vn vk:Value):FuncId->zAV->Bz->Prop|br3 {word E Y Z1:Bz}{q r c:Nat}:N.ks.length=3->N.ks[0]?=some (q:Int)->N.ks[1]?=some (r:Int)->N.ks[2]?=some (c:Int)->Hid (WE w0 vt t q E)->Hid (WB w0 vt t r Y)->c<n/\(ab ns c).k≠7->Hid (WB w0 vt t c Z1)->BrO p1 n i ns N vn vk 112 #[pW w0,jq N vn vk,.string word] (word++E++⟨#[32]⟩++Y++⟨#[32,101,108,115,101,32]⟩++Z1)|bre {word E Y Z1:Bz}{q r c:Nat}:N.ks.length=3->N.ks[0]?=some (q:Int)->N.ks[1]?=some (r:Int)->N.ks[2]?=some (c:Int)->Hid (WE w0 vt t q E)->Hid (WB w0 vt t r Y)->c<n/\(ab ns c).k=7->Hid (∀an M cn ak L ck,NdR w0 p1 c (ab ns c) an M cn ak L ck->Wr w0 vt t 112 #[pW w0,jq (ab ns c) (.slice an M cn)<|.slice ak L ck,.string ⟨#[32,101,108,105,102,32]⟩] Z1)->BrO p1 n i ns N vn vk 112 #[pW w0,jq N vn vk,.string word] (word++E++⟨#[32]⟩++Y++Z1)|neg {A E:Bz}{c:Nat}:N.ks.length=1->N.ks[0]?=some (c:Int)->Hid (N.op=19)->c<n/\((ab ns c).k=30/\((ab ns c).op=19/\A=⟨#[45]⟩++⟨#[32]⟩\/(ab ns c).op≠19/\A=⟨#[45]⟩)\/(ab ns c).k≠30/\A=⟨#[45]⟩)->Hid (Wr w0 vt t 110 #[pW w0,zI (c:Int),zI 11] E)->BrO p1 n i ns N vn vk 193 #[pW w0,jq N vn vk] (A++E)
end
theorem Hy{l d n o c}(y:dE l (Q (S d) n o) c)(z:D5 l d c)(bt:c.length=n)(bE:n<=1048576){tab i N ao am al ap L p}(R1:NdR l d i N ao al ap am L p){f args bc}(br:BrO l (Q (S d) n o) tab d n i c N (Q ao al ap) (Q am L p) f args bc):
  Wr l (Q (S d) n o) tab f args bc:=by
 intro _ bf av bs;have bd:=av.lt;have bo:=R1.hL;have bz:=R1.cap;have a:=ah<|Bx.new av N (Q ao al ap)<|Q am L p;cases br
 case' br3 b _ _ _ _ _ _ h hX=>
  have⟨v,t,x,u,s,w,m⟩:=CJ y z (O:b<c.length);obtain⟨h,ax⟩:=h;have ar:((ab c b).k==7)=false:=U
 case' bre b _ _ _ _ _ _ h hX=>
  obtain⟨v,t,x,u,s,w,m⟩:=CJ y z (O:b<c.length);obtain⟨h,ax⟩:=h;have ar:=kqs ax;clear ax;have bk:=ah<|hX _ _ _ _ _ _ m;unfold jq at bk;clear hX
 case' neg b _ _ ho h hX=>
  obtain⟨v,t,x,u,s,w,m⟩:=CJ y z (O:b<c.length);have bx:=kqf ho.out;obtain⟨h,⟨a0,⟨A,rfl⟩|⟨A,rfl⟩⟩|⟨a0,rfl⟩⟩:=h;all_goals first|have ar:=kqs a0|have ar:((ab c b).k==30)=false:=U
  all_goals first|have bn:=kqs A|have bn:((ab c b).op==19)=false:=by simpa using A|skip
  all_goals clear a0;try clear A
 all_goals
  simp[az]at bs;have bD:(b:Int)<(n:Int):=O;have bA:(0:Int)<=(b:Int):=O;generalize ab c b=bb at *;have af:=ah m;obtain⟨q,rfl⟩:=R1.ks.ptr;have e:=ah R1;have bw:=bo.symm.trans O;subst bw;have⟨B,C,E,F,G,H,K,ad,r⟩:=a.cells;have ba:=a.kid0 e.ks O
  (try have bh:=a.kid e.ks (j:=1) O Z)
  (try have bj:=a.kid e.ks O Z)
  obtain⟨a1,a2,a3,a4,a5,a6,a7,a8,a9,_,_⟩:=af.rd _ a.pr.bel;have z0:=a.pr.cells.1;clear av R1 m y z bt;unfold jq;go_in
  repeat (go_wp2_with fail;refine Bx.stp a (by first|exact blR|exact eC (dj _ _)) (by with_reducible first|exact ah (Hq _)|assumption) bd (by(try simp only[az]);omega) ?_;intro bl a;have a:=ah a;clear B C E F G H K ad r;have⟨B,C,E,F,G,H,K,ad,r⟩:=a.cells;have ba:=a.kid0 e.ks byW;(try have bh:=a.kid e.ks (j:=1) byW Z);(try have bj:=a.kid e.ks (j:=2) byW Z);obtain⟨a1,a2,a3,a4,a5,a6,a7,a8,a9,_,_⟩:=af.rd _ a.pr.bel;have z0:=a.pr.cells.1)
  go_wp2_with fail;first|go_region_held3 (λg=>g.cell? (aj l.heap.size 0)=S (Q (S d) n o)/\g.cell? (aj bf.heap.size 8)=S (Q (S q) 1 p)/\g.cell? q=S (zI (b:Int))/\NdC g (d.add<|b*9) bb (Q v t x) (Q u s w)) (first|exact⟨z0,r,ba,a1,a2,a3,a4,a5,a6,a7,a8,a9⟩|((repeat' refine And.intro ?_ ?_)<;>go_keep)) (fail)|go_region_held3 (λg=>g.cell? (aj l.heap.size 0)=S (Q (S d) n o)/\g.cell? (aj bf.heap.size 8)=S (Q (S q) 3 p)/\g.cell? (aj q.block<|q.off+2)=S (zI (b:Int))/\NdC g (d.add<|b*9) bb (Q v t x) (Q u s w)) (((repeat' refine And.intro ?_ ?_)<;>go_keep)) (fail)
  repeat (go_wp2_with fail;refine Bx.stp a (by first|exact blR|exact eC (dj _ _)) (by with_reducible first|exact ah (Hq _)|assumption) bd (by(try simp only[az]);omega) ?_;intro bl a;have a:=ah a;clear B C E F G H K ad r;have⟨B,C,E,F,G,H,K,ad,r⟩:=a.cells;have ba:=a.kid0 e.ks O;(try have bh:=a.kid e.ks (j:=1) O Z);(try have bj:=a.kid e.ks O Z);obtain⟨a1,a2,a3,a4,a5,a6,a7,a8,a9,_,_⟩:=af.rd _ a.pr.bel;have z0:=a.pr.cells.1)
  go_wp2_with fail;first|go_end0|apply aA (fE R _ _ _) R
  exact Bx.fin a (by simp[aB])
