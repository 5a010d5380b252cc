import Derived.Test.YtiaechpcebhcdaaGreatDoorHYk08
set_option linter.all false
set_option maxRecDepth 100000
set_option maxHeartbeats 12800000
open Go.Value renaming slice->M
namespace Go.Proofs.YtiaechpcebhcdaaGreatDoor
open Go.RowKit
def EnW(e:World)(d:Value)(t:Nat)(X:Nd)(c:Bz):Prop:=
 (X.k=41/\X.ks.length=2/\∃(b g:Nat) (a f:Bz),X.ks[0]?=some (b:Int)/\X.ks[1]?=some (g:Int)/\Hid (WE e d t b a)/\Hid (WE e d t g f)/\c=⟨#[91]⟩++a++⟨#[93,32,61,32]⟩++f)
  \/(X.ks.length=1/\∃(b:Nat) (a:Bz),X.ks[0]?=some (b:Int)/\Hid (WE e d t b a)/\(X.k=42/\c=⟨#[46]⟩++X.x++⟨#[32,61,32]⟩++a\/(X.k≠41/\X.k≠42)/\c=a))
def agc{b:World}{m:Addr}{n q:Nat}{ns:List Nd}(H:fj b (M (some m) n q) ns)(K:Co b m ns)(cl:ns.length=n)(ch:n<=1048576){E:Int->Bz}{tab:Nat}{N:Nd}{vn vk:Value}(s:dz b vk N.ks)(bd:N.ks.length<=1048576)
  (G:∀z∈N.ks,∃k:Nat,z=(k:Int)/\k<ns.length/\EnW b (M (some m) n q) tab (nodeI ns k) (A4 ns E (nodeI ns k))):Wr b (M (some m) n q) tab 220 #[pW b,jA N vn vk] (ahJ ns E N):=by
 intro u bk v y;obtain⟨aL,a4,rfl⟩:=s.form;obtain⟨d,w⟩:=aw N.ks.length;rw[w]at s bd⊢;have bg:=v.lt;have a:=aj (Bx.new v N vn (M aL d a4));unfold ahJ at y⊢;obtain⟨c,A⟩:∃c,(N.ks.map λk=>A4 ns E (nodeI ns k))=c:=⟨_,rfl⟩;rw[A]at y⊢;have L:c.length=d:=U;simp only[ax]at y;have b7:(⟨#[123]⟩:Bz).size=1:=rfl;have b9:lm.size=2:=rfl;have C:=fD H K;have h:=It s G w A L;clear v H K s G w A L;unfold jA;go_in;go_wp2_with fail;refine Bx.stp a (ai _ _) (Ef _) bg O ?_;intro av a;have a:=aj a;have a3:=a.cells.2.2.2.2.2.2.2.2;go_wp2;go_loopw [12] (λB wr=>∃k:Nat,k<=d/\B= .int .i64 k/\Hid (Pr b (M (some m) n q) (u++⟨#[123]⟩++gx (c.take k)) tab wr/\Kq b.heap.size bk wr)) (λB _=>d-(intOf B).toNat)
 case atStart=>exact⟨0,O,rfl,by rw[show u++⟨#[123]⟩++gx (c.take 0)=u++⟨#[123]⟩ from ByteArray.append_empty];exact a.pr,a.kq⟩
 case round=>
  clear a3 a;obtain⟨k,ce,rfl,f⟩:=hrel;by_cases bb:k<d
  .obtain⟨z,t⟩:=dh h.2.2.1 bb;obtain⟨e,rfl,ad,bh⟩:=h.2.1 z (da t);obtain⟨b6,rfl,cb⟩:=(h.1.below f.1.bel).get t;have cg:(k:Int)<(d:Int):=O;have cf:(0:Int)<=(k:Int):=O;have l:=qh c k (A4 ns E (nodeI ns e)) (by rw[<-h.out.2.2.2.1,dw,t];rfl);have r:=Df c (k+1);have cp:(e:Int)<(n:Int):=O;have cm:(0:Int)<=(e:Int):=O;obtain⟨a2,ap,a6,a0,ao,a5,i⟩:=Ae C.1 C.2 ad;generalize nodeI ns e=p at *;generalize A4 ns E p=b4 at *;obtain⟨b5,x⟩:=aw (gx (c.take (k+1)));rw[x]at l r;have am:=aj x;clear x t;rcases rp k with h0|h0
   case' inl=>
    rw[ab h0]at l;have bc:¬(0:Int)<(k:Int):=O;clear h0;have P:=f
   case' inr=>
    rw[aa O]at l;have bc:(0:Int)<(k:Int):=O;subst l;simp only[ax]at r;go_wp2_with fail;refine(gw b _ _ lm tab _ f.1 U).mono ?_;rintro a7 cF ⟨rfl,ag,af⟩;have P:=fD ag (f.2.trans af);clear ag af
   all_goals
    try subst l
    try simp only[ax]at r
    have ba:=i.hL;obtain⟨z0,bD,bE⟩:=P.1.cells;have bf:=P.1.lt;obtain⟨cq,cr,ct,cu,cv,cw,cx,cy,cz,_,_⟩:=i.rd _ P.1.bel;have a:=aj (Bx.new P.1 p (M a2 ap a6) (M a0 ao a5));rcases bh with⟨g,F,e,cB,E,b0,a8,cc,ar,b3,rfl⟩|⟨F,e,E,a8,ar,⟨g,rfl⟩|⟨g,rfl⟩⟩;all_goals
     try simp only[ax]at r
     obtain⟨cA,rfl⟩:=i.ks.ptr;obtain rfl:=ba.symm.trans F;have o:=aj i;first|have a9:=kqs g;have e:=kqf g|have a9:(p.k==41)=false:=U
     try have cd:(p.k==42)=false:=by simpa using g.2
     clear g;obtain⟨bl,bn,bo,bp,br,bs,bt,bv,bw⟩:=a.cells
     (try have bx:=a.kid0 o.ks O)
     (try have bA:=a.kid o.ks (j:=1) Cm Z)
     clear i bE bD ad
     repeat (go_wp2_with fail;refine Bx.stp a (by first|exact ai _ _|exact de _ _) (by with_reducible first|exact aj (Ef _)|assumption) bf (by simp only[ax];omega) ?_;intro av a;have a:=aj a;obtain⟨bl,bn,bo,bp,br,bs,bt,bv,bw⟩:=a.cells;(try have bx:=a.kid0 o.ks Cm);(try have bA:=a.kid o.ks (j:=1) Cm Z))
     go_wp2;exact⟨⟨k+1,O,by go_num,by rw[am.out];have:=a.pr;simpa only[dJ] using this,P.2.trans a.kq⟩,by simp[intOf];omega⟩
  .obtain rfl:k=d:=O;go_wp2_with fail;refine(gw b _ _ ⟨#[125]⟩ _ _ f.1 (by have:=Df c k;grind)).mono ?_;rintro a7 cI ⟨rfl,al,bj⟩;go_wp2_with fail;go_end0
   refine⟨rfl,?_,f.2.trans bj⟩;rw[dH (by rw[h.out.2.2.2.2];omega)]at al;rw[<-dJ,<-dJ];exact al
