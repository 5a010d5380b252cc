import Derived.Test.YtnlhhmlcjbohbaaGreatDoorHNk09
import Derived.Test.YtnlhhmlcjbohbaaGreatDoorHNk16
import Derived.Test.YtnlhhmlcjbohbaaGreatDoorHNk12
import Derived.Test.YtnlhhmlcjbohbaaGreatDoorHNk13
set_option linter.all false
set_option maxRecDepth 100000
set_option maxHeartbeats 6400000
open Go.Value renaming int->M,string->U,pointer->B0
open Go.IntKind renaming i64->N
open Go renaming World->O,Calls->B1,wpAnyH_ready->B3
open List renaming set->V
open Option renaming some->Z,none->A9
open Go.Proofs.Tryz renaming prog->Ax
open Go.Calls renaming quiet_of_same->A0
open Go.Ending renaming returned->A2
open Go.Obj renaming cells->A5
open Go.RowKit renaming Below->Br,intOf->B4
namespace Go.Proofs.YtnlhhmlcjbohbaaGreatDoor
open Go.RowKit Go.Maps Go.WideMaps
attribute [local go_sem] kH
theorem py(w:O)(b i:Nat)(v:Value):w.grownBy (w.setCell ⟨b,i,A9⟩ v) (Z b):=
 ⟨rfl,rfl,rfl,by simp[World.setCell],fun d c a=>aC _ _ _ _ (by simpa using a)⟩
theorem aho(s:ByteArray)(p:Nat)(w:O):B1 Ax 80 #[U (s.extract p s.size),U ⟨#[45,45]⟩] w fun e w'=>e= A2 (.bool (decide (aq s p=45/\aq s (p+1)=45)))/\w'=w:=by
 have a:=Tryz.strings_HasPrefix (s.extract p s.size) ⟨#[45,45]⟩ w;rw[show(⟨#[45,45]⟩:ByteArray).data.toList=[45,45] from rfl,G1]at a;exact a
structure amq (q:Int->Bool) (s:ByteArray) (f p e:Nat):Prop where
 out:ic q s f p=e
def cmL(a b:ByteArray):Nat->Nat->Nat
 |0,n=>n
 |f+1,n=>if n<a.size/\n<b.size/\aq a n=aq b n then cmL a b f (n+1) else n
def cmF(a b:ByteArray):Nat:=cmL a b (a.size+1) 0
structure aoe (a b:ByteArray) (f n R:Nat):Prop where
 out:cmL a b f n=R
theorem D6(w:O)(a b:ByteArray)(B:a.size<=1100000)(C:b.size<=1100000):
  B1 Ax 85 #[U a,U b] w fun e w'=>e= A2 (M N (cmF a b))/\Br w.heap.size w w':=by
 unfold cmF;obtain⟨k,n⟩:=aA (cmL a b (a.size+1) 0);rw[n];have r:aoe a b (a.size+1) 0 k:=⟨n⟩;clear n;go_in;go_wp21
 go_loopw [5] (fun p wr=>∃(c f:Nat),c<=a.size/\a.size<c+f/\p= M N c/\aoe a b f c k/\Br w.heap.size w wr) (fun p _=>a.size+1-(B4 p).toNat)
 case atStart=>exact⟨0,a.size+1,by omega,by omega,rfl,r,ah _ _⟩
 case round=>
  obtain⟨c,f,F,E,rfl,q,s⟩:=hrel;clear r;obtain⟨f,rfl⟩:∃v,f=v+1:=⟨f-1,by omega⟩;have d:=q.out;rw[cmL]at d;have j:∀o,Br w.heap.size w (wr.drewN o):=fun o=>s.trans (adC _ wr o);clear q s;by_cases l:c<a.size
  ·have x:(c:Int)<(a.size:Int):=by omega
   by_cases m:c<b.size
   ·have y:(c:Int)<(b.size:Int):=by omega
    have t:=fun w=>db l w;have z:=fun w=>db m w;by_cases g:aq a c=aq b c
    ·rw[ab ⟨l,m,g⟩]at d;rw[g]at t;have u:aoe a b f (c+1) k:=⟨d⟩;clear d g;generalize aq b c=A at t z;go_wp21
     go_quiet (fail)
     go_wp21
     exact⟨⟨c+1,f,by omega,by omega,by go_num,u,j _⟩,by simp[B4];omega⟩
    ·rw[aa (fun i=>g i.2.2)]at d;have h:=aw d;have G:=beq_eq_false_iff_ne.2 g;clear d g;go_wp21
     go_quiet (fail)
     go_wp21
     go_ret;exact⟨by rw[<-h.out];rfl,j _⟩
   ·rw[aa (fun i=>m i.2.1)]at d;have h:=aw d;have y:¬(c:Int)<(b.size:Int):=by omega
    clear d;go_wp21
    go_quiet (fail)
    go_wp21
    go_ret;exact⟨by rw[<-h.out];rfl,j _⟩
  ·rw[aa (fun i=>l i.1)]at d;have h:=aw d;have x:¬(c:Int)<(a.size:Int):=by omega
   clear d;go_wp21
   go_quiet (fail)
   go_wp21
   go_ret;exact⟨by rw[<-h.out];rfl,j _⟩
def bnC(k c:Int):Bool:=if k=1 then ba c else if k=2 then bc c else if k=3 then bc c else decide (c=34)
def bnF(k:Int)(x:ByteArray):Nat:=if x.size=0 then 0 else if k=1\/k=2\/k=3\/k=4 then(if bnC k (aq x 0)=true then x.size else 0) else cmF x (dB k)
theorem ahp(k:Int):(dB k).size<=6:=by
 by_cases c:0<=k/\k<=78
 ·have a:∀b:Fin 79,(dB (b.val:Int)).size<=6:=by decide+kernel
  have:=a ⟨k.toNat,by omega⟩;rw[show(((⟨k.toNat,by omega⟩:Fin 79).val:Nat):Int)=k by simp;omega]at this;exact this
 ·unfold dB;rw[aa (by omega),aa (by omega),aa (by omega),aa (by omega),aa (by omega)];decide
theorem EL(w:O)(k:Int)(x:ByteArray)(j:si w)(r:x.size<=1100000)(z:1<=k)(A:k<=78):
  B1 Ax 86 #[M N k,U x] w fun e w'=>e= A2 (M N (bnF k x))/\Br w.heap.size w w':=by
 unfold bnF;by_cases f:x.size=0
 ·rw[ab f];have e:x=⟨#[]⟩:=by
   obtain⟨n⟩:=x;have:n.size=0:=f
   congr
   exact Array.eq_empty_of_size_eq_zero this
  subst e;go_in;go_wp21
  go_ret;exact⟨rfl,ah _ _⟩
 ·rw[aa f];have v:(x.toList==[])=false:=by
   have:x.toList.length=x.size:=by rw[fC];simp
   cases hs:x.toList with
   |nil=>rw[hs]at this;simp at this;omega
   |cons u G=>rfl
  have g:=fun w=>db (s:=x) (i:=0) (by omega) w;rw[show(((0:Nat):Int))=0 from rfl]at g;have q:(k=1\/k=2\/k=3\/k=4)\/¬(k=1\/k=2\/k=3\/k=4):=Classical.em _;rcases q with h|h
  ·rw[ab h];generalize aq x 0=a at g⊢;have d:=fun w=>mA a w;have c:=fun w=>je a w;rcases h with rfl|rfl|rfl|rfl
   ·rw[show bnC 1 a=ba a from rfl];clear c;cases b:ba a;all_goals
     rw[b]at d;go_in;go_wp2_with (go_at_call 123;refine(d _).mono ?_;rintro e w' ⟨rfl,rfl⟩);go_ret;exact⟨rfl,ah _ _⟩
   ·rw[show bnC 2 a=bc a from rfl];clear d;cases b:bc a;all_goals
     rw[b]at c;go_in;go_wp2_with (go_at_call 125;refine(c _).mono ?_;rintro e w' ⟨rfl,rfl⟩);go_ret;exact⟨rfl,ah _ _⟩
   ·rw[show bnC 3 a=bc a from rfl];clear d;cases b:bc a;all_goals
     rw[b]at c;go_in;go_wp2_with (go_at_call 125;refine(c _).mono ?_;rintro e w' ⟨rfl,rfl⟩);go_ret;exact⟨rfl,ah _ _⟩
   ·rw[show bnC 4 a=decide (a=34) from rfl];clear d c;by_cases b:a=34
    ·subst b;go_in;go_wp21
     go_ret;exact⟨rfl,ah _ _⟩
    ·rw[aD b];go_in;go_wp21
     go_ret;exact⟨rfl,ah _ _⟩
  ·rw[aa h];have B:¬k=1:=by omega
   have C:¬k=2:=by omega
   have E:¬k=3:=by omega
   have F:¬k=4:=by omega
   have m:=wI k (by omega) (by omega) w j;have p:=ahp k;have l:=fun w=>D6 w x (dB k) r (by omega);generalize dB k=t at m l p⊢;clear h g j;go_in;go_wp2_with (first|(go_at_call 131;refine m.mono ?_;rintro e w' ⟨rfl,y⟩;subst w')|(go_at_call 85;refine(l _).mono ?_;rintro e H ⟨rfl,o⟩));go_ret;exact⟨rfl,o⟩
def rcF(x:ByteArray)(a:List Int)(m:Nat):Nat:=a.foldl (fun m k=>max m (bnF k x)) m
def xh:ByteArray:=⟨#[45,45]⟩
def xL(st:List Int)(x:ByteArray):Nat:=rcF x (mo st 78) (cmF x xh)
structure ak2 (x:ByteArray) (L:List Int) (j m R:Nat):Prop where
 out:rcF x (L.drop j) m=R
theorem D7(a b:ByteArray):∀f n,n<=a.size->cmL a b f n<=a.size
 |0,n,h=>h
 |f+1,n,h=>by
  rw[cmL];split
  ·rename_i c;exact D7 a b f (n+1) (by omega)
  ·exact h
theorem ahq(k:Int)(x:ByteArray):bnF k x<=x.size:=by
 unfold bnF;split
 ·omega
 split
 ·split<;>omega
 ·exact D7 _ _ _ _ (aF _)
theorem abe(x:ByteArray):∀(L:List Int)(m:Nat),m<=x.size->rcF x L m<=x.size
 |[],m,h=>h
 |k::L,m,h=>by
  show rcF x L (max m (bnF k x))<=x.size;exact abe x L _ (by have:=ahq k x;omega)
theorem Cx(st:List Int)(x:ByteArray):xL st x<=x.size:=abe x _ _ (D7 _ _ _ _ (aF _))
theorem Ga(w:O)(base u mb:Nat)(st:List Int)(x:ByteArray)(h:GQ w base u mb st)(L:si w)(al:x.size<=1100000):
  B1 Ax 48 #[B0 (Z ⟨u,0,A9⟩),U x] w fun e w'=>e= A2 (M N (xL st x))/\Br w.heap.size w w':=by
 obtain⟨b,r⟩:=aA (mo st 78);obtain⟨j,v⟩:=aA (xL st x);have ak:=Km st 78;have ag:=Ds st 78;rw[r]at ak ag;have o:ak2 x b 0 (cmF x xh) j:=⟨by rw[<-v,<-r];rfl⟩;rw[v];have C:=D6 w x xh al (by decide);have y:cmF x xh<=x.size:=D7 _ _ _ _ (aF _);have H:=dC h L;clear h v L;unfold xh at C;go_in;go_wp2_with fail;refine C.mono ?_;rintro e a5 ⟨rfl,p⟩;have E:=FH a5 base u mb st (H.1.below p);rw[r]at E
 change ak2 x b 0 (cmF x ⟨#[45,45]⟩) j at o
 change cmF x ⟨#[45,45]⟩<=x.size at y
 generalize cmF x ⟨#[45,45]⟩=a3 at o y⊢;clear C;go_wp2_with fail;refine E.mono ?_;rintro e m ⟨am,a8,rfl,f,J⟩;clear E;have I:Br w.heap.size w m:=p.trans (J.mono p.size);obtain⟨l,z⟩:=aA b.length;rw[z]at f ag⊢;have d:=iF f z I;clear f z I J p r;go_wp2_with fail;go_loopw [5,13] (fun a4 F wr=>∃(a i:Nat),a<=l/\i<=x.size/\a4= M N (i:Int)/\F= M N (a:Int)/\ak2 x b a i j/\Br m.heap.size m wr) (fun _ F _=>l-(B4 F).toNat)
 case atStart=>exact⟨0,a3,aF _,y,rfl,rfl,o,ah _ _⟩
 case round=>
  obtain⟨a,i,a9,be,rfl,rfl,n,k⟩:=hrel;clear o;by_cases a1:a<l
  ·obtain⟨c,s⟩:∃c,b[a]?=Z c:=⟨_,aE (by rw[d.out.2.1];exact a1)⟩;have a2:=ak c (cG s);have af:b.drop a=c::b.drop (a+1):=by
    obtain⟨ao,ap⟩:=List.getElem?_eq_some_iff.1 s;rw[iH ao,ap]
   have f:=bJ d.1 k;obtain⟨q,rfl⟩:∃q,am=Z ⟨q,0,A9⟩:=by
    rcases bq f with⟨h,_⟩|⟨q,a7,h⟩
    ·omega
    ·cases h;exact⟨_,rfl⟩
   have an:wr.cell? ⟨q,a,A9⟩=Z (M N c):=by rw[f.cellAt a (by omega),bK,s];rfl
   have g:=n.out;rw[af]at g;have A:rcF x (b.drop (a+1)) (max i (bnF c x))=j:=g;have ad:Br w.heap.size w wr:=d.2.2.trans (k.mono d.2.2.size);have B:=EL wr c x (H.2.below ad (ae _)) al a2.1 (by omega);have a0:=ahq c x;generalize bnF c x=G at A B a0;have t:ak2 x b (a+1) (max i G) j:=⟨A⟩;have bd:(a:Int)<(l:Int):=by omega
   have bb:(0:Int)<=(a:Int):=by omega
   clear g A af s n f ad;go_wp2_with fail;refine B.mono ?_;rintro e a6 ⟨rfl,K⟩;have ar:Br m.heap.size m a6:=k.trans (K.mono k.size);clear B K an;go_wp2_with fail;exact⟨⟨a+1,max i G,by omega,by omega,by congr 1;omega,by push_cast;rfl,t,ar⟩,by simp[B4];omega⟩
  ·obtain rfl:a=l:=by omega
   have g:=n.out;rw[ju (by rw[d.out.2.1];exact ae _)]at g;have t:=aw g;clear g n;go_wp2_with fail;go_ret;exact⟨by rw[<-t.out];rfl,d.2.2.trans (k.mono d.2.2.size)⟩
attribute [local go_sem] kH
def ScX(b:Nat)(W:O):Prop:=∃a c,W.heap[b]?=Z (A5 a 100 c)
theorem xA.x{b:Nat}{W:O}{s:ByteArray}{m:Value}{p l:Int}{k:Bool}(h:xA b W s m p l k):ScX b W:=by obtain⟨a,h⟩:=h;exact⟨_,_,h⟩
structure Iw (b mb B:Nat) (s:ByteArray) (I:Nat->Int->O->Prop) (W:O) (q:Nat) (l2:Int) (p:Nat) (l:Int):Prop where
 sc:xA b W s (.map (Z mb)) q l2 false
 mp:W.ownsMap Ax 9 (plainElem (H:=Unit) Ax 3) mb 22 (yA 22)
 ly:Fy W
 ii:I p l W
 sz:B<=W.heap.size
theorem Iw.gr{b mb B:Nat}{s:ByteArray}{I:Nat->Int->O->Prop}{W a:O}{p q f g:Nat}{l n d e:Int}(h:Iw b mb B s I W q n p l)(i:∀p l W a,I p l W->ScX b W->W.grownBy a (Z b)->I p l a)(k:mb≠b)(r:12<=b)(o:12<=B)(c:W.grownBy a (Z b))(hS:xA b a s (.map (Z mb)) g e false)(j:I p l a->I f d a):Iw b mb B s I a g e f d:=
 ⟨hS,h.mp.kept c (by simp[k]),h.ly.blocks (fun m t=>c.block m (by have:=h.sz;omega) (by simp;omega)),j (i _ _ _ _ h.ii h.sc.x c),bg h.sz c.size⟩
structure ry (s:ByteArray) (p:Nat):Prop where
 lt:p<s.size
 nb:¬gG (aq s p)=true
 nd:¬(aq s p=45/\aq s (p+1)=45)
inductive ac5 (b mb B:Nat) (s:ByteArray) (I:Nat->Int->World->Prop) (W:World):Prop
 |fin (l:Int) (h:Iw b mb B s I W s.size l s.size l)
 |bad (p:Nat) (l:Int) (hp:ry s p) (hr:(rdI s p).ok=false) (hS:gH b W s (.map (some mb)) (p:Int) ((rdI s p).a:Int) (l+(rdI s p).d) true) (hy:Fy W) (hz:B<=W.heap.size) (hi:I p l W)
theorem aeD(n l b mb B:Nat)(s:ByteArray)(d7:s.size<=70000)(d0:b<B)(av:mb≠b)(ap:12<=b)
  (I:Nat->Int->O->Prop) (ag:∀p l W j,I p l W->ScX b W->W.grownBy j (Z b)->I p l j) (b1:∀p q l W,blk s (s.size+1) p=blk s (s.size+1) q->p<=q->q<=s.size->I p l W->I q l W) (dx:∀p l W,I p l W->0<=l/\l<=(p:Int)+1/\p<=s.size)
  (h:O->Prop) (dn:∀W j,KeepsFrom B W j->h W->h j) (Pn:List PanicEntry->O->Prop)
  (cm:∀p c W,ry s p->(rdI s p).ok=true->Iw b mb B s I W (rdI s p).a (c+(rdI s p).d) p c->h W->YieldAt Fence.wide (n-1) Ax l #[vTk ⟨(rdI s p).k,(p:Int),((rdI s p).a:Int),c,(rdI s p).n,(rdI s p).x⟩] W fun e j=>(e= A2 (.bool true)/\Iw b mb B s I j (rdI s p).a (c+(rdI s p).d) (rdI s p).a (c+(rdI s p).d)/\h j)\/(∃an,e= .panicked an/\Pn an j))
  (W:O) (b8:Nat) (b7:Int) (br:Iw b mb B s I W b8 b7 b8 b7) (dg:h W):
  CallsIn Fence.wide n Ax 46 #[B0 (Z ⟨b,0,A9⟩),.func (.yield l) #[] #[]] W fun e j=>((∃v,e= A2 v)/\ac5 b mb B s I j/\h j)\/(∃an,e= .panicked an/\Pn an j):=by
 have bk:∀{g ce:O},g.grownBy ce (Z b)->h g->h ce:=fun d3 f=>dn _ _ (KeepsFrom.of_grownBy d3 (fun bw e=>by cases e;exact d0)) f;refine callsIn_wide.2 ?_;go_in;go_wp2;go_step3
 go_wp2;go_step3
 go_wp2;have a1:∀{g:O}{p:Nat}{c:Int}(q:Nat),Iw b mb B s I g p c p c->Iw b mb B s I (g.drewN q) p c p c:=fun q f=>f.gr ag av ap (by omega) (uv (pj _ b) q) f.sc id;have J:∀{g:O}(q:Nat),h g->h (g.drewN q):=fun q f=>bk (uv (pj _ b) q) f;have ec:∀{g:O}{p:Nat}{c:Int}(a0:Nat),blk s (s.size+1) p=blk s (s.size+1) a0->p<=a0->a0<=s.size->Iw b mb B s I g p c p c->Iw b mb B s I (g.setCell ⟨b,3,A9⟩ (M N (a0:Int))) a0 c a0 c:=fun a0 d1 d5 ea f=>f.gr ag av ap (by omega) (py _ b 3 _) (f.sc.setP _) (b1 _ _ _ _ d1 d5 ea);have cz:∀{g:O}(v:Value),h g->h (g.setCell ⟨b,3,A9⟩ v):=fun v f=>bk (py _ b 3 v) f;go_loopw [] (fun wr=>∃(p:Nat) (c:Int),Iw b mb B s I wr p c p c/\h wr) (fun wr=>s.size-Fh b wr)
 case atStart=>exact⟨b8,b7,br,dg⟩
 case round=>
  obtain⟨p,c,a5,b0⟩:=hrel;have b3:=xA.pos a5.sc;obtain⟨d6,em,cu⟩:=dx _ _ _ a5.ii;obtain⟨o,r,t,u,w,y,z,A⟩:=xA.cells a5.sc;by_cases bj:p<s.size
  ·have eq:(p:Int)<(s.size:Int):=by omega
   have b6:=fun i=>db bj i;have bA:=aw b3;clear b3;go_wp2_with fail;go_quiet (fail)
   go_wp2_with fail;have bb:=a1 nq a5;have bo:=J nq b0;generalize wr.drewN nq=c6 at bb bo⊢;clear o r t u w y z A a5 b0;obtain⟨o,r,t,u,w,y,z,A⟩:=xA.cells bb.sc;have a7:∀i,B1 Ax 79 #[M .u8 (aq s p)] i fun e cB=>e= A2 (.bool (gG (aq s p)))/\cB=i:=fun i=>(Jf _ i).mono fun e cB f=>⟨f.1,f.2.symm⟩;cases hbl:gG (aq s p) with
   |true=>
    have bf:=wn s p bj hbl;rw[hbl]at a7;generalize aq s p=c9 at b6 a7;clear hbl;go_quiet ((go_at_call 79;exact A0 (a7 _)))
    have G:=ec (p+1) bf (by omega) (by omega) (a1 nq bb);have af:=cz (M N ((p+1:Nat):Int)) (J nq bo);rw[show((p+1:Nat):Int)=(p:Int)+1 by omega]at G af;go_wp2_with fail;exact⟨⟨p+1,c,G,af⟩,by rw[xA.pos G.sc,bA.out];omega⟩
   |false=>
    rw[hbl]at a7;go_quiet ((go_at_call 79;exact A0 (a7 _)))
    go_wp2_with fail;have G:=a1 nq bb;have af:=J nq bo;generalize c6.drewN nq=cc at G af⊢;clear o r t u w y z A bb bo a7;obtain⟨o,r,t,u,w,y,z,A⟩:=xA.cells G.sc;have a8:=fun i=>aho s p i;by_cases ar:aq s p=45/\aq s (p+1)=45
    ·rw[bv ar]at a8;have bf:=agb s p ar.1 ar.2;have en:=rp s p ar.1;go_quiet ((go_at_call 80;exact A0 (a8 _)))
     go_wp2_with fail;have m:=a1 nq G;have a9:=J nq af;generalize cc.drewN nq=c7 at m a9⊢;clear o r t u w y z A G af a8 b6;go_loopw [] (fun wq=>∃(k ad:Nat),p<=k/\k<=s.size/\s.size<k+ad/\amq FA s ad k (wC s p)/\Iw b mb B s I wq k c p c/\h wq) (fun wq=>s.size-Fh b wq)
     case atStart=>exact⟨p,s.size+1,ae _,cu,by omega,⟨rfl⟩,m,a9⟩
     case round=>
      obtain⟨k,ad,d8,d4,ek,bt,L,bE⟩:=hrel;obtain⟨ad,rfl⟩:∃q,ad=q+1:=⟨ad-1,by omega⟩;obtain⟨o,r,t,u,w,y,z,A⟩:=xA.cells L.sc;have H:=bt.out;rw[ic]at H;have ct:=xA.pos L.sc;have cF:=aw ct;clear ct;have bD:∀{g:O}{q:Nat}(bw:Nat),Iw b mb B s I g q c p c->Iw b mb B s I (g.drewN bw) q c p c:=fun bw f=>f.gr ag av ap (by omega) (uv (pj _ b) bw) f.sc id;have dp:∀{g:O}{q:Nat}(b9:Nat),Iw b mb B s I g q c p c->Iw b mb B s I (g.setCell ⟨b,3,A9⟩ (M N (b9:Int))) b9 c p c:=fun b9 f=>f.gr ag av ap (by omega) (py _ b 3 _) (f.sc.setP _) id;by_cases cr:k<s.size
      ·have el:(k:Int)<(s.size:Int):=by omega
       have cx:=fun i=>db cr i;go_wp2_with fail;go_quiet (fail)
       go_wp2_with fail;have a4:=bD nq L;have a3:=J nq bE;generalize wr.drewN nq=c8 at a4 a3⊢;clear o r t u w y z A L bE;obtain⟨o,r,t,u,w,y,z,A⟩:=xA.cells a4.sc;by_cases a2:aq s k=10
       ·rw[aa (by rw[a2];decide)]at H;rw[a2]at cx;have bn:=aw H;clear H bt a2;go_quiet (fail)
        go_wp2_with fail;have C:=bD nq a4;have K:=J nq a3;rw[<-bn.out]at bf;have bs:Iw b mb B s I (c8.drewN nq) k c k c:=⟨C.sc,C.mp,C.ly,b1 _ _ _ _ bf d8 d4 C.ii,C.sz⟩;exact⟨⟨k,c,bs,K⟩,by rw[xA.pos C.sc,bA.out];have:=bn.out;omega⟩
       ·have cs:FA (aq s k)=true:=by
         have:=jl cr;unfold FA;rw[iJ];exact⟨a2,by omega⟩
        rw[ab cs]at H;have dd:(aq s k==10)=false:=by rw[bH];exact a2
        generalize aq s k=c9 at cx dd;clear cs a2 bt;have cI:amq FA s ad (k+1) (wC s p):=⟨H⟩;clear H;go_quiet (fail)
        have C:=dp (k+1) (bD nq a4);have K:=cz (M N ((k+1:Nat):Int)) (J nq a3);rw[show((k+1:Nat):Int)=(k:Int)+1 by omega]at C K;go_wp2_with fail;exact⟨⟨k+1,ad,by omega,by omega,by omega,cI,C,K⟩,by rw[xA.pos C.sc,cF.out];omega⟩
      ·obtain rfl:k=s.size:=by omega
       rw[aa (by rw[dl (Gz _)];decide)]at H;have bn:=aw H;clear H bt;have ds:Iw b mb B s I wr s.size c s.size c:=⟨L.sc,L.mp,L.ly,b1 _ _ _ _ (by rw[bf,<-bn.out]) cu (ae _) L.ii,L.sz⟩;go_wp2_with fail;go_quiet (fail)
       go_wp2;rw[yo];refine aI (ip rfl _ _ _) rfl ?_;exact .inl ⟨⟨_,rfl⟩,.fin c (a1 _ ds),J _ bE⟩
    ·have cq:=ar;rw[aD ar]at a8;have cp:¬gG (aq s p)=true:=by rw[hbl];simp
     have cb:ry s p:=⟨bj,cp,cq⟩;have b4:=iA s p bj;have cy:=fun (i:O) (br:Iw b mb B s I i p c p c) (da:Int) (d2:gH b i s (.map (Z mb)) da p c false)=>ad3 s d7 b mb i p c bj d6 (by omega) av ap d2 br.mp br.ly;have bd:=fun W=>cm p c W cb;go_quiet ((go_at_call 80;exact A0 (a8 _)))
     go_wp2_with fail;have m:=a1 nq G;have a9:=J nq af;obtain⟨dc,b2⟩:=m.sc;have bl:=cy _ m dc b2;have be:=fun (W:O) (l:Int) (df:(rdI s p).ok=false)=>ac5.bad (b:=b) (mb:=mb) (B:=B) (I:=I) (W:=W) p l cb df;generalize cc.drewN nq=c7 at m a9 bl b2⊢;clear o r t u w y z A G af a8 b6 cy hbl cp ar cq cm b2;generalize rdI s p=c5 at bl b4 bd be;obtain⟨eb,E,bx,ak,al,am⟩:=c5;simp only at bl b4 bd be;refine bl.mono ?_;rintro e F ⟨rfl,a6,ao⟩;have a3:=bk a6 a9;have cn:=ai ao;clear bl;cases eb with
     |false=>
      have ck:=ag _ _ _ _ m.ii m.sc.x a6;have bh:=World.grownBy_alloc F (A5 #[M N ak,M N p,M N (E:Int),M N c,M N al,U am] 49) (Z b);have cl:=ag _ _ _ _ ck ⟨_,_,ao⟩ bh;have K:=bk bh a3;have cg:gH b (F.alloc (A5 #[M N ak,M N p,M N (E:Int),M N c,M N al,U am] 49)) s (.map (Z mb)) (p:Int) (E:Int) (c+bx) true:=(cC F _ b cn).trans ao;have cv:Fy (F.alloc (A5 #[M N ak,M N p,M N (E:Int),M N c,M N al,U am] 49)):=m.ly.blocks (fun k ei=>((cC F _ k (by have:=m.sz;have:=a6.size;omega)).trans (a6.block k (by have:=m.sz;omega) (by simp;omega))));have cw:B<=(F.alloc (A5 #[M N ak,M N p,M N (E:Int),M N c,M N al,U am] 49)).heap.size:=by have:=m.sz;have:=a6.size;simp;omega
      obtain⟨o,r,t,u,w,y,z,A⟩:=fK ao;have ca:Hid (ac5 b mb B s I (F.alloc (A5 #[M N ak,M N p,M N (E:Int),M N c,M N al,U am] 49))/\h (F.alloc (A5 #[M N ak,M N p,M N (E:Int),M N c,M N al,U am] 49))):=⟨be _ c rfl cg cv cw cl,K⟩;clear ck cl cg cv cw K be bd;go_wp2;rw[yo];refine aI (ip rfl _ _ _) rfl ?_;exact .inl ⟨⟨_,rfl⟩,ca.1,ca.2⟩
     |true=>
      have b3:=b4 rfl;have bh:=World.grownBy_alloc F (A5 #[M N ak,M N p,M N (E:Int),M N c,M N al,U am] 49) (Z b);have a4:Iw b mb B s I F E (c+bx) p c:=m.gr ag av ap (by omega) a6 ⟨_,ao⟩ id;have C:Iw b mb B s I (F.alloc (A5 #[M N ak,M N p,M N (E:Int),M N c,M N al,U am] 49)) E (c+bx) p c:=a4.gr ag av ap (by omega) bh ⟨_,(cC F _ b cn).trans ao⟩ id;have K:=bk bh a3;obtain⟨eh,tmps,ef,eg,b5,cf⟩:=bd _ rfl C K;unfold vTk at b5;simp only at b5;obtain⟨o,r,t,u,w,y,z,A⟩:=fK ao;clear be bd;go_upto_region 8 with fail
      refine(qG (n:=n)).1 ?_
      gi_wp2
      refine⟨fun f=>by simp[Fence.wide]at f,cf.mono ?_⟩;rintro e ee (⟨rfl,bs,dk⟩|⟨an,rfl,d9⟩)
      ·clear o r t u w y z A b5 cf
       gi_wp2
       go_wp2_with fail;exact⟨⟨E,c+bx,bs,dk⟩,by rw[xA.pos bs.sc,bA.out];omega⟩
      ·exact⟨rfl,.inr ⟨an,rfl,d9⟩⟩
  ·obtain rfl:p=s.size:=by omega
   go_wp2_with fail;go_quiet (fail)
   go_wp2;try rw[Exit.noGoto_normal]
   go_end0
   exact .inl ⟨⟨_,rfl⟩,.fin c (a1 _ a5),J _ b0⟩
attribute [local go_sem] kH
theorem uc{P:Program}{b:Array Oper}{Q:Exit->Act->O->Prop}{id:Nat}{S:O->Prop}{a:Act}{w:O}(c:P.follows .mixedOrders=true)(hS:S w.drew)
  (h:S w.drew->wpAnyH P .any b Q S b.size (Array.replicate b.size false) a w.drew):(Go.Code.region id b true).wp P Q a w:=
 wp_region_any c (wpAny_of_held _ _ _ _ (h hS))
def Iy(z:Int):List PanicEntry:=[{v:= .iface 51 (.agg #[M N z]),recovered:=false}]
structure aof (w:O) (base gb mb:Nat) (st stF:List Int) (k z:Int) (e:Ending) (w':O):Prop where
 out:(iB st k=true/\e= .returned (.tuple #[])/\GQ w' base gb mb stF/\Gp gb w w'/\Br base w w')\/(iB st k=false/\e= .panicked (Iy z)/\Br w.heap.size w w')
theorem Gb(w:O)(base m mb:Nat)(st stF:List Int)(T:Tk)(s:ByteArray)(f:Nat)(h:GQ w base m mb st)(ag:si w)(bn:s.size<=1100000)(G:1<=T.k)(H:T.k<=78)(y:0<=T.f)(L:T.f<=T.t)(ad:T.t<=(s.size:Int))
  (u:iB st T.k=true->passOk (st.length+45) f st T.k stF/\stF.length<=99999000/\∀a∈stF,0<=a/\a<=133):
  B1 Ax 24 #[B0 (Z ⟨m,0,A9⟩),vTk T,U s] w fun e w'=>aof w base m mb st stF T.k (T.f+(xL st (s.extract T.f.toNat T.t.toNat):Nat)) e w':=by
 obtain⟨k,br,bb,ao,ap,ar⟩:=T;unfold vTk;simp only at G H y L ad u⊢;obtain⟨c,rfl⟩:=gl y;obtain⟨d,rfl⟩:=gl (show 0<=bb by omega);simp only[jz];obtain⟨o,F⟩:∃o:Nat,xL st (s.extract c d)=o:=⟨_,rfl⟩;rw[F];have av:=aw F;clear F;have af:=(ah w.heap.size w).alloc (ae _) (A5 #[M N k,M N (c:Int),M N (d:Int),M N ao,M N ap,U ar] 49 (0,0));have ak:(w.alloc (A5 #[M N k,M N (c:Int),M N (d:Int),M N ao,M N ap,U ar] 49 (0,0))).heap[w.heap.size]?=_:=ay w _;have A:=h.below af;have bk:m<w.heap.size:=by obtain⟨bs,a3,_⟩:=h.g.ex;exact az a3
 obtain⟨a0,B⟩:=aA (iB st k);have am:=A.may G H B;have l:=Jd h ag ak B A;clear h ag ak B A;go_in;go_wp2_with fail;refine am.mono ?_;rintro e n ⟨rfl,p⟩;have E:Br w.heap.size w n:=af.trans (p.mono (by simp));have v:=(p.block _ (az l.2.2.1)).trans l.2.2.1;have bd:n.cell? ⟨w.heap.size,0,A9⟩=Z (M N k):=by rw[au _ _ _ _ _ _ v];rfl
 have J:n.cell? ⟨w.heap.size,1,A9⟩=Z (M N (c:Int)):=by rw[au _ _ _ _ _ _ v];rfl
 have K:n.cell? ⟨w.heap.size,2,A9⟩=Z (M N (d:Int)):=by rw[au _ _ _ _ _ _ v];rfl
 clear am v;cases a0 with
 |true=>
  obtain⟨al,a5,a6⟩:=u l.2.2.2.1;have q:=l.2.2.2.2.below p;have a7:=agu n base m mb st k (st.length+45) f stF q.g q.r q.ok (by omega) (by have:=q.len;omega) G H al;have be:IntKind.u8.wrap k=k:=by rw[ab3];omega
  have bl:=l.1.g.lo;clear u q al p;go_wp2_with (go_at_call 58;refine a7.mono ?_;rintro e bt ⟨rfl,a2,a9,a8,a1⟩);go_end0
  exact⟨.inl ⟨l.2.2.2.1,rfl,⟨a2,a9,a6,a5⟩,(Gp.of_below E).trans a8,(E.mono (by omega)).trans a1⟩⟩
 |false=>
  have x:Br w.heap.size w n.drew:=E.drew;have an:=Ga n.drew base m mb st (s.extract c d) (l.1.below x) (l.2.1.below x (ae _)) (by have:=ik (a:=s) (b:=c) (e:=d);omega);have a4:(xL st (s.extract c d):Nat)<=s.size:=by
   have:=Cx st (s.extract c d);have:=ik (a:=s) (b:=c) (e:=d);omega
  rw[av.out]at an a4;have hF:(c:Int)<=(d:Int):=L;have bf:(d:Int)<=(s.size:Int):=ad;have bj:(0:Int)<=(c:Int):=by omega
  have bh:(0:Int)<=(d:Int):=by omega
  have bo:IntKind.i64.wrap ((c:Int)+(o:Int))=(c:Int)+(o:Int):=by rw[di];omega
  clear u p y;go_wp2_with fail;refine uc (S:=fun w'=>w'.cell? ⟨w.heap.size,1,A9⟩=Z (M N (c:Int))/\w'.cell? ⟨w.heap.size,2,A9⟩=Z (M N (d:Int))) (by kernel_rfl) ⟨J,K⟩ (fun hS=>?_);refine dh 0 (B0 (Z ⟨w.heap.size,1,A9⟩)) rfl rfl (by kernel_rfl) (fun _ _ _=>id) hS (fun w' ⟨i,j⟩=>by go_simp) ?_;simp only[V];refine dh 1 (M N (c:Int)) rfl rfl (by kernel_rfl) (fun _ _ _=>id) hS (fun w' ⟨i,j⟩=>by go_simp) ?_;simp only[V];refine dh 2 (B0 (Z ⟨m,0,A9⟩)) rfl rfl (by kernel_rfl) (fun _ _ _=>id) hS (fun w' ⟨i,j⟩=>by go_simp) ?_;simp only[V];refine dh 3 (U s) rfl rfl (by kernel_rfl) (fun _ _ _=>id) hS (fun w' ⟨i,j⟩=>by go_simp) ?_;simp only[V];refine dh 4 (B0 (Z ⟨w.heap.size,1,A9⟩)) rfl rfl (by kernel_rfl) (fun _ _ _=>id) hS (fun w' ⟨i,j⟩=>by go_simp) ?_;simp only[V];refine dh 5 (M N (c:Int)) rfl rfl (by kernel_rfl) (fun _ _ _=>id) hS (fun w' ⟨i,j⟩=>by go_simp) ?_;simp only[V];refine dh 6 (B0 (Z ⟨w.heap.size,2,A9⟩)) rfl rfl (by kernel_rfl) (fun _ _ _=>id) hS (fun w' ⟨i,j⟩=>by go_simp) ?_;simp only[V];refine dh 7 (M N (d:Int)) rfl rfl (by kernel_rfl) (fun _ _ _=>id) hS (fun w' ⟨i,j⟩=>by go_simp) ?_;simp only[V];refine dh 8 (U (s.extract c d)) rfl rfl (by kernel_rfl) (fun _ _ _=>id) hS (fun w' ⟨i,j⟩=>by go_simp) ?_;simp only[V];refine B3 (rs:=[9]) (by kernel_rfl) (by simp) (AllReadyH.cons rfl (fun I z=>?_) AllReadyH.nil);go_simp;refine an.mono ?_;rintro e bw ⟨rfl,C⟩;refine z _ _ ⟨aj C J,aj C K⟩ (fun hS=>?_);clear z I;try simp only[Act.put,dv,dw,dy]
  refine dh 10 (M N ((c:Int)+(o:Int))) rfl rfl (by kernel_rfl) (fun _ _ _=>id) hS (fun w' ⟨i,j⟩=>by go_simp) ?_;simp only[V];refine dh 11 (.agg #[M N ((c:Int)+(o:Int))]) rfl rfl (by kernel_rfl) (fun _ _ _=>id) hS (fun w' ⟨i,j⟩=>by go_simp) ?_;simp only[V];refine dh 12 (.iface 51 (.agg #[M N ((c:Int)+(o:Int))])) rfl rfl (by kernel_rfl) (fun _ _ _=>id) hS (fun w' ⟨i,j⟩=>by go_simp) ?_;simp only[V];refine B3 (rs:=[13]) (by kernel_rfl) (by simp) (AllReadyH.cons rfl (fun I z=>?_) AllReadyH.nil);go_simp;exact⟨rfl,⟨.inr ⟨l.2.2.2.1,rfl,x.trans (C.mono x.size)⟩⟩⟩
inductive Ls (E:Pe) (C:Nat->Fo->Nat->Prop):Nat->Nat->Fo->Nat->Prop where
 |stop {k:Nat}:(E.tk k).k≠46->k<E.n->Ls E C 0 k .nil k
 |go {m k k1 j:Nat}{x R:Fo}:(E.tk k).k=46->k<E.n->C (k+1) x k1->Ls E C m k1 R j->Ls E C (m+1) k (x.app R) j
section
variable {E : Pe} {i j : Nat}
end
inductive Ss (E:Pe) (C:Nat->Fo->Nat->Prop):Nat->Nat->Fo->Nat->Prop where
 |stop {k:Nat}:k<E.n->Ss E C 0 k .nil k
 |sep {m k j:Nat}{R:Fo}:(E.tk k).k=5->k<E.n->Ss E C m (k+1) R j->Ss E C (m+1) k R j
 |go {m k k1 j:Nat}{x R:Fo}:(E.tk k).k≠5->(E.tk k).k≠6->(E.tk k).k≠43->k<E.n->C k x k1->Ss E C m k1 R j->Ss E C (m+1) k (x.app R) j
section
variable {E : Pe} {i j : Nat}
end
section
variable {E : Pe} {W w w' : World} {i j : Nat} {L L1 L' : List Mb} {B B' : List (Nat × Array Value)}
end
inductive Ms (E:Pe) (C:Int->Nat->Fo->Nat->Prop) (p:Int) (s:Tk):Nat->Fo->Nat->Fo->Nat->Prop where
 |stop {x:Fo}{k:Nat}:k<E.n->(jr (E.tk k).k=true->lpw (E.tk k).k<p)->Ms E C p s 0 x k x k
 |go {m k k1 j:Nat}{x y R:Fo}:k<E.n->jr (E.tk k).k=true->p<=lpw (E.tk k).k->C (rpw (E.tk k).k) (k+1) y k1->k+1<=k1->k1<=E.n->Ms E C p s m (one (He (E.tk k).k s (E.tk (k1-1)).t) (x.app y)) k1 R j->Ms E C p s (m+1) x k R j
theorem Ms.le{b:Pe}{C:Int->Nat->Fo->Nat->Prop}{p:Int}{s:Tk}{m k j:Nat}{x a:Fo}(h:Ms b C p s m x k a j):x.sz<=a.sz:=by
 induction h with
 |stop=>exact ae _
 |go _ _ _ _ _ _ _ c=>rw[de,Fo.sz_app]at c;omega
section
variable {E : Pe} {i j : Nat}
end
section
variable {E : Pe} {W w w' : World} {i j : Nat} {L L1 L' : List Mb} {B B' : List (Nat × Array Value)}
end
inductive Ps (E:Pe) (C D:Nat->Fo->Nat->Prop) (s:Tk):Nat->Fo->Nat->Fo->Nat->Prop where
 |stop {X:Fo}{k:Nat}:k<E.n->aav (E.tk k).k=false->Ps E C D s 0 X k X k
 |dot {m k j:Nat}{X R:Fo}:(E.tk k).k=48->(E.tk (k+1)).k=1->k+2<E.n->Ps E C D s m (one (nd 33 s (E.tk (k+1)).t 0 0 (E.tk (k+1)).x []) X) (k+2) R j->Ps E C D s (m+1) X k R j
 |sq {m k k1 j:Nat}{X Y R:Fo}:(E.tk k).k=44->k<E.n->C (k+1) Y k1->(E.tk k1).k=45->k1+1<E.n->Ps E C D s m (one (lg 32 s (E.tk k1).t) (X.app Y)) (k1+1) R j->Ps E C D s (m+1) X k R j
 |call0 {m k j:Nat}{X R:Fo}:(E.tk k).k=40->(E.tk (k+1)).k=41->k+2<E.n->Ps E C D s m (one (lg 34 s (E.tk (k+1)).t) X) (k+2) R j->Ps E C D s (m+1) X k R j
 |call {m k k1 j:Nat}{X Y R:Fo}:(E.tk k).k=40->k+1<E.n->(E.tk (k+1)).k≠41->D (k+1) Y k1->(E.tk k1).k=41->k1+1<E.n->Ps E C D s m (one (lg 34 s (E.tk k1).t) (X.app Y)) (k1+1) R j->Ps E C D s (m+1) X k R j
theorem Ps.le{c:Pe}{C D:Nat->Fo->Nat->Prop}{s:Tk}{m k j:Nat}{X b:Fo}(h:Ps c C D s m X k b j):X.sz<=b.sz:=by
 induction h with
 |stop=>exact ae _
 |dot _ _ _ _ a=>rw[de]at a;omega
 |sq _ _ _ _ _ _ a=>rw[de,Fo.sz_app]at a;omega
 |call0 _ _ _ _ a=>rw[de]at a;omega
 |call _ _ _ _ _ _ _ a=>rw[de,Fo.sz_app]at a;omega
section
variable {E : Pe} {i j : Nat}
end
section
variable {E : Pe} {i j : Nat}
end
section
variable {E : Pe} {i j : Nat}
end
inductive Es (E:Pe) (C:Nat->Fo->Nat->Prop):Nat->Nat->Fo->Nat->Prop where
 |stop {k:Nat}:(E.tk k).k=43->k<E.n->Es E C 0 k .nil k
 |com {m k k1 j:Nat}{x R:Fo}:(E.tk k).k≠43->k<E.n->C k x k1->(E.tk k1).k=46->k1<E.n->Es E C m (k1+1) R j->Es E C (m+1) k (x.app R) j
 |last {m k k1 j:Nat}{x R:Fo}:(E.tk k).k≠43->k<E.n->C k x k1->(E.tk k1).k≠46->k1<E.n->Es E C m k1 R j->Es E C (m+1) k (x.app R) j
section
variable {E : Pe} {i j : Nat}
end
section
variable {E : Pe} {W w w' w6 : World} {i j k k' : Nat} {L L1 L2 : List Mb} {B : List (Nat × Array Value)} {F : Fo} {l : List Int} {av : Option Addr} {n cv : Nat} {z : Int}
end
section
variable {E : Pe} {W w w' : World} {i j : Nat} {L L1 L' : List Mb} {B B' : List (Nat × Array Value)}
def opR(b:Bool):Int:=if b=true then 1 else 0
end
