import Derived.Test.YthkcmkmkapijkaaGreatDoorh10
set_option linter.all false
set_option maxRecDepth 100000
set_option maxHeartbeats 6400000
open Go.Value renaming nilFunc->M,slice->V,string->A5,tuple->A9,agg->B1,ownBlock->B2,string->B5
open List renaming length->Q,set->B0
open Go.Obj renaming cells->X
open Option renaming some->Y
open Bool renaming false->Ax,true->A0
open Go.RowKit renaming Below->A1,intOf->Br
open Go renaming Value->A2,TypeId->B3,World->B4
open ByteArray renaming empty->A3
namespace Go.Proofs.YthkcmkmkapijkaaGreatDoor
open Go.RowKit Go.Maps Go.WideMaps
variable{i j m:Nat}{r:zLI}{s:Int}{t:TypeId}
structure ac1 (s:Bz) (f p:Nat) (a:zLI) (R1:Bool×Nat×zLI):Prop where
 out:gy s f p a=R1
def Kk(p:Nat)(R1:Bool×Nat×zLI):A2:=ite (R1.1=A0) (B1 #[zI 4,zI p,zI (R1.2.1:Int),zI 0,zI 0,A5<|dK R1.2.2])<|B1 #[zI 4,zI p,zI 0,zI 0,zI 0,nh]
def ac2(R1:Bool×Nat×zLI):Int:=ite (R1.1=A0) (-1) (R1.2.1:Int)
def Kl{p a:Nat}{c R1}(h:(A0,a,c)=R1):(Ending.returned<|A9 #[B1 #[zI 4,zI p,zI (a:Int),zI 0,zI 0,A5<|dK c],zI (-1)])= .returned (A9 #[Kk p R1,zI<|ac2 R1]):=by
 subst h;rfl
def yr{p a:Nat}{c R1}(h:(Ax,a,c)=R1):(Ending.returned<|A9 #[B1 #[zI 4,zI p,zI 0,zI 0,zI 0,nh],zI (a:Int)])= .returned (A9 #[Kk p R1,zI<|ac2 R1]):=by
 subst h;rfl
def aaq(s:Bz)(b8:s.size<=70000)(p)(b9:p<s.size)(w):Calls Tryz.prog 205 #[A5 s,B1 #[zI 0,zI p,zI 0,zI 0,zI 0,nh]] w λe w'=>
  e= .returned (A9 #[Kk p<|gy s (s.size+1) (p+1) [],zI<|ac2<|gy s (s.size+1) (p+1) []])/\A1 w.heap.size w w':=by
 have⟨B,bl⟩:=aw<|gy s (s.size+1) (p+1) [];rw[bl];have bs:ac1 s (s.size+1) (p+1) [] B:=⟨bl⟩;go_in;go_wp2;go_loopw [6,7,8,9] (λbd b1 _ _ wr=>∃(b z g:Nat) (i:_),bd=zI b/\eK w.heap.size wr 4 p 0 0 0 zE0/\eK (w.heap.size+1) wr 0 0 0 0 0 zE0/\wr.ownsRow (w.heap.size+2) 5 1 b1 z (B8 i)/\s.size<b+g/\b<=s.size/\z<=b/\ac1 s g b i B/\A1 w.heap.size w wr/\w.heap.size+2<=wr.heap.size) (λbd _ _ _ _=>s.size-(Br bd).toNat)
 .
  generalize d:(w.alloc _).alloc _=f;have⟨t,u,c,_⟩:=Eu d;exact⟨_,0,_,_,by go_num,t,u,onN,O,O,O,bs,c,O⟩
 .
  obtain⟨b,z,g,i,rfl,t,u,x,_,_,_,bt,k,l⟩:=hrel;have⟨_,_,_,_,_,_,_⟩:=aJ t;have⟨z0,L,ad,ak,al,am,_⟩:=aJ u;obtain⟨g,rfl⟩:∃F,g=F+1:=⟨g-1,O⟩;have c:=bt.out;unfold gy at c;by_cases bn:b<s.size
  .have b0:=ll bn;have bF:=λw=>dy bn w;have ca:(b:Int)<(s.size:Int):=O;rw[aa O]at c;have⟨C,bD⟩:=aw<|aq s b;rw[bD]at b0 bF c;by_cases a6:C=34
   .subst a6;rw[ae rfl]at c;have f:=ah c;obtain⟨rfl,m⟩|⟨F,an,_,rfl,_⟩:=x.2
    .have j:i=[]:=by have:=zq x;rw[m]at this;exact ze this
     have d:=ah j;have n:=Ch;go_wp2_with fail;refine aA (v:=A9 #[B1 #[zI 4,zI p,zI<|b+1,zI 0,zI 0,A5 A3],zI (-1)]) (by simp[results,go_sem,z0,L,ad,ak,al,am]) R ⟨by have h:=f.out;rw[d.out]at h;exact Kl h,?_⟩
     iterate 8 refine gE ?_ I _
     exact k
    .have n:=lK<|jo (a:=⟨w.heap.size,2,none⟩) x I<|zI<|b+1;go_wp2_with fail;refine aA (by simp[results,go_sem,z0,L,ad,ak,al,am]) R ⟨Kl f,?_⟩
     iterate 8 refine gE ?_ I _
     exact k
   rw[aa a6]at c;have cc:(C==34)=Ax:=by simp[a6]
   by_cases a7:C=10
   .subst a7;rw[ae rfl]at c;have f:=ah c;go_wp2_with fail;refine aA (by simp[results,go_sem,z0,L,ad,ak,al,am]) R ⟨yr f,?_⟩
    iterate 6 refine gE ?_ I _
    exact k
   rw[aa a7]at c;have cd:(C==10)=Ax:=by simp[a7]
   by_cases a8:C=92
   .subst a8;rw[ae rfl]at c;have j:=λw=>jd s O (b+1) (b+1) O w;by_cases r:aq s (b+1)=110
    .have o:=bp r;rw[show jt s (b+1)=(10,b+1+1,A0) by unfold jt;rw[ae r],ae rfl]at c;rw[wt o,r]at j;have f:ac1 s g (b+1+1) (i++[10]) B:=⟨c⟩;go_wp2_with (first|(go_at_call 200;apply ez<|j _)|(at_builtin;apply js R _ _ R _ _ z i R x l O [10] 1 R Z Z _ R R;intro F an w1 n d));go_roundw
     .exact⟨_,_,g,_,by go_num,t.below d O,u.below d O,n,O,O,O,f,k.trans<|d.mono O,bK l d.size⟩
     simp[Br];omega
    by_cases E:aq s (b+1)=116
    .have o:=bp E;rw[show jt s (b+1)=(9,b+1+1,A0) by unfold jt;rw[aa r,ae E],ae rfl]at c;rw[wt o,E]at j;have f:ac1 s g (b+1+1) (i++[9]) B:=⟨c⟩;go_wp2_with (first|(go_at_call 200;apply ez<|j _)|(at_builtin;apply js R _ _ R _ _ z i R x l O [9] 1 R Z Z _ R R;intro F an w1 n d));go_roundw
     .exact⟨_,_,g,_,by go_num,t.below d O,u.below d O,n,O,O,O,f,k.trans<|d.mono O,bK l d.size⟩
     simp[Br];omega
    by_cases ap:aq s (b+1)=34
    .have o:=bp ap;rw[show jt s (b+1)=(34,b+1+1,A0) by unfold jt;rw[aa r,aa E,ae O,ap],ae rfl]at c;rw[wt o,ap]at j;have m:=λw=>Ci o w;rw[ap]at m;have f:ac1 s g (b+1+1) (i++[34]) B:=⟨c⟩;go_wp2_with (first|(go_at_call 200;apply ez<|j _)|(at_builtin;apply js R _ _ R _ _ z i R x l O [34] 1 R Z Z _ R R;intro F an w1 n d));go_roundw
     .exact⟨_,_,g,_,by go_num,t.below d O,u.below d O,n,O,O,O,f,k.trans<|d.mono O,bK l d.size⟩
     simp[Br];omega
    by_cases ar:aq s (b+1)=92
    .have o:=bp ar;rw[show jt s (b+1)=(92,b+1+1,A0) by unfold jt;rw[aa r,aa E,ae O,ar],ae rfl]at c;rw[wt o,ar]at j;have m:=λw=>Ci o w;rw[ar]at m;have f:ac1 s g (b+1+1) (i++[92]) B:=⟨c⟩;go_wp2_with (first|(go_at_call 200;apply ez<|j _)|(at_builtin;apply js R _ _ R _ _ z i R x l O [92] 1 R Z Z _ R R;intro F an w1 n d));go_roundw
     .exact⟨_,_,g,_,by go_num,t.below d O,u.below d O,n,O,O,O,f,k.trans<|d.mono O,bK l d.size⟩
     simp[Br];omega
    by_cases av:aq s (b+1)=120
    .have o:=bp av;rw[wt o,av]at j;have bA:jt s (b+1)=hexI s (b+1+1):=by unfold jt;rw[aa r,aa E,aa O,ae av]
     rw[bA]at c;unfold hexI at c;have H:=λw=>jd s O (b+1+1) (b+1+1) O w;have ax:=λw=>jd s O (b+1+2) (b+1+1+1) O w;have bh:=agx s<|b+1+1;have bj:=agx s<|b+1+1+1;have m:=λw=>DA _ bh.1 bh.2 w;have y:=λw=>DA _ bj.1 bj.2 w;rw[agH]at m y;have b4:=qu<|aq s<|b+1+1;have b5:=qu<|aq s<|b+1+1+1;by_cases G:ix (aq s<|b+1+1)<0
     .rw[ae G,aa I]at c;have f:=ah c;generalize lk s (b+1+1)=bf at H m;generalize ix (aq s<|b+1+1)=q at m G;go_wp2_with (go_at_call 200;apply ez<|j _);apply ql 3;rw[jw];go_wp2_with (first|(go_at_call 200;apply ez<|H _)|(go_at_call 287;apply ez<|m _));refine aA (by simp[results,go_sem,z0,L,ad,ak,al,am]) R ⟨yr f,?_⟩
      iterate 6 refine gE ?_ I _
      exact k
     rw[aa G]at c;have bo:0<=ix (aq s<|b+1+1):=O;by_cases ao:ix (aq s<|b+1+1+1)<0
     .rw[ae ao,aa I]at c;have f:=ah c;generalize lk s (b+1+1)=bf at H m;generalize ix (aq s<|b+1+1)=q at m G bo;generalize lk s (b+1+1+1)=bw at ax y;generalize ix (aq s<|b+1+1+1)=K at y ao;go_wp2_with (go_at_call 200;apply ez<|j _);apply ql 3;rw[jw];go_wp2_with (first|(go_at_call 200;apply ez<|H _)|(go_at_call 287;apply ez<|m _));rw[jw];go_wp2_with (first|(go_at_call 200;apply ez<|ax _)|(go_at_call 287;apply ez<|y _));refine aA (v:=A9 #[B1 #[zI 4,zI p,zI 0,zI 0,zI 0,nh],zI<|b+1+2]) (by simp[results,go_sem,z0,L,ad,ak,al,am]) R ⟨by have h:=yr (p:=p) f.out;rw[(O:((b+1+1+1:Nat):Int)=(b:Int)+1+2)]at h;exact h,?_⟩
      iterate 6 refine gE ?_ I _
      exact k
     have a9:b+1+1<s.size:=by
      obtain h|h:=cG (b+1+1) s.size
      .exact h
      .rw[dH]at G;exact absurd Z G
     have ba:b+1+1+1<s.size:=by
      obtain h|h:=cG (b+1+1+1) s.size
      .exact h
      .rw[dH]at ao;exact absurd Z ao
     have bb:=λw=>dy a9 w;have bc:=λw=>dy ba w;rw[(O:((b+1+1:Nat):Int)=(b:Int)+1+1)]at bb;rw[(O:((b+1+1+1:Nat):Int)=(b:Int)+1+2)]at bc;rw[aa ao,ae rfl]at c;rw[wt a9]at H m;rw[wt ba]at ax y;have bE:0<=ix (aq s<|b+1+1+1):=O;have f:ac1 s g (b+1+1+1+1) (i++[ix (aq s<|b+1+1)*16+ix (aq s<|b+1+1+1)]) B:=⟨c⟩;have bx:=ll a9;have bz:=ll ba;generalize ix (aq s<|b+1+1)=q at m G bo b4 f;generalize ix (aq s<|b+1+1+1)=K at y ao bE b5 f;generalize aq s (b+1+1)=bf at H m bb bx;generalize aq s (b+1+1+1)=bw at ax y bc bz;rw[(O:q*16+K=16*q+K)]at f;go_wp2_with (go_at_call 200;apply ez<|j _);apply ql 3;rw[jw];go_wp2_with (first|(go_at_call 200;apply ez<|H _)|(go_at_call 287;apply ez<|m _));rw[jw];go_wp2_with (first|(go_at_call 200;apply ez<|ax _)|(go_at_call 287;apply ez<|y _));rw[jw];go_wp2_with fail;obtain⟨A,bk⟩:∃A:Int,b+1=A:=⟨_,R⟩;rw[bk]at bb bc⊢;have br:=ah bk;have ce:IntKind.i64.wrap (A+1)=A+1:=F5 _ O;have cf:IntKind.i64.wrap (A+2)=A+2:=F5 _ O;have cg:IntKind.i64.wrap (16*q)=16*q:=F5 _ O;have ch:IntKind.i64.wrap (16*q+K)=16*q+K:=F5 _ O;have ck:IntKind.u8.wrap (16*q+K)=16*q+K:=IntWalk.u8_in _ O;have b6:0<=A:=O;have b7:A<=70001:=O;go_region_held3 (λw'=>True) (trivial) ((first|(go_at_call 287;with_reducible refine ez (m _) ?_)|(go_at_call 287;apply ez<|y _)|(refine Ga byR _ _ byR (w.heap.size+2) _ z i byR x l O [_] 1 byR Z Z _ byR byR ?_;intro F an w1 n d)))
     all_goals
      go_wp2_with fail;have cb:=br.out;exact⟨⟨_,_,g,_,by congr 1<;>omega,t.below d O,u.below d O,n,O,O,O,f,k.trans<|d.mono O,bK l d.size⟩,by simp[Br];omega⟩
    rw[show jt s (b+1)=(0,b+1,Ax) by unfold jt;rw[aa r,aa E,aa O,aa av],aa I]at c;have f:=ah c;have m:=yj s (b+1) 110;have o:=yj s (b+1) 116;have q:=yj s (b+1) 34;have y:=yj s (b+1) 92;have A:=yj s (b+1) 120;rw[bq r]at m;rw[bq E]at o;rw[bq ap]at q;rw[bq ar]at y;rw[bq av]at A;generalize lk s (b+1)=G at j m o q y A;go_wp2_with (go_at_call 200;apply ez<|j _);refine aA (by simp[results,go_sem,z0,L,ad,ak,al,am]) R ⟨yr f,?_⟩
    iterate 6 refine gE ?_ I _
    exact k
   rw[aa a8]at c;have j:(C==92)=Ax:=by simp[a8]
   have f:ac1 s g (b+1) (i++[C]) B:=⟨c⟩;go_wp2_with (at_builtin;apply js R _ _ R _ _ z i R x l O [C] 1 R Z Z _ R R;intro F an w1 n d);go_roundw
   .exact⟨_,_,g,_,by go_num,t.below d O,u.below d O,n,O,O,O,f,k.trans<|d.mono O,bK l d.size⟩
   simp[Br];omega
  .rw[ae O]at c;have f:=ah c;obtain rfl:b=s.size:=O;go_wp2_with fail;refine aA (by simp[results,go_sem,z0,L,ad,ak,al,am]) R ⟨yr f,?_⟩
   iterate 6 refine gE ?_ I _
   exact k
abbrev mv(b:Nat)(f:FuncId):A2:= .func (.func f) #[be b 0] #[]
def ae2(b:Nat):zAV:=#[M,mv b 71,mv b 72,mv b 73,mv b 74,mv b 75,mv b 76,mv b 77,mv b 78,mv b 79,mv b 80,mv b 81,mv b 82,mv b 83,mv b 84,mv b 85,mv b 86,M,M,M,mv b 87,mv b 88,mv b 89,mv b 90,mv b 91,mv b 92,mv b 93,mv b 94,mv b 95,mv b 95,mv b 96,mv b 95,mv b 97,mv b 98,mv b 99,mv b 100,mv b 101,mv b 102,M,M,mv b 103,mv b 104,mv b 105]
def aar{a g w W}(h:A1 a w W)(d:a<=g)(cs:zAV):A1 a w (W.setRow g cs):=
 ⟨h.os,h.tape,h.output,by unfold World.setRow;simp;exact h.size,λb c=>by
  unfold World.setRow;have:b≠g:=O;simp[Array.getElem?_modify];rw[aa O];exact h.block b c⟩
def Hr(w):
  Calls Tryz.prog 32 #[] w λe w'=>e= .returned (be w.heap.size 0)/\w'.heap[w.heap.size]?=Y (X (ae2 w.heap.size) 162 (0,0))/\A1 w.heap.size w w':=by
 have a:=au w<|X #[M,M,M,M,M,M,M,M,M,M,M,M,M,M,M,M,M,M,M,M,M,M,M,M,M,M,M,M,M,M,M,M,M,M,M,M,M,M,M,M,M,M,M] 162;have c:A1 w.heap.size w (w.alloc<|X #[M,M,M,M,M,M,M,M,M,M,M,M,M,M,M,M,M,M,M,M,M,M,M,M,M,M,M,M,M,M,M,M,M,M,M,M,M,M,M,M,M,M,M] 162):=(ay _ w).alloc O _;go_enter Tryz.func32,Tryz.ntmps32;go_wp21
 have b:=run_storeVar_row (P:=Tryz.prog) _ _ _ 160 _ (ae2 w.heap.size) a byR R J;simp[go_sem,ae2,mv]at b;rw[b];go_wp2;go_ret;exact⟨R,setRow_heap _ _ _ _ _ _ a,aar c O _⟩
def Pg.new(a):Pg a A3 (a.alloc<|X #[fe,.bool Ax] 79):=
 ⟨(ay _ a).alloc eE _,fe,A3,Ax,au a _,onN,Z,λ_=>⟨R,R⟩,λb=>absurd b Z⟩
def aqr(x:Bz):A3++x=x:=ByteArray.empty_append
def axs:A2->Bool| .string t=>Nat.ble t.size 60|_=>Ax
section
variable {C : Cd} {E : Bs} {w w' W : World} {m : Nat}
def Km{cs:zAV}{z:Int}(a:Cq C E w m)(g:(w.alloc<|X cs t).grownBy w' (Y E.cb))(z0:0<=z)(d:z<cs.size)(h:cs.all axs=A0:=by decide+kernel):∃(j:Nat) (s:Bz),z=j/\s.size<=60/\w'.cell? (aj w.heap.size j)=Y (A5 s):=by
 obtain⟨j,rfl⟩:=iJ z0;have c:j<cs.size:=O;have h:=Array.all_eq_true.1 h j c;have b:=atp a.lt g j;rw[FE c]at b;cases hc:cs[j] with
 |string s=>rw[hc]at h b;exact⟨j,s,R,Nat.le_of_ble_eq_true h,b⟩|_=>rw[hc]at h;cases h
def Cw.set3(a:Cw C E W w m)(r):Cw C E W (w.setCell (aj E.cb 3)<|zI r) m:=by
 obtain⟨⟨_,b,d⟩,e⟩:=a;have c:=Dw (tA w E.cb) 3<|zI r;exact⟨⟨⟨_,_,r⟩,b.grown c<|aD _ _ 3 _ _ _ b.cur,d⟩,abH e c⟩
def Cw.c3(a:Cw C E W w m):∃r,w.cell? (aj E.cb 3)=Y (zI r)/\w.frozen? (aj E.cb 3)=Ax:=by
 obtain⟨⟨_,b,_⟩,_⟩:=a;exact⟨_,b.cells.1.2.2.2,b.cells.2 3⟩
end
def cgo{p:Prop}(h:p:=by
 go_in
 repeat' (go_wp2_with fail;first
  |(go_at_call 38;(first
   |(with_reducible refine Cw.run a gc ?_;clear a;rintro _ w ⟨z,rfl,z0,z1⟩ a g)
   |(have h0:=a.cu;refine Cw.run a.al gc ?_;clear a;rintro _ w ⟨z,rfl,z0,z1⟩ a g;obtain⟨j,t,rfl,ht,r⟩:=Km h0 g z0 z1;clear h0 g)))
  |(go_at_call 40;obtain⟨n,rfl⟩:=iJ z0;refine Cw.run a Gb ?_;clear a;rintro _ w ⟨t,rfl,ht⟩ a -)
  |(go_ret;exact⟨_,R,⟨_,R,by first|exact wr_rng _|omega|decide⟩,a.fin O⟩))):p:=h
def ahd:Rq 119 [] 4 (PIn (-9223372036854775808) 9223372036854775808):=by
 intro _ _ w _ b _;have a:=b.cw;exact cgo
theorem aug:Rq 117 [] 100 (PS 60):=by
 intro l m j o g _;have a:=g.cw;clear g;go_in;go_wp2_with fail;apply Cw.run a gc;clear a;rintro _ w1 ⟨f,rfl,z0,k⟩ a -;by_cases n:f=0
 .subst n;go_wp2;go_loopw [3] (λd wr=>∃b:Bz,d=A5 b/\b.size<=42/\Cw l m j wr (o-2-2*b.size)) (λd _=>50-awv d)
  .exact⟨_,R,Z,a.le⟩
  .
   obtain⟨b,rfl,i,a⟩:=hrel;go_wp2_with fail;apply Cw.run a gc;clear a;rintro _ _ ⟨e,rfl,_,_⟩ a -;have q:IntKind.i64.wrap (39+e)=39+e:=by rw[du];omega
   have h:(b++⟨#[95]⟩).size=b.size+1:=az;by_cases p:(b.size:Int)<39+e
   .have c:=fs h (O:b.size+1<=42);clear h;go_wp2;go_roundw
    .exact⟨_,R,by rw[c.1];exact c.2,a.le (by rw[c.1];omega)⟩
    show 50-(b++⟨#[95]⟩).size<50-b.size;rw[c.1];have:=c.2;omega
   .go_wp2;go_ret;exact⟨_,R,⟨_,R,O⟩,a.fin O⟩
 .have e:(f==0)=Ax:=U;go_wp2_with fail;have d:=a.cu;apply Cw.run a.al gc;clear a;rintro _ j ⟨f,rfl,z0,k⟩ a c;obtain⟨_,b,rfl,i,_⟩:=Km d c z0 k;clear d c;go_wp2;go_ret;exact⟨_,R,⟨_,R,i⟩,a.fin O⟩
def axt:Rq 120 [] 2 (PS 60):=by
 intro _ _ w _ b _;have a:=b.cw;exact cgo
theorem asC:Rq 122 [] 20 (PS 4001):=by
 intro _ _ i _ m _;have a:=m.cw;go_in
 repeat' (go_wp2_with fail;first
  |(go_at_call 38;(apply Cw.run a gc);clear a;rintro _ i ⟨c,rfl,z0,k⟩ a -;obtain⟨_,f,_⟩:=a.c3)
  |(go_at_call 40;obtain⟨e,rfl⟩:=iJ z0;apply Cw.run a Gb;clear a;rintro _ i ⟨b,rfl,d⟩ a -)
  |(go_ret;exact⟨_,R,⟨_,R,by first|omega|decide⟩,a.fin O⟩))
 all_goals go_wp2_with fail
 all_goals try (go_ret;exact⟨_,R,⟨_,R,Z⟩,a.fin O⟩)
 go_loop [3] (λh=>∃b:Bz,h=A5 b/\Ten b.size) (λh=>6000-awv h)
 .exact⟨_,R,.inl Z⟩
 .
  obtain⟨b,rfl,d⟩:=hrel;by_cases f:b.size<4000
  .have n:=apn d;have g:=ah<|aiA d f;have f:(b.size:Int)<4000:=O;clear d;go_wp2;go_round
   .exact⟨_,R,g⟩
   show 6000-(b++b).size<6000-b.size;grind
  .have n:=apm d f;have f:¬(b.size:Int)<4000:=O;have g:∀c:Int,0<=c->c<3->IntKind.i64.wrap (3999+c)=3999+c:=λc _ _=>by rw[du];omega
   clear d;go_wp2_with fail;apply Cw.run (a.set3 _) gc;clear a;rintro _ i ⟨c,rfl,z0,k⟩ a -;have g:=g c z0 k;obtain⟨e,j⟩:∃e:Nat,3999+c=e:=⟨(3999+c).toNat,O⟩;rw[j]at g;have o:(0:Int)<=(e:Int):=O;have p:(e:Int)<=(b.size:Int):=O;have l:Hid (e<=4001):=by show _<=_;omega
   clear j;go_wp2;go_ret;exact⟨_,R,⟨_,R,by have:=l.out;rw[lh];omega⟩,a.fin O⟩
abbrev bV(E:Bs):A2:=be E.bb 0
abbrev TO(t:B3):Prop:=t≠37/\t≠264/\t≠42
def toS:TO 9:=Z
def toI:TO 3:=Z
structure Rwx where
 t:B3
 v:A2
 xs:zLV
abbrev rS(v:A2)(l:zLB):Rwx:=⟨9,v,l.map B5⟩
abbrev rI(v:A2)(l:zLI):Rwx:=⟨3,v,l.map zI⟩
def bR(R1:List Rwx):zLN:=R1.flatMap λr=>r.v.ownBlock.toList
def bL(L:zLM):zLN:=L.flatMap λa=>a.vn.ownBlock.toList++a.vk.ownBlock.toList
structure Bd (C:Cd) (T:Int) (E:Bs) (W:B4) (m:Nat) (L:zLM) (R1:List Rwx):Prop where
 cu:Cq C E W m
 bb:E.base<=E.bb
 row:∃v,W.heap[E.bb]?=Y (.cells #[cV E,v,zI<|T-Q L] 264 (0,0))/\W.ownsRow E.base 37 9 v (Q L) (mG L)
 each:∀y∈L,W.ownsRow E.base 9 1 y.vn (Q y.N.nm) (y.N.nm.map B5)/\W.ownsRow E.base 3 1 y.vk (Q y.N.ks) (y.N.ks.map zI)
 rows:∀r∈R1,TO r.t/\W.ownsRow E.base r.t 1 r.v (Q r.xs) r.xs
 sep:(bR R1++bL L).Nodup
section
variable {C : Cd} {T : Int} {E : Bs} {W W' : World} {m k : Nat} {L : zLM} {R1 : List Rwx} {r : Rwx}
theorem Bd.lt(h:Bd C T E W m L R1):E.cb<W.heap.size/\E.bb<W.heap.size/\E.base<=W.heap.size/\E.cb≠E.bb:=by
 have⟨_,a,_⟩:=h.row;have⟨_,_⟩:=h.cu.cur;refine⟨h.cu.lt,ai a,h.cu.lo.2,λ_=>?_⟩;grind
def Bd.below(h:Bd C T E W m L R1)(a:A1 W.heap.size W W'):Bd C T E W' m L R1:=by
 have⟨f,d,e⟩:=h.row;exact⟨h.cu.below a,h.bb,⟨f,(a.block _ h.lt.2.1).trans d,cj e a⟩,λc b=>⟨cj (h.each c b).1 a,cj (h.each c b).2 a⟩,λc b=>⟨(h.rows c b).1,cj (h.rows c b).2 a⟩,h.sep⟩
def Bd.ltR(h:Bd C T E W m L R1):∀b∈bR R1++bL L,b<W.heap.size:=by
 intro b hb;obtain hb|hb:=dg.1 hb
 .have⟨c,a,e⟩:=List.mem_flatMap.1 hb;exact((h.rows c a).2.lt b<|Option.mem_toList.1 e).2
 .have⟨c,a,e⟩:=List.mem_flatMap.1 hb;obtain e|e:=dg.1 e
  .exact((h.each c a).1.lt b<|Option.mem_toList.1 e).2
  .exact((h.each c a).2.lt b<|Option.mem_toList.1 e).2
def Bd.went(h:Bd C T E W m L R1)(e:W.grownBy W' (Y E.cb))(r:Cq C E W' k):Bd C T E W' k L R1:=by
 have f:=h.lt;have⟨t,p,q⟩:=h.row;have⟨_,o⟩:=h.cu.cur;have d:∀{c j g:Nat}{l:A2}{n:zLV},W.ownsRow E.base c j l g n->c≠42->W'.ownsRow E.base c j l g n:=λi s=>i.kept e<|.inr<|gG i o<|dG s;exact⟨r,h.bb,⟨t,(e.block _ f.2.1 (λc=>f.2.2.2 (de c).symm)).trans p,d q Z⟩,λb a=>⟨d (h.each b a).1 Z,d (h.each b a).2 Z⟩,λb a=>⟨(h.rows b a).1,d (h.rows b a).2 (h.rows b a).1.2.2⟩,h.sep⟩
theorem Bd.hot{r'}(h:Bd C T E W m L (r::R1))(k:W.grownBy W' r.v.ownBlock)(z:TO r'.t)(al:W'.ownsRow E.base r'.t 1 r'.v (Q r'.xs) r'.xs)(K:∀b,r'.v.ownBlock=Y b->r.v.ownBlock=Y b\/W.heap.size<=b):Bd C T E W' m L (r'::R1)/\A1 E.base W W':=by
 have ad:=h.lt;have⟨v,H,w⟩:=h.row;have g:=h.rows r bG;have p:TO r.t:=g.1;have d:A1 E.base W W':=(ay _ W).grown k ad.2.2.1 (λi e=>(g.2.lt i e).1);have y:=h.sep;have B:bR (r::R1)=r.v.ownBlock.toList++bR R1:=rfl;rw[B,fL,oK]at y;obtain⟨_,af,ak⟩:=y;have n:∀b∈bR R1++bL L,r.v.ownBlock≠Y b:=λb d a=>ak b (Option.mem_toList.2 a) b d R;have j:∀{a size l:Nat}{f:A2}{xs:zLV},W.ownsRow E.base a size f l xs->(∀b,f.ownBlock=Y b->r.v.ownBlock≠Y b)->W'.ownsRow E.base a size f l xs:=λ{a size l f xs} o _=>by
  apply o.kept k;cases hu:f.ownBlock with
  |none=>grind|some b=>grind
 have A:∀{i:Nat}{s:zAV}{t:B3}{u:Nat×Nat},W.heap[i]?=Y (X s t u)->t≠r.t->W'.heap[i]?=Y (X s t u):=λe z=>(k.block _ (ai e) (λa=>gG g.2 e z a.symm)).trans e;refine⟨⟨h.cu.keep d λo=>A o<|dG p.2.2,h.bb,⟨v,A H<|dG p.2.1,j w (λb a F=>?_)⟩,λc hz=>⟨j (h.each c hz).1 (λb a=>n b<|dg.2<|.inr<|List.mem_flatMap.2 ⟨c,hz,dg.2<|.inl<|Option.mem_toList.2 a⟩),j (h.each c hz).2 (λb a=>n b<|dg.2<|.inr<|List.mem_flatMap.2 ⟨c,hz,dg.2<|.inr<|Option.mem_toList.2 a⟩)⟩,λc hz=>?_,?_⟩,d⟩
 .rcases w.2 with⟨q,_⟩|⟨G,_,_,q,_,x,_⟩
  .rw[q]at a;simp[B2]at a
  .rw[q]at a;obtain rfl:G=b:=by simpa [B2] using a
   exact gG g.2 x (dG p.1) F
 .rcases dI.1 hz with rfl|hz
  .grind
  .have:=h.rows c<|dJ _ hz;exact⟨this.1,j this.2 (λb a=>n b<|dg.2<|.inl<|List.mem_flatMap.2 ⟨c,hz,Option.mem_toList.2 a⟩)⟩
 .show(r'.v.ownBlock.toList++bR R1++bL L).Nodup;rw[fL,oK];refine⟨?_,af,λb d _ x a=>?_⟩
  .grind
  .subst a;obtain q|q:=K b<|Option.mem_toList.1 d
   .grind
   .have:=h.ltR b U;omega
theorem Bd.new(h:Bd C T E W m L R1)(k:TO t)(cs:zAV)(r')(i:r'.t=t)(j:(W.alloc<|X cs t).ownsRow E.base t 1 r'.v (Q r'.xs) r'.xs)(d:r'.v.ownBlock=Y W.heap.size):Bd C T E (W.alloc<|X cs t) m L (r'::R1):=by
 have a:=h.below<|dj W<|X cs t;refine⟨a.cu,a.bb,a.row,a.each,λg hz=>?_,?_⟩
 .rcases dI.1 hz with rfl|hz
  .grind
  .exact a.rows g hz
 .show(r'.v.ownBlock.toList++bR R1++bL L).Nodup;rw[fL,oK];refine⟨U,h.sep,λb e c f _=>?_⟩;rw[d]at e;have:b=W.heap.size:=U;have:=h.ltR c f;omega
theorem Bd.newI(h:Bd C T E W m L R1)(ks:zLI)(a:Q ks<=100):Bd C T E (W.alloc<|X (ks.map zI).toArray 3) m L (rI (bI W.heap.size (Q ks)<|Q ks) ks::R1):=by
 refine h.new toI _ _ R ?_ R;have:=zg (e:=3) (size:=1) W (ks.map zI).toArray (Q ks) h.lt.2.2.1 byM I;grind
def Bd.nil(h:Bd C T E W m L R1){t}(a:TO t):Bd C T E W m L (⟨t,fe,[]⟩::R1):=
 ⟨h.cu,h.bb,h.row,h.each,λb hz=>by
  obtain rfl|hz:=dI.1 hz
  .exact⟨a,onN⟩
  .exact h.rows b hz,h.sep⟩
def Bd.drop(h:Bd C T E W m L (r::R1)):Bd C T E W m L R1:=by
 have a:=h.sep;have b:bR (r::R1)=r.v.ownBlock.toList++bR R1:=rfl;rw[b,fL,oK]at a;exact⟨h.cu,h.bb,h.row,h.each,λd c=>h.rows d<|dJ _ c,a.2.1⟩
theorem Bd.swap{a}(h:Bd C T E W m L (r::a::R1)):Bd C T E W m L (a::r::R1):=by
 refine⟨h.cu,h.bb,h.row,h.each,λb _=>h.rows b ?_,?_⟩
 .grind
 .have e:=h.sep;have c:bR (r::a::R1)=r.v.ownBlock.toList++(a.v.ownBlock.toList++bR R1):=rfl;have d:bR (a::r::R1)=a.v.ownBlock.toList++(r.v.ownBlock.toList++bR R1):=rfl;grind
theorem Bd.c0(h:Bd C T E W m L R1):W.cell? (aj E.bb 0)=Y (cV E)/\W.cell? (aj E.bb 2)=Y (zI<|T-Q L):=by
 have⟨_,a,_⟩:=h.row;have c:=λb=>yL W _ b _ _ _ a;grind
def Bd.form{v xs}(h:Bd C T E W m L (⟨t,v,xs⟩::R1)):∃a c,v=V a (Q xs) c:=aF (h.rows _ bG).2
def Bd.less(h:Bd C T E W m L R1):Bd C (T-1) E (W.setCell (aj E.bb 2)<|zI<|T-Q L-1) m L R1/\A1 E.base W (W.setCell (aj E.bb 2)<|zI<|T-Q L-1):=by
 have p:=h.lt;have⟨q,f,n⟩:=h.row;have g:A1 E.base W (W.setCell (aj E.bb 2)<|zI<|T-Q L-1):=(ay _ W).setCell h.bb _;have c:∀{e j i:Nat}{k:A2}{l:zLV},W.ownsRow E.base e j k i l->e≠264->(W.setCell (aj E.bb 2)<|zI<|T-Q L-1).ownsRow E.base e j k i l:=λd o=>wE d (gG d f<|dG o) 2 _;refine⟨⟨h.cu.keep g λd=>(jg p.2.2.2).trans d,h.bb,⟨q,?_,c n Z⟩,λb a=>⟨c (h.each b a).1 Z,c (h.each b a).2 Z⟩,λb a=>⟨(h.rows b a).1,c (h.rows b a).2 (h.rows b a).1.2.1⟩,h.sep⟩,g⟩;rw[(O:T-1-(Q L:Int)=T-Q L-1)];exact aD _ _ 2 _ _ _ f
theorem Bd.push{N e d}(h:Bd C (T-1) E W m L (rS e N.nm::rI d N.ks::R1)){v}(ak:W.heap[E.bb]?=Y (X #[cV E,v,zI<|T-Q L-1] 264 (0,0))){a g r b}(al:Q L+1=r)(y:a.ownsRow E.base 37 9 (bI g r b) r (mG<|L++[⟨N,e,d⟩]))(j:W.grownBy a v.ownBlock):
  Bd C T E (a.setCell (aj E.bb 1)<|bI g r b) m (L++[⟨N,e,d⟩]) R1/\A1 E.base W (a.setCell (aj E.bb 1)<|bI g r b)/\a.heap[E.bb]?=Y (X #[cV E,v,zI<|T-Q L-1] 264 (0,0)):=by
 subst al;have⟨av,K,s⟩:=h.row;obtain rfl:av=v:=U;have u:=h.lt;have k:∀{c:Nat}{p:zAV}{n:B3}{q:Nat×Nat},W.heap[c]?=Y (X p n q)->n≠37->a.heap[c]?=Y (X p n q):=λf am=>(j.block _ (ai f) (λi=>gG s f am i.symm)).trans f;have l:=k ak Z;have ar:∀c,c≠E.bb->(a.setCell (aj E.bb 1)<|bI g (Q L+1) b).heap[c]?=a.heap[c]?:=λc f=>jg f;have w:∀{o i A x:Nat}{B:A2}{F:zLV},W.ownsRow o i A B x F->i≠37->i≠264->(a.setCell (aj E.bb 1)<|bI g (Q L+1) b).ownsRow o i A B x F:=λz ad af=>by
  refine wE ?_ ?_ 1 _
  .obtain⟨ao,t⟩:=z;refine⟨ao,?_⟩;obtain t|⟨g,b,G,an,j,H,ap⟩:=t
   .grind
   .exact .inr ⟨g,b,G,an,j,k H ad,ap⟩
  .exact gG z K (dG af)
 have t:A1 E.base W (a.setCell (aj E.bb 1)<|bI g (Q L+1) b):=((ay _ W).grown j u.2.2.1 (λc f=>(s.lt c f).1)).setCell h.bb _;have on:=(h.rows _ bG).2;have ao:=(h.rows _<|dJ _ bG).2;simp[dm]at on ao;refine⟨⟨h.cu.keep t λH=>(ar _ u.2.2.2).trans<|k H Z,h.bb,⟨bI g (Q L+1) b,?_,?_⟩,λG hy=>?_,λap an=>?_,?_⟩,t,l⟩
 .rw[aG,(U:T-((Q L+Q [(⟨N,e,d⟩:Mb)]:Nat):Int)=T-Q L-1)];exact aD _ _ 1 _ _ _ l
 .rw[aG];exact wE y (gG y l Z) 1 _
 .rcases dg.1 hy with hy|hy
  .exact⟨w (h.each G hy).1 Z Z,w (h.each G hy).2 Z Z⟩
  grind
 .have ax:=h.rows ap<|dJ _<|dJ _ an;grind
 .have a1:=h.sep;have ax:bR (rS e N.nm::rI d N.ks::R1)++bL L=(e.ownBlock.toList++d.ownBlock.toList)++(bR R1++bL L):=by unfold bR;grind
  have a0:bR R1++bL (L++[⟨N,e,d⟩])=(bR R1++bL L)++(e.ownBlock.toList++d.ownBlock.toList):=by unfold bL;grind
  grind
end
def dN(k a n:Int)(t:Bz)(nm:zLB)(ks:zLI):Nd:=⟨k,0,0,0,a,n,t,nm,ks⟩
section
variable {C : Cd} {T : Int} {E : Bs} {W W' : World} {d : Nat} {L : zLM} {R1 : List Rwx}
def axu{N}{b a:zOA}{j f g c}(h:Bd C T E W d L (rS (V b j f) N.nm::rI (V a g c) N.ks::R1))(b9:0<=T/\T<=1000)(bo:Q L<=1000000000000):
  Calls Tryz.prog 280 #[bV E,B1<|zK N (V b j f)<|V a g c] W λe w'=>e= .returned (zI (Q L:Nat))/\Bd C T E w' d (L++[⟨N,V b j f,V a g c⟩]) R1/\A1 E.base W w':=by
 have⟨p,a7⟩:=aw<|Q L;have⟨s,H⟩:=aw<|T-Q L;have ca: -2000000000000<=s/\s<=200000:=O;rw[a7]at bo⊢;have cb:=h.lt;have a5:=dj W<|X (zK N (V b j f)<|V a g c) 37;have bj:=(h.below a5).c0;have b7:(W.alloc<|X (zK N (V b j f)<|V a g c) 37).frozen? ⟨E.bb,2,none⟩=Ax:=by
  have⟨v,z,A⟩:=(h.below a5).row;exact frR z
 rw[H]at bj;go_in;go_wp21
 have⟨af,a4⟩:=aw<|W.setCell (aj E.bb 2)<|zI<|s-1;have F:=h.less;rw[H]at F;have ar:(W.setCell ⟨E.bb,2,none⟩<|.int .i64<|s-1).heap.size=W.heap.size:=by simp[World.setCell]
 have⟨a0,a3,bl⟩:=h.row;rw[H]at a3;have bd:(W.setCell (aj E.bb 2)<|zI<|s-1).heap[E.bb]?=Y (X #[cV E,a0,zI<|s-1] 264 (0,0)):=aD W _ 2 _ _ _ a3;rw[a4]at F ar bd;rw[a4];have G:=dj af<|X (zK N (V b j f)<|V a g c) 37;have o:=au af<|X (zK N (V b j f)<|V a g c) 37;have⟨l,ap⟩:=aw<|af.alloc<|X (zK N (V b j f)<|V a g c) 37;rw[ap]at G o;rw[ar]at o;have q:=Cg (F.1.below G) (F.2.trans<|G.mono O) o (show l.heap.size=W.heap.size+1 by rw[<-ap];simp[ar]);have t:=(G.block _ O).trans bd;rw[ap];have a9:a0.ownBlock≠Y W.heap.size:=λe=>by have:=(bl.lt _ e).2;omega
 have⟨v,z,A⟩:=q.1.row;obtain rfl:a0=v:=by
  rw[z]at t;simp at t;exact t.1.symm
 obtain⟨al,ao,rfl⟩:=aF A;have am:l.cell? (aj E.bb 1)=Y (V al (Q L) ao):=crV z;rw[a7]at am A a9 t;have o:=q.2.2.1;refine wp_region_held_drew (S:=λad=>ad.heap[W.heap.size]?=Y _) J o (λhS=>?_);simp[iC,fh];apply aI 0 (be E.bb 0) R R hS (λw' r=>by go_simp);simp[B0];apply aI 1 (be E.bb 0) R R hS (λw' r=>by go_simp);simp[B0];apply aI 2 (be E.bb 0) R R hS (λw' r=>by go_simp);simp[B0];apply aI 3 (be E.bb 1) R R hS (λw' r=>by go_simp);simp[B0];apply L7 5 17 (B1<|zK N (V b j f)<|V a g c) R R J J J (λ_ _ _ h=>h) byR hS (λw' r=>by have cd:=aE r;go_simp);simp[Act.put,cC];have br:=am;refine uG (S:=λad=>ad.cell? _=Y _) (C:=λu=>!(u==7||u==8||u==9||u==10)) (i:=4) (v:=V al p ao) R (BG J) (λ_ _ _ h=>h) ?hC _ _ _ _ (BH R J) (List.contains_iff_mem.1 J) (Or.inl ⟨byR,λw' r=>by go_simp⟩) hS br ?_
 .
  intro u _ m k;simp only[Bool.not_eq_false',zn,qo]at k;obtain((rfl|rfl)|rfl)|rfl:=k
  .obtain rfl:=de m;exact⟨{on:=4,ground:=Ground.data},I,R,R⟩
  all_goals
   obtain rfl:=de m;exact⟨{on:=4,ground:=Ground.phase},I,R,R⟩
 simp only[Act.put,cA,cH,cC];refine fi (i:=6) J R (λx m=>?_);go_simp;have a2:∀ba,A1 l.heap.size l (l.drew.alloc ba):=λba=>blW.alloc I _;refine m _ _ (((a2 _).block _<|ai o).trans o) (λ_=>ag (a2 _) am) ?_;simp only[cA,cH,cC];have n:=eC<|dj l<|X (zK N (V b j f)<|V a g c) 37;have bf:(l.alloc<|X (zK N (V b j f)<|V a g c) 37).drew.heap[l.heap.size]?=_:=au l _;generalize World.drew (World.alloc _ _)=b1 at n bf⊢;have bE:=q.1.below n;have bD:=(n.block _<|ai t).trans t;have cc:=q.1.lt;have bs:=q.2.2.2;have⟨bt,bw,bx,bz,bA⟩:=dw CA;refine fi (i:=7) J R (λx m=>?_);apply step_append_lies _ byR _ _ _ byR _ 37 bt _ 9 _ Tryz.underlying24 bw bx bz bA R Z _ p _ byR (cj A n) _ 1 1 _ (by rw[bs];rfl) R (World.news_of_block bf) (by intro _ a8;simp at a8;obtain rfl|rfl|rfl|rfl|rfl|rfl|rfl|rfl|rfl:=a8<;>rfl) Z byM O (by have:=n.size;omega) _ R;intro B y w bc a6 _ _;have bn:mG L++(zK N (V b j f)<|V a g c).toList=mG (L++[⟨N,V b j f,V a g c⟩]):=by rw[uC];show _=mG L++(cMb _++[]);rw[fp];rfl
 rw[bn]at bc;have⟨bF,bh,ax⟩:=bE.push (by rw[H];exact bD) O bc a6;have K:=(a6.block _ (by have:=n.size;omega) (λe=>a9 e.symm)).trans<|(n.block _ O).trans o;have b0:(w.setCell (aj E.bb 1)<|bI B (p+1) y).heap[W.heap.size]?=Y (X (zK N (V b j f)<|V a g c) 37 (0,0)):=(jg (by show W.heap.size≠E.bb;omega)).trans K;have b5:w.cell? (aj E.bb 1)=Y (V al p ao):=crV ax;have b8:w.frozen? (aj E.bb 1)=Ax:=frR ax;have a1:=fs bF<|(q.2.1.trans<|n.mono O).trans bh;have bk:(w.setCell (aj E.bb 1)<|bI B (p+1) y).cell? ⟨E.bb,1,none⟩=Y (bI B (p+1) y):=by rw[oe<|aD _ _ 1 _ _ _ ax];rfl
 apply m _ _ K (λk=>by cases k);simp only[Act.put,cA,cH,cC];refine fi (i:=8) J R (λx m=>?_);go_simp;apply m _ _ K (λk=>by cases k);simp only[cA,cH,cC];refine fi (i:=9) J R (λx m=>?_);go_simp;apply m _ _ K (λk=>by cases k);simp only[cA,cH,cC];refine fi (i:=10) J R (λx m=>?_);go_simp;apply m _ _ b0 (λk=>by cases k);refine yd J ?_ _;generalize w.setCell (aj E.bb 1) (bI B (p+1) y)=b2 at a1 bk⊢;go_wp21
 go_ret;exact⟨by go_num,a1⟩
end
section
variable {tk : Nat → Tk} {n : Nat}
theorem D.split{v}(h:D tk n m v i j):∀a b,v=a++b->∃g l k,D tk n g a i k/\D tk n l b k j/\g+l=m:=by
 induction h with
 |nil=>
  intro a b c;obtain⟨rfl,rfl⟩:a=[]/\b=[]:=byS;exact⟨0,0,_,.nil,.nil,R⟩
 |@tok m o s i j d e f u r=>
  intro a b c;cases a with
  |nil=>
   rw[ga]at c;exact⟨0,m+1,i,.nil,by grind [tok],O⟩|cons t a=>
   obtain⟨rfl,rfl⟩:o=t/\s=a++b:=U;have⟨g,l,k,p,q,w⟩:=r a b R;exact⟨_,_,k,.tok d e f p,q,O⟩
 |@exp m o s i j d e f u r=>
  intro a b c;cases a with
  |nil=>
   rw[ga]at c;exact⟨0,_,i,.nil,by rw[<-c];exact .exp d e f u,O⟩|cons t a=>
   obtain⟨rfl,rfl⟩:o=t/\s=a++b:=U;obtain⟨g,l,k,p,q,w⟩:=r ((xE o (tk i).k).1++a) b U;exact⟨_,_,k,.exp d e f p,q,O⟩
def D.cut(h:D tk n m (s::r) i j):∃a b k,D tk n a [s] i k/\D tk n b r k j/\a+b=m:=h.split [s] r R
def D.nils(h:D tk n m [] i j):i=j:=by cases h;rfl
theorem D.toks(h:D tk n m (s::r) i j)(f:s<100:=by omega):(tk i).k=s/\i<n/\∃a,D tk n a r (i+1) j/\a<m:=by
 cases h with
 |tok b c d e=>grind|exp b c d e=>omega
theorem D.exps(h:D tk n m (s::r) i j)(f:100<=s):i<n/\(xE s (tk i).k).2=A0/\∃a,D tk n a ((xE s (tk i).k).1++r) i j/\a<m:=by
 cases h with
 |tok b c d e=>omega|exp b c d e=>grind
theorem D.row(h:D tk n m [s] i j){x}(e:xE s (tk i).k=x)(b:100<=s:=by omega):i<n/\x.2=A0/\∃a,D tk n a x.1 i j/\a<m:=by
 obtain⟨_,_,a,_,_⟩:=h.exps b;grind
theorem D.ro(h:D tk n m [s] i j)(l)(e:xE s (tk i).k=(l,A0))(b:100<=s:=by omega):i<n/\∃a,D tk n a l i j/\a<m:=by
 have:=h.row e;grind
theorem D.no(h:D tk n m [s] i j)(e:xE s (tk i).k=([],Ax))(a:100<=s:=by omega):False:=by
 have:=h.row e;grind
def D.nu(h:D tk n m [s] i j)(e:xE s (tk i).k=([],A0))(c:100<=s:=by omega):i<n/\i=j:=by
 obtain⟨a,_,b,_⟩:=h.ro _ e;exact⟨a,b.nils⟩
def D.rt(h:D tk n m [s] i j)(t)(l:zLI)(e:xE s (tk i).k=(t::l,A0))(g:100<=s:=by omega)(o:t<100:=by omega):i<n/\∃a,D tk n a l (i+1) j/\a<m:=by
 obtain⟨b,_,c,_⟩:=h.ro _ e;obtain⟨_,_,d,f,_⟩:=c.toks;exact⟨b,d,f,O⟩
abbrev On(tk:Nat->Tk)(n:Nat)(t:Tsk)(i j:Nat):Prop:=∃a b,P tk n t i (one a b) j
structure Ex (tk:Nat->Tk) (n m:Nat):Prop where
 unit:∀{i j:Nat},D tk n m [120] i j->j<n->On tk n .unit i j
 expr:∀{i j:Nat},D tk n m [119] i j->j<n->On tk n (.expr 0) i j
 exprs:∀{i j:Nat},D tk n m [124] i j->j<n->∃R1,P tk n .exprs i R1 j
 moreE:∀{i j:Nat},D tk n m [125] i j->j<n->∃R1,P tk n .moreE i R1 j
 block:∀{i j:Nat},D tk n m [132] i j->j<n->On tk n .block i j
 stats:∀{i j:Nat},D tk n m [100] i j->j<n->(tk j).k=43\/(tk j).k=6->∃R1,P tk n .stats i R1 j
 body:∀{i j:Nat}(s:Tk),D tk n m [133] i j->j<n->On tk n (.body s) i j
 entries:∀{i j:Nat},D tk n m [129] i j->j<n->(tk j).k=43->∃R1,P tk n .entries i R1 j
 entry:∀{i j:Nat},D tk n m [131] i j->j<n->On tk n .entry i j
 els:∀{i j k k1:Nat}{x b:Fo},(tk i).k=20\/(tk i).k=15->i<n->P tk n (.expr 0) (i+1) x k->P tk n .block k b k1->D tk n m [105] k1 j->j<n->On tk n .branch i j
def Em(tk:Nat->Tk)(n m:Nat):Prop:=∀a,a<m->Ex tk n a
def Em.at{m'}(h:Em tk n m)(l:m'<m:=by omega):Ex tk n m':=h _ l
def Em.mo{m'}(h:Em tk n m)(l:m'<=m:=by omega):Em tk n m':=λ_ a=>h _<|jm a l
theorem aqs(k):1<=BA k:=by
 grind [BA]
def D.lt(h:D tk n m (s::r) i j):i<n:=by cases h<;>assumption
theorem ve{t}(h:dv t=A0):t≠6/\t≠41/\t≠43/\t≠5/\t≠44/\t≠48/\t≠46:=by
 refine⟨?_,?_,?_,?_,?_,?_,?_⟩;all_goals
  rintro rfl;revert h;decide
theorem axv(A:∀i,(tk i).k<100):∀m,Em tk n m->∀{k j},D tk n m [121] k j->j<n->∀(p)(s)(N)(ks),∃h L a m',P tk n (.more p s<|one N ks) k (one h L) a/\D tk n m' [121] a j/\m'<=m/\(gg (tk a).k=A0->BA (tk a).k<p):=by
 intro m
 induction m using Nat.strongRecOn with
 |_ m g=>
  intro c k j b f p s N ks;by_cases e:gg (tk k).k=A0/\p<=BA (tk k).k
  .obtain⟨C,_,q,_⟩:=b.ro [(tk k).k,119] (by grind [xE,aiE]);obtain⟨_,_,_,r,_⟩:=q.toks<|A k;obtain⟨u,B,_,v,_⟩:=r.row (x:=([120,121],dv _)) byR;obtain⟨_,_,_,w,d,_⟩:=v.cut;have⟨o,af,H⟩:=c.at.unit w d.lt;obtain⟨l,ad,K,_,E,y,_,_⟩:=g _ O c.mo d f (rpw (tk k).k) (tk<|k+1) o af;obtain⟨_,_,_,_,F,z,_,G⟩:=g _ O c.mo y f p s (uF (tk k).k s (tk<|K-1).t)<|(one N ks).app<|one l ad;exact⟨_,_,_,_,.mgo C e.1 e.2 (.ex (ve B).1 u H E) F,z,O,G⟩
  .exact⟨N,_,k,m,.mstop b.lt U,b,O,λ_=>U⟩
def aqt(l:∀i,(tk i).k<100)(c:Em tk n m)(p:D tk n m [119] i j)(s:j<n):On tk n (.expr 0) i j:=by
 obtain⟨r,o,_,e,_⟩:=p.row (x:=([120,121],dv _)) byR;obtain⟨_,_,k,f,b,_⟩:=e.cut;have⟨d,w,v⟩:=c.at.unit f b.lt;obtain⟨_,_,a,_,t,g,_,u⟩:=axv l _ c.mo b s 0 (tk i) d w;have q:gg (tk a).k=Ax:=by
  cases h:gg (tk a).k with
  |false=>rfl|true=>have:=u h;have:=aqs (tk a).k;omega
 obtain⟨_,rfl⟩:=g.nu (by simp[xE,aiE,q]);exact⟨_,_,.ex (ve o).1 r v t⟩
def fam(S:Int):Int:=ite (S<=112) 1<|ite (S<=115) 2<|ite (S<=118) 3 4
abbrev Sfx(S:Int):Prop:=S=110\/S=111\/S=112\/S=114\/S=115\/S=117\/S=118\/S=122
def aqu{S t}(hS:Sfx S)(h:ww t=A0):∃a c,xE S t=(rq t a c,A0)/\(a=110\/a=114\/a=117\/a=122)/\(c=111\/c=115\/c=118\/c=122)/\fam a=fam S/\fam c=fam S:=by
 have b:=aL h;obtain rfl|rfl|rfl|rfl|rfl|rfl|rfl|rfl:=hS
 .exact⟨_,111,by obtain rfl|rfl|rfl:=b<;>decide,O,O,R,R⟩
 .exact⟨110,_,by obtain rfl|rfl|rfl:=b<;>decide,O,O,R,R⟩
 .exact⟨110,111,by obtain rfl|rfl|rfl:=b<;>decide,O,O,R,R⟩
 .exact⟨_,115,by obtain rfl|rfl|rfl:=b<;>decide,O,O,R,R⟩
 .exact⟨114,_,by obtain rfl|rfl|rfl:=b<;>decide,O,O,R,R⟩
 .exact⟨_,118,by obtain rfl|rfl|rfl:=b<;>decide,O,O,R,R⟩
 .exact⟨117,_,by obtain rfl|rfl|rfl:=b<;>decide,O,O,R,R⟩
 .exact⟨_,_,byR,O,O,R,R⟩
def axw:∀m,Em tk n m->∀{S},Sfx S->∀{k j},D tk n m [S] k j->j<n->∀(s)(N)(ks),∃an a2 E m' y,P tk n (.post s<|one N ks) k (one an a2) E/\D tk n m' [y] E j/\m'<=m/\ww (tk E).k=Ax/\Sfx y/\fam y=fam S:=by
 intro m
 induction m using Nat.strongRecOn with
 |_ m v=>
  intro g S hS k j B u s N ks;cases hf:ww (tk k).k with
  |false=>exact⟨N,_,k,m,S,.pstop B.lt hf,B,O,hf,hS,R⟩|true=>
   obtain⟨h,o,a1,_,_,_,_⟩:=aqu hS hf;obtain⟨ar,_,_,d,_⟩:=B.row a1;have a0:=aL hf;obtain e|e|e:=a0
   .rw[show(rq (tk k).k h o,A0).1=[48,1,h] by rw[e];rfl]at d;obtain⟨_,_,af,i,K⟩:=d.toks;have⟨l,p,ak,f,L⟩:=i.toks;obtain⟨w,H,G,al,z,p2,a,_,b,c,A⟩:=v _ O g.mo O f u s (nd 33 s (tk<|k+1).t 0 0 (tk<|k+1).x [])<|one N ks;exact⟨_,_,_,_,_,.pdot e l p p2,a,O,b,c,O⟩
   .rw[show(rq (tk k).k h o,A0).1=[44,119,45,h] by rw[e];rfl]at d;obtain⟨_,_,af,i,K⟩:=d.toks;have⟨ak,al,F,f,q,L⟩:=i.cut;have⟨ao,ap,C⟩:=g.at.expr f q.lt;have⟨p,l,a3,r,ax⟩:=q.toks;obtain⟨w,H,G,am,z,p2,a,ad,b,c,A⟩:=v _ O g.mo O r u s (lF 32 s (tk F).t)<|(one N ks).app<|one ao ap;exact⟨_,_,_,_,_,.psq e ar C p l p2,a,O,b,c,O⟩
   .rw[show(rq (tk k).k h o,A0).1=[40,123,41,o] by rw[e];rfl]at d;obtain⟨_,_,af,i,K⟩:=d.toks;have⟨ak,al,F,f,q,L⟩:=i.cut;have⟨p,l,a3,r,ax⟩:=q.toks;cases hb:dv (tk<|k+1).k with
    |false=>
     obtain⟨_,rfl⟩:=f.nu (by simp[xE,ak4,hb]);obtain⟨w,H,G,am,z,p2,a,ad,b,c,A⟩:=v _ O g.mo O r u s (lF 34 s (tk<|k+1).t)<|one N ks;exact⟨_,_,_,_,_,.pcall0 e p l p2,a,O,b,c,O⟩
    |true=>
     obtain⟨av,am,ap,ad⟩:=f.ro [124] (by simp[xE,ak4,hb]);have⟨ao,C⟩:=g.at.exprs ap l;obtain⟨w,H,G,_,z,p2,a,_,b,c,A⟩:=v _ O g.mo O r u s (lF 34 s (tk F).t)<|(one N ks).app ao;exact⟨_,_,_,_,_,.pcall e av (ve hb).2.1 C p l p2,a,O,b,c,O⟩
theorem ahe{t a c}(h:ww t=Ax):rq t a c=[]:=by
 have h:=jJ h;grind [rq]
theorem D.join{l c a b k}(h:D tk n l a i k)(q:D tk n c b k j):D tk n (l+c) (a++b) i j:=by
 induction h with
 |nil=>grind|@tok d p r i j e f g m o=>grind [tok]|@exp d p r i j e f g m o=>rw[(O:d+1+c=(d+c)+1)];exact .exp (r:=r++b) e f g U
def ama(N ks s e):∃a b,lI N ks s e=one a b:=by unfold lI;split<;>exact⟨_,_,R⟩
def ac3(h:Em tk n m){S}(hS:Sfx S)(p:j<n)(hd:D tk n m [1,S] i j\/D tk n m [40,119,41,S] i j):∃r ad o m' a,P tk n .base i (one r ad) o/\D tk n m' [a] o j/\m'<m/\ww (tk o).k=Ax/\Sfx a/\fam a=fam S:=by
 obtain hd|hd:=hd
 .have⟨c,l,al,g,E⟩:=hd.toks;obtain⟨s,af,K,am,w,p2,b,F,d,e,f⟩:=axw _ h.mo hS g p (tk i) (nd 26 (tk i) (tk i).t 0 0 (tk i).x []) .nil;exact⟨_,_,_,_,_,.bname c l p2,b,O,d,e,f⟩
 .have⟨c,l,al,g,E⟩:=hd.toks;have⟨am,_,H,A,B,F⟩:=g.cut;obtain⟨y,q,_,C,_⟩:=B.toks;have⟨v,ak,G⟩:=h.at.expr A q;have⟨u,L,z⟩:=ama v ak (tk i) (tk H).t;obtain⟨s,af,K,_,w,p2,b,_,d,e,f⟩:=axw _ h.mo hS C p (tk i) u L;rw[<-z]at p2;exact⟨_,_,_,_,_,.bopen c l G y q p2,b,O,d,e,f⟩
def D.names:∀(m){k j},D tk n m [104] k j->j<n->∃d,Kd tk n k d j/\(tk j).k≠46:=by
 intro m
 induction m using Nat.strongRecOn with
 |_ m p=>
  intro k j b c;by_cases a:(tk k).k=46
  .obtain⟨i,_,f,_⟩:=b.rt 46 [1,104] (by simp[xE,akJ,a]);obtain⟨e,l,_,g,_⟩:=f.toks;obtain⟨d,o,h⟩:=p _ O g c;exact⟨_,.go a l e o,h⟩
  .obtain⟨i,rfl⟩:=b.nu (by simp[xE,akJ,a]);exact⟨_,.stop a c,a⟩
theorem params:∀(m){S},S=126\/S=128->∀{k j},D tk n m [S,41] k j->j<n->∃l r,Prm tk n k l r j:=by
 intro m
 induction m using Nat.strongRecOn with
 |_ m u=>
  intro S hS k j p c;obtain⟨_,_,_,a,g,_⟩:=p.cut;obtain⟨d,_,_,o,_⟩:=g.toks;obtain rfl:=o.nils;by_cases e:(tk k).k=1
  .obtain⟨i,v,b,s⟩:=a.rt 1 [127] (by obtain rfl|rfl:=hS<;>simp[xE,ak6,ak7,e]);by_cases f:(tk<|k+1).k=46
   .obtain⟨q,_,h,_⟩:=b.rt 46 [128] (by simp[xE,apA,f]);obtain⟨l,r,t⟩:=u _ O O (k:=k+2) (D.join h g) c;exact⟨_,_,.go e f h.lt t⟩
   .obtain⟨q,rfl⟩:=b.nu (by simp[xE,apA,f]);exact⟨_,_,.last e d c⟩
  .by_cases f:(tk k).k=49
   .obtain⟨i,v,b,s⟩:=a.rt 49 [] (by obtain rfl|rfl:=hS<;>simp[xE,ak6,ak7,f]);obtain rfl:=b.nils;exact⟨_,_,.rest f d c⟩
   .rcases hS with rfl|rfl
    .obtain⟨i,rfl⟩:=a.nu (by grind [xE,ak6]);exact⟨_,_,.close d c⟩
    .cases a.no (by grind [xE,ak7])
def amb(d:Em tk n m)(c:D tk n m [125] i j)(f:j<n):∃R1,P tk n .moreE i R1 j:=by
 by_cases a:(tk i).k=46
 .obtain⟨e,_,g,_⟩:=c.rt 46 [119,125] (by simp[xE,ak5,a]);obtain⟨_,_,o,h,b,_⟩:=g.cut;obtain⟨_,_,l⟩:=d.at.expr h b.lt;have⟨R1,k⟩:=d.at.moreE b f;exact⟨_,.ego a e l k⟩
 .obtain⟨e,rfl⟩:=c.nu (by simp[xE,ak5,a]);exact⟨_,.estop a f⟩
def amc(b:Em tk n m)(f:D tk n m [124] i j)(g:j<n):∃R1,P tk n .exprs i R1 j:=by
 obtain⟨_,_,_,c,_⟩:=f.row (x:=([119,125],dv _)) byR;obtain⟨_,_,_,d,a,_⟩:=c.cut;obtain⟨_,_,h⟩:=b.at.expr d a.lt;have⟨R1,e⟩:=b.at.moreE a g;exact⟨_,.es h e⟩
def ac4(k:Em tk n m)(h:D tk n m [132] i j)(o:j<n):On tk n .block i j:=by
 obtain⟨l,_,_,b,_⟩:=h.row (x:=([42,100,43],decide _)) byR;obtain⟨_,_,_,c,_⟩:=b.toks;obtain⟨_,_,_,d,e,_⟩:=c.cut;obtain⟨a,p,_,f,_⟩:=e.toks;obtain rfl:=f.nils;have⟨_,g⟩:=k.at.stats d p<|.inl a;exact⟨_,_,.block O l g a o⟩
def aqv(g:Em tk n m)(s)(f:D tk n m [133] i j)(k:j<n):On tk n (.body s) i j:=by
 obtain⟨h,_,_,b,_⟩:=f.row (x:=([40,126,41,132],decide _)) byR;obtain⟨_,_,_,c,_⟩:=b.toks;obtain⟨_,_,_,d,a,_⟩:=c.split [126,41] _ R;obtain⟨_,_,e⟩:=g.at.block a k;obtain⟨_,_,l⟩:=params _ O d a.lt;exact⟨_,_,.body O h l e⟩
theorem aqw(p:∀i,(tk i).k<100)(f:Em tk n m)(H:D tk n m [120] i j)(b:j<n):On tk n .unit i j:=by
 obtain⟨g,c,w,a,ak⟩:=H.row (x:=Cm _) byR;unfold Cm at c a;split at a
 .rename_i h;obtain⟨_,_,o,d,l⟩:=a.toks<|p i;have⟨e,t,s⟩:=f.at.unit d b;exact⟨_,_,.upre h g s⟩
 rename_i v;rw[aa v]at c;split at a
 .rename_i h;obtain⟨e,t,k,o,S,p2,q,l,r,y,z⟩:=ac3 (m:=w) (S:=122) f.mo O b<|.inl (by rw[h]at a;exact a);obtain rfl:S=122:=by grind [fam]
  obtain⟨_,rfl⟩:=q.nu (by simp[xE,ak2,ahe r]);exact⟨e,_,.ubas (.inl h) g p2⟩
 rename_i F;rw[aa F]at c;split at a
 .rename_i h;obtain⟨e,t,k,o,S,p2,q,l,r,y,z⟩:=ac3 (m:=w) (S:=122) f.mo O b<|.inr (by rw[h]at a;exact a);obtain rfl:S=122:=by grind [fam]
  obtain⟨_,rfl⟩:=q.nu (by simp[xE,ak2,ahe r]);exact⟨e,_,.ubas (.inr h) g p2⟩
 rename_i G;rw[aa G]at c;split at a
 .rename_i h;obtain⟨_,_,o,d,l⟩:=a.toks<|p i;have⟨am,an,k,A,B,al⟩:=d.cut;have⟨u,ad,ao,C,_⟩:=B.toks;obtain rfl:=C.nils;have⟨af,E⟩:=f.at.entries A ad u;exact⟨_,_,.utab h g E u b⟩
 rename_i K;rw[aa K]at c;split at a
 .rename_i h;obtain⟨_,_,o,d,l⟩:=a.toks<|p i;have⟨e,t,s⟩:=f.at.body (tk i) d b;exact⟨e,_,.ufn h g s⟩
 rename_i L;rw[aa L]at c;obtain⟨_,_,o,d,l⟩:=a.toks<|p i;obtain rfl:=d.nils;simp[dv,v,decide_eq_true_eq]at c;obtain h|h|h|h|h|h|h|h|h|h|h:=c
 .omega
 .exact⟨_,_,.uint h b⟩
 .exact⟨_,_,.uflt h b⟩
 .exact⟨_,_,.ustr h b⟩
 .exact⟨_,_,.unil h b⟩
 .exact⟨_,_,.utru h b⟩
 .exact⟨_,_,.ufls h b⟩
 .exact⟨_,_,.urst h b⟩
 all_goals omega
theorem amd(c:Em tk n m)(k:D tk n m [131] i j)(l:j<n):On tk n .entry i j:=by
 by_cases g:(tk i).k=48
 .obtain⟨d,z,e,v⟩:=k.rt 48 [1,47,119] (by simp[xE,aiF,g]);have⟨h,_,A,f,w⟩:=e.toks;have⟨q,r,B,b,_⟩:=f.toks;have⟨o,p,a⟩:=c.at.expr b l;exact⟨_,_,.named g h q r a⟩
 by_cases h:(tk i).k=44
 .obtain⟨d,z,e,v⟩:=k.rt 44 [119,45,47,119] (by simp[xE,aiF,h]);have⟨A,B,C,f,b,w⟩:=e.cut;have⟨o,p,a⟩:=c.at.expr f b.lt;obtain⟨q,_,_,s,_⟩:=b.toks;obtain⟨r,u,_,t,_⟩:=s.toks;obtain⟨_,_,y⟩:=c.at.expr t l;exact⟨_,_,.pair h d a q r u y⟩
 .obtain⟨d,e,_,b,_⟩:=k.row (x:=([119],dv (tk i).k)) (by grind [xE,aiF]);have⟨o,p,a⟩:=c.at.expr b l;exact⟨_,_,.item g h (ve e).1 d a⟩
theorem ae3(o:Em tk n m)(l:D tk n m [129] i j)(e:j<n)(c:(tk j).k=43):∃R1,P tk n .entries i R1 j:=by
 by_cases t:dv (tk i).k=A0\/(tk i).k=48\/(tk i).k=44
 .obtain⟨d,_,g,_⟩:=l.ro [131,130] (by grind [xE,ak8]);have h:(tk i).k≠43:=by grind [ve]
  obtain⟨_,_,k,q,b,_⟩:=g.cut;obtain⟨_,_,p⟩:=o.at.entry q b.lt;by_cases a:(tk k).k=46
  .obtain⟨f,_,r,_⟩:=b.rt 46 [129] (by simp[xE,apB,a]);have⟨R1,s⟩:=o.at.entries r e c;exact⟨_,.ncom h d p a f s⟩
  .obtain⟨f,rfl⟩:=b.nu (by simp[xE,apB,a]);exact⟨_,.nlast h d p a f<|.nstop c e⟩
 .have g:dv (tk i).k=Ax:=U;obtain⟨d,rfl⟩:=l.nu (by grind [xE,ak8]);exact⟨_,.nstop c e⟩
theorem auh(d:Em tk n m){k e x b}(g:(tk i).k=20\/(tk i).k=15)(q:i<n)(r:P tk n (.expr 0) (i+1) x k)(h:P tk n .block k b e)(p:D tk n m [105] e j)(t:j<n):On tk n .branch i j:=by
 by_cases c:(tk e).k=15
 .obtain⟨a,C,f,y⟩:=p.rt 15 [119,132,105] (by simp[xE,aiC,c]);obtain⟨_,_,_,v,o,_⟩:=f.cut;obtain⟨_,_,z⟩:=d.at.expr v o.lt;obtain⟨_,_,_,w,s,_⟩:=o.cut;have⟨u,B,l⟩:=d.at.block w s.lt;obtain⟨_,_,A⟩:=d.at.els (.inr c) a z l s t;exact⟨_,_,.belif g q r h c a A⟩
 by_cases o:(tk e).k=16
 .obtain⟨a,C,f,y⟩:=p.rt 16 [132] (by simp[xE,aiC,o]);have⟨u,B,l⟩:=d.at.block f t;exact⟨_,_,.belse g q r h o a l⟩
 .obtain⟨a,rfl⟩:=p.nu (by grind [xE,aiC]);exact⟨_,_,.bno g q r h c o a⟩
theorem aqx:∀m,Em tk n m->∀{i j},D tk n m [113] i j->j<n->∃N ks R1 k f m',P tk n .base i (one N ks) k/\P tk n .moreB k R1 f/\(tk f).k=47/\f<n/\D tk n m' [124] (f+1) j/\m'<m:=by
 intro m
 induction m using Nat.strongRecOn with
 |_ m F=>
  intro o i j b p;have B:∃c,c<m/\∃a:Int,(a=114\/a=115)/\(D tk n c [1,a] i j\/D tk n c [40,119,41,a] i j):=by
   by_cases d:(tk i).k=1
   .obtain⟨h,c,g,q⟩:=b.ro [1,114] (by simp[xE,akL,d]);grind
   .by_cases e:(tk i).k=40
    .obtain⟨h,c,g,q⟩:=b.ro [40,119,41,115] (by simp[xE,akL,e]);grind
    .cases b.no (by grind [xE,akL])
  obtain⟨c,q,r,A,g⟩:=B;obtain⟨N,ks,k,_,a,p2,d,_,x,_,y⟩:=ac3 o.mo O p g;have z:fam r=2:=by obtain rfl|rfl:=A<;>rfl
  rw[z]at y;have E:(tk k).k≠48/\(tk k).k≠44/\(tk k).k≠40:=by have:=jJ x;omega
  have hS:a=114\/a=115:=by grind [fam]
  obtain rfl|rfl:=hS
  .by_cases l:(tk k).k=46
   .obtain⟨e,G,h,C⟩:=d.rt 46 [113] (by simp[xE,ak0,l]);obtain⟨_,_,_,_,_,_,s,t,u,v,w,_⟩:=F _ O o.mo h p;exact⟨N,_,_,k,_,_,p2,.bgo l e s t,u,v,w,O⟩
   .by_cases b:(tk k).k=47
    .obtain⟨e,G,h,C⟩:=d.rt 47 [124] (by simp[xE,ak0,b]);exact⟨N,_,_,k,k,_,p2,.bstop l e,b,e,h,O⟩
    .cases d.no (by grind [xE,ak0])
  .cases d.no (by simp[xE,atv,E])
theorem D.blk(h:D tk n m (132::r) i j):(tk i).k=42/\i<n:=by
 obtain⟨_,_,k,a,_,_⟩:=h.cut;obtain⟨_,_,_⟩:=a.row (x:=([42,100,43],decide _)) byR;grind
theorem aui(a:Em tk n m)(o:(tk i).k=19)(ad:D tk n m [19,1,106] i j)(A:j<n):On tk n .stat i j:=by
 obtain⟨_,_,_,K,_⟩:=ad.toks;obtain⟨l,_,_,y,_⟩:=K.toks;by_cases e:(tk<|i+2).k=47
 .obtain⟨r,ao,p,af⟩:=y.rt 47 [119,46,119,107,132] (by simp[xE,apx,e]);have⟨ap,ar,k,b,c,_⟩:=p.cut;have⟨H,an,h⟩:=a.at.expr b c.lt;have⟨u,C,av,q,ak⟩:=c.toks;obtain⟨ax,_,F,d,z,_⟩:=q.cut;obtain⟨_,_,E⟩:=a.at.expr d z.lt;obtain⟨_,_,_,v,w,_⟩:=z.cut;have⟨t,B⟩:=w.blk;have⟨G,am,f⟩:=a.at.block w A;by_cases g:(tk F).k=46
  .obtain⟨s,_,L,_⟩:=v.rt 46 [119] (by simp[xE,apy,g]);obtain⟨_,_,al⟩:=a.at.expr L B;exact⟨_,_,.tfor o O l (.stop O r) e (.es h<|.ego u C E<|.ego g s al<|.estop O B) f⟩
  .obtain⟨s,rfl⟩:=v.nu (by simp[xE,apy,g]);exact⟨_,_,.tfor o O l (.stop O r) e (.es h<|.ego u C E<|.estop g s) f⟩
 .obtain⟨r,_,_,u,_⟩:=y.row (x:=([104,21,119,132],decide ((tk<|i+2).k=46\/(tk<|i+2).k=21))) (by simp[xE,apx,e]);have⟨ao,ap,k,p,b,af⟩:=u.cut;obtain⟨_,v,_⟩:=D.names _ p b.lt;obtain⟨s,_,ar,c,_⟩:=b.toks;have⟨av,ax,F,q,d,ak⟩:=c.cut;have⟨t,g⟩:=d.blk;have⟨H,an,h⟩:=a.at.expr q g;have⟨G,am,f⟩:=a.at.block d A;exact⟨_,_,.teach o O l v s h t g f⟩
theorem ahf(f:Em tk n m){a}(A:a=110\/a=112)(h:(tk i).k=1\/(tk i).k=40)(q:i<n)(e:D tk n m [1,a] i j\/D tk n m [40,119,41,a] i j)(c:j<n)(E:(tk j).k=5\/(tk j).k=6\/(tk j).k=43):On tk n .stat i j:=by
 obtain⟨_,_,k,_,g,p2,b,_,y,_,z⟩:=ac3 f O c e;rw[show fam a=1 by obtain rfl|rfl:=A<;>rfl]at z;have r:(tk k).k≠48/\(tk k).k≠44/\(tk k).k≠40:=by have:=jJ y;omega
 have hS:g=110\/g=111\/g=112:=by grind [fam]
 obtain rfl|rfl|rfl:=hS
 .by_cases p:(tk k).k=46
  .obtain⟨d,C,l,B⟩:=b.rt 46 [113] (by simp[xE,akK,p]);obtain⟨_,_,_,_,_,_,t,u,v,w,x,_⟩:=aqx _ f.mo l c;have⟨s,o⟩:=f.at.exprs x c;exact⟨_,_,.tset h q p2 (.bgo p d t u) v w o⟩
  .by_cases e:(tk k).k=47
   .obtain⟨d,C,l,B⟩:=b.rt 47 [124] (by simp[xE,akK,e]);have⟨s,o⟩:=f.at.exprs l c;exact⟨_,_,.tset h q p2 (.bstop p d) e d o⟩
   .cases b.no (by grind [xE,akK])
 .obtain⟨d,rfl⟩:=b.nu (by simp[xE,att,r]);exact⟨_,_,.tdo h q p2 O O c⟩
 .cases b.no (by simp[xE,atu,r])
theorem ahg(d:Em tk n m)(r:i<n)(af:(jL (tk i).k).2=A0)(a:D tk n m (jL (tk i).k).1 i j)(f:j<n)(F:(tk j).k=5\/(tk j).k=6\/(tk j).k=43):On tk n .stat i j/\(tk i).k≠5/\(tk i).k≠6/\(tk i).k≠43:=by
 have G:(tk i).k=22\/(tk i).k=13\/(tk i).k=18\/(tk i).k=20\/(tk i).k=31\/(tk i).k=19\/(tk i).k=11\/(tk i).k=23\/(tk i).k=27\/(tk i).k=30\/(tk i).k=28\/(tk i).k=14\/(tk i).k=42\/(tk i).k=1\/(tk i).k=40:=by
  refine Decidable.byContradiction λb=>?_;simp[not_or]at b;grind [jL]
 refine⟨?_,O,O,O⟩;obtain e|e|e|e|e|e|e|e|e|e|e|e|e|e|e:=G
 .rw[show(jL (tk i).k).1=[22,1,104,103] by rw[e];rfl]at a;obtain⟨_,_,p,b,o⟩:=a.toks;have⟨q,_,h,c,s⟩:=b.toks;have⟨A,ao,k,l,v,am⟩:=c.cut;obtain⟨_,z,_⟩:=D.names _ l v.lt;by_cases y:(tk k).k=47
  .obtain⟨u,a4,C,a1⟩:=v.rt 47 [124] (by simp[xE,akI,y]);have⟨K,E⟩:=d.at.exprs C f;exact⟨_,_,.tlet e O q z y E⟩
  .obtain⟨u,rfl⟩:=v.nu (by simp[xE,akI,y]);exact⟨_,_,.tlet0 e O q z y⟩
 .rw[show(jL (tk i).k).1=[13,1,47,119] by rw[e];rfl]at a;obtain⟨_,_,p,b,o⟩:=a.toks;have⟨q,_,h,c,s⟩:=b.toks;have⟨H,B,A,l,am⟩:=c.toks;have⟨t,w,g⟩:=d.at.expr l f;exact⟨_,_,.tcon e q H B g⟩
 .rw[show(jL (tk i).k).1=[18,1,133] by rw[e];rfl]at a;obtain⟨_,_,p,b,o⟩:=a.toks;have⟨q,_,h,c,s⟩:=b.toks;obtain⟨B,_,_⟩:=c.row (x:=([40,126,41,132],decide ((tk<|i+2).k=40))) byR;have⟨t,w,g⟩:=d.at.body (tk<|i+2) c f;exact⟨_,_,.tfn e q U B g⟩
 .rw[show(jL (tk i).k).1=[20,119,132,105] by rw[e];rfl]at a;obtain⟨_,_,p,b,o⟩:=a.toks;have⟨h,A,k,c,l,s⟩:=b.cut;have⟨t,w,g⟩:=d.at.expr c l.lt;have⟨ao,a3,a2,v,B,a0⟩:=l.cut;have⟨H,an,q⟩:=d.at.block v B.lt;obtain⟨_,_,L⟩:=d.at.els (.inl e) r g q B f;exact⟨_,_,.tif e r L⟩
 .rw[show(jL (tk i).k).1=[31,119,132] by rw[e];rfl]at a;obtain⟨_,_,p,b,o⟩:=a.toks;have⟨h,A,k,c,l,s⟩:=b.cut;have⟨t,w,g⟩:=d.at.expr c l.lt;have⟨H,an,q⟩:=d.at.block l f;exact⟨_,_,.twhile e r g q⟩
 .grind [jL,aui]
 .rw[show(jL (tk i).k).1=[11] by rw[e];rfl]at a;obtain⟨_,_,p,b,o⟩:=a.toks;obtain rfl:=b.nils;exact⟨_,_,.tbreak e f⟩
 .rw[show(jL (tk i).k).1=[23] by rw[e];rfl]at a;obtain⟨_,_,p,b,o⟩:=a.toks;obtain rfl:=b.nils;exact⟨_,_,.tnext e f⟩
 .rw[show(jL (tk i).k).1=[27,108] by rw[e];rfl]at a;obtain⟨_,_,p,b,o⟩:=a.toks;cases q:dv (tk<|i+1).k with
  |true=>
   obtain⟨u,h,c,s⟩:=b.ro [124] (by simp[xE,aiD,q]);have⟨K,E⟩:=d.at.exprs c f;exact⟨_,_,.tret e u q E⟩
  |false=>
   obtain⟨u,rfl⟩:=b.nu (by simp[xE,aiD,q]);exact⟨_,_,.tret0 e u F⟩
 .rw[show(jL (tk i).k).1=[30,132,12,1,109,132] by rw[e];rfl]at a;obtain⟨_,_,p,b,o⟩:=a.toks;have⟨h,A,k,c,l,s⟩:=b.cut;have⟨t,w,g⟩:=d.at.block c l.lt;have⟨K,_,ao,v,a0⟩:=l.toks;have⟨L,al,a3,B,_⟩:=v.toks;have⟨a4,_,a2,C,ad,a1⟩:=B.cut;have⟨_,ak⟩:=ad.blk;have⟨H,an,q⟩:=d.at.block ad f;by_cases E:(tk<|k+2).k=46
  .obtain⟨u,_,av,_⟩:=C.rt 46 [1] (by simp[xE,apz,E]);obtain⟨ap,ax,_,ar,_⟩:=av.toks;obtain rfl:=ar.nils;exact⟨_,_,.ttry e r g K al L (.go E ax ap<|.stop U ak) q⟩
  .obtain⟨u,rfl⟩:=C.nu (by simp[xE,apz,E]);exact⟨_,_,.ttry e r g K al L (.stop E ak) q⟩
 .rw[show(jL (tk i).k).1=[28,119] by rw[e];rfl]at a;obtain⟨_,_,p,b,o⟩:=a.toks;have⟨t,w,g⟩:=d.at.expr b f;exact⟨_,_,.tthrow e r g⟩
 .rw[show(jL (tk i).k).1=[14,116] by rw[e];rfl]at a;obtain⟨_,_,p,b,o⟩:=a.toks;have G:∃h,h<m/\(D tk n h [1,117] (i+1) j\/D tk n h [40,119,41,117] (i+1) j):=by
   by_cases y:(tk<|i+1).k=1
   .obtain⟨_,h,c,s⟩:=b.ro [1,117] (by simp[xE,ak1,y]);grind
   .by_cases af:(tk<|i+1).k=40
    .obtain⟨_,h,c,s⟩:=b.ro [40,119,41,117] (by simp[xE,ak1,af]);grind
    .cases b.no (by grind [xE,ak1])
  obtain⟨h,s,c⟩:=G;obtain⟨t,w,k,A,l,p2,q,am,v,_,_⟩:=ac3 d.mo O f c;have z:(tk k).k≠48/\(tk k).k≠44/\(tk k).k≠40:=by have:=jJ v;omega
  have hS:l=117\/l=118:=by grind [fam]
  obtain rfl|rfl:=hS
  .cases q.no (by simp[xE,atw,z])
  .obtain⟨u,rfl⟩:=q.nu (by simp[xE,atx,z]);exact⟨_,_,.tdefer e r p2⟩
 .rw[show(jL (tk i).k).1=[132] by rw[e];rfl]at a;obtain⟨_,_,p,b,o⟩:=a.row (x:=([42,100,43],decide _)) byR;have⟨t,w,g⟩:=ac4 d a f;exact⟨t,_,.tblock e r g⟩
 .rw[show(jL (tk i).k).1=[1,110] by rw[e];rfl]at a;exact ahf d O (.inl e) r (.inl a) f F
 .rw[show(jL (tk i).k).1=[40,119,41,112] by rw[e];rfl]at a;exact ahf d O (.inr e) r (.inr a) f F
theorem ame(d:Em tk n m)(l:D tk n m [100] i j)(f:j<n)(e:(tk j).k=43\/(tk j).k=6):∃R1,P tk n .stats i R1 j:=by
 by_cases t:(tk i).k=5
 .obtain⟨a,z,b,x⟩:=l.rt 5 [100] (by simp[xE,aiB,t]);have⟨R1,h⟩:=d.at.stats b f e;exact⟨R1,.ssep t a h⟩
 cases hb:(jL (tk i).k).2 with
 |false=>
  obtain⟨a,rfl⟩:=l.nu (by grind [xE,aiB]);exact⟨_,.sstop e f⟩
 |true=>
  obtain⟨a,_,v,_⟩:=l.ro ((jL (tk i).k).1++[101]) (by grind [xE,aiB]);obtain⟨z,_,k,b,s,x⟩:=v.split _ _ R;by_cases c:(tk k).k=5
  .obtain⟨g,_,w,_⟩:=s.rt 5 [100] (by simp[xE,apw,c]);have⟨R1,h⟩:=d.at.stats w f e;have⟨⟨u,y,o⟩,p,q,r⟩:=ahg d.mo a hb b g<|.inl c;exact⟨_,.sgo p q r a o<|.ssep c g h⟩
  .obtain⟨g,rfl⟩:=s.nu (by simp[xE,apw,c]);obtain⟨⟨u,y,o⟩,p,q,r⟩:=ahg d.mo a hb b g O;exact⟨_,.sgo p q r a o<|.sstop e f⟩
def aqy(b:∀i,(tk i).k<100)(m):Ex tk n m:=by
 induction m using Nat.strongRecOn with
 |_ m a=>exact⟨aqw b a,aqt b a,amc a,amb a,ac4 a,ame a,λc=>aqv a c,ae3 a,amd a,auh a⟩
end
