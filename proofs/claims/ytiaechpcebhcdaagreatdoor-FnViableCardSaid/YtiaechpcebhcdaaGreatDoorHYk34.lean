import Derived.Test.YtiaechpcebhcdaaGreatDoorHYk32
set_option linter.all false
set_option maxRecDepth 100000
set_option maxHeartbeats 12800000
open Go.Proofs.Tryz
open List renaming length->M,set->A6,replicate->Ck
open Option renaming none->Q,some->R
open Go.Value renaming slice->T,pointer->X,int->Ax,iface->B1,slice->B3,bool->B4,int->E0,string->E2,ownBlock->F0,nilIface->F2,tuple->G2,string->H1
open Go renaming undef->V,World->A9,Value->B2,grownBy_putObj'->B7,wpAnyH_ready->Fs,wpList_append_own_at->F1,Calls->G0,ownsRow_succ->H0
open Go.IntKind renaming i64->Y
open Go.World renaming putObj_heap_other->A0,news_of_block->B6
open Bool renaming false->A2,true->Ce
open Go.Obj renaming cells->A3
open Go.KeepsOthers renaming setCell->A5
open Go.Proofs.Tryz renaming prog->Br
open Go.RowKit renaming Below->B0,Hid->C2,intOf->D4
open Go.Ending renaming returned->B5
open Go.AllReadyH renaming cons->D3,nil->E1
open Go.Lib renaming asciiSpaceTab->Ed,TabIs->G3
namespace Go.Proofs.YtiaechpcebhcdaaGreatDoor
open Go.RowKit
variable{L:List Im}{N:Nd}{W:World}{c n:Nat}
def lsC:List Int:=[1,106,110,114,112,117,115,113,116,119,120,124,131,128,132,133]
def abh{c:Int}(a:c ∉ lsC):qc c=if c<100 then eI c else⟨#[]⟩:=by
 simp only[lsC,gG,iC,iD,not_or]at a;unfold qc;rw[aa a.1,aa a.2.1,aa O,aa O,aa O,aa O,aa O,aa O,aa O,aa O,aa O]
def abi(w:A9)(c:Int):G0 Br 27 #[Ax Y c] w λe k=>e= B5 (H1 (qc c))/\B0 w.heap.size w k:=by
 by_cases a:c∈lsC
 .simp only[lsC,gG,iC,iD]at a;rcases a with rfl|rfl|rfl|rfl|rfl|rfl|rfl|rfl|rfl|rfl|rfl|rfl|rfl|rfl|rfl|rfl;all_goals
   go_in;go_wp2;go_ret;exact⟨rfl,ai _ _⟩
 .have j:∀b∈lsC,(c==b)=A2:=λb i=>beq_eq_false_iff_ne.2 λe=>a (e ▸ i);simp only[lsC,gG,iC,iD,forall_eq_or_imp,forall_eq]at j;rw[abh a];clear a;have g:=λw=>uf c w;by_cases d:c<100
  .rw[ab d];have⟨l,f⟩:=aw (eI c);rw[f]at g⊢;clear f;go_in;go_wp2_with fail;refine dm (g _) λw1 h=>?_;go_wp2;go_ret;exact⟨rfl,h⟩
  .rw[aa d];go_in;go_wp2;go_ret;exact⟨rfl,ai _ _⟩
open Go.Maps Go.WideMaps
theorem Ci{lo:Nat}{ks:Fo}(e8:LCs lo ks):LC lo N ks:=by
 intro m v gf d hp ch ad aL ct;obtain⟨n,d1,hz,hy,a4,F,ap,bj,⟨el,bt⟩,⟨c3,gd,c5,c6⟩,d0,dq,d3,f6⟩:=ch;obtain⟨rfl,rfl⟩:=f6;obtain rfl:=(rh el).1;obtain⟨bh,bp,rfl⟩:=cG d0.1;obtain⟨bg,bo,rfl⟩:=cG ad.row;obtain⟨bf,ce,rfl⟩:=cG dq.1;have e9:=Dl.len _ _ ⟨ap,d3⟩;have bE:=λm=>GG (fH N.k) n m;have fr:=λm=>jf n m;obtain⟨H,ag,L,b0⟩:∃eg c c9,uL (T bh (M (N.nm.map E2)) bp) (fH N.k)= T eg c c9:=by unfold uL;grind
 have a3:=Hs m n N _ _ d1 ⟨_,_,_,rfl⟩ c5;rw[c6,b0]at a3;unfold jA at a3;unfold ig at a3⊢;generalize ha:rL (fH N.k)=f3 at a3 bE⊢;have x:=aj c5;have⟨c,a0⟩:=aw (M a4);have⟨E,bD⟩:=aw (M d);have g9:c<=50000000:=by have:=ks.len_le;rw[dj]at ct;omega
 rw[a0]at x;rw[bD];go_in;go_wp2_with (go_at_call 308;refine eE (fr _) ?_);refine a3.mono ?_;rintro e j ⟨rfl,K⟩;have gt:∀o,(j.alloc o).cell? ⟨n,5,Q⟩=R (T bf c ce):=λo=>by
  have a:=((de j o).block _ (gF (ah x) K.size)).trans ((K.block _ (ah x)).trans x);rw[au _ _ _ _ _ _ a];rfl
 have e6:=de j (A3 (xF N (T H ag L) (T Q 0 0)) 100);have s:=K.trans (e6.mono K.size);have d8:C2 (Lj lo m (j.alloc (A3 (xF N (T H ag L) (T Q 0 0)) 100)) N n j.heap.size (T bh (M (N.nm.map E2)) bp) (T bf c ce) (T bg E bo) (T bg E bo) d [] ks .nil ks a4 [] a4 ap [] ap [] Q 0 0):=by
  refine⟨rfl,rfl,rfl,e8,uy.mono (λfq ew ez eF=>⟨s.block fq eF,ew,ez⟩) _ _ _ d3,List.Perm.refl _,?_,rfl,λhA=>ix _,λba af=>(by cases af),Fm.of_below s aL _,λg cq=> .inl cq,⟨K.size,λe=>?_,by rw[b0];exact ay j _⟩,dA _ _ _ _,by simp[kB,F0],⟨d1,(s.block _ (ah x)).trans x⟩,by have:=bz dq.1 s;grind,λba af g cq=>((ad.each ba af).2.lt g cq).2,bz d0.1 s⟩
  .rw[dD];exact⟨by have:=bz ad.row s;grind,λba af=>⟨bz (ad.each ba af).1 s,bz (ad.each ba af).2 s⟩⟩
  .have:=(ad.row.lt _ (by rw[bD];exact e)).2;have:=K.size;omega
 go_wp2;go_loopw [1,18] (λf8 cI wr=>∃(a:Nat) (D am:Fo) (a7 F:List B2) (ca bj:List Nat) (f:List Mb) (b9:Option Addr) (w cb:Nat) (ac:Option Addr) (k:Nat),f8= T b9 w cb/\cI= Ax Y a/\a<=c/\M a7=a/\C2 (Lj lo m wr N n j.heap.size (T bh (M (N.nm.map E2)) bp) (T bf c ce) (T bg E bo) (T b9 w cb) d f ks D am a4 a7 F ap ca bj (D.tops E) ac a k)) (λ_ cI _=>c-(D4 cI).toNat)
 case atStart=>exact⟨0,.nil,ks,[],a4,[],ap,[],bg,E,bo,Q,0,rfl,rfl,nH,rfl,d8⟩
 case round=>
  obtain⟨a,D,am,a7,F,ca,bj,f,b9,w,cb,ac,k,rfl,rfl,hd,cu,b⟩:=hrel;by_cases gz:a<c
  .have gv:M a7+M F=c:=by rw[<-a0,<-b.out.e2,aB]
   obtain⟨v,a9,rfl⟩:∃v a9,F=v::a9:=by
    cases F with
    |nil=>grind
    |cons v a9=>grind
   cases am with
   |nil=>have:=b.nr.1;cases this
   |cons q B b6=>
    obtain⟨r,d2,a8,d6,ds,f9,av,c8,⟨cf,en⟩,ep,eq,es,et,ev⟩:=b.nr;obtain⟨rfl,rfl⟩:=rh cf;obtain⟨g,rfl⟩:∃g,bf=R ⟨g,0,Q⟩:=by
     have o:=b.vr;rw[a0]at o;rcases bm o with⟨gr,_⟩|⟨g,gp,cv⟩
     .omega
     .exact⟨g,(ads cv).1⟩
    have dc:wr.cell? ⟨g,a,Q⟩=R (ig q.k r):=by
     have:=b.vr.cells (g:=g) rfl a (ig q.k r) (by rw[<-b.out.e2,jr O,cu,fI];rfl);have e5:(⟨g,0,Q⟩:Addr).add a=⟨g,a,Q⟩:=by unfold Addr.add;split<;>simp_all
     rw[e5]at this;exact this
    have e3:C2 (uy wr lo Q (one q B) [ig q.k r] (a8.ownBlock.toList++(av++[]))):=⟨r,d2,a8,d6,ds,[],av,[],⟨rfl,rfl⟩,ep,eq,es,et,rfl,rfl⟩;have eL:C2 (∃bn,bj=(a8.ownBlock.toList++(av++[]))++bn/\uy wr lo Q b6 a9 bn):=⟨c8,by rw[en];simp,ev⟩;have fc:=λm=>GG (fH q.k) r m;have fu:=λm=>jf r m;have bv:M (d++f)=M d+D.sz:=by
     have e:=congrArg M b.mf;rw[dr,Fo.flat_len]at e;rw[aB,e]
    have hh:D.sz+(B.sz+1+b6.sz)=ks.sz:=by have e:=congrArg Fo.sz b.e1;rw[Fo.sz_app]at e;exact e
    have ea:=aj b.lc.1;have fb:=aK aL b.fm.bl.size;have cm:=e3;unfold ig at dc cm;generalize hb:rL (fH q.k)=f5 at dc cm fc;have he:(0:Int)<=(a:Int):=O;have hf:(a:Int)<(c:Int):=O;go_wp2_with fail;refine(ea wr _ _ (d++f) _ cm b.lw fb (by rw[bv,dj];rw[dj]at ct;omega)).mono ?_;rintro e p ⟨hr,c0,rfl,cF,fA,f0,⟨dd,ek⟩,e7,c7,ge,ht,cv,ff⟩;obtain⟨eh,ei,rfl⟩:=cG cF.row;cases cv;generalize g8:M ((d++f)++c0)=fz at cF c7⊢;have⟨bn,eb⟩:=b.kid e7 cF fA eL f0 dd ek c7;have G:=aj eb;have a5:p.drew.cell? ⟨j.heap.size,8,Q⟩=R (T ac a k):=by have l:=G.rb.2.2;show p.cell? _=_;rw[au _ _ _ _ _ _ l];rfl
    have fe:p.drew.cell? ⟨r,4,Q⟩=R (Ax Y ((M (d++f)+B.sz:Nat):Int)):=ff;generalize fo:(((M (d++f)+B.sz:Nat)):Int)=z at fe;go_wp2_with fail;refine wp_region_held_drew (S:=λ_=>True) J trivial (λhS=>?_);simp only[iB,db,fx,Nat.reduceAdd,iA,jb,jc,dI,dt];refine bB 0 (X (R ⟨j.heap.size,8,Q⟩)) rfl rfl hS (λd7 dn=>by go_simp) ?_;simp only[A6];refine bB 2 (B1 f5 (X (R ⟨r,0,Q⟩))) rfl rfl hS (λd7 dn=>by go_simp) ?_;simp only[A6];refine tg (S:=λef=>ef.cell? ⟨j.heap.size,8,Q⟩=R (T ac a k)) (C:=λA=>!(A==8||A==9||A==10)) (i:=1) (v:= T ac a k) rfl (zn J) (λ_ _ _ ch=>ch) ?hC _ _ _ _ (zo rfl J) (List.contains_iff_mem.1 J) (Or.inl ⟨byR,λd7 dn=>by go_simp⟩) hS a5 ?_
    case hC=>
     intro A hs dk t;simp only[Bool.not_eq_false',xc,mL]at t;rcases t with(rfl|rfl)|rfl
     .obtain rfl:=cC dk;exact⟨{on:=1,ground:=Ground.data},I,rfl,rfl⟩
     all_goals
      obtain rfl:=cC dk;exact⟨{on:=1,ground:=Ground.phase},I,rfl,rfl⟩
    simp only[Act.put,bF,bG,bI];refine eK (i:=3) J rfl (λy h=>?_);go_simp;refine eE (fu _) ?_;refine h _ _ trivial (λ_=>a5) ?_;try simp only[bF,bG,bI]
    refine eK (i:=4) J rfl (λy h=>?_);go_simp;refine h _ _ trivial (λ_=>a5) ?_;try simp only[bF,bG,bI]
    refine eK (i:=5) J rfl (λy h=>?_);go_simp;refine h _ _ trivial (λ_=>a5) ?_;try simp only[bF,bG,bI]
    refine eK (i:=6) J rfl (λy h=>?_);go_simp;refine h _ _ trivial (λ_=>a5) ?_;try simp only[bF,bG,bI]
    refine eK (i:=7) J rfl (λy h=>?_);go_simp;have l:=G.rb.2.2;have fv:∀o,(p.alloc o).cell? ⟨j.heap.size,8,Q⟩=R (T ac a k):=λo=>by rw[au _ _ _ _ _ _ (((de p o).block _ (ah l)).trans l)];rfl
    refine h _ _ trivial (λ_=>fv _) ?_;try simp only[bF,bG,bI]
    have⟨cw,cy,cz,cA,cB⟩:=eC aii;have fn:=G.fm.bl.size;refine eK (i:=8) J rfl (λy h=>?_);refine step_append_lies _ byR _ _ 98 byR m.heap.size 3 cw _ 1 8 underlying98 cy cz cA cB rfl Z (T ac a k) a _ byR (bz G.kr (bu (de p (A3 #[Ax Y z] 3)))) ⟨p.heap.size,0,Q⟩ 1 1 [Ax Y z] byR rfl (B6 (ay p _)) (by intro f7 b5;rw[List.mem_singleton.1 b5];rfl) Z py O (aK fn (de p (A3 #[Ax Y z] 3)).size) _ rfl ?_;intro cg cd b7 a6 u bw gu;have dg:(p.alloc (A3 #[Ax Y z] 3)).grownBy b7 (B3 ac a k).ownBlock:=⟨u.os,u.tape,u.output,u.size,u.block⟩;have ed:=G.put (z:=z) (o:= A3 #[Ax Y z] 3) (by rw[fy];exact a6) dg bw aL;have d5:=(dg.block _ (by have:=ah l;rw[fp];omega) (λe=>gy G.kr l Z e.symm)).trans (((de p (A3 #[Ax Y z] 3)).block _ (ah l)).trans l);have hl:b7.cell? ⟨j.heap.size,8,Q⟩=R (T ac a k):=by rw[au _ _ _ _ _ _ d5];rfl
    have ho:∀A,b7.frozen? ⟨j.heap.size,A,Q⟩=A2:=λA=>cD _ _ _ _ _ d5;have ec:=aj ed;refine h _ _ trivial (λt=>by cases t) ?_;simp only[Act.put,bF,bG,bI];refine eK (i:=9) J rfl (λy h=>?_);go_simp;refine h _ _ trivial (λt=>by cases t) ?_;try simp only[bF,bG,bI]
    refine eK (i:=10) J rfl (λy h=>?_);go_simp;refine h _ _ trivial (λt=>by cases t) ?_;refine vI J ?_ _;go_wp2_with fail;refine⟨⟨a+1,D.app (one q B),b6,a7++[ig q.k r],a9,ca++(a8.ownBlock.toList++(av++[])),bn,f++c0,eh,fz,ei,R ⟨cg,0,Q⟩,cd,rfl,by go_num,O,by rw[aB,cu];rfl,?_⟩,by simp[D4];omega⟩;have e:(D.app (one q B)).tops E=D.tops E++[z]:=by rw[Fo.tops_app,<-fo,bv,bD];rfl
    rw[e];exact ec
  .have fg:c=a:=O;subst fg;have bv:M (d++f)=M d+D.sz:=by
    have e:=congrArg M b.mf;rw[dr,Fo.flat_len]at e;rw[aB,e]
   have fl:F=[]:=by
    have e:=congrArg M b.e2;rw[aB,cu,a0]at e;exact tG O
   subst fl;have e4:am= .nil:=by
    cases am with
    |nil=>rfl
    |cons q B b6=>obtain⟨r,d2,a8,d6,ds,f9,av,c8,⟨cf,_⟩,_⟩:=b.nr;cases cf
   subst e4;obtain⟨_,rfl⟩:=b.nr;have e0:D=ks:=by have e:=b.e1;rw[Fo.app_nil]at e;exact e
   subst e0;obtain⟨gb,gm,dl⟩:=cG b.lw.row;have cs:C2 (w=M (d++f)):=(ads dl).2.1;clear dl;have fd:C2 (c=D.len):=by show c=_;rw[<-a0];exact e9
   subst bD;have d9:=aj bt;clear bt;have g6:w<=50000000:=by have:=cs.out;rw[dj]at ct;omega
   obtain⟨fB,bA⟩:=b.bx;have gs:=ah x.out;have l:=b.rb.2.2;have hi:=b.rb.1;rw[b0]at l;have gn:wr.cell? ⟨n,4,Q⟩=R (Ax Y fB):=by rw[au _ _ _ _ _ _ bA];rfl
   have dd:wr.frozen? ⟨n,4,Q⟩=A2:=cD _ _ _ _ _ bA;have df:(wr.setCell ⟨n,4,Q⟩ (Ax Y (w:Int))).heap[j.heap.size]?=_:=(az _ _ _ _ (by show j.heap.size≠n;omega)).trans l;obtain⟨ao,cp⟩:=aw (wr.setCell ⟨n,4,Q⟩ (Ax Y (w:Int)));rw[cp]at df;obtain⟨hB,hE,hG,hH,hI,hJ,hK,h4,h5,h6⟩:=co df;have g0:¬(c:Int)<(c:Int):=O;have bc:=(Fm.num (lo:=lo) bA c3 (w:Int) Q).1;rw[cp]at bc;have b8:=bc.row b.lw.row (λ_ _=>I) (λc9=>ik.2.2.2.symm);have fa:lo<=ao.heap.size:=aK aL (aK b.fm.bl.size bc.bl.size);rw[<-cs.out]at b8;have fF:=bz b8 (de ao (A3 (xF N (T H ag L) (T ac c k)) 100));have fk:=(de ao (A3 (xF N (T H ag L) (T ac c k)) 100)).size;obtain⟨cw,cy,cz,cA,cB⟩:=eC Aa;clear bE bA l bc b8;go_wp2_with (at_builtin;refine F1 _ rfl _ _ 24 rfl lo 100 cw _ 9 112 underlying24 cy cz cA cB rfl Z _ _ _ rfl fF ⟨ao.heap.size,0,Q⟩ 1 1 (xF N (T H ag L) (T ac c k)).toList rfl rfl (B6 (ay ao _)) (by intro f7 b5;simp at b5;rcases b5 with rfl|rfl|rfl|rfl|rfl|rfl|rfl|rfl|rfl<;>rfl) py O (aK fa fk) ?_;intro hw b7 a6 u _ bw;obtain⟨cg,cd,rfl⟩:=H0 a6);go_ret;have em:oa (d++f)++(xF N (T H ag L) (T ac c k)).toList=oa ((d++f)++[⟨{N with ks:=D.tops (M d)},uL (T bh (M (N.nm.map E2)) bp) (fH N.k),T ac c k⟩]):=by rw[vG (d++f),b0];show _=oa (d++f)++(cMb _++[]);rw[dD];rfl
   rw[em]at a6;have bE:=cs.out;subst bE;rw[<-cp]at u bw;have⟨ee,a⟩:=b.fin c3 c6 aL fd (by rw[bv]) a6 u (by rcases bw with e|e;exact .inl e.symm;exact .inr (by simpa [F0] using e)) f3;have bt:=d9.out;subst bt;exact(show LP _ _ _ _ _ _ _ _ _ _ from⟨T (R ⟨cg,0,Q⟩) (M (d++f)+1) cd,ee,rfl,a⟩)
def agF:(Tryz.prog.info? 54).map (λi=>(i.zero,i.size,i.bytes))=R (R F2,1,16):=J
def Gx(N:Nd):Bool:=decide (0<=N.f/\N.f<=N.t/\0<=N.l/\M N.ks<=200/\M N.nm<=200)
def Gy(ns:List Nd)(i:Nat)(N:Nd):Bool:=
 Gx N&&(Et (pi N (fH N.k)) N&&(klB N.ks i (M N.ks) 0&&(ffB N (M N.ks) (fH N.k)&&kfB N (kinds ns N.ks))))
def Ki(b:A9)(lb mb:Nat)(L:List Im)(ns:List Nd)(N:Nd)(vn:B2)(e:Ending)(a:A9):Prop:=
 e= B5 (B4 (Gy ns (M L) N))/\B0 b.heap.size b a/\(Gy ns (M L) N=Ce->∃d c,c.N=N/\c.vn=vn/\Lk a lb mb d/\mI a b.heap.size d (L++[c]))
theorem agG(w:A9)(lb:Nat)(N:Nd)(vn vk:B2)(hn:dv w vn N.nm)(i:dz w vk N.ks)(d:jK N)(h:Gx N=A2):
  G0 Br 88 #[X (R ⟨lb,0,Q⟩),jA N vn vk] w λe n=>e= B5 (B4 A2)/\B0 w.heap.size w n:=by
 have y:∀b,B0 w.heap.size w (w.alloc b):=λb=>(ai _ w).alloc cJ b;obtain⟨o,q,rfl⟩:=hn.form;obtain⟨p,r,rfl⟩:=i.form;have j:=d.l1;have k:=d.l2;unfold Gx at h;have a:=jE h;unfold jA;generalize M N.nm=f at j a⊢;generalize M N.ks=g at k a⊢;obtain⟨z,c,m,l,E,B,F,C,A⟩:=N;simp only at a⊢;by_cases s:c<0
 .clear a;go_in;go_wp2;go_ret
  simp_all
 by_cases t:m<c
 .clear a;go_in;go_wp2;go_ret
  simp_all
 by_cases u:l<0
 .clear a;go_in;go_wp2;go_ret
  simp_all
 by_cases v:(200:Int)<(g:Int)
 .clear a;go_in;go_wp2;go_ret
  simp_all
 have x:(200:Int)<(f:Int):=O;go_in;go_wp2;go_ret
 simp_all
def abj{b:A9}(d:B0 W.heap.size W b){a:Addr}(c:a.block<W.heap.size){r:Bool}(h:W.frozen? a=r):b.frozen? a=r:=by
 rw[<-h];exact World.frozen?_of_block (d.block _ c)
def atH{w:A9}{vn:B2}(h:dv w vn N.nm)(k:Int):dv w (uL vn (fH k)) (pi N (fH k)).nm:=by
 rcases Ff k with hc|hc|hc|hc|hc|hc|hc
 .rw[hc];exact h
 .rw[hc];exact .inl ⟨rfl,_,_,rfl⟩
 .rw[hc];exact .inl ⟨rfl,_,_,rfl⟩
 .rw[hc];exact .inl ⟨rfl,_,_,rfl⟩
 .rw[hc];exact .inl ⟨rfl,_,_,rfl⟩
 .rw[hc];exact h
 .rw[hc];exact .inl ⟨rfl,_,_,rfl⟩
def akj(k:Int)(h:M N.nm<=1048576):(pi N (fH k)).nm.length<=1048576:=by
 rcases Ff k with hc|hc|hc|hc|hc|hc|hc
 .rw[hc];exact h
 .rw[hc];exact iz _
 .rw[hc];exact iz _
 .rw[hc];exact iz _
 .rw[hc];exact iz _
 .rw[hc];exact h
 .rw[hc];exact iz _
theorem akk(d w:A9)(ag:oH d)(a4:B0 d.heap.size d w)(lb mb:Nat)(fF:d.heap.size<=lb)(bk:B2)(L:List Im)(h:Lk w lb mb bk)(fl:mI w d.heap.size bk L)(N:Nd)(vn vk:B2)(hn:dv d vn N.nm)(bg:dz d vk N.ks)(a7:jK N)(fk:M L<=3000)(ns:List Nd)(f9:L.map Im.N=ns.take (M L))(b6:ns[M L]?=R N)(b9:∀W,B0 d.heap.size d W->G3 Br W "strings.asciiSpace" .u8 Ed)(cq:Gx N=Ce):
  G0 Br 88 #[X (R ⟨lb,0,Q⟩),jA N vn vk] w (Ki d lb mb L ns N vn):=by
 have cb:=λW (cm:B0 w.heap.size w W)=>abG W N vn vk (by obtain⟨cf,bb,p⟩:=hn.form;grind) (by obtain⟨cf,bb,p⟩:=bg.form;grind);have⟨a8,b4⟩:=aw (Gy ns (M L) N);unfold Ki;rw[b4];unfold Gy at b4;rw[cq,gK]at b4;obtain⟨n,o,rfl⟩:=hn.form;obtain⟨ap,a0,rfl⟩:=bg.form;unfold Gx at cq;have⟨hE,hG,hH,fe,ff⟩:=be cq;have y:C2 (Lk w lb mb bk/\mI w d.heap.size bk L/\dv d (T n (M N.nm) o) N.nm/\dz d (T ap (M N.ks) a0) N.ks/\jK N/\L.map Im.N=ns.take (M L)/\(∀W,B0 d.heap.size d W->G3 Br W "strings.asciiSpace" .u8 Ed)/\oH d/\B0 d.heap.size d w/\ns[M L]?=R N):=⟨h,fl,hn,bg,a7,f9,b9,ag,a4,b6⟩;have hm:=aj b4;have hJ:¬N.f<0:=O;have hK:¬N.t<N.f:=O;have h0:¬N.l<0:=O;unfold jA at cb⊢;have⟨m,dg⟩:=aw (M N.nm);have⟨q,dk⟩:=aw (M N.ks);have cc:=fD dg dk;rw[dg]at cb y ff⊢;rw[dk]at cb y fe⊢;have h1:¬(200:Int)<(q:Int):=O;have h2:¬(200:Int)<(m:Int):=O;have ih:lb<w.heap.size:=ah y.1.b;go_in;go_wp2_with fail;generalize fn:w.alloc _=c7;have⟨cw,dq,gp⟩:=al1 fn;replace cw:rA w.heap.size c7 100 N (T n m o) (T ap q a0):=cw;refine(cb c7 dq).mono ?_;rintro p B ⟨rfl,b5,dl⟩;rw[gp]at b5⊢;have⟨i,fv⟩:=aw (w.heap.size+1+1+1);rw[fv]at b5⊢;have ez:=cw.below dl;have a9:B0 w.heap.size w B:=dq.trans (dl.mono O);have⟨br,bs,bt,bv,bw,bE,b0,b1,b2,hA⟩:=co ez;have c8:B0 B.heap.size B B.drew:=bu (ai _ B);have ea:dv B.drew (T n m o) N.nm:=((y.2.2.1.below y.2.2.2.2.2.2.2.2.1).below a9).below c8;have an:=Hs B.drew i N (T n m o) (T Q 0 0) 0 ⟨_,_,_,rfl⟩ (b5.below c8);have a6:=λW (cm:B0 B.drew.heap.size B.drew W)=>Eu W (pi N (fH N.k)) N (uL (T n m o) (fH N.k)) (T Q 0 0) (T n m o) (T ap q a0) ((atH ea N.k).below cm) (ea.below cm) ⟨_,_,_,rfl⟩ ⟨_,_,_,rfl⟩ (akj _ y.2.2.2.2.1.l1) y.2.2.2.2.1.l1;obtain⟨hv,i1,hw,gn⟩:∃cf g8 bb,uL (T n m o) (fH N.k)= T cf g8 bb:=by
  unfold uL;grind
 rw[gn]at an a6;unfold jA at an a6;have⟨hb,eg⟩:=aw (Et (pi N (fH N.k)) N);rw[eg]at a6;have e6:=aj eg;have⟨hs,gf⟩:=aw (pi N (fH N.k));rw[gf]at an a6 e6;have f7:=λw=>Fg N.k i w;have gv:=λw=>jf i w;unfold ig at an⊢;have hq:C2 (rL (fH N.k)=rL (fH N.k)):=rfl;generalize cx:rL (fH N.k)=cF at an f7⊢;go_wp2_with fail;cases hb with
 |false=>
  have F:C2 (A2=a8):=U;go_region_held3 (λk=>k.cell? ⟨w.heap.size,0,Q⟩=R (Ax Y N.k)/\k.cell? ⟨w.heap.size,1,Q⟩=R (Ax Y N.f)/\k.cell? ⟨w.heap.size,2,Q⟩=R (Ax Y N.t)/\k.cell? ⟨w.heap.size,3,Q⟩=R (Ax Y N.l)/\k.cell? ⟨w.heap.size,4,Q⟩=R (Ax Y N.op)/\k.cell? ⟨w.heap.size,5,Q⟩=R (Ax Y N.n)/\k.cell? ⟨w.heap.size,6,Q⟩=R (H1 N.x)/\k.cell? ⟨w.heap.size,7,Q⟩=R (T n m o)/\k.cell? ⟨w.heap.size,8,Q⟩=R (T ap q a0)) (first|go_keep|exact⟨aq j (aq a br),aq j (aq a bs),aq j (aq a bt),aq j (aq a bv),aq j (aq a bw),aq j (aq a bE),aq j (aq a b0),aq j (aq a b1),aq j (aq a b2)⟩|exact⟨aq a br,aq a bs,aq a bt,aq a bv,aq a bw,aq a bE,aq a b0,aq a b1,aq a b2⟩) (first|(go_at_call 39;refine an.mono ?_;rintro p hl ⟨rfl,a⟩)|(go_at_call 139;refine(a6 _ a).mono ?_;rintro p ao ⟨rfl,j⟩))
  go_wp2;go_ret;have fu:B0 w.heap.size w ao:=a9.trans (((bu (ai _ B)).trans (a.trans (j.mono a.size))).mono a9.size);exact⟨byS,y.2.2.2.2.2.2.2.2.1.trans (fu.mono y.2.2.2.2.2.2.2.2.1.size),λh=>U⟩
 |true=>
  have hp:C2 ((klB N.ks (M L) (M N.ks) 0&&(ffB N (M N.ks) (fH N.k)&&kfB N (kinds ns N.ks)))=a8):=U;go_region_held3 (λk=>k.cell? ⟨w.heap.size,0,Q⟩=R (Ax Y N.k)/\k.cell? ⟨w.heap.size,1,Q⟩=R (Ax Y N.f)/\k.cell? ⟨w.heap.size,2,Q⟩=R (Ax Y N.t)/\k.cell? ⟨w.heap.size,3,Q⟩=R (Ax Y N.l)/\k.cell? ⟨w.heap.size,4,Q⟩=R (Ax Y N.op)/\k.cell? ⟨w.heap.size,5,Q⟩=R (Ax Y N.n)/\k.cell? ⟨w.heap.size,6,Q⟩=R (H1 N.x)/\k.cell? ⟨w.heap.size,7,Q⟩=R (T n m o)/\k.cell? ⟨w.heap.size,8,Q⟩=R (T ap q a0)) (first|go_keep|exact⟨aq j (aq a br),aq j (aq a bs),aq j (aq a bt),aq j (aq a bv),aq j (aq a bw),aq j (aq a bE),aq j (aq a b0),aq j (aq a b1),aq j (aq a b2)⟩|exact⟨aq a br,aq a bs,aq a bt,aq a bv,aq a bw,aq a bE,aq a b0,aq a b1,aq a b2⟩) (first|(go_at_call 39;refine an.mono ?_;rintro p hl ⟨rfl,a⟩)|(go_at_call 139;refine(a6 _ a).mono ?_;rintro p ao ⟨rfl,j⟩))
  have ch:B0 B.heap.size B ao:=(bu (ai _ B)).trans (a.trans (j.mono a.size));have cg:B0 w.heap.size w ao:=a9.trans (ch.mono a9.size);have⟨lk,b7,ec,fB,a7,ed,b9,ag,a4,b6⟩:=y.out;have fa:B0 d.heap.size d ao:=a4.trans (cg.mono a4.size);have ev:=lk.below cg;have ex:=b7.below cg;have ha:=ez.below ch;have bp:=b5.below ch;have gr:=a4.size;have g:=CF.start ag b7 O O O ev ex ha bp fa ⟨fF,O,gr⟩;have⟨K,ad,bj⟩:=cG ex.row;have fc:ao.cell? ⟨lb,1,Q⟩=R (T K (M L) ad):=by rw[<-bj,au _ _ _ _ _ _ ev.b];rfl
  have dc:=bp.cells.2.2.2.1;have dd:=bp.cells.2.2.2.2.2;have h5:i<ao.heap.size:=ah bp;have bo:=aj g;have⟨e,eb⟩:=aw (M L);rw[eb]at fc bo fk;have E:=aj eb;go_wp2_with (go_at_call 308;refine(gv _).mono ?_;rintro p s ⟨rfl,rfl⟩);have⟨ep,ds,ek,el,em⟩:=eC agF;go_loopw [54] (λc0 wr=>∃(c:Nat) (es:B2),c0= Ax Y c/\c<=q/\C2 ((klB N.ks e (q-c) c&&(ffB N q (fH N.k)&&kfB N (kinds ns N.ks)))=a8)/\C2 (∀r∈N.ks.take c,0<=r/\r<(e:Int))/\C2 (CF d lb mb w.heap.size i bk L N (T n m o) (T ap q a0) es c wr)) (λc0 _=>q-(D4 c0).toNat)
  case atStart=>
   refine⟨0,_,rfl,nH,?_,λr a5=>U,bo⟩;grind
  case round=>
   obtain⟨c,es,rfl,h7,c5,c6,cd⟩:=hrel;have g:=cd.out;have G:=c5.out;by_cases f6:c<q
   .obtain⟨r,a5⟩:=dh cc.2 f6;have⟨ht,fo,h6⟩:=(y.2.2.2.1.below g.bl).get a5;subst fo;have h9:(c:Int)<(q:Int):=O;have h8:(0:Int)<=(c:Int):=O;have dc:=g.bx.cells.2.2.2.1;rw[E.out]at dc;rw[(O:q-c=(q-(c+1))+1),klB,er,a5,jF]at G;by_cases b3:0<=r/\r<(e:Int)
    .obtain⟨cA,rfl⟩:=eJ b3.1;have fg:cA<e:=O;have⟨H,ei⟩:=dh E.out fg;have b8:=g.ns.row;rw[E.out]at b8;rcases bm b8 with⟨ip,_⟩|⟨bc,cs,bj⟩
     .omega
     subst bj;have fb:wr.cell? ⟨lb,1,Q⟩=R (T (R ⟨bc,0,Q⟩) e cs):=by rw[au _ _ _ _ _ _ g.lk.b];rfl
     have c9:wr.cell? ⟨bc,cA,Q⟩=R (B1 (rL (fH H.N.k)) (X (R ⟨H.b,0,Q⟩))):=by
      rw[b8.cellAt cA O,dw,ei];rfl
     have⟨u,v,cr⟩:=cG g.kr;subst cr;have fd:=g.bx.cells.2.2.2.2.1;have dd:=g.bx.cells.2.2.2.2.2 5;have d9:=g.kr;have ce:C2 (qH L (N.ks.take (c+1))=qH L (N.ks.take c)++[B1 (rL (fH H.N.k)) (X (R ⟨H.b,0,Q⟩))]):=by
      show _=_;rw[il,a5];unfold qH;rw[fy];simp[ei,nV,ig]
     have e0:C2 ((klB N.ks e (q-(c+1)) (c+1)&&(ffB N q (fH N.k)&&kfB N (kinds ns N.ks)))=a8):=by
      rw[dB b3,gK]at G;exact G
     have e8:C2 (∀r∈N.ks.take (c+1),0<=r/\r<(e:Int)):=λr en=>by
      rw[il,a5]at en;rcases List.mem_append.1 en with h|h
      .exact c6 r h
      .simp at h;subst h;exact b3
     have g6:lb<wr.heap.size:=ah g.lk.b;have g7:i<wr.heap.size:=ah g.bx;have iy:bc<wr.heap.size:=(b8.lt bc rfl).2;have eq:∀cy,(B3 u c v).ownBlock=R cy->ae1 wr cy:=λcy bg=>(ql d9 bg).1;have i2:R lb≠(B3 u c v).ownBlock:=λp=>by obtain⟨bb,bd⟩:=eq lb p.symm;exact sw g.lk.b bd Z rfl
     have ew:R i≠(B3 u c v).ownBlock:=λp=>by obtain⟨bb,bd⟩:=eq i p.symm;exact sw g.bx bd (qI _).1 rfl
     have i3:R bc≠(B3 u c v).ownBlock:=λp=>by
      rcases g.fr with e2|e2
      .rw[e2]at p;cases p
      .exact e2 p.symm
     have gt:d.heap.size<=wr.heap.size:=g.bl.size;have e7:C2 (rL (fH H.N.k)=rL (fH H.N.k)):=rfl;generalize rL (fH H.N.k)=cI at c9 ce e7;generalize H.b=c4 at c9 ce;have ba:∀C,B0 wr.heap.size wr (wr.alloc C).drew:=λC=>bu ((ai _ wr).alloc cJ C);go_wp2_with fail;go_region_law (refine step_append_lies _ byR _ _ _ byR d.heap.size 54 ep _ 1 16 underlying102 ds ek el em rfl O (T u c v) c (qH L (N.ks.take c)) byR ((d9.alloc _).drew) ⟨wr.heap.size,0,Q⟩ 1 1 [B1 cI (X (R ⟨c4,0,Q⟩))] byR byR (B6 (cs:=#[B1 cI (X (R ⟨c4,0,Q⟩))]) (t:=54) (fr:=(0,0)) (ay wr _)) (by simp[Value.oneCell']) O py O byT (wr.heap.size+1) I ?_;intro hI hx s bh bf cn ib;have hC:=(bf.cell_far ⟨i,5,Q⟩ byT ew).trans (aq (ba _) fd);have hD:=(bf.frozen_far ⟨i,5,Q⟩ byT ew).trans (abj (ba _) g7 dd))
     all_goals
      go_wp2_with fail;have⟨_,b7,_,_,_,_,_,ag,_,_⟩:=y.out;have hh:=cd.below (ba (A3 #[B1 cI (X (R ⟨c4,0,Q⟩))] 54));rw[<-ce.out]at bh;have⟨_,stB⟩:=hh.kid ag bf bh cn I;exact⟨⟨c+1,_,by go_num,O,e0,e8,stB⟩,by simp[D4];omega⟩
    .have F:C2 (A2=a8):=by rw[aG b3,gJ,gJ]at G;exact G
     have dn:=g.bl;by_cases h3:r<0
     .clear G g cd c5 a5;go_wp2;go_ret;exact⟨by rw[<-F.out];rfl,dn,λh=>by rw[<-F.out]at h;cases h⟩
     .have h4:¬r<(e:Int):=O;go_wp2;go_ret;exact⟨by rw[<-F.out];rfl,dn,λh=>by rw[<-F.out]at h;cases h⟩
   .obtain rfl:c=q:=O;rw[fI,klB,gK]at G;have⟨u,v,cr⟩:=cG g.kr;subst cr;have⟨K,ad,bj⟩:=cG g.ns.row;subst bj;rw[E.out];have fb:wr.cell? ⟨lb,1,Q⟩=R (T K e ad):=by rw[<-E.out,au _ _ _ _ _ _ g.lk.b];rfl
    have ee:=g.ns.row;rw[E.out]at ee;have gt:d.heap.size<=wr.heap.size:=g.bl.size;have g6:lb<wr.heap.size:=ah g.lk.b;have ba:∀C,B0 wr.heap.size wr (wr.alloc C):=λC=>(ai _ wr).alloc cJ C;have bo:=aj g;have e1:=aj G;have e3:=aj ee;have⟨_,b7,ec,fB,a7,ed,b9,ag,a4,b6⟩:=y.out;have eL:C2 (∀C s A z,(wr.alloc C).grownBy s (B3 K e ad).ownBlock->s.ownsRow d.heap.size 54 1 (T (R ⟨A,0,Q⟩) (e+1) z) (e+1) (L.map nV++[B1 cF (X (R ⟨i,0,Q⟩))])->((B3 (R ⟨A,0,Q⟩) (e+1) z).ownBlock=(B3 K e ad).ownBlock\/(B3 (R ⟨A,0,Q⟩) (e+1) z).ownBlock=R (wr.alloc C).heap.size)->
      s.heap[lb]?=R (A3 #[.map (R mb),T K e ad] 172 (0,0))/\Lk (s.setCell ⟨lb,1,Q⟩ (T (R ⟨A,0,Q⟩) (e+1) z)) lb mb (T (R ⟨A,0,Q⟩) (e+1) z)/\mI (s.setCell ⟨lb,1,Q⟩ (T (R ⟨A,0,Q⟩) (e+1) z)) d.heap.size (T (R ⟨A,0,Q⟩) (e+1) z) (L++[⟨N,i,T n m o,T u c v⟩])/\ie (s.setCell ⟨lb,1,Q⟩ (T (R ⟨A,0,Q⟩) (e+1) z)) i N (T n m o) e (T u c v)/\B0 d.heap.size d (s.setCell ⟨lb,1,Q⟩ (T (R ⟨A,0,Q⟩) (e+1) z))):=by
     intro C s A z fz gd cn;have hd:=bo.below (ba C);have cu:=E.out;have ct:=cc.2;subst ct;subst cu;have ge:∀r∈N.ks,0<=r/\r<(M L:Int):=by
      have:=c6.out;rw[Ig]at this;exact this
     refine hd.done ag ge fz ?_ cn;unfold ig;rw[cx];exact gd
    go_wp2_with (at_builtin;refine F1 _ rfl _ _ 102 rfl d.heap.size 54 ep _ 1 16 underlying102 ds ek el em rfl Z _ _ _ rfl (e3.alloc _) ⟨wr.heap.size,0,Q⟩ 1 1 [B1 cF (X (R ⟨i,0,Q⟩))] rfl rfl (B6 (cs:=#[B1 cF (X (R ⟨i,0,Q⟩))]) (fr:=(0,0)) (ay wr _)) (by intro i4 eh;simp at eh;subst eh;rfl) py O byT ?_;intro i5 s bh bf ii fq;obtain⟨A,z,rfl⟩:=H0 bh;obtain⟨et,cz,cB,cl,ar⟩:=eL.out _ s A z bf bh fq;have i7:s.cell? ⟨lb,1,Q⟩=R (T K e ad):=by {rw[au _ _ _ _ _ _ et];rfl};have i8:s.frozen? ⟨lb,1,Q⟩=A2:=cD _ _ _ _ _ et);generalize s.setCell ⟨lb,1,Q⟩ (T (R ⟨A,0,Q⟩) (e+1) z)=e9 at cz cB cl ar⊢;have cu:=E.out;have ct:=cc.2;have gu:(L++[⟨N,i,T n m o,T u c v⟩])[e]?=R ⟨N,i,T n m o,T u c v⟩:=by rw[<-cu];simp
    have gb:(L++[(⟨N,i,T n m o,T u c v⟩:Im)]).map Im.N=ns.take (M (L++[(⟨N,i,T n m o,T u c v⟩:Im)])):=by
     rw[fy,ed,aB,Ia,il,b6];rfl
    have fA:=cB.kids gb gu;have am:=Gt e9 lb mb _ cz i N (T n m o) e u c v O (ec.below ar) a7.l1 a7.ls a7.lx cl;unfold ig at am;rw[cx]at am;have al:=e1.out;cases hfb:ffB N c (fH N.k) with
    |false=>
     rw[hfb]at am al;rw[gJ]at al;have F:=aj al;refine am.mono ?_;rintro p eF ⟨rfl,af⟩;have aL:=ar.trans (af.mono ar.size);clear al hfb am;go_wp2;go_ret;exact⟨by rw[<-F.out];rfl,aL,λh=>by rw[<-F.out]at h;cases h⟩
    |true=>
     rw[hfb]at am al;rw[gK]at al;have f8:fH N.k=1->0<=N.n/\N.n<=200:=λbd=>by
      rw[bd]at hfb;have:=be (show decide (1<=N.n/\N.n<(c:Int))=Ce from hfb);omega
     refine am.mono ?_;rintro p eF ⟨rfl,af⟩;have aL:=ar.trans (af.mono ar.size);have g0:=cz.below af;have g9:=cB.below af;have f0:M (kinds ns N.ks)<=1048576:=by unfold kinds;rw[dr,ct];omega
     have ca:=aa4 eF i N (T n m o) (T u c v) e (kinds ns N.ks) (fA.below af) f0 (λW fm=>b9 W (aL.trans (fm.mono aL.size))) (cl.below af) f8;rw[al]at ca;unfold ig at ca;rw[cx]at ca;go_wp2_with (go_at_call 141;refine ca.mono ?_;rintro p i6 ⟨rfl,cp⟩);go_ret;exact⟨rfl,aL.trans (cp.mono aL.size),λ_=>⟨_,_,rfl,rfl,g0.below cp,g9.below cp⟩⟩
def akl(a w:A9)(k:oH a)(b:B0 a.heap.size a w)(lb mb:Nat)(m:a.heap.size<=lb)(c:B2)(L:List Im)(h:Lk w lb mb c)(i:mI w a.heap.size c L)(N:Nd)(vn vk:B2)(hn:dv a vn N.nm)(e:dz a vk N.ks)(f:jK N)(g:M L<=3000)(ns:List Nd)(n:L.map Im.N=ns.take (M L))(l:ns[M L]?=R N)(o:∀W,B0 a.heap.size a W->G3 Br W "strings.asciiSpace" .u8 Ed):
  G0 Br 88 #[X (R ⟨lb,0,Q⟩),jA N vn vk] w (Ki a lb mb L ns N vn):=by
 cases hf:Gx N with
 |true=>exact akk a w k b lb mb m c L h i N vn vk hn e f g ns n l o hf
 |false=>
  refine dm (agG w lb N vn vk (hn.below b) (e.below b) f hf) λp j=>?_;have d:Gy ns (M L) N=A2:=by unfold Gy;rw[hf,gJ]
  exact⟨by rw[d],b.trans (j.mono b.size),λh=>by rw[d]at h;cases h⟩
theorem adc(x:Bz):Er x=decide (x=⟨#[]⟩):=by
 unfold Er;rw[fL];by_cases a:x=⟨#[]⟩
 .grind
 .rw[aG a,aG];intro b;apply a;cases x
  simp_all
theorem zh(N:Nd):Et (pi N (fH N.k)) N=(match fH N.k with
  |0=>bK N A2 A2 A2 Ce
  |1=>bK N A2 Ce A2 A2
  |2=>bK N A2 Ce A2 A2
  |3=>bK N A2 A2 Ce A2
  |4=>bK N Ce A2 A2 A2
  |5=>bK N Ce A2 A2 Ce&&(N.op==0||N.op==1)
  |_=>bK N A2 A2 A2 A2):=by
 have l:∀(h i j:Bool)(P e f g:Prop) [Decidable P] [Decidable e] [Decidable f] [Decidable g],decide (P/\e/\f/\g)=(decide P&&decide e&&decide f&&decide g):=λh i j P e f g _ _ _ _=>by
  grind
 have d:decide ((0:Int)=N.op)=(N.op==0):=by
  grind
 have c:decide ((0:Int)=N.n)=(N.n==0):=by
  grind
 have a:decide ((⟨#[]⟩:Bz)=N.x)=Er N.x:=by
  rw[adc];grind
 have b:decide (([]:List Bz)=N.nm)=decide (M N.nm=0):=by
  grind
 unfold Et bK;rw[l Ce Ce Ce];rcases Ff N.k with hc|hc|hc|hc|hc|hc|hc
 .rw[hc];simp only[pi,d,c,a];simp
 .rw[hc];simp only[pi,d,a,b];simp
 .rw[hc];simp only[pi,d,a,b];simp
 .rw[hc];simp only[pi,d,c,b];simp
 .rw[hc];simp only[pi,c,a,b];simp
 .rw[hc];simp only[pi,c,a];grind
 .rw[hc];simp only[pi,d,c,a,b];simp
def mH(ns:List Nd)(ks:List Int):M (kinds ns ks)=M ks:=by simp[kinds]
theorem akm(ns:List Nd)(N:Nd)(j:Nat)(h:j<M N.ks):(kinds ns N.ks)[j]?=R (gq ns N j):=by
 unfold kinds gq;grind
def ade(K:List Int):gE [] K=K.isEmpty:=rfl
theorem afc(i:Nat)(K:List Int):gE [(i,1)] K=K.all (ms i):=by
 rw[gE,aa O,ade];have b:tkN i 1 K=M (K.takeWhile (ms i)):=by rfl
 rw[b]
 induction K with
 |nil=>rfl
 |cons a d c=>
  cases h:ms i a with
  |false=>simp_all
  |true=>
   rw[adq (by simp[h]),zC,h,gK,db,List.drop_succ_cons];exact c byR
theorem asG(i f:Nat)(b:f≠1)(a:Int)(r:List Int):tkN i f (a::r)=if ms i a=Ce then 1 else 0:=by
 unfold tkN;rw[aa b];cases h:ms i a with
 |false=>simp_all
 |true=>simp_all
theorem Kj(i:Nat)(b:List (Nat×Nat))(a:Int)(r:List Int):gE ((i,0)::b) (a::r)=(ms i a&&gE b r):=by
 rw[gE,asG i 0 O];grind
def afd(i:Nat)(a:List (Nat×Nat)):gE ((i,0)::a) []=A2:=by
 rfl
theorem aqB(i:Nat)(b:List (Nat×Nat))(a:Int)(r:List Int):gE ((i,2)::b) (a::r)=if ms i a=Ce then gE b r else gE b (a::r):=by
 rw[gE,asG i 2 O];grind
def ana(i:Nat)(a:List (Nat×Nat)):gE ((i,2)::a) []=gE a []:=by
 rfl
theorem aqC(n:Nat):∀(K:List Int),n<M K->gE (Gs n) K=((K.take n).all (ms 5)&&(K.drop n).all (ms 3)):=by
 induction n with
 |zero=>
  intro K b
  match K,b with
  |a::c,_=>
   show gE ((3,0)::[(3,1)]) (a::c)=_;rw[Kj,afc];simp
 |succ n d=>
  intro K b
  match K,b with
  |a::c,b=>
   show gE ((5,0)::Gs n) (a::c)=_;rw[Kj,d c U];grind
def tD(ns:List Nd)(N:Nd)(j:Nat)(h:j<M N.ks):gq ns N j=(kinds ns N.ks).getD j 0:=by
 rw[er,akm ns N j h];rfl
def Av(K:List Int)(p:Int->Bool)(f j:Nat)(h:j+(f+1)<=M K):((K.drop j).take (f+1)).all p=(p (K.getD j 0)&&((K.drop (j+1)).take f).all p):=by
 have a:j<M K:=O;rw[ja a,List.take_succ_cons,zC,er,bi a];rfl
def adf(ns:List Nd)(N:Nd):∀(f j:Nat),j+f<=M N.ks->mD ns N f j=(((kinds ns N.ks).drop j).take f).all io
 |0,j,_=>by rfl
 |f+1,j,h=>by
  rw[mD,adf ns N f (j+1) O,Av _ _ _ _ (by rw[mH];exact h),tD ns N j O]
def akn(ns:List Nd)(N:Nd):∀(f j:Nat),j+f<=M N.ks->sbB ns N f j=(((kinds ns N.ks).drop j).take f).all ll
 |0,j,_=>by rfl
 |f+1,j,h=>by
  rw[sbB,akn ns N f (j+1) O,Av _ _ _ _ (by rw[mH];exact h),tD ns N j O]
def ako(ns:List Nd)(N:Nd):∀(f j:Nat),j+f<=M N.ks->tgB ns N f j=(((kinds ns N.ks).drop j).take f).all BE
 |0,j,_=>by rfl
 |f+1,j,h=>by
  rw[tgB,ako ns N f (j+1) O,Av _ _ _ _ (by rw[mH];exact h),tD ns N j O]
def akp(ns:List Nd)(N:Nd):∀(f j:Nat),j+f<=M N.ks->enB ns N f j=(((kinds ns N.ks).drop j).take f).all (ms 9)
 |0,j,_=>by rfl
 |f+1,j,h=>by
  rw[enB,akp ns N f (j+1) O,Av _ _ _ _ (by rw[mH];exact h),tD ns N j O];rfl
theorem anb(k:Int):ms 5 k=BE k:=by
 unfold ms BE;grind
def ym(ns:List Nd)(N:Nd):Bool:=Et (pi N (fH N.k)) N&&(ffB N (M N.ks) (fH N.k)&&kfB N (kinds ns N.ks))
theorem asH(ns:List Nd)(N:Nd)(hk:N.k=3\/N.k=4\/N.k=6\/N.k=7\/N.k=8\/N.k=9\/N.k=10\/N.k=11\/N.k=12\/N.k=14\/N.k=15\/N.k=16\/N.k=20\/N.k=21\/N.k=22\/N.k=23\/N.k=24\/N.k=25\/N.k=26\/N.k=27\/N.k=28\/N.k=29\/N.k=30\/N.k=31\/N.k=32\/N.k=33\/N.k=36\/N.k=37\/N.k=40\/N.k=41\/N.k=42)(j:M N.nm<=200):ym ns N=qk ns N:=by
 have a:=mH ns N.ks;have b:=tD ns N;have h:io 1=A2:=rfl;unfold ym kfB rkB;rw[zh];revert a b;generalize kinds ns N.ks=c;intro a b;rcases hk with hk|hk|hk|hk|hk|hk|hk|hk|hk|hk|hk|hk|hk|hk|hk|hk|hk|hk|hk|hk|hk|hk|hk|hk|hk|hk|hk|hk|hk|hk|hk;all_goals
  rcases c with _|⟨d,_|⟨e,_|⟨f,_|⟨g,_|⟨i,l⟩⟩⟩⟩⟩;all_goals
   simp at a;simp[qk,ll,stB,kI,fH,acC,ffB,txB,EA,hk,<-a,b,mD,gg,Kj,afd,ade,aqB,ana,ms]<;>grind
theorem asI(ns:List Nd)(N:Nd)(hk:N.k=1\/N.k=2\/N.k=13\/N.k=34\/N.k=35)(j:M N.nm<=200):ym ns N=qk ns N:=by
 have b:=mH ns N.ks;have e:=tD ns N 0;have d:=adf ns N (M N.ks) 0 O;have c:=akn ns N (M N.ks) 0 O;have a:=akp ns N (M N.ks) 0 O;have g:ms 0=ll:=rfl;have h:ms 3=io:=rfl;rw[<-b]at d c a e;rw[ni,Ig]at d c a;unfold ym kfB rkB;rw[zh,<-b];revert b e d c a;generalize kinds ns N.ks=f;intro b e d c a;rcases hk with hk|hk|hk|hk|hk;all_goals
  rcases f with _|⟨i,l⟩;all_goals
   simp at b e;simp only[db,zC,fx,List.all_nil]at d c a;simp[qk,ll,stB,kI,fH,acC,ffB,txB,EA,hk,d,c,a,g,h,<-b,e,gg,afc,Kj,afd,ade,ms]<;>grind
theorem asJ(ns:List Nd)(N:Nd)(a:N.k=5)(e:M N.nm<=200):ym ns N=qk ns N:=by
 have b:fH N.k=1:=by rw[a];rfl
 have c:qk ns N=(bK N A2 Ce A2 A2&&(decide (1<=N.n/\N.n<(M N.ks:Int))&&(tgB ns N N.n.toNat 0&&mD ns N (M N.ks-N.n.toNat) N.n.toNat))):=by
  unfold qk;rw[ab (by rw[a];rfl)];unfold stB;grind
 unfold ym kfB;rw[zh,b,c,ab rfl];simp only[ffB];by_cases d:1<=N.n/\N.n<(M N.ks:Int)
 .rw[dB d,gK,gK,aqC _ _ (by rw[mH];omega),ako ns N _ _ O,adf ns N _ _ O]
  congr 1
  congr 1
  .rw[ni]
   congr 1
   funext k
   exact anb k
  .have:(kinds ns N.ks).drop N.n.toNat=((kinds ns N.ks).drop N.n.toNat).take (M N.ks-N.n.toNat):=by
    rw[dH (by rw[wE,mH];omega)]
   rw[<-this];rfl
 grind
theorem aqD(ns:List Nd)(N:Nd)(h:N.k ∉ oe)(e:N.k≠5):ym ns N=qk ns N:=by
 have a:=(JI N.k h).1;simp only[oe,gG,iC,iD,not_or]at h;have f:ll N.k=A2:=by unfold ll;grind
 have c:qk ns N=A2:=by
  unfold qk;rw[aa U];unfold kI;grind
 have b:fH N.k=6:=by
  unfold fH;grind
 have d:rkB N.k (kinds ns N.ks)=A2:=by unfold rkB;rw[a]
 unfold ym kfB;grind
def akq(ns:List Nd)(N:Nd)(a:M N.nm<=200):ym ns N=qk ns N:=by
 by_cases b:N.k∈oe
 .simp only[oe,gG,iC,iD]at b;by_cases d:N.k=1\/N.k=2\/N.k=13\/N.k=34\/N.k=35
  .exact asI ns N d a
  .exact asH ns N O a
 .by_cases c:N.k=5
  .exact asJ ns N c a
  .exact aqD ns N b c
theorem adg(ns:List Nd)(N:Nd)(g:200<M N.nm):qk ns N=A2:=by
 have h:∀c d e,bK N c d e A2=A2:=λc d e=>by unfold bK;grind
 have a:∀f b,b<=200->gg N f b=A2:=λf b i=>by unfold gg;grind
 have j:=a 1 1 O;have k:=a 1 2 O;have l:=a 1 200 O;have m:=a 0 200 O;unfold qk;split
 .unfold stB
  simp_all
 .unfold kI
  simp_all
theorem anc(ns:List Nd)(i:Nat)(N:Nd):Gy ns i N=jD ns i N:=by
 unfold Gy jD;by_cases b:M N.nm<=200
 .have a:Gx N=acE N:=by
   unfold Gx acE;grind
  have c:=akq ns N b;unfold ym at c;grind
 .have a:Gx N=A2:=by unfold Gx;grind
  rw[a,adg ns N O,gJ,C0,C0]
def abk(n l Bs b cap:Nat)(a:Option Addr)(f:Nat->B2)(L:b<=3000)(H:b<=cap)(c:Nat->A9->Prop)(o:A9->Prop)
  (q:∀m W,c m W->W.cell? ⟨Bs,0,Q⟩=R (T a b cap))
  (y:∀m W,c m W->∀j,j<b->∃i,a=R i/\W.cell? (i.add j)=R (f j))
  (x:∀m W,m<b->c (m+1) W->YieldAt Fence.wide (n-1) Br l #[Ax Y (m:Int),f m] W λe g=>(e= B5 (B4 Ce)/\c m g)\/(e= B5 (B4 A2)/\o g))
  (W:A9) (p:c b W):
  CallsIn Fence.wide n Br 207 #[.func (.yield l) #[] #[],X (R ⟨Bs,0,Q⟩)] W λe g=>(∃v,e= B5 v)/\(c 0 g\/o g):=by
 have F:=q _ _ p;refine callsIn_of_wp func207 rfl trivial ?_ rfl;simp only[ntmps207,iB,db,fx,Nat.reduceAdd,Nat.reduceSub,iA,jb,jc,pE,dI,dt]
 gi_wp2
 gi_loopw [3] (λk wr=>∃d:Nat,d<=b/\k= Ax Y ((d:Int)-1)/\c d wr) (λk _=>(D4 k+1).toNat)
 case atStart=>exact⟨b,cJ,rfl,p⟩
 case round=>
  obtain⟨d,K,rfl,h⟩:=hrel;have E:=q _ _ h;rcases rp d with rfl|hp
  .gi_wp2
   go_end0
   exact⟨⟨_,rfl⟩,.inl h⟩
  .obtain⟨m,rfl⟩:∃m,d=m+1:=⟨d-1,O⟩;obtain⟨i,rfl,G⟩:=y _ _ h m O;have⟨C,tmps,A,B,ad,w⟩:=x m wr O h;have r:((m+1:Nat):Int)-1=(m:Int):=O;rw[r];have af:(m:Int)<(b:Int):=O;have ag:(0:Int)<=(m:Int):=O
   gi_wp2
   refine⟨λs=>by simp[Fence.wide]at s,w.mono ?_⟩;rintro e z (⟨rfl,t⟩|⟨rfl,u⟩)
   .gi_wp2
    go_roundw
    case rel=>exact⟨m,O,I,t⟩
    case measure=>simp[D4]
   .gi_wp2
    refine aD (iI rfl _ _ _) rfl ?_;exact⟨⟨_,rfl⟩,.inr u⟩
def Aw(a:Option Addr)(b cap:Nat)(w:A9):
  G0 Br 142 #[T a b cap] w λe c=>e= B5 (.func (.func 207) #[] #[X (R ⟨w.heap.size,0,Q⟩)])/\c=w.alloc (A3 #[T a b cap] 102):=by
 refine calls_of_wp func142 rfl ?_;simp only[ntmps142,iB,db,fx,Nat.reduceAdd,Nat.reduceSub,iA,jb,jc,pE,dI,dt];go_wp2;go_ret;exact rr
attribute [local go_sem] mK
def afe:Option Nat->B2
 |some i=> G2 #[Ax Y (i:Int),B4 Ce]
 |none=> G2 #[Ax Y 0,B4 A2]
structure FK (w:A9) (B:Nat) (vs:B2) (n:Nat) (D:List Int) (W:A9):Prop where
 bl:B0 w.heap.size w W
 row:W.ownsRow w.heap.size 3 1 (.slice (R ⟨w.heap.size,0,Q⟩) n n) n (D.map (E0 .i64))
 bx:W.heap[B]?=R (.cells #[.slice (R ⟨w.heap.size,0,Q⟩) n n] 98 (0,0))
 bs:W.heap[B+1]?=R (.cells #[vs] 102 (0,0))
 ok:agt n D
theorem FK.put{w:A9}{B:Nat}{a:B2}{n:Nat}{D:List Int}{W:A9}(h:FK w B a n D W)(d:w.heap.size<B){r:Loop}{k:Nat}(e:B+1<k)(b:W.heap[k]?=R (.loop r))(o:Obj):FK w B a n D (W.putObj k o):=
 ⟨h.bl.grown (B7 W k o) h.bl.size (λf c=>U),ownsRow_putObj h.row o b rfl,(A0 O).trans h.bx,(A0 O).trans h.bs,h.ok⟩
structure aqE (w:A9) (B:Nat) (vs:B2) (n t:Nat) (ks D:List Int) (j:Nat) (E:List Int) (W0 W:A9):Prop where
 st:FK w B vs n E W
 rest:dpK t (ks.drop j) E=dpK t ks D
 kf:KeepsFrom (B+2) W0 W
theorem By{base e size:Nat}{v:B2}{xs:List B2}(h:W.ownsRow base e size v n xs):∃a cap,v= T a n cap:=by
 rcases h.2 with⟨rfl,d⟩|⟨c,cap,b,rfl,_⟩;all_goals grind
theorem abl{base e size m:Nat}{a:Option Addr}{xs:List B2}(h:W.ownsRow base e size (T a n c) m xs):n=m:=by
 have⟨b,d,e⟩:=By h;grind
def mI.at{base g:Nat}(h:mI W base (T (R ⟨g,0,Q⟩) n c) L){i:Nat}{x:Im}(a:L[i]?=R x):W.cell? ⟨g,i,Q⟩=R (B1 (rL (fH x.N.k)) (X (R ⟨x.b,0,Q⟩))):=by
 have e:i<M L:=(List.getElem?_eq_some_iff.1 a).1;have d:=abl h.row;subst d;rw[h.row.cellAt i O,dw,a];rfl
def mI.kidAt{base:Nat}{p:B2}(h:mI W base p L){i:Nat}{x:Im}(d:L[i]?=R x){g:Nat}(o:x.kv= T (R ⟨g,0,Q⟩) n c){j:Nat}{z:Int}(e:x.N.ks[j]?=R z):
  ∃q f,z=((q:Nat):Int)/\q<i/\L[q]?=R f/\W.cell? ⟨g,j,Q⟩=R (B1 (rL (fH f.N.k)) (X (R ⟨f.b,0,Q⟩))):=by
 have⟨z0,t⟩:=h.rng i x z d (da e);obtain⟨q,rfl⟩:=eJ z0;have r:i<M L:=(List.getElem?_eq_some_iff.1 d).1;have s:j<M x.N.ks:=(List.getElem?_eq_some_iff.1 e).1;have l:q<i:=O;refine⟨q,L[q]'(O),rfl,l,bi _,?_⟩;have a:=h.kid i x d;rw[o]at a;have m:=abl a;subst m;rw[a.cellAt j O];unfold qH;rw[dw,e];simp only[xa,wH];rw[zk,ab l,bi O];rfl
theorem Gz(w:A9)(base:Nat)(bb:B2)(L:List Im)(a4:mI w base bb L)(ns:List Nd)(cB:L.map Im.N=ns)(n:Nat)(cc:M L=n)(d4:1<=n)(z:n<=3000)(cy:∀x∈L,M x.N.ks<=200):
  G0 Br 90 #[bb] w λe m=>e= B5 (afe (iK (jt (J0 ns)) n 0))/\B0 w.heap.size w m:=by
 obtain⟨f,g,rfl⟩:∃f bc,bb= T (R ⟨f,0,Q⟩) n bc:=by
  rcases bm a4.row with⟨h,_⟩|h;all_goals grind
 have cl:n<=g:=by
  rcases a4.row.2 with⟨z,_⟩|⟨d3,dn,ds,z,_,_,d5,_⟩;all_goals grind
 have⟨c4,cs,c1,c2,eq⟩:=eC tL;have⟨a1,bj⟩:=aw (iK (jt (J0 ns)) n 0);rw[bj];have q:=It a4 cB cc bj cy;refine na (n:=5).1 ?_;refine callsIn_of_wp_marks func90 rfl trivial ?_ rfl;simp only[ntmps90,iB,db,fx,Nat.reduceAdd,Nat.reduceSub,iA,jb,jc,pE,dI,dt];refine wpIn_wide.2 ?_;go_wp2_with (first|(at_make;refine C6 _ rfl _ _ 98 rfl w.heap.size 3 c4 (Ax Y 0) 1 underlying98 cs c1 c2 Y Y _ _ n rfl rfl rfl rfl U py cJ ?_;intro B a8 K)|(go_at_call 142;refine(Aw (R ⟨f,0,Q⟩) n g _).mono ?_;rintro e ev ⟨rfl,rfl⟩));rename_i dg ca;have ch:B0 w.heap.size w B:=⟨K.os,K.tape,K.output,K.size,λi cw=>K.block i cw I⟩;rw[show(madeCells (E0 Y 0).cells (n*1)).toList=Ck n (E0 Y 0) by rw[wL];exact zq _ n]at a8;have a9:w.heap.size<B.heap.size:=(a8.lt w.heap.size rfl).2;have⟨c,bf⟩:=aw B.heap.size;have F:FK w c (T (R ⟨f,0,Q⟩) n g) n (Ck n 0) ((B.alloc (A3 #[T (R ⟨w.heap.size,0,Q⟩) n n] 98)).alloc (A3 #[T (R ⟨f,0,Q⟩) n g] 102)):=by
  refine⟨(ch.alloc O _).alloc byT _,?_,?_,?_,?_⟩
  .rw[List.map_replicate];exact(a8.alloc _).alloc _
  .exact(dG _ _ _ byT).trans (by rw[<-bf];exact ay B _)
  .have:=ay (B.alloc (A3 #[T (R ⟨w.heap.size,0,Q⟩) n n] 98)) (A3 #[T (R ⟨f,0,Q⟩) n g] 102)
   simp_all
  .refine⟨I,λp al a6=>?_⟩;grind
 have af:((B.alloc (A3 #[T (R ⟨w.heap.size,0,Q⟩) n n] 98)).alloc (A3 #[T (R ⟨f,0,Q⟩) n g] 102)).heap.size=c+2:=byT;rw[bf]at a9⊢;generalize (B.alloc (A3 #[T (R ⟨w.heap.size,0,Q⟩) n n] 98)).alloc (A3 #[T (R ⟨f,0,Q⟩) n g] 102)=dl at F af⊢;refine(rm (n:=5)).1 ?_;refine xn (P:=Br) (gf:=207) (lb:=#[X (R ⟨c+1,0,Q⟩)]) rfl (enters_of func207 byR rfl)
  (λa=>#[Ax Y (a:Int),match L[a]? with|some x=> B1 (rL (fH x.N.k)) (X (R ⟨x.b,0,Q⟩))|none=> F2]) (λ_=>rfl) n
  (λa b=>∃D,FK w c (T (R ⟨f,0,Q⟩) n g) n D b/\dpN ns a D=J0 ns)
  (λa G b=>(∃D,FK w c (T (R ⟨f,0,Q⟩) n g) n D b/\dpN ns (a+1) D=J0 ns)/\∃x,L[a]?=R x/\
   G={tmps:=#[T (R ⟨f,0,Q⟩) n g,V,Ax Y 0,B4 A2,X (R ⟨c,0,Q⟩),Ax Y (a:Int),B1 (rL (fH x.N.k)) (X (R ⟨x.b,0,Q⟩)),V,V,V,V,
    T (R ⟨f,0,Q⟩) n g,Ax Y (n:Int),T (R ⟨w.heap.size,0,Q⟩) n n,T (R ⟨f,0,Q⟩) n g,.func (.func 207) #[] #[X (R ⟨c+1,0,Q⟩)],Ax Y (a:Int),B1 (rL (fH x.N.k)) (X (R ⟨x.b,0,Q⟩)),
    V,V,V,V,V,V,V,V,V,V,V,V,V,V,V,V,V,V,V,V,V,V,V,V,V,V,V,V,V,V,V,V,V,V],defers:=[]})
  (λ_=>False)
  ?pZ ?pAx ?pX ?h0 ?assign ?body ?seq ?done ?ret
 case pZ=>
  rintro a b c5 ba ⟨D,h,o⟩ ad;rw[af]at ad⊢;exact⟨D,h.put a9 O ad ba,o⟩
 case pAx=>
  rintro a G b c5 ba ⟨⟨D,h,o⟩,x,r,rfl⟩ ad;rw[af]at ad⊢;exact⟨⟨D,h.put a9 O ad ba,o⟩,x,r,rfl⟩
 case pX=>grind
 case h0=>
  intro b5 am em;have ck:B0 w.heap.size w b5:=F.bl.trans (am.mono O);exact⟨Ck n 0,⟨ck,bz F.row am,(am.block _ O).trans F.bx,(am.block _ O).trans F.bs,F.ok⟩,by rw[J0,<-q.out.2.1,dr,q.out.2.2.1]⟩
 case assign=>
  rintro aL a b dk ao ⟨D,h,o⟩ bh;have⟨x,r⟩:=dh q.2.2.1 ao;rw[r]at⊢;have dd:=λG=>bh G b;have k:=jB h o r
  gi_wp2
  exact bh _ _ ⟨⟨D,k.1,k.2.1⟩,x,k.2.2,rfl⟩ (KeepsFrom.refl _ _)
 case body=>
  rintro aL a G b ao ⟨⟨D,h,o⟩,x,r,rfl⟩;rw[af];have bk:=aq h.bl (q.1.box a x r).cells.2.2.2.2.1;have an:=q.1.kid a x r;have⟨b6,d0,E⟩:=By an;rw[E]at bk;have cx:=q.2.2.2.2 x (da r);have⟨ag,br⟩:=aw (M x.N.ks);rw[br]at bk cx E;have cF:ns[a]?=R x.N:=U;have cn:dpN ns a (dpK a x.N.ks D)=J0 ns:=by
   rw[dpN,er,cF,jF]at o;exact o
  have k:=Dy r cn br E;have df:C2 (aqE w c (T (R ⟨f,0,Q⟩) n g) n a x.N.ks D 0 D b b):=⟨h,rfl,KeepsFrom.refl _ _⟩;have a7:=λw=>Fg x.N.k x.b w;have eh:(a:Int)<(n:Int):=O;have eg:(0:Int)<=(a:Int):=O;have bA:=λ(b7:Nat) w=>CallsIn.inRound aL (na (n:=2).2 (jf b7 w));generalize rL (fH x.N.k)=es at a7⊢
  gi_wp2_with (refine⟨trivial,?_⟩;gi_at_call 308;refine(bA _ _).mono ?_;rintro e ak ⟨rfl,bv⟩;subst ak)
  gi_loopw [24] (λC c8=>∃(p:Nat) (t:List Int),p<=ag/\C= Ax Y p/\C2 (aqE w c (T (R ⟨f,0,Q⟩) n g) n a x.N.ks D p t b c8)) (λC _=>ag-(D4 C).toNat)
  case atStart=>grind
  case round=>
   obtain⟨p,t,a6,rfl,l⟩:=hrel;by_cases cu:p<ag
   .have ec:(p:Int)<(ag:Int):=O;have ea:(0:Int)<=(p:Int):=O;have⟨al,ar⟩:=dh k.2.2.1 cu;have E:=k.2.2.2;obtain⟨gk,cr⟩:∃gk,b6=R ⟨gk,0,Q⟩:=by
     have an:=q.1.kid a x k.1;rw[E]at an;rcases bm an with⟨h,_⟩|⟨gk,bc,h⟩;all_goals grind
    subst cr;obtain⟨d,s,rfl,cI,bw,cm⟩:=(q.1.below (l.st.bl)).kidAt k.1 E ar;have bt:=aq l.st.bl (q.1.box d s bw).cells.2.2.2.1;have⟨j,bn⟩:=dh l.st.ok.1 ao;have⟨b9,cp⟩:=dh l.st.ok.1 (O:d<n);have d9:=l.st.ok.2 a j bn;have H:FK w c (T (R ⟨f,0,Q⟩) n g) n t wr.drew:=⟨l.st.bl.drew,l.st.row,l.st.bx,l.st.bs,l.st.ok⟩;have ap:=H.row;have bd:wr.drew.cell? ⟨w.heap.size,a,Q⟩=R (Ax Y j):=by rw[ap.cellAt a O,dw,bn];rfl
    have dq:wr.drew.cell? ⟨w.heap.size,d,Q⟩=R (Ax Y b9):=by rw[ap.cellAt d O,dw,cp];rfl
    have d2:=ap.frozenAt d;have bo:t.getD a 0=j:=U;have bD:=(ap.stored d (Ax Y (j+1))).1;rw[<-List.map_set]at bD;have bE:=l.st.ok.set a d ao cI;rw[bo]at bE;have c0:dpK a (x.N.ks.drop (p+1)) (t.set d (j+1))=dpK a x.N.ks D:=by
     have z:=l.rest;have bp:=(List.getElem?_eq_some_iff.1 ar);rw[ja bp.1,bp.2,dpK,bo]at z;exact z
    have a2:wr.drew.cell? ⟨c,0,Q⟩=_:=dE H.bx;have c6:FK w c (T (R ⟨f,0,Q⟩) n g) n (t.set d (j+1)) (wr.drew.setCell ⟨w.heap.size,d,Q⟩ (Ax Y (j+1))):=
     ⟨H.bl.setCell cJ _,bD,(az _ _ _ _ U).trans H.bx,(az _ _ _ _ U).trans H.bs,bE⟩
    have b0:C2 (aqE w c (T (R ⟨f,0,Q⟩) n g) n a x.N.ks D (p+1) (t.set d (j+1)) b (wr.drew.setCell ⟨w.heap.size,d,Q⟩ (Ax Y (j+1)))):=⟨c6,c0,l.kf.trans (((KeepsOthers.drew wr).from _).trans ((A5 _ _ _).from _))⟩;have ei:d≠a:=O;have en:IntKind.i64.wrap (j+1)=j+1:=by rw[bJ];omega
    have ep:=ah (q.1.box d s bw);have ce:(wr.drew.setCell ⟨w.heap.size,d,Q⟩ (Ax Y (j+1))).cell? ⟨c,0,Q⟩=R (T (R ⟨w.heap.size,0,Q⟩) n n)/\(wr.drew.setCell ⟨w.heap.size,d,Q⟩ (Ax Y (j+1))).cell? ⟨s.b,4,Q⟩=R (Ax Y (d:Int))/\(wr.drew.setCell ⟨w.heap.size,d,Q⟩ (Ax Y (j+1))).cell? ⟨w.heap.size,a,Q⟩=R (Ax Y j):=
     ⟨(World.cell?_setCell_far _ _ _ _ U).trans a2,(World.cell?_setCell_far _ _ _ _ U).trans bt,(World.cell?_setCell_other _ _ _ _ U).trans bd⟩
    have el:(d:Int)<(n:Int):=O;have ek:(0:Int)<=(d:Int):=O;have a7:=λw=>Fg s.N.k s.b w;generalize rL (fH s.N.k)=c7 at a7 cm
    gi_wp2_with (refine⟨trivial,?_⟩;gi_at_call 308;refine(bA _ _).mono ?_;rintro e ak ⟨rfl,bv⟩;subst ak)
    have cd:wr.drew.cell? ⟨c,0,Q⟩=R (T (R ⟨w.heap.size,0,Q⟩) n n)/\wr.drew.cell? ⟨s.b,4,Q⟩=R (Ax Y (d:Int))/\wr.drew.cell? ⟨w.heap.size,a,Q⟩=R (Ax Y j):=⟨a2,bt,bd⟩;refine uo (S:=λm=>m.cell? ⟨c,0,Q⟩=R (T (R ⟨w.heap.size,0,Q⟩) n n)/\m.cell? ⟨s.b,4,Q⟩=R (Ax Y (d:Int))/\m.cell? ⟨w.heap.size,a,Q⟩=R (Ax Y j)) byR J (λ⟨_,_,h⟩=>h) cd (λhS=>?_);refine bB 0 (T (R ⟨w.heap.size,0,Q⟩) n n) rfl rfl hS (λm ⟨u,v,y⟩=>by go_simp) ?_;simp only[A6];refine bB 1 (B1 c7 (X (R ⟨s.b,0,Q⟩))) rfl rfl hS (λm ⟨u,v,y⟩=>by go_simp) ?_;simp only[A6];refine bB 6 (T (R ⟨w.heap.size,0,Q⟩) n n) rfl rfl hS (λm ⟨u,v,y⟩=>by go_simp) ?_;simp only[A6];refine bB 7 (Ax Y (a:Int)) rfl rfl hS (λm ⟨u,v,y⟩=>by go_simp) ?_;simp only[A6];refine bB 8 (X (R ⟨w.heap.size,a,Q⟩)) rfl rfl hS (λm ⟨u,v,y⟩=>by go_simp) ?_;simp only[A6];refine bB 9 (Ax Y j) rfl rfl hS (λm ⟨u,v,y⟩=>by go_simp) ?_;simp only[A6];refine bB 10 (Ax Y (j+1)) rfl rfl hS (λm ⟨u,v,y⟩=>by go_simp) ?_;simp only[A6];refine Fs (rs:=[2]) J I (D3 rfl (λb4 a3=>?_) E1);go_simp;refine dm (jf _ _) λak bv=>?_;subst ak;refine a3 _ _ hS (λhS=>?_);try simp only[Act.put,bF,bG,bI]
    refine bB 3 (X (R ⟨s.b,0,Q⟩)) rfl rfl hS (λm ⟨u,v,y⟩=>by go_simp) ?_;simp only[A6];refine bB 4 (X (R ⟨s.b,4,Q⟩)) rfl rfl hS (λm ⟨u,v,y⟩=>by go_simp) ?_;simp only[A6];refine bB 5 (Ax Y (d:Int)) rfl rfl hS (λm ⟨u,v,y⟩=>by go_simp) ?_;simp only[A6];refine bB 11 (X (R ⟨w.heap.size,d,Q⟩)) rfl rfl hS (λm ⟨u,v,y⟩=>by go_simp) ?_;simp only[A6];refine Fs (rs:=[12]) J I (D3 rfl (λb4 a3=>?_) E1);go_simp;refine a3 _ _ ce (λhS=>?_);refine wpAnyH_done byR ?_ _
    gi_wp2
    exact⟨⟨p+1,_,O,by go_num,b0⟩,by simp[D4];omega⟩
   .obtain rfl:p=ag:=O;have a5:C2 (FK w c (T (R ⟨f,0,Q⟩) n g) n t wr/\dpN ns a t=J0 ns/\KeepsFrom (c+2) b wr):=by
     refine⟨l.st,?_,l.kf⟩;have z:=l.rest;rw[kD O,dpK]at z;grind
    gi_wp2
    exact⟨a5.2.2,t,a5.1,a5.2.1⟩
 case seq=>
  intro aL b2 b3 bg cg b cf;refine abk 4 aL (c+1) n g (R ⟨f,0,Q⟩) _ z cl b2 b3 (λa b h=>?_) (λa b h p a6=>?_) cg b cf
  .obtain⟨D,o,_⟩:=bg a b h;exact dE o.bs
  .obtain⟨D,o,_⟩:=bg a b h;have⟨x,r⟩:=dh q.2.2.1 a6;refine⟨_,rfl,?_⟩;rw[ww,r];exact aq o.bl (q.1.at r)
 case ret=>grind
 case done=>
  rintro b ⟨D,h,o⟩ d7;have d8:D=J0 ns:=o;refine ca _ _ ?_;have a2:=dE h.bx;have k:C2 (FK w c (T (R ⟨f,0,Q⟩) n g) n D b/\b.heap[c+2]?=R (.deferred (R []))):=⟨h,U⟩;have c9:zg (jt D) (n-0) 0 a1:=⟨U⟩;have d6:w.heap.size<c+2:=O;rw[af];go_wp2;go_loop [43] (λC=>∃i:Nat,i<=n/\C= Ax Y i/\zg (jt D) (n-i) i a1) (λC=>n-(D4 C).toNat)
  case atStart=>grind
  case round=>
   obtain⟨i,ee,rfl,b1⟩:=hrel;have A:=b1.out;by_cases cA:i<n
   .have ef:(i:Int)<(n:Int):=O;have ed:(0:Int)<=(i:Int):=O;have⟨al,ar⟩:=dh k.1.ok.1 cA;have d1:b.cell? ⟨w.heap.size,i,Q⟩=R (Ax Y al):=by rw[k.out.1.row.cellAt i O,dw,ar];rfl
    rw[(O:n-i=(n-(i+1))+1),iK]at A;have b8:jt D i=decide (100<al):=by unfold jt;grind
    rw[b8]at A;by_cases c3:100<al
    .rw[ab (dB c3)]at A;have a0:=aj A.symm;go_wp2_with fail;refine⟨I,.inl ⟨_,_,rfl,run_takeDeferred k.2,?_⟩⟩;refine⟨_,results_tmp2 rfl _ _ _,by rw[a0.out];rfl,?_⟩;exact k.1.bl.grown (B7 b (c+2) (.deferred Q)) k.1.bl.size (λi e=>U)
    .rw[aa U]at A;have dc:zg (jt D) (n-(i+1)) (i+1) a1:=⟨A⟩;go_wp2;go_round
     case rel=>grind
     case measure=>simp[D4];omega
   .obtain rfl:i=n:=O;rw[fI,iK]at A;have a0:=aj A.symm;go_wp2_with fail;refine⟨I,.inl ⟨_,_,rfl,run_takeDeferred k.2,?_⟩⟩;refine⟨_,results_tmp2 rfl _ _ _,by rw[a0.out];rfl,?_⟩;exact k.1.bl.grown (B7 b (c+2) (.deferred Q)) k.1.bl.size (λi e=>U)
attribute [local go_sem] mK
def Kk(S:List Int)(n:Nat):Option Nat->B2
 |some i=> G2 #[Ax Y (i:Int),B4 Ce]
 |none=> G2 #[Ax Y ((n:Int)-1),B4 (decide (S.getD (n-1) 0<(n:Int)))]
structure CG (w:A9) (B n:Nat) (S:List Int) (c:List Nat) (W:A9):Prop where
 bl:B0 w.heap.size w W
 r0:W.heap[w.heap.size]?=R (.cells #[.int .i64 0] 3 (0,0))
 r1:W.heap[w.heap.size+1]?=R (.cells #[.bool A2] 4 (0,0))
 row:W.ownsRow w.heap.size 3 1 (.slice (R ⟨w.heap.size+1+1,0,Q⟩) n n) n (S.map (E0 .i64)++Ck (n-M S) (.int .i64 0))
 bx:W.heap[B]?=R (.cells #[.slice (R ⟨w.heap.size+1+1,0,Q⟩) n n] 98 (0,0))
 mks:qz (w.heap.size+1+1+1) c W
def CG.below{w:A9}{B:Nat}{S:List Int}{c:List Nat}{b:A9}(h:CG w B n S c W)(a:B0 W.heap.size W b):CG w B n S c b:=
 ⟨h.bl.trans (a.mono h.bl.size),(a.block _ (ah h.r0)).trans h.r0,(a.block _ (ah h.r1)).trans h.r1,bz h.row a,(a.block _ (ah h.bx)).trans h.bx,h.mks.below a⟩
def CG.put{w:A9}{B n:Nat}{S:List Int}{c:List Nat}{W:A9}(h:CG w B n S c W)(f:w.heap.size+1<B){r:Loop}{k:Nat}(g:B<k)(b:W.heap[k]?=R (.loop r))(o:Obj):CG w B n S c (W.putObj k o):=
 ⟨h.bl.grown (B7 W k o) h.bl.size (λi e=>by cases e;omega),(A0 O).trans h.r0,(A0 O).trans h.r1,ownsRow_putObj h.row o b rfl,(A0 O).trans h.bx,
  ⟨h.mks.nd,h.mks.lo,λa d=>(A0 (by rintro rfl;have:=(h.mks.at_ a d).symm.trans b;cases this)).trans (h.mks.at_ a d)⟩⟩
structure Kl (w:A9) (B n:Nat) (S:List Int) (c:List Nat) (sz k:Nat) (kv:B2) (a:Int) (W:A9):Prop where
 oo:CG w B n S c W
 b5:W.heap[sz]?=R (.cells #[.int .i64 (k:Int)] 3 (0,0))
 b7:W.heap[sz+1]?=R (.cells #[.int .i64 (a-1)] 3 (0,0))
 b8:W.heap[sz+1+1]?=R (.cells #[kv] 102 (0,0))
def Kl.put{w:A9}{B n:Nat}{S:List Int}{c:List Nat}{b k:Nat}{d:B2}{a:Int}{W:A9}(h:Kl w B n S c b k d a W)(e:w.heap.size+1<B)(i:B<b){r:Loop}{j:Nat}(g:b+1+1<j)(f:W.heap[j]?=R (.loop r))(o:Obj):Kl w B n S c b k d a (W.putObj j o):=
 ⟨h.oo.put e O f o,(A0 O).trans h.b5,(A0 O).trans h.b7,(A0 O).trans h.b8⟩
def yo{fn:Func}{p q:Tmp}{t u:TypeId}(h:fn.results=#[.cell p t,.cell q u])(tmps:Array B2)(P:Program)(w:A9)(a b:Addr)(v c:B2)(f:tmps.getD p V= X (R a))(i:tmps.getD q V= X (R b))
  (d:(loadVar t a).run P w= .ok v w) (e:(loadVar u b).run P w= .ok c w):(results fn tmps).run P w= .ok (G2 #[v,c]) w:=by
 have g:tmps[p]?.getD V= X (R a):=by simpa using f
 have j:tmps[q]?.getD V= X (R b):=by simpa using i
 simp only[results,h];simp[Sem.run_bind,Result.andThen,g,j,asAddr,d,e]
def abm(w:A9)(a:Addr)(z:Int)(h:w.cell? a=R (Ax Y z)):(loadVar 3 a).run Br w= .ok (Ax Y z) w:=by go_simp
def Hz(w:A9)(a:Addr)(z:Bool)(h:w.cell? a=R (B4 z)):(loadVar 4 a).run Br w= .ok (B4 z) w:=by go_simp
def ane(a b:List Nd):∃t,jk (a++b)=jk a++t:=by
 refine uC (p:=λb=>∃t,jk (a++b)=jk a++t) ⟨[],I⟩ (λd e ⟨t,c⟩=>?_) b;rw[<-eB,uB,c];exact⟨t++[_],eB _ _ _⟩
def abn{ns:List Nd}{k:Nat}(h:ns[k]?=R N):jk (ns.take (k+1))=jk (ns.take k)++[tu (jk (ns.take k)) k N.ks]:=by
 have a:k<M ns:=(List.getElem?_eq_some_iff.1 h).1;rw[il,h];show jk (ns.take k++[N])=_;rw[uB,kJ,oq,Ir O]
def aqF{ns:List Nd}{k:Nat}(h:ns[k]?=R N):(jk ns).getD k 0=tu (jk (ns.take k)) k N.ks:=by
 have c:k<M ns:=(List.getElem?_eq_some_iff.1 h).1;obtain⟨d,a⟩:=ane (ns.take (k+1)) (ns.drop (k+1));rw[wG,abn h]at a;have b:M (jk (ns.take k))=k:=by rw[kJ,oq,Ir O]
 rw[a,er,eB,jr O,b];simp
def akr(L:List Im)(ks:List Int)(m:Nat):B2:=match ks[m]? with
 |some c=>(match L[c.toNat]? with|some a=> B1 (rL (fH a.N.k)) (X (R ⟨a.b,0,Q⟩))|none=> F2)
 |none=> F2
def aff{ks:List Int}{m q:Nat}{a:Im}(c:ks[m]?=R (q:Int))(d:L[q]?=R a):akr L ks m= B1 (rL (fH a.N.k)) (X (R ⟨a.b,0,Q⟩)):=by
 unfold akr;rw[c];simp[d]
structure aqG (w:A9) (c:List Nat) (k:Nat) (W:A9):Prop where
 bl:B0 w.heap.size w W
 r0:W.heap[w.heap.size]?=R (.cells #[.int .i64 (k:Int)] 3 (0,0))
 r1:W.heap[w.heap.size+1]?=R (.cells #[.bool Ce] 4 (0,0))
 mks:qz (w.heap.size+1+1+1) c W
def FL(w:A9)(base:Nat)(cx:B2)(L:List Im)(a5:mI w base cx L)(ns:List Nd)(d1:L.map Im.N=ns)(n:Nat)(bE:M L=n)(g3:1<=n)(y:n<=3000)(dq:∀x∈L,M x.N.ks<=200):
  G0 Br 89 #[cx] w λe p=>e= B5 (Kk (jk ns) n (iK (ia (jk ns)) n 0))/\B0 w.heap.size w p:=by
 obtain⟨al,ar,rfl⟩:∃al k,cx= T (R ⟨al,0,Q⟩) n k:=by
  rcases bm a5.row with⟨h,_⟩|h
  .omega
  .rw[<-bE];exact h
 have g6:n<=ar:=by
  rcases a5.row.2 with⟨y,_⟩|⟨fb,eL,e3,y,_,_,fc,_⟩
  .cases y
  .cases y;omega
 obtain⟨f4,b6,fF,f2,f3⟩:=eC tL;obtain⟨a8,b0⟩:=aw (iK (ia (jk ns)) n 0);rw[b0];have i:=It a5 d1 bE b0 dq;clear a5 d1 bE b0 dq;refine na (n:=5).1 ?_;refine callsIn_of_wp_marks func89 rfl trivial ?_ rfl;simp only[ntmps89,iB,db,fx,Nat.reduceAdd,Nat.reduceSub,iA,jb,jc,pE,dI,dt];refine wpIn_wide.2 ?_;go_wp2_with (at_make;refine C6 _ rfl _ _ 98 rfl w.heap.size 3 f4 (Ax Y 0) 1 underlying98 b6 fF f2 Y Y _ _ n rfl rfl rfl rfl (by rw[f3];omega) py byT ?_;intro ap bd a6);rename_i gb fe;have a9:B0 ((w.alloc (A3 #[Ax Y 0] 3)).alloc (A3 #[B4 A2] 4)).heap.size ((w.alloc (A3 #[Ax Y 0] 3)).alloc (A3 #[B4 A2] 4)) ap:=⟨a6.os,a6.tape,a6.output,a6.size,λa dn=>a6.block a dn I⟩;rw[show(madeCells (E0 Y 0).cells (n*1)).toList=Ck n (E0 Y 0) by rw[wL];exact zq _ n]at bd;simp only[fp]at bd a9;have fA:w.heap.size+1+1<ap.heap.size:=(bd.lt _ rfl).2;have bt:CG w ap.heap.size n [] [] (ap.alloc (A3 #[T (R ⟨w.heap.size+1+1,0,Q⟩) n n] 98)):=by
  refine⟨?_,?_,?_,?_,ay ap _,⟨xi,λl hb=>by simp at hb,λl hb=>by simp at hb⟩⟩
  .exact((((ai _ w).alloc cJ _).alloc I _).trans (a9.mono O)).alloc O _
  .exact(dG _ _ _ O).trans ((a9.block _ O).trans ((dG _ _ _ I).trans (ay w _)))
  .refine(dG _ _ _ O).trans ((a9.block _ O).trans ?_);have:=ay (w.alloc (A3 #[Ax Y 0] 3)) (A3 #[B4 A2] 4);rw[fp]at this;exact this
  .exact bd.alloc _
 obtain⟨r,c4⟩:=aw ap.heap.size;have c6:r<(ap.alloc (A3 #[T (R ⟨w.heap.size+1+1,0,Q⟩) n n] 98)).heap.size:=byT;rw[c4]at bt fA⊢;generalize ap.alloc (A3 #[T (R ⟨w.heap.size+1+1,0,Q⟩) n n] 98)=eF at bt c6⊢;clear bd a6 a9 c4;have cA:C2 (CG w r n (jk (ns.take 0)) [] eF/\iK (ia (jk ns)) (n-0) 0=a8/\∀(H:Nat) q,(jk (ns.take 0))[H]?=R q->1<=q):=⟨bt,i.2.2.2.1,λH q h=>by simp[jk]at h⟩;clear bt;refine(rm (n:=5)).1 (wpIn_loop (λam d=>∃(a:Nat) (k:List Nat),a<=n/\r<d.heap.size/\C2 (CG w r n (jk (ns.take a)) k d/\iK (ia (jk ns)) (n-a) a=a8/\∀(H:Nat) q,(jk (ns.take a))[H]?=R q->1<=q)/\
  ∃en ep eq d8 d9 eb ec ed ee ef eg eh ei ek el cn cp cr cs ct cu cw:B2,am={tmps:=#[T (R ⟨al,0,Q⟩) n ar,V,X (R ⟨w.heap.size,0,Q⟩),X (R ⟨w.heap.size+1,0,Q⟩),X (R ⟨r,0,Q⟩),en,ep,eq,V,V,V,T (R ⟨al,0,Q⟩) n ar,Ax Y (n:Int),T (R ⟨w.heap.size+1+1,0,Q⟩) n n,T (R ⟨al,0,Q⟩) n ar,Ax Y (n:Int),Ax Y (a:Int),d8,d9,eb,ec,ed,ee,ef,eg,eh,ei,ek,el,V,V,V,V,V,V,V,V,V,V,V,V,V,V,V,V,cn,cp,cr,cs,ct,cu,cw,V,V,V,V,V,V,V,V,V,V,V],defers:=k.map Bf}) (λam _=>n-(D4 (am.tmps.getD 16 V)).toNat) ?start ?round)
 case start=>exact⟨0,[],nH,c6,cA,V,V,V,V,V,V,V,V,V,V,V,V,V,V,V,V,V,V,V,V,V,V,rfl⟩
 case round=>
  rintro am d ⟨a,k,dn,bD,m,en,ep,eq,d8,d9,eb,ec,ed,ee,ef,eg,eh,ei,ek,el,cn,cp,cr,cs,ct,cu,cw,rfl⟩;clear cA;refine wpIn_wide.2 ?_;by_cases ds:a<n
  .have g7:(a:Int)<(n:Int):=O;have fq:(0:Int)<=(a:Int):=O;obtain⟨x,a2⟩:=dh i.2.2.1 ds;have dk:=aq m.1.bl (i.1.at a2);have b3:=aq m.1.bl (i.1.box a x a2).cells.2.2.2.2.1;have G:=i.1.kid a x a2;obtain⟨v,C,br⟩:=By G;have fr:=i.2.2.2.2 x (da a2);obtain⟨A,b9⟩:=aw (M x.N.ks);rw[br]at b3;rw[b9]at b3 fr br;have s:=jB a2 br b9;have bc:=λw=>Fg x.N.k x.b w;have fB:x.b<d.heap.size:=gF (ah (i.1.box a x a2)) m.1.bl.size;generalize rL (fH x.N.k)=cm at bc dk;clear a2 G br b9;go_wp2_with (first|(go_at_call 308;refine(jf _ _).mono ?_;rintro e bk ⟨rfl,d4⟩;subst bk)|(go_at_call 142;refine(Aw v A C _).mono ?_;rintro e f9 ⟨rfl,a1⟩;subst f9));rename_i gd c9;obtain⟨S,hS⟩:=aw (jk (ns.take a));obtain⟨ak,b1⟩:=aw (yD S x.N.ks.reverse (a:Int));rw[hS]at m;obtain⟨g,bg⟩:=aw d.heap.size;have bf:Kl w r n S k g a (T v A C) (a:Int) (((d.alloc (A3 #[Ax Y (a:Int)] 3)).alloc (A3 #[Ax Y ((a:Int)-1)] 3)).alloc (A3 #[T v A C] 102)):=by
    refine⟨m.1.below ((((ai _ d).alloc cJ _).alloc I _).alloc byT _),?_,?_,?_⟩
    .exact(dG _ _ _ byT).trans ((dG _ _ _ byT).trans (by rw[<-bg];exact ay d _))
    .refine(dG _ _ _ byT).trans ?_;have:=ay (d.alloc (A3 #[Ax Y (a:Int)] 3)) (A3 #[Ax Y ((a:Int)-1)] 3);rw[fp,bg]at this;exact this
    .have:=ay ((d.alloc (A3 #[Ax Y (a:Int)] 3)).alloc (A3 #[Ax Y ((a:Int)-1)] 3)) (A3 #[T v A C] 102);rw[fp,fp,bg]at this;exact this
   have a3:(((d.alloc (A3 #[Ax Y (a:Int)] 3)).alloc (A3 #[Ax Y ((a:Int)-1)] 3)).alloc (A3 #[T v A C] 102)).heap.size=g+1+1+1:=byT;rw[bg]at bD fB⊢;generalize ((d.alloc (A3 #[Ax Y (a:Int)] 3)).alloc (A3 #[Ax Y ((a:Int)-1)] 3)).alloc (A3 #[T v A C] 102)=gm at bf a3⊢;have dg:∀l∈k,l<g:=λl hb=>by rw[<-bg];exact(Array.getElem?_eq_some_iff.1 (m.1.mks.at_ l hb)).1
   have d2:ns[a]?=R x.N:=by rw[<-i.out.2.1,dw,s.out.1];rfl
   have ba:(jk ns).getD a 0=tu S a x.N.ks:=by rw[aqF d2,hS]
   clear dk b3 bc;refine(rm (n:=5)).1 ?_;refine xn (P:=Br) (gf:=207) (lb:=#[X (R ⟨g+1+1,0,Q⟩)]) rfl (enters_of func207 J rfl)
    (λc=>#[Ax Y (c:Int),akr L x.N.ks c]) (λ_=>rfl) A
    (λc d=>∃b:Int,Kl w r n S k g a (T v A C) b d/\0<=b/\b<=(a:Int)/\yD S (x.N.ks.take c).reverse b=ak)
    (λc am d=>(∃b:Int,Kl w r n S k g a (T v A C) b d/\0<=b/\b<=(a:Int)/\yD S (x.N.ks.take (c+1)).reverse b=ak)/\am={tmps:=#[T (R ⟨al,0,Q⟩) n ar,V,X (R ⟨w.heap.size,0,Q⟩),X (R ⟨w.heap.size+1,0,Q⟩),X (R ⟨r,0,Q⟩),X (R ⟨g,0,Q⟩),B1 cm (X (R ⟨x.b,0,Q⟩)),X (R ⟨g+1,0,Q⟩),V,akr L x.N.ks c,V,T (R ⟨al,0,Q⟩) n ar,Ax Y (n:Int),T (R ⟨w.heap.size+1+1,0,Q⟩) n n,T (R ⟨al,0,Q⟩) n ar,Ax Y (n:Int),Ax Y (a:Int),B4 Ce,Ax Y (a:Int),X (R ⟨al,a,Q⟩),B1 cm (X (R ⟨x.b,0,Q⟩)),Ax Y (a:Int),Ax Y ((a:Int)-1),B1 cm (X (R ⟨x.b,0,Q⟩)),X (R ⟨x.b,0,Q⟩),X (R ⟨x.b,0,Q⟩),X (R ⟨x.b,5,Q⟩),T v A C,.func (.func 207) #[] #[X (R ⟨g+1+1,0,Q⟩)],Ax Y (c:Int),akr L x.N.ks c,V,V,V,V,V,V,V,V,V,V,V,V,V,V,cn,cp,cr,cs,ct,cu,cw,V,V,V,V,V,V,V,V,V,V,V],defers:=[]})
    (λd=>aqG w k a d/\ak=Q)
    ?pZ ?pAx ?pX ?h0 ?assign ?body ?seq ?done ?ret
   case pZ=>
    rintro c d d6 bj ⟨b,h,ag⟩ an;rw[a3]at an⊢;exact⟨b,h.put O bD O an bj,ag⟩
   case pAx=>
    rintro c am d d6 bj ⟨⟨b,h,ag⟩,rfl⟩ an;rw[a3]at an⊢;exact⟨⟨b,h.put O bD O an bj,ag⟩,rfl⟩
   case pX=>
    rintro d d6 bj ⟨h,cc⟩ an;rw[a3]at an⊢;exact⟨⟨h.bl.grown (B7 d _ bj) h.bl.size (λH e=>by cases e;omega),(A0 O).trans h.r0,(A0 O).trans h.r1,
     ⟨h.mks.nd,h.mks.lo,λl t=>(A0 (by rintro rfl;have:=(h.mks.at_ _ t).symm.trans an;cases this)).trans (h.mks.at_ l t)⟩⟩,cc⟩
   case h0=>
    intro ge hb he;refine⟨(a:Int),⟨bf.oo.below hb,(hb.block _ O).trans bf.b5,(hb.block _ O).trans bf.b7,(hb.block _ O).trans bf.b8⟩,fq,Int.le_refl _,?_⟩;rw[dH (by rw[s.out.2.2];exact ix _)];exact b1
   case assign=>
    rintro cf c d bo t ⟨b,h,ag⟩ aL;have es:C2 (∃b:Int,Kl w r n S k g a (T v A C) b d/\0<=b/\b<=(a:Int)/\yD S (x.N.ks.take (c+1)).reverse b=ak):=⟨b,h,ag⟩;clear h ag
    gi_wp2
    exact aL _ _ ⟨es,rfl⟩ (KeepsFrom.refl _ _)
   case seq=>
    intro cf ex ez c8 fl d fg;have fu:A<=C:=by
     have G:=i.1.kid a x s.1;rw[s.out.2.1,s.out.2.2]at G;rcases G.2 with⟨y,c0⟩|⟨fb,eL,e3,y,_,_,fc,_⟩
     .omega
     .cases y;omega
    refine abk 4 cf (g+1+1) A C v _ O fu ex ez (λc d h=>?_) (λc d h H a0=>?_) fl d fg
    .obtain⟨b,ag,_⟩:=c8 c d h;exact dE ag.b8
    .obtain⟨b,ag,_⟩:=c8 c d h;obtain⟨q,E⟩:=dh s.2.2 a0;obtain⟨gk,ba⟩:∃gk,v=R ⟨gk,0,Q⟩:=by
      have G:=i.1.kid a x s.1;rw[s.out.2.1]at G;rcases bm G with⟨h,_⟩|⟨gk,k,h⟩
      .rw[s.out.2.2]at h;omega
      .cases h;exact⟨_,rfl⟩
     obtain⟨f,B,rfl,d3,bh,bp⟩:=i.1.kidAt s.1 (by rw[s.out.2.1,ba]) E;refine⟨_,ba,?_⟩;rw[ww,aff E bh];exact aq ag.oo.bl bp
   case body=>
    rintro cf c am j t ⟨⟨b,h,fm,fn,z⟩,rfl⟩;rw[a3];obtain⟨q,E⟩:=dh s.2.2 t;obtain⟨gk,fo⟩:∃gk,v=R ⟨gk,0,Q⟩:=by
     have G:=i.1.kid a x s.1;rw[s.out.2.1]at G;rcases bm G with⟨h,_⟩|⟨gk,k,h⟩
     .rw[s.out.2.2]at h;omega
     .cases h;exact⟨_,rfl⟩
    obtain⟨f,B,rfl,d3,bh,bp⟩:=i.1.kidAt s.1 (by rw[s.out.2.1,fo]) E;rw[aff E bh];have fv:=aq h.oo.bl (i.1.box f B bh).cells.2.2.2.1;have hn:=ah (i.1.box f B bh);have F:M S=a:=by rw[<-hS,kJ,oq,<-i.out.2.1,dr,i.out.2.2.1];omega
    obtain⟨u,a7⟩:=dh F d3;have hf:=m.2.2 f u a7;have hg:u<=(f:Int)+1:=by
     have fz:EB S:=by
      rw[<-hS];refine Bi _ (λN a5 q E=>?_);obtain⟨ce,b6,e⟩:=jd (xh a5);have bb:(L.map Im.N)[ce]?=R N:=by rw[i.out.2.1,bi b6,e]
      rw[dw]at bb;cases hLi:L[ce]? with
      |none=>rw[hLi]at bb;cases bb
      |some f8=>
       rw[hLi]at bb;obtain rfl:=cC bb;exact(i.1.rng ce f8 q hLi E).1
     exact(fz f u a7).2
    have b4:S.getD f 0=u:=by rw[er,a7];rfl
    have a1:(if(f:Int)=b-1/\u≠0 then yD S (x.N.ks.take c).reverse (b-u) else Q)=ak:=by
     rw[il,E,Ik,List.reverse_append]at z;show _=ak;rw[<-z];show _=yD S ((f:Int)::(x.N.ks.take c).reverse) b;rw[yD,wH,b4]
    have gs:=dE h.b5;have bA:=dE h.b7;have cF:=dE h.oo.bx;have ao:=h.oo.row;have e0:j.cell? ⟨w.heap.size+1+1,f,Q⟩=R (Ax Y u):=by
     rw[ao.cellAt f O,mo byT,dw,a7];rfl
    have ch:=dE h.oo.r0;have cl:=dE h.oo.r1;have e8:j.frozen? ⟨w.heap.size,0,Q⟩=A2:=cD _ _ _ _ _ h.oo.r0;have e9:j.frozen? ⟨w.heap.size+1,0,Q⟩=A2:=cD _ _ _ _ _ h.oo.r1;have fa:j.frozen? ⟨g+1,0,Q⟩=A2:=cD _ _ _ _ _ h.b7;have bc:=λw=>Fg B.N.k B.b w;have o:j.drew.cell? ⟨g+1,0,Q⟩=R (Ax Y (b-1))/\j.drew.cell? ⟨B.b,4,Q⟩=R (Ax Y (f:Int)):=⟨bA,fv⟩;have cy:=aj h;generalize rL (fH B.N.k)=d7 at bc⊢;by_cases bs:(f:Int)=b-1
    .rw[ab ⟨bs,O⟩]at a1;have bn:=aj a1;clear a1 z E bp h a7 b4 F ao;have e6:b=(f:Int)+1:=O;subst e6;have cI:(f:Int)+1-1=(f:Int):=O;rw[cI]at bA o;clear bs cI;have hc:(f:Int)<(n:Int):=O;have ha:(0:Int)<=(f:Int):=O
     gi_wp2
     refine uo (S:=λp=>p.cell? ⟨g+1,0,Q⟩=R (Ax Y (f:Int))/\p.cell? ⟨B.b,4,Q⟩=R (Ax Y (f:Int))) J J (λ⟨_,_,h⟩=>h) o (λo=>?_);refine bB 0 (B1 d7 (X (R ⟨B.b,0,Q⟩))) rfl rfl o (λp ⟨K,ad⟩=>by go_simp) ?_;simp only[A6];refine bB 5 (Ax Y (f:Int)) rfl rfl o (λp ⟨K,ad⟩=>by go_simp) ?_;simp only[A6];refine Fs (rs:=[1]) J I (D3 rfl (λbo aL=>?_) E1);go_simp;refine dm (jf _ _) λbk d4=>?_;subst bk;refine aL _ _ o (λo=>?_);clear aL bo;try simp only[Act.put,bF,bG,bI]
     refine bB 2 (X (R ⟨B.b,0,Q⟩)) rfl rfl o (λp ⟨K,ad⟩=>by go_simp) ?_;simp only[A6];refine bB 3 (X (R ⟨B.b,4,Q⟩)) rfl rfl o (λp ⟨K,ad⟩=>by go_simp) ?_;simp only[A6];refine bB 4 (Ax Y (f:Int)) rfl rfl o (λp ⟨K,ad⟩=>by go_simp) ?_;simp only[A6];refine bB 6 (B4 A2) rfl rfl o (λp ⟨K,ad⟩=>by go_simp) ?_;simp only[A6];refine wpAnyH_done J ?_ _
     gi_wp2
     have g5:j.drew.cell? ⟨g+1,0,Q⟩=R (Ax Y (f:Int))/\j.drew.cell? ⟨w.heap.size+1+1,f,Q⟩=R (Ax Y u)/\j.drew.cell? ⟨r,0,Q⟩=R (T (R ⟨w.heap.size+1+1,0,Q⟩) n n)/\j.drew.frozen? ⟨g+1,0,Q⟩=A2:=⟨bA,e0,cF,fa⟩;have hh:IntKind.i64.wrap ((f:Int)-u)=(f:Int)-u:=by rw[bJ];omega
     have af:=cy.out;have g8:g+1≠w.heap.size+1+1:=O;have dl:Kl w r n S k g a (T v A C) ((f:Int)+1-u) (j.setCell ⟨g+1,0,Q⟩ (Ax Y ((f:Int)-u))).drew.drew:=by
      have e5:(f:Int)+1-u-1=(f:Int)-u:=O;refine⟨⟨(af.oo.bl.setCell byT _).drew.drew,(az _ _ _ _ byT).trans af.oo.r0,(az _ _ _ _ byT).trans af.oo.r1,?_,(az _ _ _ _ byT).trans af.oo.bx,(af.oo.mks.keeps (A5 _ _ _)).keeps ((KeepsOthers.drew _).trans (KeepsOthers.drew _))⟩,(az _ _ _ _ I).trans af.b5,?_,(az _ _ _ _ I).trans af.b8⟩
      .exact(show(j.setCell ⟨g+1,0,Q⟩ (Ax Y ((f:Int)-u))).ownsRow _ _ _ _ _ _ from af.oo.row.kept (grownBy_setCell' j (g+1) _) (.inr (by simp[F0];omega)))
      .rw[e5];exact aI _ _ 0 _ _ _ af.b7
     have ew:C2 (ahE (g+1+1+1) j (λd=>∃b:Int,Kl w r n S k g a (T v A C) b d/\0<=b/\b<=(a:Int)/\yD S (x.N.ks.take c).reverse b=ak) (λd=>aqG w k a d/\ak=Q) .normal {tmps:=#[],defers:=[]} (j.setCell ⟨g+1,0,Q⟩ (Ax Y ((f:Int)-u))).drew.drew):=
      ⟨(((A5 _ _ _).trans (KeepsOthers.drew _)).trans (KeepsOthers.drew _)).from _,_,dl,O,O,bn⟩
     clear cy bn s i m bc o af dl
     gi_region
     all_goals exact ew
    .rw[aa (λe=>bs e.1)]at a1;have bn:=aj a1;have df:aqG w k a ((j.drew.setCell ⟨w.heap.size,0,Q⟩ (Ax Y (a:Int))).setCell ⟨w.heap.size+1,0,Q⟩ (B4 Ce)):=
      ⟨((h.oo.bl.drew.setCell I _).setCell I _),(az _ _ _ _ I).trans (aI _ _ 0 _ _ _ h.oo.r0),aI _ _ 0 _ _ _ ((az _ _ _ _ I).trans h.oo.r1),
       ((h.oo.mks.keeps (KeepsOthers.drew j)).keeps (A5 _ _ _)).keeps (A5 _ _ _)⟩
     have ev:=aj df;have gv:((f:Int)==b-1)=A2:=by rw[qK];exact bs
     clear a1 z E bp h a7 b4 F ao df
     gi_wp2
     refine uo (S:=λp=>p.cell? ⟨g+1,0,Q⟩=R (Ax Y (b-1))/\p.cell? ⟨B.b,4,Q⟩=R (Ax Y (f:Int))) J J (λ⟨_,_,h⟩=>h) o (λo=>?_);refine bB 0 (B1 d7 (X (R ⟨B.b,0,Q⟩))) rfl rfl o (λp ⟨K,ad⟩=>by go_simp) ?_;simp only[A6];refine bB 5 (Ax Y (b-1)) rfl rfl o (λp ⟨K,ad⟩=>by go_simp) ?_;simp only[A6];refine Fs (rs:=[1]) J I (D3 rfl (λbo aL=>?_) E1);go_simp;refine dm (jf _ _) λbk d4=>?_;subst bk;refine aL _ _ o (λo=>?_);clear aL bo;try simp only[Act.put,bF,bG,bI]
     refine bB 2 (X (R ⟨B.b,0,Q⟩)) rfl rfl o (λp ⟨K,ad⟩=>by go_simp) ?_;simp only[A6];refine bB 3 (X (R ⟨B.b,4,Q⟩)) rfl rfl o (λp ⟨K,ad⟩=>by go_simp) ?_;simp only[A6];refine bB 4 (Ax Y (f:Int)) rfl rfl o (λp ⟨K,ad⟩=>by go_simp) ?_;simp only[A6];refine bB 6 (B4 Ce) rfl rfl o (λp ⟨K,ad⟩=>by go_simp) ?_;simp only[A6];refine wpAnyH_done J ?_ _
     gi_wp2
     exact⟨(((KeepsOthers.drew j).from _).trans ((A5 _ _ _).from _)).trans ((A5 _ _ _).from _),ev,bn.out.symm⟩
   case ret=>
    rintro j ⟨h,cc⟩ a4;rw[a3]at a4⊢;have ff:a8=R a:=by
     have y:=m.2.1;rw[(O:n-a=(n-(a+1))+1),iK,ab]at y
     .exact y.symm
     .unfold ia;rw[ba];unfold tu;rw[b1,cc];rfl
    show LeavesInM _ _ _ _ _ _ (((g+1+1+1)::k).map Bf) .returning j;refine pJ (w.heap.size+1+1+1) _ j ⟨List.nodup_cons.2 ⟨λt=>by have:=dg _ t;omega,h.mks.nd⟩,λl hb=>?_,λl hb=>?_⟩ (λbw z=>?_)
    .rcases List.mem_cons.1 hb with rfl|hb
     .omega
     .exact h.mks.lo l hb
    .rcases List.mem_cons.1 hb with rfl|hb
     .exact a4
     .exact h.mks.at_ l hb
    .have ca:∀l∈(g+1+1+1)::k,w.heap.size+1+1+1<=l:=λl hb=>by
      rcases List.mem_cons.1 hb with rfl|hb
      .omega
      .exact h.mks.lo l hb
     have ch:=(z.same w.heap.size (λt=>by have:=ca _ t;omega)).trans h.r0;have cl:=(z.same (w.heap.size+1) (λt=>by have:=ca _ t;omega)).trans h.r1;refine⟨_,yo rfl _ _ _ ⟨w.heap.size,0,Q⟩ ⟨w.heap.size+1,0,Q⟩ _ _ rfl rfl (abm _ _ _ (dE ch)) (Hz _ _ _ (dE cl)),?_,z.below h.bl (λl hb=>by have:=ca l hb;omega) cJ⟩;rw[ff];rfl
   case done=>
    rintro j ⟨b,h,fm,fn,z⟩ a4;rw[a3]at a4⊢;have dc:ak=R b:=by rw[<-z];rfl
    have cd:tu S a x.N.ks=(a:Int)-(b-1):=by unfold tu;rw[b1,dc];show(a:Int)-b+1=_;omega
    have F:M S=a:=by rw[<-hS,kJ,oq,<-i.out.2.1,dr,i.out.2.2.1];omega
    have ao:=h.oo.row;have gt:j.cell? ⟨w.heap.size+1+1,a,Q⟩=R (Ax Y 0):=by
     rw[ao.cellAt a O,jr byT,dr,F,fI,adr,ab O]
    have g0:=ao.frozenAt a;have cg:=(ao.stored a (Ax Y ((a:Int)-(b-1)))).1;rw[F,Hj S n a ((a:Int)-(b-1)) F ds]at cg;have b2:jk (ns.take (a+1))=S++[(a:Int)-(b-1)]:=by rw[abn d2,hS,cd]
    have d0:qz (w.heap.size+1+1+1) ((g+1+1+1)::k) j:=⟨List.nodup_cons.2 ⟨λt=>by have:=dg _ t;omega,h.oo.mks.nd⟩,λl hb=>by
      rcases List.mem_cons.1 hb with rfl|hb
      .omega
      .exact h.oo.mks.lo l hb,λl hb=>by
      rcases List.mem_cons.1 hb with rfl|hb
      .exact a4
      .exact h.oo.mks.at_ l hb⟩
    have cb:CG w r n (S++[(a:Int)-(b-1)]) ((g+1+1+1)::k) (j.setCell ⟨w.heap.size+1+1,a,Q⟩ (Ax Y ((a:Int)-(b-1)))):=
     ⟨h.oo.bl.setCell byT _,(az _ _ _ _ byT).trans h.oo.r0,(az _ _ _ _ I).trans h.oo.r1,by rw[aB,F];exact cg,(az _ _ _ _ byT).trans h.oo.bx,d0.keeps (A5 _ _ _)⟩
    have et:C2 (CG w r n (jk (ns.take (a+1))) ((g+1+1+1)::k) (j.setCell ⟨w.heap.size+1+1,a,Q⟩ (Ax Y ((a:Int)-(b-1))))/\iK (ia (jk ns)) (n-(a+1)) (a+1)=a8/\∀(H:Nat) q,(jk (ns.take (a+1)))[H]?=R q->1<=q):=by
     refine⟨by rw[b2];exact cb,?_,λH q a0=>?_⟩
     .have y:=m.2.1;rw[(O:n-a=(n-(a+1))+1),iK,aa]at y
      .exact y
      .unfold ia;rw[ba,cd];simp;omega
     .rw[b2]at a0;rcases aH H a with g1|g1
      .rw[mo O]at a0;exact m.2.2 H q a0
      .rw[jr O]at a0;obtain⟨y,c0⟩:=List.getElem?_eq_some_iff.1 a0;simp at y c0;omega
    have gn:=dE h.oo.bx;have gp:=dE h.b5;have gr:=dE h.b7;have fd:r<(j.setCell ⟨w.heap.size+1+1,a,Q⟩ (Ax Y ((a:Int)-(b-1)))).heap.size:=ah cb.bx;have g4:((a:Int)-(b-1))<=3001/\1<=((a:Int)-(b-1)):=O;refine c9 _ _ ?_;clear dc cd F ao cg b2 d0 cb h z a4 c9 fe m;go_wp2;exact⟨⟨a+1,(g+1+1+1)::k,O,fd,et,_,_,_,_,_,_,_,_,_,_,_,_,_,_,_,_,_,_,_,_,_,_,rfl⟩,by simp[D4];omega⟩
  .obtain rfl:a=n:=O;have g9:¬(a:Int)<(a:Int):=O;obtain⟨c,rfl⟩:∃c,a=c+1:=⟨a-1,O⟩;have hS:jk (ns.take (c+1))=jk ns:=by rw[dH (by rw[<-i.out.2.1,dr,i.out.2.2.1];exact ix _)]
   rw[hS]at m;have F:M (jk ns)=c+1:=by rw[kJ,<-i.out.2.1,dr,i.out.2.2.1]
   obtain⟨q,E⟩:=dh F (O:c<c+1);have dd:a8=Q:=by have:=m.2.1;rw[fI,iK]at this;exact this.symm
   have d5:(jk ns).getD c 0=q:=by rw[er,E];rfl
   have bv:=jB m.1 dd d5;have gu:d.cell? ⟨w.heap.size+1+1,c,Q⟩=R (Ax Y q):=by
    rw[m.out.1.row.cellAt c O,mo byT,dw,E];rfl
   have cF:=dE m.1.bx;have ch:=dE m.1.r0;have cl:=dE m.1.r1;have e8:d.frozen? ⟨w.heap.size,0,Q⟩=A2:=cD _ _ _ _ _ m.1.r0;have e9:d.frozen? ⟨w.heap.size+1,0,Q⟩=A2:=cD _ _ _ _ _ m.1.r1;have gz:(c:Int)+1-1=(c:Int):=O;have ho:(0:Int)<=(c:Int):=O;have hp:(c:Int)<(c:Int)+1:=O;clear E d5 dd hS m i;go_wp2_with fail;have ht:w.heap.size≠r:=O;have hu:w.heap.size+1≠r:=O;have hv:w.heap.size≠w.heap.size+1+1:=O;have hA:w.heap.size+1≠w.heap.size+1+1:=O;go_region_held3 (λp=>p.cell? ⟨r,0,Q⟩=R (T (R ⟨w.heap.size+1+1,0,Q⟩) (c+1) (c+1))/\p.cell? ⟨w.heap.size+1+1,c,Q⟩=R (Ax Y q)) (go_keep) (fail)
   all_goals go_wp2_with fail
   have h:=bv.1;show LeavesInM _ _ _ _ _ _ (k.map Bf) .returning _;refine pJ (w.heap.size+1+1+1) k _ (((h.mks.keeps (A5 _ _ _)).keeps (A5 _ _ _)).keeps (KeepsOthers.drew _)) (λbw z=>?_);have f5:bw.heap[w.heap.size]?=R (A3 #[Ax Y (c:Int)] 3 (0,0)):=(z.same _ (λt=>by have:=h.mks.lo _ t;omega)).trans ((az _ _ _ _ I).trans (aI _ _ 0 _ _ _ h.r0));have f6:bw.heap[w.heap.size+1]?=R (A3 #[B4 (decide (q<(c:Int)+1))] 4 (0,0)):=(z.same _ (λt=>by have:=h.mks.lo _ t;omega)).trans (aI _ _ 0 _ _ _ ((az _ _ _ _ I).trans h.r1));refine⟨_,yo rfl _ _ _ ⟨w.heap.size,0,Q⟩ ⟨w.heap.size+1,0,Q⟩ _ _ rfl rfl (abm _ _ _ (dE f5)) (Hz _ _ _ (dE f6)),?_,z.below (((h.bl.setCell I _).setCell I _).drew) (λl hb=>by have:=h.mks.lo l hb;omega) cJ⟩;have e4:((c+1:Nat):Int)=(c:Int)+1:=O;rw[bv.out.2.1];simp only[Kk,ou,bv.out.2.2,e4,Int.add_sub_cancel]
