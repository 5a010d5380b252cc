import Derived.Test.YtjeamjdieofoeaaGreatDoorHZk21
set_option linter.all false
set_option maxRecDepth 100000
set_option maxHeartbeats 12800000
open Option renaming some->M,none->O
open Go renaming undef->Q,Value->X,World->Z,grownBy_putObj'->A5,wpAnyH_ready->Cb,Calls->F2,maxLen->G0,TypeId->G3
open Go.World renaming putObj_heap_other->R,news_of_block->E1,setCell->F0
open Go.KeepsOthers renaming setCell->T
open List renaming set->U,replicate->A9
open Go.RowKit renaming Below->V,Hid->B6,intOf->E0
open Go.Proofs.Tryz renaming prog->Y
open Bool renaming false->Ax,true->E2
open Go.Value renaming pointer->A0,slice->A2,ownBlock->Br,int->B3,slice->B7,int->C2,bool->Er,tuple->Fs,nilIface->F1,iface->G2
open Go.AllReadyH renaming cons->Bs,nil->B4
open Go.Ending renaming returned->B0
open Go.Lib renaming asciiSpaceTab->B1,TabIs->Ga
namespace Go.Proofs.YtjeamjdieofoeaaGreatDoor
open Go.RowKit Go.Maps Go.WideMaps
variable{B base c i k n:Nat}{L:List Im}{N:Nd}{S:List Int}{W W' w:World}{ns:List Nd}{r:Loop}{vn vs:Value}
theorem AF.start{b:Z}{lb mb p a:Nat}{vk:X}(x:nA b)(u:li w b.heap.size vs L)(E:w.heap.size<=a)(y:lb≠a)(z:p≠a)(lk:Lk W lb mb vs)(f:li W b.heap.size vs L)(A:qh p W 45 N vn vk)(bx:ft W a N vn 0 (B7 O 0 0))(t:V b.heap.size b W)(lo:b.heap.size<=lb/\b.heap.size<=a/\b.heap.size<=p):
  AF b lb mb p a vs L N vn vk (B7 O 0 0) 0 (W.setCell ⟨a,4,O⟩ (C2 .i64 L.length)):=by
 have l:V b.heap.size b (W.setCell ⟨a,4,O⟩ (C2 .i64 L.length)):=t.setCell lo.2.1 _;have h:∀{i:Nat},i≠a->(W.setCell ⟨a,4,O⟩ (C2 .i64 L.length)).heap[i]?=W.heap[i]?:=fun j=>aB _ _ _ _ j;have q:∀{r:X}{o:Nat}{s:List X},W.ownsRow b.heap.size 49 1 r o s->(W.setCell ⟨a,4,O⟩ (C2 .i64 L.length)).ownsRow b.heap.size 49 1 r o s:=fun k=>
  k.kept (row:=M a) ⟨rfl,rfl,rfl,by simp[F0],fun n C j=>aB _ _ _ _ (fun d=>j (by rw[d]))⟩ (by
   cases hv:Br _ with
   |none=>exact .inl rfl
   |some n=>exact .inr (fun d=>by obtain⟨⟨B,v⟩,_⟩:=oG k hv;obtain rfl:=bp d;exact qE bx v (pv _).1 rfl))
 refine⟨⟨(h y).trans lk.b,sF lk.m (h (fun d=>Db lk.m bx d)),x.keep l⟩,⟨q f.row,fun g c e=>?_,fun g c e=>q (f.kid g c e),f.far,f.rng⟩,(h z).trans A,?_,?_,.inl rfl,fun c e=>?_,l,lo⟩
 ·have:=ai (u.box g c e);exact(h (by omega)).trans (f.box g c e)
 ·unfold ft at bx⊢;have:=bz W a 4 _ _ (C2 .i64 L.length) bx;rw[this];simp
 ·rw[Fj];exact dr _ _ _ _
 ·cases c.kv.ownBlock with
  |none=>exact .inl rfl
  |some n=>exact .inr (by simp[Br])
theorem uu(g m:Nat):(⟨g,0,O⟩:Addr).add m=⟨g,m,O⟩:=by unfold Addr.add;split<;>simp_all
theorem AF.done{b:Z}{lb mb p q:Nat}{vk A:X}(ao:nA b)(h:AF b lb mb p q vs L N vn vk A N.ks.length W)(a0:∀z∈N.ks,0<=z/\z<(L.length:Int)){a:X}(u:W.grownBy W' vs.ownBlock)(n:W'.ownsRow b.heap.size 49 1 a (L.length+1) (L.map nV++[er N.k q]))(an:a.ownBlock=vs.ownBlock\/a.ownBlock=M W.heap.size):
  W'.heap[lb]?=M (.cells #[.map (M mb),vs] 95 (0,0))/\
  Lk (W'.setCell ⟨lb,1,O⟩ a) lb mb a/\li (W'.setCell ⟨lb,1,O⟩ a) b.heap.size a (L++[⟨N,q,vn,A⟩])/\ft (W'.setCell ⟨lb,1,O⟩ a) q N vn L.length A/\V b.heap.size b (W'.setCell ⟨lb,1,O⟩ a):=by
 have C:∀k,vs.ownBlock=M k->ab0 W k/\b.heap.size<=k:=fun k y=>oG h.ns.row y;have G:∀{o:Nat}{r:Array X}{l:G3},W.heap[o]?=M (.cells r l (0,0))->l≠49->W'.heap[o]?=M (.cells r l (0,0)):=fun f E=>
  (u.block _ (ai f) (fun e=>by obtain⟨⟨J,t⟩,_⟩:=C _ e.symm;exact qE f t E rfl)).trans f
 have v:=G h.lk.b (by decide);have al:V b.heap.size b W':=h.bl.grown u h.bl.size (fun k y=>(C k y).2);have af:V b.heap.size b (W'.setCell ⟨lb,1,O⟩ a):=al.setCell h.lo.1 _;have set:∀{o:Nat}{r:Array X}{l:G3},W'.heap[o]?=M (.cells r l (0,0))->l≠95->(W'.setCell ⟨lb,1,O⟩ a).heap[o]?=M (.cells r l (0,0)):=fun f E=>
  (aB _ _ _ _ (fun e=>by exact qE f v E e)).trans f
 have H:∀{d:X}{w:Nat}{x:List X},W'.ownsRow b.heap.size 49 1 d w x->(W'.setCell ⟨lb,1,O⟩ a).ownsRow b.heap.size 49 1 d w x:=fun n=>
  n.kept (row:=M lb) ⟨rfl,rfl,rfl,by simp[F0],fun k y av=>aB _ _ _ _ (fun e=>av (by rw[e]))⟩ (by
   cases F:Br _ with
   |none=>exact .inl rfl
   |some k=>exact .inr (fun e=>by obtain⟨⟨J,t⟩,_⟩:=oG n F;obtain rfl:=bp e;exact qE v t (by decide) rfl))
 have I:ft (W'.setCell ⟨lb,1,O⟩ a) q N vn L.length A:=set (G h.bx (pv _).1) (pv _).2.1;have ad:=sF h.lk.m (u.block _ h.lk.m.lt (fun e=>by obtain⟨⟨J,t⟩,_⟩:=C _ e.symm;exact Db h.lk.m t rfl));have ap:nK L (N.ks.take N.ks.length)=nK L N.ks:=by rw[A4]
 have B:=h.kr;rw[ap]at B;have K:∀{d:X}{w:Nat}{x:List X},W.ownsRow b.heap.size 49 1 d w x->(d.ownBlock=O\/d.ownBlock≠vs.ownBlock)->(d.ownBlock=O\/d.ownBlock≠a.ownBlock):=fun n F=>by
  rcases F with e|e
  ·exact .inl e
  ·rename_i d w x;cases f:d.ownBlock with
   |none=>exact .inl rfl
   |some k=>
    have:=(n.lt k f).2;rcases an with e2|e2
    ·rw[e2,<-f];exact .inr e
    ·rw[e2];exact .inr (by simp only[ne_eq,ee];omega)
 refine⟨v,⟨bz W' lb 1 _ _ _ v,sF ad (aB _ _ _ _ (fun e=>by exact Db ad v e)),ao.keep af⟩,⟨?_,?_,?_,?_,?_⟩,I,af⟩
 ·rw[aK,dF];exact H n
 ·intro c i hx;rcases bj c L.length with g|g
  ·rw[iu g]at hx;exact set (G (h.ns.box c i hx) (pv _).1) (pv _).2.1
  ·rw[fL g]at hx;obtain⟨s,j⟩:=List.getElem?_eq_some_iff.1 hx;simp at s j;subst j;obtain rfl:c=L.length:=by omega
   exact I
 ·intro c i hx;rcases bj c L.length with g|g
  ·rw[iu g]at hx;rw[List.take_append_of_le_length (by omega)];exact H ((h.ns.kid c i hx).kept u (h.ns.far i (cH hx)))
  ·rw[fL g]at hx;obtain⟨s,j⟩:=List.getElem?_eq_some_iff.1 hx;simp at s j;subst j;obtain rfl:c=L.length:=by omega
   rw[List.take_left];exact H (B.kept u h.fr)
 ·intro i hx;rcases List.mem_append.1 hx with hx|hx
  ·obtain⟨c,ar,am⟩:=ie hx;exact K (h.ns.kid c i (by rw[aJ ar,am])) (h.ns.far i hx)
  ·obtain rfl:=List.mem_singleton.1 hx;exact K B h.fr
 ·intro c i z hx ak;rcases bj c L.length with g|g
  ·rw[iu g]at hx;exact h.ns.rng c i z hx ak
  ·rw[fL g]at hx;obtain⟨s,j⟩:=List.getElem?_eq_some_iff.1 hx;simp at s j;subst j;obtain rfl:c=L.length:=by omega
   exact a0 z ak
def kinds(a:List Nd)(ks:List Int):List Int:=ks.map fun b=>(a.getD b.toNat Iv).k
theorem li.kids(h:li W base vs L)(s:L.map Im.N=ns.take L.length){x:Im}(j:L[i]?=M x):gJ W x.kv (kinds ns x.N.ks):=by
 have e:=h.kid i x j;have n:(kinds ns x.N.ks).length=x.N.ks.length:=by simp[kinds]
 have w:i<L.length:=(List.getElem?_eq_some_iff.1 j).1;rcases bu e with⟨z,f⟩|⟨q,p,f⟩
 ·exact .inl ⟨ia (by omega),_,_,f⟩
 ·rw[f]at e⊢;refine .inr ⟨⟨q,0,O⟩,p,by rw[n],?_,fun l A c=>?_⟩
  ·rw[n];rcases e.2 with⟨g,_⟩|⟨v,t,u,g,_,_,r,_⟩
   ·cases g
   ·cases g;exact r
  ·unfold kinds at c;rw[ce]at c;cases hz:x.N.ks[l]? with
   |none=>rw[hz]at c;cases c
   |some d=>
    rw[hz]at c;obtain rfl:=bp c;obtain⟨z0,B⟩:=h.rng i x d j (cH hz);obtain⟨a,k⟩:∃a,L[d.toNat]?=M a:=⟨L[d.toNat]'(by omega),aJ _⟩;have o:(ns.getD d.toNat Iv)=a.N:=by
     have m:(L.map Im.N)[d.toNat]?=M a.N:=by rw[ce,k];rfl
     rw[s,jH,ab (by omega)]at m;rw[be,m];rfl
    have y:l<x.N.ks.length:=(List.getElem?_eq_some_iff.1 hz).1;refine⟨a.b,?_,?_⟩
    ·rw[uu,e.cellAt l (by omega)];unfold nK;rw[ce,hz];simp only[uC];rw[jH,ab (by omega),k,o];rfl
    ·show W.cell? ⟨a.b,0,O⟩=M (C2 .i64 (ns.getD d.toNat Iv).k);rw[o];exact(h.box _ a k).cells.1
theorem ad4:(Tryz.prog.info? 49).map (fun i=>(i.zero,i.size,i.bytes))=M (M F1,1,16):=by kernel_rfl
def D7(N:Nd):Bool:=decide (0<=N.f/\N.f<=N.t/\0<=N.l/\N.ks.length<=200/\N.nm.length<=200)
def D8(a:List Nd)(i:Nat)(N:Nd):Bool:=
 D7 N&&(Ah (mz N (de N.k)) N&&(Ie N.ks i N.ks.length 0&&(ffB N N.ks.length (de N.k)&&kfB N (kinds a N.ks))))
def Hq(b:Z)(lb mb:Nat)(a:List Im)(d:List Nd)(N:Nd)(vn:X)(e:Ending)(w':Z):Prop:=
 e= B0 (Er (D8 d a.length N))/\V b.heap.size b w'/\(D8 d a.length N=E2->∃f c,c.N=N/\c.vn=vn/\Lk w' lb mb f/\li w' b.heap.size f (a++[c]))
theorem ad5(w:Z)(lb:Nat)(N:Nd)(vn vk:X)(g:cu w vn N.nm)(f:dw w vk N.ks)(d:io N)(h:D7 N=Ax):
  F2 Y 37 #[A0 (M ⟨lb,0,O⟩),jf N vn vk] w fun e w'=>e= B0 (Er Ax)/\V w.heap.size w w':=by
 have b:∀c,V w.heap.size w (w.alloc c):=fun c=>(ah _ w).alloc (ag _) c;obtain⟨p,r,rfl⟩:=g.form;obtain⟨q,s,rfl⟩:=f.form;have l:=d.l1;have m:=d.l2;unfold D7 at h;have a:=iz h;unfold jf;generalize N.nm.length=j at l a⊢;generalize N.ks.length=k at m a⊢;clear g f d h;obtain⟨z,i,o,n,E,B,F,C,A⟩:=N;simp only at a⊢;by_cases t:i<0
 ·clear a;go_in;go_wp2;go_ret;exact⟨rfl,b _⟩
 by_cases u:o<i
 ·clear a;go_in;go_wp2;go_ret;exact⟨rfl,b _⟩
 by_cases v:n<0
 ·clear a;go_in;go_wp2;go_ret;exact⟨rfl,b _⟩
 by_cases x:(200:Int)<(k:Int)
 ·clear a;go_in;go_wp2;go_ret;exact⟨rfl,b _⟩
 have y:(200:Int)<(j:Int):=by omega
 clear a;go_in;go_wp2;go_ret;exact⟨rfl,b _⟩
theorem Kd(c:V W.heap.size W W'){a:Addr}(b:a.block<W.heap.size){r:Bool}(h:W.frozen? a=r):W'.frozen? a=r:=by
 rw[<-h];exact World.frozen?_of_block (c.block _ b)
theorem apn(h:cu w vn N.nm)(k:Int):cu w (tq vn (de k)) (mz N (de k)).nm:=by
 rcases C9 k with hc|hc|hc|hc|hc|hc|hc
 ·rw[hc];exact h
 ·rw[hc];exact .inl ⟨rfl,_,_,rfl⟩
 ·rw[hc];exact .inl ⟨rfl,_,_,rfl⟩
 ·rw[hc];exact .inl ⟨rfl,_,_,rfl⟩
 ·rw[hc];exact .inl ⟨rfl,_,_,rfl⟩
 ·rw[hc];exact h
 ·rw[hc];exact .inl ⟨rfl,_,_,rfl⟩
theorem ahc(k:Int)(h:N.nm.length<=1048576):(mz N (de k)).nm.length<=1048576:=by
 rcases C9 k with hc|hc|hc|hc|hc|hc|hc
 ·rw[hc];exact h
 ·rw[hc];exact aL _
 ·rw[hc];exact aL _
 ·rw[hc];exact aL _
 ·rw[hc];exact aL _
 ·rw[hc];exact h
 ·rw[hc];exact aL _
theorem ahd(e w:Z)(I:nA e)(K:V e.heap.size e w)(lb mb:Nat)(hE:e.heap.size<=lb)(ch:X)(i:List Im)(h:Lk w lb mb ch)(fm:li w e.heap.size ch i)(N:Nd)(vn vk:X)(cx:cu e vn N.nm)(bc:dw e vk N.ks)(ad:io N)(hs:i.length<=3000)(E:List Nd)(fz:i.map Im.N=E.take i.length)(a0:E[i.length]?=M N)(a4:∀W,V e.heap.size e W->Ga Y W "strings.asciiSpace" .u8 B1)(cw:D7 N=E2):
  F2 Y 37 #[.pointer (M ⟨lb,0,O⟩),jf N vn vk] w (Hq e lb mb i E N vn):=by
 have cg:=fun W (dk:V w.heap.size w W)=>LH W N vn vk (by obtain⟨c6,bw,m⟩:=cx.form;exact⟨_,_,_,m⟩) (by obtain⟨c6,bw,m⟩:=bc.form;exact⟨_,_,_,m⟩);obtain⟨bo,b8⟩:=az (D8 E i.length N);unfold Hq;rw[b8];unfold D8 at b8;rw[cw,eI]at b8;obtain⟨p,q,rfl⟩:=cx.form;obtain⟨a7,ba,rfl⟩:=bc.form;unfold D7 at cw;obtain⟨hd,hh,hl,hm,hp⟩:=aH cw;have z:B6 (Lk w lb mb ch/\li w e.heap.size ch i/\cu e (.slice p N.nm.length q) N.nm/\dw e (.slice a7 N.ks.length ba) N.ks/\io N/\i.map Im.N=E.take i.length/\(∀W,V e.heap.size e W->Ga Y W "strings.asciiSpace" .u8 B1)/\nA e/\V e.heap.size e w/\E[i.length]?=M N):=⟨h,fm,cx,bc,ad,fz,a4,I,K,a0⟩;have fb:=aq b8;have i7:¬N.f<0:=by omega
 have i8:¬N.t<N.f:=by omega
 have i9:¬N.l<0:=by omega
 unfold jf at cg⊢;obtain⟨o,dn⟩:=az N.nm.length;obtain⟨r,dq⟩:=az N.ks.length;have cm:=gI dn dq;rw[dn]at cg z hp⊢;rw[dq]at cg z hm⊢;have ji:¬(200:Int)<(r:Int):=by omega
 have jn:¬(200:Int)<(o:Int):=by omega
 have j7:lb<w.heap.size:=ai z.1.b;clear dn dq cx bc ad fz a4 I K h fm b8 cw hd hh hl a0;go_in;go_wp2_with fail;generalize fn:w.alloc _=fd;obtain⟨cF,ea,h0⟩:=al1 fn;replace cF:qh w.heap.size fd 45 N (.slice p o q) (.slice a7 r ba):=cF;clear fn;refine(cg fd ea).mono ?_;rintro m C ⟨rfl,b9,dz⟩;rw[h0]at b9⊢;obtain⟨j,hC⟩:=az (w.heap.size+1+1+1);rw[hC]at b9⊢;have e6:=cF.below dz;have br:V w.heap.size w C:=ea.trans (dz.mono (by omega));obtain⟨bE,bF,b0,b1,b2,b3,b4,b5,b6,ha⟩:=cd e6;have c7:V C.heap.size C C.drew:=aw (ah _ C);have eh:cu C.drew (.slice p o q) N.nm:=((z.2.2.1.below z.2.2.2.2.2.2.2.2.1).below br).below c7;have am:=EK C.drew j N (.slice p o q) (.slice O 0 0) 0 ⟨_,_,_,rfl⟩ (b9.below c7);have a5:=fun W (dk:V C.drew.heap.size C.drew W)=>C7 W (mz N (de N.k)) N (tq (.slice p o q) (de N.k)) (.slice O 0 0) (.slice p o q) (.slice a7 r ba) ((apn eh N.k).below dk) (eh.below dk) ⟨_,_,_,rfl⟩ ⟨_,_,_,rfl⟩ (ahc _ z.2.2.2.2.1.l1) z.2.2.2.2.1.l1;obtain⟨i1,kb,i2,fB⟩:∃c6 h7 bw,tq (.slice p o q) (de N.k)= .slice c6 h7 bw:=by
  unfold tq;split<;>exact⟨_,_,_,rfl⟩
 rw[fB]at am a5;unfold jf at am a5;obtain⟨h9,eq⟩:=az (Ah (mz N (de N.k)) N);rw[eq]at a5;have cn:=aq eq;obtain⟨ir,el⟩:=az (mz N (de N.k));rw[el]at am a5 cn;clear eq eh fB cg cF ea dz;have hI:=fun w=>rB N.k j w;have h3:=fun w=>da j w;unfold er at am⊢;have il:B6 (jy (de N.k)=jy (de N.k)):=rfl;generalize es:jy (de N.k)=e7 at am hI⊢;go_wp2_with fail;cases h9 with
 |false=>
  have H:B6 (Ax=bo):=by have:=fb.out;rw[el,cn.out,eo]at this;exact this
  go_region_held3 (fun n=>n.cell? ⟨w.heap.size,0,O⟩=M (.int .i64 N.k)/\n.cell? ⟨w.heap.size,1,O⟩=M (.int .i64 N.f)/\n.cell? ⟨w.heap.size,2,O⟩=M (.int .i64 N.t)/\n.cell? ⟨w.heap.size,3,O⟩=M (.int .i64 N.l)/\n.cell? ⟨w.heap.size,4,O⟩=M (.int .i64 N.op)/\n.cell? ⟨w.heap.size,5,O⟩=M (.int .i64 N.n)/\n.cell? ⟨w.heap.size,6,O⟩=M (.string N.x)/\n.cell? ⟨w.heap.size,7,O⟩=M (.slice p o q)/\n.cell? ⟨w.heap.size,8,O⟩=M (.slice a7 r ba)) (first|go_keep|exact⟨aj k (aj a bE),aj k (aj a bF),aj k (aj a b0),aj k (aj a b1),aj k (aj a b2),aj k (aj a b3),aj k (aj a b4),aj k (aj a b5),aj k (aj a b6)⟩|exact⟨aj a bE,aj a bF,aj a b0,aj a b1,aj a b2,aj a b3,aj a b4,aj a b5,aj a b6⟩) (first|(go_at_call 82;refine am.mono ?_;rintro m ik ⟨rfl,a⟩)|(go_at_call 107;refine(a5 _ a).mono ?_;rintro m a6 ⟨rfl,k⟩))
  go_wp2_with fail;go_ret;have hx:V w.heap.size w a6:=br.trans (((aw (ah _ C)).trans (a.trans (k.mono a.size))).mono br.size);exact⟨by rw[<-H.out];rfl,z.2.2.2.2.2.2.2.2.1.trans (hx.mono z.2.2.2.2.2.2.2.2.1.size),fun h=>by rw[<-H.out]at h;cases h⟩
 |true=>
  have gu:B6 ((Ie N.ks i.length N.ks.length 0&&(ffB N N.ks.length (de N.k)&&kfB N (kinds E N.ks)))=bo):=by have:=fb.out;rw[el,cn.out,eI]at this;exact this
  go_region_held3 (fun n=>n.cell? ⟨w.heap.size,0,O⟩=M (.int .i64 N.k)/\n.cell? ⟨w.heap.size,1,O⟩=M (.int .i64 N.f)/\n.cell? ⟨w.heap.size,2,O⟩=M (.int .i64 N.t)/\n.cell? ⟨w.heap.size,3,O⟩=M (.int .i64 N.l)/\n.cell? ⟨w.heap.size,4,O⟩=M (.int .i64 N.op)/\n.cell? ⟨w.heap.size,5,O⟩=M (.int .i64 N.n)/\n.cell? ⟨w.heap.size,6,O⟩=M (.string N.x)/\n.cell? ⟨w.heap.size,7,O⟩=M (.slice p o q)/\n.cell? ⟨w.heap.size,8,O⟩=M (.slice a7 r ba)) (first|go_keep|exact⟨aj k (aj a bE),aj k (aj a bF),aj k (aj a b0),aj k (aj a b1),aj k (aj a b2),aj k (aj a b3),aj k (aj a b4),aj k (aj a b5),aj k (aj a b6)⟩|exact⟨aj a bE,aj a bF,aj a b0,aj a b1,aj a b2,aj a b3,aj a b4,aj a b5,aj a b6⟩) (first|(go_at_call 82;refine am.mono ?_;rintro m ik ⟨rfl,a⟩)|(go_at_call 107;refine(a5 _ a).mono ?_;rintro m a6 ⟨rfl,k⟩))
  have cr:V C.heap.size C a6:=(aw (ah _ C)).trans (a.trans (k.mono a.size));have cq:V w.heap.size w a6:=br.trans (cr.mono br.size);obtain⟨lk,bd,cz,eb,ad,cB,a4,I,K,a0⟩:=z.out;have ff:V e.heap.size e a6:=K.trans (cq.mono K.size);have e0:=lk.below cq;have e3:=bd.below cq;have gn:=e6.below cr;have bt:=b9.below cr;have h1:=K.size;have d:=AF.start I bd (by omega) (by omega) (by omega) e0 e3 gn bt ff ⟨hE,by omega,h1⟩;obtain⟨ao,ap,bf⟩:=bI e3.row;have fk:a6.cell? ⟨lb,1,O⟩=M (.slice ao i.length ap):=by rw[<-bf,au _ _ _ _ _ _ e0.b];rfl
  have c8:=bt.cells.2.2.2.1;have c9:=bt.cells.2.2.2.2.2;have hA:j<a6.heap.size:=ai bt;have bk:=aq d;obtain⟨g,ei⟩:=az i.length;rw[ei]at fk bk hs;have J:=aq ei;clear d e0 e3 gn bt cr lk bd cz eb ad cB a4 I K a0 bE bF b0 b1 b2 b3 b4 b5 b6 ha am a5 b9 e6 c7 cn ei;go_wp2_with (go_at_call 336;refine(h3 _).mono ?_;rintro m u ⟨rfl,rfl⟩);obtain⟨gb,fq,f6,f7,f8⟩:=du ad4;clear fk c8 c9 cq ff hA bf;go_loopw [54] (fun e9 wr=>∃(c:Nat) (gd:X),e9= .int .i64 c/\c<=r/\B6 ((Ie N.ks g (r-c) c&&(ffB N r (de N.k)&&kfB N (kinds E N.ks)))=bo)/\B6 (∀s∈N.ks.take c,0<=s/\s<(g:Int))/\B6 (AF e lb mb w.heap.size j ch i N (.slice p o q) (.slice a7 r ba) gd c wr)) (fun e9 _=>r-(E0 e9).toNat)
  case atStart=>
   refine⟨0,_,rfl,aL _,?_,fun s L=>by simp at L,bk⟩;have:=gu.out;rw[J.out,cm.out.2]at this;exact this
  case round=>
   obtain⟨c,gd,rfl,j3,cl,fc,bh⟩:=hrel;clear bk;have d:=bh.out;have G:=cl.out;by_cases hH:c<r
   ·obtain⟨s,L⟩:=cy cm.2 hH;obtain⟨iy,hv,j2⟩:=(z.2.2.2.1.below d.bl).get L;subst hv;have j5:(c:Int)<(r:Int):=by omega
    have j4:(0:Int)<=(c:Int):=by omega
    have c8:=d.bx.cells.2.2.2.1;rw[J.out]at c8;rw[show r-c=(r-(c+1))+1 by omega,Ie,be,L,gl]at G;by_cases bb:0<=s/\s<(g:Int)
    ·obtain⟨e1,rfl⟩:=uy bb.1;have hq:e1<g:=by omega
     obtain⟨an,et⟩:=cy J.out hq;have cf:=d.ns.row;rw[J.out]at cf;rcases bu cf with⟨j9,_⟩|⟨b7,cs,bf⟩
     ·omega
     subst bf;have g9:wr.cell? ⟨lb,1,O⟩=M (.slice (M ⟨b7,0,O⟩) g cs):=by rw[au _ _ _ _ _ _ d.lk.b];rfl
     have fg:wr.cell? ⟨b7,e1,O⟩=M (.iface (jy (de an.N.k)) (.pointer (M ⟨an.b,0,O⟩))):=by
      rw[cf.cellAt e1 (by omega),ce,et];rfl
     obtain⟨v,y,ec⟩:=bI d.kr;subst ec;have hb:=d.bx.cells.2.2.2.2.1;have c9:=d.bx.cells.2.2.2.2.2 5;have fv:=d.kr;have c5:B6 (nK i (N.ks.take (c+1))=nK i (N.ks.take c)++[.iface (jy (de an.N.k)) (.pointer (M ⟨an.b,0,O⟩))]):=by
      show _=_;rw[iI,L];unfold nK;rw[dF];simp[et,nV,er]
     have gt:B6 ((Ie N.ks g (r-(c+1)) (c+1)&&(ffB N r (de N.k)&&kfB N (kinds E N.ks)))=bo):=by
      rw[bH bb,eI]at G;exact G
     have g7:B6 (∀s∈N.ks.take (c+1),0<=s/\s<(g:Int)):=fun s f9=>by
      rw[iI,L]at f9;rcases List.mem_append.1 f9 with h|h
      ·exact fc s h
      ·simp at h;subst h;exact bb
     have h5:lb<wr.heap.size:=ai d.lk.b;have h6:j<wr.heap.size:=ai d.bx;have ka:b7<wr.heap.size:=(cf.lt b7 rfl).2;have ex:∀ev,(A2 v c y).ownBlock=M ev->ab0 wr ev:=fun ev bc=>(oG fv bc).1;have kc:M lb≠(A2 v c y).ownBlock:=fun m=>by obtain⟨bw,ca⟩:=ex lb m.symm;exact qE d.lk.b ca (by decide) rfl
     have gf:M j≠(A2 v c y).ownBlock:=fun m=>by obtain⟨bw,ca⟩:=ex j m.symm;exact qE d.bx ca (pv _).1 rfl
     have kd:M b7≠(A2 v c y).ownBlock:=fun m=>by
      rcases d.fr with e2|e2
      ·rw[e2]at m;cases m
      ·exact e2 m.symm
     have h2:e.heap.size<=wr.heap.size:=d.bl.size;have g6:B6 (jy (de an.N.k)=jy (de an.N.k)):=rfl;generalize jy (de an.N.k)=e8 at fg c5 g6;generalize an.b=fa at fg c5;have bs:∀F,V wr.heap.size wr (wr.alloc F).drew:=fun F=>aw ((ah _ wr).alloc (ag _) F);clear d G et L bb cf ex;go_wp2_with fail;go_region_law (refine step_append_lies _ (by rfl) _ _ _ (by rfl) e.heap.size 49 gb _ 1 16 Tryz.underlying93 fq f6 f7 f8 rfl (by omega) (.slice v c y) c (nK i (N.ks.take c)) (by rfl) ((fv.alloc _).drew) ⟨wr.heap.size,0,O⟩ 1 1 [.iface e8 (.pointer (M ⟨fa,0,O⟩))] (by rfl) (by rfl) (E1 (cs:=#[.iface e8 (.pointer (M ⟨fa,0,O⟩))]) (t:=49) (fr:=(0,0)) (aA wr _)) (by simp[Value.oneCell']) (by omega) (by unfold G0;omega) (by omega) (by simp;omega) (wr.heap.size+1) (by simp) ?_;intro i6 i3 u cc cb ds j6;have i4:=(cb.cell_far ⟨j,5,O⟩ (by simp;omega) gf).trans (aj (bs _) hb);have i5:=(cb.frozen_far ⟨j,5,O⟩ (by simp;omega) gf).trans (Kd (bs _) h6 c9))
     all_goals
      go_wp2_with fail;obtain⟨_,bd,_,_,_,_,_,I,_,_⟩:=z.out;have ii:=bh.below (bs (.cells #[.iface e8 (.pointer (M ⟨fa,0,O⟩))] 49));rw[<-c5.out]at cc;obtain⟨_,stB⟩:=ii.kid I cb cc ds (by simp);exact⟨⟨c+1,_,by go_num,by omega,gt,g7,stB⟩,by simp[E0];omega⟩
    ·have H:B6 (Ax=bo):=by rw[aC bb,eo,eo]at G;exact G
     have fo:=d.bl;by_cases j0:s<0
     ·clear G d bh cl L;go_wp2_with fail;go_ret;exact⟨by rw[<-H.out];rfl,fo,fun h=>by rw[<-H.out]at h;cases h⟩
     ·have j1:¬s<(g:Int):=by omega
      clear G d bh cl L bb;go_wp2_with fail;go_ret;exact⟨by rw[<-H.out];rfl,fo,fun h=>by rw[<-H.out]at h;cases h⟩
   ·obtain rfl:c=r:=by omega
    rw[eC,Ie,eI]at G;obtain⟨v,y,ec⟩:=bI d.kr;subst ec;obtain⟨ao,ap,bf⟩:=bI d.ns.row;subst bf;rw[J.out];have g9:wr.cell? ⟨lb,1,O⟩=M (.slice ao g ap):=by rw[<-J.out,au _ _ _ _ _ _ d.lk.b];rfl
    have em:=d.ns.row;rw[J.out]at em;have h2:e.heap.size<=wr.heap.size:=d.bl.size;have h5:lb<wr.heap.size:=ai d.lk.b;have bs:∀F,V wr.heap.size wr (wr.alloc F):=fun F=>(ah _ wr).alloc (ag _) F;have bk:=aq d;have gv:=aq G;have g0:=aq em;clear G d bh cl em;obtain⟨_,bd,cz,eb,ad,cB,a4,I,K,a0⟩:=z.out;have gr:B6 (∀F u B A,(wr.alloc F).grownBy u (A2 ao g ap).ownBlock->u.ownsRow e.heap.size 49 1 (.slice (M ⟨B,0,O⟩) (g+1) A) (g+1) (i.map nV++[.iface e7 (.pointer (M ⟨j,0,O⟩))])->((A2 (M ⟨B,0,O⟩) (g+1) A).ownBlock=(A2 ao g ap).ownBlock\/(A2 (M ⟨B,0,O⟩) (g+1) A).ownBlock=M (wr.alloc F).heap.size)->
      u.heap[lb]?=M (.cells #[.map (M mb),.slice ao g ap] 95 (0,0))/\Lk (u.setCell ⟨lb,1,O⟩ (.slice (M ⟨B,0,O⟩) (g+1) A)) lb mb (.slice (M ⟨B,0,O⟩) (g+1) A)/\li (u.setCell ⟨lb,1,O⟩ (.slice (M ⟨B,0,O⟩) (g+1) A)) e.heap.size (.slice (M ⟨B,0,O⟩) (g+1) A) (i++[⟨N,j,.slice p o q,.slice v c y⟩])/\ft (u.setCell ⟨lb,1,O⟩ (.slice (M ⟨B,0,O⟩) (g+1) A)) j N (.slice p o q) g (.slice v c y)/\V e.heap.size e (u.setCell ⟨lb,1,O⟩ (.slice (M ⟨B,0,O⟩) (g+1) A))):=by
     intro F u B A hD hJ ds;have ih:=bk.below (bs F);have ek:=J.out;have eg:=cm.2;subst eg;subst ek;have hK:∀s∈N.ks,0<=s/\s<(i.length:Int):=by
      have:=fc.out;rw[A4]at this;exact this
     refine ih.done I hK hD ?_ ds;unfold er;rw[es];exact hJ
    clear bd K I;go_wp2_with (at_builtin;refine wpList_append_own_at _ rfl _ _ 93 rfl e.heap.size 49 gb _ 1 16 Tryz.underlying93 fq f6 f7 f8 rfl (by decide) _ _ _ rfl (g0.alloc _) ⟨wr.heap.size,0,O⟩ 1 1 [.iface e7 (.pointer (M ⟨j,0,O⟩))] rfl rfl (E1 (cs:=#[.iface e7 (.pointer (M ⟨j,0,O⟩))]) (fr:=(0,0)) (aA wr _)) (by intro ke fF;simp at fF;subst fF;rfl) (by unfold G0;omega) (by omega) (by simp;omega) ?_;intro kg u cc cb j8 hw;obtain⟨B,A,rfl⟩:=ownsRow_succ cc;obtain⟨ge,c0,c4,ct,a8⟩:=gr.out _ u B A cb cc hw;have kj:u.cell? ⟨lb,1,O⟩=M (.slice ao g ap):=by {rw[au _ _ _ _ _ _ ge];rfl};have kl:u.frozen? ⟨lb,1,O⟩=Ax:=co _ _ _ _ _ ge);generalize u.setCell ⟨lb,1,O⟩ (.slice (M ⟨B,0,O⟩) (g+1) A)=g8 at c0 c4 ct a8⊢;have ek:=J.out;have eg:=cm.2;have f0:(i++[⟨N,j,.slice p o q,.slice v c y⟩])[g]?=M ⟨N,j,.slice p o q,.slice v c y⟩:=by rw[<-ek];simp
    have fA:(i++[(⟨N,j,.slice p o q,.slice v c y⟩:Im)]).map Im.N=E.take (i++[(⟨N,j,.slice p o q,.slice v c y⟩:Im)]).length:=by
     rw[dF,cB,aK,AH,iI,a0];rfl
    have fu:=c4.kids fA f0;have al:=D6 g8 lb mb _ c0 j N (.slice p o q) g v c y (by omega) (cz.below a8) ad.l1 ad.ls ad.lx ct;unfold er at al;rw[es]at al;have af:=gv.out;cases hfb:ffB N c (de N.k) with
    |false=>
     rw[hfb]at al af;rw[eo]at af;have H:=aq af;refine al.mono ?_;rintro m gp ⟨rfl,ar⟩;have a9:=a8.trans (ar.mono a8.size);clear af hfb al;go_wp2_with fail;go_ret;exact⟨by rw[<-H.out];rfl,a9,fun h=>by rw[<-H.out]at h;cases h⟩
    |true=>
     rw[hfb]at al af;rw[eI]at af;have fx:de N.k=1->0<=N.n/\N.n<=200:=fun ca=>by
      rw[ca]at hfb;have:=aH (show decide (1<=N.n/\N.n<(c:Int))=E2 from hfb);omega
     refine al.mono ?_;rintro m gp ⟨rfl,ar⟩;have a9:=a8.trans (ar.mono a8.size);have h4:=c0.below ar;have h8:=c4.below ar;have hG:(kinds E N.ks).length<=1048576:=by unfold kinds;rw[cj,eg];omega
     have cI:=J7 gp j N (.slice p o q) (.slice v c y) g (kinds E N.ks) (fu.below ar) hG (fun W ht=>a4 W (a9.trans (ht.mono a9.size))) (ct.below ar) fx;rw[af]at cI;unfold er at cI;rw[es]at cI;clear af hfb al fx fu f0 fA c0 c4 ct a0 cB a4 ad cz eb;go_wp2_with (go_at_call 109;refine cI.mono ?_;rintro m ki ⟨rfl,d9⟩);go_ret;exact⟨rfl,a9.trans (d9.mono a9.size),fun _=>⟨_,_,rfl,rfl,h4.below d9,h8.below d9⟩⟩
theorem ahe(a w:Z)(n:nA a)(c:V a.heap.size a w)(lb mb:Nat)(p:a.heap.size<=lb)(e:X)(b:List Im)(h:Lk w lb mb e)(l:li w a.heap.size e b)(N:Nd)(vn vk:X)(i:cu a vn N.nm)(g:dw a vk N.ks)(j:io N)(k:b.length<=3000)(d:List Nd)(q:b.map Im.N=d.take b.length)(o:d[b.length]?=M N)(r:∀W,V a.heap.size a W->Ga Y W "strings.asciiSpace" .u8 B1):
  F2 Y 37 #[A0 (M ⟨lb,0,O⟩),jf N vn vk] w (Hq a lb mb b d N vn):=by
 cases hf:D7 N with
 |true=>exact ahd a w n c lb mb p e b h l N vn vk i g j k d q o r hf
 |false=>
  refine bv (ad5 w lb N vn vk (i.below c) (g.below c) j hf) fun s m=>?_;have f:D8 d b.length N=Ax:=by unfold D8;rw[hf,eo]
  exact⟨by rw[f],c.trans (m.mono c.size),fun h=>by rw[f]at h;cases h⟩
theorem Ke(n l k b p:Nat)(a:Option Addr)(f:Nat->X)(K:b<=3000)(I:b<=p)(c:Nat->Z->Prop)(o:Z->Prop)
  (r:∀m W,c m W->W.cell? ⟨k,0,O⟩=M (B7 a b p))
  (z:∀m W,c m W->∀j,j<b->∃h,a=M h/\W.cell? (h.add j)=M (f j))
  (y:∀m W,m<b->c (m+1) W->YieldAt Fence.wide (n-1) Y l #[C2 .i64 (m:Int),f m] W fun e W'=>(e= B0 (Er E2)/\c m W')\/(e= B0 (Er Ax)/\o W'))
  (W:Z) (q:c b W):
  CallsIn Fence.wide n Y 189 #[.func (.yield l) #[] #[],A0 (M ⟨k,0,O⟩)] W fun e W'=>(∃v,e= B0 v)/\(c 0 W'\/o W'):=by
 have G:=r _ _ q;refine callsIn_of_wp Tryz.func189 rfl trivial ?_ rfl;simp only[Tryz.ntmps189,gj,bB,dl,Nat.reduceAdd,Nat.reduceSub,gD,iw,ix,od,dt,ej]
 gi_wp2
 gi_loopw [3] (fun i wr=>∃d:Nat,d<=b/\i= C2 .i64 ((d:Int)-1)/\c d wr) (fun i _=>(E0 i+1).toNat)
 case atStart=>exact⟨b,ag _,rfl,q⟩
 case round=>
  obtain⟨d,J,rfl,g⟩:=hrel;have F:=r _ _ g;rcases qd d with rfl|hp
  ·gi_wp2
   go_end0
   exact⟨⟨_,rfl⟩,.inl g⟩
  ·obtain⟨m,rfl⟩:∃m,d=m+1:=⟨d-1,by omega⟩;obtain⟨h,rfl,H⟩:=z _ _ g m (by omega);obtain⟨E,tmps,B,C,L,x⟩:=y m wr (by omega) g;have s:((m+1:Nat):Int)-1=(m:Int):=by omega
   rw[s];have ad:(m:Int)<(b:Int):=by omega
   have af:(0:Int)<=(m:Int):=by omega
   gi_wp2
   refine⟨fun t=>by simp[Fence.wide]at t,x.mono ?_⟩;rintro e A (⟨rfl,u⟩|⟨rfl,w⟩)
   ·gi_wp2
    go_roundw
    case rel=>exact⟨m,by omega,by simp,u⟩
    case measure=>simp[E0]
   ·gi_wp2
    refine aI (dJ rfl _ _ _) rfl ?_;exact⟨⟨_,rfl⟩,.inr w⟩
theorem yz(a:Option Addr)(c b:Nat)(w:Z):
  F2 Y 110 #[B7 a c b] w fun e w'=>e= B0 (.func (.func 189) #[] #[A0 (M ⟨w.heap.size,0,O⟩)])/\w'=w.alloc (.cells #[B7 a c b] 93):=by
 refine calls_of_wp Tryz.func110 rfl ?_;simp only[Tryz.ntmps110,gj,bB,dl,Nat.reduceAdd,Nat.reduceSub,gD,iw,ix,od,dt,ej];go_wp2;go_ret;exact⟨rfl,rfl⟩
attribute [local go_sem] lE
def acm:Option Nat->X
 |some i=> Fs #[C2 .i64 (i:Int),Er E2]
 |none=> Fs #[C2 .i64 0,Er Ax]
structure Dt (w:Z) (B:Nat) (vs:X) (n:Nat) (D:List Int) (W:Z):Prop where
 bl:V w.heap.size w W
 row:W.ownsRow w.heap.size 3 1 (.slice (M ⟨w.heap.size,0,O⟩) n n) n (D.map (B3 .i64))
 bx:W.heap[B]?=M (.cells #[.slice (M ⟨w.heap.size,0,O⟩) n n] 43 (0,0))
 bs:W.heap[B+1]?=M (.cells #[vs] 93 (0,0))
 ok:adz n D
theorem Dt.put{D:List Int}(h:Dt w B vs n D W)(c:w.heap.size<B)(d:B+1<k)(b:W.heap[k]?=M (.loop r))(o:Obj):Dt w B vs n D (W.putObj k o):=
 ⟨h.bl.grown (A5 W k o) h.bl.size (fun e a=>by cases a;omega),ownsRow_putObj h.row o b rfl,(R (by omega)).trans h.bx,(R (by omega)).trans h.bs,h.ok⟩
structure amp (w:Z) (B:Nat) (vs:X) (n t:Nat) (ks D:List Int) (j:Nat) (E:List Int) (W0 W:Z):Prop where
 st:Dt w B vs n E W
 rest:Ky t (ks.drop j) E=Ky t ks D
 kf:KeepsFrom (B+2) W0 W
theorem zy{e size:Nat}{v:X}{xs:List X}(h:W.ownsRow base e size v n xs):∃a b,v= B7 a n b:=by
 rcases h.2 with⟨rfl,c⟩|⟨f,b,d,rfl,_⟩
 ·exact⟨O,0,by rw[c]⟩
 ·exact⟨_,_,rfl⟩
theorem Kf{e size m:Nat}{a:Option Addr}{xs:List X}(h:W.ownsRow base e size (B7 a n c) m xs):n=m:=by
 obtain⟨b,d,e⟩:=zy h;cases e;rfl
theorem li.at{g:Nat}(h:li W base (B7 (M ⟨g,0,O⟩) n c) L){x:Im}(a:L[i]?=M x):W.cell? ⟨g,i,O⟩=M (G2 (jy (de x.N.k)) (A0 (M ⟨x.b,0,O⟩))):=by
 have e:i<L.length:=(List.getElem?_eq_some_iff.1 a).1;have d:=Kf h.row;subst d;rw[h.row.cellAt i (by omega),ce,a];rfl
theorem li.kidAt(h:li W base vs L){x:Im}(d:L[i]?=M x){g:Nat}(o:x.kv= B7 (M ⟨g,0,O⟩) n c){j:Nat}{z:Int}(e:x.N.ks[j]?=M z):
  ∃q f,z=((q:Nat):Int)/\q<i/\L[q]?=M f/\W.cell? ⟨g,j,O⟩=M (G2 (jy (de f.N.k)) (A0 (M ⟨f.b,0,O⟩))):=by
 obtain⟨z0,s⟩:=h.rng i x z d (cH e);obtain⟨q,rfl⟩:=uy z0;have p:i<L.length:=(List.getElem?_eq_some_iff.1 d).1;have r:j<x.N.ks.length:=(List.getElem?_eq_some_iff.1 e).1;have l:q<i:=by omega
 refine⟨q,L[q]'(by omega),rfl,l,aJ _,?_⟩;have a:=h.kid i x d;rw[o]at a;have m:=Kf a;subst m;rw[a.cellAt j (by omega)];unfold nK;rw[ce,e];simp only[uC,lG];rw[jH,ab l,aJ (by omega)];rfl
theorem D9(w:Z)(base:Nat)(bE:X)(G:List Im)(a0:li w base bE G)(s:List Nd)(cg:G.map Im.N=s)(n:Nat)(bf:G.length=n)(es:1<=n)(q:n<=3000)(cf:∀x∈G,x.N.ks.length<=200):
  F2 Y 39 #[bE] w fun e w'=>e= .returned (acm (iq (iA (Hc s)) n 0))/\V w.heap.size w w':=by
 obtain⟨f,j,rfl⟩:∃f b1,bE= .slice (M ⟨f,0,O⟩) n b1:=by
  rcases bu a0.row with⟨h,_⟩|h
  ·omega
  ·rw[<-bf];exact h
 have df:n<=j:=by
  rcases a0.row.2 with⟨q,_⟩|⟨eq,eg,ei,q,_,_,ev,_⟩
  ·cases q
  ·cases q;omega
 obtain⟨d6,dq,d3,d4,d5⟩:=du sj;obtain⟨bb,bh⟩:=az (iq (iA (Hc s)) n 0);rw[bh];have p:=Ig a0 cg bf bh cf;clear a0 cg bf bh cf;refine lF (n:=5).1 ?_;refine callsIn_of_wp_marks Tryz.func39 rfl trivial ?_ rfl;simp only[Tryz.ntmps39,gj,bB,dl,Nat.reduceAdd,Nat.reduceSub,gD,iw,ix,od,dt,ej];refine wpIn_wide.2 ?_;go_wp2_with (first|(at_make;refine A8 _ rfl _ _ 43 rfl w.heap.size 3 d6 (.int .i64 0) 1 Tryz.underlying43 dq d3 d4 .i64 .i64 _ _ n rfl rfl rfl rfl (by rw[d5];omega) (by unfold G0;omega) (ag _) ?_;intro E a6 I)|(go_at_call 110;refine(yz (M ⟨f,0,O⟩) n j _).mono ?_;rintro e fg ⟨rfl,rfl⟩));rename_i ea b6;have b8:V w.heap.size w E:=⟨I.os,I.tape,I.output,I.size,fun g dz=>I.block g dz (by simp)⟩;rw[show(madeCells (B3 .i64 0).cells (n*1)).toList=A9 n (B3 .i64 0) by rw[sh];exact AI _ n]at a6;have bt:w.heap.size<E.heap.size:=(a6.lt w.heap.size rfl).2;obtain⟨c,ar⟩:=az E.heap.size;have J:Dt w c (.slice (M ⟨f,0,O⟩) n j) n (A9 n 0) ((E.alloc (.cells #[.slice (M ⟨w.heap.size,0,O⟩) n n] 43)).alloc (.cells #[.slice (M ⟨f,0,O⟩) n j] 93)):=by
  refine⟨(b8.alloc (by omega) _).alloc (by simp;omega) _,?_,?_,?_,?_⟩
  ·rw[List.map_replicate];exact(a6.alloc _).alloc _
  ·exact(dg _ _ _ (by simp;omega)).trans (by rw[<-ar];exact aA E _)
  ·have:=aA (E.alloc (.cells #[.slice (M ⟨w.heap.size,0,O⟩) n n] 43)) (.cells #[.slice (M ⟨f,0,O⟩) n j] 93);rw[cD,ar]at this;exact this
  ·refine⟨by simp,fun r ao a3=>?_⟩;obtain⟨q,c4⟩:=List.getElem?_eq_some_iff.1 a3;simp at q c4;omega
 have K:((E.alloc (.cells #[.slice (M ⟨w.heap.size,0,O⟩) n n] 43)).alloc (.cells #[.slice (M ⟨f,0,O⟩) n j] 93)).heap.size=c+2:=by simp;omega
 rw[ar]at bt⊢;generalize (E.alloc (.cells #[.slice (M ⟨w.heap.size,0,O⟩) n n] 43)).alloc (.cells #[.slice (M ⟨f,0,O⟩) n j] 93)=ef at J K⊢;clear a6 I b8 ar;refine(qc (n:=5)).1 ?_;refine uK (P:=Y) (gf:=189) (lb:=#[.pointer (M ⟨c+1,0,O⟩)]) rfl (enters_of Tryz.func189 (by kernel_rfl) rfl)
  (fun a=>#[.int .i64 (a:Int),match G[a]? with|some x=> .iface (jy (de x.N.k)) (.pointer (M ⟨x.b,0,O⟩))|none=> .nilIface]) (fun _=>rfl) n
  (fun a b=>∃D,Dt w c (.slice (M ⟨f,0,O⟩) n j) n D b/\dpN s a D=Hc s)
  (fun a L b=>(∃D,Dt w c (.slice (M ⟨f,0,O⟩) n j) n D b/\dpN s (a+1) D=Hc s)/\∃x,G[a]?=M x/\
   L={tmps:=#[.slice (M ⟨f,0,O⟩) n j,Q,.int .i64 0,.bool Ax,.pointer (M ⟨c,0,O⟩),.int .i64 (a:Int),.iface (jy (de x.N.k)) (.pointer (M ⟨x.b,0,O⟩)),Q,Q,Q,Q,
    .slice (M ⟨f,0,O⟩) n j,.int .i64 (n:Int),.slice (M ⟨w.heap.size,0,O⟩) n n,.slice (M ⟨f,0,O⟩) n j,.func (.func 189) #[] #[.pointer (M ⟨c+1,0,O⟩)],.int .i64 (a:Int),.iface (jy (de x.N.k)) (.pointer (M ⟨x.b,0,O⟩)),
    Q,Q,Q,Q,Q,Q,Q,Q,Q,Q,Q,Q,Q,Q,Q,Q,Q,Q,Q,Q,Q,Q,Q,Q,Q,Q,Q,Q,Q,Q,Q,Q,Q,Q],defers:=[]})
  (fun _=>False)
  ?pZ ?pAx ?pX ?h0 ?assign ?body ?seq ?done ?ret
 case pZ=>
  rintro a b cs a8 ⟨D,h,m⟩ ak;rw[K]at ak⊢;exact⟨D,h.put bt (by omega) ak a8,m⟩
 case pAx=>
  rintro a L b cs a8 ⟨⟨D,h,m⟩,x,o,rfl⟩ ak;rw[K]at ak⊢;exact⟨⟨D,h.put bt (by omega) ak a8,m⟩,x,o,rfl⟩
 case pX=>intro b cs a8 h;exact h.elim
 case h0=>
  intro c0 a1 fb;have c9:V w.heap.size w c0:=J.bl.trans (a1.mono (by omega));exact⟨A9 n 0,⟨c9,cJ J.row a1,(a1.block _ (by omega)).trans J.bx,(a1.block _ (by omega)).trans J.bs,J.ok⟩,by rw[Hc,<-p.out.2.1,cj,p.out.2.2.1]⟩
 case assign=>
  rintro a7 a b ec a4 ⟨D,h,m⟩ b7;obtain⟨x,o⟩:=cy p.2.2.1 a4;rw[o]at⊢;have d9:=fun L=>b7 L b;have i:=lD h m o;clear h m o
  gi_wp2
  exact b7 _ _ ⟨⟨D,i.1,i.2.1⟩,x,i.2.2,rfl⟩ (KeepsFrom.refl _ _)
 case body=>
  rintro a7 a L b a4 ⟨⟨D,h,m⟩,x,o,rfl⟩;rw[K];have bk:=aj h.bl (p.1.box a x o).cells.2.2.2.2.1;have af:=p.1.kid a x o;obtain⟨c1,ek,B⟩:=zy af;rw[B]at bk;have d0:=p.2.2.2.2 x (cH o);obtain⟨am,br⟩:=az x.N.ks.length;rw[br]at bk d0 B;have ck:s[a]?=M x.N:=by rw[<-p.out.2.1,ce,o];rfl
  have b9:dpN s a (Ky a x.N.ks D)=Hc s:=by
   rw[dpN,be,ck,gl]at m;exact m
  have i:=Kz o b9 br B;have b0:B6 (amp w c (.slice (M ⟨f,0,O⟩) n j) n a x.N.ks D 0 D b b):=⟨h,rfl,KeepsFrom.refl _ _⟩;have a5:=fun w=>rB x.N.k x.b w;have e7:(a:Int)<(n:Int):=by omega
  have e6:(0:Int)<=(a:Int):=by omega
  have cr:=fun (c2:Nat) w=>CallsIn.inRound a7 (lF (n:=2).2 (da c2 w));generalize jy (de x.N.k)=ff at a5⊢;clear o m b9 af ck br B h
  gi_wp2_with (refine⟨trivial,?_⟩;gi_at_call 336;refine(cr _ _).mono ?_;rintro e an ⟨rfl,cm⟩;subst an)
  gi_loopw [24] (fun F d8=>∃(r:Nat) (v:List Int),r<=am/\F= .int .i64 r/\B6 (amp w c (.slice (M ⟨f,0,O⟩) n j) n a x.N.ks D r v b d8)) (fun F _=>am-(E0 F).toNat)
  case atStart=>exact⟨0,D,aL _,rfl,b0⟩
  case round=>
   obtain⟨r,v,a3,rfl,l⟩:=hrel;clear b0 bk a5;by_cases ds:r<am
   ·have e2:(r:Int)<(am:Int):=by omega
    have e1:(0:Int)<=(r:Int):=by omega
    obtain⟨ao,C⟩:=cy i.2.2.1 ds;have B:=i.2.2.2;obtain⟨gk,dn⟩:∃gk,c1=M ⟨gk,0,O⟩:=by
     have af:=p.1.kid a x i.1;rw[B]at af;rcases bu af with⟨h,_⟩|⟨gk,b1,h⟩
     ·rw[i.out.2.2.1]at h;omega
     ·cases h;exact⟨_,rfl⟩
    subst dn;obtain⟨d,u,rfl,d2,bw,dk⟩:=(p.1.below (l.st.bl)).kidAt i.1 B C;have ch:=aj l.st.bl (p.1.box d u bw).cells.2.2.2.1;obtain⟨k,a2⟩:=cy l.st.ok.1 a4;obtain⟨c3,ca⟩:=cy l.st.ok.1 (show d<n by omega);have e0:=l.st.ok.2 a k a2;have H:Dt w c (.slice (M ⟨f,0,O⟩) n j) n v wr.drew:=⟨l.st.bl.drew,l.st.row,l.st.bx,l.st.bs,l.st.ok⟩;have al:=H.row;have b2:wr.drew.cell? ⟨w.heap.size,a,O⟩=M (.int .i64 k):=by rw[al.cellAt a (by omega),ce,a2];rfl
    have eh:wr.drew.cell? ⟨w.heap.size,d,O⟩=M (.int .i64 c3):=by rw[al.cellAt d (by omega),ce,ca];rfl
    have em:=al.frozenAt d;have bo:v.getD a 0=k:=by rw[be,a2];rfl
    have bA:=(al.stored d (.int .i64 (k+1))).1;rw[<-List.map_set]at bA;have bD:=l.st.ok.set a d a4 d2;rw[bo]at bD;have cl:Ky a (x.N.ks.drop (r+1)) (v.set d (k+1))=Ky a x.N.ks D:=by
     have q:=l.rest;have cc:=(List.getElem?_eq_some_iff.1 C);rw[jo cc.1,cc.2,Ky,bo]at q;exact q
    have bc:wr.drew.cell? ⟨c,0,O⟩=_:=dh H.bx;have cw:Dt w c (.slice (M ⟨f,0,O⟩) n j) n (v.set d (k+1)) (wr.drew.setCell ⟨w.heap.size,d,O⟩ (.int .i64 (k+1))):=
     ⟨H.bl.setCell (ag _) _,bA,(aB _ _ _ _ (by simp;omega)).trans H.bx,(aB _ _ _ _ (by simp;omega)).trans H.bs,bD⟩
    have cx:B6 (amp w c (.slice (M ⟨f,0,O⟩) n j) n a x.N.ks D (r+1) (v.set d (k+1)) b (wr.drew.setCell ⟨w.heap.size,d,O⟩ (.int .i64 (k+1)))):=⟨cw,cl,l.kf.trans (((KeepsOthers.drew wr).from _).trans ((T _ _ _).from _))⟩;have e8:d≠a:=by omega
    have fc:IntKind.i64.wrap (k+1)=k+1:=by rw[ed];omega
    have fd:=ai (p.1.box d u bw);have c6:(wr.drew.setCell ⟨w.heap.size,d,O⟩ (.int .i64 (k+1))).cell? ⟨c,0,O⟩=M (.slice (M ⟨w.heap.size,0,O⟩) n n)/\(wr.drew.setCell ⟨w.heap.size,d,O⟩ (.int .i64 (k+1))).cell? ⟨u.b,4,O⟩=M (.int .i64 (d:Int))/\(wr.drew.setCell ⟨w.heap.size,d,O⟩ (.int .i64 (k+1))).cell? ⟨w.heap.size,a,O⟩=M (.int .i64 k):=
     ⟨(World.cell?_setCell_far _ _ _ _ (by simp;omega)).trans bc,(World.cell?_setCell_far _ _ _ _ (by simp;omega)).trans ch,(World.cell?_setCell_other _ _ _ _ (by simp;try omega)).trans b2⟩
    have fa:(d:Int)<(n:Int):=by omega
    have e9:(0:Int)<=(d:Int):=by omega
    have a5:=fun w=>rB u.N.k u.b w;generalize jy (de u.N.k)=d7 at a5 dk;clear C l bA bD cl cw al a2 ca bo B bw H
    gi_wp2_with (refine⟨trivial,?_⟩;gi_at_call 336;refine(cr _ _).mono ?_;rintro e an ⟨rfl,cm⟩;subst an)
    have c5:wr.drew.cell? ⟨c,0,O⟩=M (.slice (M ⟨w.heap.size,0,O⟩) n n)/\wr.drew.cell? ⟨u.b,4,O⟩=M (.int .i64 (d:Int))/\wr.drew.cell? ⟨w.heap.size,a,O⟩=M (.int .i64 k):=⟨bc,ch,b2⟩;refine sw (S:=fun w'=>w'.cell? ⟨c,0,O⟩=M (.slice (M ⟨w.heap.size,0,O⟩) n n)/\w'.cell? ⟨u.b,4,O⟩=M (.int .i64 (d:Int))/\w'.cell? ⟨w.heap.size,a,O⟩=M (.int .i64 k)) (by kernel_rfl) (by kernel_rfl) (fun ⟨_,_,h⟩=>h) c5 (fun hS=>?_);refine bG 0 (.slice (M ⟨w.heap.size,0,O⟩) n n) rfl rfl (by kernel_rfl) (fun _ _ _=>id) hS (fun w' ⟨y,z,A⟩=>by go_simp) ?_;simp only[U];refine bG 1 (.iface d7 (.pointer (M ⟨u.b,0,O⟩))) rfl rfl (by kernel_rfl) (fun _ _ _=>id) hS (fun w' ⟨y,z,A⟩=>by go_simp) ?_;simp only[U];refine bG 6 (.slice (M ⟨w.heap.size,0,O⟩) n n) rfl rfl (by kernel_rfl) (fun _ _ _=>id) hS (fun w' ⟨y,z,A⟩=>by go_simp) ?_;simp only[U];refine bG 7 (.int .i64 (a:Int)) rfl rfl (by kernel_rfl) (fun _ _ _=>id) hS (fun w' ⟨y,z,A⟩=>by go_simp) ?_;simp only[U];refine bG 8 (.pointer (M ⟨w.heap.size,a,O⟩)) rfl rfl (by kernel_rfl) (fun _ _ _=>id) hS (fun w' ⟨y,z,A⟩=>by go_simp) ?_;simp only[U];refine bG 9 (.int .i64 k) rfl rfl (by kernel_rfl) (fun _ _ _=>id) hS (fun w' ⟨y,z,A⟩=>by go_simp) ?_;simp only[U];refine bG 10 (.int .i64 (k+1)) rfl rfl (by kernel_rfl) (fun _ _ _=>id) hS (fun w' ⟨y,z,A⟩=>by go_simp) ?_;simp only[U];refine Cb (rs:=[2]) (by kernel_rfl) (by simp) (Bs rfl (fun ba ad=>?_) B4);go_simp;refine bv (da _ _) fun an cm=>?_;subst an;refine ad _ _ hS (fun hS=>?_);clear ad ba;try simp only[Act.put,aD,aE,aF]
    refine bG 3 (.pointer (M ⟨u.b,0,O⟩)) rfl rfl (by kernel_rfl) (fun _ _ _=>id) hS (fun w' ⟨y,z,A⟩=>by go_simp) ?_;simp only[U];refine bG 4 (.pointer (M ⟨u.b,4,O⟩)) rfl rfl (by kernel_rfl) (fun _ _ _=>id) hS (fun w' ⟨y,z,A⟩=>by go_simp) ?_;simp only[U];refine bG 5 (.int .i64 (d:Int)) rfl rfl (by kernel_rfl) (fun _ _ _=>id) hS (fun w' ⟨y,z,A⟩=>by go_simp) ?_;simp only[U];refine bG 11 (.pointer (M ⟨w.heap.size,d,O⟩)) rfl rfl (by kernel_rfl) (fun _ _ _=>id) hS (fun w' ⟨y,z,A⟩=>by go_simp) ?_;simp only[U];refine Cb (rs:=[12]) (by kernel_rfl) (by simp) (Bs rfl (fun ba ad=>?_) B4);go_simp;refine ad _ _ c6 (fun hS=>?_);clear ad ba;refine wpAnyH_done (by kernel_rfl) ?_ _
    gi_wp2
    exact⟨⟨r+1,_,by omega,by go_num,cx⟩,by simp[E0];omega⟩
   ·obtain rfl:r=am:=by omega
    have bn:B6 (Dt w c (.slice (M ⟨f,0,O⟩) n j) n v wr/\dpN s a v=Hc s/\KeepsFrom (c+2) b wr):=by
     refine⟨l.st,?_,l.kf⟩;have q:=l.rest;rw[jE (by rw[i.out.2.2.1];exact ag _),Ky]at q;rw[q];exact i.2.1
    clear l
    gi_wp2
    exact⟨bn.2.2,v,bn.1,bn.2.1⟩
 case seq=>
  intro a7 cF cI b5 c8 b c7;refine Ke 4 a7 (c+1) n j (M ⟨f,0,O⟩) _ q df cF cI (fun a b h=>?_) (fun a b h r a3=>?_) c8 b c7
  ·obtain⟨D,m,_⟩:=b5 a b h;exact dh m.bs
  ·obtain⟨D,m,_⟩:=b5 a b h;obtain⟨x,o⟩:=cy p.2.2.1 a3;refine⟨_,rfl,?_⟩;rw[uu,o];exact aj m.bl (p.1.at o)
 case ret=>intro b h;exact h.elim
 case done=>
  rintro b ⟨D,h,m⟩ b3;have b4:D=Hc s:=m;refine b6 _ _ ?_;have bc:=dh h.bx;have i:B6 (Dt w c (.slice (M ⟨f,0,O⟩) n j) n D b/\b.heap[c+2]?=M (.deferred (M []))):=⟨h,by rw[<-K];exact b3⟩;have bF:wI (iA D) (n-0) 0 bb:=⟨by rw[b4];exact p.2.2.2.1⟩;have ex:w.heap.size<c+2:=by omega
  rw[K];clear h m b3 b4 b6;go_wp2_with fail;go_loop [43] (fun F=>∃g:Nat,g<=n/\F= .int .i64 g/\wI (iA D) (n-g) g bb) (fun F=>n-(E0 F).toNat)
  case atStart=>exact⟨0,aL _,rfl,bF⟩
  case round=>
   obtain⟨g,e4,rfl,ap⟩:=hrel;clear bF;have t:=ap.out;by_cases d1:g<n
   ·have e5:(g:Int)<(n:Int):=by omega
    have e3:(0:Int)<=(g:Int):=by omega
    obtain⟨ao,C⟩:=cy i.1.ok.1 d1;have el:b.cell? ⟨w.heap.size,g,O⟩=M (.int .i64 ao):=by rw[i.out.1.row.cellAt g (by omega),ce,C];rfl
    rw[show n-g=(n-(g+1))+1 by omega,iq]at t;have bd:iA D g=decide (100<ao):=by unfold iA;rw[be,C];rfl
    rw[bd]at t;by_cases cn:100<ao
    ·rw[ab (bH cn)]at t;have a9:=aq t.symm;clear t bd C ap;go_wp2_with fail;refine⟨by simp,.inl ⟨_,_,rfl,run_takeDeferred i.2,?_⟩⟩;refine⟨_,results_tmp2 rfl _ _ _,by rw[a9.out];rfl,?_⟩;exact i.1.bl.grown (A5 b (c+2) (.deferred O)) i.1.bl.size (fun g e=>by cases e;omega)
    ·rw[aa (by simpa using cn)]at t;have cB:wI (iA D) (n-(g+1)) (g+1) bb:=⟨t⟩;clear t bd C ap;go_wp2_with fail;go_round
     case rel=>exact⟨g+1,by omega,by go_num,cB⟩
     case measure=>simp[E0];omega
   ·obtain rfl:g=n:=by omega
    rw[eC,iq]at t;have a9:=aq t.symm;clear t ap;go_wp2_with fail;refine⟨by simp,.inl ⟨_,_,rfl,run_takeDeferred i.2,?_⟩⟩;refine⟨_,results_tmp2 rfl _ _ _,by rw[a9.out];rfl,?_⟩;exact i.1.bl.grown (A5 b (c+2) (.deferred O)) i.1.bl.size (fun g e=>by cases e;omega)
attribute [local go_sem] lE
def Hr(S:List Int)(n:Nat):Option Nat->X
 |some i=> Fs #[C2 .i64 (i:Int),Er E2]
 |none=> Fs #[C2 .i64 ((n:Int)-1),Er (decide (S.getD (n-1) 0<(n:Int)))]
structure AG (w:Z) (B n:Nat) (S:List Int) (c:List Nat) (W:Z):Prop where
 bl:V w.heap.size w W
 r0:W.heap[w.heap.size]?=M (.cells #[.int .i64 0] 3 (0,0))
 r1:W.heap[w.heap.size+1]?=M (.cells #[.bool Ax] 4 (0,0))
 row:W.ownsRow w.heap.size 3 1 (.slice (M ⟨w.heap.size+1+1,0,O⟩) n n) n (S.map (B3 .i64)++A9 (n-S.length) (.int .i64 0))
 bx:W.heap[B]?=M (.cells #[.slice (M ⟨w.heap.size+1+1,0,O⟩) n n] 43 (0,0))
 mks:pj (w.heap.size+1+1+1) c W
theorem AG.below{c:List Nat}(h:AG w B n S c W)(a:V W.heap.size W W'):AG w B n S c W':=
 ⟨h.bl.trans (a.mono h.bl.size),(a.block _ (ai h.r0)).trans h.r0,(a.block _ (ai h.r1)).trans h.r1,cJ h.row a,(a.block _ (ai h.bx)).trans h.bx,h.mks.below a⟩
theorem AG.put{c:List Nat}(h:AG w B n S c W)(f:w.heap.size+1<B)(g:B<k)(b:W.heap[k]?=M (.loop r))(o:Obj):AG w B n S c (W.putObj k o):=
 ⟨h.bl.grown (A5 W k o) h.bl.size (fun i e=>by cases e;omega),(R (by omega)).trans h.r0,(R (by omega)).trans h.r1,ownsRow_putObj h.row o b rfl,(R (by omega)).trans h.bx,
  ⟨h.mks.nd,h.mks.lo,fun a d=>(R (by rintro rfl;have:=(h.mks.at_ a d).symm.trans b;cases this)).trans (h.mks.at_ a d)⟩⟩
structure Hs (w:Z) (B n:Nat) (S:List Int) (c:List Nat) (sz k:Nat) (kv:X) (a:Int) (W:Z):Prop where
 oo:AG w B n S c W
 b5:W.heap[sz]?=M (.cells #[.int .i64 (k:Int)] 3 (0,0))
 b7:W.heap[sz+1]?=M (.cells #[.int .i64 (a-1)] 3 (0,0))
 b8:W.heap[sz+1+1]?=M (.cells #[kv] 93 (0,0))
theorem Hs.put{c:List Nat}{b:Nat}{d:X}{a:Int}(h:Hs w B n S c b k d a W)(e:w.heap.size+1<B)(i:B<b){j:Nat}(g:b+1+1<j)(f:W.heap[j]?=M (.loop r))(o:Obj):Hs w B n S c b k d a (W.putObj j o):=
 ⟨h.oo.put e (by omega) f o,(R (by omega)).trans h.b5,(R (by omega)).trans h.b7,(R (by omega)).trans h.b8⟩
theorem wj{fn:Func}{p q:Tmp}{t u:G3}(h:fn.results=#[.cell p t,.cell q u])(tmps:Array X)(P:Program)(w:Z)(a b:Addr)(v c:X)(f:tmps.getD p Q= A0 (M a))(i:tmps.getD q Q= A0 (M b))
  (d:(loadVar t a).run P w= .ok v w) (e:(loadVar u b).run P w= .ok c w):(results fn tmps).run P w= .ok (Fs #[v,c]) w:=by
 have g:tmps[p]?.getD Q= A0 (M a):=by simpa using f
 have j:tmps[q]?.getD Q= A0 (M b):=by simpa using i
 simp only[results,h];simp[Fk,Result.andThen,g,j,asAddr,d,e]
theorem Kg(w:Z)(a:Addr)(z:Int)(h:w.cell? a=M (C2 .i64 z)):(loadVar 3 a).run Y w= .ok (C2 .i64 z) w:=by go_simp
theorem Fg(w:Z)(a:Addr)(z:Bool)(h:w.cell? a=M (Er z)):(loadVar 4 a).run Y w= .ok (Er z) w:=by go_simp
theorem ajI(a b:List Nd):∃t,iG (a++b)=iG a++t:=by
 refine Bj (p:=fun b=>∃t,iG (a++b)=iG a++t) ⟨[],by simp⟩ (fun d e ⟨t,c⟩=>?_) b;rw[<-dy,sC,c];exact⟨t++[_],dy _ _ _⟩
theorem Kh(h:ns[k]?=M N):iG (ns.take (k+1))=iG (ns.take k)++[sA (iG (ns.take k)) k N.ks]:=by
 have a:k<ns.length:=(List.getElem?_eq_some_iff.1 h).1;rw[iI,h];show iG (ns.take k++[N])=_;rw[sC,js,eD,uF (by omega)]
theorem amq(h:ns[k]?=M N):(iG ns).getD k 0=sA (iG (ns.take k)) k N.ks:=by
 have c:k<ns.length:=(List.getElem?_eq_some_iff.1 h).1;obtain⟨d,a⟩:=ajI (ns.take (k+1)) (ns.drop (k+1));rw[Fi,Kh h]at a;have b:(iG (ns.take k)).length=k:=by rw[js,eD,uF (by omega)]
 rw[a,be,dy,fL (by omega),b];simp
def ahf(c:List Im)(ks:List Int)(m:Nat):X:=match ks[m]? with
 |some d=>(match c[d.toNat]? with|some a=> G2 (jy (de a.N.k)) (A0 (M ⟨a.b,0,O⟩))|none=> F1)
 |none=> F1
theorem acn{ks:List Int}{m q:Nat}{a:Im}(c:ks[m]?=M (q:Int))(d:L[q]?=M a):ahf L ks m= G2 (jy (de a.N.k)) (A0 (M ⟨a.b,0,O⟩)):=by
 unfold ahf;rw[c];simp[d]
structure amr (w:Z) (c:List Nat) (k:Nat) (W:Z):Prop where
 bl:V w.heap.size w W
 r0:W.heap[w.heap.size]?=M (.cells #[.int .i64 (k:Int)] 3 (0,0))
 r1:W.heap[w.heap.size+1]?=M (.cells #[.bool E2] 4 (0,0))
 mks:pj (w.heap.size+1+1+1) c W
theorem Du(w:Z)(base:Nat)(c9:X)(ad:List Im)(a5:li w base c9 ad)(p:List Nd)(eg:ad.map Im.N=p)(n:Nat)(b2:ad.length=n)(hE:1<=n)(y:n<=3000)(eb:∀x∈ad,x.N.ks.length<=200):
  F2 Y 38 #[c9] w fun e w'=>e= .returned (Hr (iG p) n (iq (gx (iG p)) n 0))/\V w.heap.size w w':=by
 obtain⟨ak,ap,rfl⟩:∃ak k,c9= .slice (M ⟨ak,0,O⟩) n k:=by
  rcases bu a5.row with⟨h,_⟩|h
  ·omega
  ·rw[<-b2];exact h
 have hL:n<=ap:=by
  rcases a5.row.2 with⟨y,_⟩|⟨f5,fv,fz,y,_,_,f6,_⟩
  ·cases y
  ·cases y;omega
 obtain⟨g6,cb,g3,g4,g5⟩:=du sj;obtain⟨a8,b3⟩:=az (iq (gx (iG p)) n 0);rw[b3];have i:=Ig a5 eg b2 b3 eb;clear a5 eg b2 b3 eb;refine lF (n:=5).1 ?_;refine callsIn_of_wp_marks Tryz.func38 rfl trivial ?_ rfl;simp only[Tryz.ntmps38,gj,bB,dl,Nat.reduceAdd,Nat.reduceSub,gD,iw,ix,od,dt,ej];refine wpIn_wide.2 ?_;go_wp2_with (at_make;refine A8 _ rfl _ _ 43 rfl w.heap.size 3 g6 (.int .i64 0) 1 Tryz.underlying43 cb g3 g4 .i64 .i64 _ _ n rfl rfl rfl rfl (by rw[g5];omega) (by unfold G0;omega) (by simp;omega) ?_;intro ao bd a6);rename_i hc f9;have a9:V ((w.alloc (.cells #[.int .i64 0] 3)).alloc (.cells #[.bool Ax] 4)).heap.size ((w.alloc (.cells #[.int .i64 0] 3)).alloc (.cells #[.bool Ax] 4)) ao:=⟨a6.os,a6.tape,a6.output,a6.size,fun a d9=>a6.block a d9 (by simp)⟩;rw[show(madeCells (B3 .i64 0).cells (n*1)).toList=A9 n (B3 .i64 0) by rw[sh];exact AI _ n]at bd;simp only[cD]at bd a9;have gz:w.heap.size+1+1<ao.heap.size:=(bd.lt _ rfl).2;have bD:AG w ao.heap.size n [] [] (ao.alloc (.cells #[.slice (M ⟨w.heap.size+1+1,0,O⟩) n n] 43)):=by
  refine⟨?_,?_,?_,?_,aA ao _,⟨uD,fun l hb=>by simp at hb,fun l hb=>by simp at hb⟩⟩
  ·exact((((ah _ w).alloc (ag _) _).alloc (by simp) _).trans (a9.mono (by omega))).alloc (by omega) _
  ·exact(dg _ _ _ (by omega)).trans ((a9.block _ (by omega)).trans ((dg _ _ _ (by simp)).trans (aA w _)))
  ·refine(dg _ _ _ (by omega)).trans ((a9.block _ (by omega)).trans ?_);have:=aA (w.alloc (.cells #[.int .i64 0] 3)) (.cells #[.bool Ax] 4);rw[cD]at this;exact this
  ·exact bd.alloc _
 obtain⟨r,dz⟩:=az ao.heap.size;have d0:r<(ao.alloc (.cells #[.slice (M ⟨w.heap.size+1+1,0,O⟩) n n] 43)).heap.size:=by simp;omega
 rw[dz]at bD gz⊢;generalize ao.alloc (.cells #[.slice (M ⟨w.heap.size+1+1,0,O⟩) n n] 43)=fu at bD d0⊢;clear bd a6 a9 dz;have dk:B6 (AG w r n (iG (p.take 0)) [] fu/\iq (gx (iG p)) (n-0) 0=a8/\∀(H:Nat) q,(iG (p.take 0))[H]?=M q->1<=q):=⟨bD,i.2.2.2.1,fun H q h=>by simp[iG]at h⟩;clear bD;refine(qc (n:=5)).1 (wpIn_loop (fun al d=>∃(a:Nat) (k:List Nat),a<=n/\r<d.heap.size/\B6 (AG w r n (iG (p.take a)) k d/\iq (gx (iG p)) (n-a) a=a8/\∀(H:Nat) q,(iG (p.take a))[H]?=M q->1<=q)/\
  ∃fc fd ff et ev ex e0 e3 e4 e5 e6 e8 e9 fa fb cx cF cI c0 c4 c6 c8:X,al={tmps:=#[.slice (M ⟨ak,0,O⟩) n ap,Q,.pointer (M ⟨w.heap.size,0,O⟩),.pointer (M ⟨w.heap.size+1,0,O⟩),.pointer (M ⟨r,0,O⟩),fc,fd,ff,Q,Q,Q,.slice (M ⟨ak,0,O⟩) n ap,.int .i64 (n:Int),.slice (M ⟨w.heap.size+1+1,0,O⟩) n n,.slice (M ⟨ak,0,O⟩) n ap,.int .i64 (n:Int),.int .i64 (a:Int),et,ev,ex,e0,e3,e4,e5,e6,e8,e9,fa,fb,Q,Q,Q,Q,Q,Q,Q,Q,Q,Q,Q,Q,Q,Q,Q,Q,cx,cF,cI,c0,c4,c6,c8,Q,Q,Q,Q,Q,Q,Q,Q,Q,Q,Q],defers:=k.map zk}) (fun al _=>n-(E0 (al.tmps.getD 16 Q)).toNat) ?start ?round)
 case start=>exact⟨0,[],aL _,d0,dk,Q,Q,Q,Q,Q,Q,Q,Q,Q,Q,Q,Q,Q,Q,Q,Q,Q,Q,Q,Q,Q,Q,rfl⟩
 case round=>
  rintro al d ⟨a,k,d9,b1,m,fc,fd,ff,et,ev,ex,e0,e3,e4,e5,e6,e8,e9,fa,fb,cx,cF,cI,c0,c4,c6,c8,rfl⟩;clear dk;refine wpIn_wide.2 ?_;by_cases ec:a<n
  ·have h3:(a:Int)<(n:Int):=by omega
   have gr:(0:Int)<=(a:Int):=by omega
   obtain⟨x,a2⟩:=cy i.2.2.1 ec;have d7:=aj m.1.bl (i.1.at a2);have b9:=aj m.1.bl (i.1.box a x a2).cells.2.2.2.2.1;have G:=i.1.kid a x a2;obtain⟨v,C,bw⟩:=zy G;have gs:=i.2.2.2.2 x (cH a2);obtain⟨A,cc⟩:=az x.N.ks.length;rw[bw]at b9;rw[cc]at b9 gs bw;have s:=lD a2 bw cc;have bc:=fun w=>rB x.N.k x.b w;have g0:x.b<d.heap.size:=fD (ai (i.1.box a x a2)) m.1.bl.size;generalize jy (de x.N.k)=cw at bc d7;clear a2 G bw cc;go_wp2_with (first|(go_at_call 336;refine(da _ _).mono ?_;rintro e bo ⟨rfl,ek⟩;subst bo)|(go_at_call 110;refine(yz v A C _).mono ?_;rintro e ha ⟨rfl,a1⟩;subst ha));rename_i he d2;obtain⟨S,hS⟩:=az (iG (p.take a));obtain⟨af,b4⟩:=az (Co S x.N.ks.reverse (a:Int));rw[hS]at m;obtain⟨g,bh⟩:=az d.heap.size;have bf:Hs w r n S k g a (.slice v A C) (a:Int) (((d.alloc (.cells #[.int .i64 (a:Int)] 3)).alloc (.cells #[.int .i64 ((a:Int)-1)] 3)).alloc (.cells #[.slice v A C] 93)):=by
    refine⟨m.1.below ((((ah _ d).alloc (ag _) _).alloc (by simp) _).alloc (by simp;omega) _),?_,?_,?_⟩
    ·exact(dg _ _ _ (by simp;omega)).trans ((dg _ _ _ (by simp;omega)).trans (by rw[<-bh];exact aA d _))
    ·refine(dg _ _ _ (by simp;omega)).trans ?_;have:=aA (d.alloc (.cells #[.int .i64 (a:Int)] 3)) (.cells #[.int .i64 ((a:Int)-1)] 3);rw[cD,bh]at this;exact this
    ·have:=aA ((d.alloc (.cells #[.int .i64 (a:Int)] 3)).alloc (.cells #[.int .i64 ((a:Int)-1)] 3)) (.cells #[.slice v A C] 93);rw[cD,cD,bh]at this;exact this
   have a3:(((d.alloc (.cells #[.int .i64 (a:Int)] 3)).alloc (.cells #[.int .i64 ((a:Int)-1)] 3)).alloc (.cells #[.slice v A C] 93)).heap.size=g+1+1+1:=by simp;omega
   rw[bh]at b1 g0⊢;generalize ((d.alloc (.cells #[.int .i64 (a:Int)] 3)).alloc (.cells #[.int .i64 ((a:Int)-1)] 3)).alloc (.cells #[.slice v A C] 93)=hg at bf a3⊢;have d6:∀l∈k,l<g:=fun l hb=>by rw[<-bh];exact(Array.getElem?_eq_some_iff.1 (m.1.mks.at_ l hb)).1
   have eh:p[a]?=M x.N:=by rw[<-i.out.2.1,ce,s.out.1];rfl
   have ba:(iG p).getD a 0=sA S a x.N.ks:=by rw[amq eh,hS]
   clear d7 b9 bc;refine(qc (n:=5)).1 ?_;refine uK (P:=Y) (gf:=189) (lb:=#[.pointer (M ⟨g+1+1,0,O⟩)]) rfl (enters_of Tryz.func189 (by kernel_rfl) rfl)
    (fun c=>#[.int .i64 (c:Int),ahf ad x.N.ks c]) (fun _=>rfl) A
    (fun c d=>∃b:Int,Hs w r n S k g a (.slice v A C) b d/\0<=b/\b<=(a:Int)/\Co S (x.N.ks.take c).reverse b=af)
    (fun c al d=>(∃b:Int,Hs w r n S k g a (.slice v A C) b d/\0<=b/\b<=(a:Int)/\Co S (x.N.ks.take (c+1)).reverse b=af)/\al={tmps:=#[.slice (M ⟨ak,0,O⟩) n ap,Q,.pointer (M ⟨w.heap.size,0,O⟩),.pointer (M ⟨w.heap.size+1,0,O⟩),.pointer (M ⟨r,0,O⟩),.pointer (M ⟨g,0,O⟩),.iface cw (.pointer (M ⟨x.b,0,O⟩)),.pointer (M ⟨g+1,0,O⟩),Q,ahf ad x.N.ks c,Q,.slice (M ⟨ak,0,O⟩) n ap,.int .i64 (n:Int),.slice (M ⟨w.heap.size+1+1,0,O⟩) n n,.slice (M ⟨ak,0,O⟩) n ap,.int .i64 (n:Int),.int .i64 (a:Int),.bool E2,.int .i64 (a:Int),.pointer (M ⟨ak,a,O⟩),.iface cw (.pointer (M ⟨x.b,0,O⟩)),.int .i64 (a:Int),.int .i64 ((a:Int)-1),.iface cw (.pointer (M ⟨x.b,0,O⟩)),.pointer (M ⟨x.b,0,O⟩),.pointer (M ⟨x.b,0,O⟩),.pointer (M ⟨x.b,5,O⟩),.slice v A C,.func (.func 189) #[] #[.pointer (M ⟨g+1+1,0,O⟩)],.int .i64 (c:Int),ahf ad x.N.ks c,Q,Q,Q,Q,Q,Q,Q,Q,Q,Q,Q,Q,Q,Q,cx,cF,cI,c0,c4,c6,c8,Q,Q,Q,Q,Q,Q,Q,Q,Q,Q,Q],defers:=[]})
    (fun d=>amr w k a d/\af=O)
    ?pZ ?pAx ?pX ?h0 ?assign ?body ?seq ?done ?ret
   case pZ=>
    rintro c d eq bn ⟨b,h,L⟩ am;rw[a3]at am⊢;exact⟨b,h.put (by omega) b1 (by omega) am bn,L⟩
   case pAx=>
    rintro c al d eq bn ⟨⟨b,h,L⟩,rfl⟩ am;rw[a3]at am⊢;exact⟨⟨b,h.put (by omega) b1 (by omega) am bn,L⟩,rfl⟩
   case pX=>
    rintro d eq bn ⟨h,ch⟩ am;rw[a3]at am⊢;exact⟨⟨h.bl.grown (A5 d _ bn) h.bl.size (fun H e=>by cases e;omega),(R (by omega)).trans h.r0,(R (by omega)).trans h.r1,
     ⟨h.mks.nd,h.mks.lo,fun l t=>(R (by rintro rfl;have:=(h.mks.at_ _ t).symm.trans am;cases this)).trans (h.mks.at_ l t)⟩⟩,ch⟩
   case h0=>
    intro hf hb h9;refine⟨(a:Int),⟨bf.oo.below hb,(hb.block _ (by omega)).trans bf.b5,(hb.block _ (by omega)).trans bf.b7,(hb.block _ (by omega)).trans bf.b8⟩,gr,Int.le_refl _,?_⟩;rw[cA (by rw[s.out.2.2];exact ag _)];exact b4
   case assign=>
    rintro cn c d bs t ⟨b,h,L⟩ ar;have fg:B6 (∃b:Int,Hs w r n S k g a (.slice v A C) b d/\0<=b/\b<=(a:Int)/\Co S (x.N.ks.take (c+1)).reverse b=af):=⟨b,h,L⟩;clear h L
    gi_wp2
    exact ar _ _ ⟨fg,rfl⟩ (KeepsFrom.refl _ _)
   case seq=>
    intro cn fq fr d1 ge d gd;have gt:A<=C:=by
     have G:=i.1.kid a x s.1;rw[s.out.2.1,s.out.2.2]at G;rcases G.2 with⟨y,ds⟩|⟨f5,fv,fz,y,_,_,f6,_⟩
     ·omega
     ·cases y;omega
    refine Ke 4 cn (g+1+1) A C v _ (by omega) gt fq fr (fun c d h=>?_) (fun c d h H a0=>?_) ge d gd
    ·obtain⟨b,L,_⟩:=d1 c d h;exact dh L.b8
    ·obtain⟨b,L,_⟩:=d1 c d h;obtain⟨q,E⟩:=cy s.2.2 a0;obtain⟨gk,ba⟩:∃gk,v=M ⟨gk,0,O⟩:=by
      have G:=i.1.kid a x s.1;rw[s.out.2.1]at G;rcases bu G with⟨h,_⟩|⟨gk,k,h⟩
      ·rw[s.out.2.2]at h;omega
      ·cases h;exact⟨_,rfl⟩
     obtain⟨f,B,rfl,ei,bk,bt⟩:=i.1.kidAt s.1 (by rw[s.out.2.1,ba]) E;refine⟨_,ba,?_⟩;rw[uu,acn E bk];exact aj L.oo.bl bt
   case body=>
    rintro cn c al j t ⟨⟨b,h,gm,gn,z⟩,rfl⟩;rw[a3];obtain⟨q,E⟩:=cy s.2.2 t;obtain⟨gk,gp⟩:∃gk,v=M ⟨gk,0,O⟩:=by
     have G:=i.1.kid a x s.1;rw[s.out.2.1]at G;rcases bu G with⟨h,_⟩|⟨gk,k,h⟩
     ·rw[s.out.2.2]at h;omega
     ·cases h;exact⟨_,rfl⟩
    obtain⟨f,B,rfl,ei,bk,bt⟩:=i.1.kidAt s.1 (by rw[s.out.2.1,gp]) E;rw[acn E bk];have gu:=aj h.oo.bl (i.1.box f B bk).cells.2.2.2.1;have il:=ai (i.1.box f B bk);have F:S.length=a:=by rw[<-hS,js,eD,<-i.out.2.1,cj,i.out.2.2.1];omega
    obtain⟨u,a7⟩:=cy F ei;have ih:=m.2.2 f u a7;have ii:u<=(f:Int)+1:=by
     have gv:Cp S:=by
      rw[<-hS];refine zi _ (fun N a5 q E=>?_);obtain⟨cm,cb,e⟩:=ie (Bb a5);have bb:(ad.map Im.N)[cm]?=M N:=by rw[i.out.2.1,aJ cb,e]
      rw[ce]at bb;cases hLi:ad[cm]? with
      |none=>rw[hLi]at bb;cases bb
      |some g9=>
       rw[hLi]at bb;obtain rfl:=bp bb;exact(i.1.rng cm g9 q hLi E).1
     exact(gv f u a7).2
    have ca:S.getD f 0=u:=by rw[be,a7];rfl
    have a1:(if(f:Int)=b-1/\u≠0 then Co S (x.N.ks.take c).reverse (b-u) else O)=af:=by
     rw[iI,E,Fy,List.reverse_append]at z;show _=af;rw[<-z];show _=Co S ((f:Int)::(x.N.ks.take c).reverse) b;rw[Co,lG,ca]
    have hp:=dh h.b5;have b0:=dh h.b7;have dn:=dh h.oo.bx;have an:=h.oo.row;have fx:j.cell? ⟨w.heap.size+1+1,f,O⟩=M (.int .i64 u):=by
     rw[an.cellAt f (by omega),iu (by simp;omega),ce,a7];rfl
    have cs:=dh h.oo.r0;have ct:=dh h.oo.r1;have f2:j.frozen? ⟨w.heap.size,0,O⟩=Ax:=co _ _ _ _ _ h.oo.r0;have f3:j.frozen? ⟨w.heap.size+1,0,O⟩=Ax:=co _ _ _ _ _ h.oo.r1;have f4:j.frozen? ⟨g+1,0,O⟩=Ax:=co _ _ _ _ _ h.b7;have bc:=fun w=>rB B.N.k B.b w;have o:j.drew.cell? ⟨g+1,0,O⟩=M (.int .i64 (b-1))/\j.drew.cell? ⟨B.b,4,O⟩=M (.int .i64 (f:Int)):=⟨b0,gu⟩;have df:=aq h;generalize jy (de B.N.k)=es at bc⊢;by_cases bA:(f:Int)=b-1
    ·rw[ab ⟨bA,by omega⟩]at a1;have br:=aq a1;clear a1 z E bt h a7 ca F an;have fF:b=(f:Int)+1:=by omega
     subst fF;have dq:(f:Int)+1-1=(f:Int):=by omega
     rw[dq]at b0 o;clear bA dq;have h8:(f:Int)<(n:Int):=by omega
     have h7:(0:Int)<=(f:Int):=by omega
     gi_wp2
     refine sw (S:=fun w'=>w'.cell? ⟨g+1,0,O⟩=M (.int .i64 (f:Int))/\w'.cell? ⟨B.b,4,O⟩=M (.int .i64 (f:Int))) (by kernel_rfl) (by kernel_rfl) (fun ⟨_,_,h⟩=>h) o (fun o=>?_);refine bG 0 (.iface es (.pointer (M ⟨B.b,0,O⟩))) rfl rfl (by kernel_rfl) (fun _ _ _=>id) o (fun w' ⟨I,J⟩=>by go_simp) ?_;simp only[U];refine bG 5 (.int .i64 (f:Int)) rfl rfl (by kernel_rfl) (fun _ _ _=>id) o (fun w' ⟨I,J⟩=>by go_simp) ?_;simp only[U];refine Cb (rs:=[1]) (by kernel_rfl) (by simp) (Bs rfl (fun bs ar=>?_) B4);go_simp;refine bv (da _ _) fun bo ek=>?_;subst bo;refine ar _ _ o (fun o=>?_);clear ar bs;try simp only[Act.put,aD,aE,aF]
     refine bG 2 (.pointer (M ⟨B.b,0,O⟩)) rfl rfl (by kernel_rfl) (fun _ _ _=>id) o (fun w' ⟨I,J⟩=>by go_simp) ?_;simp only[U];refine bG 3 (.pointer (M ⟨B.b,4,O⟩)) rfl rfl (by kernel_rfl) (fun _ _ _=>id) o (fun w' ⟨I,J⟩=>by go_simp) ?_;simp only[U];refine bG 4 (.int .i64 (f:Int)) rfl rfl (by kernel_rfl) (fun _ _ _=>id) o (fun w' ⟨I,J⟩=>by go_simp) ?_;simp only[U];refine bG 6 (.bool Ax) rfl rfl (by kernel_rfl) (fun _ _ _=>id) o (fun w' ⟨I,J⟩=>by go_simp) ?_;simp only[U];refine wpAnyH_done (by kernel_rfl) ?_ _
     gi_wp2
     have hH:j.drew.cell? ⟨g+1,0,O⟩=M (.int .i64 (f:Int))/\j.drew.cell? ⟨w.heap.size+1+1,f,O⟩=M (.int .i64 u)/\j.drew.cell? ⟨r,0,O⟩=M (.slice (M ⟨w.heap.size+1+1,0,O⟩) n n)/\j.drew.frozen? ⟨g+1,0,O⟩=Ax:=⟨b0,fx,dn,f4⟩;have ik:IntKind.i64.wrap ((f:Int)-u)=(f:Int)-u:=by rw[ed];omega
     have K:=df.out;have h5:g+1≠w.heap.size+1+1:=by omega
     have d8:Hs w r n S k g a (.slice v A C) ((f:Int)+1-u) (j.setCell ⟨g+1,0,O⟩ (.int .i64 ((f:Int)-u))).drew.drew:=by
      have fB:(f:Int)+1-u-1=(f:Int)-u:=by omega
      refine⟨⟨(K.oo.bl.setCell (by simp;omega) _).drew.drew,(aB _ _ _ _ (by simp;omega)).trans K.oo.r0,(aB _ _ _ _ (by simp;omega)).trans K.oo.r1,?_,(aB _ _ _ _ (by simp;omega)).trans K.oo.bx,(K.oo.mks.keeps (T _ _ _)).keeps ((KeepsOthers.drew _).trans (KeepsOthers.drew _))⟩,(aB _ _ _ _ (by simp)).trans K.b5,?_,(aB _ _ _ _ (by simp)).trans K.b8⟩
      ·exact(show(j.setCell ⟨g+1,0,O⟩ (.int .i64 ((f:Int)-u))).ownsRow _ _ _ _ _ _ from K.oo.row.kept (grownBy_setCell' j (g+1) _) (.inr (by simp[Br];omega)))
      ·rw[fB];exact bz _ _ 0 _ _ _ K.b7
     have fo:B6 (ae6 (g+1+1+1) j (fun d=>∃b:Int,Hs w r n S k g a (.slice v A C) b d/\0<=b/\b<=(a:Int)/\Co S (x.N.ks.take c).reverse b=af) (fun d=>amr w k a d/\af=O) .normal {tmps:=#[],defers:=[]} (j.setCell ⟨g+1,0,O⟩ (.int .i64 ((f:Int)-u))).drew.drew):=
      ⟨(((T _ _ _).trans (KeepsOthers.drew _)).trans (KeepsOthers.drew _)).from _,_,d8,by omega,by omega,br⟩
     clear df br s i m bc o K d8
     gi_region
     all_goals exact fo
    ·rw[aa (fun e=>bA e.1)]at a1;have br:=aq a1;have d5:amr w k a ((j.drew.setCell ⟨w.heap.size,0,O⟩ (.int .i64 (a:Int))).setCell ⟨w.heap.size+1,0,O⟩ (.bool E2)):=
      ⟨((h.oo.bl.drew.setCell (by simp) _).setCell (by simp) _),(aB _ _ _ _ (by simp)).trans (bz _ _ 0 _ _ _ h.oo.r0),bz _ _ 0 _ _ _ ((aB _ _ _ _ (by simp)).trans h.oo.r1),
       ((h.oo.mks.keeps (KeepsOthers.drew j)).keeps (T _ _ _)).keeps (T _ _ _)⟩
     have fn:=aq d5;have hv:((f:Int)==b-1)=Ax:=by rw[cG];exact bA
     clear a1 z E bt h a7 ca F an d5
     gi_wp2
     refine sw (S:=fun w'=>w'.cell? ⟨g+1,0,O⟩=M (.int .i64 (b-1))/\w'.cell? ⟨B.b,4,O⟩=M (.int .i64 (f:Int))) (by kernel_rfl) (by kernel_rfl) (fun ⟨_,_,h⟩=>h) o (fun o=>?_);refine bG 0 (.iface es (.pointer (M ⟨B.b,0,O⟩))) rfl rfl (by kernel_rfl) (fun _ _ _=>id) o (fun w' ⟨I,J⟩=>by go_simp) ?_;simp only[U];refine bG 5 (.int .i64 (b-1)) rfl rfl (by kernel_rfl) (fun _ _ _=>id) o (fun w' ⟨I,J⟩=>by go_simp) ?_;simp only[U];refine Cb (rs:=[1]) (by kernel_rfl) (by simp) (Bs rfl (fun bs ar=>?_) B4);go_simp;refine bv (da _ _) fun bo ek=>?_;subst bo;refine ar _ _ o (fun o=>?_);clear ar bs;try simp only[Act.put,aD,aE,aF]
     refine bG 2 (.pointer (M ⟨B.b,0,O⟩)) rfl rfl (by kernel_rfl) (fun _ _ _=>id) o (fun w' ⟨I,J⟩=>by go_simp) ?_;simp only[U];refine bG 3 (.pointer (M ⟨B.b,4,O⟩)) rfl rfl (by kernel_rfl) (fun _ _ _=>id) o (fun w' ⟨I,J⟩=>by go_simp) ?_;simp only[U];refine bG 4 (.int .i64 (f:Int)) rfl rfl (by kernel_rfl) (fun _ _ _=>id) o (fun w' ⟨I,J⟩=>by go_simp) ?_;simp only[U];refine bG 6 (.bool E2) rfl rfl (by kernel_rfl) (fun _ _ _=>id) o (fun w' ⟨I,J⟩=>by go_simp) ?_;simp only[U];refine wpAnyH_done (by kernel_rfl) ?_ _
     gi_wp2
     exact⟨(((KeepsOthers.drew j).from _).trans ((T _ _ _).from _)).trans ((T _ _ _).from _),fn,br.out.symm⟩
   case ret=>
    rintro j ⟨h,ch⟩ a4;rw[a3]at a4⊢;have gb:a8=M a:=by
     have y:=m.2.1;rw[show n-a=(n-(a+1))+1 by omega,iq,ab]at y
     ·exact y.symm
     ·unfold gx;rw[ba];unfold sA;rw[b4,ch];rfl
    show LeavesInM _ _ _ _ _ _ (((g+1+1+1)::k).map zk) .returning j;refine ou (w.heap.size+1+1+1) _ j ⟨List.nodup_cons.2 ⟨fun t=>by have:=d6 _ t;omega,h.mks.nd⟩,fun l hb=>?_,fun l hb=>?_⟩ (fun bF z=>?_)
    ·rcases List.mem_cons.1 hb with rfl|hb
     ·omega
     ·exact h.mks.lo l hb
    ·rcases List.mem_cons.1 hb with rfl|hb
     ·exact a4
     ·exact h.mks.at_ l hb
    ·have cf:∀l∈(g+1+1+1)::k,w.heap.size+1+1+1<=l:=fun l hb=>by
      rcases List.mem_cons.1 hb with rfl|hb
      ·omega
      ·exact h.mks.lo l hb
     have cs:=(z.same w.heap.size (fun t=>by have:=cf _ t;omega)).trans h.r0;have ct:=(z.same (w.heap.size+1) (fun t=>by have:=cf _ t;omega)).trans h.r1;refine⟨_,wj rfl _ _ _ ⟨w.heap.size,0,O⟩ ⟨w.heap.size+1,0,O⟩ _ _ rfl rfl (Kg _ _ _ (dh cs)) (Fg _ _ _ (dh ct)),?_,z.below h.bl (fun l hb=>by have:=cf l hb;omega) (ag _)⟩;rw[gb];rfl
   case done=>
    rintro j ⟨b,h,gm,gn,z⟩ a4;rw[a3]at a4⊢;have d3:af=M b:=by rw[<-z];rfl
    have cl:sA S a x.N.ks=(a:Int)-(b-1):=by unfold sA;rw[b4,d3];show(a:Int)-b+1=_;omega
    have F:S.length=a:=by rw[<-hS,js,eD,<-i.out.2.1,cj,i.out.2.2.1];omega
    have an:=h.oo.row;have ht:j.cell? ⟨w.heap.size+1+1,a,O⟩=M (.int .i64 0):=by
     rw[an.cellAt a (by omega),fL (by simp;omega),cj,F,eC,Fq,ab (by omega)]
    have hC:=an.frozenAt a;have cr:=(an.stored a (.int .i64 ((a:Int)-(b-1)))).1;rw[F,EB S n a ((a:Int)-(b-1)) F ec]at cr;have b6:iG (p.take (a+1))=S++[(a:Int)-(b-1)]:=by rw[Kh eh,hS,cl]
    have ef:pj (w.heap.size+1+1+1) ((g+1+1+1)::k) j:=⟨List.nodup_cons.2 ⟨fun t=>by have:=d6 _ t;omega,h.oo.mks.nd⟩,fun l hb=>by
      rcases List.mem_cons.1 hb with rfl|hb
      ·omega
      ·exact h.oo.mks.lo l hb,fun l hb=>by
      rcases List.mem_cons.1 hb with rfl|hb
      ·exact a4
      ·exact h.oo.mks.at_ l hb⟩
    have cg:AG w r n (S++[(a:Int)-(b-1)]) ((g+1+1+1)::k) (j.setCell ⟨w.heap.size+1+1,a,O⟩ (.int .i64 ((a:Int)-(b-1)))):=
     ⟨h.oo.bl.setCell (by simp;omega) _,(aB _ _ _ _ (by simp;omega)).trans h.oo.r0,(aB _ _ _ _ (by simp)).trans h.oo.r1,by rw[aK,F];exact cr,(aB _ _ _ _ (by simp;omega)).trans h.oo.bx,ef.keeps (T _ _ _)⟩
    have fm:B6 (AG w r n (iG (p.take (a+1))) ((g+1+1+1)::k) (j.setCell ⟨w.heap.size+1+1,a,O⟩ (.int .i64 ((a:Int)-(b-1))))/\iq (gx (iG p)) (n-(a+1)) (a+1)=a8/\∀(H:Nat) q,(iG (p.take (a+1)))[H]?=M q->1<=q):=by
     refine⟨by rw[b6];exact cg,?_,fun H q a0=>?_⟩
     ·have y:=m.2.1;rw[show n-a=(n-(a+1))+1 by omega,iq,aa]at y
      ·exact y
      ·unfold gx;rw[ba,cl];simp;omega
     ·rw[b6]at a0;rcases bj H a with g1|g1
      ·rw[iu (by omega)]at a0;exact m.2.2 H q a0
      ·rw[fL (by omega)]at a0;obtain⟨y,ds⟩:=List.getElem?_eq_some_iff.1 a0;simp at y ds;omega
    have hh:=dh h.oo.bx;have hn:=dh h.b5;have ho:=dh h.b7;have f8:r<(j.setCell ⟨w.heap.size+1+1,a,O⟩ (.int .i64 ((a:Int)-(b-1)))).heap.size:=ai cg.bx;have hG:((a:Int)-(b-1))<=3001/\1<=((a:Int)-(b-1)):=by omega
    refine d2 _ _ ?_;clear d3 cl F an cr b6 ef cg h z a4 d2 f9 m;go_wp2_with fail;exact⟨⟨a+1,(g+1+1+1)::k,by omega,f8,fm,_,_,_,_,_,_,_,_,_,_,_,_,_,_,_,_,_,_,_,_,_,_,rfl⟩,by simp[E0];omega⟩
  ·obtain rfl:a=n:=by omega
   have h6:¬(a:Int)<(a:Int):=by omega
   obtain⟨c,rfl⟩:∃c,a=c+1:=⟨a-1,by omega⟩;have hS:iG (p.take (c+1))=iG p:=by rw[cA (by rw[<-i.out.2.1,cj,i.out.2.2.1];exact ag _)]
   rw[hS]at m;have F:(iG p).length=c+1:=by rw[js,<-i.out.2.1,cj,i.out.2.2.1]
   obtain⟨q,E⟩:=cy F (show c<c+1 by omega);have d4:a8=O:=by have:=m.2.1;rw[eC,iq]at this;exact this.symm
   have el:(iG p).getD c 0=q:=by rw[be,E];rfl
   have bE:=lD m.1 d4 el;have hu:d.cell? ⟨w.heap.size+1+1,c,O⟩=M (.int .i64 q):=by
    rw[m.out.1.row.cellAt c (by omega),iu (by simp;omega),ce,E];rfl
   have dn:=dh m.1.bx;have cs:=dh m.1.r0;have ct:=dh m.1.r1;have f2:d.frozen? ⟨w.heap.size,0,O⟩=Ax:=co _ _ _ _ _ m.1.r0;have f3:d.frozen? ⟨w.heap.size+1,0,O⟩=Ax:=co _ _ _ _ _ m.1.r1;have hA:(c:Int)+1-1=(c:Int):=by omega
   have ir:(0:Int)<=(c:Int):=by omega
   have iy:(c:Int)<(c:Int)+1:=by omega
   clear E el d4 hS m i;go_wp2_with fail;have i1:w.heap.size≠r:=by omega
   have i2:w.heap.size+1≠r:=by omega
   have i3:w.heap.size≠w.heap.size+1+1:=by omega
   have i4:w.heap.size+1≠w.heap.size+1+1:=by omega
   go_region_held3 (fun w'=>w'.cell? ⟨r,0,O⟩=M (.slice (M ⟨w.heap.size+1+1,0,O⟩) (c+1) (c+1))/\w'.cell? ⟨w.heap.size+1+1,c,O⟩=M (.int .i64 q)) (go_keep) (fail)
   all_goals go_wp2_with fail
   have h:=bE.1;show LeavesInM _ _ _ _ _ _ (k.map zk) .returning _;refine ou (w.heap.size+1+1+1) k _ (((h.mks.keeps (T _ _ _)).keeps (T _ _ _)).keeps (KeepsOthers.drew _)) (fun bF z=>?_);have g7:bF.heap[w.heap.size]?=M (.cells #[.int .i64 (c:Int)] 3 (0,0)):=(z.same _ (fun t=>by have:=h.mks.lo _ t;omega)).trans ((aB _ _ _ _ (by simp)).trans (bz _ _ 0 _ _ _ h.r0));have g8:bF.heap[w.heap.size+1]?=M (.cells #[.bool (decide (q<(c:Int)+1))] 4 (0,0)):=(z.same _ (fun t=>by have:=h.mks.lo _ t;omega)).trans (bz _ _ 0 _ _ _ ((aB _ _ _ _ (by simp)).trans h.r1));refine⟨_,wj rfl _ _ _ ⟨w.heap.size,0,O⟩ ⟨w.heap.size+1,0,O⟩ _ _ rfl rfl (Kg _ _ _ (dh g7)) (Fg _ _ _ (dh g8)),?_,z.below (((h.bl.setCell (by simp) _).setCell (by simp) _).drew) (fun l hb=>by have:=h.mks.lo l hb;omega) (ag _)⟩;have fA:((c+1:Nat):Int)=(c:Int)+1:=by omega
   rw[bE.out.2.1];simp only[Hr,mI,bE.out.2.2,fA,Int.add_sub_cancel]
