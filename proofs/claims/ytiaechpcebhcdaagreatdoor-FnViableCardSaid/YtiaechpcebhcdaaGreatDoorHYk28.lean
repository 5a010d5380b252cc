import Derived.Test.YtiaechpcebhcdaaGreatDoorHYk26
set_option linter.all false
set_option maxRecDepth 100000
set_option maxHeartbeats 12800000
open Go.Proofs.Tryz
open Go renaming undef->M,wpAnyH_ready->A9,grownBy_putObj'->B5,World->B7,KeepsFrom->Ck,Value->Ed
open Go.Value renaming pointer->N,int->Y,string->A2,slice->Br,bool->B6,agg->Ce,ownBlock->D3
open Go.IntKind renaming i64->T
open Option renaming some->Ax,none->A0
open Go.AllReadyH renaming cons->A3,nil->A6
open List renaming set->A5,length->D4
open Go.World renaming setCell->B0,putObj_heap_other->B3
open Go.RowKit renaming Below->B1
open Go.Obj renaming cells->B2
open Bool renaming false->B4,true->C2
namespace Go.Proofs.YtiaechpcebhcdaaGreatDoor
open Go.RowKit Go.Maps Go.WideMaps
def Sm(E:Pe)(i:Nat)(x:Fo)(k:Nat)(X:Fo)(j:Nat):Prop:=((E.tk k).k≠46/\(E.tk k).k≠47/\k<E.n/\j=k/\X=one (lj 6 (E.tk i) (E.tk (k-1)).t) x)\/
 ∃b Ex a c,((E.tk k).k=46\/(E.tk k).k=47)/\Ls E (CB E) c k b a/\(E.tk a).k=47/\a<E.n/\CLx E (a+1) Ex j/\k<E.n/\j<=E.n/\X=one (nd 5 (E.tk i) (E.tk (j-1)).t 0 ((x.app b).len:Nat) z0 []) ((x.app b).app Ex)
section
variable {W V w : World}
def bdN(w:B7)(n:Nat):B1 w.heap.size w (w.drewN n):=⟨rfl,rfl,rfl,cJ,λ_ _=>rfl⟩
def aex(h:B1 W.heap.size W V)(k:B1 V.heap.size V w):B1 W.heap.size W w:=h.trans (k.mono h.size)
end
section
variable {E : Pe} {i j k : Nat}
def aaA{q:Int}{x X:Fo}(cl:q=1\/q=40)(cn:(E.tk i).k=q)(bD:i<E.n)(cb:CB E i x k)(b9:Sm E i x k X j)(cm:i+1<=j):CI E 145 #[pV E] i X j:=by
 intro d af G F a3;have S:=aj F;have bx:(E.tk i).k≠6:=O;have bn:=λB (am:B1 d.heap.size d B)=>(Sq.below S am).cells;have t:=λB (am:B1 d.heap.size d B)=>(Sq.below S am).tkw bD bx;unfold TkW at t;have cu:=S.lo;have ap:=aj b9;have b0:(i:Int)<(E.n:Int):=O;have bE:(0:Int)<=(i:Int):=O;have ca:IntKind.i64.wrap (i:Int)=(i:Int):=by rw[bJ];omega
 go_in;go_wp2_with fail;refine wp_region_held_drew (S:=λB=>B1 d.heap.size d B) J (bu (ai _ _)) (λb=>?_);simp only[iB,db,fx,Nat.reduceAdd,iA,jb,jc,dI,dt];refine bB 0 (N (Ax ⟨E.pb,0,A0⟩)) rfl rfl b (λl h=>by go_simp) ?_;simp only[A5];refine bB 1 (N (Ax ⟨E.pb,0,A0⟩)) rfl rfl b (λl h=>by go_simp) ?_;simp only[A5];refine bB 2 (N (Ax ⟨E.pb,0,A0⟩)) rfl rfl b (λl h=>by go_simp) ?_;simp only[A5];refine bB 3 (Br (Ax ⟨E.tb,0,A0⟩) E.n E.cap) rfl rfl b (λl h=>by go_simp) ?_;simp only[A5];refine bB 4 (N (Ax ⟨E.pb,0,A0⟩)) rfl rfl b (λl h=>by go_simp) ?_;simp only[A5];refine bB 5 (N (Ax ⟨E.pb,0,A0⟩)) rfl rfl b (λl h=>by go_simp) ?_;simp only[A5];refine bB 6 (N (Ax ⟨E.pb,1,A0⟩)) rfl rfl b (λl h=>by go_simp) ?_;simp only[A5];refine bB 7 (Y T (i:Int)) rfl rfl b (λl h=>by go_simp) ?_;simp only[A5];refine bB 8 (N (Ax ⟨E.tb,i*6,A0⟩)) rfl rfl b (λl h=>by go_simp) ?_;simp only[A5];refine bB 9 (Ce (qi (E.tk i).k (E.tk i))) rfl rfl b (λl h=>by go_simp) ?_;simp only[A5];refine A9 (rs:=[10,11]) J I (A3 rfl (λA e=>?_) (A3 rfl (λA e=>?_) A6))
 case' refine_1=>
  go_simp;refine dm (Dg _ _ (E.tk i) _) λao H=>?_;have s:=aex (bu (ai _ _)) H;have y:=Sq.box (cs:=ndA 5 0 0 ⟨#[]⟩ (E.tk i) s0 s0) (t:=100) (Sq.below S s);refine e.out _ _ s (λb=>?_);try simp only[bF,bG,bI]
  refine A9 (rs:=[11]) J I (A3 rfl (λA e=>?_) A6);go_simp;refine e.out _ _ (aex s (de _ _)) (λb=>?_);try simp only[bF,bG,bI]
  refine A9 (rs:=[12]) J I (A3 rfl (λA e=>?_) A6);go_simp;refine e.out _ _ (aex s (de _ _)) (λb=>?_);refine wpAnyH_done J ?_ _;generalize ao.alloc _=cf at y⊢;generalize ao.heap.size=al at y⊢
 case' refine_2=>
  go_simp;have bk:=Sq.below (Sq.box (cs:=#[Y T 0,Y T 0,Y T 0,Y T 0,Y T 0,Y T 0,A2 ⟨#[]⟩,s0,s0]) (t:=100) S) (bu (ai _ _));refine e.out _ _ (bu (de _ _)) (λb=>?_);try simp only[bF,bG,bI]
  refine A9 (rs:=[10]) J I (A3 rfl (λA e=>?_) A6);go_simp;refine dm (Dg _ _ (E.tk i) _) λao H=>?_;have s:=aex (bu (de d _)) H;have ar:=Sq.below bk H;refine e.out _ _ s (λb=>?_);try simp only[bF,bG,bI]
  have v:=Sq.rd ar;refine A9 (rs:=[12]) J I (A3 rfl (λA e=>?_) A6);go_simp;have y:Hid (Sq E d af G _ i G .nil [] [(d.heap.size,100,ndA 5 0 0 ⟨#[]⟩ (E.tk i) s0 s0)] []):=Sq.set (q:=8) (u:=s0) (Sq.set (q:=7) (u:=s0) (Sq.set (q:=6) (u:= A2 ⟨#[]⟩) (Sq.set (q:=5) (u:= Y T 0) (Sq.set (q:=4) (u:= Y T 0) (Sq.set (q:=3) (u:= Y T (E.tk i).l) (Sq.set (q:=2) (u:= Y T 0) (Sq.set (q:=1) (u:= Y T (E.tk i).f) (Sq.set (q:=0) (u:= Y T 5) ar))))))));have c:=ix d.heap.size;refine e.out _ _ (((((((((s.setCell c _).setCell c _).setCell c _).setCell c _).setCell c _).setCell c _).setCell c _).setCell c _).setCell c _) (λb=>?_);refine wpAnyH_done J ?_ _;generalize B0 _ _ _=cf at y⊢;generalize d.heap.size=al at y⊢
 all_goals
  go_wp2_with fail;have a6:x.sz<=X.sz/\k<E.n:=by
   rcases ap.out with⟨_,_,F,_,rfl⟩|⟨r,Ex,a9,m,_,_,_,_,_,F,_,rfl⟩
   .exact⟨by rw[dj];omega,F⟩
   .exact⟨by rw[dj,Fo.sz_app,Fo.sz_app];omega,F⟩
  refine Sq.cq y cb O ?_;rintro a _ ag _ _ ⟨c,rfl,rfl,rfl⟩ S;have ad:=Sq.ln S;rw[show(Fo.nil.app x)=x from rfl]at ad;have bn:=S.cells;have⟨c0,ct,t⟩:=S.tok a6.2;have b0:(k:Int)<(E.n:Int):=O;have bE:(0:Int)<=(k:Int):=O;have ca:IntKind.i64.wrap (k:Int)=(k:Int):=by rw[bJ];omega
  go_wp2_with fail;rcases ap.out with⟨bv,L,b1,rfl,rfl⟩|⟨r,Ex,a9,m,hkk,b8,L,cp,bA,cr,b1,rfl⟩
  .have c1:((E.tk j).k !=46)=C2:=by simp[bv]
   have c2:((E.tk j).k !=47)=C2:=by simp[L]
   rw[dj]at a3;go_quiet (fail)
   replace S:=Sq.below S (bdN a nq);generalize a.drewN nq=a at S⊢;have v:=Sq.rd S;go_wp2_with fail;refine(Sq.add (Sq.litm (m:=a.heap.size) (Sq.set (Sq.set S)) (by simp[B0])) (.inl ⟨rfl,rfl⟩) (.inr (.head _)) O).mono ?_;rintro bp a ⟨c,rfl,ag,S⟩;go_wp2;go_ret;exact⟨_,_,_,_,rfl,⟨_,rfl,rfl,rfl⟩,Sq.fin S⟩
  simp only[dj,Fo.sz_app]at a3 a6;have bd:=aj b8;rcases hkk with hkk|hkk;all_goals
   rw[hkk]at t;go_quiet (fail)
   replace S:=Sq.below S (bdN a nq);generalize a.drewN nq=a at S⊢;have v:=Sq.rd S;go_wp2;go_loopg [4] m (λgk ce wr=>∃(k:Nat) (D ak:Fo) (ba:Int) (o:Option Addr) (n p:Nat) (bg:List Mb) (w:List Int),ce= Y T ba/\Hid (Ls E (CB E) gk k ak a9/\Sq E d af G wr k bg D w [(al,100,ndA 5 0 (n:Int) ⟨#[]⟩ (E.tk i) s0 (Br o n p))] [(3,Br o n p,w.map iv)]/\D.app ak=x.app r))
   case atStart=>exact⟨k,x,r,c,_,1,1,_,_,rfl,bd,Sq.litm (m:=a.heap.size) (xs:=[iv c]) (Sq.set (Sq.set S)) (by simp[B0]),rfl⟩
   case round=>
    obtain⟨cI,D,ak,ba,o,n,p,ch,w,rfl,bc⟩:=hrel;have⟨bt,S,a1⟩:=bc.out;have a8:=congrArg Fo.sz a1;have a2:=aj a1;rw[Fo.sz_app,Fo.sz_app]at a8;have ad:=Sq.ln S;have b4:=Sq.rn S;rw[dr]at b4;have b7:=congrArg D4 S.tp;rw[Fo.tops_len]at b7;have cy:=D.len_le;cases bt with
    |stop aL a0=>
     obtain rfl:D=x.app r:=by rw[<-a2.out,Fo.app_nil]
     go_wp2_with fail;refine dm (Sq.isN S (by rw[L];decide)) λa S=>?_;go_wp2_with fail;refine dm (Sq.take S L) λa S=>?_;go_wp2_with fail;refine Sq.cq S bA O ?_;rintro a _ bh g _ ⟨bl,bo,rfl,rfl⟩ S;have b3:=Sq.ln S;rw[Fo.sz_app]at b3;have a4:=congrArg D4 S.tp;have b2:=Fo.len_le ((x.app r).app Ex);rw[Fo.tops_len,aB]at a4;rw[Fo.sz_app]at b2;have⟨z,bw⟩:=aw g.length;rw[bw]at S a4⊢;go_wp2;go_loopw [76] (λan wr=>∃(q p:Nat) (o:Option Addr),q<=z/\an= Y T q/\Hid (Sq E d af G wr j bh ((x.app r).app Ex) (w++g) [(al,100,ndA 5 0 (n:Int) ⟨#[]⟩ (E.tk i) s0 (Br o (n+q) p))] [(3,Br o (n+q) p,w.map iv++(g.take q).map iv),(3,Br bl z bo,g.map iv)])) (λan _=>z-(intOf an).toNat)
     case atStart=>exact⟨0,p,o,nH,rfl,by rw[Ic,List.map_nil,dD];exact Sq.swap S⟩
     case round=>
      obtain⟨q,p,o,cz,rfl,S⟩:=hrel;by_cases cw:q<z
      .obtain⟨cg,a7⟩:∃x,g[q]?=Ax x:=⟨g[q]'(O),bi _⟩;obtain⟨C,rfl,ck⟩:=Sq.at2 S a7;have cA:(0:Int)<=(q:Int):=O;have cB:(q:Int)<(z:Int):=O;have v:=Sq.rd S;go_wp2_with (at_builtin;refine Sq.apG tI S O rfl rfl _ _ rfl rfl rfl rfl ?_;intro C K a S;have v:=Sq.rd S);have bf:Hid (w.map iv++(g.take q).map iv++[Value.int T cg]=w.map iv++(g.take (q+1)).map iv):=by show _=_;rw[il,a7,fy,eB];rfl
       replace S:=Sq.set (q:=8) (u:= Br (Ax ⟨C,0,A0⟩) (n+q+1) K) S;rw[bf.out]at S;exact⟨⟨q+1,K,Ax ⟨C,0,A0⟩,O,by go_num,S⟩,by simp[intOf];omega⟩
      .obtain rfl:q=z:=O;rw[show g.take q=g from dH O,<-fy]at S;replace S:=Sq.less S (show List.Sublist [_] [_,_] from .cons_cons _ (.cons _ .slnil));have v:=Sq.rd S;go_wp2_with fail;refine(Sq.add S (.inl ⟨rfl,rfl⟩) (.inr (.head _)) O).mono ?_;rintro bp a ⟨c,rfl,ag,S⟩;go_wp2;go_ret;rw[(O:n=(x.app r).len)]at S;exact⟨_,_,_,_,rfl,⟨_,rfl,rfl,rfl⟩,Sq.fin S⟩
    |@go cd _ cc _ c3 bj aL a0 br bs=>
     have bb:=aj bs;rw[Fo.sz_app]at a8;have cF:IntKind.i64.wrap ((n:Int)+1)=(n:Int)+1:=by rw[bJ];omega
     go_wp2_with fail;refine dm (Sq.isY S aL a0) λa S=>?_;go_wp2_with fail;refine Sq.cq S br O ?_;rintro a _ ag _ _ ⟨c,rfl,rfl,rfl⟩ S;have ad:=Sq.ln S;rw[Fo.sz_app]at ad;have v:=Sq.rd S;go_wp2_with (at_builtin;refine Sq.app S O rfl _ _ rfl rfl rfl rfl ?_;intro C K a S;have v:=Sq.rd S);go_roundg cd
     case measure=>omega
     case rel=>exact⟨cc,_,bj,c,Ax ⟨C,0,A0⟩,n+1,K,_,_,rfl,bb,by rw[(O:((n+1:Nat):Int)=(n:Int)+1)];exact Sq.set (Sq.set S),by rw[Fo.app_app];exact a2⟩
end
attribute [local go_sem] mK
def ap0(W:B7)(b:Nat)(a c d e f g:Ed):W.grownBy (six W b a c d e f g) (Ax b):=by
 unfold six;refine oc ?_ (pL _ b 5 _);refine oc ?_ (pL _ b 4 _);refine oc ?_ (pL _ b 3 _);refine oc ?_ (pL _ b 2 _);refine oc ?_ (pL _ b 1 _);exact pL _ b 0 _
def aey:(Tryz.prog.info? 48).map (λi=>(i.zero,i.size,i.bytes))=Ax (Ax (Ce #[Y T 0,Y T 0,Y T 0,Y T 0,Y T 0,A2 ⟨#[]⟩]),6,56):=J
structure Ad1 (w:B7) (gb:Nat) (s:Bz) (b mb:Nat) (W:B7):Prop where
 bl:B1 w.heap.size w W
 b0:W.heap[w.heap.size]?=Ax (.cells #[.pointer (Ax ⟨gb,0,A0⟩)] 43 (0,0))
 b1:W.heap[w.heap.size+1]?=Ax (.cells #[.string s] 9 (0,0))
 sc:ir b W s (.map (Ax mb)) 0 0 1 B4
 mp:W.ownsMap Tryz.prog 9 (plainElem (H:=Unit) Tryz.prog 3) mb 22 (zG 22)
 lo:w.heap.size+2<=b
 ne:mb≠b
structure ap1 (w:B7) (base gb mb:Nat) (s:Bz) (R:List Tk×List Int×Int) (e:Ending) (w':B7):Prop where
 out:(∃st stk toks l v,R=(toks++[⟨6,(s.size:Nat),(s.size:Nat),l,0,⟨#[]⟩⟩],stk, -1)/\Gl st stk/\e= .returned v/\w'.ownsRow w.heap.size 48 6 v toks.length (AJ toks)/\GQ w' base gb mb st/\st.length<=45*s.size+2/\toks.length<=s.size/\B1 base w w')\/(∃z,aaz s R z/\e= .panicked (acy z)/\B1 base w w')
def JH(w:B7)(base E bE:Nat)(s:Bz)(h:GQ w base E bE [100,6])(hh:Kv w)(mv:s.size<=65536)(ke:12<=base):
  Calls Tryz.prog 13 #[N (Ax ⟨E,0,A0⟩),A2 s] w λe C=>ap1 w base E bE s (jn s) e C:=by
 obtain⟨i9,fr,ed⟩:=hh.tabs.word;have kn:E<w.heap.size:=by obtain⟨ao,ak,_⟩:=h.g.ex;exact aA ak
 have ks:=h.g.lo;refine Jv (n:=5) func13 rfl ?_;simp only[ntmps13,iB,db,fx,Nat.reduceAdd,Nat.reduceSub,iA,jb,jc,pE,dI,dt];refine tB (λlb me=>tA ?_);go_wp2_with fail;generalize hB:(w.alloc _).alloc _=bc;obtain⟨hC,c8,fk,ib⟩:=Da hB;clear hB;refine tB (λg3 fn=>?_);have fo:∀(b u:Nat)(ap:B7),Ad1 w E s b u ap->g3 {tmps:=#[N (Ax ⟨E,0,A0⟩),A2 s,N (Ax ⟨w.heap.size,0,A0⟩),N (Ax ⟨w.heap.size+1,0,A0⟩),Br A0 0 0,N (Ax ⟨b,0,A0⟩),M,M,A2 s,.map (Ax u),Ce #[A2 s,.map (Ax u),Y T 0,Y T 0,Y T 1,B6 B4],M,M,M,M,M,M,M,M,M,M,M,M,M,M,M,M,M,M,M,M,M,M,M,M,M,M,M,M,M,M,M,M,M],defers:=[]} ap:=by
  intro b u ap ad;refine fn _ _ ?_;clear fn;obtain⟨d,gn⟩:=aw ap.heap.size;have hw:=aA ad.sc;have mk:=ad.lo;refine tB (λlc fo=>tA ?_);go_wp2_with fail;refine tB (λa2 F=>?_);refine tB (λld mf=>tA ?_);go_wp2_with fail;refine aap ?_;have ea:=(ai ap.heap.size ap).alloc cJ (B2 #[Br A0 0 0] 45 (0,0));have eb:B1 w.heap.size w (ap.alloc (B2 #[Br A0 0 0] 45 (0,0))):=ad.bl.alloc ad.bl.size _;have et:yA b (ap.alloc (B2 #[Br A0 0 0] 45 (0,0))) s (.map (Ax u)) 0 1 B4:=⟨0,(ea.block _ hw).trans ad.sc⟩;have ep:=ad.mp.alloc (B2 #[Br A0 0 0] 45 (0,0));have eh:wv w base E bE d s [100,6] [] (ap.alloc (B2 #[Br A0 0 0] 45 (0,0))):=
   ⟨h.below eb,eb.mono O,(ea.block _ (aA ad.b0)).trans ad.b0,(ea.block _ (aA ad.b1)).trans ad.b1,⟨Br A0 0 0,by rw[<-gn];exact ay ap _,dA _ _ _ _⟩⟩
  have ef:Kv (ap.alloc (B2 #[Br A0 0 0] 45 (0,0))):=hh.below eb cJ;have a4:(ap.alloc (B2 #[Br A0 0 0] 45 (0,0))).heap.size=d+1:=byT;rw[gn]at hw;generalize ap.alloc (B2 #[Br A0 0 0] 45 (0,0))=j3 at et ep eh ef a4⊢;have eq:=ad.ne;clear ea eb ad gn;obtain⟨cd,fB⟩:=aw (jn s);have ek:=mz.begin s;rw[fB]at ek;obtain⟨I1,am⟩:∃I1:Nat->Int->B7->Prop,I1=λp l c=>∃f z v K,mz s cd f z p l v K/\wv w base E bE d s f v c:=⟨_,rfl⟩;have ee:Iw b u (d+1) s I1 j3 0 1 0 1:=⟨et,ep,ef,by rw[am];exact⟨_,_,_,_,ek,eh⟩,O⟩;have f5:∀p l c af,I1 p l c->ScX b c->c.grownBy af (Ax b)->I1 p l af:=by
   intro p l c af h kA ak;rw[am]at h⊢;obtain⟨f,z,v,K,j,g⟩:=h;exact⟨f,z,v,K,j,g.kept (.of_gr ak kA) ⟨ak.os,ak.tape,ak.output,by have:=g.bl.size;have:=ak.size;have:=aA g.b0;omega,λbD av=>ak.block bD (by have:=aA g.b0;omega) byT⟩⟩
  have fA:∀p k l c,blk s (s.size+1) p=blk s (s.size+1) k->p<=k->k<=s.size->I1 p l c->I1 k l c:=by
   intro p k l c ei kv y h;rw[am]at h⊢;obtain⟨f,z,v,K,j,g⟩:=h;exact⟨f,z,v,K,j.move ei kv y,g⟩
  have fz:∀p l c,I1 p l c->0<=l/\l<=(p:Int)+1/\p<=s.size:=by
   intro p l c h;rw[am]at h;obtain⟨f,z,v,K,j,g⟩:=h;exact⟨j.l0,j.l1,j.le⟩
  have df:∀{c:B7}{k p:Nat}{gt l:Int}{dq:Loop}(A:Obj),Iw b u (d+1) s I1 c k gt p l->c.heap[d+1+1]?=Ax (.loop dq)->Iw b u (d+1) s I1 (c.putObj (d+1+1) A) k gt p l:=by
   intro c k p gt l dq A h aL;refine h.put aL A O ?_;have G:=h.ii;rw[am]at G⊢;obtain⟨f,z,v,K,j,g⟩:=G;refine⟨f,z,v,K,j,g.kept (.of_put aL A) ?_⟩;exact(ai base c).grown (B5 c (d+1+1) A) (by have:=h.sz;omega) (λez e=>by cases e;omega)
  refine amr (P:=Tryz.prog) (α:=Nat×Int) (n:=5) func13 (gf:=35) (bd:=#[N (Ax ⟨b,0,A0⟩)]) rfl (enters_of func35 J rfl) (λi=>#[vTk ⟨(rdI s i.1).k,(i.1:Int),((rdI s i.1).a:Int),i.2,(rdI s i.1).n,(rdI s i.1).x⟩]) (λ_=>rfl)
   (λi c=>rE s i.1/\(rdI s i.1).ok=C2/\Iw b u (d+1) s I1 c (rdI s i.1).a (i.2+(rdI s i.1).d) i.1 i.2)
   (λi c=>Iw b u (d+1) s I1 c (rdI s i.1).a (i.2+(rdI s i.1).d) (rdI s i.1).a (i.2+(rdI s i.1).d))
   (λi e7 c=>(rE s i.1/\(rdI s i.1).ok=C2/\Iw b u (d+1) s I1 c (rdI s i.1).a (i.2+(rdI s i.1).d) i.1 i.2)/\∃B,d+1<=B/\(∀ao,c.heap[d]?=Ax (B2 #[ao] 45 (0,0))->ao.ownBlock≠Ax B)/\dL B c (rdI s i.1).k (i.1:Int) ((rdI s i.1).a:Int) i.2 (rdI s i.1).n (rdI s i.1).x/\
    e7={tmps:=#[N (Ax ⟨E,0,A0⟩),A2 s,N (Ax ⟨w.heap.size,0,A0⟩),N (Ax ⟨w.heap.size+1,0,A0⟩),Br A0 0 0,N (Ax ⟨b,0,A0⟩),N (Ax ⟨d,0,A0⟩),N (Ax ⟨B,0,A0⟩),A2 s,.map (Ax u),Ce #[A2 s,.map (Ax u),Y T 0,Y T 0,Y T 1,B6 B4],.func (.func 35) #[N (Ax ⟨b,0,A0⟩)] #[],vTk ⟨(rdI s i.1).k,(i.1:Int),((rdI s i.1).a:Int),i.2,(rdI s i.1).n,(rdI s i.1).x⟩,M,M,M,M,M,M,M,M,M,M,M,M,M,M,M,M,M,M,M,M,M,M,M,M,M,M,M,M,M,M,M],defers:=[]})
   (λc=>aed b u (d+1) s I1 c)
   (λbt c=>∃ag,aaz s cd ag/\bt=acy ag/\B1 base w c)
   ?pZ ?pAx ?pD ?assign ?body ?seq ?done ?pan
  case pZ=>
   rintro i c dq A h aL;rw[a4]at aL⊢;exact df A h aL
  case pAx=>
   rintro i e7 c dq A ⟨⟨j,g,bv⟩,B,fg,el,g8,kd⟩ aL;rw[a4]at aL⊢;exact⟨⟨j,g,df A bv aL⟩,B,fg,λao cy=>el ao ((B3 O).symm.trans cy),(B3 (by rintro rfl;have:=(show c.heap[d+1+1]?=_ from g8).symm.trans aL;cases this)).trans g8,kd⟩
  case pD=>
   rintro c dq A h aL;rw[a4]at aL⊢;cases h with
   |fin l h=>exact .fin l (df A h aL)
   |bad p l dc dg hS ew dn G=>
    refine .bad p l dc dg ((B3 O).trans hS) (ew.blocks (λbD av=>B3 O)) (by simpa using dn) ?_;rw[am]at G⊢;obtain⟨f,z,v,K,j,g⟩:=G;refine⟨f,z,v,K,j,g.kept (.of_put aL A) ?_⟩;exact(ai base c).grown (B5 c (d+1+1) A) O (λez e=>by cases e;omega)
  case assign=>
   rintro l ⟨p,o⟩ c la ⟨j,g,bv⟩ fm;unfold vTk at fm⊢;simp only at j g bv fm⊢;have m:=jB j g bv;clear j g bv
   gi_wp2
   have hf:=(ai c.heap.size c).alloc cJ (B2 #[Y T (rdI s p).k,Y T (p:Int),Y T ((rdI s p).a:Int),Y T o,Y T (rdI s p).n,A2 (rdI s p).x] 48 (0,0));refine fm _ _ ⟨⟨m.1,m.2.1,Iw.below m.2.2 hf O ?_⟩,c.heap.size,m.2.2.sz,λao cy=>?_,ay c _,rfl⟩ ((KeepsOthers.alloc c _).from _);all_goals
    have G:=m.2.2.ii;have dn:=m.2.2.sz;rw[am]at G;obtain⟨f,z,v,K,j,g⟩:=G
   .rw[am];exact⟨f,z,v,K,j,g.below hf O⟩
   .obtain⟨m5,cb,cc⟩:=g.tk;rw[dG c _ d O,cb]at cy;cases cy;intro e;have:=(cc.lt _ e).2;omega
  case body=>
   rintro l ⟨p,o⟩ e7 c ⟨⟨ca,b9,a3⟩,B,m0,el,bg,rfl⟩;rw[a4];unfold vTk;simp only at ca b9 a3 bg⊢;have G:=a3.ii;rw[am]at G;obtain⟨f,z,v,K,bA,cw⟩:=G;obtain⟨i4,i6⟩:=wo s p b9;obtain⟨k5,k6,k8,k9⟩:=eD s p ca.lt b9;have i2:=a3.sz;have bx:=λ(av:(rdI s p).k=7) (x:jg f 5=C2) b2 (j:Gl b2 (feedL z 5).1) (g:b2.length<=f.length+45)=>bA.sep ca b9 av x j g;have cp:=λ(av:(rdI s p).k=7) (x:jg f 5=B4)=>bA.skip ca b9 av x;have a5:=λ(av:(rdI s p).k≠7) (x:jg f (rdI s p).k=C2) b2 (j:Gl b2 (feedL z (rdI s p).k).1) (g:b2.length<=f.length+45)=>bA.tok ca b9 av x j g;have b7:(rdI s p).k≠7->jg f (rdI s p).k=B4->aaz s cd ((p:Int)+(yL f (s.extract p (rdI s p).a):Nat)):=λav x=>⟨by rw[bA.stop ca b9 av x];omega,p,f,z,o,v,K,ca,bA,rfl,λ_=>⟨av,x⟩⟩;have mn:=bA.len;have ku:=bA.ol;have kz:=bA.sim;generalize (rdI s p).k=bD at bg i4 i6 bx cp a5 b7⊢;generalize (rdI s p).a=q at bg k5 k6 a3 bx cp a5 b7⊢;generalize (rdI s p).d=ce at k8 k9 a3 bx cp a5⊢;generalize (rdI s p).n=a0 at bg bx a5⊢;generalize (rdI s p).x=a1 at bg bx a5⊢;clear bA b9 ca;refine wpIn_block ?_;refine wpIn_seq_k (λe6 fq=>?_);have ds:∀(L:Int)(af:B7)(bj bk bn bo bp br bs:Ed),1<=L->L<=78->Ck (d+1) c af->Iw b u (d+1) s (λ_ _ _=>True) af q (o+ce) p o->wv w base E bE d s f v af->d+1<=af.heap.size->dL B af L (p:Int) (q:Int) o a0 a1->
     (jg f L=C2->∀b2,Gl b2 (feedL z L).1->b2.length<=f.length+45->∃ff,mz s cd b2 (feedL z L).1 q (o+ce) (v++[⟨L,(p:Nat),(q:Nat),o,a0,a1⟩]) ff)->
     (jg f L=B4->aaz s cd ((p:Int)+(yL f (s.extract p q):Nat)))->
     e6 {tmps:=#[N (Ax ⟨E,0,A0⟩),A2 s,N (Ax ⟨w.heap.size,0,A0⟩),N (Ax ⟨w.heap.size+1,0,A0⟩),Br A0 0 0,N (Ax ⟨b,0,A0⟩),N (Ax ⟨d,0,A0⟩),N (Ax ⟨B,0,A0⟩),A2 s,.map (Ax u),Ce #[A2 s,.map (Ax u),Y T 0,Y T 0,Y T 1,B6 B4],.func (.func 35) #[N (Ax ⟨b,0,A0⟩)] #[],Ce #[Y T bD,Y T (p:Int),Y T (q:Int),Y T o,Y T a0,A2 a1],bj,bk,bn,bo,bp,br,bs,M,M,M,M,M,M,M,M,M,M,M,M,M,M,M,M,M,M,M,M,M,M,M,M],defers:=[]} af:=by
    intro L af bj bk bn bo bp br bs i5 i7 f7 cr ck ml cl a5 b7;refine fq _ _ ?_;clear fq;have cB:=dK ck.b0;have d7:=dK ck.b1;obtain⟨gu,cb,cc,gv,gz,g0,g1⟩:=aE cl;obtain⟨cq,fd,c6⟩:∃cq fd,jg f L=C2->passOk (f.length+45) fd f L cq/\cq.length<=f.length+45/\Gl cq (feedL z L).1:=by
     by_cases x:jg f L=C2
     .obtain⟨A,b8,kx⟩:=kz.passOk i5 i7 x;exact⟨A,_,λ_=>⟨b8,yJ b8,kx⟩⟩
     .exact⟨[],0,λe=>absurd e x⟩
    have eF:=CallsIn.inRound l (na (n:=2).2 (Hr af base E bE f cq ⟨L,(p:Int),(q:Int),o,a0,a1⟩ s fd ck.q cr.ly.tabs O i5 i7 (by simp only;omega) (by simp only;omega) (by simp only;omega) (λe=>⟨(c6 e).1,by have:=(c6 e).2.1;omega,λa cu=>by have:=be ((c6 e).2.2.o1 a cu);omega⟩)));unfold vTk at eF;simp only[wH]at eF
    gi_wp2_with (refine⟨trivial,?_⟩;gi_at_call 14;fail)
    refine⟨trivial,eF.mono ?_⟩;rintro e r ⟨(⟨x,rfl,h8,dd,al⟩|⟨x,rfl,al⟩)⟩
    .obtain⟨_,kq,ky⟩:=c6 x;obtain⟨ff,iy⟩:=a5 x cq ky kq;obtain⟨m6,h0,_⟩:=ck.q.g.ex;have b5:=ck.turn h8 dd al kn O;have bf:dL B r L (p:Int) (q:Int) o a0 a1:=lD dd cl O;have bh:Iw b u (d+1) s (λ_ _ _=>True) r q (o+ce) p o:=Iw.turn (I1:=λ_ _ _=>True) (p:=p) (l:=o) ⟨cr.sc,cr.mp,cr.ly,trivial,cr.sz⟩ h0 dd al ke trivial;have cm:Ck (d+1) c r:=f7.trans (aob h0 dd);obtain⟨ao,dk,dl⟩:=b5.tk;obtain⟨ji,jj,rfl⟩:=cG dl;have j9:=dK dk;have l9:r.frozen? ⟨d,0,A0⟩=B4:=cD _ _ _ _ _ dk;obtain⟨m8,m9,nb,nc,nf,ng,nh⟩:=aE bf;obtain⟨k4,kp,kE,k2,k3⟩:=eC aey;obtain⟨on,ge⟩:=aw v.length;rw[ge]at dk dl j9 ku;have m1:d+1<=r.heap.size:=bh.sz;have gp:∀k,(Value.slice ji on jj).ownBlock=Ax k->w.heap.size<=k/\∃cs fr,r.heap[k]?=Ax (B2 cs 48 fr):=λk y=>by
      refine⟨(dl.lt k y).1,?_⟩;rcases dl.2 with⟨b3,_⟩|⟨g7,j7,j8,b3,_,cI,_⟩
      .rw[b3]at y;cases y
      .rw[b3]at y;obtain rfl:g7=k:=by simpa [D3] using y
       exact⟨_,_,cI⟩
     have m:=aoo iy b5 bh cm dk ge;clear iy b5 bh cm dk ge eF c6 h8 dd al ck cr f7 cl a5 b7 cB d7 gu cb cc gv gz g0 g1 bf
     gi_wp2_with (gi_at_builtin;refine wpListIn_append_own _ rfl _ _ 45 rfl w.heap.size 48 k4 _ 6 56 underlying45 kp kE k2 k3 rfl Z _ _ _ rfl (dl.alloc _) ⟨r.heap.size,0,A0⟩ 1 1 [Y T L,Y T (p:Int),Y T (q:Int),Y T o,Y T a0,A2 a1] rfl rfl (World.news_of_block (cs:=#[Y T L,Y T (p:Int),Y T (q:Int),Y T o,Y T a0,A2 a1]) (fr:=(0,0)) (ay r _)) (by intro m3 ih;simp at ih;rcases ih with rfl|rfl|rfl|rfl|rfl|rfl<;>rfl) py O byT ?_;intro m4 cz gd em _;obtain⟨d8,e9,rfl⟩:=ownsRow_succ gd;have ev:cz.heap[d]?=Ax (B2 #[Br ji on jj] 45 (0,0)):=(em.block d byT (λe=>by obtain⟨_,cs,fr,b4⟩:=gp d e.symm;rw[m.out.2.2.2.2.1]at b4;cases b4)).trans ((dG _ _ _ O).trans m.2.2.2.2.1);have ls:=dK ev;have mc:cz.frozen? ⟨d,0,A0⟩=B4:=cD _ _ _ _ _ ev)
     have b6:∀(k:Nat)(A:Obj),r.heap[k]?=Ax A->(∀cs fr,A≠ B2 cs 48 fr)->k≠d->(cz.setCell ⟨d,0,A0⟩ (Br (Ax ⟨d8,0,A0⟩) (on+1) e9)).heap[k]?=Ax A:=λk A y b8 eq=>by
      refine(az _ _ _ _ eq).trans ((em.block k (by simp;have:=aA y;omega) (λe=>?_)).trans ((dG _ _ _ (aA y)).trans y));obtain⟨_,cs,fr,b4⟩:=gp k e.symm;rw[y]at b4;exact b8 cs fr (cC b4)
     have mx:r.heap.size<=cz.heap.size:=by have:=em.size;simp at this;omega
     have hE:B1 base r (cz.setCell ⟨d,0,A0⟩ (Br (Ax ⟨d8,0,A0⟩) (on+1) e9)):=by
      have j4:B1 base r (r.alloc (B2 #[Y T L,Y T (p:Int),Y T (q:Int),Y T o,Y T a0,A2 a1] 48)):=(ai _ r).alloc O _;exact(j4.grown em byT (λk y=>by have:=(gp k y).1;omega)).setCell (by show base<=d;omega) _
     have kl:wv w base E bE d s cq (v++[⟨L,(p:Nat),(q:Nat),o,a0,a1⟩]) (cz.setCell ⟨d,0,A0⟩ (Br (Ax ⟨d8,0,A0⟩) (on+1) e9)):=by
      have cu:=m.2.1;refine⟨cu.q.same (λk A y j g=>b6 k A y j (by rintro rfl;rw[m.out.2.2.2.2.1]at y;exact g _ _ (cC y).symm)),cu.bl.trans hE,b6 _ _ cu.b0 (by intro cs fr e;cases e) O,b6 _ _ cu.b1 (by intro cs fr e;cases e) O,⟨_,aI _ _ 0 _ _ _ ev,?_⟩⟩;rw[aB,m.out.2.2.2.2.2,vH];refine C4 gd (row:=Ax d) ⟨rfl,rfl,rfl,by simp[B0],λk y eq=>az _ _ _ _ (λe=>eq (by rw[e]))⟩ (.inr ?_);intro e;have b4:d8=d:=by simpa [D3] using e
      subst b4;rcases gd.2 with⟨b3,_⟩|⟨g7,j7,j8,b3,_,cI,_⟩
      .cases b3
      .cases b3;rw[ev]at cI;cases cI
     refine⟨m.2.2.2.1.trans ?_,?_⟩
     .exact⟨by simp[B0];omega,λk A _ y b8=>b6 k A y (λcs fr e=>by rw[e]at b8;cases b8) (by rintro rfl;rw[m.out.2.2.2.2.1]at y;obtain rfl:=cC y;cases b8)⟩
     .obtain⟨fe,gm⟩:=m.2.2.1.sc;obtain⟨fc,fa,cf,fb⟩:=m.2.2.1.mp;refine⟨⟨fe,b6 _ _ gm (by intro cs fr e;cases e) O⟩,⟨fc,fa,b6 _ _ cf (by intro cs fr e;cases e) (by rintro rfl;rw[m.out.2.2.2.2.1]at cf;cases cf),fb⟩,m.2.2.1.ly.blocks (λk y=>hE.block k O),?_,by simp[B0];omega⟩;rw[am];exact⟨_,_,_,_,m.1,kl⟩
    .refine⟨rfl,f7.trans (Al al),_,b7 x,rfl,ck.bl.trans (al.mono O)⟩
   clear fq;obtain⟨gu,cb,cc,gv,gz,g0,g1⟩:=aE bg;by_cases en:bD=7
   .subst en;obtain⟨j2,f1⟩:=aw (jg f 5);have i8:=CallsIn.inRound l (na (n:=2).2 (cw.q.may (t:=5) Z Z f1));have cB:=dK cw.b0;have m:=Dy cw a3 f1 bg;clear cw a3 f1 bg a5 b7
    gi_wp2_with (refine⟨trivial,?_⟩;gi_at_call 36;fail)
    refine⟨trivial,i8.mono ?_⟩;rintro e r ⟨rfl,al⟩;have b5:=m.1.below al O;have bf:dL B r 7 (p:Int) (q:Int) o a0 a1:=(al.block _ (aA m.2.2.2)).trans m.2.2.2;have z0:r.cell? ⟨B,0,A0⟩=Ax (Y T 7):=(aE bf).1;have nj:r.frozen? ⟨B,0,A0⟩=B4:=(aE bf).2.2.2.2.2.2 0;have cm:Ck (d+1) c r:=Al al;clear i8 cB gu cb cc gv gz g0 g1;cases j2 with
    |false=>
     obtain⟨ff,ak⟩:=cp trivial m.2.2.1;have bb:Hid (Ck (d+1) c r/\Iw b u (d+1) s I1 r q (o+ce) q (o+ce)):=⟨cm,Iw.below m.2.1 al O (by rw[am];exact⟨_,_,_,_,ak,b5⟩)⟩;clear ds bx cp ak b5 bf cm m al
     gi_wp2
     exact bb
    |true=>
     have hJ:∀ao,r.heap[d]?=Ax (B2 #[ao] 45 (0,0))->ao.ownBlock≠Ax B:=λao cy=>el ao ((al.block _ O).symm.trans cy);have c7:wv w base E bE d s f v (r.setCell ⟨B,0,A0⟩ (Y T 5)):=b5.setTok bf hJ O _;have hj:dL B (r.setCell ⟨B,0,A0⟩ (Y T 5)) 5 (p:Int) (q:Int) o a0 a1:=aI _ _ 0 _ _ _ bf;have bh:Iw b u (d+1) s (λ_ _ _=>True) r q (o+ce) p o:=Iw.below (I1:=λ_ _ _=>True) (p:=p) (l:=o) ⟨m.2.1.sc,m.2.1.mp,m.2.1.ly,trivial,m.2.1.sz⟩ al O trivial;have h7:Iw b u (d+1) s (λ_ _ _=>True) (r.setCell ⟨B,0,A0⟩ (Y T 5)) q (o+ce) p o:=by
      obtain⟨fe,gm⟩:=bh.sc;obtain⟨fc,fa,cf,fb⟩:=bh.mp;exact⟨⟨fe,(az _ _ _ _ (by show b≠B;omega)).trans gm⟩,⟨fc,fa,(az _ _ _ _ (by rintro rfl;rw[show r.heap[_]?=_ from bf]at cf;cases cf)).trans cf,fb⟩,bh.ly.blocks (λk y=>az _ _ _ _ (by show k≠B;omega)),trivial,by simp[B0];exact bh.sz⟩
     have eL:Hid (∀(bj bk bn bo bp br bs:Ed),e6 {tmps:=#[N (Ax ⟨E,0,A0⟩),A2 s,N (Ax ⟨w.heap.size,0,A0⟩),N (Ax ⟨w.heap.size+1,0,A0⟩),Br A0 0 0,N (Ax ⟨b,0,A0⟩),N (Ax ⟨d,0,A0⟩),N (Ax ⟨B,0,A0⟩),A2 s,.map (Ax u),Ce #[A2 s,.map (Ax u),Y T 0,Y T 0,Y T 1,B6 B4],.func (.func 35) #[N (Ax ⟨b,0,A0⟩)] #[],Ce #[Y T 7,Y T (p:Int),Y T (q:Int),Y T o,Y T a0,A2 a1],bj,bk,bn,bo,bp,br,bs,M,M,M,M,M,M,M,M,M,M,M,M,M,M,M,M,M,M,M,M,M,M,M,M],defers:=[]} (r.setCell ⟨B,0,A0⟩ (Y T 5))):=λbj bk bn bo bp br bs=>ds 5 _ bj bk bn bo bp br bs Z Z (cm.trans ((KeepsOthers.setCell _ _ _).from _)) h7 c7 (by simp[B0];exact bh.sz) hj (λx=>bx trivial x) (λx=>by rw[m.out.2.2.1]at x;cases x);clear ds bx cp b5 bf cm m al hJ c7 hj bh h7 el
     gi_wp2
     exact eL _ _ _ _ _ _ _
   .have mm:(bD==7)=B4:=by rw[qK];exact en
    have eL:Hid (∀(bj bk bn bo bp br bs:Ed),e6 {tmps:=#[N (Ax ⟨E,0,A0⟩),A2 s,N (Ax ⟨w.heap.size,0,A0⟩),N (Ax ⟨w.heap.size+1,0,A0⟩),Br A0 0 0,N (Ax ⟨b,0,A0⟩),N (Ax ⟨d,0,A0⟩),N (Ax ⟨B,0,A0⟩),A2 s,.map (Ax u),Ce #[A2 s,.map (Ax u),Y T 0,Y T 0,Y T 1,B6 B4],.func (.func 35) #[N (Ax ⟨b,0,A0⟩)] #[],Ce #[Y T bD,Y T (p:Int),Y T (q:Int),Y T o,Y T a0,A2 a1],bj,bk,bn,bo,bp,br,bs,M,M,M,M,M,M,M,M,M,M,M,M,M,M,M,M,M,M,M,M,M,M,M,M],defers:=[]} c):=λbj bk bn bo bp br bs=>ds bD c bj bk bn bo bp br bs i4 i6 (KeepsFrom.refl _ _) ⟨a3.sc,a3.mp,a3.ly,trivial,a3.sz⟩ cw O bg (λx=>a5 en x) (λx=>b7 en x);clear ds a5 b7 bx cp cw a3 bg
    gi_wp2
    exact eL _ _ _ _ _ _ _
  case seq=>
   rintro l j0 he c7 c b6 f8 i2;rw[a4]at he f8 i2 c7⊢;refine(agb 4 l b u (d+1) s O O O O I1 f5 fA fz j0 he (λbt c=>(∃ag,aaz s cd ag/\bt=acy ag/\B1 base w c)/\c.heap[d+1]?=Ax (.deferred (Ax []))) (λp o c j g bv fg=>(c7 (p,o) c ⟨j,g,bv⟩ fg)) c 0 1 ?_ b6).mono ?_
   .refine Iw.below ee (by rw[a4];exact f8) O ?_;have G:=ee.ii;rw[am]at G⊢;obtain⟨f,z,v,K,j,g⟩:=G;exact⟨f,z,v,K,j,g.below (by rw[a4];exact f8) O⟩
   .rintro e lf (h|⟨bt,j,g,bv⟩)
    .exact .inl h
    .exact .inr ⟨bt,j,g,bv⟩
  case done=>
   rintro c h bw;rw[a4]at bw⊢;refine F _ _ (tA ?_);clear F;rw[fB];cases h with
   |fin l h=>
    have G:=h.ii;rw[am]at G;obtain⟨f,z,v,K,j,g⟩:=G;obtain⟨ao,cb,cc⟩:=g.tk;obtain⟨cB,e8,d6,j5,j6,ka,kb,kc⟩:=yA.cells h.sc;have lq:=dK cb;have bb:=jB j g cc;clear j g cb cc h f5 fA fz df ee ek eh et ep ef;go_wp2_with fail;refine⟨I,.inl ⟨_,_,rfl,run_takeDeferred bw,?_⟩⟩;have av:=qE.of_putD bw (.deferred A0);refine⟨_,results_tmp rfl _ _ _,⟨.inl ⟨f,z,v,l,ao,bb.1.fin,bb.1.sim,rfl,av.row bb.2.2 Z,bb.2.1.q.kept av,bb.1.len,bb.1.ol,?_⟩⟩⟩;exact bb.2.1.bl.grown (B5 c (d+1) (.deferred A0)) (by have:=bb.2.1.bl.size;have:=aA bw;omega) (λez e=>by cases e;omega)
   |bad p l dc dg hS ew dn G=>
    rw[am]at G;obtain⟨f,z,v,K,j,g⟩:=G;obtain⟨cB,e8,d6,j5,j6,ka,kb,kc⟩:=gl hS;obtain⟨g5,l8⟩:=IA hS;have g6:=dK g.b0;have d7:=dK g.b1;clear f5 fA fz df ee ek eh et ep ef;obtain⟨kh,kj⟩:=JF s p dc.lt;have ko:base<=c.heap.size:=by have:=g.bl.size;omega
    have f6:B1 c.heap.size c c.drew:=(ai _ c).drew;have hn:sJ c.drew:=(ew.tabs.below f6 cJ);have i1:(s.extract p (rdI s p).a).size<=1100000:=by have:=im (a:=s) (b:=p) (e:=(rdI s p).a);omega
    have gs:=Hq c.drew base E bE f (s.extract p (rdI s p).a) (g.q.below f6) hn i1;have kw:(yL f (s.extract p (rdI s p).a):Nat)<=s.size:=by
     have:=Ds f (s.extract p (rdI s p).a);have:=im (a:=s) (b:=p) (e:=(rdI s p).a);omega
    obtain⟨ag,gr⟩:∃ag:Nat,yL f (s.extract p (rdI s p).a)=ag:=⟨_,rfl⟩;have j1:Hid (aaz s cd ((p:Int)+(ag:Nat))):=⟨j.bad dc dg,p,f,z,l,v,K,dc,j,by rw[gr],λe=>by rw[dg]at e;cases e⟩;have cA:=jB g.bl bw ko;rw[gr]at gs kw;obtain⟨q,g9⟩:∃q:Nat,(rdI s p).a=q:=⟨_,rfl⟩;rw[g9]at d6 gs kh kj;have mt:(p:Int)<=(q:Int):=O;have md:(q:Int)<=(s.size:Int):=O;have mr:(0:Int)<=(p:Int):=O;have m2:IntKind.i64.wrap ((p:Int)+(ag:Int))=(p:Int)+(ag:Int):=by rw[bJ];omega
    clear gr g9 j g hS ew i1 hn dg;go_wp2_with fail;refine Code.wp_mono (Q:=apx [{target:= .collected (d+1),args:=#[]}] (λbt af=>bt=acy ((p:Int)+(ag:Nat))/\B1 c.heap.size c af)) (λe a af h=>?_) ?_
    .cases e with
     |panic bt=>
      obtain⟨kk,rfl,cl⟩:=h;show LeavesInM _ _ _ _ _ _ a.defers (.panicking _) af;rw[kk];have kf:=(cl.block _ (aA cA.2.1)).trans cA.2.1;refine agm kf ⟨.inr ⟨_,j1,rfl,?_⟩⟩;have ki:=cA.1.trans (cl.mono cA.2.2);exact ki.grown (B5 af (d+1) (.deferred A0)) (by have:=cl.size;have:=cA.2.2;have:=ks;omega) (λez e=>by cases e;omega)
     |_=>exact h.elim
    refine uD (S:=λC=>C.cell? ⟨b,2,A0⟩=Ax (Y T (p:Int))/\C.cell? ⟨b,3,A0⟩=Ax (Y T (q:Int))/\C.cell? ⟨w.heap.size,0,A0⟩=Ax (N (Ax ⟨E,0,A0⟩))/\C.cell? ⟨w.heap.size+1,0,A0⟩=Ax (A2 s)) J ⟨g5,d6,g6,d7⟩ (λar=>?_);refine bB 0 (N (Ax ⟨b,2,A0⟩)) rfl rfl ar (λC ⟨a6,a7,a8,a9⟩=>by go_simp) ?_;simp only[A5];refine bB 1 (Y T (p:Int)) rfl rfl ar (λC ⟨a6,a7,a8,a9⟩=>by go_simp) ?_;simp only[A5];refine bB 2 (N (Ax ⟨E,0,A0⟩)) rfl rfl ar (λC ⟨a6,a7,a8,a9⟩=>by go_simp) ?_;simp only[A5];refine bB 3 (A2 s) rfl rfl ar (λC ⟨a6,a7,a8,a9⟩=>by go_simp) ?_;simp only[A5];refine bB 4 (N (Ax ⟨b,2,A0⟩)) rfl rfl ar (λC ⟨a6,a7,a8,a9⟩=>by go_simp) ?_;simp only[A5];refine bB 5 (Y T (p:Int)) rfl rfl ar (λC ⟨a6,a7,a8,a9⟩=>by go_simp) ?_;simp only[A5];refine bB 6 (N (Ax ⟨b,3,A0⟩)) rfl rfl ar (λC ⟨a6,a7,a8,a9⟩=>by go_simp) ?_;simp only[A5];refine bB 7 (Y T (q:Int)) rfl rfl ar (λC ⟨a6,a7,a8,a9⟩=>by go_simp) ?_;simp only[A5];refine bB 8 (A2 (s.extract p q)) rfl rfl ar (λC ⟨a6,a7,a8,a9⟩=>by go_simp) ?_;simp only[A5];refine A9 (rs:=[9]) J I (A3 rfl (λg4 fu=>?_) A6);go_simp;refine gs.mono ?_;rintro e m7 ⟨rfl,c9⟩;refine fu _ _ ⟨aq c9 g5,aq c9 d6,aq c9 g6,aq c9 d7⟩ (λar=>?_);clear fu g4;try simp only[Act.put,bF,bG,bI]
    refine bB 10 (Y T ((p:Int)+(ag:Int))) rfl rfl ar (λC ⟨a6,a7,a8,a9⟩=>by go_simp) ?_;simp only[A5];refine bB 11 (Ce #[Y T ((p:Int)+(ag:Int))]) rfl rfl ar (λC ⟨a6,a7,a8,a9⟩=>by go_simp) ?_;simp only[A5];refine bB 12 (.iface 41 (Ce #[Y T ((p:Int)+(ag:Int))])) rfl rfl ar (λC ⟨a6,a7,a8,a9⟩=>by go_simp) ?_;simp only[A5];refine A9 (rs:=[13]) J I (A3 rfl (λg4 fu=>?_) A6);go_simp;exact⟨rfl,rfl,(f6.trans c9)⟩
  case pan=>
   rintro bt c ⟨ag,dn,rfl,ei⟩ bw;rw[a4]at bw⊢;show LeavesInM _ _ _ _ _ _ [_] (.panicking _) c;refine⟨I,.inl ⟨_,_,rfl,run_takeDeferred bw,?_⟩⟩;rw[fB];exact⟨.inr ⟨ag,dn,rfl,ei.grown (B5 c (d+1) (.deferred A0)) (by have:=ei.size;have:=aA bw;omega) (λez e=>by cases e;omega)⟩⟩
 clear fn;refine tA (Code.wp_mono (Q:=Exit.then g3 (λ_ _ _=>False)) (λe a w h=>by cases e<;>first|exact h|exact h.elim) ?_);have e8:bc.drew.cell? ⟨w.heap.size+1,0,A0⟩=Ax (A2 s):=dK c8;refine uD (S:=λC=>C.cell? ⟨w.heap.size+1,0,A0⟩=Ax (A2 s)) J e8 (λhS=>?_);refine bB 0 (A2 s) rfl rfl hS (λC ip=>by go_simp) ?_;simp only[A5];refine A9 (rs:=[1,3]) J I (A3 rfl (λa2 F=>?_) (A3 rfl (λa2 F=>?_) A6))
 .go_simp;have fl:B1 w.heap.size w bc.drew:=fk.drew;refine(rK (H:=Unit) bc.drew fr i9 ((fl.block _ (aA ed)).trans ed)).mono ?_;rintro e ba ⟨rfl,cn,an⟩;have hH:bc.drew.heap.size=w.heap.size+2:=ib;rw[hH]at cn an;have c5:B1 w.heap.size w ba:=fl.trans (an.mono O);have a4:w.heap.size+2<=ba.heap.size:=by have:=an.size;omega
  have kt:=cn.lt;refine F _ _ (dK ((an.block _ O).trans c8)) (λhS=>?_);clear F a2;try simp only[Act.put,bF,bG,bI]
  simp only[hH];refine bB 2 (Ce #[A2 s,.map (Ax (w.heap.size+2)),Y T 0,Y T 0,Y T 1,B6 B4]) rfl rfl hS (λC ip=>by go_simp) ?_;simp only[A5];refine A9 (rs:=[3]) J I (A3 rfl (λa2 F=>?_) A6);go_simp;refine F _ _ ((aq ((ai ba.heap.size ba).alloc cJ _) hS)) (λhS=>?_);clear F a2;refine A9 (rs:=[4]) J I (A3 rfl (λa2 F=>?_) A6);go_simp;have ad:Ad1 w E s ba.heap.size (w.heap.size+2) (ba.alloc (B2 #[A2 s,.map (Ax (w.heap.size+2)),Y T 0,Y T 0,Y T 1,B6 B4] 91)):=
   ⟨c5.alloc c5.size _,(dG _ _ _ O).trans ((an.block _ O).trans hC),(dG _ _ _ O).trans ((an.block _ O).trans c8),ay ba _,cn.alloc _,O,O⟩
  refine F _ _ (dK ad.b1) (λhS=>?_);clear F a2;refine wpAnyH_done J ?_ _;exact fo _ _ _ ad
 .go_simp;have fl:B1 w.heap.size w bc.drew:=fk.drew;obtain⟨WA,eg⟩:=aw ((bc.alloc (B2 #[A2 ⟨#[]⟩,.map A0,Y T 0,Y T 0,Y T 0,B6 B4] 91)).drew);have d9:B1 (w.heap.size+2) bc WA:=by rw[<-eg];exact((ai _ bc).alloc O _).drew
  have i3:WA.heap.size=w.heap.size+3:=by rw[<-eg];show(bc.alloc _).heap.size=_;simp;omega
  have kg:WA.heap[w.heap.size+2]?=Ax (B2 #[A2 ⟨#[]⟩,.map A0,Y T 0,Y T 0,Y T 0,B6 B4] 91 (0,0)):=by rw[<-eg,<-ib];exact ay bc _
  rw[eg];refine F _ _ (aq (d9.mono O) (dK c8)) (λhS=>?_);clear F a2;refine A9 (rs:=[1]) J I (A3 rfl (λa2 F=>?_) A6);go_simp;have hc:B1 w.heap.size w WA:=fk.trans (d9.mono O);refine(rK (H:=Unit) WA fr i9 ((hc.block _ (aA ed)).trans ed)).mono ?_;rintro e ba ⟨rfl,cn,an⟩;rw[i3]at cn an;have c5:B1 w.heap.size w ba:=hc.trans (an.mono O);have kt:=cn.lt;refine F _ _ (aq (an.mono O) hS) (λhS=>?_);clear F a2;try simp only[Act.put,bF,bG,bI]
  simp only[i3];refine bB 2 (Ce #[A2 s,.map (Ax (w.heap.size+3)),Y T 0,Y T 0,Y T 1,B6 B4]) rfl rfl hS (λC ip=>by go_simp) ?_;simp only[A5];have f9:=(an.block _ O).trans kg;refine A9 (rs:=[4]) J I (A3 rfl (λa2 F=>?_) A6);obtain⟨lv,lw,lx,lz,l3,l4⟩:=iu f9;obtain⟨l5,b3,b4,cI,l6,l7⟩:=qm f9;go_simp;have ak:=ap0 ba (w.heap.size+2) (A2 s) (.map (Ax (w.heap.size+3))) (Y T 0) (Y T 0) (Y T 1) (B6 B4);have ad:Ad1 w E s (w.heap.size+2) (w.heap.size+3) (six ba (w.heap.size+2) (A2 s) (.map (Ax (w.heap.size+3))) (Y T 0) (Y T 0) (Y T 1) (B6 B4)):=by
   have a4:=an.size;refine⟨c5.grown ak c5.size (λbD e=>by cases e;omega),?_,?_,IB f9 _ _ _ _ _ _,cn.kept ak I,O,O⟩
   .exact(ak.block _ O I).trans ((an.block _ O).trans ((d9.block _ O).trans hC))
   .exact(ak.block _ O I).trans ((an.block _ O).trans ((d9.block _ O).trans c8))
  refine F _ _ (dK ad.b1) (λhS=>?_);clear F a2;refine wpAnyH_done J ?_ _;exact fo _ _ _ ad
