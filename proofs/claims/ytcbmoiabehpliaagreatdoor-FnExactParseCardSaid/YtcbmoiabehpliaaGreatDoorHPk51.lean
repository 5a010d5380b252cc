import Derived.Test.YtcbmoiabehpliaaGreatDoorHPk30
import Derived.Test.YtcbmoiabehpliaaGreatDoorHPk31
import Derived.Test.YtcbmoiabehpliaaGreatDoorHPk32
import Derived.Test.YtcbmoiabehpliaaGreatDoorHPk40
import Derived.Test.YtcbmoiabehpliaaGreatDoorHPk01
import Derived.Test.YtcbmoiabehpliaaGreatDoorHPk49
import Derived.Test.YtcbmoiabehpliaaGreatDoorHPk28
import Derived.Test.YtcbmoiabehpliaaGreatDoorHPk43
import Derived.Test.YtcbmoiabehpliaaGreatDoorHPk29
import Derived.Test.YtcbmoiabehpliaaGreatDoorHPk50
set_option linter.unusedSimpArgs false
set_option linter.unusedVariables false
set_option maxRecDepth 100000
set_option maxHeartbeats 12800000
namespace Go.Proofs.YtcbmoiabehpliaaGreatDoor
open Go.RowKit
def PM(E:Pe):kW->Nat->Fo->Nat->Prop
 | .unit,i,R,j=>CI E 153 #[pV E] i R j
 | .expr p,i,R,j=>CX E p i R j
 | .more p s x,i,R,j=>∃m,Ms E (CX E) p s m x i R j
 | .base,i,R,j=>CB E i R j
 | .post s x,i,R,j=>∃m,Ps E (wC E) (Ca E) s m x i R j
 | .exprs,i,R,j=>Ca E i R j
 | .moreE,i,R,j=>∃m,Ls E (wC E) m i R j
 | .moreB,i,R,j=>∃m,Ls E (CB E) m i R j
 | .stat,i,R,j=>JH E i R j
 | .stats,i,R,j=>∃m,Ss E (JH E) m i R j
 | .block,i,R,j=>CI E 94 #[pV E] i R j
 | .body s,i,R,j=>CI E 102 #[pV E,.agg (aW (nN 36 s) s0 s0)] i R j
 | .entry,i,R,j=>JI E i R j
 | .entries,i,R,j=>∃m,Es E (JI E) m i R j
 | .branch,i,R,j=>CI E 103 #[pV E,.agg (bg (E.tk i).k (E.tk i))] (i+1) R j
theorem Id{k:Int}(h:k=5\/k=6\/k=43):aZ k=false:=by rcases h with rfl|rfl|rfl<;>decide
theorem Ie{k:Int}(h:dM k=true):k=25\/k=50\/k=62\/k=69:=by
 have:=of_decide_eq_true h;omega
theorem Aa{E:Pe}(L:∀q,(E.tk q).k<=78){t:kW}{i j:Nat}{R:Fo}(h:P E.tk E.n t i R j):PM E t i R j:=by
 induction h with
 |upre a b d c=>have:=d.pos;simp only[bC]at this;exact BQ (Ie a) rfl b c (by omega) (by omega)
 |uint a b=>exact lI (.inl ⟨rfl,rfl,rfl,rfl⟩) a b
 |uflt a b=>exact lI (.inr (.inl ⟨rfl,rfl,rfl,rfl⟩)) a b
 |ustr a b=>exact lI (.inr (.inr ⟨rfl,rfl,rfl,rfl⟩)) a b
 |unil a b=>exact iS (.inl ⟨rfl,rfl⟩) a b
 |utru a b=>exact iS (.inr (.inl ⟨rfl,rfl⟩)) a b
 |ufls a b=>exact iS (.inr (.inr (.inl ⟨rfl,rfl⟩))) a b
 |urst a b=>exact iS (.inr (.inr (.inr ⟨rfl,rfl⟩))) a b
 |ufn a b d c=>exact EI a b c
 |utab a b d e f c=>obtain⟨g,c⟩:=c;exact Ci a b c e f
 |ubas a b d c=>exact zE a rfl b c
 |ex a b d e m o=>obtain⟨g,c⟩:=o;exact G1 a b L m c
 |mstop a b=>exact⟨0,.stop a b⟩
 |mgo a b d e f o x=>obtain⟨g,c⟩:=x;have:=e.pos;simp only[bC]at this;exact⟨g+1,.go a b d o (by omega) (by omega) c⟩
 |bname a b d c=>obtain⟨g,c⟩:=c;have:=d.pos;simp only[bC]at this;exact Cc a b (by omega) c
 |bopen a b d e f l m v=>obtain⟨g,c⟩:=v;have:=d.pos;have:=l.pos;simp only[bC]at *;exact Cd a b m e (by omega) (by omega) c
 |pstop a b=>exact⟨0,.stop a b⟩
 |pdot a b d e c=>obtain⟨g,c⟩:=c;have:=e.pos;exact⟨g+1,.dot a b (by omega) c⟩
 |psq a b d e f l m v=>obtain⟨g,c⟩:=v;have:=d.pos;simp only[bC]at this;have:=l.pos;exact⟨g+1,.sq a b m e (by omega) c⟩
 |pcall0 a b d e c=>obtain⟨g,c⟩:=c;have:=e.pos;exact⟨g+1,.call0 a b (by omega) c⟩
 |pcall a b d e f l u o w=>obtain⟨g,c⟩:=w;have:=e.pos;simp only[bC]at this;have:=u.pos;exact⟨g+1,.call a b d o f (by omega) c⟩
 |es a b C I=>obtain⟨g,c⟩:=I;exact EL C c
 |estop a b=>exact⟨0,.stop a b⟩
 |ego a b d e m o=>obtain⟨g,c⟩:=o;exact⟨g+1,.go a b m c⟩
 |bstop a b=>exact⟨0,.stop a b⟩
 |bgo a b d e m o=>obtain⟨g,c⟩:=o;exact⟨g+1,.go a b m c⟩
 |@body i k j s M r N a b d e c=>
  obtain⟨g,F,A,O,H⟩:=Pt.of d;have:=e.pos;simp only[bC]at this;obtain⟨y,rfl⟩:∃y,k=y+1:=⟨k-1,by omega⟩;exact G5 a b F A H c (by omega) (by omega)
 |block a b d e f c=>obtain⟨g,c⟩:=c;exact EJ a b (yk (.inl rfl) e c) e f
 |sstop a b=>exact⟨0,.stop b⟩
 |ssep a b d c=>obtain⟨g,c⟩:=c;exact⟨g+1,.sep a b c⟩
 |sgo a b d e f l x v=>obtain⟨g,c⟩:=v;exact⟨g+1,.go a b d e x c⟩
 |nstop a b=>exact⟨0,.stop a b⟩
 |ncom a b d e f l m v=>obtain⟨g,c⟩:=v;exact⟨g+1,.com a b m e f c⟩
 |nlast a b d e f l m v=>obtain⟨g,c⟩:=v;exact⟨g+1,.last a b m e f c⟩
 |item a b d e f c=>have:=f.pos;simp only[bC]at this;exact wP a b d e c (by omega) (by omega)
 |pair a b d e f l u m w=>have:=d.pos;have:=u.pos;simp only[bC]at *;exact wQ a b m e f l w (by omega) (by omega)
 |named a b d e f c=>have:=f.pos;simp only[bC]at this;exact uv a b d e c (by omega) (by omega)
 |belif a b d e f l u m o w=>have:=d.pos;have:=e.pos;have:=u.pos;simp only[bC]at *;exact ur a rfl b m o l f (by have q:CI E 103 #[pV E,.agg (bg (E.tk _).k (E.tk _))] (_+1) _ _:=w;rw[f]at q;exact q) (by omega) (by omega)
 |belse a b d e f l u m o w=>have:=d.pos;have:=e.pos;have:=u.pos;simp only[bC]at *;exact ut a rfl b m o l f w (by omega) (by omega)
 |bno a b d e f l u m o=>have:=d.pos;have:=e.pos;simp only[bC]at *;exact zI a rfl b m o u f l (by omega)
 |tlet0 a b d e f=>have:=e.pos;exact zJ a (by omega) (iT d b e) (by omega) (by omega) f
 |tlet a b d e f l c=>have:=e.pos;have:=l.pos;simp only[bC]at *;exact Ce a (by omega) (iT d b e) (by omega) (by omega) f c (by omega) (by omega)
 |@tcon i j Q a b d e f c=>have:=f.pos;simp only[bC]at *;exact wO a (by omega) (iT b (by omega) (.stop (by rw[d];decide) (by omega))) (by omega) (by omega) d c (by omega) (by omega)
 |tfn a b d e f c=>have:=f.pos;simp only[bC]at *;exact EU a b d e c (by omega) (by omega)
 |tif a b d c=>exact ET a b (by have q:CI E 103 #[pV E,.agg (bg (E.tk _).k (E.tk _))] (_+1) _ _:=c;rw[a]at q;exact q)
 |twhile a b d e m o=>have:=d.pos;have:=e.pos;simp only[bC]at *;exact wM a b m o (by omega) (by omega)
 |tfor a b d e f l u v w=>have:=e.pos;have:=l.pos;have:=u.pos;simp only[bC]at *;exact uq a (by omega) (Ch a (by omega) (iT d b e) (by omega) f v w (by omega) (by omega))
 |teach a b d e f l u z B v J=>have:=e.pos;have:=l.pos;have:=B.pos;simp only[bC]at *;exact uq a (by omega) (zL a (by omega) (iT d b e) (by omega) f v J (by omega) (by omega))
 |tbreak a b=>exact qC (.inl ⟨rfl,rfl⟩) a b
 |tnext a b=>exact qC (.inr ⟨rfl,rfl⟩) a b
 |tret0 a b d=>exact zK a b (Id d)
 |tret a b d e c=>have:=e.pos;simp only[bC]at *;exact Cf a b d c (by omega) (by omega)
 |ttry a b d e f l u z m G=>have:=d.pos;have:=u.pos;have:=z.pos;simp only[bC]at *;exact Cg a b m e f (iT l f u) G (by omega) (by omega)
 |tthrow a b d c=>have:=d.pos;simp only[bC]at *;exact wJ a b c (by omega) (by omega)
 |tdefer a b d c=>have:=d.pos;simp only[bC]at *;exact wK a b c (by omega) (by omega)
 |tblock a b d c=>exact wL a b c
 |tdo a b d e f l c=>have:=d.pos;simp only[bC]at *;exact mc a rfl b (zG a rfl b c e f l (by omega))
 |tset a b d e f l u m o w=>obtain⟨g,o⟩:=o;have:=d.pos;have:=e.pos;have:=u.pos;simp only[bC]at *;exact mc a rfl b (wI a rfl b m o f l w (by omega) (by omega) (by omega))
end Go.Proofs.YtcbmoiabehpliaaGreatDoor
namespace Go.Proofs.YtcbmoiabehpliaaGreatDoor
open Go.RowKit Go.Maps Go.WideMaps
theorem row3{w:World}{r:Nat}{b a c:Value}{t:TypeId}(h:w.heap[r]?=some (.cells #[b,a,c] t (0,0))):w.cell? ⟨r,0,none⟩=some b/\w.cell? ⟨r,1,none⟩=some a/\w.cell? ⟨r,2,none⟩=some c/\∀j,w.frozen? ⟨r,j,none⟩=false:=
 ⟨by rw[cell_of_row _ _ _ _ _ _ h];rfl,by rw[cell_of_row _ _ _ _ _ _ h];rfl,by rw[cell_of_row _ _ _ _ _ _ h];rfl,fun j=>frozen_of_row _ _ _ _ _ h⟩
theorem Ab{w:World}{r:Nat}{f e d:Value}{t:TypeId}(h:w.heap[r]?=some (.cells #[f,e,d] t (0,0)))(a b c:Value):(((w.setCell ⟨r,0,none⟩ a).setCell ⟨r,1,none⟩ b).setCell ⟨r,2,none⟩ c).heap[r]?=some (.cells #[a,b,c] t (0,0)):=
 heap_setCell_same _ r 2 _ _ _ (heap_setCell_same _ r 1 _ _ _ (heap_setCell_same _ r 0 _ _ _ h))
theorem F8{w:World}{r k:Nat}(h:k≠r)(b a c:Value):(((w.setCell ⟨r,0,none⟩ b).setCell ⟨r,1,none⟩ a).setCell ⟨r,2,none⟩ c).heap[k]?=w.heap[k]?:=
 (heap_setCell_other _ _ _ _ h).trans ((heap_setCell_other _ _ _ _ h).trans (heap_setCell_other _ _ _ _ h))
theorem qN{a w:World}{r:Nat}(h:Below r a w)(b c f:Value):Below r a (((w.setCell ⟨r,0,none⟩ b).setCell ⟨r,1,none⟩ c).setCell ⟨r,2,none⟩ f):=by
 have d:Below r a (w.setCell ⟨r,0,none⟩ b):=h.setCell (Nat.le_refl _) _;have e:Below r a ((w.setCell ⟨r,0,none⟩ b).setCell ⟨r,1,none⟩ c):=d.setCell (Nat.le_refl _) _;exact e.setCell (Nat.le_refl _) _
theorem sy(w:World):bf w (.slice none 0 0) []:= .inl ⟨rfl,_,_,rfl⟩
theorem qd(w:World)(s:ByteArray)(b:65536<s.size)(c:s.size<=1048576):Calls Tryz.prog 4 #[.string s] w (Fv w 2 0 []):=by
 have a:∀w:World,(zeroValue 26).run Tryz.prog w= .ok (.agg #[.int .i64 0,.int .i64 0,.slice none 0 0]) w:=fun w=>by kernel_rfl
 have d:(65536:Int)<(s.size:Int):=by omega
 go_in;go_wp2_with fail;exact bodyPost_ret (results_cell_row rfl _ _ w.heap.size _ _ _ _ rfl (heap_alloc_new w _) Tryz.underlying26 rfl (by kernel_rfl)) rfl (show Fv _ _ _ _ _ _ from⟨_,rfl,sy _,ax w _⟩)
theorem sA(w:World)(s:ByteArray)(g:s.size<=65536){z:Int}(u:0<=z)(d:gO s=([],z)):Calls Tryz.prog 4 #[.string s] w (Fv w 1 z []):=by
 have o:∀w:World,(zeroValue 26).run Tryz.prog w= .ok (.agg #[.int .i64 0,.int .i64 0,.slice none 0 0]) w:=fun w=>by kernel_rfl
 have x:¬(65536:Int)<(s.size:Int):=by omega
 have a:=fun w=>kQ w s g;unfold ID at a;rw[d]at a;clear d;have b:=ax w (.cells #[.int .i64 0,.int .i64 0,.slice none 0 0] 26);have c:=heap_alloc_new w (.cells #[.int .i64 0,.int .i64 0,.slice none 0 0] 26);go_in;go_wp2_with fail;generalize w.alloc (.cells #[.int .i64 0,.int .i64 0,.slice none 0 0] 26)=t at b c⊢;refine(a _).mono ?_;rintro q i ⟨l,j,rfl,_,f⟩;have e:=(f.block _ (lt_of_block c)).trans c;have h:Below w.heap.size w i:=b.trans (f.mono b.size);obtain⟨m,v,k,n⟩:=row3 e;clear a;go_wp2_with fail;exact bodyPost_ret (results_cell_row rfl _ _ w.heap.size _ _ _ _ rfl (Ab e _ _ _) Tryz.underlying26 rfl (by kernel_rfl)) rfl (show Fv _ _ _ _ _ _ from⟨_,rfl,sy _,qN h _ _ _⟩)
theorem sC(w:World)(s:ByteArray)(bA:s.size<=65536){toks:List Tk}{m:Nat}{R:Fo}{bE:Int}(a0:gO s=(toks, -1))(a8:PF s toks m R bE):Calls Tryz.prog 4 #[.string s] w (Fv w (F7 (gy s R)) 0 (Fw (gy s R))):=by
 have cl:∀w:World,(zeroValue 26).run Tryz.prog w= .ok (.agg #[.int .i64 0,.int .i64 0,.slice none 0 0]) w:=fun w=>by kernel_rfl
 have cf:¬(65536:Int)<(s.size:Int):=by omega
 have o:=fun w=>kQ w s bA;unfold ID at o;rw[a0]at o;clear a0;obtain⟨e,L⟩:=ah toks.length;have a:=cK a8 L;simp only[L]at o;clear a8 L;have O:=ax w (.cells #[.int .i64 0,.int .i64 0,.slice none 0 0] 26);have Z:=heap_alloc_new w (.cells #[.int .i64 0,.int .i64 0,.slice none 0 0] 26);go_in;go_wp2_with fail;generalize w.alloc (.cells #[.int .i64 0,.int .i64 0,.slice none 0 0] 26)=b8 at O Z⊢;refine(o _).mono ?_;rintro bx c ⟨q,f,rfl,a1,an⟩;have X:=(an.block _ (lt_of_block Z)).trans Z;have a3:Below w.heap.size w c:=O.trans (an.mono O.size);have a6:e=m+1:=by rw[<-a.out.2];exact a.out.1.len
 obtain⟨h,F,rfl,ao,bb⟩:∃h F,q=some ⟨h,0,none⟩/\c.heap[h]?=some (.cells F 45 (0,0))/\GL F (jK toks) e:=by
  rcases a1.2 with⟨_,j⟩|⟨bN,cc,bl,bk,cb,bd,ch,ck,b4,b0⟩
  ·omega
  ·cases bk;exact⟨bN,bl,rfl,bd,C9 b0 a.out.2 (fun bD b5 am=>by rw[oZ am];exact⟨rfl,fun _=>rfl⟩)⟩
 obtain⟨bD,hS⟩:PM ⟨c.heap.size,c.heap.size+1,h,f,e,jK toks⟩ .stats 0 R m:=Aa (E:=⟨c.heap.size,c.heap.size+1,h,f,e,jK toks⟩) a.out.1.k78 (a6 ▸ a.out.1.p);have a5:=EN s c h f e m (jK toks) F (0,0) ao bb (by have:=a.out.1.le;omega) (by omega) (R:=R) (yk (E:=⟨c.heap.size,c.heap.size+1,h,f,e,jK toks⟩) (.inr rfl) (by show(jK toks m).k=6;rw[a.out.1.end_]) hS) (by have:=a.out.1.sz;omega);clear hS;clear o a1 ao bb a6;go_wp2_with fail;refine a5.mono ?_;rintro bx d ⟨a9,a7,rfl,J,W,ak⟩;have T:bf d a9 (gy s R):=by have:=J.nds;rw[W]at this;exact this
 have B:=(ak.block _ (lt_of_block X)).trans X;have V:Below w.heap.size w d:=a3.trans (ak.mono a3.size);obtain⟨n,u,y,rfl⟩:∃q e f,a9= .slice q e f:=by obtain⟨q,f,H⟩:=T.form;exact⟨q,_,f,H⟩
 have bw:=a.out.1.ct;have bn:(gy s R).length<=1048576:=by
  have:=a.out.1.sz;unfold gy;rw[Fo.flat_len,ag];omega
 have Q:=fun k=>xj (d.alloc k) (.slice n u y) (gy s R) (T.below (ax d k)) bn a.out.1.sm;have a2:Hid (Lw d c.heap.size (.slice n u y) a7/\a7.map Mb.N=gy s R):=⟨J,W⟩;have v:Hid (F7 (gy s R)=(if(bv (gy s R)).1=0 then 0 else 2)/\Fw (gy s R)=(if(bv (gy s R)).1=0 then gy s R else [])):=⟨rfl,rfl⟩;obtain⟨G,U⟩:=ah ((bv (gy s R)).1);obtain⟨x,ar⟩:=ah ((bv (gy s R)).2);rw[U]at v;simp only[U,ar]at Q;have ap:=heap_alloc_new d (.cells #[.slice n u y] 24);have t:=ax d (.cells #[.slice n u y] 24);have b1:=t.size;clear a5 T U ar bw J W;go_wp2_with fail;refine au (Q _) fun b C=>?_;have a4:=(C.block _ (lt_of_block ap)).trans ap;have al:=(C.block _ (lt_of_block ((t.block _ (lt_of_block B)).trans B))).trans ((t.block _ (lt_of_block B)).trans B);have I:Below w.heap.size w b:=(V.trans (t.mono V.size)).trans (C.mono (Nat.le_trans V.size b1));have b7:=lt_of_block a4;clear Q;have l:∀(g:Nat)(S:Array Value)(Y:TypeId)(af:Nat×Nat)(k:Obj),b.heap[g]?=some (.cells S Y af)->(b.alloc k).heap[g]?=some (.cells S Y af):=fun g S Y af k H=>((ax b k).block _ (lt_of_block H)).trans H;have cg:w.heap.size≠d.heap.size:=by have:=lt_of_block B;omega
 by_cases j:G=0
 ·subst j;have A:=l _ _ _ _ (.cells #[.int .i64 0,.int .i64 x] 36) al;obtain⟨br,bt,bo,bh⟩:=row3 A;have ca:(b.alloc (.cells #[.int .i64 0,.int .i64 x] 36)).cell? ⟨d.heap.size,0,none⟩=some (.slice n u y):=by rw[cell_of_row _ _ _ _ _ _ (l _ _ _ _ _ a4)];rfl
  have i:=v.out;rw[if_pos rfl,if_pos rfl]at i;have z:=ab i;have M:Below w.heap.size w (b.alloc (.cells #[.int .i64 0,.int .i64 x] 36)):=I.trans ((ax b _).mono I.size);clear i v l;go_wp2_with fail;exact bodyPost_ret (results_cell_row rfl _ _ w.heap.size _ _ _ _ rfl (Ab A _ _ _) Tryz.underlying26 rfl (by kernel_rfl)) rfl (show Fv w (F7 (gy s R)) 0 (Fw (gy s R)) _ _ from by rw[z.out.1,z.out.2];exact⟨_,rfl,by rw[<-a2.out.2];exact(a2.out.1.mono fun g b9 bs=>(F8 (by have:=lt_of_block X;omega) _ _ _).trans (((ax b _).block g (by have:=C.size;omega)).trans ((C.block g (by omega)).trans (t.block g bs)))).nds,qN M _ _ _⟩)
 ·have A:=l _ _ _ _ (.cells #[.int .i64 G,.int .i64 x] 36) al;obtain⟨br,bt,bo,bh⟩:=row3 A;have i:=v.out;rw[if_neg j,if_neg j]at i;have z:=ab i;have am:(G==0)=false:=by simpa using j
  have M:Below w.heap.size w (b.alloc (.cells #[.int .i64 G,.int .i64 x] 36)):=I.trans ((ax b _).mono I.size);clear i v j l;go_wp2_with fail;exact bodyPost_ret (results_cell_row rfl _ _ w.heap.size _ _ _ _ rfl (Ab A _ _ _) Tryz.underlying26 rfl (by kernel_rfl)) rfl (show Fv w (F7 (gy s R)) 0 (Fw (gy s R)) _ _ from by rw[z.out.1,z.out.2];exact⟨_,rfl,sy _,qN M _ _ _⟩)
theorem De(a b:ByteArray):∀(f n:Nat),a.size<n+f->n<=a.size->n<=b.size->(∀i,i<n->ae a i=ae b i)->(vA a b f n<=a.size/\vA a b f n<=b.size)/\(∀i,i<vA a b f n->ae a i=ae b i)/\¬(vA a b f n<a.size/\vA a b f n<b.size/\ae a (vA a b f n)=ae b (vA a b f n))
 |0,n,h,d,e,c=>by omega
 |f+1,n,h,d,e,c=>by
  rw[vA];split
  ·rename_i g;refine De a b f (n+1) (by omega) (by omega) (by omega) (fun i j=>?_);rcases Nat.lt_or_ge i n with q|q
   ·exact c i q
   ·obtain rfl:i=n:=by omega
    exact g.2.2
  ·rename_i g;exact⟨⟨d,e⟩,c,g⟩
theorem yH{a b:ByteArray}{m:Nat}:m<=wY a b↔m<=a.size/\m<=b.size/\∀i,i<m->ae a i=ae b i:=by
 obtain⟨⟨h,g⟩,e,j⟩:=De a b (a.size+1) 0 (by omega) (Nat.zero_le _) (Nat.zero_le _) (fun i d=>by omega);unfold wY;constructor
 ·intro c;exact⟨Nat.le_trans c h,Nat.le_trans c g,fun i d=>e i (Nat.lt_of_lt_of_le d c)⟩
 ·rintro ⟨l,k,f⟩;rcases Nat.lt_or_ge (vA a b (a.size+1) 0) m with q|q
  ·exact absurd ⟨by omega,by omega,f _ q⟩ j
  ·exact q
theorem Df(x:ByteArray){m:Nat}:∀(b:List Int)(a:Nat),m<=CG x b a↔m<=a\/∃k∈b,m<=wZ k x
 |[],a=>by simp[CG]
 |k::b,a=>by
  show m<=CG x b (max a (wZ k x))↔_;rw[Df x b];constructor
  ·rintro (h|⟨c,h1,d⟩)
   ·rcases(show m<=a\/m<=wZ k x by omega) with h|h
    ·exact .inl h
    ·exact .inr ⟨k,List.mem_cons_self,h⟩
   ·exact .inr ⟨c,List.mem_cons_of_mem _ h1,d⟩
  ·rintro (h|⟨c,h1,d⟩)
   ·exact .inl (by omega)
   ·rcases List.mem_cons.1 h1 with rfl|h1
    ·exact .inl (by omega)
    ·exact .inr ⟨c,h1,d⟩
theorem yI(x:ByteArray):∀(d:List Int),EM x d=true↔∃k∈d,IT (ae x 0) k=true\/IU x k=true
 |[]=>by simp[EM]
 |k::r=>by
  rw[EM];constructor
  ·intro h;split at h
   ·exact⟨k,List.mem_cons_self,.inl ‹_›⟩
   split at h
   ·exact⟨k,List.mem_cons_self,.inr ‹_›⟩
   ·obtain⟨c,a,b⟩:=(yI x r).1 h;exact⟨c,List.mem_cons_of_mem _ a,b⟩
  ·rintro ⟨c,a,b⟩;split
   ·rfl
   split
   ·rfl
   ·rename_i f e;rcases List.mem_cons.1 a with rfl|a
    ·exact absurd b (by simp[f,e])
    ·exact(yI x r).2 ⟨c,a,b⟩
theorem If{a b:ByteArray}(e:a.size=b.size)(h:∀i,i<a.size->ae a i=ae b i):a=b:=by
 apply ByteArray.ext;refine Array.ext e (fun i d f=>?_);have c:=h i d;unfold ae at c;rw[dif_pos (show i<a.size from d),dif_pos (show i<b.size from f)]at c;exact UInt8.toNat_inj.1 (Int.ofNat_inj.1 c)
theorem yJ{x:ByteArray}{k:Int}:IU x k=true↔x.size<=(js k).size/\∀i,i<x.size->ae x i=ae (js k) i:=by
 unfold IU;rw[Bool.and_eq_true,decide_eq_true_iff,beq_iff_eq,ByteArray.toList_eq,ByteArray.toList_eq];refine and_congr_right (fun f=>?_);have c:((js k).extract 0 x.size).size=x.size:=by rw[ByteArray.size_extract];omega
 have d:∀i,i<x.size->ae ((js k).extract 0 x.size) i=ae (js k) i:=fun i a=>by rw[cV _ 0 _ i f (by omega),Nat.zero_add]
 constructor
 ·intro b i a;have e:(js k).extract 0 x.size=x:=ByteArray.ext (Array.toList_inj.1 b);rw[<-d i a,e]
 ·intro b;rw[If c (fun i a=>by rw[c]at a;rw[d i a,b i a])]
theorem Dg(s:ByteArray):∀(f p i:Nat),p<=i->i<eo s f p->aC (ae s i)=true\/aG (ae s i)=true
 |0,p,i,b,a=>by rw[eo]at a;omega
 |f+1,p,i,b,a=>by
  rw[eo]at a;split at a
  ·rename_i g;rcases Nat.eq_or_lt_of_le b with rfl|q
   ·exact g
   ·exact Dg s f (p+1) i q a
  ·omega
theorem Dh(s:ByteArray):∀(f p:Nat),s.size<p+f->¬(aC (ae s (eo s f p))=true\/aG (ae s (eo s f p))=true)
 |0,p,h=>by rw[eo];exact nD (by omega)
 |f+1,p,h=>by
  rw[eo];split
  ·exact Dh s f (p+1) (by omega)
  ·assumption
theorem xk(s:ByteArray):∀(f p m:Nat),m<=f->(∀i,i<m->aC (ae s (p+i))=true)->p+m<=eo s f p
 |0,p,m,h,g=>by rw[eo];omega
 |f+1,p,0,h,g=>by
  rw[eo];split
  ·have:=xk s f (p+1) 0 (Nat.zero_le _) (fun i a=>by omega);omega
  ·omega
 |f+1,p,m+1,h,g=>by
  rw[eo,if_pos (.inl (g 0 (by omega)))];have:=xk s f (p+1) m (by omega) (fun i a=>by have:=g (i+1) (by omega);rwa [show p+(i+1)=p+1+i by omega]at this);omega
theorem Lm:∀k:Fin 79,aC (ae (bR (k.val:Int)) 0)=true->∀i:Fin 6,i.val<(bR (k.val:Int)).size->aC (ae (bR (k.val:Int)) i.val)=true:=by decide+kernel
theorem KO:∀k:Fin 79,aG (ae (bR (k.val:Int)) 0)=false/\ae (bR (k.val:Int)) 0≠34/\(k.val<=4->(bR (k.val:Int)).size=0):=by decide+kernel
theorem Ln:∀k:Fin 79,k.val≠7->aC (ae (bR (k.val:Int)) 0)=false->(bR (k.val:Int)).size<=3/\∀m:Fin 4,1<=m.val->m.val<=(bR (k.val:Int)).size->∃i:Fin 30,aD cL i.val=(bR (k.val:Int)).extract 0 m.val:=by decide+kernel
theorem Ig:∀i j:Fin 30,j.val<=i.val->ae (aD cL j.val) 0=ae (aD cL i.val) 0->(aD cL i.val).size<=(aD cL j.val).size:=by decide+kernel
theorem Ih:∀i:Fin 30,(aD cL i.val).size≠0:=by decide+kernel
theorem Di(q:ByteArray->Bool):∀(f k i:Nat),k<=i->i<k+f->q (aD cL i)=true->∃j,iW q f k=some j/\j<=i/\q (aD cL j)=true
 |0,k,i,h1,a,h=>by omega
 |f+1,k,i,h1,a,h=>by
  rw[iW];split
  ·rename_i g;exact⟨k,rfl,h1,g⟩
  ·rename_i g;rcases Nat.eq_or_lt_of_le h1 with rfl|h1
   ·exact absurd h g
   ·exact Di q f (k+1) i h1 (by omega) h
theorem Ii{s:ByteArray}{i:Nat}(h:0<=ae s i):i<s.size:=by
 rcases Nat.lt_or_ge i s.size with g|g
 ·exact g
 ·rw[aX (by omega)]at h;omega
theorem Ij{s:ByteArray}{i:Nat}(h:i<s.size):0<=ae s i:=by unfold ae;rw[dif_pos h];omega
theorem Fx{s:ByteArray}{p:Nat}(H:ae s p≠10){k:Int}(L:1<=k/\k<=78)(N:k≠7){m:Nat}(B:1<=m)(u:m<=(bR k).size)(c:∀i,i<m->ae s (p+i)=ae (bR k) i):p+m<=(rdI s p).a:=by
 obtain⟨k,rfl⟩:∃q:Fin 79,k=(q.val:Int):=⟨⟨k.toNat,by omega⟩,by simp;omega⟩;have f:=c 0 (by omega);rw[Nat.add_zero]at f;have v:∀i,i<m->p+i<s.size:=fun i e=>Ii (by rw[c i e];exact Ij (by omega));have M:=v (m-1) (by omega);obtain⟨C,F,_⟩:=KO k;have O:=CE (k.val:Int);unfold rdI;by_cases h:aC (ae s p)=true
 ·rw[if_pos h];have q:=Lm k (by rw[<-f];exact h);exact xk s (s.size+1) p m (by omega) (fun i e=>by rw[c i e];exact q ⟨i,by omega⟩ (by show i<_;omega))
 rw[if_neg h,if_neg (by rw[f,C];simp),if_neg (by rw[f];exact F)];obtain⟨I,y⟩:=Ln k (by omega) (by rw[<-f];simpa using h);obtain⟨i,e⟩:=y ⟨m,by omega⟩ B u;have o:∀b,b<m->ae (s.extract p s.size) b=ae s (p+b):=fun b d=>cV s p s.size b (Nat.le_refl _) (v b d);have G:((bR (k.val:Int)).extract 0 m).size=m:=by rw[ByteArray.size_extract];omega
 have n:∀b,b<m->ae (s.extract p s.size) b=ae ((bR (k.val:Int)).extract 0 m) b:=fun b d=>by rw[o b d,c b d,cV _ 0 m b u (by omega),Nat.zero_add]
 have t:Lib.hasPrefix (s.extract p s.size).data.toList (aD cL i.val).data.toList=true:=by
  rw[e,wD _ _ (by show((bR (k.val:Int)).extract 0 m).size<=3;omega)];unfold pB;rw[decide_eq_true_iff];show(((bR (k.val:Int)).extract 0 m).size=0\/_)/\(((bR (k.val:Int)).extract 0 m).size<=1\/_)/\(((bR (k.val:Int)).extract 0 m).size<=2\/_);rw[G];refine⟨.inr (n 0 (by omega)),?_,?_⟩
  ·rcases Nat.lt_or_ge 1 m with q|q
   ·exact .inr (n 1 q)
   ·exact .inl q
  ·rcases Nat.lt_or_ge 2 m with q|q
   ·exact .inr (n 2 q)
   ·exact .inl q
 have l:=rN (s.extract p s.size) (by rw[o 0 (by omega)];exact H);obtain⟨b,d,A,x⟩:=Di (fun w=>Lib.hasPrefix (s.extract p s.size).data.toList w.data.toList) 30 0 i.val (Nat.zero_le _) (by omega) t;unfold oG at l;rw[d]at l;obtain⟨_,z,E,_⟩:=l;rw[if_neg E];have first:∀(i:Fin 30),Lib.hasPrefix (s.extract p s.size).data.toList (aD cL i.val).data.toList=true->ae (s.extract p s.size) 0=ae (aD cL i.val) 0:=fun i j=>by
  have c:=BU i;unfold FO at c;rw[wD _ _ (of_decide_eq_true c).1]at j;unfold pB at j;rcases(of_decide_eq_true j).1 with g|g
  ·exact absurd g (Ih i)
  ·exact g
 have q:=Ig i ⟨b,by omega⟩ A ((first ⟨b,by omega⟩ x).symm.trans (first i t));rw[e]at q;show p+m<=p+(bR (gU (s.extract p s.size))).size;have J:((bR (k.val:Int)).extract 0 m).size<=(aD cL b).size:=q;rw[z];omega
section
variable {s : ByteArray} {p r : Nat} {K : List Int}
theorem xl(i:∀m,1<=m->m<=r->p+m<=s.size/\iC K (s.extract p (p+m))=true)(h:∀m,1<=m->m<r->jB s p m=false)(e:p+(r+1)<=s.size->iC K (s.extract p (p+(r+1)))=true->1<=r/\jB s p r=true):∀(f n:Nat),n<=r->r<n+f->(n=r->1<=r->jB s p r=false)->FM s p K f n=r
 |0,n,a,b,_=>by omega
 |f+1,n,a,b,c=>by
  rw[FM];rcases Nat.lt_or_ge n r with q|q
  ·obtain⟨o,k⟩:=i (n+1) (by omega) q;rw[if_pos ⟨by omega,k⟩];rcases Nat.lt_or_ge (n+1) r with q2|q2
   ·rw[if_neg (by rw[h (n+1) (by omega) q2];simp)];exact xl i h e f (n+1) q (by omega) (fun d=>by omega)
   ·have d:n+1=r:=by omega
    split
    ·exact d
    ·rename_i g;exact xl i h e f (n+1) (by omega) (by omega) (fun _ _=>by rw[<-d];simpa using g)
  ·have d:n=r:=by omega
   rw[if_neg (fun g=>by
    obtain⟨l,j⟩:=e (by omega) (by rw[<-d];exact g.2);rw[c d l]at j;cases j)]
   exact d
theorem Ik(A:fG s p)(W:∀k∈K,1<=k/\k<=78)(N:aG (ae s p)=true->2 ∉ K/\3 ∉ K)(Y:ae s p=34->4 ∉ K)(M:ae s p≠10):FM s p K (s.size+1) 0=CG (s.extract p (rdI s p).a) K (wY (s.extract p (rdI s p).a) jm):=by
 obtain⟨U,L⟩:=xd s p A.lt;have ao:=A.lt;obtain⟨a,C⟩:=ah ((rdI s p).a);have B:=fun {k:Int} e j {m:Nat} F u d=>Fx (s:=s) (p:=p) M (k:=k) e j (m:=m) F u d;rw[C]at U L B⊢;have H:(s.extract p a).size=a-p:=by rw[ByteArray.size_extract];omega
 have d:∀b,b<a-p->ae (s.extract p a) b=ae s (p+b):=fun b c=>cV s p a b L (by omega);have V:CG (s.extract p a) K (wY (s.extract p a) jm)<=a-p:=by rw[<-H];exact xb _ _ _ (oS _ _ _ _ (Nat.zero_le _))
 have l:=fun m=>Df (s.extract p a) (m:=m) K (wY (s.extract p a) jm);generalize CG (s.extract p a) K (wY (s.extract p a) jm)=v at V l;have ap:jm.size=2:=rfl;have J:∀m,p+m<=s.size->(s.extract p (p+m)).size=m/\∀b,b<m->ae (s.extract p (p+m)) b=ae s (p+b):=fun m ak=>⟨by rw[ByteArray.size_extract];omega,fun b c=>cV s p (p+m) b ak (by omega)⟩;refine xl (fun m F u=>⟨by omega,?_⟩) (fun m F u=>?_) (fun S y=>?_) (s.size+1) 0 (Nat.zero_le _) (by omega) (fun _ _=>by omega)
 ·obtain⟨o,f⟩:=J m (by omega);unfold iC;rcases(l m).1 u with h|⟨k,e,h⟩
  ·obtain⟨am,O,n⟩:=yH.1 h;have z:=n 0 (by omega);rw[d 0 (by omega)]at z;rcases(show m=1\/m=2 by omega) with rfl|rfl
   ·rw[if_pos ⟨o,by rw[f 0 (by omega),z];rfl⟩]
   ·have R:=n 1 (by omega);rw[d 1 (by omega)]at R;exact absurd ⟨z,R⟩ A.nd
  ·split
   ·rfl
   refine(yI _ K).2 ⟨k,e,?_⟩;unfold wZ at h;rw[if_neg (by omega)]at h;have T:ae (s.extract p a) 0=ae (s.extract p (p+m)) 0:=by rw[d 0 (by omega),f 0 (by omega)]
   split at h
   ·rename_i E;split at h
    ·rename_i i;left;rw[T]at i;unfold IT;rw[decide_eq_true_iff];unfold Fe at i;rcases E with rfl|rfl|rfl|rfl
     ·exact .inl ⟨rfl,i⟩
     ·exact .inr (.inl ⟨.inl rfl,i⟩)
     ·exact .inr (.inl ⟨.inr rfl,i⟩)
     ·exact .inr (.inr ⟨rfl,of_decide_eq_true i⟩)
    ·omega
   ·obtain⟨am,O,n⟩:=yH.1 h;have j:k≠7:=fun g=>by
     subst g;have:=n 0 (by omega);rw[d 0 (by omega)]at this;exact M this
    right;rw[yJ,xP k j,o];exact⟨O,fun b c=>by rw[f b c,<-n b c,d b (by omega)]⟩
 ·unfold jB;by_cases I:aC (ae s p)=true
  ·have g:a=eo s (s.size+1) p:=by rw[<-C];unfold rdI;rw[if_pos I]
   have q:=Dg s (s.size+1) p (p+m) (by omega) (by omega);have af:lk s (p+m)=ae s (p+m):=by unfold lk;rw[if_pos (by omega)]
   rw[af];rcases q with q|q<;>simp[q]
  ·simp[I]
 ·obtain⟨o,f⟩:=J (v+1) S;unfold iC at y;split at y
  ·rename_i Z;have G:=Z.2;rw[f 0 (by omega)]at G;have q:=B (k:=62) (by decide) (by decide) (m:=1) (by omega) (by decide) (fun b c=>by obtain rfl:b=0:=(by omega);exact G);have:=(l 1).2 (.inl (yH.2 ⟨by omega,by omega,fun b c=>by obtain rfl:b=0:=(by omega);rw[d 0 (by omega)];exact G⟩));omega
  ·obtain⟨k,e,h⟩:=(yI _ K).1 y;rw[f 0 (by omega),Nat.add_zero]at h;rcases h with h|h
   ·unfold IT at h;rw[decide_eq_true_iff]at h;rcases h with⟨rfl,h⟩|⟨X,h⟩|⟨rfl,h⟩
    ·have g:a=eo s (s.size+1) p:=by rw[<-C];unfold rdI;rw[if_pos h]
     have an:=rz s p h;have q:=(l (a-p)).2 (.inr ⟨1,e,by unfold wZ;rw[if_neg (by omega),if_pos (.inl rfl),if_pos (by rw[d 0 (by omega)];exact h),H];exact Nat.le_refl _⟩);have w:=Dh s (s.size+1) p (by omega);rw[<-g]at w;obtain rfl:v=a-p:=by omega
     refine⟨by omega,?_⟩;unfold jB lk;rw[show p+(a-p)=a by omega];by_cases Q:a<s.size
     ·rw[if_pos Q];simp only[not_or,Bool.not_eq_true]at w;simp[h,w.1,w.2]
     ·rw[if_neg Q,h];decide
    ·exact absurd e (by rcases X with rfl|rfl;exact(N h).1;exact(N h).2)
    ·exact absurd e (Y h)
   ·obtain⟨x,t⟩:=yJ.1 h;rw[o]at x t;have j:k≠7:=fun g=>by
     subst g;have:(js 7).size=0:=by decide+kernel
     omega
    rw[xP k j]at x t;have al:=W k e;have q:=B al j (m:=v+1) (by omega) x (fun b c=>by rw[<-t b c,f b c]);have E:¬(k=1\/k=2\/k=3\/k=4):=fun g=>by
     have:=(KO ⟨k.toNat,by omega⟩).2.2 (by show k.toNat<=4;omega);rw[show(((⟨k.toNat,by omega⟩:Fin 79).val:Nat):Int)=k by simp;omega]at this;omega
    have:=(l (v+1)).2 (.inr ⟨k,e,by unfold wZ;rw[if_neg (by omega),if_neg E,yH,H];exact⟨by omega,x,fun b c=>by rw[d b (by omega),<-f b c,t b c]⟩⟩);omega
end
theorem jM(st:List Int):∀(j:Nat)(k:Int),k∈dO st j↔1<=k/\k<=(j:Int)/\ce st k=true
 |0,k=>by simp[dO];omega
 |j+1,k=>by
  rw[dO];split
  ·rename_i g;rw[List.mem_append,jM st j,List.mem_singleton];constructor
   ·rintro (h|rfl)
    ·exact⟨h.1,by omega,h.2.2⟩
    ·exact⟨by omega,by omega,g⟩
   ·rintro ⟨b,c,a⟩;by_cases e:k=(j:Int)+1
    ·exact .inr e
    ·exact .inl ⟨b,by omega,a⟩
  ·rename_i g;rw[jM st j];constructor
   ·exact fun h=>⟨h.1,by omega,h.2.2⟩
   ·rintro ⟨b,c,a⟩;have e:k≠(j:Int)+1:=fun e=>g (e ▸ a);exact⟨b,by omega,a⟩
theorem xm(s:ByteArray)(p:Nat):(aG (ae s p)=true/\(gW s p=2\/gW s p=3))\/(ae s p=34/\gW s p=4)\/(gW s p=0/\aG (ae s p)=false/\ae s p≠34):=by
 unfold gW;by_cases a:aG (ae s p)=true
 ·rw[if_pos a];exact .inl ⟨a,by split;exact .inl rfl;exact .inr rfl⟩
 ·rw[if_neg a];by_cases b:ae s p=34
  ·rw[if_pos b];exact .inr (.inl ⟨b,rfl⟩)
  ·rw[if_neg b];exact .inr (.inr ⟨rfl,by simpa using a,b⟩)
theorem uK.at_{s:ByteArray}{R:List Tk×List Int×Int}{z:Int}(h:uK s R z):z=R.2.2:=by
 obtain⟨p,g,n,S,T,Q,k,j,y,N⟩:=h.ex;have t:dO g 78=lG n:=j.sim.nm 78 (Nat.le_refl _);have l:∀i,1<=i->i<=78->ce g i=(feedL n i).2:=fun i v M=>j.sim.may v M;have w:ce g 2=ce g 3:=by rw[l 2 (by omega) (by omega),l 3 (by omega) (by omega)];exact FH n j.sim.o2 j.n23
 have x:(aG (ae s p)=true->ce g 2=false\/ce g 3=false)->(ae s p=34->ce g 4=false)->ae s p≠10->z=(wrongF s p (lG n):Nat):=fun B F I=>by
  have C:=Ik (K:=lG n) k (fun i c=>by rw[<-t]at c;have:=(jM g 78 i).1 c;omega) (fun b=>by
   rw[<-t,jM,jM];have:=B b;rw[w]at this;simp[w,this.elim id id]) (fun b=>by rw[<-t,jM];simp[F b]) I
  rw[y];unfold wrongF jH;rw[C,t];omega
 cases c:(rdI s p).ok with
 |true=>
  obtain⟨q,d⟩:=N c;rw[j.stop k c q d];unfold rdI at q d c;refine x (fun b=>?_) (fun b=>?_) (fun b=>?_)
  ·have A:¬aC (ae s p)=true:=fun m=>by simp[aC]at m;simp[aG]at b;omega
   rw[if_neg A,if_pos b]at d c;split at c
   ·rename_i m;rw[if_pos m]at d;unfold kE at d;split at d
    ·exact .inl d
    ·split at d
     ·exact .inl d
     ·exact .inr d
   ·cases c
  ·rw[b]at d c;rw[if_neg (by decide),if_neg (by decide),if_pos rfl]at d c;split at c
   ·rename_i m;rw[if_pos m]at d;exact d
   ·cases c
  ·refine q ?_;have e:ae (s.extract p s.size) 0=10:=by rw[cV s p s.size 0 (Nat.le_refl _) (by have:=k.lt;omega)];exact b
   have u:gU (s.extract p s.size)=7:=by unfold gU;rw[if_neg (by rw[e];decide),if_pos e]
   rw[b,if_neg (by decide),if_neg (by decide),if_neg (by decide),if_neg (by rw[u];decide)];exact u
 |false=>
  obtain⟨m,rfl,U,o⟩:=j.step k;have q:¬gX s p=7:=fun e=>by have:=ER s p e;rw[c]at this;cases this.1
  have G:gX s p=gW s p:=by unfold gX;rw[if_neg (by rw[c];simp)]
  rw[if_neg q,G]at o;have L:ae s p≠10:=fun b=>by
   have e:ae (s.extract p s.size) 0=10:=by rw[cV s p s.size 0 (Nat.le_refl _) (by have:=k.lt;omega)];exact b
   have u:gU (s.extract p s.size)=7:=by unfold gU;rw[if_neg (by rw[e];decide),if_pos e]
   unfold rdI at c;rw[b,if_neg (by decide),if_neg (by decide),if_neg (by decide),if_neg (by rw[u];decide)]at c;cases c
  split at o
  ·rename_i f;rw[if_neg (by rw[c];simp)]at o;rw[<-o,y];show(p:Int)+_=(((rdI s p).a:Nat):Int);obtain⟨O,H⟩:=xd s p k.lt;have J:(s.extract p (rdI s p).a).size=(rdI s p).a-p:=by rw[ByteArray.size_extract];omega
   have X:=mX g (s.extract p (rdI s p).a);have W:(rdI s p).a-p<=jH g (s.extract p (rdI s p).a):=by
    by_cases v:(rdI s p).a-p=0
    ·omega
    unfold jH;refine(Df _ _ _).2 (.inr ⟨gW s p,?_,?_⟩)
    ·rw[jM];have V:=rO s p;unfold mJ at f;split at f
     ·exact⟨by omega,by omega,by rw[l _ (by omega) (by omega)];exact f⟩
     ·cases f
    ·have E:ae (s.extract p (rdI s p).a) 0=ae s p:=cV s p _ 0 H (by omega);unfold wZ;rw[if_neg (by omega),J,E];rcases xm s p with⟨b,e|e⟩|⟨b,e⟩|⟨e,_⟩
     ·rw[e,if_pos (.inr (.inl rfl)),if_pos (show Fe 2 (ae s p)=true from b)];exact Nat.le_refl _
     ·rw[e,if_pos (.inr (.inr (.inl rfl))),if_pos (show Fe 3 (ae s p)=true from b)];exact Nat.le_refl _
     ·rw[e,if_pos (.inr (.inr (.inr rfl))),if_pos (show Fe 4 (ae s p)=true by rw[b];decide)];exact Nat.le_refl _
     ·rw[e]at f;cases f
   omega
  ·rename_i f;rw[<-o];unfold mJ at f;refine x (fun b=>?_) (fun b=>?_) L
   ·rcases xm s p with⟨_,e|e⟩|⟨h,e⟩|⟨_,h,_⟩
    ·rw[e,if_pos (by decide),<-l 2 (by omega) (by omega)]at f;exact .inl (by simpa using f)
    ·rw[e,if_pos (by decide),<-l 3 (by omega) (by omega)]at f;exact .inr (by simpa using f)
    ·rw[h]at b;exact absurd b (by decide)
    ·rw[h]at b;cases b
   ·rcases xm s p with⟨h,_⟩|⟨h,e⟩|⟨_,_,h⟩
    ·rw[b]at h;exact absurd h (by decide)
    ·rw[e,if_pos (by decide),<-l 4 (by omega) (by omega)]at f;simpa using f
    ·exact absurd b h
inductive Aj (s:ByteArray):Int->Int->List Nd->Prop where
 |big:65536<s.size->Aj s 2 0 []
 |at_ {z:Int}:s.size<=65536->0<=z->gO s=([],z)->Aj s 1 z []
 |ok {toks:List Tk}{m:Nat}{R:Fo}{lz:Int}:s.size<=65536->gO s=(toks, -1)->PF s toks m R lz->Aj s (F7 (gy s R)) 0 (Fw (gy s R))
theorem mY(s:ByteArray):∀(f:Nat)(st:List Int)(p:Nat)(l:Int)(b:List Tk),¬0<=(kH s f st p l b).2.2->(kH s f st p l b).2.2= -1
 |0,st,p,l,b,h=>by simp[kH]at h
 |f+1,st,p,l,b,h=>by
  rw[kH]at h⊢;split
  ·rfl
  ·rename_i e;rw[if_neg e]at h;split
   ·rename_i d;rw[if_pos d]at h;split
    ·rename_i a;rw[if_pos a]at h;exact mY s f _ _ _ _ h
    ·rename_i a;rw[if_neg a]at h;exact mY s f _ _ _ _ h
   ·rename_i d;rw[if_neg d]at h;split
    ·rename_i a;rw[if_pos a]at h;split
     ·rename_i c;rw[if_pos c]at h;exact mY s f _ _ _ _ h
     ·rename_i c;rw[if_neg c]at h;exact absurd (by simp) h
    ·rename_i a;rw[if_neg a]at h;exact absurd (by simp) h
theorem Dj(s:ByteArray)(h:¬0<=(du s).2.2):(du s).2.2= -1:=mY s _ _ _ _ _ h
theorem Il(s:ByteArray):∃c a ns,Aj s c a ns:=by
 by_cases h:65536<s.size
 ·exact⟨_,_,_,.big h⟩
 by_cases b:0<=(du s).2.2
 ·exact⟨_,_,_,.at_ (by omega) b (by unfold gO;rw[if_pos b])⟩
 by_cases e:(feedL (du s).2.1 6).2=true
 ·obtain⟨⟨j,m,k⟩,d⟩:∃g,du s=g:=⟨_,rfl⟩;rw[d]at b e;have f:=Dj s (by rw[d];exact b);rw[d]at f;simp only at f b e;subst f;obtain⟨n,g,l,i⟩:=JB (by omega) d e;exact⟨_,_,_,.ok (toks:=j) (by omega) (by unfold gO;rw[d,if_neg (by simp),if_pos e]) i⟩
 ·exact⟨_,_,_,.at_ (z:=(s.size:Nat)) (by omega) (by omega) (by unfold gO;rw[if_neg b,if_neg e])⟩
theorem yK(r:Nat)(j h l:Value)(z:Int)(w:World)(a:w.heap[r]?=some (.cells #[j,h,l] 26 (0,0))):
  CallsD Tryz.prog 12 #[.pointer (some ⟨r,0,none⟩)] (.panicking (xc z)) w fun e d b=>
   e= .returned (.tuple #[])/\d= .panicking [{v:= .iface 39 (.agg #[.int .i64 z]),recovered:=true}]/\b.heap[r]?=some (.cells #[.int .i64 1,.int .i64 z,.slice none 0 0] 26 (0,0))/\Below r w b:=by
 have k:=fun w=>Ho z w;unfold xc;refine callsD_of_wpS Tryz.func12 rfl fun u x f=>?_;apply wpS_seq;apply wpS_region;simp[wpOpsS,go_sem,recoverD,f,Tryz.ntmps12,Exit.thenS,k];apply wpS_seq;apply wpS_region;simp[wpOpsS,go_sem,Exit.thenS,Array.replicate_succ];refine wpS_cond (t:=true) (by simp[Act.eval]) ?_;simp only[if_true];have n:∀w:World,(zeroValue 26).run Tryz.prog w= .ok (.agg #[.int .i64 0,.int .i64 0,.slice none 0 0]) w:=fun w=>by kernel_rfl
 have c:(w.alloc (.cells #[.int .i64 z] 39)).heap[r]?=_:=(Below.heap_alloc w _ r (lt_of_block a)).trans a;have o:Below r w (w.alloc (.cells #[.int .i64 z] 39)):=(ax w _).mono (Nat.le_of_lt (lt_of_block a));obtain⟨i,q,g,m⟩:=row3 c;apply wpS_region;simp[wpOpsS,go_sem,i,q,g,m,n,bodyPostS,results,Tryz.results12];exact⟨Ab c _ _ _,qN o _ _ _⟩
theorem yL(p:Addr)(w:World):
  CallsD Tryz.prog 12 #[.pointer (some p)] .returning w fun e a f=>e= .returned (.tuple #[])/\a= .returning/\f=w.alloc (.cells #[.int .i64 0] 39):=by
 have b:=fun w=>Hp w;refine callsD_of_wpS Tryz.func12 rfl fun c g d=>?_;apply wpS_seq;apply wpS_region;simp[wpOpsS,go_sem,recoverD,d,Tryz.ntmps12,Exit.thenS,b];apply wpS_seq;apply wpS_region;simp[wpOpsS,go_sem,Exit.thenS,Array.replicate_succ];refine wpS_cond (t:=false) (by simp[Act.eval]) ?_;simp only[Bool.false_eq_true,if_false];refine wpS_of_wp (wp_skip ?_);cases c
 simp_all [bodyPostS,results,Tryz.results12]
theorem xn(x:ByteArray):eU x=decide (x=⟨#[]⟩):=by
 unfold eU;rw[ByteArray.toList_eq];by_cases a:x=⟨#[]⟩
 ·subst a;rfl
 ·rw[decide_eq_false a,decide_eq_false];intro b;apply a;cases x;simp only at b
  congr 1
  exact Array.toList_inj.1 b
theorem jN(N:Nd):lZ (dY N (aY N.k)) N=(match aY N.k with
  |0=>aq N false false false true
  |1=>aq N false true false false
  |2=>aq N false true false false
  |3=>aq N false false true false
  |4=>aq N true false false false
  |5=>aq N true false false true&&(N.op==0||N.op==1)
  |_=>aq N false false false false):=by
 have t:∀(q m l:Bool)(P j f g:Prop) [Decidable P] [Decidable j] [Decidable f] [Decidable g],decide (P/\j/\f/\g)=(decide P&&decide j&&decide f&&decide g):=fun q m l P j f g _ _ _ _=>by
  by_cases e:P<;>by_cases u:j<;>by_cases o:f<;>by_cases v:g<;>simp[e,u,o,v]
 have d:decide ((0:Int)=N.op)=(N.op==0):=by
  by_cases a:N.op=0
  ·rw[decide_eq_true a.symm,a];rfl
  ·rw[decide_eq_false (fun b=>a b.symm)];exact(beq_eq_false_iff_ne.2 a).symm
 have i:decide ((0:Int)=N.n)=(N.n==0):=by
  by_cases a:N.n=0
  ·rw[decide_eq_true a.symm,a];rfl
  ·rw[decide_eq_false (fun b=>a b.symm)];exact(beq_eq_false_iff_ne.2 a).symm
 have c:decide ((⟨#[]⟩:ByteArray)=N.x)=eU N.x:=by
  rw[xn];by_cases a:N.x=⟨#[]⟩
  ·rw[decide_eq_true a.symm,decide_eq_true a]
  ·rw[decide_eq_false (fun b=>a b.symm),decide_eq_false a]
 have h:decide (([]:List ByteArray)=N.nm)=decide (N.nm.length=0):=by
  by_cases a:N.nm=[]
  ·rw[decide_eq_true a.symm,decide_eq_true (by rw[a];rfl)]
  ·rw[decide_eq_false (fun b=>a b.symm),decide_eq_false (fun b=>a (List.eq_nil_of_length_eq_zero b))]
 unfold lZ aq;rw[t true true true];rcases oW N.k with hc|hc|hc|hc|hc|hc|hc
 ·rw[hc];simp only[dY,d,i,c];simp
 ·rw[hc];simp only[dY,d,c,h];simp
 ·rw[hc];simp only[dY,d,c,h];simp
 ·rw[hc];simp only[dY,d,i,h];simp
 ·rw[hc];simp only[dY,i,c,h];simp
 ·rw[hc];simp only[dY,i,c];have b:decide ((if N.op=1 then(1:Int) else 0)=N.op)=(N.op==0||N.op==1):=by
   by_cases e:N.op=1
   ·rw[if_pos e,e];rfl
   ·rw[if_neg e,d];rw[beq_eq_false_iff_ne.2 e,Bool.or_false]
  rw[b];simp;cases (N.op==0||N.op==1)<;>cases (N.n==0)<;>cases eU N.x<;>rfl
 ·rw[hc];simp only[dY,d,i,c,h];simp
theorem dH(ns:List Nd)(ks:List Int):(cJ ns ks).length=ks.length:=by simp[cJ]
theorem Dk(ns:List Nd)(N:Nd)(j:Nat)(h:j<N.ks.length):(cJ ns N.ks)[j]?=some (ba ns N j):=by
 unfold cJ ba;rw[List.getElem?_map,List.getElem?_eq_getElem h];simp[List.getD,List.getElem?_eq_getElem h]
theorem xo(K:List Int):bq [] K=K.isEmpty:=rfl
theorem yM(i:Nat)(K:List Int):bq [(i,1)] K=K.all (ms i):=by
 rw[bq,if_neg (by omega),xo];have a:sI i 1 K=(K.takeWhile (ms i)).length:=by unfold sI;rw[if_pos rfl]
 rw[a]
 induction K with
 |nil=>rfl
 |cons c r b=>
  cases h:ms i c with
  |false=>rw[List.takeWhile_cons_of_neg (by simp[h])];simp[h]
  |true=>
   rw[List.takeWhile_cons_of_pos (by simp[h]),List.all_cons,h,Bool.true_and,List.length_cons,List.drop_succ_cons];exact b (by unfold sI;rw[if_pos rfl])
theorem JC(i f:Nat)(b:f≠1)(a:Int)(r:List Int):sI i f (a::r)=if ms i a=true then 1 else 0:=by
 unfold sI;rw[if_neg b];cases h:ms i a with
 |false=>rw[List.takeWhile_cons_of_neg (by simp[h])];simp
 |true=>rw[List.takeWhile_cons_of_pos (by simp[h]),List.length_cons,if_pos rfl];omega
theorem sD(i:Nat)(b:List (Nat×Nat))(a:Int)(r:List Int):bq ((i,0)::b) (a::r)=(ms i a&&bq b r):=by
 rw[bq,JC i 0 (by omega)];cases h:ms i a with
 |false=>simp
 |true=>simp
theorem yN(i:Nat)(a:List (Nat×Nat)):bq ((i,0)::a) []=false:=by
 rw[bq];simp[sI]
theorem In(i:Nat)(b:List (Nat×Nat))(a:Int)(r:List Int):bq ((i,2)::b) (a::r)=if ms i a=true then bq b r else bq b (a::r):=by
 rw[bq,JC i 2 (by omega)];cases h:ms i a with
 |false=>simp
 |true=>simp
theorem Fy(i:Nat)(a:List (Nat×Nat)):bq ((i,2)::a) []=bq a []:=by
 rw[bq];simp[sI]
theorem Io(n:Nat):∀(K:List Int),n<K.length->bq (pW n) K=((K.take n).all (ms 5)&&(K.drop n).all (ms 3)):=by
 induction n with
 |zero=>
  intro K b
  match K,b with
  |a::r,_=>
   show bq ((3,0)::[(3,1)]) (a::r)=_;rw[sD,yM];simp
 |succ n c=>
  intro K b
  match K,b with
  |a::r,b=>
   show bq ((5,0)::pW n) (a::r)=_;rw[sD,c r (by simpa using b)];simp[Bool.and_assoc]
theorem gx(ns:List Nd)(N:Nd)(j:Nat)(h:j<N.ks.length):ba ns N j=(cJ ns N.ks).getD j 0:=by
 rw[List.getD_eq_getElem?_getD,Dk ns N j h];rfl
theorem kR(K:List Int)(p:Int->Bool)(f j:Nat)(h:j+(f+1)<=K.length):((K.drop j).take (f+1)).all p=(p (K.getD j 0)&&((K.drop (j+1)).take f).all p):=by
 have a:j<K.length:=by omega
 rw[List.drop_eq_getElem_cons a,List.take_succ_cons,List.all_cons,List.getD_eq_getElem?_getD,List.getElem?_eq_getElem a];rfl
theorem xp(ns:List Nd)(N:Nd):∀(f j:Nat),j+f<=N.ks.length->di ns N f j=(((cJ ns N.ks).drop j).take f).all eV
 |0,j,_=>by simp[di]
 |f+1,j,h=>by
  rw[di,xp ns N f (j+1) (by omega),kR _ _ _ _ (by rw[dH];exact h),gx ns N j (by omega)]
theorem Dl(ns:List Nd)(N:Nd):∀(f j:Nat),j+f<=N.ks.length->Dt ns N f j=(((cJ ns N.ks).drop j).take f).all fC
 |0,j,_=>by simp[Dt]
 |f+1,j,h=>by
  rw[Dt,Dl ns N f (j+1) (by omega),kR _ _ _ _ (by rw[dH];exact h),gx ns N j (by omega)]
theorem Dm(ns:List Nd)(N:Nd):∀(f j:Nat),j+f<=N.ks.length->Cs ns N f j=(((cJ ns N.ks).drop j).take f).all oc
 |0,j,_=>by simp[Cs]
 |f+1,j,h=>by
  rw[Cs,Dm ns N f (j+1) (by omega),kR _ _ _ _ (by rw[dH];exact h),gx ns N j (by omega)]
theorem Dn(ns:List Nd)(N:Nd):∀(f j:Nat),j+f<=N.ks.length->Du ns N f j=(((cJ ns N.ks).drop j).take f).all (ms 9)
 |0,j,_=>by simp[Du]
 |f+1,j,h=>by
  rw[Du,Dn ns N f (j+1) (by omega),kR _ _ _ _ (by rw[dH];exact h),gx ns N j (by omega)];rfl
theorem Fz(k:Int):ms 5 k=oc k:=by
 unfold ms oc;by_cases a:k=26<;>by_cases b:k=32<;>by_cases c:k=33<;>simp[a,b,c]
def jo(ns:List Nd)(N:Nd):Bool:=lZ (dY N (aY N.k)) N&&(Dz N N.ks.length (aY N.k)&&C0 N (cJ ns N.ks))
theorem JD(ns:List Nd)(N:Nd)(hk:N.k=3\/N.k=4\/N.k=6\/N.k=7\/N.k=8\/N.k=9\/N.k=10\/N.k=11\/N.k=12\/N.k=14\/N.k=15\/N.k=16\/N.k=20\/N.k=21\/N.k=22\/N.k=23\/N.k=24\/N.k=25\/N.k=26\/N.k=27\/N.k=28\/N.k=29\/N.k=30\/N.k=31\/N.k=32\/N.k=33\/N.k=36\/N.k=37\/N.k=40\/N.k=41\/N.k=42)(f:N.nm.length<=200):jo ns N=uH ns N:=by
 have a:=dH ns N.ks;have b:=gx ns N;have c:eV 1=false:=rfl;unfold jo C0 HU;rw[jN];revert a b;generalize cJ ns N.ks=K;intro a b;rcases hk with hk|hk|hk|hk|hk|hk|hk|hk|hk|hk|hk|hk|hk|hk|hk|hk|hk|hk|hk|hk|hk|hk|hk|hk|hk|hk|hk|hk|hk|hk|hk;all_goals
  rcases K with _|⟨g,_|⟨h,_|⟨e,_|⟨d,_|⟨i,r⟩⟩⟩⟩⟩;all_goals
   simp at a;simp[uH,fC,stB,mm,aY,xe,Dz,He,oP,hk,<-a,b,di,bF,sD,yN,xo,In,Fy,ms]<;>grind
theorem JE(ns:List Nd)(N:Nd)(hk:N.k=1\/N.k=2\/N.k=13\/N.k=34\/N.k=35)(h:N.nm.length<=200):jo ns N=uH ns N:=by
 have b:=dH ns N.ks;have e:=gx ns N 0;have c:=xp ns N N.ks.length 0 (by omega);have a:=Dl ns N N.ks.length 0 (by omega);have d:=Dn ns N N.ks.length 0 (by omega);have f:ms 0=fC:=rfl;have g:ms 3=eV:=rfl;rw[<-b]at c a d e;rw[List.drop_zero,List.take_length]at c a d;unfold jo C0 HU;rw[jN,<-b];revert b e c a d;generalize cJ ns N.ks=K;intro b e c a d;rcases hk with hk|hk|hk|hk|hk;all_goals
  rcases K with _|⟨i,r⟩;all_goals
   simp at b e;simp only[List.length_cons,List.all_cons,List.length_nil,List.all_nil]at c a d;simp[uH,fC,stB,mm,aY,xe,Dz,He,oP,hk,c,a,d,f,g,<-b,e,bF,yM,sD,yN,xo,ms]<;>grind
theorem JF(ns:List Nd)(N:Nd)(a:N.k=5)(e:N.nm.length<=200):jo ns N=uH ns N:=by
 have c:aY N.k=1:=by rw[a];rfl
 have d:uH ns N=(aq N false true false false&&(decide (1<=N.n/\N.n<(N.ks.length:Int))&&(Cs ns N N.n.toNat 0&&di ns N (N.ks.length-N.n.toNat) N.n.toNat))):=by
  unfold uH;rw[if_pos (by rw[a];rfl)];unfold stB;rw[if_neg (by rw[a];decide),if_neg (by rw[a];decide),if_neg (by rw[a];decide),if_neg (by rw[a];decide),if_pos a]
 unfold jo C0;rw[jN,c,d,if_pos rfl];simp only[Dz];by_cases b:1<=N.n/\N.n<(N.ks.length:Int)
 ·rw[decide_eq_true b,Bool.true_and,Bool.true_and,Io _ _ (by rw[dH];omega),Dm ns N _ _ (by omega),xp ns N _ _ (by omega)]
  congr 1
  congr 1
  ·rw[List.drop_zero]
   congr 1
   funext k
   exact Fz k
  ·have:(cJ ns N.ks).drop N.n.toNat=((cJ ns N.ks).drop N.n.toNat).take (N.ks.length-N.n.toNat):=by
    rw[List.take_of_length_le (by rw[List.length_drop,dH];exact Nat.le_refl _)]
   rw[<-this];rfl
 ·rw[decide_eq_false b,Bool.false_and,Bool.false_and]
theorem Ip(ns:List Nd)(N:Nd)(h:N.k ∉ ee)(f:N.k≠5):jo ns N=uH ns N:=by
 have b:=(so N.k h).1;simp only[ee,List.mem_cons,List.not_mem_nil,or_false,not_or]at h;have e:fC N.k=false:=by unfold fC;exact decide_eq_false (by omega)
 have c:uH ns N=false:=by
  unfold uH;rw[if_neg (by rw[e];decide)];unfold mm
  repeat rw[if_neg (by omega)]
 have a:aY N.k=6:=by
  unfold aY
  repeat rw[if_neg (by omega)]
 have d:HU N.k (cJ ns N.ks)=false:=by unfold HU;rw[b]
 unfold jo C0;rw[c,a,if_neg (by decide),d,Bool.and_false,Bool.and_false]
theorem Do(ns:List Nd)(N:Nd)(a:N.nm.length<=200):jo ns N=uH ns N:=by
 by_cases c:N.k∈ee
 ·simp only[ee,List.mem_cons,List.not_mem_nil,or_false]at c;by_cases d:N.k=1\/N.k=2\/N.k=13\/N.k=34\/N.k=35
  ·exact JE ns N d a
  ·exact JD ns N (by omega) a
 ·by_cases b:N.k=5
  ·exact JF ns N b a
  ·exact Ip ns N c b
theorem xq(ns:List Nd)(N:Nd)(m:200<N.nm.length):uH ns N=false:=by
 have f:∀d e c,aq N d e c false=false:=fun d e c=>by unfold aq;rw[decide_eq_false (by omega)];simp
 have a:∀g b,b<=200->bF N g b=false:=fun g b l=>by unfold bF;rw[decide_eq_false (by omega)];rfl
 have k:=a 1 1 (by omega);have i:=a 1 2 (by omega);have h:=a 1 200 (by omega);have j:=a 0 200 (by omega);unfold uH;split
 ·unfold stB;simp only[f,k,i,h,Bool.false_and,Bool.and_false];simp
 ·unfold mm;simp only[f,j,Bool.false_and,Bool.and_false];simp
theorem FA(ns:List Nd)(i:Nat)(N:Nd):qc ns i N=eZ ns i N:=by
 unfold qc eZ;by_cases c:N.nm.length<=200
 ·have d:qa N=rY N:=by
   unfold qa rY;by_cases a:0<=N.f/\N.f<=N.t/\0<=N.l/\N.ks.length<=200
   ·rw[decide_eq_true a,decide_eq_true ⟨a.1,a.2.1,a.2.2.1,a.2.2.2,c⟩]
   ·rw[decide_eq_false a,decide_eq_false (fun b=>a ⟨b.1,b.2.1,b.2.2.1,b.2.2.2.1⟩)]
  have e:=Do ns N c;unfold jo at e;rw[d,<-e];generalize lZ (dY N (aY N.k)) N=g;generalize uG N.ks i N.ks.length 0=h;cases g<;>cases h<;>rfl
 ·have d:qa N=false:=by unfold qa;exact decide_eq_false (fun b=>c b.2.2.2.2)
  rw[d,xq ns N (by omega),Bool.false_and,Bool.and_false,Bool.and_false]
end Go.Proofs.YtcbmoiabehpliaaGreatDoor
