import Derived.Test.YtkfgnpcanadjhaaGreatDoorHSk27
set_option linter.all false
set_option maxRecDepth 100000
set_option maxHeartbeats 12800000
namespace Go.Proofs.YtkfgnpcanadjhaaGreatDoor
open Go.RowKit Go.Maps Go.WideMaps
def Jn(N M:Nd):Bool:=fE M.k&&decide (gK M<=jD N)
def Dr(N M:Nd):Bool:=fE M.k&&decide (jD M<gK N)
def vh(N:Nd):ByteArray:=⟨#[32]⟩++mA (iJ N)++⟨#[32]⟩
theorem jp{P:Program}{g:Region.Mode}{b:Array Oper}{e:Exit->Act->World->Prop}{S:World->Prop}(i:Nat)(d:Tmp){h:Oper}{fuel:Nat}{f:Array Bool}{a:Act}{w:World}(n:b[i]?=some h)(j:h.dst=some d)
  (p:Region.noSelect b=true) (m:Region.free g b f i=true) (o:(Region.ready g b f).contains i=true)
  (l:∀c a w,e (.panic c) (a.put (some d) undef) w->e (.panic c) a w) (q:Region.wanted h (yielded b a.tmps)=false) (hS:S w)
  (k:wpAnyH P g b e S fuel (f.setIfInBounds i true) (a.put (some d) undef) w):wpAnyH P g b e S (fuel+1) f a w:=
 wpAnyH_take n p m o (by rw[j];exact l) (Or.inr ⟨q,rfl⟩) hS (by rw[j];exact k)
structure Ix (w0:World) (vb:Nat) (w:World) (p q r:Nat) (ik il ir ak al ar bk bl br:Int) (T:ByteArray) (W:World):Prop where
 ps:Ps w0 vb T W
 kq:Kq w0.heap.size w W
 ba:fd p W ik il ir
 bb:fd q W ak al ar
 bc:fd r W bk bl br
theorem fd.kq{b k:Nat}{W c:World}{x e z:Int}(a:fd k W x e z)(q:Kq b W c)(f:k≠b):fd k c x e z:=
 (q.block k (aw a) f (fun g h d=>by unfold fd at a;rw[a]at d;cases d)).trans a
theorem Ix.below{n:World}{m:Nat}{w:World}{p q r:Nat}{j k l d e f g h i:Int}{T:ByteArray}{W c:World}(a:Ix n m w p q r j k l d e f g h i T W)(b:Below W.heap.size W c):Ix n m w p q r j k l d e f g h i T c:=
 ⟨a.ps.below b,a.kq.trans (Kq.of_below b),(b.block _ (aw a.ba)).trans a.ba,(b.block _ (aw a.bb)).trans a.bb,(b.block _ (aw a.bc)).trans a.bc⟩
theorem Ix.next{a:World}{e:Nat}{w:World}{p q r:Nat}{n o s g h i j l m:Int}{T f:ByteArray}{W c:World}(b:Ix a e w p q r n o s g h i j l m T W)(d:p≠a.heap.size/\q≠a.heap.size/\r≠a.heap.size)(ps:Ps a e f c)(k:Kq a.heap.size W c):Ix a e w p q r n o s g h i j l m f c:=
 ⟨ps,b.kq.trans k,b.ba.kq k d.1,b.bb.kq k d.2.1,b.bc.kq k d.2.2⟩
theorem afk(b:World)(h:Nat)(e:List Nd)(L:List Im)(base:Nat)(cs:Value)(ce:Tp b e L base cs)(cg:oF b)(d8:wj b)(t:Nat)(i:Nat)(c4:i<e.length)(eb:fE (ae e i).k=true)(cq:∀j:Nat,j<e.length->(ae e j).k=31->1<=(ae e j).op/\(ae e j).op<=18)
  (am:Nat) (c5:(ae e i).ks[0]?=some (am:Int)) (eg:am<e.length) (v:ByteArray) (d9:zH b h L t (am:Int) v) (an:Nat) (cp:(ae e i).ks[1]?=some (an:Int)) (eh:an<e.length) (y:ByteArray) (ea:zH b h L t (an:Int) y)
  (ex:iJ (ae e i)<=100/\0<=iJ (ae e i)) (eF:(mA (iJ (ae e i))).size<=100):
  Pw b h 72 #[vP h,fJ b t,nV (jo L i)] ((if Jn (ae e i) (ae e am)=true then ft v else v)++vh (ae e i)++(if Dr (ae e i) (ae e an)=true then ft y else y)):=by
 intro a6 A a
 have cy:Hid (∀n,Below b.heap.size b n->Calls Tryz.prog 139 #[nV (jo L i)] n fun z c=>z= .returned (.tuple #[.agg #[.int .i64 (iJ (ae e i)),.int .i64 (jD (ae e i)),.int .i64 (gK (ae e i))],.bool (fE (ae e i).k)])/\Below n.heap.size n c):=fun n a8=>nC b e L base cs ce cg i c4 (cq i c4) n a8
 have cw:Hid (∀n,Below b.heap.size b n->Calls Tryz.prog 139 #[nV (jo L (am:Int))] n fun z c=>z= .returned (.tuple #[.agg #[.int .i64 (iJ (ae e am)),.int .i64 (jD (ae e am)),.int .i64 (gK (ae e am))],.bool (fE (ae e am).k)])/\Below n.heap.size n c):=fun n a8=>nC b e L base cs ce cg am eg (cq am eg) n a8
 have cx:Hid (∀n,Below b.heap.size b n->Calls Tryz.prog 139 #[nV (jo L (an:Int))] n fun z c=>z= .returned (.tuple #[.agg #[.int .i64 (iJ (ae e an)),.int .i64 (jD (ae e an)),.int .i64 (gK (ae e an))],.bool (fE (ae e an).k)])/\Below n.heap.size n c):=fun n a8=>nC b e L base cs ce cg an eh (cq an eh) n a8
 have ds:Hid (∀n,Below b.heap.size b n->Calls Tryz.prog 141 #[.int .i64 (iJ (ae e i))] n fun z c=>z= .returned (.string (mA (iJ (ae e i))))/\Below n.heap.size n c):=fun n a8=>(Aa (iJ (ae e i)) (by omega) (by omega) n (d8.below a8 (ah _))).mono fun z c ⟨em,eq⟩=>⟨em,by rw[eq];exact ag _ _⟩
 have cz:Hid (∀bs,Pw b h 140 #[vP h,fJ b t,nV (jo L (am:Int)),.bool bs] (if bs=true then ft v else v)):=fun bs=>nA b h t _ v bs d9
 have b9:Hid (∀bs,Pw b h 140 #[vP h,fJ b t,nV (jo L (an:Int)),.bool bs] (if bs=true then ft y else y)):=fun bs=>nA b h t _ y bs ea
 have cB:Hid (Pw b h 306 #[kF b t,.string (vh (ae e i))] (vh (ae e i))):=iw b h t _ (by unfold vh;simp only[ax];show 1+_+1<=_;omega)
 obtain⟨c0,fr,e9,b4,cf,el,b3⟩:=rx ce c4
 have e7:=fun A=>de c0 A
 have fk:=fun A=>mj b.heap.size (ek t) A
 have fo:=fun A=>sw b.heap.size (ek t) A
 have fn:=fun A=>mq (dL (ae e i).k) c0 A
 obtain⟨l,rfl,es,_⟩:=b3.ks.get cp
 have fc:(0:Int)<(b4:Int):=by have:=nI c5;have:=b3.hn;omega
 have ff:0<b4:=by omega
 have fg:(1:Int)<(b4:Int):=by have:=nI cp;have:=b3.hn;omega
 obtain⟨a5,c7⟩:∃c9,nV (jo L (am:Int))=c9:=⟨_,rfl⟩
 obtain⟨ap,c8⟩:∃c9,nV (jo L (an:Int))=c9:=⟨_,rfl⟩
 have ca:Hid (∀n,Below b.heap.size b n->n.cell? ⟨c0,5,none⟩=some (.slice (some l) b4 cf)/\n.cell? l=some a5/\n.cell? ⟨l.block,l.off+1,none⟩=some ap):=fun n a8=>⟨(b3.cells a8).2.1,by rw[<-c7];obtain⟨_,z,_,a9⟩:=(b3.ks.below a8).get c5;cases z;simpa [Addr.add] using a9,by rw[<-c8];obtain⟨_,z,_,a9⟩:=(b3.ks.below a8).get cp;cases z;exact zd a9 (by decide)⟩
 rw[c7]at cw cz
 rw[c8]at cx b9
 rw[el]at cy⊢
 have b7:Hid (Ps b h a6 A/\Kq b.heap.size A A):=⟨a,Kq.refl _ _⟩
 obtain⟨dd,df,dg⟩:=ca.out _ a.pg.bel
 rw[eb]at cy
 obtain⟨cu,d6⟩:∃ct,fE (ae e am).k=ct:=⟨_,rfl⟩
 obtain⟨cc,d7⟩:∃ct,fE (ae e an).k=ct:=⟨_,rfl⟩
 unfold Jn Dr vh
 unfold vh at cB
 rw[d6]at cw⊢
 rw[d7]at cx⊢
 generalize jD (ae e i)=q at *
 generalize gK (ae e i)=r at *
 generalize iJ (ae e i)=p at *
 generalize iJ (ae e am)=K at *
 generalize jD (ae e am)=ad at *
 generalize gK (ae e am)=o at *
 generalize iJ (ae e an)=a1 at *
 generalize jD (ae e an)=B at *
 generalize gK (ae e an)=a2 at *
 generalize mA p=bd at *
 obtain⟨a3,et⟩:∃c1,decide (o<=q)=c1:=⟨_,rfl⟩
 obtain⟨a4,ev⟩:∃c1,decide (B<r)=c1:=⟨_,rfl⟩
 rw[et,ev]
 obtain⟨cI,c2⟩:∃cI,(if(cu&&a3)=true then ft v else v)++((⟨#[32]⟩:ByteArray)++bd++⟨#[32]⟩)++(if(cc&&a4)=true then ft y else y)=cI:=⟨_,rfl⟩
 rw[c2]
 have cd:Hid ((if(cu&&a3)=true then ft v else v)++((⟨#[32]⟩:ByteArray)++bd++⟨#[32]⟩)++(if(cc&&a4)=true then ft y else y)=cI):=c2
 clear c2
 have fa:¬9223372036854775807<1+bd.size:=by omega
 have fb:¬9223372036854775807<1+bd.size+1:=by omega
 generalize jd (dL (ae e i).k)=fq at *
 unfold fJ kF at *
 generalize ek t=bt at *
 clear a b3 el eb cq c5 cp d9 ea ex eF d6 d7 c7 c8 es cg d8
 go_enter Tryz.func72,Tryz.ntmps72
 go_wp2_with (first|(go_at_call 307;refine(e7 _).mono ?_;rintro z c ⟨rfl,g⟩;subst c)|(go_at_call 139;fail))
 refine(cy.out _ b7.out.1.pg.bel).mono ?_
 rintro z d ⟨rfl,ck⟩
 have c3:Below A.heap.size A (d.alloc (.cells #[.int .i64 p,.int .i64 q,.int .i64 r] 165)):=ck.trans (((ag _ d).alloc (ah _) _).mono ck.size)
 have d2:fd d.heap.size (d.alloc (.cells #[.int .i64 p,.int .i64 q,.int .i64 r] 165)) p q r:=ay d _
 have bv:Hid (Ps b h a6 (d.alloc (.cells #[.int .i64 p,.int .i64 q,.int .i64 r] 165))/\Kq b.heap.size A (d.alloc (.cells #[.int .i64 p,.int .i64 q,.int .i64 r] 165))/\fd d.heap.size (d.alloc (.cells #[.int .i64 p,.int .i64 q,.int .i64 r] 165)) p q r):=⟨b7.out.1.below c3,Kq.of_below c3,d2⟩
 obtain⟨dd,df,dg⟩:=ca.out _ bv.out.1.pg.bel
 have cr:=ck.size
 clear c3 d2 ck
 go_wp2_with (go_at_call 139;fail)
 refine(cw.out _ bv.out.1.pg.bel).mono ?_
 rintro z m ⟨rfl,cl⟩
 have cn:Below (d.alloc (.cells #[.int .i64 p,.int .i64 q,.int .i64 r] 165)).heap.size (d.alloc (.cells #[.int .i64 p,.int .i64 q,.int .i64 r] 165)) (m.alloc (.cells #[.int .i64 K,.int .i64 ad,.int .i64 o] 165)):=cl.trans (((ag _ m).alloc (ah _) _).mono cl.size)
 have d4:fd m.heap.size (m.alloc (.cells #[.int .i64 K,.int .i64 ad,.int .i64 o] 165)) K ad o:=ay m _
 have d3:fd d.heap.size (m.alloc (.cells #[.int .i64 K,.int .i64 ad,.int .i64 o] 165)) p q r:=(cn.block _ (aw bv.out.2.2)).trans bv.out.2.2
 have bf:Hid (Ps b h a6 (m.alloc (.cells #[.int .i64 K,.int .i64 ad,.int .i64 o] 165))/\Kq b.heap.size A (m.alloc (.cells #[.int .i64 K,.int .i64 ad,.int .i64 o] 165))/\fd d.heap.size (m.alloc (.cells #[.int .i64 K,.int .i64 ad,.int .i64 o] 165)) p q r/\fd m.heap.size (m.alloc (.cells #[.int .i64 K,.int .i64 ad,.int .i64 o] 165)) K ad o):=⟨bv.out.1.below cn,bv.out.2.1.trans (Kq.of_below cn),d3,d4⟩
 obtain⟨dd,df,dg⟩:=ca.out _ bf.out.1.pg.bel
 have c6:d.heap.size<m.heap.size:=by have:=cl.size;rw[db]at this;omega
 clear cn d4 d3 cl
 go_wp2_with (go_at_call 139;fail)
 refine(cx.out _ bf.out.1.pg.bel).mono ?_
 rintro z w ⟨rfl,cm⟩
 have cb:Below (m.alloc (.cells #[.int .i64 K,.int .i64 ad,.int .i64 o] 165)).heap.size (m.alloc (.cells #[.int .i64 K,.int .i64 ad,.int .i64 o] 165)) (w.alloc (.cells #[.int .i64 a1,.int .i64 B,.int .i64 a2] 165)):=cm.trans (((ag _ w).alloc (ah _) _).mono cm.size)
 have d5:fd w.heap.size (w.alloc (.cells #[.int .i64 a1,.int .i64 B,.int .i64 a2] 165)) a1 B a2:=ay w _
 have ei:m.heap.size<w.heap.size:=by have:=cm.size;rw[db]at this;omega
 have bn:Hid (Ix b h A d.heap.size m.heap.size w.heap.size p q r K ad o a1 B a2 a6 (w.alloc (.cells #[.int .i64 a1,.int .i64 B,.int .i64 a2] 165))):=⟨bf.out.1.below cb,bf.out.2.1.trans (Kq.of_below cb),(cb.block _ (aw bf.out.2.2.1)).trans bf.out.2.2.1,(cb.block _ (aw bf.out.2.2.2)).trans bf.out.2.2.2,d5⟩
 have ec:d.heap.size≠b.heap.size:=by have:=b7.out.1.pg.lt;have:=cr;omega
 have ed:m.heap.size≠b.heap.size:=by have:=b7.out.1.pg.lt;have:=aw bv.out.2.2;have:=cr;have:=c6;omega
 have ef:w.heap.size≠b.heap.size:=by have:=b7.out.1.pg.lt;have:=cr;have:=c6;have:=ei;omega
 have x:Hid (∀dz f,Ix b h A d.heap.size m.heap.size w.heap.size p q r K ad o a1 B a2 dz f->f.cell? l=some a5/\f.cell? ⟨l.block,l.off+1,none⟩=some ap/\f.cell? ⟨d.heap.size,0,none⟩=some (.int .i64 p)/\f.cell? ⟨d.heap.size,1,none⟩=some (.int .i64 q)/\f.cell? ⟨d.heap.size,2,none⟩=some (.int .i64 r)/\f.cell? ⟨m.heap.size,2,none⟩=some (.int .i64 o)/\f.cell? ⟨w.heap.size,1,none⟩=some (.int .i64 B)):=fun dz f a9=>⟨(ca.out _ a9.ps.pg.bel).2.1,(ca.out _ a9.ps.pg.bel).2.2,a9.ba.cells.1,a9.ba.cells.2.1,a9.ba.cells.2.2.1,a9.bb.cells.2.2.1,a9.bc.cells.2.1⟩
 obtain⟨bw,bx,bA,bD,bE,bF,b0⟩:=x.out _ _ bn.out
 have ao:Hid (d.heap.size≠b.heap.size/\m.heap.size≠b.heap.size/\w.heap.size≠b.heap.size):=⟨ec,ed,ef⟩
 clear cb d5 cm dd df dg ec ed ef cr c6 ei bv bf
 cases cu
 ·skip
  have b8:=cz.out (false)
  have cv:Hid (Pw b h 140 #[vP h,.iface 60 (.agg #[.pointer (some ⟨b.heap.size,0,none⟩),.string bt]),a5,.bool false] (if(false&&a3)=true then ft v else v)):=b8
  clear b8
  go_wp2_with fail
  refine wp_region_held_drew (S:=fun c=>c.cell? l=some a5/\c.cell? ⟨l.block,l.off+1,none⟩=some ap/\c.cell? ⟨d.heap.size,0,none⟩=some (.int .i64 p)/\c.cell? ⟨d.heap.size,1,none⟩=some (.int .i64 q)/\c.cell? ⟨d.heap.size,2,none⟩=some (.int .i64 r)/\c.cell? ⟨m.heap.size,2,none⟩=some (.int .i64 o)/\c.cell? ⟨w.heap.size,1,none⟩=some (.int .i64 B)) (by kernel_rfl) (x.out _ _ (bn.out.below (aq (ag _ _)))) (fun hS=>?_)
  refine eK 0 37 (vP h) rfl rfl (by kernel_rfl) (by kernel_rfl) (by kernel_rfl) (fun _ _ _ a=>a) (by rfl) hS (fun c g=>by obtain⟨C,E,F,G,H,I,J⟩:=g;go_simp) ?_
  try simp only[Act.put,aB,aA,aC]
  refine eK 1 38 (.iface 60 (.agg #[.pointer (some ⟨b.heap.size,0,none⟩),.string bt])) rfl rfl (by kernel_rfl) (by kernel_rfl) (by kernel_rfl) (fun _ _ _ a=>a) (by rfl) hS (fun c g=>by obtain⟨C,E,F,G,H,I,J⟩:=g;go_simp) ?_
  try simp only[Act.put,aB,aA,aC]
  refine eK 2 39 (.slice (some l) b4 cf) rfl rfl (by kernel_rfl) (by kernel_rfl) (by kernel_rfl) (fun _ _ _ a=>a) (by rfl) hS (fun c g=>by obtain⟨C,E,F,G,H,I,J⟩:=g;go_simp) ?_
  try simp only[Act.put,aB,aA,aC]
  refine eK 3 40 (.pointer (some l)) rfl rfl (by kernel_rfl) (by kernel_rfl) (by kernel_rfl) (fun _ _ _ a=>a) (by rfl) hS (fun c g=>by obtain⟨C,E,F,G,H,I,J⟩:=g;go_simp) ?_
  try simp only[Act.put,aB,aA,aC]
  refine eK 4 41 a5 rfl rfl (by kernel_rfl) (by kernel_rfl) (by kernel_rfl) (fun _ _ _ a=>a) (by rfl) hS (fun c g=>by obtain⟨C,E,F,G,H,I,J⟩:=g;go_simp) ?_
  try simp only[Act.put,aB,aA,aC]
  refine eK 5 42 (.bool false) rfl rfl (by kernel_rfl) (by kernel_rfl) (by kernel_rfl) (fun _ _ _ a=>a) (by rfl) hS (fun c g=>by obtain⟨C,E,F,G,H,I,J⟩:=g;go_simp) ?_
  try simp only[Act.put,aB,aA,aC]
  refine eK 6 43 (.bool false) rfl rfl (by kernel_rfl) (by kernel_rfl) (by kernel_rfl) (fun _ _ _ a=>a) (by rfl) hS (fun c g=>by obtain⟨C,E,F,G,H,I,J⟩:=g;go_simp) ?_
  try simp only[Act.put,aB,aA,aC]
  refine jp 7 44 rfl rfl (by kernel_rfl) (by kernel_rfl) (by kernel_rfl) (fun _ _ _ a=>a) (by rfl) hS ?_
  try simp only[Act.put,aB,aA,aC]
  refine jp 8 45 rfl rfl (by kernel_rfl) (by kernel_rfl) (by kernel_rfl) (fun _ _ _ a=>a) (by rfl) hS ?_
  try simp only[Act.put,aB,aA,aC]
  refine jp 9 46 rfl rfl (by kernel_rfl) (by kernel_rfl) (by kernel_rfl) (fun _ _ _ a=>a) (by rfl) hS ?_
  try simp only[Act.put,aB,aA,aC]
  refine jp 10 47 rfl rfl (by kernel_rfl) (by kernel_rfl) (by kernel_rfl) (fun _ _ _ a=>a) (by rfl) hS ?_
  try simp only[Act.put,aB,aA,aC]
  refine jp 11 48 rfl rfl (by kernel_rfl) (by kernel_rfl) (by kernel_rfl) (fun _ _ _ a=>a) (by rfl) hS ?_
  try simp only[Act.put,aB,aA,aC]
  refine eK 12 49 (.bool false) rfl rfl (by kernel_rfl) (by kernel_rfl) (by kernel_rfl) (fun _ _ _ a=>a) (by rfl) hS (fun c g=>by obtain⟨C,E,F,G,H,I,J⟩:=g;go_simp) ?_
  try simp only[Act.put,aB,aA,aC]
  refine wpAnyH_ready (rs:=[13]) (by kernel_rfl) (by simp) (AllReadyH.cons rfl (fun b6 b1=>?_) AllReadyH.nil)
  go_simp
  refine(cv.out _ _ (bn.out.below (aq (ag _ _))).ps).mono ?_
  rintro z dk ⟨rfl,u,s⟩
  refine b1.out _ _ (x.out _ _ ((bn.out.below (aq (ag _ _))).next ao.out u s)) (fun hS=>?_)
  clear b1 b6
  refine wpAnyH_done (by kernel_rfl) ?_ _
  all_goals
   have av:Hid (Ix b h A d.heap.size m.heap.size w.heap.size p q r K ad o a1 B a2 (a6++(if(false&&a3)=true then ft v else v)) dk):=((bn.out.below (aq (ag _ _))).next ao.out u s)
   obtain⟨bw,bx,bA,bD,bE,bF,b0⟩:=x.out _ _ av.out
   clear u s
   go_wp2_with fail
   go_region_held3 (fun f=>f.cell? l=some a5/\f.cell? ⟨l.block,l.off+1,none⟩=some ap/\f.cell? ⟨d.heap.size,0,none⟩=some (.int .i64 p)/\f.cell? ⟨d.heap.size,1,none⟩=some (.int .i64 q)/\f.cell? ⟨d.heap.size,2,none⟩=some (.int .i64 r)/\f.cell? ⟨m.heap.size,2,none⟩=some (.int .i64 o)/\f.cell? ⟨w.heap.size,1,none⟩=some (.int .i64 B)) (first|exact x.out _ _ (av.out.below (aq (ag _ _)))|exact x.out _ _ ((av.out.below (aq (ag _ _))).below bo)|exact x.out _ _ (((av.out.below (aq (ag _ _))).below bo).next ao.out u s)|go_keep) (first|(go_at_call 141;refine(ds.out _ (av.out.below (aq (ag _ _))).ps.pg.bel).mono ?_;rintro z e8 ⟨rfl,bo⟩)|(go_at_call 306;refine(cB.out _ _ ((av.out.below (aq (ag _ _))).below bo).ps).mono ?_;rintro z dn ⟨rfl,u,s⟩))
   all_goals
    have af:Hid (Ix b h A d.heap.size m.heap.size w.heap.size p q r K ad o a1 B a2 (a6++(if(false&&a3)=true then ft v else v)++(⟨#[32]⟩++bd++⟨#[32]⟩)) dn):=(((av.out.below (aq (ag _ _))).below bo).next ao.out u s)
    obtain⟨bw,bx,bA,bD,bE,bF,b0⟩:=x.out _ _ af.out
    clear u s
    cases cc
    ·skip
     have a7:=b9.out (false)
     have b2:Hid (Pw b h 140 #[vP h,.iface 60 (.agg #[.pointer (some ⟨b.heap.size,0,none⟩),.string bt]),ap,.bool false] (if(false&&a4)=true then ft y else y)):=a7
     clear a7
     go_wp2_with fail
     refine wp_region_held_drew (S:=fun c=>c.cell? l=some a5/\c.cell? ⟨l.block,l.off+1,none⟩=some ap/\c.cell? ⟨d.heap.size,0,none⟩=some (.int .i64 p)/\c.cell? ⟨d.heap.size,1,none⟩=some (.int .i64 q)/\c.cell? ⟨d.heap.size,2,none⟩=some (.int .i64 r)/\c.cell? ⟨m.heap.size,2,none⟩=some (.int .i64 o)/\c.cell? ⟨w.heap.size,1,none⟩=some (.int .i64 B)) (by kernel_rfl) (x.out _ _ (af.out.below (aq (ag _ _)))) (fun hS=>?_)
     refine eK 0 61 (vP h) rfl rfl (by kernel_rfl) (by kernel_rfl) (by kernel_rfl) (fun _ _ _ a=>a) (by rfl) hS (fun c g=>by obtain⟨C,E,F,G,H,I,J⟩:=g;go_simp) ?_
     try simp only[Act.put,aB,aA,aC]
     refine eK 1 62 (.iface 60 (.agg #[.pointer (some ⟨b.heap.size,0,none⟩),.string bt])) rfl rfl (by kernel_rfl) (by kernel_rfl) (by kernel_rfl) (fun _ _ _ a=>a) (by rfl) hS (fun c g=>by obtain⟨C,E,F,G,H,I,J⟩:=g;go_simp) ?_
     try simp only[Act.put,aB,aA,aC]
     refine eK 2 63 (.slice (some l) b4 cf) rfl rfl (by kernel_rfl) (by kernel_rfl) (by kernel_rfl) (fun _ _ _ a=>a) (by rfl) hS (fun c g=>by obtain⟨C,E,F,G,H,I,J⟩:=g;go_simp) ?_
     try simp only[Act.put,aB,aA,aC]
     refine eK 3 64 (.pointer (some ⟨l.block,l.off+1,none⟩)) rfl rfl (by kernel_rfl) (by kernel_rfl) (by kernel_rfl) (fun _ _ _ a=>a) (by rfl) hS (fun c g=>by obtain⟨C,E,F,G,H,I,J⟩:=g;go_simp) ?_
     try simp only[Act.put,aB,aA,aC]
     refine eK 4 65 ap rfl rfl (by kernel_rfl) (by kernel_rfl) (by kernel_rfl) (fun _ _ _ a=>a) (by rfl) hS (fun c g=>by obtain⟨C,E,F,G,H,I,J⟩:=g;go_simp) ?_
     try simp only[Act.put,aB,aA,aC]
     refine eK 5 66 (.bool false) rfl rfl (by kernel_rfl) (by kernel_rfl) (by kernel_rfl) (fun _ _ _ a=>a) (by rfl) hS (fun c g=>by obtain⟨C,E,F,G,H,I,J⟩:=g;go_simp) ?_
     try simp only[Act.put,aB,aA,aC]
     refine eK 6 67 (.bool false) rfl rfl (by kernel_rfl) (by kernel_rfl) (by kernel_rfl) (fun _ _ _ a=>a) (by rfl) hS (fun c g=>by obtain⟨C,E,F,G,H,I,J⟩:=g;go_simp) ?_
     try simp only[Act.put,aB,aA,aC]
     refine jp 7 68 rfl rfl (by kernel_rfl) (by kernel_rfl) (by kernel_rfl) (fun _ _ _ a=>a) (by rfl) hS ?_
     try simp only[Act.put,aB,aA,aC]
     refine jp 8 69 rfl rfl (by kernel_rfl) (by kernel_rfl) (by kernel_rfl) (fun _ _ _ a=>a) (by rfl) hS ?_
     try simp only[Act.put,aB,aA,aC]
     refine jp 9 70 rfl rfl (by kernel_rfl) (by kernel_rfl) (by kernel_rfl) (fun _ _ _ a=>a) (by rfl) hS ?_
     try simp only[Act.put,aB,aA,aC]
     refine jp 10 71 rfl rfl (by kernel_rfl) (by kernel_rfl) (by kernel_rfl) (fun _ _ _ a=>a) (by rfl) hS ?_
     try simp only[Act.put,aB,aA,aC]
     refine jp 11 72 rfl rfl (by kernel_rfl) (by kernel_rfl) (by kernel_rfl) (fun _ _ _ a=>a) (by rfl) hS ?_
     try simp only[Act.put,aB,aA,aC]
     refine eK 12 73 (.bool false) rfl rfl (by kernel_rfl) (by kernel_rfl) (by kernel_rfl) (fun _ _ _ a=>a) (by rfl) hS (fun c g=>by obtain⟨C,E,F,G,H,I,J⟩:=g;go_simp) ?_
     try simp only[Act.put,aB,aA,aC]
     refine wpAnyH_ready (rs:=[13]) (by kernel_rfl) (by simp) (AllReadyH.cons rfl (fun b6 b1=>?_) AllReadyH.nil)
     go_simp
     refine(b2.out _ _ (af.out.below (aq (ag _ _))).ps).mono ?_
     rintro z b5 ⟨rfl,u,s⟩
     refine b1.out _ _ (x.out _ _ ((af.out.below (aq (ag _ _))).next ao.out u s)) (fun hS=>?_)
     clear b1 b6
     refine wpAnyH_done (by kernel_rfl) ?_ _
     all_goals
      have a0:Hid (Ix b h A d.heap.size m.heap.size w.heap.size p q r K ad o a1 B a2 (a6++(if(false&&a3)=true then ft v else v)++(⟨#[32]⟩++bd++⟨#[32]⟩)++(if(false&&a4)=true then ft y else y)) b5):=((af.out.below (aq (ag _ _))).next ao.out u s)
      obtain⟨bw,bx,bA,bD,bE,bF,b0⟩:=x.out _ _ a0.out
      clear u s
      go_wp2_with fail
      go_end0
      refine⟨rfl,?_,a0.out.kq⟩
      have:=a0.out.ps
      rw[<-cd.out]
      simpa only[be] using this
    ·skip
     have a7:=b9.out (a4)
     have b2:Hid (Pw b h 140 #[vP h,.iface 60 (.agg #[.pointer (some ⟨b.heap.size,0,none⟩),.string bt]),ap,.bool a4] (if(true&&a4)=true then ft y else y)):=a7
     clear a7
     go_wp2_with fail
     go_region_held3 (fun f=>f.cell? l=some a5/\f.cell? ⟨l.block,l.off+1,none⟩=some ap/\f.cell? ⟨d.heap.size,0,none⟩=some (.int .i64 p)/\f.cell? ⟨d.heap.size,1,none⟩=some (.int .i64 q)/\f.cell? ⟨d.heap.size,2,none⟩=some (.int .i64 r)/\f.cell? ⟨m.heap.size,2,none⟩=some (.int .i64 o)/\f.cell? ⟨w.heap.size,1,none⟩=some (.int .i64 B)) (first|exact x.out _ _ (af.out.below (aq (ag _ _)))|exact x.out _ _ ((af.out.below (aq (ag _ _))).next ao.out u s)|go_keep) (first|(go_at_call 140;refine(b2.out _ _ (af.out.below (aq (ag _ _))).ps).mono ?_;rintro z b5 ⟨rfl,u,s⟩))
     all_goals
      have a0:Hid (Ix b h A d.heap.size m.heap.size w.heap.size p q r K ad o a1 B a2 (a6++(if(false&&a3)=true then ft v else v)++(⟨#[32]⟩++bd++⟨#[32]⟩)++(if(true&&a4)=true then ft y else y)) b5):=((af.out.below (aq (ag _ _))).next ao.out u s)
      obtain⟨bw,bx,bA,bD,bE,bF,b0⟩:=x.out _ _ a0.out
      clear u s
      go_wp2_with fail
      go_end0
      refine⟨rfl,?_,a0.out.kq⟩
      have:=a0.out.ps
      rw[<-cd.out]
      simpa only[be] using this
 ·skip
  have b8:=cz.out (a3)
  have cv:Hid (Pw b h 140 #[vP h,.iface 60 (.agg #[.pointer (some ⟨b.heap.size,0,none⟩),.string bt]),a5,.bool a3] (if(true&&a3)=true then ft v else v)):=b8
  clear b8
  go_wp2_with fail
  go_region_held3 (fun f=>f.cell? l=some a5/\f.cell? ⟨l.block,l.off+1,none⟩=some ap/\f.cell? ⟨d.heap.size,0,none⟩=some (.int .i64 p)/\f.cell? ⟨d.heap.size,1,none⟩=some (.int .i64 q)/\f.cell? ⟨d.heap.size,2,none⟩=some (.int .i64 r)/\f.cell? ⟨m.heap.size,2,none⟩=some (.int .i64 o)/\f.cell? ⟨w.heap.size,1,none⟩=some (.int .i64 B)) (first|exact x.out _ _ (bn.out.below (aq (ag _ _)))|exact x.out _ _ ((bn.out.below (aq (ag _ _))).next ao.out u s)|go_keep) (first|(go_at_call 140;refine(cv.out _ _ (bn.out.below (aq (ag _ _))).ps).mono ?_;rintro z dk ⟨rfl,u,s⟩))
  all_goals
   have av:Hid (Ix b h A d.heap.size m.heap.size w.heap.size p q r K ad o a1 B a2 (a6++(if(true&&a3)=true then ft v else v)) dk):=((bn.out.below (aq (ag _ _))).next ao.out u s)
   obtain⟨bw,bx,bA,bD,bE,bF,b0⟩:=x.out _ _ av.out
   clear u s
   go_wp2_with fail
   go_region_held3 (fun f=>f.cell? l=some a5/\f.cell? ⟨l.block,l.off+1,none⟩=some ap/\f.cell? ⟨d.heap.size,0,none⟩=some (.int .i64 p)/\f.cell? ⟨d.heap.size,1,none⟩=some (.int .i64 q)/\f.cell? ⟨d.heap.size,2,none⟩=some (.int .i64 r)/\f.cell? ⟨m.heap.size,2,none⟩=some (.int .i64 o)/\f.cell? ⟨w.heap.size,1,none⟩=some (.int .i64 B)) (first|exact x.out _ _ (av.out.below (aq (ag _ _)))|exact x.out _ _ ((av.out.below (aq (ag _ _))).below bo)|exact x.out _ _ (((av.out.below (aq (ag _ _))).below bo).next ao.out u s)|go_keep) (first|(go_at_call 141;refine(ds.out _ (av.out.below (aq (ag _ _))).ps.pg.bel).mono ?_;rintro z e8 ⟨rfl,bo⟩)|(go_at_call 306;refine(cB.out _ _ ((av.out.below (aq (ag _ _))).below bo).ps).mono ?_;rintro z dn ⟨rfl,u,s⟩))
   all_goals
    have af:Hid (Ix b h A d.heap.size m.heap.size w.heap.size p q r K ad o a1 B a2 (a6++(if(true&&a3)=true then ft v else v)++(⟨#[32]⟩++bd++⟨#[32]⟩)) dn):=(((av.out.below (aq (ag _ _))).below bo).next ao.out u s)
    obtain⟨bw,bx,bA,bD,bE,bF,b0⟩:=x.out _ _ af.out
    clear u s
    cases cc
    ·skip
     have a7:=b9.out (false)
     have b2:Hid (Pw b h 140 #[vP h,.iface 60 (.agg #[.pointer (some ⟨b.heap.size,0,none⟩),.string bt]),ap,.bool false] (if(false&&a4)=true then ft y else y)):=a7
     clear a7
     go_wp2_with fail
     refine wp_region_held_drew (S:=fun c=>c.cell? l=some a5/\c.cell? ⟨l.block,l.off+1,none⟩=some ap/\c.cell? ⟨d.heap.size,0,none⟩=some (.int .i64 p)/\c.cell? ⟨d.heap.size,1,none⟩=some (.int .i64 q)/\c.cell? ⟨d.heap.size,2,none⟩=some (.int .i64 r)/\c.cell? ⟨m.heap.size,2,none⟩=some (.int .i64 o)/\c.cell? ⟨w.heap.size,1,none⟩=some (.int .i64 B)) (by kernel_rfl) (x.out _ _ (af.out.below (aq (ag _ _)))) (fun hS=>?_)
     refine eK 0 61 (vP h) rfl rfl (by kernel_rfl) (by kernel_rfl) (by kernel_rfl) (fun _ _ _ a=>a) (by rfl) hS (fun c g=>by obtain⟨C,E,F,G,H,I,J⟩:=g;go_simp) ?_
     try simp only[Act.put,aB,aA,aC]
     refine eK 1 62 (.iface 60 (.agg #[.pointer (some ⟨b.heap.size,0,none⟩),.string bt])) rfl rfl (by kernel_rfl) (by kernel_rfl) (by kernel_rfl) (fun _ _ _ a=>a) (by rfl) hS (fun c g=>by obtain⟨C,E,F,G,H,I,J⟩:=g;go_simp) ?_
     try simp only[Act.put,aB,aA,aC]
     refine eK 2 63 (.slice (some l) b4 cf) rfl rfl (by kernel_rfl) (by kernel_rfl) (by kernel_rfl) (fun _ _ _ a=>a) (by rfl) hS (fun c g=>by obtain⟨C,E,F,G,H,I,J⟩:=g;go_simp) ?_
     try simp only[Act.put,aB,aA,aC]
     refine eK 3 64 (.pointer (some ⟨l.block,l.off+1,none⟩)) rfl rfl (by kernel_rfl) (by kernel_rfl) (by kernel_rfl) (fun _ _ _ a=>a) (by rfl) hS (fun c g=>by obtain⟨C,E,F,G,H,I,J⟩:=g;go_simp) ?_
     try simp only[Act.put,aB,aA,aC]
     refine eK 4 65 ap rfl rfl (by kernel_rfl) (by kernel_rfl) (by kernel_rfl) (fun _ _ _ a=>a) (by rfl) hS (fun c g=>by obtain⟨C,E,F,G,H,I,J⟩:=g;go_simp) ?_
     try simp only[Act.put,aB,aA,aC]
     refine eK 5 66 (.bool false) rfl rfl (by kernel_rfl) (by kernel_rfl) (by kernel_rfl) (fun _ _ _ a=>a) (by rfl) hS (fun c g=>by obtain⟨C,E,F,G,H,I,J⟩:=g;go_simp) ?_
     try simp only[Act.put,aB,aA,aC]
     refine eK 6 67 (.bool false) rfl rfl (by kernel_rfl) (by kernel_rfl) (by kernel_rfl) (fun _ _ _ a=>a) (by rfl) hS (fun c g=>by obtain⟨C,E,F,G,H,I,J⟩:=g;go_simp) ?_
     try simp only[Act.put,aB,aA,aC]
     refine jp 7 68 rfl rfl (by kernel_rfl) (by kernel_rfl) (by kernel_rfl) (fun _ _ _ a=>a) (by rfl) hS ?_
     try simp only[Act.put,aB,aA,aC]
     refine jp 8 69 rfl rfl (by kernel_rfl) (by kernel_rfl) (by kernel_rfl) (fun _ _ _ a=>a) (by rfl) hS ?_
     try simp only[Act.put,aB,aA,aC]
     refine jp 9 70 rfl rfl (by kernel_rfl) (by kernel_rfl) (by kernel_rfl) (fun _ _ _ a=>a) (by rfl) hS ?_
     try simp only[Act.put,aB,aA,aC]
     refine jp 10 71 rfl rfl (by kernel_rfl) (by kernel_rfl) (by kernel_rfl) (fun _ _ _ a=>a) (by rfl) hS ?_
     try simp only[Act.put,aB,aA,aC]
     refine jp 11 72 rfl rfl (by kernel_rfl) (by kernel_rfl) (by kernel_rfl) (fun _ _ _ a=>a) (by rfl) hS ?_
     try simp only[Act.put,aB,aA,aC]
     refine eK 12 73 (.bool false) rfl rfl (by kernel_rfl) (by kernel_rfl) (by kernel_rfl) (fun _ _ _ a=>a) (by rfl) hS (fun c g=>by obtain⟨C,E,F,G,H,I,J⟩:=g;go_simp) ?_
     try simp only[Act.put,aB,aA,aC]
     refine wpAnyH_ready (rs:=[13]) (by kernel_rfl) (by simp) (AllReadyH.cons rfl (fun b6 b1=>?_) AllReadyH.nil)
     go_simp
     refine(b2.out _ _ (af.out.below (aq (ag _ _))).ps).mono ?_
     rintro z b5 ⟨rfl,u,s⟩
     refine b1.out _ _ (x.out _ _ ((af.out.below (aq (ag _ _))).next ao.out u s)) (fun hS=>?_)
     clear b1 b6
     refine wpAnyH_done (by kernel_rfl) ?_ _
     all_goals
      have a0:Hid (Ix b h A d.heap.size m.heap.size w.heap.size p q r K ad o a1 B a2 (a6++(if(true&&a3)=true then ft v else v)++(⟨#[32]⟩++bd++⟨#[32]⟩)++(if(false&&a4)=true then ft y else y)) b5):=((af.out.below (aq (ag _ _))).next ao.out u s)
      obtain⟨bw,bx,bA,bD,bE,bF,b0⟩:=x.out _ _ a0.out
      clear u s
      go_wp2_with fail
      go_end0
      refine⟨rfl,?_,a0.out.kq⟩
      have:=a0.out.ps
      rw[<-cd.out]
      simpa only[be] using this
    ·skip
     have a7:=b9.out (a4)
     have b2:Hid (Pw b h 140 #[vP h,.iface 60 (.agg #[.pointer (some ⟨b.heap.size,0,none⟩),.string bt]),ap,.bool a4] (if(true&&a4)=true then ft y else y)):=a7
     clear a7
     go_wp2_with fail
     go_region_held3 (fun f=>f.cell? l=some a5/\f.cell? ⟨l.block,l.off+1,none⟩=some ap/\f.cell? ⟨d.heap.size,0,none⟩=some (.int .i64 p)/\f.cell? ⟨d.heap.size,1,none⟩=some (.int .i64 q)/\f.cell? ⟨d.heap.size,2,none⟩=some (.int .i64 r)/\f.cell? ⟨m.heap.size,2,none⟩=some (.int .i64 o)/\f.cell? ⟨w.heap.size,1,none⟩=some (.int .i64 B)) (first|exact x.out _ _ (af.out.below (aq (ag _ _)))|exact x.out _ _ ((af.out.below (aq (ag _ _))).next ao.out u s)|go_keep) (first|(go_at_call 140;refine(b2.out _ _ (af.out.below (aq (ag _ _))).ps).mono ?_;rintro z b5 ⟨rfl,u,s⟩))
     all_goals
      have a0:Hid (Ix b h A d.heap.size m.heap.size w.heap.size p q r K ad o a1 B a2 (a6++(if(true&&a3)=true then ft v else v)++(⟨#[32]⟩++bd++⟨#[32]⟩)++(if(true&&a4)=true then ft y else y)) b5):=((af.out.below (aq (ag _ _))).next ao.out u s)
      obtain⟨bw,bx,bA,bD,bE,bF,b0⟩:=x.out _ _ a0.out
      clear u s
      go_wp2_with fail
      go_end0
      refine⟨rfl,?_,a0.out.kq⟩
      have:=a0.out.ps
      rw[<-cd.out]
      simpa only[be] using this
