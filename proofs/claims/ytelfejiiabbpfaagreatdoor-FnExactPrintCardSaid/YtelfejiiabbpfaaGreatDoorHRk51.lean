import Derived.Test.YtelfejiiabbpfaaGreatDoorHRk32
import Derived.Test.YtelfejiiabbpfaaGreatDoorHRk33
import Derived.Test.YtelfejiiabbpfaaGreatDoorHRk43
import Derived.Test.YtelfejiiabbpfaaGreatDoorHRk44
import Derived.Test.YtelfejiiabbpfaaGreatDoorHRk45
import Derived.Test.YtelfejiiabbpfaaGreatDoorHRk46
import Derived.Test.YtelfejiiabbpfaaGreatDoorHRk47
import Derived.Test.YtelfejiiabbpfaaGreatDoorHRk49
import Derived.Test.YtelfejiiabbpfaaGreatDoorHRk04
import Derived.Test.YtelfejiiabbpfaaGreatDoorHRk01
set_option linter.unusedVariables false
set_option maxRecDepth 100000
set_option maxHeartbeats 6400000
namespace Go.Proofs.YtelfejiiabbpfaaGreatDoor
open Go.RowKit Go.Maps Go.WideMaps
theorem m_for4 (w0:World) (vb:Nat) (ns:List Nd) (L:List Im) (base:Nat) (vs:Value) (Tp0:Tp w0 ns L base vs) (t:Nat) (ht:t<=100000) (i:Nat) (hi:i<ns.length) (N:Nd) (hN:nodeI ns i=N) (hk:N.k=9) (hlk:N.ks.length<=1048576) (hlm:N.nm.length<=1048576) (hnz:(sepB N.nm).size<=1000000) (hLn:N.ks.length=4) (X:ByteArray) (hLX:∀v,SlAt w0 L v (N.ks.take 3)->Pw w0 vb 93 #[vP vb,mgV w0 t,v] X) (q3:Nat) (hk3:N.ks[3]?=some (q3:Int)) (E3:ByteArray) (hV3:Vis w0 vb L t (q3:Int) E3):
  Pw w0 vb 40 #[vP vb,mgV w0 t,nV (imI L i)] (⟨#[102,111,114,32]⟩++sepB N.nm++⟨#[32,61,32]⟩++X++⟨#[32]⟩++E3):=by
 intro T w h
 obtain⟨b,vn,a,n,c,hv,Q⟩:=nd_q Tp0 hi
 rw[hN]at hv Q
 have kh:=fun w=>head_any b w
 have hmp:=fun w=>m_put w0.heap.size (tabB t) w
 have hml:=fun w=>m_line w0.heap.size (tabB t) w
 have hmi:=fun w=>m_inner w0.heap.size (tabB t) w
 have hna:=fun w=>na_put w0.heap.size (tabB t) w
 have hn:=Q.hn
 have hmt:=fun w=>methC (cls N.k) b w
 have hc:cls N.k=0:=by rw[hk];rfl
 obtain⟨pa,rfl,hcap,_⟩:=Q.ks.get hk3
 rw[hn]at hcap
 have hnn:n=4:=by omega
 subst hnn
 have KN:Hid (∀W,Below w0.heap.size w0 W->Calls Tryz.prog 90 #[.iface 142 (.pointer (some ⟨b,0,none⟩))] W fun e w'=>e= .returned (.string (sepB N.nm))/\Below W.heap.size W w'):=fun W hb=>namesOf_any W b vn N.nm (Q.nm.below hb) Q.jn hlm (by omega) ((Q.cells hb).2.2 _ (by rw[hc];rfl))
 obtain⟨sn,hsn⟩:∃sn,sepB N.nm=sn:=⟨_,rfl⟩
 rw[hsn]at hnz KN
 have f0:¬9223372036854775807<4+sn.size:=by omega
 have f1:¬9223372036854775807<4+sn.size+3:=by omega
 have hc0:¬c=0:=by omega
 have hc1:(3:Int)<=(c:Int):=by omega
 have hc2:3<=c:=by omega
 rw[hsn]
 clear hsn
 have S0:Hid (Pw w0 vb 95 _ ((((⟨#[102,111,114,32]⟩:ByteArray)++sn++(⟨#[32,61,32]⟩:ByteArray))++X)++(⟨#[32]⟩:ByteArray)++E3)):=headed_any w0 vb t ((⟨#[102,111,114,32]⟩:ByteArray)++sn++(⟨#[32,61,32]⟩:ByteArray)) (((⟨#[102,111,114,32]⟩:ByteArray)++sn++(⟨#[32,61,32]⟩:ByteArray))++X) E3 (.slice (some pa) 3 c) _ (phrase_any w0 vb t ((⟨#[102,111,114,32]⟩:ByteArray)++sn++(⟨#[32,61,32]⟩:ByteArray)) X (by simp only[ByteArray.size_append];show 4+_+3<=_;omega) _ (hLX _ (Q.ks.take 3 (by omega)))) hV3
 obtain⟨v3,hv3⟩:∃v,nV (imI L (q3:Int))=v:=⟨_,rfl⟩
 rw[hv3]at S0
 have cel:Hid (∀W,Below w0.heap.size w0 W->W.cell? ⟨b,0,none⟩=some (.int .i64 N.k)/\W.cell? ⟨b,5,none⟩=some (.slice (some pa) 4 c)/\W.cell? ⟨b,6,none⟩=some vn/\W.cell? ⟨pa.block,pa.off+3,none⟩=some v3):=fun W hb=>⟨(Q.cells hb).1,(Q.cells hb).2.1,(Q.cells hb).2.2 _ (by rw[hc];rfl),by rw[<-hv3];obtain⟨_,e,_,x⟩:=(Q.ks.below hb).get hk3;cases e;exact add_cell x (by decide)⟩
 have P0:Hid (Ps w0 vb T w/\Kq w0.heap.size w w):=⟨h,Kq.refl _ _⟩
 obtain⟨x0,x5,x6,y3⟩:=cel.out _ h.pg.bel
 rw[hv]
 rw[hc]at hmt⊢
 simp only[ptT]at hmt⊢
 have has:=fun w=>asP0 b w
 unfold mgV mgA at *
 generalize tabB t=tb at *
 have HQ:Hid (NdQ w0 L N b vn (some pa) 4 c):=Q
 clear h Q hv hk
 go_enter Tryz.func40,Tryz.ntmps40
 go_wp2_with (first|(go_at_call 233;refine(kh _).mono ?_;rintro e w' ⟨rfl,hw'⟩;subst w'))
 go_region_held3 (fun W'=>W'.cell? ⟨b,0,none⟩=some (.int .i64 N.k)/\W'.cell? ⟨b,5,none⟩=some (.slice (some pa) 4 c)/\W'.cell? ⟨b,6,none⟩=some vn/\W'.cell? ⟨pa.block,pa.off+3,none⟩=some v3) (first|exact cel.out _ (P0.out.1.below (bel_drew1 (Below.refl _ _))).pg.bel|exact cel.out _ ((P0.out.1.below (bel_drew1 (Below.refl _ _))).below hbwn).pg.bel|exact cel.out _ qq.pg.bel|go_keep) (first|(go_at_call 233;refine(kh _).mono ?_;rintro e w' ⟨rfl,hw'⟩;subst w')|(go_at_call 90;refine(KN.out _ (P0.out.1.below (bel_drew1 (Below.refl _ _))).pg.bel).mono ?_;rintro e wn ⟨rfl,hbwn⟩)|(go_at_call 95;refine(S0.out _ _ ((P0.out.1.below (bel_drew1 (Below.refl _ _))).below hbwn)).mono ?_;rintro e u0 ⟨rfl,qq,kk⟩))
 all_goals
  have P1:Hid (Ps w0 vb (T++((((⟨#[102,111,114,32]⟩:ByteArray)++sn++(⟨#[32,61,32]⟩:ByteArray))++X)++(⟨#[32]⟩:ByteArray)++E3)) u0/\Kq w0.heap.size w u0):=⟨qq,((P0.out.2.trans (Kq.of_below (bel_drew1 (Below.refl _ _)))).trans (Kq.of_below hbwn)).trans kk⟩
  obtain⟨x0,x5,x6,y3⟩:=cel.out _ qq.pg.bel
  clear qq kk
  go_wp2_with (first|(go_at_call 233;refine(kh _).mono ?_;rintro e w' ⟨rfl,hw'⟩;subst w'))
  go_end0
  refine⟨rfl,?_,P1.out.2⟩
  have:=P1.out.1
  simpa only[ByteArray.append_assoc] using this
theorem m_while (w0:World) (vb:Nat) (ns:List Nd) (L:List Im) (base:Nat) (vs:Value) (Tp0:Tp w0 ns L base vs) (t:Nat) (ht:t<=100000) (i:Nat) (hi:i<ns.length) (N:Nd) (hN:nodeI ns i=N) (hlk:N.ks.length<=1048576) (hLn:N.ks.length=2) (X:ByteArray) (hLX:∀v,SlAt w0 L v (N.ks.take 1)->Pw w0 vb 93 #[vP vb,mgV w0 t,v] X) (q1:Nat) (hk1:N.ks[1]?=some (q1:Int)) (E1:ByteArray) (hV1:Vis w0 vb L t (q1:Int) E1):
  Pw w0 vb 39 #[vP vb,mgV w0 t,nV (imI L i)] (⟨#[119,104,105,108,101,32]⟩++X++⟨#[32]⟩++E1):=by
 intro T w h
 obtain⟨b,vn,a,n,c,hv,Q⟩:=nd_q Tp0 hi
 rw[hN]at hv Q
 have kh:=fun w=>head_any b w
 have hmp:=fun w=>m_put w0.heap.size (tabB t) w
 have hml:=fun w=>m_line w0.heap.size (tabB t) w
 have hmi:=fun w=>m_inner w0.heap.size (tabB t) w
 have hna:=fun w=>na_put w0.heap.size (tabB t) w
 have hn:=Q.hn
 have hmt:=fun w=>methC (cls N.k) b w
 obtain⟨pa,rfl,hcap,_⟩:=Q.ks.get hk1
 rw[hn]at hcap
 have hnn:n=2:=by omega
 subst hnn
 have hc0:¬c=0:=by omega
 have hc1:(1:Int)<=(c:Int):=by omega
 have hc2:1<=c:=by omega
 have S0:Hid (Pw w0 vb 95 _ ((((⟨#[119,104,105,108,101,32]⟩:ByteArray))++X)++(⟨#[32]⟩:ByteArray)++E1)):=headed_any w0 vb t ((⟨#[119,104,105,108,101,32]⟩:ByteArray)) (((⟨#[119,104,105,108,101,32]⟩:ByteArray))++X) E1 (.slice (some pa) 1 c) _ (phrase_any w0 vb t ((⟨#[119,104,105,108,101,32]⟩:ByteArray)) X (by decide) _ (hLX _ (Q.ks.take 1 (by omega)))) hV1
 obtain⟨v1,hv1⟩:∃v,nV (imI L (q1:Int))=v:=⟨_,rfl⟩
 rw[hv1]at S0
 have cel:Hid (∀W,Below w0.heap.size w0 W->W.cell? ⟨b,0,none⟩=some (.int .i64 N.k)/\W.cell? ⟨b,5,none⟩=some (.slice (some pa) 2 c)/\W.cell? ⟨pa.block,pa.off+1,none⟩=some v1):=fun W hb=>⟨(Q.cells hb).1,(Q.cells hb).2.1,by rw[<-hv1];obtain⟨_,e,_,x⟩:=(Q.ks.below hb).get hk1;cases e;exact add_cell x (by decide)⟩
 have P0:Hid (Ps w0 vb T w/\Kq w0.heap.size w w):=⟨h,Kq.refl _ _⟩
 obtain⟨x0,x5,y1⟩:=cel.out _ h.pg.bel
 rw[hv]
 generalize ptT (cls N.k)=tp at hmt⊢
 unfold mgV mgA at *
 generalize tabB t=tb at *
 have HQ:Hid (NdQ w0 L N b vn (some pa) 2 c):=Q
 clear h Q hv
 go_enter Tryz.func39,Tryz.ntmps39
 go_wp2_with (first|(go_at_call 233;refine(kh _).mono ?_;rintro e w' ⟨rfl,hw'⟩;subst w'))
 go_region_held3 (fun W'=>W'.cell? ⟨b,0,none⟩=some (.int .i64 N.k)/\W'.cell? ⟨b,5,none⟩=some (.slice (some pa) 2 c)/\W'.cell? ⟨pa.block,pa.off+1,none⟩=some v1) (first|exact cel.out _ (P0.out.1.below (bel_drew1 (Below.refl _ _))).pg.bel|exact cel.out _ qq.pg.bel|go_keep) (first|(go_at_call 233;refine(kh _).mono ?_;rintro e w' ⟨rfl,hw'⟩;subst w')|(go_at_call 95;refine(S0.out _ _ (P0.out.1.below (bel_drew1 (Below.refl _ _)))).mono ?_;rintro e u0 ⟨rfl,qq,kk⟩))
 all_goals
  have P1:Hid (Ps w0 vb (T++((((⟨#[119,104,105,108,101,32]⟩:ByteArray))++X)++(⟨#[32]⟩:ByteArray)++E1)) u0/\Kq w0.heap.size w u0):=⟨qq,(P0.out.2.trans (Kq.of_below (bel_drew1 (Below.refl _ _)))).trans kk⟩
  obtain⟨x0,x5,y1⟩:=cel.out _ qq.pg.bel
  clear qq kk
  go_wp2_with (first|(go_at_call 233;refine(kh _).mono ?_;rintro e w' ⟨rfl,hw'⟩;subst w'))
  go_end0
  refine⟨rfl,?_,P1.out.2⟩
  have:=P1.out.1
  simpa only[ByteArray.append_assoc] using this
structure Mp (w0:World) (p1:Addr) (n c1:Nat) (ns:List Nd):Prop where
 nds:NdsAt w0 (.slice (some p1) n c1) ns
 cap:KCap w0 p1 ns
 len:ns.length=n
 big:n<=3000
 sz:Szd ns
 n0:∀i:Int, -9223372036854775808<=(nodeI ns i).n
 n1:∀i:Int,(nodeI ns i).n<=9223372036854775807
abbrev vT (p1:Addr) (n c1:Nat):Value:= .slice (some p1) n c1
def OkB (w0:World) (p1:Addr) (n c1:Nat) (ns:List Nd) (f:Nat):Prop:=
 ∀(k tab:Nat) (word vn vk),k<f->(nodeI ns k).k=7->tab+f<=500000->StrsAt w0 vn (nodeI ns k).nm->IntsAt w0 vk (nodeI ns k).ks->Wr w0 (vT p1 n c1) tab 26 #[pW w0,vNd (nodeI ns k) vn vk,.string word] (txBr ns f k word tab)
structure OkA (w0:World) (p1:Addr) (n c1:Nat) (ns:List Nd) (f:Nat):Prop where
 e:∀tab:Nat,tab+f<=500000->OkE w0 (vT p1 n c1) ns (fun k=>txE ns f k tab) tab f
 s:OkS w0 (vT p1 n c1) ns (fun k t=>txS ns f k t) f
 b:OkB w0 p1 n c1 ns f
theorem OkA.zero (w0:World) (p1:Addr) (n c1:Nat) (ns:List Nd):OkA w0 p1 n c1 ns 0:=
 ⟨fun _ _ k _ _ _ h=>absurd h (by omega),fun k _ _ _ h=>absurd h (by omega),fun k _ _ _ _ h=>absurd h (by omega)⟩
section
variable {w0 : World} {p1 : Addr} {n c1 : Nat} {ns : List Nd} (M : Mp w0 p1 n c1 ns) {f : Nat} (A : OkA w0 p1 n c1 ns f)
theorem Wr.expr0 (A:OkA w0 p1 n c1 ns f) {tab q:Nat}(ht:tab+f<=500000) (hq:q<f) (he:exprK (nodeI ns q).k=true):Wr w0 (vT p1 n c1) tab 24 #[pW w0,.int .i64 (q:Int),.int .i64 0] (txE ns f q tab):=
 fun T W h hl=>(A.e tab ht).zero q T W hq he h hl
theorem Wr.blk (M:Mp w0 p1 n c1 ns) (A:OkA w0 p1 n c1 ns f) {tab q:Nat}(ht:tab+f<500000) (hq:q<=f) (hql:q<ns.length) (hk:(nodeI ns q).k=1):Wr w0 (vT p1 n c1) tab 21 #[pW w0,.int .i64 (q:Int)] (blB (fun k t=>txS ns f k t) (nodeI ns q).ks tab):=by
 intro T W h hl
 obtain⟨hs,hl2⟩:=nb_se (M.sz.nb q hql)
 have hb:=nb_block hs hk
 refine block_any w0 _ ns _ f A.s M.nds (by rw[M.len];have:=M.big;omega) q hql (fun z hz=>?_) (by omega) tab ht T W h hl
 obtain⟨j,hj,rfl⟩:=kid_mem hz
 obtain⟨y,hy⟩:=kid_of (M.sz.nb q hql) hql j hj
 have:=sb_at _ 0 hb j (by omega) (by omega)
 rw[hy.id]at this⊢
 exact⟨y,rfl,by have:=hy.lt;omega,hy.len,this⟩
theorem Wr.exs (A:OkA w0 p1 n c1 ns f) {tab:Nat}(ht:tab+f<=500000) {ls:List Int}(hA:ExAll ns f ls) (hn:ls.length<=1048576) (v:Value) (hv:IntsAt w0 v ls):Wr w0 (vT p1 n c1) tab 23 #[pW w0,v] (sepB (ls.map fun k=>txE ns f k tab)):=
 fun T W h hl=>exprs_any w0 _ v ns _ tab f (A.e tab ht) ls hv hA hn T W h hl
theorem Wr.nms (N:Nd) {tab:Nat}(hn:N.nm.length<=1048576) (v:Value) (hv:StrsAt w0 v N.nm):Wr w0 (vT p1 n c1) tab 22 #[pW w0,v] (sepB N.nm):=
 fun T W h hl=>names_any w0 _ v N.nm T tab W h hv hn hl
theorem Wr.bod (M:Mp w0 p1 n c1 ns) (A:OkA w0 p1 n c1 ns f) {tab q:Nat}(ht:tab+f<500000) (hq:q<=f) (hql:q<ns.length) (hk:(nodeI ns q).k=36):Wr w0 (vT p1 n c1) tab 25 #[pW w0,.int .i64 (q:Int)] (bodB ns (fun k t=>txS ns f k t) (nodeI ns q) tab):=by
 intro T W h hl
 obtain⟨hs,hl2⟩:=nb_se (M.sz.nb q hql)
 obtain⟨h1,h2,h3,h4⟩:=nb_fn hs hk
 obtain⟨y,hy⟩:=kid_of (M.sz.nb q hql) hql 0 (by omega)
 rw[hy.id]at h2
 obtain⟨hs2,hl3⟩:=nb_se (M.sz.nb y hy.len)
 have hb:=nb_block hs2 h2
 refine body_any w0 _ ns _ f A.s M.nds (by rw[M.len];have:=M.big;omega) q hql y hy.at_ hy.len (fun z hz=>?_) (by omega) (by omega) (by omega) tab ht T W h hl
 obtain⟨j,hj,rfl⟩:=kid_mem hz
 obtain⟨u,hu⟩:=kid_of (M.sz.nb y hy.len) hy.len j hj
 have:=sb_at _ 0 hb j (by omega) (by omega)
 rw[hu.id]at this⊢
 exact⟨u,rfl,by have:=hu.lt;have:=hy.lt;omega,hu.len,this⟩
theorem exM_all (M:Mp w0 p1 n c1 ns) {i:Nat}(hi:i<ns.length) (hif:i<=f) {a m:Nat}(h:∀j,a<=j->j<a+m->exprK (nodeI ns (kidI (nodeI ns i) j)).k=true) (hm:a+m<=(nodeI ns i).ks.length):ExAll ns f (((nodeI ns i).ks.drop a).take m):=by
 intro z hz
 obtain⟨j,hj,e⟩:=List.getElem_of_mem hz
 rw[List.length_take,List.length_drop]at hj
 rw[List.getElem_take,List.getElem_drop]at e
 obtain⟨y,hy⟩:=kid_of (M.sz.nb i hi) hi (a+j) (by omega)
 have e2:=kid_get0 (N:=nodeI ns i) (j:=a+j) (by omega)
 rw[e2,hy.id]at e
 have:=h (a+j) (by omega) (by omega)
 rw[hy.id]at this
 exact⟨y,e.symm,by have:=hy.lt;omega,hy.len,this⟩
end
section
variable {w0 : World} {p1 : Addr} {n c1 : Nat} {ns : List Nd} {f : Nat}
theorem Wr.bas (M:Mp w0 p1 n c1 ns) (A:OkA w0 p1 n c1 ns f) {tab q:Nat}(ht:tab+f<=500000) (hq:q<f) (hql:q<ns.length) (he:exprK (nodeI ns q).k=true):Wr w0 (vT p1 n c1) tab 79 #[pW w0,.int .i64 (q:Int)] (bsB ns (fun k=>txE ns f k tab) q):=
 fun T W h hl=>base_any w0 _ ns _ tab f (A.e tab ht) M.nds (by rw[M.len];have:=M.big;omega) q hq hql he T W h hl
theorem expr_dir (M:Mp w0 p1 n c1 ns) (A:OkA w0 p1 n c1 ns f) (tab i:Nat) (ht:tab+f<500000) (hif:i<=f) (hi:i<ns.length) (he:exprK (nodeI ns i).k=true) (least:Int) (hle:¬powP (nodeI ns i).k (nodeI ns i).op<least):
  Wr w0 (vT p1 n c1) tab 24 #[pW w0,.int .i64 (i:Int),.int .i64 least] (prE ns (fun q=>txE ns f q tab) (fun q t=>txS ns f q t) (nodeI ns i) tab):=by
 have hbig:=M.big
 have hlen:=M.len
 obtain⟨hs,hl2⟩:=nb_se (M.sz.nb i hi)
 have hx:=txt_of (M.sz.nb i hi)
 have kd:=fun j hj=>kid_of (M.sz.nb i hi) hi j hj
 have hop:(nodeI ns i).k=31->1<=(nodeI ns i).op/\(nodeI ns i).op<=18:=fun e=>(nb_two hs (by omega)).2.2 e
 have hi':i<n:=by omega
 have hln:n<=1048576:=by omega
 have hlk:(nodeI ns i).ks.length<=1048576:=by omega
 have hk:=of_decide_eq_true he
 have inf:∀(sg:ByteArray) (vn vk:Value),StrsAt w0 vn (nodeI ns i).nm->IntsAt w0 vk (nodeI ns i).ks->((nodeI ns i).k=28\/(nodeI ns i).k=29\/(nodeI ns i).k=31)->
   Wr w0 (vT p1 n c1) tab 76 #[pW w0,vNd (nodeI ns i) vn vk,.string sg,.int .i64 (powP (nodeI ns i).k (nodeI ns i).op)] (infB ns (fun q=>txE ns f q tab) (nodeI ns i) sg (powP (nodeI ns i).k (nodeI ns i).op)):=by
  intro sg vn vk hn hv hkk T W h hl
  obtain⟨h1,h2,h3⟩:=nb_two hs (by omega)
  obtain⟨a,ha⟩:=kd 0 (by omega)
  obtain⟨b,hb⟩:=kd 1 (by omega)
  have ea:=ex_at 2 0 h2 0 (by omega) (by omega)
  have eb:=ex_at 2 0 h2 1 (by omega) (by omega)
  rw[ha.id]at ea
  rw[hb.id]at eb
  have hp:=powP_pos (nodeI ns i).k (nodeI ns i).op
  exact infix_any w0 _ ns _ tab f (A.e tab (by omega)) (nodeI ns i) vn vk hv a b ha.at_ hb.at_ (by have:=ha.lt;omega) (by have:=hb.lt;omega) ea eb hlk (fun e1 e2=>by rcases hkk with e|e|e;exact absurd e e2;exact absurd e e1;exact h3 e) sg _ (by omega) (by omega) T W h hl
 unfold prE
 by_cases e1:(nodeI ns i).k=28
 ·rw[if_pos e1];exact expr_and w0 p1 n c1 ns M.nds M.cap M.len hln tab i hi' _ rfl hlk e1 hop least hle _ (fun vn vk hn hv=>inf _ vn vk hn hv (by omega))
 rw[if_neg e1]
 by_cases e2:(nodeI ns i).k=29
 ·rw[if_pos e2];exact expr_or w0 p1 n c1 ns M.nds M.cap M.len hln tab i hi' _ rfl hlk e2 hop least hle _ (fun vn vk hn hv=>inf _ vn vk hn hv (by omega))
 rw[if_neg e2]
 by_cases e3:(nodeI ns i).k=31
 ·rw[if_pos e3];exact expr_bin w0 p1 n c1 ns M.nds M.cap M.len hln tab i hi' _ rfl hlk e3 hop least hle (hop e3) (bin_size (hop e3)) _ (fun vn vk hn hv=>inf _ vn vk hn hv (by omega))
 rw[if_neg e3]
 by_cases e4:(nodeI ns i).k=30
 ·rw[if_pos e4]
  obtain⟨h1,h2,h3⟩:=nb_one hs (by omega)
  obtain⟨a,ha⟩:=kd 0 (by omega)
  rw[ha.id]at h2
  exact expr_unary w0 p1 n c1 ns M.nds M.cap M.len hln tab i hi' _ rfl hlk e4 hop least hle _ (fun vn vk hn hv T W h hl=>unary_any w0 _ ns _ tab f (A.e tab (by omega)) M.nds (by omega) _ vn vk hv a ha.at_ (by have:=ha.lt;omega) ha.len hlk h2 (h3 e4) T W h hl)
 rw[if_neg e4]
 by_cases e5:(nodeI ns i).k=32
 ·rw[if_pos e5]
  obtain⟨h1,h2,h3⟩:=nb_two hs (by omega)
  obtain⟨a,ha⟩:=kd 0 (by omega)
  obtain⟨b,hb⟩:=kd 1 (by omega)
  have ea:=ex_at 2 0 h2 0 (by omega) (by omega)
  have eb:=ex_at 2 0 h2 1 (by omega) (by omega)
  rw[ha.id]at ea⊢
  rw[hb.id]at eb⊢
  exact expr_index w0 p1 n c1 ns M.nds M.cap M.len hln tab i hi' _ rfl hlk e5 hop least hle a ha.at_ _ (Wr.bas M A (by omega) (by have:=ha.lt;omega) ha.len ea) b hb.at_ _ (Wr.expr0 A (by omega) (by have:=hb.lt;omega) eb)
 rw[if_neg e5]
 by_cases e6:(nodeI ns i).k=33
 ·rw[if_pos e6]
  obtain⟨h1,h2,h3⟩:=nb_one hs (by omega)
  obtain⟨a,ha⟩:=kd 0 (by omega)
  rw[ha.id]at h2⊢
  exact expr_field w0 p1 n c1 ns M.nds M.cap M.len hln tab i hi' _ rfl hlk e6 hop least hle a ha.at_ _ (Wr.bas M A (by omega) (by have:=ha.lt;omega) ha.len h2)
 rw[if_neg e6]
 by_cases e7:(nodeI ns i).k=34
 ·rw[if_pos e7]
  obtain⟨h1,h2⟩:=nb_call hs e7
  obtain⟨a,ha⟩:=kd 0 (by omega)
  have ea:=ex_at _ 0 h2 0 (by omega) (by omega)
  have hA:=exM_all M hi hif (a:=1) (m:=(nodeI ns i).ks.length-1) (fun j h3 h4=>ex_at _ 0 h2 j (by omega) (by omega)) (by omega)
  rw[List.take_of_length_le (by rw[List.length_drop];exact Nat.le_refl _)]at hA
  rw[ha.id]at ea⊢
  exact expr_call w0 p1 n c1 ns M.nds M.cap M.len hln tab i hi' _ rfl hlk e7 hop least hle a ha.at_ _ (Wr.bas M A (by omega) (by have:=ha.lt;omega) ha.len ea) _ (fun v hv=>Wr.exs A (by omega) hA (by rw[List.length_drop];omega) v hv)
 rw[if_neg e7]
 by_cases e8:(nodeI ns i).k=35
 ·rw[if_pos e8]
  have h1:=nb_table hs e8
  refine expr_table w0 p1 n c1 ns M.nds M.cap M.len hln tab i hi' _ rfl hlk e8 hop least hle _ (fun vn vk hn hv=>table_any w0 p1 n c1 ns M.nds M.cap M.len hln _ tab _ vn vk hv hlk (fun z hz=>?_))
  obtain⟨j,hj,rfl⟩:=kid_mem hz
  obtain⟨y,hy⟩:=kd j hj
  have h2:=en_at _ 0 h1 j (by omega) (by omega)
  rw[hy.id]at h2⊢
  refine⟨y,rfl,hy.len,?_⟩
  obtain⟨hs2,hl3⟩:=nb_se (M.sz.nb y hy.len)
  have kd2:=fun j hj=>kid_of (M.sz.nb y hy.len) hy.len j hj
  have hyl:=hy.lt
  by_cases e41:(nodeI ns y).k=41
  ·obtain⟨g1,g2,g3⟩:=nb_two hs2 (by omega)
   obtain⟨a,ha⟩:=kd2 0 (by omega)
   obtain⟨b,hb⟩:=kd2 1 (by omega)
   have ea:=ex_at 2 0 g2 0 (by omega) (by omega)
   have eb:=ex_at 2 0 g2 1 (by omega) (by omega)
   rw[ha.id]at ea
   rw[hb.id]at eb
   exact .inl ⟨e41,a,b,ha.at_,hb.at_,Wr.expr0 A (by omega) (by have:=ha.lt;omega) ea,Wr.expr0 A (by omega) (by have:=hb.lt;omega) eb⟩
  ·obtain⟨g1,g2,g3⟩:=nb_one hs2 (by omega)
   obtain⟨a,ha⟩:=kd2 0 (by omega)
   rw[ha.id]at g2
   exact .inr ⟨e41,a,ha.at_,Wr.expr0 A (by omega) (by have:=ha.lt;omega) g2⟩
 rw[if_neg e8]
 by_cases e9:(nodeI ns i).k=36
 ·rw[if_pos e9]
  exact expr_fn w0 p1 n c1 ns M.nds M.cap M.len hln tab i hi' _ rfl hlk e9 hop least hle _ (Wr.bod M A ht hif hi e9)
 rw[if_neg e9]
 by_cases e10:(nodeI ns i).k=37
 ·rw[if_pos e10]
  obtain⟨h1,h2,h3⟩:=nb_one hs (by omega)
  obtain⟨a,ha⟩:=kd 0 (by omega)
  rw[ha.id]at h2⊢
  exact expr_one w0 p1 n c1 ns M.nds M.cap M.len hln tab i hi' _ rfl hlk e10 hop least hle a ha.at_ _ (Wr.expr0 A (by omega) (by have:=ha.lt;omega) h2)
 rw[if_neg e10]
 exact expr_plain w0 p1 n c1 ns M.nds M.cap M.len hln tab i hi' _ rfl hlk (by omega) hop least hle _ (fun vn vk hn hv T W h hl=>plain_any w0 _ vn vk _ T tab W h (by omega) (M.n0 i) (M.n1 i) (fun _=>hx) hl)
theorem expr_step (M:Mp w0 p1 n c1 ns) (A:OkA w0 p1 n c1 ns f) (hf:f<ns.length) (tab:Nat) (ht:tab+(f+1)<=500000):OkE w0 (vT p1 n c1) ns (fun k=>txE ns (f+1) k tab) tab (f+1):=by
 intro k least T W hk he h0 h1 hp hl
 have hbig:=M.big
 have hlen:=M.len
 obtain⟨hs,hl2⟩:=nb_se (M.sz.nb k (by omega))
 have hop:(nodeI ns k).k=31->1<=(nodeI ns k).op/\(nodeI ns k).op<=18:=fun e=>(nb_two hs (by omega)).2.2 e
 have hX:txE ns (f+1) k tab=prE ns (fun q=>txE ns f q tab) (fun q t=>txS ns f q t) (nodeI ns k) tab:=by rw[txE]
 unfold holdB at hl⊢
 simp only[hX]at hl⊢
 by_cases hle:powP (nodeI ns k).k (nodeI ns k).op<least
 ·rw[if_pos hle]at hl⊢
  have hpp:=powP_pos (nodeI ns k).k (nodeI ns k).op
  exact expr_par w0 p1 n c1 ns M.nds M.cap M.len (by omega) tab k (by omega) _ rfl hop least hle _ (expr_dir M A tab k (by omega) (by omega) (by omega) he 0 (by omega)) T W hp hl
 ·rw[if_neg hle]at hl⊢
  exact expr_dir M A tab k (by omega) (by omega) (by omega) he least hle T W hp hl
end
section
variable {w0 : World} {p1 : Addr} {n c1 : Nat} {ns : List Nd} {f : Nat}
theorem branch_dir (M:Mp w0 p1 n c1 ns) (A:OkA w0 p1 n c1 ns f) (tab i:Nat) (ht:tab+f<500000) (hif:i<=f) (hi:i<ns.length) (hk:(nodeI ns i).k=7) (word:ByteArray) (vn vk:Value) (hn:StrsAt w0 vn (nodeI ns i).nm) (hv:IntsAt w0 vk (nodeI ns i).ks):
  Wr w0 (vT p1 n c1) tab 26 #[pW w0,vNd (nodeI ns i) vn vk,.string word] (prBr ns (fun q=>txE ns f q tab) (fun q t=>txS ns f q t) (fun q w=>txBr ns f q w tab) (nodeI ns i) word tab):=by
 intro T W h hl
 have hbig:=M.big
 have hlen:=M.len
 obtain⟨hs,hl2⟩:=nb_se (M.sz.nb i hi)
 have kd:=fun j hj=>kid_of (M.sz.nb i hi) hi j hj
 obtain⟨h1,h2,h3,h4,h5⟩:=nb_if hs hk
 obtain⟨a,ha⟩:=kd 0 (by omega)
 obtain⟨b,hb⟩:=kd 1 (by omega)
 have wa:=ha.lt
 have wb:=hb.lt
 rw[ha.id]at h3
 rw[hb.id]at h4
 have hE:=Wr.expr0 A (tab:=tab) (by omega) (show a<f by omega) h3
 have hB:=Wr.blk M A ht (show b<=f by omega) hb.len h4
 unfold prBr at hl⊢
 rw[ha.id,hb.id]at hl⊢
 rcases Nat.lt_or_ge (nodeI ns i).ks.length 3 with g|g
 ·rw[if_pos g]at hl⊢
  rw[show ∀x:ByteArray,x++ByteArray.empty=x from fun x=>ByteArray.append_empty]at hl⊢
  exact branch_two w0 _ _ _ tab _ vn vk hv a b ha.at_ hb.at_ g hE hB word T W h hl
 ·rw[if_neg (by omega)]at hl⊢
  obtain⟨c,hc⟩:=kd 2 (by omega)
  have wc:=hc.lt
  rw[hc.id]at h5 hl⊢
  by_cases e:(nodeI ns c).k=7
  ·rw[if_pos e]at hl⊢
   exact branch_elif w0 p1 n c1 ns M.nds M.len (by omega) _ _ _ tab _ vn vk hv a b ha.at_ hb.at_ c hc.at_ (by have:=hc.len;omega) e (fun vn' vk' hn' hv'=>A.b c tab _ vn' vk' (by omega) e (by omega) hn' hv') hE hB word T W h hl
  ·rw[if_neg e]at hl⊢
   have hC:=Wr.blk M A ht (show c<=f by omega) hc.len (show(nodeI ns c).k=1 by omega)
   exact branch_else w0 p1 n c1 ns M.nds M.len (by omega) _ _ _ tab _ vn vk hv a b ha.at_ hb.at_ c hc.at_ (by have:=hc.len;omega) e hC hE hB word T W h hl
theorem nm0_at {N:Nd}(h:N.nm.length=1):N.nm[0]?=some (nm0 N):=by
 unfold nm0
 rw[List.getD_eq_getElem?_getD,List.getElem?_eq_getElem (by omega)];rfl
theorem stat_dir (M:Mp w0 p1 n c1 ns) (A:OkA w0 p1 n c1 ns f) (tab i:Nat) (ht:tab+f<500000) (hif:i<=f) (hi:i<ns.length) (hst:statK (nodeI ns i).k=true):
  Wr w0 (vT p1 n c1) tab 11 #[pW w0,.int .i64 (i:Int)] (prS ns (fun q=>txE ns f q tab) (fun q t=>txS ns f q t) (fun _ w=>prBr ns (fun q=>txE ns f q tab) (fun q t=>txS ns f q t) (fun q w=>txBr ns f q w tab) (nodeI ns i) w tab) (nodeI ns i) tab):=by
 have hbig:=M.big
 have hlen:=M.len
 obtain⟨hs,hl2⟩:=nb_se (M.sz.nb i hi)
 have kd:=fun j hj=>kid_of (M.sz.nb i hi) hi j hj
 have hi':i<n:=by omega
 have hln:n<=1048576:=by omega
 have hlk:(nodeI ns i).ks.length<=1048576:=by omega
 have hk:=of_decide_eq_true hst
 have exK:∀k:Int,k=34->exprK k=true:=fun k e=>by rw[e];rfl
 unfold prS
 by_cases e1:(nodeI ns i).k=1
 ·rw[if_pos e1];exact stat_block w0 p1 n c1 ns M.nds M.cap M.len hln tab i hi' _ rfl e1 hlk _ (Wr.blk M A ht hif hi e1)
 rw[if_neg e1]
 by_cases e2:(nodeI ns i).k=2
 ·rw[if_pos e2]
  obtain⟨h1,h2⟩:=nb_let hs e2
  have hN:=fun v hv=>Wr.nms (w0:=w0) (p1:=p1) (n:=n) (c1:=c1) (nodeI ns i) (tab:=tab) (by omega) v hv
  by_cases g:(nodeI ns i).ks=[]
  ·rw[if_pos g,show ∀x:ByteArray,x++ByteArray.empty=x from fun x=>ByteArray.append_empty]
   exact stat_let0 w0 p1 n c1 ns M.nds M.cap M.len hln tab i hi' _ rfl e2 hlk hN (by rw[g];rfl)
  ·rw[if_neg g]
   have hA:=exM_all M hi hif (a:=0) (m:=(nodeI ns i).ks.length) (fun j h3 h4=>ex_at _ 0 h1 j (by omega) (by omega)) (by omega)
   rw[List.drop_zero,List.take_of_length_le (Nat.le_refl _)]at hA
   exact stat_let w0 p1 n c1 ns M.nds M.cap M.len hln tab i hi' _ rfl e2 hlk hN (by rcases Nat.eq_zero_or_pos (nodeI ns i).ks.length with e|e;exact absurd (List.eq_nil_of_length_eq_zero e) g;exact e) _ (fun v hv=>Wr.exs A (by omega) hA hlk v hv)
 rw[if_neg e2]
 by_cases e3:(nodeI ns i).k=3
 ·rw[if_pos e3]
  obtain⟨h1,h2,h3⟩:=nb_const hs e3
  obtain⟨a,ha⟩:=kd 0 (by omega)
  have wa:=ha.lt
  rw[ha.id]at h2⊢
  exact stat_const w0 p1 n c1 ns M.nds M.cap M.len hln tab i hi' _ rfl e3 hlk _ (nm0_at h3) a ha.at_ _ (Wr.expr0 A (by omega) (by omega) h2)
 rw[if_neg e3]
 by_cases e4:(nodeI ns i).k=4
 ·rw[if_pos e4]
  obtain⟨h1,h2,h3⟩:=nb_fns hs e4
  obtain⟨a,ha⟩:=kd 0 (by omega)
  have wa:=ha.lt
  rw[ha.id]at h2⊢
  exact stat_fn w0 p1 n c1 ns M.nds M.cap M.len hln tab i hi' _ rfl e4 hlk _ (nm0_at h3) a ha.at_ _ (Wr.bod M A ht (by omega) ha.len h2)
 rw[if_neg e4]
 by_cases e5:(nodeI ns i).k=5
 ·rw[if_pos e5]
  obtain⟨h1,h2,h3,h4⟩:=nb_set hs e5
  obtain⟨m,hm⟩:∃m:Nat,(nodeI ns i).n=(m:Int):=⟨(nodeI ns i).n.toNat,by omega⟩
  have hmt:(nodeI ns i).n.toNat=m:=by omega
  rw[hmt]at h3 h4⊢
  have hA:=exM_all M hi hif (a:=0) (m:=m) (fun j h5 h6=>tg_at _ 0 h3 j (by omega) (by omega)) (by omega)
  rw[List.drop_zero]at hA
  have hB:=exM_all M hi hif (a:=m) (m:=(nodeI ns i).ks.length-m) (fun j h5 h6=>ex_at _ m h4 j (by omega) (by omega)) (by omega)
  rw[List.take_of_length_le (by rw[List.length_drop];exact Nat.le_refl _)]at hB
  exact stat_set w0 p1 n c1 ns M.nds M.cap M.len hln tab i hi' _ rfl e5 hlk m hm (by omega) (by omega) _ (fun v hv=>Wr.exs A (by omega) hA (by rw[List.length_take];omega) v hv) _ (fun v hv=>Wr.exs A (by omega) hB (by rw[List.length_drop];omega) v hv)
 rw[if_neg e5]
 by_cases e6:(nodeI ns i).k=6
 ·rw[if_pos e6]
  obtain⟨h1,h2⟩:=nb_do hs (by omega)
  obtain⟨a,ha⟩:=kd 0 (by omega)
  have wa:=ha.lt
  rw[ha.id]at h2⊢
  exact stat_do w0 p1 n c1 ns M.nds M.cap M.len hln tab i hi' _ rfl e6 hlk a ha.at_ _ (Wr.expr0 A (by omega) (by omega) (exK _ h2))
 rw[if_neg e6]
 by_cases e7:(nodeI ns i).k=7
 ·rw[if_pos e7]
  exact stat_if w0 p1 n c1 ns M.nds M.cap M.len hln tab i hi' _ rfl e7 hlk _ (fun vn vk hn hv=>branch_dir M A tab i ht hif hi e7 _ vn vk hn hv)
 rw[if_neg e7]
 by_cases e8:(nodeI ns i).k=8
 ·rw[if_pos e8]
  obtain⟨h1,h2,h3⟩:=nb_while hs e8
  obtain⟨a,ha⟩:=kd 0 (by omega)
  obtain⟨b,hb⟩:=kd 1 (by omega)
  have wa:=ha.lt
  have wb:=hb.lt
  rw[ha.id]at h2⊢
  rw[hb.id]at h3⊢
  exact stat_while w0 p1 n c1 ns M.nds M.cap M.len hln tab i hi' _ rfl e8 hlk a ha.at_ _ (Wr.expr0 A (by omega) (by omega) h2) b hb.at_ _ (Wr.blk M A ht (by omega) hb.len h3)
 rw[if_neg e8]
 by_cases e9:(nodeI ns i).k=9\/(nodeI ns i).k=10
 ·rw[if_pos e9]
  by_cases e10:(nodeI ns i).k=10
  ·rw[if_neg (by omega)]
   obtain⟨h1,h2,h3,h4⟩:=nb_each hs e10
   rw[h1]
   have hN:=fun v hv=>Wr.nms (w0:=w0) (p1:=p1) (n:=n) (c1:=c1) (nodeI ns i) (tab:=tab) (by omega) v hv
   have hA:=exM_all M hi hif (a:=0) (m:=1) (fun j h5 h6=>by have e:j=0:=(by omega);subst e;exact h2) (by omega)
   rw[List.drop_zero]at hA
   obtain⟨b,hb⟩:=kd 1 (by omega)
   have wb:=hb.lt
   show Wr _ _ _ _ _ (_++_++_++_++_++blB _ (nodeI ns (kidI (nodeI ns i) 1)).ks tab)
   rw[hb.id]at h3⊢
   exact stat_each w0 p1 n c1 ns M.nds M.cap M.len hln tab i hi' _ rfl e10 hlk hN h1 _ (fun v hv=>Wr.exs A (by omega) hA (by rw[List.length_take];omega) v hv) b hb.at_ _ (Wr.blk M A ht (by omega) hb.len h3)
  ·have e9':(nodeI ns i).k=9:=by omega
   rw[if_pos e9']
   obtain⟨h1,h2,h3,h4⟩:=nb_for hs e9'
   have hN:=fun v hv=>Wr.nms (w0:=w0) (p1:=p1) (n:=n) (c1:=c1) (nodeI ns i) (tab:=tab) (by omega) v hv
   rcases h1 with h1|h1
   ·rw[h1]at h2 h3⊢
    have hA:=exM_all M hi hif (a:=0) (m:=2) (fun j h5 h6=>ex_at _ 0 h2 j (by omega) (by omega)) (by omega)
    rw[List.drop_zero]at hA
    obtain⟨b,hb⟩:=kd 2 (by omega)
    have wb:=hb.lt
    have h3':(nodeI ns (kidI (nodeI ns i) 2)).k=1:=h3
    show Wr _ _ _ _ _ (_++_++_++_++_++blB _ (nodeI ns (kidI (nodeI ns i) 2)).ks tab)
    rw[hb.id]at h3'⊢
    exact stat_for3 w0 p1 n c1 ns M.nds M.cap M.len hln tab i hi' _ rfl e9' hlk hN h1 _ (fun v hv=>Wr.exs A (by omega) hA (by rw[List.length_take];omega) v hv) b hb.at_ _ (Wr.blk M A ht (by omega) hb.len h3')
   ·rw[h1]at h2 h3⊢
    have hA:=exM_all M hi hif (a:=0) (m:=3) (fun j h5 h6=>ex_at _ 0 h2 j (by omega) (by omega)) (by omega)
    rw[List.drop_zero]at hA
    obtain⟨b,hb⟩:=kd 3 (by omega)
    have wb:=hb.lt
    have h3':(nodeI ns (kidI (nodeI ns i) 3)).k=1:=h3
    show Wr _ _ _ _ _ (_++_++_++_++_++blB _ (nodeI ns (kidI (nodeI ns i) 3)).ks tab)
    rw[hb.id]at h3'⊢
    exact stat_for4 w0 p1 n c1 ns M.nds M.cap M.len hln tab i hi' _ rfl e9' hlk hN h1 _ (fun v hv=>Wr.exs A (by omega) hA (by rw[List.length_take];omega) v hv) b hb.at_ _ (Wr.blk M A ht (by omega) hb.len h3')
 rw[if_neg e9]
 by_cases e11:(nodeI ns i).k=11
 ·rw[if_pos e11];exact stat_break w0 p1 n c1 ns M.nds M.cap M.len hln tab i hi' _ rfl e11 hlk
 rw[if_neg e11]
 by_cases e12:(nodeI ns i).k=12
 ·rw[if_pos e12];exact stat_next w0 p1 n c1 ns M.nds M.cap M.len hln tab i hi' _ rfl e12 hlk
 rw[if_neg e12]
 by_cases e13:(nodeI ns i).k=13
 ·rw[if_pos e13]
  have h1:=nb_ret hs e13
  by_cases g:(nodeI ns i).ks=[]
  ·rw[if_pos g,show ∀x:ByteArray,x++ByteArray.empty=x from fun x=>ByteArray.append_empty]
   exact stat_ret0 w0 p1 n c1 ns M.nds M.cap M.len hln tab i hi' _ rfl e13 hlk (by rw[g];rfl)
  ·rw[if_neg g]
   have hA:=exM_all M hi hif (a:=0) (m:=(nodeI ns i).ks.length) (fun j h3 h4=>ex_at _ 0 h1 j (by omega) (by omega)) (by omega)
   rw[List.drop_zero,List.take_of_length_le (Nat.le_refl _)]at hA
   exact stat_ret w0 p1 n c1 ns M.nds M.cap M.len hln tab i hi' _ rfl e13 hlk (by rcases Nat.eq_zero_or_pos (nodeI ns i).ks.length with e|e;exact absurd (List.eq_nil_of_length_eq_zero e) g;exact e) _ (fun v hv=>Wr.exs A (by omega) hA hlk v hv)
 rw[if_neg e13]
 by_cases e14:(nodeI ns i).k=14
 ·rw[if_pos e14]
  obtain⟨h1,h2,h3,h4⟩:=nb_try hs e14
  have hN:=fun v hv=>Wr.nms (w0:=w0) (p1:=p1) (n:=n) (c1:=c1) (nodeI ns i) (tab:=tab) (by omega) v hv
  obtain⟨a,ha⟩:=kd 0 (by omega)
  obtain⟨b,hb⟩:=kd 1 (by omega)
  have wa:=ha.lt
  have wb:=hb.lt
  rw[ha.id]at h2⊢
  rw[hb.id]at h3⊢
  exact stat_try w0 p1 n c1 ns M.nds M.cap M.len hln tab i hi' _ rfl e14 hlk hN a ha.at_ _ (Wr.blk M A ht (by omega) ha.len h2) b hb.at_ _ (Wr.blk M A ht (by omega) hb.len h3)
 rw[if_neg e14]
 by_cases e15:(nodeI ns i).k=15
 ·rw[if_pos e15]
  obtain⟨h1,h2⟩:=nb_throw hs e15
  obtain⟨a,ha⟩:=kd 0 (by omega)
  have wa:=ha.lt
  rw[ha.id]at h2⊢
  exact stat_throw w0 p1 n c1 ns M.nds M.cap M.len hln tab i hi' _ rfl e15 hlk a ha.at_ _ (Wr.expr0 A (by omega) (by omega) h2)
 rw[if_neg e15,if_pos (by omega)]
 obtain⟨h1,h2⟩:=nb_do hs (by omega)
 obtain⟨a,ha⟩:=kd 0 (by omega)
 have wa:=ha.lt
 rw[ha.id]at h2⊢
 exact stat_defer w0 p1 n c1 ns M.nds M.cap M.len hln tab i hi' _ rfl (by omega) hlk a ha.at_ _ (Wr.expr0 A (by omega) (by omega) (exK _ h2))
theorem okA_step (M:Mp w0 p1 n c1 ns) (A:OkA w0 p1 n c1 ns f) (hf:f<ns.length):OkA w0 p1 n c1 ns (f+1):=
 ⟨fun tab ht=>expr_step M A hf tab ht,
  fun k tab T W hk hst ht hp hl=>by
  simp only[txS]at hl⊢
  exact stat_dir M A tab k (by omega) (by omega) (by omega) hst T W hp hl,
  fun k tab word vn vk hk h7 ht hn hv T W hp hl=>by
  simp only[txBr]at hl⊢
  exact branch_dir M A tab k (by omega) (by omega) (by omega) h7 word vn vk hn hv T W hp hl⟩
theorem okA (M:Mp w0 p1 n c1 ns):∀f,f<=ns.length->OkA w0 p1 n c1 ns f
 |0,_=>OkA.zero w0 p1 n c1 ns
 |f+1,h=>okA_step M (okA M f (by omega)) (by omega)
end
end Go.Proofs.YtelfejiiabbpfaaGreatDoor
namespace Go.Proofs.YtelfejiiabbpfaaGreatDoor
open Go.Lib (strCells strCells_length)
open Go.RowKit Go.Maps Go.WideMaps
theorem strCells_B8p (T:ByteArray):strCells T=B8 (ints T.data.toList):=by
 unfold strCells B8 ints
 rw[List.map_map];rfl
theorem conv_strp {w:World}{base g n cap:Nat}{T:ByteArray}(hown:w.ownsRow base 5 1 (.slice (some ⟨g,0,none⟩) n cap) n (strCells T)):
  (convert 38 9 (.slice (some ⟨g,0,none⟩) n cap)).run Tryz.prog w= .ok (.string T) w:=by
 rw[strCells_B8p]at hown
 rw[conv_own hown,strI_ints]
def printR (ns:List Nd):ByteArray:=if(treeF ns).1=0 then printF ns else⟨#[]⟩
theorem KCap.below {w W:World}{p1:Addr}{n c1:Nat}{ns:List Nd}(h:KCap w p1 ns) (hN:NdsAt w (.slice (some p1) n c1) ns) (hb:Below w.heap.size w W):KCap W p1 ns:=by
 intro i N a' c' hi hc
 obtain⟨p',e,vn,vk,g⟩:=hN.get hi
 cases e
 have:=cell_kept hb g.c8
 rw[this]at hc
 obtain rfl:vk= .slice a' N.ks.length c':=by simpa using hc
 exact h i N a' c' hi g.c8
theorem len_of {ns:List Nd}(h:(treeF ns).1=0):0<ns.length/\ns.length<=3000/\(nodeI ns ((ns.length:Int)-1)).k=1:=by
 have sd:=sound_of h
 have:=sd.len
 unfold treeF at h
 by_cases hb:badHead ns=true
 ·rw[if_pos hb]at h;exact absurd h (by decide)
 ·have hb':badHead ns=false:=by simpa using hb
  have hb2:=of_decide_eq_false hb'
  refine⟨by omega,by omega,?_⟩
  by_cases g:(ns.getD (ns.length-1) zNd).k=1
  ·unfold nodeI
   rw[show((ns.length:Int)-1).toNat=ns.length-1 by omega]
   rw[List.getD_eq_getElem?_getD,List.getElem?_eq_getElem (by omega)]at g⊢
   exact g
  ·exact absurd (.inr (.inr g)) hb2
theorem Pr.new (W2:World) (vt:Value):Pr W2 vt ByteArray.empty 0 (W2.alloc (.cells #[vt,.slice none 0 0,.int .i64 0] 40)):=
 ⟨(Below.refl _ W2).alloc (Nat.le_refl _) _,.slice none 0 0,heap_alloc_new W2 _,World.ownsRow_nil _ _ _ _⟩
theorem specPrint_any (w:World) (p1:Addr) (n c:Nat) (ns:List Nd) (h:NdsAt w (.slice (some p1) n c) ns) (hcap:KCap w p1 ns) (hn:ns.length=n) (hl:n<=1048576) (sm:∀N∈ns,NdSmall N) (hi:∀N∈ns,NdInt N):
  Calls Tryz.prog 5 #[.agg #[.slice (some p1) n c]] w fun e w'=>e= .returned (.string (printR ns))/\Below w.heap.size w w':=by
 have hb0:∀o,Below w.heap.size w (w.alloc o):=fun o=>(Below.refl _ w).alloc (Nat.le_refl _) o
 have HH:Hid (NdsAt w (.slice (some p1) n c) ns/\KCap w p1 ns/\(∀N∈ns,NdInt N)/\ns.length=n):=⟨h,hcap,hi,hn⟩
 have kt:=fun o=>treeok_any (w.alloc o) (.slice (some p1) n c) ns (h.below (hb0 o)) (by omega) sm
 obtain⟨F1,hF1⟩:∃F1,(treeF ns).1=F1:=⟨_,rfl⟩
 obtain⟨F2,hF2⟩:∃F2,(treeF ns).2=F2:=⟨_,rfl⟩
 rw[hF1,hF2]at kt
 have HF:Hid ((treeF ns).1=F1):=hF1
 clear h sm hi hn hF1 hF2 hcap
 go_enter Tryz.func5,Tryz.ntmps5
 go_wp2_with (go_at_call 10;fail)
 have B0:=heap_alloc_new w (.cells #[.slice (some p1) n c] 29)
 have hs0:(w.alloc (.cells #[.slice (some p1) n c] 29)).heap.size=w.heap.size+1:=World.size_alloc _ _
 refine(kt _).mono ?_
 rintro e w1 ⟨rfl,hb1⟩
 have B1:=(hb1.block _ (by omega)).trans B0
 have hbw1:Below w.heap.size w w1:=(hb0 _).trans (hb1.mono (by omega))
 clear B0 hb1 kt
 by_cases h0:F1=0
 ·subst h0
  have c1:=one_cell1 B1
  have hlt1:=lt_of_block B1
  have e1:((0:Int)!=0)=false:=rfl
  have hb12:Below w1.heap.size w1 (w1.alloc (.cells #[.int .i64 0,.int .i64 F2] 35)):=(Below.refl _ w1).alloc (Nat.le_refl _) _
  have hbw2:Below w.heap.size w (w1.alloc (.cells #[.int .i64 0,.int .i64 F2] 35)):=hbw1.trans (hb12.mono hbw1.size)
  have c2:(w1.alloc (.cells #[.int .i64 0,.int .i64 F2] 35)).cell? ⟨w.heap.size,0,none⟩=some (.slice (some p1) n c):=cell_kept hb12 c1
  obtain⟨l1,l2,l3⟩:=len_of HF.out
  have hn:=HH.out.2.2.2
  obtain⟨m,rfl⟩:∃m,n=m+1:=⟨n-1,by omega⟩
  have hNr:nodeI ns ((ns.length:Int)-1)=nodeI ns (m:Int):=by congr 1;omega
  rw[hNr]at l3
  obtain⟨an,Mn,cn,ak,L,ck,R⟩:=nd_in HH.out.1 HH.out.2.1 (show m<ns.length by omega)
  have e8:=(R.rd _ (hbw2.trans (((Below.refl _ _).alloc (Nat.le_refl _) (.cells #[.slice (some p1) (m+1) c,.slice none 0 0,.int .i64 0] 40)).mono hbw2.size))).c8
  have em:((m:Int)+1)-1=(m:Int):=by omega
  have hm0:(0:Int)<=(m:Int):=by omega
  have hm1:(m:Int)<(m:Int)+1:=by omega
  have M:Mp (w1.alloc (.cells #[.int .i64 0,.int .i64 F2] 35)) p1 (m+1) c ns:=by
   refine⟨HH.out.1.below hbw2,HH.out.2.1.below HH.out.1 hbw2,hn,by omega,szd_of HF.out,fun i=>?_,fun i=>?_⟩
   all_goals
    unfold nodeI
    rw[List.getD_eq_getElem?_getD]
    cases e:ns[i.toNat]? with
    |none=>decide
    |some N=>have:=(HH.out.2.2.1 N (List.mem_of_getElem? e)).n;simp only[Option.getD_some];omega
  have hpz:=print_size M.sz M.n1 (by omega) (by omega)
  have HP:=Pr.new (w1.alloc (.cells #[.int .i64 0,.int .i64 F2] 35)) (.slice (some p1) (m+1) c)
  have HQ:Hid (Pr (w1.alloc (.cells #[.int .i64 0,.int .i64 F2] 35)) (.slice (some p1) (m+1) c) ByteArray.empty 0 ((w1.alloc (.cells #[.int .i64 0,.int .i64 F2] 35)).alloc (.cells #[.slice (some p1) (m+1) c,.slice none 0 0,.int .i64 0] 40))):=HP
  have c3:((w1.alloc (.cells #[.int .i64 0,.int .i64 F2] 35)).alloc (.cells #[.slice (some p1) (m+1) c,.slice none 0 0,.int .i64 0] 40)).cell? ⟨w.heap.size,0,none⟩=some (.slice (some p1) (m+1) c):=cell_kept ((Below.refl _ _).alloc (Nat.le_refl _) _) c2
  generalize hW2:w1.alloc (.cells #[.int .i64 0,.int .i64 F2] 35)=W2 at M HQ HP c3 c2 e8 hbw2 hb12
  have A:=okA M ns.length (Nat.le_refl _)
  obtain⟨hs,hl2⟩:=nb_se (M.sz.nb m (by omega))
  have hbk:=nb_block hs l3
  have hln:=R.hL
  obtain⟨ks,hks⟩:∃ks,(nodeI ns (m:Int)).ks=ks:=⟨_,rfl⟩
  obtain⟨l,hl0⟩:∃l,(ks.map fun k=>txS ns ns.length k 0++(⟨#[10]⟩:ByteArray))=l:=⟨_,rfl⟩
  have hpt:printT ns=catB l:=by unfold printT;rw[hNr,hks,hl0]
  have hst:∀z∈ks,∃q:Nat,z=(q:Int)/\q<ns.length/\statK (nodeI ns q).k=true:=by
   intro z hz
   rw[<-hks]at hz
   obtain⟨j,hj,rfl⟩:=kid_mem hz
   obtain⟨y,hy⟩:=kid_of (M.sz.nb m (by omega)) (by omega) j hj
   have:=sb_at _ 0 hbk j (by omega) (by omega)
   rw[hy.id]at this⊢
   exact⟨y,rfl,hy.len,this⟩
  have hkin:IntsAt W2 (.slice ak L ck) ks:=by rw[<-hks];exact R.ks.below hbw2
  have HA:Hid (OkA W2 p1 (m+1) c ns ns.length/\IntsAt W2 (.slice ak L ck) ks/\(∀z∈ks,∃q:Nat,z=(q:Int)/\q<ns.length/\statK (nodeI ns q).k=true)/\ks.length=L/\(ks.map fun k=>txS ns ns.length k 0++(⟨#[10]⟩:ByteArray))=l/\printT ns=catB l/\(printT ns).size<=6000000000/\ns.length<=3000/\l.length=L):=⟨A,hkin,hst,by rw[<-hks];exact hln,hl0,hpt,hpz,l2,by rw[<-hl0,List.length_map,<-hks];exact hln⟩
  have hL200:L<=200:=by omega
  have HB:Hid (Below w.heap.size w W2):=hbw2
  subst hW2
  clear A hs hbk hln hks hl0 hpt hst hkin hpz M HP R hNr l1 l2 l3 hl2 B1 hb12 hbw1 hs0 hbw2
  go_wp2_with fail
  have hs2:(w1.alloc (.cells #[.int .i64 0,.int .i64 F2] 35)).heap.size=w1.heap.size+1:=World.size_alloc _ _
  generalize w1.alloc (.cells #[.int .i64 0,.int .i64 F2] 35)=W2 at HQ HA HB c2 c3 e8 hs2⊢
  have HS2:Hid (W2.heap.size=w1.heap.size+1):=hs2
  clear hs2
  go_loopw [25] (fun v wr=>∃k:Nat,k<=L/\v= .int .i64 k/\Hid (Pr W2 (.slice (some p1) (m+1) c) (catB (l.take k)) 0 wr)) (fun v _=>L-(intOf v).toNat)
  case atStart=>exact⟨0,by omega,rfl,HQ.out⟩
  case round=>
   clear c3 e8 c2 c1
   obtain⟨k,hk,rfl,HS⟩:=hrel
   by_cases hlt:k<L
   ·obtain⟨z,hsk⟩:=some_at HA.out.2.2.2.1 hlt
    obtain⟨q,rfl,hq1,hq2⟩:=HA.out.2.2.1 z (List.mem_of_getElem? hsk)
    obtain⟨a',rfl,cs⟩:=(HA.out.2.1.below HS.out.bel).get hsk
    have hki:(k:Int)<(L:Int):=by omega
    have hk0:(0:Int)<=(k:Int):=by omega
    have hsl:l[k]?=some (txS ns ns.length q 0++⟨#[10]⟩):=by rw[<-HA.out.2.2.2.2.1,List.getElem?_map,hsk];rfl
    have h1:=catB_take l k _ hsl
    have h2:=catB_le l (k+1)
    have h3:=HA.out.2.2.2.2.2.2.1
    rw[HA.out.2.2.2.2.2.1]at h3
    rw[h1]at h2
    simp only[ByteArray.size_append]at h2
    have hz:(catB (l.take k)).size+((txS ns ns.length q 0).size+1)<=6000000000:=by
     have e:(⟨#[10]⟩:ByteArray).size=1:=rfl
     omega
    have kst:=HA.out.1.s q 0 (catB (l.take k)) wr hq1 hq2 (by have:=HA.out.2.2.2.2.2.2.2.1;omega) HS.out (by show _+(txS ns ns.length q 0).size<=_;omega)
    have H1:Hid (catB (l.take (k+1))=catB (l.take k)++(txS ns ns.length q 0++⟨#[10]⟩)):=h1
    simp only at kst
    obtain⟨X,hX⟩:∃X,txS ns ns.length q 0=X:=⟨_,rfl⟩
    rw[hX]at kst H1 hz
    rw[HS2.out]at kst
    clear h1 h2 h3 hsk hsl hX hq1 hq2
    go_wp2_with (go_at_call 11;fail)
    refine kst.mono ?_
    rintro e w3 ⟨rfl,q3,k3⟩
    have H3:Hid (Pr W2 (.slice (some p1) (m+1) c) (catB (l.take k)++X) 0 w3):=q3
    clear q3 k3 cs kst
    go_wp2_with (go_at_call 12;fail)
    have ksy:=say_any W2 _ _ ⟨#[10]⟩ _ _ H3.out (by rw[ByteArray.size_append];show _+_+1<=_;omega)
    rw[HS2.out]at ksy
    refine ksy.mono ?_
    rintro e w4 ⟨rfl,q4,k4⟩
    rw[ByteArray.append_assoc,<-H1.out]at q4
    have H4:Hid (Pr W2 (.slice (some p1) (m+1) c) (catB (l.take (k+1))) 0 w4):=q4
    clear q4 k4
    go_wp2_with fail
    exact⟨⟨k+1,by omega,by go_num,H4.out⟩,by simp[intOf];omega⟩
   ·obtain rfl:k=L:=by omega
    have hT:l.take k=l:=List.take_of_length_le (by rw[HA.out.2.2.2.2.2.2.2.2];exact Nat.le_refl _)
    rw[hT,<-HA.out.2.2.2.2.2.1]at HS
    have bw:Below w.heap.size w wr:=HB.out.trans (HS.out.bel.mono HB.out.size)
    obtain⟨o,hb,ho⟩:=HS.out.row
    have HD:Hid (printR ns=if 65536<(printT ns).size then ByteArray.empty else printT ns):=by show _=_;unfold printR printF;rw[if_pos HF.out]
    have hz6:=HA.out.2.2.2.2.2.2.1
    obtain⟨D,hD⟩:∃D,printT ns=D:=⟨_,rfl⟩
    rw[hD]at ho HD hz6
    obtain⟨dn,hdn⟩:∃dn,D.size=dn:=⟨_,rfl⟩
    rw[hdn]at ho HD hz6
    obtain⟨av,cv,rfl⟩:=own_form ho
    have x1:wr.cell? ⟨W2.heap.size,1,none⟩=some (.slice av dn cv):=by rw[cell_of_row _ _ _ _ _ _ hb];rfl
    rw[HS2.out]at x1
    by_cases hbig:65536<dn
    ·have HR:Hid (printR ns=ByteArray.empty):=by show _=_;rw[HD.out,if_pos hbig]
     have hb1:(65536:Int)<(dn:Int):=by omega
     clear hT hD HD ho hb hdn
     go_wp2_with fail
     go_ret
     exact⟨by rw[HR.out];rfl,bw⟩
    ·have HR:Hid (printR ns=D):=by show _=_;rw[HD.out,if_neg hbig]
     have hb1:¬(65536:Int)<(dn:Int):=by omega
     rcases own_zero_or ho with⟨h0,e⟩|⟨g,cap,e⟩
     ·cases e
      have hD0:D=⟨#[]⟩:=by
       apply ByteArray.ext
       have:D.data.size=0:=hdn
       exact Array.eq_empty_of_size_eq_zero this
      have kc:(convert 38 9 (.slice none 0 0)).run Tryz.prog wr= .ok (.string ⟨#[]⟩) wr:=by kernel_rfl
      clear hT hD HD ho hb hdn
      go_wp2_with fail
      go_ret
      exact⟨by rw[HR.out,hD0];rfl,bw⟩
     ·cases e
      have kc:=conv_strp ho
      clear hT hD HD hb hdn
      go_wp2_with fail
      go_ret
      exact⟨by rw[HR.out];rfl,bw⟩
 ·have e1:(F1 !=0)=true:=by rw[bne_iff_ne];exact h0
  have c1:=one_cell1 B1
  have HE:Hid (printR ns=⟨#[]⟩):=by show _=_;unfold printR;rw[if_neg (by rw[HF.out];exact h0)]
  clear h0
  go_wp2_with fail
  go_ret
  exact⟨by rw[HE.out];rfl,hbw1.trans (((Below.refl _ w1).alloc (Nat.le_refl _) _).mono hbw1.size)⟩
end Go.Proofs.YtelfejiiabbpfaaGreatDoor
