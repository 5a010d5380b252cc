import Derived.Test.YtelfejiiabbpfaaGreatDoorHRk03
import Derived.Maps.AppendAt
import Derived.Deep.AppendLies
import Derived.Laws.AppendOwnNone
import Derived.Lib.AppendZerosOnto
import Derived.Lib.Walk
import Derived.Lib.SliceRun
import Derived.Test.YtelfejiiabbpfaaGreatDoorHRk32
import Derived.Test.YtelfejiiabbpfaaGreatDoorHRk15
import Derived.Test.YtelfejiiabbpfaaGreatDoorHRk04
set_option linter.unusedVariables false
set_option maxRecDepth 100000
set_option maxHeartbeats 6400000
namespace Go.Proofs.YtelfejiiabbpfaaGreatDoor
open Go.RowKit Go.Maps Go.WideMaps
def WsAt (base:Nat) (W:World) (v:Value) (xs:List ByteArray):Prop:=W.ownsRow base 9 1 v xs.length (xs.map Value.string)
theorem WsAt.form {base:Nat}{W:World}{v:Value}{xs:List ByteArray}(h:WsAt base W v xs):∃a c,v= .slice a xs.length c:=own_form h
theorem WsAt.below {base:Nat}{W W':World}{v:Value}{xs:List ByteArray}(h:WsAt base W v xs) (hb:Below W.heap.size W W'):WsAt base W' v xs:=own_keep h hb
theorem infoStr2:(Tryz.prog.info? 9).map (fun i=>(i.zero,i.size,i.bytes))=some (some (.string ⟨#[]⟩),1,16):=by kernel_rfl
theorem run_append_zero {w:World}{base:Nat}{v:Value}{n:Nat}{xs:List Value}(ty:TypeId) (c:Nat) (hown:w.ownsRow base 9 1 v n xs):
  (Builtin.append_ #[41,41] ty #[v,.slice none 0 c]).run Tryz.prog w= .ok v w:=by
 obtain⟨i0,hi,hz0,hz1,hz2⟩:=info_parts infoStr2
 rcases hown.2 with⟨rfl,rfl⟩|⟨g,cap,cur,rfl,_,_,hnc,_⟩
 ·simp[Builtin.append_,run_underlying Tryz.underlying41,sizeOf,typeInfo,hi,Builtin.lenOf,Builtin.firstCells]
 ·simp[Builtin.append_,run_underlying Tryz.underlying41,sizeOf,typeInfo,hi,Builtin.lenOf,Builtin.firstCells,hnc,storeCells]
theorem one_str:∀(l:List ByteArray),∀u∈l.map Value.string,u.oneCell'=true:=fun l u hu=>by
 obtain⟨s,_,rfl⟩:=List.mem_map.1 hu
 rfl
theorem wpList_ws {w:World}{ops:Array Oper}{rest:List Oper}{o:Oper}{a:Act}{Q:Exit->Act->World->Prop}(hgd:o.guard=none) (s x:Operand)
  (ho:o.op= .call {callee:= .builtin .append,args:=#[s,x],argTypes:=#[41,41]}) (base:Nat) (v:Value) (xs:List ByteArray) (hs:a.eval s=v)
  (hown:WsAt base w v xs) (hbase:base<=w.heap.size) (v2:Value) (news:List ByteArray) (hx:a.eval x=v2) (hnews:StrsAt w v2 news) (hn:xs.length<=4194304) (hm:news.length<=4194304) (r:Nat) (hr:xs.length+news.length=r)
  (h:∀av cv w1,WsAt base w1 (.slice av r cv) (xs++news)->Below base w w1->wpList Tryz.prog ops Q rest (a.put o.dst (.slice av r cv)) w1):
  wpList Tryz.prog ops Q (o::rest) a w:=by
 subst hr
 obtain⟨i0,hi,hz0,hz1,hz2⟩:=info_parts infoStr2
 have hown':w.ownsRow base 9 1 v xs.length (xs.map Value.string):=hown
 have zero:∀c,a.eval x= .slice none 0 c->news=[]->wpList Tryz.prog ops Q (o::rest) a w:=fun c hx0 hz=>by
  subst hz
  obtain⟨av,cv,rfl⟩:=own_form hown'
  refine wpList_plain hgd fun K hK=>?_
  have hr:=run_append_zero o.type c hown'
  unfold Oper.wp execOp
  simp only[ho,resolve,invoke,builtin,Sem.run_bind,Sem.run_pure,Result.andThen_ok,List.map_toArray,List.map_cons,List.map_nil,hs,hx0,hr]
  exact hK _ _ (h av cv w (by rw[List.append_nil];exact hown') (Below.refl _ _))
 have some':∀ad c,a.eval x= .slice (some ad) news.length c->(∀j u,news[j]?=some u->w.cell? (ad.add j)=some (.string u))->wpList Tryz.prog ops Q (o::rest) a w:=fun ad c hx0 hc=>by
  refine wpList_append_own_at _ hgd s x 41 ho base 9 i0 _ 1 16 Tryz.underlying41 hi hz0 hz1 hz2 rfl (by decide) v _ _ hs hown' ad news.length c (news.map Value.string) hx0 (by simp) (fun j u hu=>?_) (one_str news) (by unfold maxLen;omega) (by omega) hbase ?_
  ·rw[List.getElem?_map]at hu
   obtain⟨y,hy,rfl⟩:=Option.map_eq_some_iff.1 hu
   exact hc j y hy
  ·intro v' w1 ho1 hg1 _ _
   obtain⟨av,cv,rfl⟩:=own_form ho1
   exact h av cv w1 (by unfold WsAt;rw[List.length_append,List.map_append];exact ho1) ((Below.refl base w).grown hg1 hbase (fun k hk=>(hown'.lt k hk).1))
 rcases hnews with⟨hz,ad,c,e⟩|⟨ad,c,e,hc⟩
 ·cases ad with
  |none=>exact zero c (hx.trans e) hz
  |some ad=>exact some' ad c (by rw[hx,e,hz];rfl) (fun j u hu=>by rw[hz]at hu;simp at hu)
 ·exact some' ad c (hx.trans e) hc
theorem zeroCells_size (z:Value) (n:Nat) (h:z.cells.size=1):(Builtin.zeroCells z.cells n).size=n:=by unfold Builtin.zeroCells;simp[h]
theorem grow_any (n:Nat) (h1:1<=n) (h2:n<=1000000) (w:World):Calls Tryz.prog 171 #[.slice none 0 0,.int .i64 (n:Int)] w fun e w'=>
  ∃c,e= .returned (.slice (some ⟨w.heap.size,0,none⟩) 0 c)/\WsAt w.heap.size w' (.slice (some ⟨w.heap.size,0,none⟩) 0 c) []/\Below w.heap.size w w':=by
 obtain⟨i0,hi,hz0,hz1,hz2⟩:=info_parts infoStr2
 have hrz:∀ty,(Builtin.append_ #[41,3] ty #[.slice none 0 0,.int .i64 (n:Int)]).run Tryz.prog w= .ok (.slice (some ⟨w.heap.size,0,none⟩) (0+n) (grownCap w (0+n) 0 9)) (w.drew.alloc (.cells ([].toArray++Builtin.zeroCells (Value.string ⟨#[]⟩).cells n++Builtin.zeroCells (Value.string ⟨#[]⟩).cells (grownCap w (0+n) 0 9-(0+n))) 9)):=fun ty=>
  Lib.run_append_grow_zeros w 41 3 ty 9 i0 (.string ⟨#[]⟩) .i64 .i64 Tryz.underlying41 Tryz.underlying3 hi hz0 none 0 0 [] (run_firstCells_none _ _ _ _ _) n (by omega) (by rw[hz1];omega) (by omega) (by omega) (by rw[hz2];omega) (growslice_fits (by omega) (by rw[hz2];omega))
 have hGn:0+n<=grownCap w (0+n) 0 9:=grownCap_ge w _ _ _
 have hGm:=grownCap_le_maxLen w (0+n) 0 9 (by unfold maxLen;omega)
 obtain⟨G,hG⟩:∃G,G=grownCap w (0+n) 0 9:=⟨_,rfl⟩
 rw[<-hG]at hrz hGn hGm
 have hG63:G<=9223372036854775807:=by unfold maxLen at hGm;omega
 obtain⟨cs,hcs⟩:∃cs,([].toArray++Builtin.zeroCells (Value.string ⟨#[]⟩).cells n++Builtin.zeroCells (Value.string ⟨#[]⟩).cells (G-(0+n)))=cs:=⟨_,rfl⟩
 have hsz:cs.size=G:=by rw[<-hcs];rw[Array.size_append,Array.size_append,zeroCells_size _ _ rfl,zeroCells_size _ _ rfl];simp;omega
 rw[hcs]at hrz
 have hbel:Below w.heap.size w (w.drew.alloc (.cells cs 9)):=(bel_drew1 (Below.refl _ w)).alloc (Nat.le_refl _) _
 have hown:WsAt w.heap.size (w.drew.alloc (.cells cs 9)) (.slice (some ⟨w.heap.size,0,none⟩) 0 G) []:=by
  refine⟨rfl,.inr ⟨w.heap.size,G,cs,rfl,Nat.le_refl _,heap_alloc_new w.drew _,Nat.zero_le _,hGm,by rw[hsz];omega,by simp⟩⟩
 have HO:Hid (WsAt w.heap.size (w.drew.alloc (.cells cs 9)) (.slice (some ⟨w.heap.size,0,none⟩) 0 G) []/\Below w.heap.size w (w.drew.alloc (.cells cs 9))):=⟨hown,hbel⟩
 have hn1:¬((n:Int)<0):=by omega
 have hn2:(n:Int)>0:=by omega
 rw[show 0+n=n by omega]at hrz hGn
 clear hown hbel hcs hG hsz hGm
 go_enter Tryz.func171,Tryz.ntmps171
 go_wp2_with (at_builtin;refine Lib.wpList_append_run _ rfl _ _ _ _ rfl _ _ rfl rfl _ _ (hrz _) ?_)
 all_goals (go_ret;exact⟨G,rfl,HO.out.1,HO.out.2⟩)
theorem WsAt.strs {base:Nat}{W:World}{v:Value}{xs:List ByteArray}(h:WsAt base W v xs):StrsAt W v xs/\StrsJ v:=by
 have h':W.ownsRow base 9 1 v xs.length (xs.map Value.string):=h
 rcases h'.2 with⟨h1,h2⟩|⟨g,cap,cur,h1,h2,h3,h4,h5,h6,h7⟩
 ·exact⟨.inl ⟨List.eq_nil_of_length_eq_zero h2,none,0,h1⟩,fun a n c e=>by rw[h1]at e;cases e⟩
 ·refine⟨.inr ⟨⟨g,0,none⟩,cap,h1,fun j s hs=>?_⟩,fun a n c e=>?_⟩
  ·have hj:=(List.getElem?_eq_some_iff.1 hs).1
   have h0:=h'
   rw[h1]at h0
   have hadd:(⟨g,0,none⟩:Addr).add j=⟨g,j,none⟩:=by unfold Addr.add;split<;>simp_all
   rw[hadd,h0.cellAt j (by omega),List.getElem?_map,hs];rfl
  ·rw[h1]at e
   cases e
   exact⟨h4,rfl⟩
theorem concat_any (w:World) (g:Nat) (s1 s2:Value) (l1:List ByteArray) (x:ByteArray) (h1:StrsAt w s1 l1) (h2:StrsAt w s2 [x]) (hl:l1.length<=1000) (c0:w.cell? ⟨g,0,none⟩=some s1) (c1:w.cell? ⟨g,1,none⟩=some s2):
  Calls Tryz.prog 152 #[.slice (some ⟨g,0,none⟩) 2 2] w fun e w'=>∃v,e= .returned v/\StrsAt w' v (l1++[x])/\StrsJ v/\Below w.heap.size w w':=by
 obtain⟨a1,d1,rfl⟩:=h1.form
 obtain⟨a2,d2,rfl⟩:=h2.form
 obtain⟨n,hn⟩:∃n,l1.length=n:=⟨_,rfl⟩
 rw[hn]at hl h1 c0
 have HH:Hid (StrsAt w (.slice a1 n d1) l1/\StrsAt w (.slice a2 1 d2) [x]/\l1.length=n/\w.cell? ⟨g,0,none⟩=some (.slice a1 n d1)/\w.cell? ⟨g,1,none⟩=some (.slice a2 1 d2)):=⟨h1,h2,hn,c0,c1⟩
 have hw1:((n:Int)+1)<=2000:=by omega
 have kg:=grow_any (n+1) (by omega) (by omega) w
 rw[show((n+1:Nat):Int)=(n:Int)+1 by omega]at kg
 clear h1 h2 hn c0 c1
 go_enter Tryz.func152,Tryz.ntmps152
 go_wp2_with fail
 go_loopw [3,11] (fun vs vi wr=>Hid (wr=w)/\((vi= .int .i64 0/\vs= .int .i64 0)\/(vi= .int .i64 1/\vs= .int .i64 (n:Int))\/(vi= .int .i64 2/\vs= .int .i64 ((n:Int)+1)))) (fun _ vi _=>2-(intOf vi).toNat)
 case atStart=>exact⟨rfl,.inl ⟨rfl,rfl⟩⟩
 case round=>
  obtain⟨HW,hc⟩:=hrel
  have hw:wr=w:=HW.out
  subst wr
  rcases hc with⟨rfl,rfl⟩|⟨rfl,rfl⟩|⟨rfl,rfl⟩
  ·have c0:=HH.out.2.2.2.1
   have hn0:¬(n:Int)<0:=by omega
   go_wp2_with fail
   refine⟨⟨by first|exact True.intro|exact rfl,.inr (.inl ⟨rfl,by first|rfl|go_num⟩)⟩,by simp[intOf]⟩
  ·have c1:=HH.out.2.2.2.2
   have hn0:¬(n:Int)+1<0:=by omega
   have hw:IntKind.i64.wrap ((n:Int)+1)=(n:Int)+1:=by rw[IntKind.wrap_i64];omega
   go_wp2_with fail
   refine⟨⟨by first|exact True.intro|exact rfl,.inr (.inr ⟨rfl,by first|rfl|go_num⟩)⟩,by simp[intOf]⟩
  ·go_wp2_with (go_at_call 171;fail)
   refine kg.mono ?_
   rintro e w2 ⟨c,rfl,ws2,hb2⟩
   have HG:Hid (WsAt w.heap.size w2 (.slice (some ⟨w.heap.size,0,none⟩) 0 c) []/\Below w.heap.size w w2):=⟨ws2,hb2⟩
   clear ws2 hb2 kg
   go_wp2_with fail
   go_loopw [6,27] (fun vn vi wr=>∃av m cv,vn= .slice av m cv/\((vi= .int .i64 0/\Hid (WsAt w.heap.size wr vn []/\Below w.heap.size w wr))\/(vi= .int .i64 1/\Hid (WsAt w.heap.size wr vn l1/\Below w.heap.size w wr))\/(vi= .int .i64 2/\Hid (WsAt w.heap.size wr vn (l1++[x])/\Below w.heap.size w wr)))) (fun _ vi _=>2-(intOf vi).toNat)
   case atStart=>exact⟨_,_,_,rfl,.inl ⟨rfl,HG.out⟩⟩
   case round=>
    obtain⟨av,m,cv,rfl,hc⟩:=hrel
    rcases hc with⟨rfl,HS⟩|⟨rfl,HS⟩|⟨rfl,HS⟩
    ·have c0:wr.cell? ⟨g,0,none⟩=some (.slice a1 n d1):=cell_kept HS.out.2 HH.out.2.2.2.1
     have hsz:=HS.out.2.size
     have hln:=HH.out.2.2.1
     go_wp2_with (at_builtin;refine wpList_ws rfl _ _ rfl w.heap.size _ [] rfl HS.out.1 hsz _ l1 rfl (HH.out.1.below HS.out.2) (by simp) (by omega) n (by simp;omega) ?_;intro av2 cv2 w1 ws1 hb1)
     have ws1':WsAt w.heap.size w1 (.slice av2 n cv2) l1:=by simpa using ws1
     exact⟨⟨_,_,_,rfl,.inr (.inl ⟨rfl,ws1',HS.out.2.trans hb1⟩)⟩,by simp[intOf]⟩
    ·have c1:wr.cell? ⟨g,1,none⟩=some (.slice a2 1 d2):=cell_kept HS.out.2 HH.out.2.2.2.2
     have hsz:=HS.out.2.size
     have hln:=HH.out.2.2.1
     go_wp2_with (at_builtin;refine wpList_ws rfl _ _ rfl w.heap.size _ l1 rfl HS.out.1 hsz _ [x] rfl (HH.out.2.1.below HS.out.2) (by omega) (by simp) (n+1) (by simp;omega) ?_;intro av2 cv2 w1 ws1 hb1)
     exact⟨⟨_,_,_,rfl,.inr (.inr ⟨rfl,ws1,HS.out.2.trans hb1⟩)⟩,by simp[intOf]⟩
    ·go_wp2_with fail
     go_ret
     exact⟨_,rfl,HS.out.1.strs.1,HS.out.1.strs.2,HS.out.2⟩
def dotB:ByteArray:=⟨#[46,46,46]⟩
def prsL (N:Nd):List ByteArray:=if N.op=1 then N.nm++[dotB] else N.nm
theorem NdQ.rest {w0:World}{L:List Im}{N:Nd}{b:Nat}{vn:Value}{a:Option Addr}{n c:Nat}(h:NdQ w0 L N b vn a n c) (hc:cls N.k=5) {W:World}(hb:Below w0.heap.size w0 W):W.cell? ⟨b,6,none⟩=some vn/\W.cell? ⟨b,7,none⟩=some (.bool (decide (N.op=1))):=by
 obtain⟨num,hx⟩:=h.rd W hb
 unfold InBox at hx
 rw[hc]at hx
 exact⟨by rw[cell_of_row _ _ _ _ _ _ hx];rfl,by rw[cell_of_row _ _ _ _ _ _ hx];rfl⟩
theorem params_any (w0:World) (vb:Nat) (L:List Im) (t:Nat) (N:Nd) (b:Nat) (vn:Value) (a:Option Addr) (n c:Nat) (Q:NdQ w0 L N b vn a n c) (hc:cls N.k=5) (hlm:N.nm.length<=200) (hsz:(sepB (prsL N)).size<=1000000):
  Pw w0 vb 131 #[vP vb,mgV w0 t,.pointer (some ⟨b,0,none⟩)] (⟨#[40]⟩++sepB (prsL N)++⟨#[41]⟩):=by
 intro T w h
 have hmp:=fun w=>m_put w0.heap.size (tabB t) w
 have hna:=fun w=>na_put w0.heap.size (tabB t) w
 have S0:Hid (Pw w0 vb 232 #[mgA w0 t,.string ⟨#[40]⟩] ⟨#[40]⟩):=put_pw w0 vb t _ (by decide)
 have S1:Hid (Pw w0 vb 232 #[mgA w0 t,.string (sepB (prsL N))] (sepB (prsL N))):=put_pw w0 vb t _ (by omega)
 have SD:Hid (∀T w,Ps w0 vb T w->∀u,CallsD Tryz.prog 232 #[mgA w0 t,.string ⟨#[41]⟩] u w fun e u' w'=>u'=u/\(e= .returned (.tuple #[])/\Ps w0 vb (T++⟨#[41]⟩) w'/\Kq w0.heap.size w w')):=fun T w h u=>put_deferred w0 vb t _ T (by decide) u w h
 have KJ:Hid (∀W v,StrsAt W v (prsL N)->StrsJ v->Calls Tryz.prog 130 #[v,.string ⟨#[44,32]⟩] W fun e w'=>e= .returned (.string (sepB (prsL N)))/\Below W.heap.size W w'):=fun W v h1 h2=>joinC_any W v _ h1 h2 (by unfold prsL;split;rw[List.length_append];show _+1<=_;omega;omega) (by omega)
 have cel:Hid (∀W,Below w0.heap.size w0 W->W.cell? ⟨b,6,none⟩=some vn/\W.cell? ⟨b,7,none⟩=some (.bool (decide (N.op=1)))):=fun W hb=>Q.rest hc hb
 have P0:Hid (Ps w0 vb T w):=h
 have HQ:Hid (StrsAt w0 vn N.nm/\StrsJ vn/\N.nm.length<=200):=⟨Q.nm,Q.jn,hlm⟩
 obtain⟨SJ,hSJ⟩:∃SJ,sepB (prsL N)=SJ:=⟨_,rfl⟩
 rw[hSJ]at S1 KJ hsz⊢
 unfold mgV mgA at *
 generalize tabB t=tb at *
 obtain⟨va,vc,hvf⟩:=Q.nm.form
 generalize N.nm.length=vl at hvf
 subst hvf
 clear h Q hSJ hc
 cases ho:decide (N.op=1) with
 |false=>
  have hpl:prsL N=N.nm:=by unfold prsL;rw[if_neg (of_decide_eq_false ho)]
  rw[ho]at cel
  have HQ2:Hid (StrsAt w0 (.slice va vl vc) (prsL N)):=by rw[hpl];exact HQ.out.1
  clear ho hpl
  go_enter_defers Tryz.func131,Tryz.ntmps131
  go_wp2_with (go_at_call 232;fail)
  refine(S0.out _ _ P0.out).mono ?_
  rintro e u0 ⟨rfl,qq,kk⟩
  have P1:Hid (Ps w0 vb (T++⟨#[40]⟩) u0/\Kq w0.heap.size w u0):=⟨qq,kk⟩
  obtain⟨x6,x7⟩:=cel.out _ qq.pg.bel
  clear qq kk
  go_wp2_with fail
  go_region_held3 (fun W'=>W'.cell? ⟨b,6,none⟩=some (.slice va vl vc)) (first|exact(cel.out _ (P1.out.1.below (bel_drew1 (Below.refl _ _))).pg.bel).1|exact(cel.out _ ((P1.out.1.below (bel_drew1 (Below.refl _ _))).below hbwn).pg.bel).1|exact(cel.out _ qq.pg.bel).1|go_keep) (first|(go_at_call 130;refine(KJ.out _ _ (HQ2.out.below (P1.out.1.below (bel_drew1 (Below.refl _ _))).pg.bel) HQ.out.2.1).mono ?_;rintro e wn ⟨rfl,hbwn⟩)|(go_at_call 232;refine(S1.out _ _ ((P1.out.1.below (bel_drew1 (Below.refl _ _))).below hbwn)).mono ?_;rintro e u1 ⟨rfl,qq,kk⟩))
  all_goals
   have P2:Hid (Ps w0 vb (T++⟨#[40]⟩++SJ) u1/\Kq w0.heap.size w u1):=⟨qq,((P1.out.2.trans (Kq.of_below (bel_drew1 (Below.refl _ _)))).trans (Kq.of_below hbwn)).trans kk⟩
   clear qq kk
   go_wp2_with fail
   refine leaves_cons (f:=232) (by simp) (inv_put _ _ _ _) ?_
   refine(SD.out _ _ P2.out.1 .returning).mono ?_
   rintro e u' w9 ⟨rfl,rfl,p9,k9⟩
   refine⟨_,results_none rfl _ _ _,rfl,?_,P2.out.2.trans k9⟩
   simpa only[ByteArray.append_assoc] using p9
 |true=>
  have hpl:prsL N=N.nm++[dotB]:=by unfold prsL;rw[if_pos (of_decide_eq_true ho)]
  rw[ho]at cel
  rw[hpl]at KJ
  clear ho hpl
  go_enter_defers Tryz.func131,Tryz.ntmps131
  go_wp2_with (go_at_call 232;fail)
  refine(S0.out _ _ P0.out).mono ?_
  rintro e u0 ⟨rfl,qq,kk⟩
  have P1:Hid (Ps w0 vb (T++⟨#[40]⟩) u0/\Kq w0.heap.size w u0):=⟨qq,kk⟩
  obtain⟨x6,x7⟩:=cel.out _ qq.pg.bel
  clear qq kk
  go_wp2_with (go_at_call 152;fail)
  have hA1:=heap_alloc_new u0 (.cells #[.string ⟨#[46,46,46]⟩] 9)
  have hA2:=heap_alloc_new (u0.alloc (.cells #[.string ⟨#[46,46,46]⟩] 9)) (.cells #[.slice va vl vc,.slice (some ⟨u0.heap.size,0,none⟩) 1 1] 41)
  rw[World.size_alloc]at hA2
  have hbA:Below u0.heap.size u0 ((u0.alloc (.cells #[.string ⟨#[46,46,46]⟩] 9)).alloc (.cells #[.slice va vl vc,.slice (some ⟨u0.heap.size,0,none⟩) 1 1] 41)):=((Below.refl _ u0).alloc (Nat.le_refl _) _).alloc (by simp) _
  have hA3:((u0.alloc (.cells #[.string ⟨#[46,46,46]⟩] 9)).alloc (.cells #[.slice va vl vc,.slice (some ⟨u0.heap.size,0,none⟩) 1 1] 41)).cell? ⟨u0.heap.size,0,none⟩=some (.string ⟨#[46,46,46]⟩):=cell_kept ((Below.refl _ _).alloc (Nat.le_refl _) _) (by rw[cell_of_row _ _ _ _ _ _ hA1];rfl)
  have kc:=concat_any ((u0.alloc (.cells #[.string ⟨#[46,46,46]⟩] 9)).alloc (.cells #[.slice va vl vc,.slice (some ⟨u0.heap.size,0,none⟩) 1 1] 41)) (u0.heap.size+1) (.slice va vl vc) (.slice (some ⟨u0.heap.size,0,none⟩) 1 1) N.nm dotB (HQ.out.1.below (P1.out.1.pg.bel.trans (hbA.mono P1.out.1.pg.bel.size))) (.inr ⟨⟨u0.heap.size,0,none⟩,1,rfl,fun j s hs=>by
    cases j with
    |zero=>simp at hs;subst hs;exact hA3
    |succ j=>simp at hs⟩) (by have:=HQ.out.2.2;omega) (by rw[cell_of_row _ _ _ _ _ _ hA2];rfl) (by rw[cell_of_row _ _ _ _ _ _ hA2];rfl)
  refine kc.mono ?_
  rintro e w3 ⟨v3,rfl,s3,j3,hb3⟩
  have hb03:Below u0.heap.size u0 w3:=hbA.trans (hb3.mono hbA.size)
  have R1:Hid (Ps w0 vb (T++⟨#[40]⟩) w3/\Kq w0.heap.size w w3):=⟨P1.out.1.below hb03,P1.out.2.trans (Kq.of_below hb03)⟩
  obtain⟨a3,c3,e3⟩:=s3.form
  generalize (N.nm++[dotB]).length=l3 at e3
  subst e3
  have H3:Hid (StrsAt w3 (.slice a3 l3 c3) (N.nm++[dotB])/\StrsJ (.slice a3 l3 c3)):=⟨s3,j3⟩
  obtain⟨x6,x7⟩:=cel.out _ R1.out.1.pg.bel
  clear hA1 hA2 hA3 hbA kc hb3 hb03 s3 j3
  go_wp2_with fail
  go_region_held3 (fun W'=>W'.cell? ⟨b,6,none⟩=some (.slice va vl vc)) (first|exact(cel.out _ (R1.out.1.below (bel_drew1 (Below.refl _ _))).pg.bel).1|exact(cel.out _ ((R1.out.1.below (bel_drew1 (Below.refl _ _))).below hbwn).pg.bel).1|exact(cel.out _ qq.pg.bel).1|go_keep) (first|(go_at_call 130;refine(KJ.out _ _ (H3.out.1.below (bel_drew1 (Below.refl _ _))) H3.out.2).mono ?_;rintro e wn ⟨rfl,hbwn⟩)|(go_at_call 232;refine(S1.out _ _ ((R1.out.1.below (bel_drew1 (Below.refl _ _))).below hbwn)).mono ?_;rintro e u1 ⟨rfl,qq,kk⟩))
  all_goals
   have P2:Hid (Ps w0 vb (T++⟨#[40]⟩++SJ) u1/\Kq w0.heap.size w u1):=⟨qq,((R1.out.2.trans (Kq.of_below (bel_drew1 (Below.refl _ _)))).trans (Kq.of_below hbwn)).trans kk⟩
   clear qq kk
   go_wp2_with fail
   refine leaves_cons (f:=232) (by simp) (inv_put _ _ _ _) ?_
   refine(SD.out _ _ P2.out.1 .returning).mono ?_
   rintro e u' w9 ⟨rfl,rfl,p9,k9⟩
   refine⟨_,results_none rfl _ _ _,rfl,?_,P2.out.2.trans k9⟩
   simpa only[ByteArray.append_assoc] using p9
theorem m_each (w0:World) (vb:Nat) (ns:List Nd) (L:List Im) (base:Nat) (vs:Value) (Tp0:Tp w0 ns L base vs) (t:Nat) (ht:t<=100000) (i:Nat) (hi:i<ns.length) (N:Nd) (hN:nodeI ns i=N) (hk:N.k=10) (hlk:N.ks.length<=1048576) (hlm:N.nm.length<=1048576) (hnz:(sepB N.nm).size<=1000000) (hLn:N.ks.length=2) (X:ByteArray) (hLX:∀v,SlAt w0 L v (N.ks.take 1)->Pw w0 vb 93 #[vP vb,mgV w0 t,v] X) (q1:Nat) (hk1:N.ks[1]?=some (q1:Int)) (E1:ByteArray) (hV1:Vis w0 vb L t (q1:Int) E1):
  Pw w0 vb 41 #[vP vb,mgV w0 t,nV (imI L i)] (⟨#[102,111,114,32]⟩++sepB N.nm++⟨#[32,105,110,32]⟩++X++⟨#[32]⟩++E1):=by
 intro T w h
 obtain⟨b,vn,a,n,c,hv,Q⟩:=nd_q Tp0 hi
 rw[hN]at hv Q
 have kh:=fun w=>head_any b w
 have hmp:=fun w=>m_put w0.heap.size (tabB t) w
 have hml:=fun w=>m_line w0.heap.size (tabB t) w
 have hmi:=fun w=>m_inner w0.heap.size (tabB t) w
 have hna:=fun w=>na_put w0.heap.size (tabB t) w
 have hn:=Q.hn
 have hmt:=fun w=>methC (cls N.k) b w
 have hc:cls N.k=0:=by rw[hk];rfl
 obtain⟨pa,rfl,hcap,_⟩:=Q.ks.get hk1
 rw[hn]at hcap
 have hnn:n=2:=by omega
 subst hnn
 have KN:Hid (∀W,Below w0.heap.size w0 W->Calls Tryz.prog 90 #[.iface 142 (.pointer (some ⟨b,0,none⟩))] W fun e w'=>e= .returned (.string (sepB N.nm))/\Below W.heap.size W w'):=fun W hb=>namesOf_any W b vn N.nm (Q.nm.below hb) Q.jn hlm (by omega) ((Q.cells hb).2.2 _ (by rw[hc];rfl))
 obtain⟨sn,hsn⟩:∃sn,sepB N.nm=sn:=⟨_,rfl⟩
 rw[hsn]at hnz KN
 have f0:¬9223372036854775807<4+sn.size:=by omega
 have f1:¬9223372036854775807<4+sn.size+4:=by omega
 have hc0:¬c=0:=by omega
 have hc1:(1:Int)<=(c:Int):=by omega
 have hc2:1<=c:=by omega
 rw[hsn]
 clear hsn
 have S0:Hid (Pw w0 vb 95 _ ((((⟨#[102,111,114,32]⟩:ByteArray)++sn++(⟨#[32,105,110,32]⟩:ByteArray))++X)++(⟨#[32]⟩:ByteArray)++E1)):=headed_any w0 vb t ((⟨#[102,111,114,32]⟩:ByteArray)++sn++(⟨#[32,105,110,32]⟩:ByteArray)) (((⟨#[102,111,114,32]⟩:ByteArray)++sn++(⟨#[32,105,110,32]⟩:ByteArray))++X) E1 (.slice (some pa) 1 c) _ (phrase_any w0 vb t ((⟨#[102,111,114,32]⟩:ByteArray)++sn++(⟨#[32,105,110,32]⟩:ByteArray)) X (by simp only[ByteArray.size_append];show 4+_+4<=_;omega) _ (hLX _ (Q.ks.take 1 (by omega)))) hV1
 obtain⟨v1,hv1⟩:∃v,nV (imI L (q1:Int))=v:=⟨_,rfl⟩
 rw[hv1]at S0
 have cel:Hid (∀W,Below w0.heap.size w0 W->W.cell? ⟨b,0,none⟩=some (.int .i64 N.k)/\W.cell? ⟨b,5,none⟩=some (.slice (some pa) 2 c)/\W.cell? ⟨b,6,none⟩=some vn/\W.cell? ⟨pa.block,pa.off+1,none⟩=some v1):=fun W hb=>⟨(Q.cells hb).1,(Q.cells hb).2.1,(Q.cells hb).2.2 _ (by rw[hc];rfl),by rw[<-hv1];obtain⟨_,e,_,x⟩:=(Q.ks.below hb).get hk1;cases e;exact add_cell x (by decide)⟩
 have P0:Hid (Ps w0 vb T w/\Kq w0.heap.size w w):=⟨h,Kq.refl _ _⟩
 obtain⟨x0,x5,x6,y1⟩:=cel.out _ h.pg.bel
 rw[hv]
 rw[hc]at hmt⊢
 simp only[ptT]at hmt⊢
 have has:=fun w=>asP0 b w
 unfold mgV mgA at *
 generalize tabB t=tb at *
 have HQ:Hid (NdQ w0 L N b vn (some pa) 2 c):=Q
 clear h Q hv hk
 go_enter Tryz.func41,Tryz.ntmps41
 go_wp2_with (first|(go_at_call 233;refine(kh _).mono ?_;rintro e w' ⟨rfl,hw'⟩;subst w'))
 go_region_held3 (fun W'=>W'.cell? ⟨b,0,none⟩=some (.int .i64 N.k)/\W'.cell? ⟨b,5,none⟩=some (.slice (some pa) 2 c)/\W'.cell? ⟨b,6,none⟩=some vn/\W'.cell? ⟨pa.block,pa.off+1,none⟩=some v1) (first|exact cel.out _ (P0.out.1.below (bel_drew1 (Below.refl _ _))).pg.bel|exact cel.out _ ((P0.out.1.below (bel_drew1 (Below.refl _ _))).below hbwn).pg.bel|exact cel.out _ qq.pg.bel|go_keep) (first|(go_at_call 233;refine(kh _).mono ?_;rintro e w' ⟨rfl,hw'⟩;subst w')|(go_at_call 90;refine(KN.out _ (P0.out.1.below (bel_drew1 (Below.refl _ _))).pg.bel).mono ?_;rintro e wn ⟨rfl,hbwn⟩)|(go_at_call 95;refine(S0.out _ _ ((P0.out.1.below (bel_drew1 (Below.refl _ _))).below hbwn)).mono ?_;rintro e u0 ⟨rfl,qq,kk⟩))
 all_goals
  have P1:Hid (Ps w0 vb (T++((((⟨#[102,111,114,32]⟩:ByteArray)++sn++(⟨#[32,105,110,32]⟩:ByteArray))++X)++(⟨#[32]⟩:ByteArray)++E1)) u0/\Kq w0.heap.size w u0):=⟨qq,((P0.out.2.trans (Kq.of_below (bel_drew1 (Below.refl _ _)))).trans (Kq.of_below hbwn)).trans kk⟩
  obtain⟨x0,x5,x6,y1⟩:=cel.out _ qq.pg.bel
  clear qq kk
  go_wp2_with (first|(go_at_call 233;refine(kh _).mono ?_;rintro e w' ⟨rfl,hw'⟩;subst w'))
  go_end0
  refine⟨rfl,?_,P1.out.2⟩
  have:=P1.out.1
  simpa only[ByteArray.append_assoc] using this
theorem m_for3 (w0:World) (vb:Nat) (ns:List Nd) (L:List Im) (base:Nat) (vs:Value) (Tp0:Tp w0 ns L base vs) (t:Nat) (ht:t<=100000) (i:Nat) (hi:i<ns.length) (N:Nd) (hN:nodeI ns i=N) (hk:N.k=9) (hlk:N.ks.length<=1048576) (hlm:N.nm.length<=1048576) (hnz:(sepB N.nm).size<=1000000) (hLn:N.ks.length=3) (X:ByteArray) (hLX:∀v,SlAt w0 L v (N.ks.take 2)->Pw w0 vb 93 #[vP vb,mgV w0 t,v] X) (q2:Nat) (hk2:N.ks[2]?=some (q2:Int)) (E2:ByteArray) (hV2:Vis w0 vb L t (q2:Int) E2):
  Pw w0 vb 40 #[vP vb,mgV w0 t,nV (imI L i)] (⟨#[102,111,114,32]⟩++sepB N.nm++⟨#[32,61,32]⟩++X++⟨#[32]⟩++E2):=by
 intro T w h
 obtain⟨b,vn,a,n,c,hv,Q⟩:=nd_q Tp0 hi
 rw[hN]at hv Q
 have kh:=fun w=>head_any b w
 have hmp:=fun w=>m_put w0.heap.size (tabB t) w
 have hml:=fun w=>m_line w0.heap.size (tabB t) w
 have hmi:=fun w=>m_inner w0.heap.size (tabB t) w
 have hna:=fun w=>na_put w0.heap.size (tabB t) w
 have hn:=Q.hn
 have hmt:=fun w=>methC (cls N.k) b w
 have hc:cls N.k=0:=by rw[hk];rfl
 obtain⟨pa,rfl,hcap,_⟩:=Q.ks.get hk2
 rw[hn]at hcap
 have hnn:n=3:=by omega
 subst hnn
 have KN:Hid (∀W,Below w0.heap.size w0 W->Calls Tryz.prog 90 #[.iface 142 (.pointer (some ⟨b,0,none⟩))] W fun e w'=>e= .returned (.string (sepB N.nm))/\Below W.heap.size W w'):=fun W hb=>namesOf_any W b vn N.nm (Q.nm.below hb) Q.jn hlm (by omega) ((Q.cells hb).2.2 _ (by rw[hc];rfl))
 obtain⟨sn,hsn⟩:∃sn,sepB N.nm=sn:=⟨_,rfl⟩
 rw[hsn]at hnz KN
 have f0:¬9223372036854775807<4+sn.size:=by omega
 have f1:¬9223372036854775807<4+sn.size+3:=by omega
 have hc0:¬c=0:=by omega
 have hc1:(2:Int)<=(c:Int):=by omega
 have hc2:2<=c:=by omega
 rw[hsn]
 clear hsn
 have S0:Hid (Pw w0 vb 95 _ ((((⟨#[102,111,114,32]⟩:ByteArray)++sn++(⟨#[32,61,32]⟩:ByteArray))++X)++(⟨#[32]⟩:ByteArray)++E2)):=headed_any w0 vb t ((⟨#[102,111,114,32]⟩:ByteArray)++sn++(⟨#[32,61,32]⟩:ByteArray)) (((⟨#[102,111,114,32]⟩:ByteArray)++sn++(⟨#[32,61,32]⟩:ByteArray))++X) E2 (.slice (some pa) 2 c) _ (phrase_any w0 vb t ((⟨#[102,111,114,32]⟩:ByteArray)++sn++(⟨#[32,61,32]⟩:ByteArray)) X (by simp only[ByteArray.size_append];show 4+_+3<=_;omega) _ (hLX _ (Q.ks.take 2 (by omega)))) hV2
 obtain⟨v2,hv2⟩:∃v,nV (imI L (q2:Int))=v:=⟨_,rfl⟩
 rw[hv2]at S0
 have cel:Hid (∀W,Below w0.heap.size w0 W->W.cell? ⟨b,0,none⟩=some (.int .i64 N.k)/\W.cell? ⟨b,5,none⟩=some (.slice (some pa) 3 c)/\W.cell? ⟨b,6,none⟩=some vn/\W.cell? ⟨pa.block,pa.off+2,none⟩=some v2):=fun W hb=>⟨(Q.cells hb).1,(Q.cells hb).2.1,(Q.cells hb).2.2 _ (by rw[hc];rfl),by rw[<-hv2];obtain⟨_,e,_,x⟩:=(Q.ks.below hb).get hk2;cases e;exact add_cell x (by decide)⟩
 have P0:Hid (Ps w0 vb T w/\Kq w0.heap.size w w):=⟨h,Kq.refl _ _⟩
 obtain⟨x0,x5,x6,y2⟩:=cel.out _ h.pg.bel
 rw[hv]
 rw[hc]at hmt⊢
 simp only[ptT]at hmt⊢
 have has:=fun w=>asP0 b w
 unfold mgV mgA at *
 generalize tabB t=tb at *
 have HQ:Hid (NdQ w0 L N b vn (some pa) 3 c):=Q
 clear h Q hv hk
 go_enter Tryz.func40,Tryz.ntmps40
 go_wp2_with (first|(go_at_call 233;refine(kh _).mono ?_;rintro e w' ⟨rfl,hw'⟩;subst w'))
 go_region_held3 (fun W'=>W'.cell? ⟨b,0,none⟩=some (.int .i64 N.k)/\W'.cell? ⟨b,5,none⟩=some (.slice (some pa) 3 c)/\W'.cell? ⟨b,6,none⟩=some vn/\W'.cell? ⟨pa.block,pa.off+2,none⟩=some v2) (first|exact cel.out _ (P0.out.1.below (bel_drew1 (Below.refl _ _))).pg.bel|exact cel.out _ ((P0.out.1.below (bel_drew1 (Below.refl _ _))).below hbwn).pg.bel|exact cel.out _ qq.pg.bel|go_keep) (first|(go_at_call 233;refine(kh _).mono ?_;rintro e w' ⟨rfl,hw'⟩;subst w')|(go_at_call 90;refine(KN.out _ (P0.out.1.below (bel_drew1 (Below.refl _ _))).pg.bel).mono ?_;rintro e wn ⟨rfl,hbwn⟩)|(go_at_call 95;refine(S0.out _ _ ((P0.out.1.below (bel_drew1 (Below.refl _ _))).below hbwn)).mono ?_;rintro e u0 ⟨rfl,qq,kk⟩))
 all_goals
  have P1:Hid (Ps w0 vb (T++((((⟨#[102,111,114,32]⟩:ByteArray)++sn++(⟨#[32,61,32]⟩:ByteArray))++X)++(⟨#[32]⟩:ByteArray)++E2)) u0/\Kq w0.heap.size w u0):=⟨qq,((P0.out.2.trans (Kq.of_below (bel_drew1 (Below.refl _ _)))).trans (Kq.of_below hbwn)).trans kk⟩
  obtain⟨x0,x5,x6,y2⟩:=cel.out _ qq.pg.bel
  clear qq kk
  go_wp2_with (first|(go_at_call 233;refine(kh _).mono ?_;rintro e w' ⟨rfl,hw'⟩;subst w'))
  go_end0
  refine⟨rfl,?_,P1.out.2⟩
  have:=P1.out.1
  simpa only[ByteArray.append_assoc] using this
theorem m_index (w0:World) (vb:Nat) (ns:List Nd) (L:List Im) (base:Nat) (vs:Value) (Tp0:Tp w0 ns L base vs) (t:Nat) (ht:t<=100000) (i:Nat) (hi:i<ns.length) (N:Nd) (hN:nodeI ns i=N) (hlk:N.ks.length<=1048576) (q0:Nat) (hk0:N.ks[0]?=some (q0:Int)) (E0:ByteArray) (hV0:Pw w0 vb 103 #[vP vb,mgV w0 t,nV (imI L (q0:Int))] E0) (q1:Nat) (hk1:N.ks[1]?=some (q1:Int)) (E1:ByteArray) (hV1:Pw w0 vb 104 #[vP vb,mgV w0 t,nV (imI L (q1:Int))] E1):
  Pw w0 vb 58 #[vP vb,mgV w0 t,nV (imI L i)] (E0++E1):=by
 intro T w h
 obtain⟨b,vn,a,n,c,hv,Q⟩:=nd_q Tp0 hi
 rw[hN]at hv Q
 have kh:=fun w=>head_any b w
 have hmp:=fun w=>m_put w0.heap.size (tabB t) w
 have hml:=fun w=>m_line w0.heap.size (tabB t) w
 have hmi:=fun w=>m_inner w0.heap.size (tabB t) w
 have hn:=Q.hn
 have hmt:=fun w=>methC (cls N.k) b w
 obtain⟨pa,rfl,hcap,_⟩:=Q.ks.get hk1
 rw[hn]at hcap
 have hj0:(0:Int)<(n:Int):=by have:=kid_lt hk0;omega
 have hj1:(1:Int)<(n:Int):=by have:=kid_lt hk1;omega
 have S0:Hid (Pw w0 vb 103 _ (E0)):=hV0
 have S1:Hid (Pw w0 vb 104 _ (E1)):=hV1
 obtain⟨v0,hv0⟩:∃v,nV (imI L (q0:Int))=v:=⟨_,rfl⟩
 rw[hv0]at S0
 obtain⟨v1,hv1⟩:∃v,nV (imI L (q1:Int))=v:=⟨_,rfl⟩
 rw[hv1]at S1
 have cel:Hid (∀W,Below w0.heap.size w0 W->W.cell? ⟨b,0,none⟩=some (.int .i64 N.k)/\W.cell? ⟨b,5,none⟩=some (.slice (some pa) n c)/\W.cell? pa=some v0/\W.cell? ⟨pa.block,pa.off+1,none⟩=some v1):=fun W hb=>⟨(Q.cells hb).1,(Q.cells hb).2.1,by rw[<-hv0];obtain⟨_,e,_,x⟩:=(Q.ks.below hb).get hk0;cases e;simpa [Addr.add] using x,by rw[<-hv1];obtain⟨_,e,_,x⟩:=(Q.ks.below hb).get hk1;cases e;exact add_cell x (by decide)⟩
 have P0:Hid (Ps w0 vb T w/\Kq w0.heap.size w w):=⟨h,Kq.refl _ _⟩
 obtain⟨x0,x5,y0,y1⟩:=cel.out _ h.pg.bel
 rw[hv]
 generalize ptT (cls N.k)=tp at hmt⊢
 unfold mgV mgA at *
 generalize tabB t=tb at *
 have HQ:Hid (NdQ w0 L N b vn (some pa) n c):=Q
 clear h Q hv
 go_enter Tryz.func58,Tryz.ntmps58
 go_wp2_with (first|(go_at_call 233;refine(kh _).mono ?_;rintro e w' ⟨rfl,hw'⟩;subst w')|(go_at_call 103;fail))
 refine(S0.out _ _ P0.out.1).mono ?_
 rintro e u0 ⟨rfl,qq,kk⟩
 have P1:Hid (Ps w0 vb (T++(E0)) u0/\Kq w0.heap.size w u0):=⟨qq,P0.out.2.trans kk⟩
 obtain⟨x0,x5,y0,y1⟩:=cel.out _ qq.pg.bel
 clear qq kk
 go_wp2_with (first|(go_at_call 233;refine(kh _).mono ?_;rintro e w' ⟨rfl,hw'⟩;subst w')|(go_at_call 104;fail))
 refine(S1.out _ _ P1.out.1).mono ?_
 rintro e u1 ⟨rfl,qq,kk⟩
 have P2:Hid (Ps w0 vb (T++(E0)++(E1)) u1/\Kq w0.heap.size w u1):=⟨qq,P1.out.2.trans kk⟩
 obtain⟨x0,x5,y0,y1⟩:=cel.out _ qq.pg.bel
 clear qq kk
 go_wp2_with (first|(go_at_call 233;refine(kh _).mono ?_;rintro e w' ⟨rfl,hw'⟩;subst w'))
 go_end0
 refine⟨rfl,?_,P2.out.2⟩
 have:=P2.out.1
 simpa only[ByteArray.append_assoc] using this
theorem m_one (w0:World) (vb:Nat) (ns:List Nd) (L:List Im) (base:Nat) (vs:Value) (Tp0:Tp w0 ns L base vs) (t:Nat) (ht:t<=100000) (i:Nat) (hi:i<ns.length) (N:Nd) (hN:nodeI ns i=N) (hlk:N.ks.length<=1048576) (q0:Nat) (hk0:N.ks[0]?=some (q0:Int)) (E0:ByteArray) (hV0:Pw w0 vb 99 #[vP vb,mgV w0 t,nV (imI L (q0:Int)),.bool true] E0):
  Pw w0 vb 63 #[vP vb,mgV w0 t,nV (imI L i)] (E0):=by
 intro T w h
 obtain⟨b,vn,a,n,c,hv,Q⟩:=nd_q Tp0 hi
 rw[hN]at hv Q
 have kh:=fun w=>head_any b w
 have hmp:=fun w=>m_put w0.heap.size (tabB t) w
 have hml:=fun w=>m_line w0.heap.size (tabB t) w
 have hmi:=fun w=>m_inner w0.heap.size (tabB t) w
 have hn:=Q.hn
 have hmt:=fun w=>methC (cls N.k) b w
 obtain⟨pa,rfl,hcap,_⟩:=Q.ks.get hk0
 rw[hn]at hcap
 have hj0:(0:Int)<(n:Int):=by have:=kid_lt hk0;omega
 have S0:Hid (Pw w0 vb 99 _ (E0)):=hV0
 obtain⟨v0,hv0⟩:∃v,nV (imI L (q0:Int))=v:=⟨_,rfl⟩
 rw[hv0]at S0
 have cel:Hid (∀W,Below w0.heap.size w0 W->W.cell? ⟨b,0,none⟩=some (.int .i64 N.k)/\W.cell? ⟨b,5,none⟩=some (.slice (some pa) n c)/\W.cell? pa=some v0):=fun W hb=>⟨(Q.cells hb).1,(Q.cells hb).2.1,by rw[<-hv0];obtain⟨_,e,_,x⟩:=(Q.ks.below hb).get hk0;cases e;simpa [Addr.add] using x⟩
 have P0:Hid (Ps w0 vb T w/\Kq w0.heap.size w w):=⟨h,Kq.refl _ _⟩
 obtain⟨x0,x5,y0⟩:=cel.out _ h.pg.bel
 rw[hv]
 generalize ptT (cls N.k)=tp at hmt⊢
 unfold mgV mgA at *
 generalize tabB t=tb at *
 have HQ:Hid (NdQ w0 L N b vn (some pa) n c):=Q
 clear h Q hv
 go_enter Tryz.func63,Tryz.ntmps63
 go_wp2_with (first|(go_at_call 233;refine(kh _).mono ?_;rintro e w' ⟨rfl,hw'⟩;subst w')|(go_at_call 99;fail))
 refine(S0.out _ _ P0.out.1).mono ?_
 rintro e u0 ⟨rfl,qq,kk⟩
 have P1:Hid (Ps w0 vb (T++(E0)) u0/\Kq w0.heap.size w u0):=⟨qq,P0.out.2.trans kk⟩
 obtain⟨x0,x5,y0⟩:=cel.out _ qq.pg.bel
 clear qq kk
 go_wp2_with (first|(go_at_call 233;refine(kh _).mono ?_;rintro e w' ⟨rfl,hw'⟩;subst w'))
 go_end0
 refine⟨rfl,?_,P1.out.2⟩
 have:=P1.out.1
 simpa only[ByteArray.append_assoc] using this
theorem m_fnex (w0:World) (vb:Nat) (ns:List Nd) (L:List Im) (base:Nat) (vs:Value) (Tp0:Tp w0 ns L base vs) (t:Nat) (ht:t<=100000) (i:Nat) (hi:i<ns.length) (N:Nd) (hN:nodeI ns i=N) (hlk:N.ks.length<=1048576) (Y:ByteArray) (hY:Pw w0 vb 92 #[vP vb,mgV w0 t,nV (imI L i)] Y):
  Pw w0 vb 62 #[vP vb,mgV w0 t,nV (imI L i)] (⟨#[102,110]⟩++Y):=by
 intro T w h
 obtain⟨b,vn,a,n,c,hv,Q⟩:=nd_q Tp0 hi
 rw[hN]at hv Q
 have kh:=fun w=>head_any b w
 have hmp:=fun w=>m_put w0.heap.size (tabB t) w
 have hml:=fun w=>m_line w0.heap.size (tabB t) w
 have hmi:=fun w=>m_inner w0.heap.size (tabB t) w
 have hn:=Q.hn
 have hmt:=fun w=>methC (cls N.k) b w
 have S0:Hid (Pw w0 vb 232 _ (⟨#[102,110]⟩)):=put_pw w0 vb t (⟨#[102,110]⟩) (by decide)
 have S1:Hid (Pw w0 vb 92 _ (Y)):=hY
 have cel:Hid (∀W,Below w0.heap.size w0 W->W.cell? ⟨b,0,none⟩=some (.int .i64 N.k)/\W.cell? ⟨b,5,none⟩=some (.slice a n c)):=fun W hb=>⟨(Q.cells hb).1,(Q.cells hb).2.1⟩
 have P0:Hid (Ps w0 vb T w/\Kq w0.heap.size w w):=⟨h,Kq.refl _ _⟩
 obtain⟨x0,x5⟩:=cel.out _ h.pg.bel
 rw[hv]at S1⊢
 generalize ptT (cls N.k)=tp at hmt S1⊢
 unfold mgV mgA at *
 generalize tabB t=tb at *
 have HQ:Hid (NdQ w0 L N b vn a n c):=Q
 clear h Q hv
 go_enter Tryz.func62,Tryz.ntmps62
 go_wp2_with (first|(go_at_call 233;refine(kh _).mono ?_;rintro e w' ⟨rfl,hw'⟩;subst w')|(go_at_call 232;fail))
 refine(S0.out _ _ P0.out.1).mono ?_
 rintro e u0 ⟨rfl,qq,kk⟩
 have P1:Hid (Ps w0 vb (T++(⟨#[102,110]⟩)) u0/\Kq w0.heap.size w u0):=⟨qq,P0.out.2.trans kk⟩
 obtain⟨x0,x5⟩:=cel.out _ qq.pg.bel
 clear qq kk
 go_wp2_with (first|(go_at_call 233;refine(kh _).mono ?_;rintro e w' ⟨rfl,hw'⟩;subst w')|(go_at_call 92;fail))
 refine(S1.out _ _ P1.out.1).mono ?_
 rintro e u1 ⟨rfl,qq,kk⟩
 have P2:Hid (Ps w0 vb (T++(⟨#[102,110]⟩)++(Y)) u1/\Kq w0.heap.size w u1):=⟨qq,P1.out.2.trans kk⟩
 obtain⟨x0,x5⟩:=cel.out _ qq.pg.bel
 clear qq kk
 go_wp2_with (first|(go_at_call 233;refine(kh _).mono ?_;rintro e w' ⟨rfl,hw'⟩;subst w'))
 go_end0
 refine⟨rfl,?_,P2.out.2⟩
 have:=P2.out.1
 simpa only[ByteArray.append_assoc] using this
theorem m_if (w0:World) (vb:Nat) (ns:List Nd) (L:List Im) (base:Nat) (vs:Value) (Tp0:Tp w0 ns L base vs) (t:Nat) (ht:t<=100000) (i:Nat) (hi:i<ns.length) (N:Nd) (hN:nodeI ns i=N) (hlk:N.ks.length<=1048576) (Y:ByteArray) (hY:Pw w0 vb 94 #[vP vb,mgV w0 t,.string ⟨#[105,102,32]⟩,nV (imI L i)] Y):
  Pw w0 vb 38 #[vP vb,mgV w0 t,nV (imI L i)] (Y):=by
 intro T w h
 obtain⟨b,vn,a,n,c,hv,Q⟩:=nd_q Tp0 hi
 rw[hN]at hv Q
 have kh:=fun w=>head_any b w
 have hmp:=fun w=>m_put w0.heap.size (tabB t) w
 have hml:=fun w=>m_line w0.heap.size (tabB t) w
 have hmi:=fun w=>m_inner w0.heap.size (tabB t) w
 have hn:=Q.hn
 have hmt:=fun w=>methC (cls N.k) b w
 have S0:Hid (Pw w0 vb 94 _ (Y)):=hY
 have cel:Hid (∀W,Below w0.heap.size w0 W->W.cell? ⟨b,0,none⟩=some (.int .i64 N.k)/\W.cell? ⟨b,5,none⟩=some (.slice a n c)):=fun W hb=>⟨(Q.cells hb).1,(Q.cells hb).2.1⟩
 have P0:Hid (Ps w0 vb T w/\Kq w0.heap.size w w):=⟨h,Kq.refl _ _⟩
 obtain⟨x0,x5⟩:=cel.out _ h.pg.bel
 rw[hv]at S0⊢
 generalize ptT (cls N.k)=tp at hmt S0⊢
 unfold mgV mgA at *
 generalize tabB t=tb at *
 have HQ:Hid (NdQ w0 L N b vn a n c):=Q
 clear h Q hv
 go_enter Tryz.func38,Tryz.ntmps38
 go_wp2_with (first|(go_at_call 233;refine(kh _).mono ?_;rintro e w' ⟨rfl,hw'⟩;subst w')|(go_at_call 94;fail))
 refine(S0.out _ _ P0.out.1).mono ?_
 rintro e u0 ⟨rfl,qq,kk⟩
 have P1:Hid (Ps w0 vb (T++(Y)) u0/\Kq w0.heap.size w u0):=⟨qq,P0.out.2.trans kk⟩
 obtain⟨x0,x5⟩:=cel.out _ qq.pg.bel
 clear qq kk
 go_wp2_with (first|(go_at_call 233;refine(kh _).mono ?_;rintro e w' ⟨rfl,hw'⟩;subst w'))
 go_end0
 refine⟨rfl,?_,P1.out.2⟩
 have:=P1.out.1
 simpa only[ByteArray.append_assoc] using this
theorem m_table (w0:World) (vb:Nat) (ns:List Nd) (L:List Im) (base:Nat) (vs:Value) (Tp0:Tp w0 ns L base vs) (t:Nat) (ht:t<=100000) (i:Nat) (hi:i<ns.length) (N:Nd) (hN:nodeI ns i=N) (hlk:N.ks.length<=1048576) (X:ByteArray) (hLX:∀v,SlAt w0 L v (N.ks)->Pw w0 vb 93 #[vP vb,mgV w0 t,v] X):
  Pw w0 vb 61 #[vP vb,mgV w0 t,nV (imI L i)] (⟨#[123]⟩++X++⟨#[125]⟩):=by
 intro T w h
 obtain⟨b,vn,a,n,c,hv,Q⟩:=nd_q Tp0 hi
 rw[hN]at hv Q
 have kh:=fun w=>head_any b w
 have hmp:=fun w=>m_put w0.heap.size (tabB t) w
 have hml:=fun w=>m_line w0.heap.size (tabB t) w
 have hmi:=fun w=>m_inner w0.heap.size (tabB t) w
 have hn:=Q.hn
 have hmt:=fun w=>methC (cls N.k) b w
 have S0:Hid (Pw w0 vb 232 _ (⟨#[123]⟩)):=put_pw w0 vb t (⟨#[123]⟩) (by decide)
 have S1:Hid (Pw w0 vb 93 _ (X)):=hLX _ Q.ks
 have SD:Hid (∀T w,Ps w0 vb T w->∀u,CallsD Tryz.prog 232 #[mgA w0 t,.string ⟨#[125]⟩] u w fun e u' w'=>u'=u/\(e= .returned (.tuple #[])/\Ps w0 vb (T++⟨#[125]⟩) w'/\Kq w0.heap.size w w')):=fun T w h u=>put_deferred w0 vb t _ T (by decide) u w h
 have cel:Hid (∀W,Below w0.heap.size w0 W->W.cell? ⟨b,0,none⟩=some (.int .i64 N.k)/\W.cell? ⟨b,5,none⟩=some (.slice a n c)):=fun W hb=>⟨(Q.cells hb).1,(Q.cells hb).2.1⟩
 have P0:Hid (Ps w0 vb T w/\Kq w0.heap.size w w):=⟨h,Kq.refl _ _⟩
 obtain⟨x0,x5⟩:=cel.out _ h.pg.bel
 rw[hv]
 generalize ptT (cls N.k)=tp at hmt⊢
 unfold mgV mgA at *
 generalize tabB t=tb at *
 have HQ:Hid (NdQ w0 L N b vn a n c):=Q
 clear h Q hv
 go_enter_defers Tryz.func61,Tryz.ntmps61
 go_wp2_with (first|(go_at_call 233;refine(kh _).mono ?_;rintro e w' ⟨rfl,hw'⟩;subst w')|(go_at_call 232;fail))
 refine(S0.out _ _ P0.out.1).mono ?_
 rintro e u0 ⟨rfl,qq,kk⟩
 have P1:Hid (Ps w0 vb (T++(⟨#[123]⟩)) u0/\Kq w0.heap.size w u0):=⟨qq,P0.out.2.trans kk⟩
 obtain⟨x0,x5⟩:=cel.out _ qq.pg.bel
 clear qq kk
 go_wp2_with (first|(go_at_call 233;refine(kh _).mono ?_;rintro e w' ⟨rfl,hw'⟩;subst w')|(go_at_call 93;fail))
 refine(S1.out _ _ P1.out.1).mono ?_
 rintro e u1 ⟨rfl,qq,kk⟩
 have P2:Hid (Ps w0 vb (T++(⟨#[123]⟩)++(X)) u1/\Kq w0.heap.size w u1):=⟨qq,P1.out.2.trans kk⟩
 obtain⟨x0,x5⟩:=cel.out _ qq.pg.bel
 clear qq kk
 go_wp2_with (first|(go_at_call 233;refine(kh _).mono ?_;rintro e w' ⟨rfl,hw'⟩;subst w'))
 refine leaves_cons (f:=232) (by simp) (inv_put _ _ _ _) ?_
 refine(SD.out _ _ P2.out.1 .returning).mono ?_
 rintro e u' w9 ⟨rfl,rfl,p9,k9⟩
 refine⟨_,results_none rfl _ _ _,rfl,?_,P2.out.2.trans k9⟩
 have:=p9
 simpa only[ByteArray.append_assoc] using this
theorem m_call (w0:World) (vb:Nat) (ns:List Nd) (L:List Im) (base:Nat) (vs:Value) (Tp0:Tp w0 ns L base vs) (t:Nat) (ht:t<=100000) (i:Nat) (hi:i<ns.length) (N:Nd) (hN:nodeI ns i=N) (hlk:N.ks.length<=1048576) (q0:Nat) (hk0:N.ks[0]?=some (q0:Int)) (E0:ByteArray) (hV0:Pw w0 vb 103 #[vP vb,mgV w0 t,nV (imI L (q0:Int))] E0) (X:ByteArray) (hLX:∀v,SlAt w0 L v (N.ks.drop 1)->Pw w0 vb 93 #[vP vb,mgV w0 t,v] X):
  Pw w0 vb 60 #[vP vb,mgV w0 t,nV (imI L i)] (E0++⟨#[40]⟩++X++⟨#[41]⟩):=by
 intro T w h
 obtain⟨b,vn,a,n,c,hv,Q⟩:=nd_q Tp0 hi
 rw[hN]at hv Q
 have kh:=fun w=>head_any b w
 have hmp:=fun w=>m_put w0.heap.size (tabB t) w
 have hml:=fun w=>m_line w0.heap.size (tabB t) w
 have hmi:=fun w=>m_inner w0.heap.size (tabB t) w
 have hn:=Q.hn
 have hmt:=fun w=>methC (cls N.k) b w
 obtain⟨pa,rfl,hcap,_⟩:=Q.ks.get hk0
 rw[hn]at hcap
 have hj0:(0:Int)<(n:Int):=by have:=kid_lt hk0;omega
 have hc1:(1:Int)<=(n:Int):=by omega
 have hc2:1<=n:=by omega
 by_cases hck:c=1
 ·have hL1:n=1:=by have:=kid_lt hk0;omega
  subst hck hL1
  have S0:Hid (Pw w0 vb 103 _ (E0)):=hV0
  have S1:Hid (Pw w0 vb 232 _ (⟨#[40]⟩)):=put_pw w0 vb t (⟨#[40]⟩) (by decide)
  have S2:Hid (Pw w0 vb 93 _ (X)):=hLX (.slice (some pa) 0 0) (.inl ⟨by rw[List.drop_eq_nil_iff];omega,_,_,rfl⟩)
  have SD:Hid (∀T w,Ps w0 vb T w->∀u,CallsD Tryz.prog 232 #[mgA w0 t,.string ⟨#[41]⟩] u w fun e u' w'=>u'=u/\(e= .returned (.tuple #[])/\Ps w0 vb (T++⟨#[41]⟩) w'/\Kq w0.heap.size w w')):=fun T w h u=>put_deferred w0 vb t _ T (by decide) u w h
  obtain⟨v0,hv0⟩:∃v,nV (imI L (q0:Int))=v:=⟨_,rfl⟩
  rw[hv0]at S0
  have cel:Hid (∀W,Below w0.heap.size w0 W->W.cell? ⟨b,0,none⟩=some (.int .i64 N.k)/\W.cell? ⟨b,5,none⟩=some (.slice (some pa) 1 1)/\W.cell? pa=some v0):=fun W hb=>⟨(Q.cells hb).1,(Q.cells hb).2.1,by rw[<-hv0];obtain⟨_,e,_,x⟩:=(Q.ks.below hb).get hk0;cases e;simpa [Addr.add] using x⟩
  have P0:Hid (Ps w0 vb T w/\Kq w0.heap.size w w):=⟨h,Kq.refl _ _⟩
  obtain⟨x0,x5,y0⟩:=cel.out _ h.pg.bel
  rw[hv]
  generalize ptT (cls N.k)=tp at hmt⊢
  unfold mgV mgA at *
  generalize tabB t=tb at *
  have HQ:Hid (NdQ w0 L N b vn (some pa) 1 1):=Q
  clear h Q hv
  go_enter_defers Tryz.func60,Tryz.ntmps60
  go_wp2_with (first|(go_at_call 233;refine(kh _).mono ?_;rintro e w' ⟨rfl,hw'⟩;subst w')|(go_at_call 103;fail))
  refine(S0.out _ _ P0.out.1).mono ?_
  rintro e u0 ⟨rfl,qq,kk⟩
  have P1:Hid (Ps w0 vb (T++(E0)) u0/\Kq w0.heap.size w u0):=⟨qq,P0.out.2.trans kk⟩
  obtain⟨x0,x5,y0⟩:=cel.out _ qq.pg.bel
  clear qq kk
  go_wp2_with (first|(go_at_call 233;refine(kh _).mono ?_;rintro e w' ⟨rfl,hw'⟩;subst w')|(go_at_call 232;fail))
  refine(S1.out _ _ P1.out.1).mono ?_
  rintro e u1 ⟨rfl,qq,kk⟩
  have P2:Hid (Ps w0 vb (T++(E0)++(⟨#[40]⟩)) u1/\Kq w0.heap.size w u1):=⟨qq,P1.out.2.trans kk⟩
  obtain⟨x0,x5,y0⟩:=cel.out _ qq.pg.bel
  clear qq kk
  go_wp2_with (first|(go_at_call 233;refine(kh _).mono ?_;rintro e w' ⟨rfl,hw'⟩;subst w')|(go_at_call 93;fail))
  refine(S2.out _ _ P2.out.1).mono ?_
  rintro e u2 ⟨rfl,qq,kk⟩
  have P3:Hid (Ps w0 vb (T++(E0)++(⟨#[40]⟩)++(X)) u2/\Kq w0.heap.size w u2):=⟨qq,P2.out.2.trans kk⟩
  obtain⟨x0,x5,y0⟩:=cel.out _ qq.pg.bel
  clear qq kk
  go_wp2_with (first|(go_at_call 233;refine(kh _).mono ?_;rintro e w' ⟨rfl,hw'⟩;subst w'))
  refine leaves_cons (f:=232) (by simp) (inv_put _ _ _ _) ?_
  refine(SD.out _ _ P3.out.1 .returning).mono ?_
  rintro e u' w9 ⟨rfl,rfl,p9,k9⟩
  refine⟨_,results_none rfl _ _ _,rfl,?_,P3.out.2.trans k9⟩
  have:=p9
  simpa only[ByteArray.append_assoc] using this
 ·have hck2:(c==1)=false:=by simpa using hck
  have S0:Hid (Pw w0 vb 103 _ (E0)):=hV0
  have S1:Hid (Pw w0 vb 232 _ (⟨#[40]⟩)):=put_pw w0 vb t (⟨#[40]⟩) (by decide)
  have S2:Hid (Pw w0 vb 93 _ (X)):=hLX _ (Q.ks.drop 1 (n-1) (by omega) (by omega))
  have SD:Hid (∀T w,Ps w0 vb T w->∀u,CallsD Tryz.prog 232 #[mgA w0 t,.string ⟨#[41]⟩] u w fun e u' w'=>u'=u/\(e= .returned (.tuple #[])/\Ps w0 vb (T++⟨#[41]⟩) w'/\Kq w0.heap.size w w')):=fun T w h u=>put_deferred w0 vb t _ T (by decide) u w h
  obtain⟨v0,hv0⟩:∃v,nV (imI L (q0:Int))=v:=⟨_,rfl⟩
  rw[hv0]at S0
  have cel:Hid (∀W,Below w0.heap.size w0 W->W.cell? ⟨b,0,none⟩=some (.int .i64 N.k)/\W.cell? ⟨b,5,none⟩=some (.slice (some pa) n c)/\W.cell? pa=some v0):=fun W hb=>⟨(Q.cells hb).1,(Q.cells hb).2.1,by rw[<-hv0];obtain⟨_,e,_,x⟩:=(Q.ks.below hb).get hk0;cases e;simpa [Addr.add] using x⟩
  have P0:Hid (Ps w0 vb T w/\Kq w0.heap.size w w):=⟨h,Kq.refl _ _⟩
  obtain⟨x0,x5,y0⟩:=cel.out _ h.pg.bel
  rw[hv]
  generalize ptT (cls N.k)=tp at hmt⊢
  unfold mgV mgA at *
  generalize tabB t=tb at *
  have HQ:Hid (NdQ w0 L N b vn (some pa) n c):=Q
  clear h Q hv
  go_enter_defers Tryz.func60,Tryz.ntmps60
  go_wp2_with (first|(go_at_call 233;refine(kh _).mono ?_;rintro e w' ⟨rfl,hw'⟩;subst w')|(go_at_call 103;fail))
  refine(S0.out _ _ P0.out.1).mono ?_
  rintro e u0 ⟨rfl,qq,kk⟩
  have P1:Hid (Ps w0 vb (T++(E0)) u0/\Kq w0.heap.size w u0):=⟨qq,P0.out.2.trans kk⟩
  obtain⟨x0,x5,y0⟩:=cel.out _ qq.pg.bel
  clear qq kk
  go_wp2_with (first|(go_at_call 233;refine(kh _).mono ?_;rintro e w' ⟨rfl,hw'⟩;subst w')|(go_at_call 232;fail))
  refine(S1.out _ _ P1.out.1).mono ?_
  rintro e u1 ⟨rfl,qq,kk⟩
  have P2:Hid (Ps w0 vb (T++(E0)++(⟨#[40]⟩)) u1/\Kq w0.heap.size w u1):=⟨qq,P1.out.2.trans kk⟩
  obtain⟨x0,x5,y0⟩:=cel.out _ qq.pg.bel
  clear qq kk
  go_wp2_with (first|(go_at_call 233;refine(kh _).mono ?_;rintro e w' ⟨rfl,hw'⟩;subst w')|(go_at_call 93;fail))
  refine(S2.out _ _ P2.out.1).mono ?_
  rintro e u2 ⟨rfl,qq,kk⟩
  have P3:Hid (Ps w0 vb (T++(E0)++(⟨#[40]⟩)++(X)) u2/\Kq w0.heap.size w u2):=⟨qq,P2.out.2.trans kk⟩
  obtain⟨x0,x5,y0⟩:=cel.out _ qq.pg.bel
  clear qq kk
  go_wp2_with (first|(go_at_call 233;refine(kh _).mono ?_;rintro e w' ⟨rfl,hw'⟩;subst w'))
  refine leaves_cons (f:=232) (by simp) (inv_put _ _ _ _) ?_
  refine(SD.out _ _ P3.out.1 .returning).mono ?_
  rintro e u' w9 ⟨rfl,rfl,p9,k9⟩
  refine⟨_,results_none rfl _ _ _,rfl,?_,P3.out.2.trans k9⟩
  have:=p9
  simpa only[ByteArray.append_assoc] using this
theorem m_body (w0:World) (vb:Nat) (ns:List Nd) (L:List Im) (base:Nat) (vs:Value) (Tp0:Tp w0 ns L base vs) (t:Nat) (ht:t<=100000) (i:Nat) (hi:i<ns.length) (N:Nd) (hN:nodeI ns i=N) (hk:N.k=36) (hlk:N.ks.length<=1048576) (hlm:N.nm.length<=200) (hsz:(sepB (prsL N)).size<=1000000) (q0:Nat) (hk0:N.ks[0]?=some (q0:Int)) (E0:ByteArray) (hV0:Vis w0 vb L t (q0:Int) E0):
  Pw w0 vb 92 #[vP vb,mgV w0 t,nV (imI L i)] (⟨#[40]⟩++sepB (prsL N)++⟨#[41]⟩++⟨#[32]⟩++E0):=by
 intro T w h
 obtain⟨b,vn,a,n,c,hv,Q⟩:=nd_q Tp0 hi
 rw[hN]at hv Q
 have kh:=fun w=>head_any b w
 have hmp:=fun w=>m_put w0.heap.size (tabB t) w
 have hml:=fun w=>m_line w0.heap.size (tabB t) w
 have hmi:=fun w=>m_inner w0.heap.size (tabB t) w
 have hn:=Q.hn
 have hmt:=fun w=>methC (cls N.k) b w
 have hc:cls N.k=5:=by rw[hk];rfl
 obtain⟨pa,rfl,hcap,_⟩:=Q.ks.get hk0
 rw[hn]at hcap
 have hj0:(0:Int)<(n:Int):=by have:=kid_lt hk0;omega
 have S0:Hid (Pw w0 vb 131 _ (⟨#[40]⟩++sepB (prsL N)++⟨#[41]⟩)):=params_any w0 vb L t N b vn _ _ _ Q hc hlm hsz
 have S1:Hid (Pw w0 vb 232 _ (⟨#[32]⟩)):=put_pw w0 vb t (⟨#[32]⟩) (by decide)
 have S2:Hid (Pw w0 vb 67 _ (E0)):=hV0
 obtain⟨v0,hv0⟩:∃v,nV (imI L (q0:Int))=v:=⟨_,rfl⟩
 rw[hv0]at S2
 have cel:Hid (∀W,Below w0.heap.size w0 W->W.cell? ⟨b,0,none⟩=some (.int .i64 N.k)/\W.cell? ⟨b,5,none⟩=some (.slice (some pa) n c)/\W.cell? ⟨b,6,none⟩=some vn/\W.cell? pa=some v0):=fun W hb=>⟨(Q.cells hb).1,(Q.cells hb).2.1,(Q.cells hb).2.2 _ (by rw[hc];rfl),by rw[<-hv0];obtain⟨_,e,_,x⟩:=(Q.ks.below hb).get hk0;cases e;simpa [Addr.add] using x⟩
 have P0:Hid (Ps w0 vb T w/\Kq w0.heap.size w w):=⟨h,Kq.refl _ _⟩
 obtain⟨x0,x5,x6,y0⟩:=cel.out _ h.pg.bel
 rw[hv]
 rw[hc]at hmt⊢
 simp only[ptT]at hmt⊢
 have has:=fun w=>asP5 b w
 unfold mgV mgA at *
 generalize tabB t=tb at *
 have HQ:Hid (NdQ w0 L N b vn (some pa) n c):=Q
 clear h Q hv hk
 go_enter Tryz.func92,Tryz.ntmps92
 go_wp2_with (first|(go_at_call 233;refine(kh _).mono ?_;rintro e w' ⟨rfl,hw'⟩;subst w')|(go_at_call 131;fail))
 refine(S0.out _ _ P0.out.1).mono ?_
 rintro e u0 ⟨rfl,qq,kk⟩
 have P1:Hid (Ps w0 vb (T++(⟨#[40]⟩++sepB (prsL N)++⟨#[41]⟩)) u0/\Kq w0.heap.size w u0):=⟨qq,P0.out.2.trans kk⟩
 obtain⟨x0,x5,x6,y0⟩:=cel.out _ qq.pg.bel
 clear qq kk
 go_wp2_with (first|(go_at_call 233;refine(kh _).mono ?_;rintro e w' ⟨rfl,hw'⟩;subst w')|(go_at_call 232;fail))
 refine(S1.out _ _ P1.out.1).mono ?_
 rintro e u1 ⟨rfl,qq,kk⟩
 have P2:Hid (Ps w0 vb (T++(⟨#[40]⟩++sepB (prsL N)++⟨#[41]⟩)++(⟨#[32]⟩)) u1/\Kq w0.heap.size w u1):=⟨qq,P1.out.2.trans kk⟩
 obtain⟨x0,x5,x6,y0⟩:=cel.out _ qq.pg.bel
 clear qq kk
 go_wp2_with (first|(go_at_call 233;refine(kh _).mono ?_;rintro e w' ⟨rfl,hw'⟩;subst w')|(go_at_call 67;fail))
 refine(S2.out _ _ P2.out.1).mono ?_
 rintro e u2 ⟨rfl,qq,kk⟩
 have P3:Hid (Ps w0 vb (T++(⟨#[40]⟩++sepB (prsL N)++⟨#[41]⟩)++(⟨#[32]⟩)++(E0)) u2/\Kq w0.heap.size w u2):=⟨qq,P2.out.2.trans kk⟩
 obtain⟨x0,x5,x6,y0⟩:=cel.out _ qq.pg.bel
 clear qq kk
 go_wp2_with (first|(go_at_call 233;refine(kh _).mono ?_;rintro e w' ⟨rfl,hw'⟩;subst w'))
 go_end0
 refine⟨rfl,?_,P3.out.2⟩
 have:=P3.out.1
 simpa only[ByteArray.append_assoc] using this
end Go.Proofs.YtelfejiiabbpfaaGreatDoor
namespace Go.Proofs.YtelfejiiabbpfaaGreatDoor
open Go.RowKit
structure Mb where
 N:Nd
 vn:Value
 vk:Value
def cMb (x:Mb):List Value:=[.int .i64 x.N.k,.int .i64 x.N.f,.int .i64 x.N.t,.int .i64 x.N.l,.int .i64 x.N.op,.int .i64 x.N.n,.string x.N.x,x.vn,x.vk]
def cMbs (l:List Mb):List Value:=l.flatMap cMb
theorem cMbs_cons (a:Mb) (r:List Mb):cMbs (a::r)=cMb a++cMbs r:=by simp[cMbs]
theorem cMbs_len (l:List Mb):(cMbs l).length=l.length*9:=by
 induction l with
 |nil=>rfl
 |cons a r ih=>
  have la:(cMb a).length=9:=rfl
  rw[cMbs_cons,List.length_append,ih,la,List.length_cons];omega
theorem cMbs_at (ts:List Mb) (i j:Nat) (T:Mb) (hT:ts[i]?=some T) (hj:j<9):(cMbs ts)[i*9+j]?=(cMb T)[j]?:=by
 induction ts generalizing i with
 |nil=>simp at hT
 |cons a r ih=>
  have la:(cMb a).length=9:=rfl
  rw[cMbs_cons]
  cases i with
  |zero=>simp at hT;subst hT;rw[List.getElem?_append_left (by omega)];congr 1;omega
  |succ i=>
   rw[List.getElem?_append_right (by omega),la,show(i+1)*9+j-9=i*9+j by omega]
   exact ih i (by simpa using hT)
def Apart (vs:List Value):Prop:=∀(i j:Nat) (a b:Value),i≠j->vs[i]?=some a->vs[j]?=some b->a.ownBlock=none\/a.ownBlock≠b.ownBlock
structure MbOwn (W:World) (lo hi:Nat) (x:Mb):Prop where
 on:W.ownsRow lo 9 1 x.vn x.N.nm.length (x.N.nm.map Value.string)
 ok:W.ownsRow lo 3 1 x.vk x.N.ks.length (x.N.ks.map (Value.int .i64))
 hn:∀g,x.vn.ownBlock=some g->g<hi
 hk:∀g,x.vk.ownBlock=some g->g<hi
structure MbsOwn (W:World) (lo hi:Nat) (v:Value) (L:List Mb):Prop where
 row:W.ownsRow lo 44 9 v L.length (cMbs L)
 hh:∀g,v.ownBlock=some g->g<hi
 each:∀x∈L,MbOwn W lo hi x
 dn:Apart (L.map Mb.vn)
 dk:Apart (L.map Mb.vk)
theorem MbOwn.below {W W':World}{lo hi:Nat}{x:Mb}(h:MbOwn W lo hi x) (hb:Below W.heap.size W W'):MbOwn W' lo hi x:=⟨own_keep h.on hb,own_keep h.ok hb,h.hn,h.hk⟩
theorem MbsOwn.below {W W':World}{lo hi:Nat}{v:Value}{L:List Mb}(h:MbsOwn W lo hi v L) (hb:Below W.heap.size W W'):MbsOwn W' lo hi v L:=
 ⟨own_keep h.row hb,h.hh,fun x hx=>(h.each x hx).below hb,h.dn,h.dk⟩
structure Mid (lo hi:Nat) (w w':World):Prop where
 os:w'.os=w.os
 tape:w'.tape=w.tape
 output:w'.output=w.output
 size:w.heap.size<=w'.heap.size
 block:∀k,k<w.heap.size->(k<lo\/hi<=k)->w'.heap[k]?=w.heap[k]?
theorem Mid.refl (lo hi:Nat) (w:World):Mid lo hi w w:=⟨rfl,rfl,rfl,Nat.le_refl _,fun _ _ _=>rfl⟩
theorem Mid.trans {lo hi:Nat}{x y z:World}(h:Mid lo hi x y) (k:Mid lo hi y z):Mid lo hi x z:=
 ⟨k.os.trans h.os,k.tape.trans h.tape,k.output.trans h.output,Nat.le_trans h.size k.size,fun i hi hne=>(k.block i (Nat.lt_of_lt_of_le hi h.size) hne).trans (h.block i hi hne)⟩
theorem Mid.kept {lo hi:Nat}{w w':World}(h:Mid lo hi w w') {base e size n:Nat}{v:Value}{xs:List Value}(o:w.ownsRow base e size v n xs) (hb:hi<=base):w'.ownsRow base e size v n xs:=by
 obtain⟨h1,h2⟩:=o
 refine⟨h1,?_⟩
 rcases h2 with h2|⟨g,cap,cur,hv,hg,hc,rest⟩
 ·exact .inl h2
 ·exact .inr ⟨g,cap,cur,hv,hg,(h.block g (lt_of_block hc) (.inr (by omega))).trans hc,rest⟩
theorem Mid.bel {lo hi base:Nat}{w0 w w':World}(h:Mid lo hi w w') (hb:Below base w0 w) (hs:base<=lo) (hw:base<=w.heap.size):Below base w0 w':=
 ⟨h.os.trans hb.os,h.tape.trans hb.tape,h.output.trans hb.output,Nat.le_trans hb.size h.size,fun k hk=>(h.block k (by omega) (.inl (by omega))).trans (hb.block k hk)⟩
theorem own_strs2 {W:World}{base:Nat}{v:Value}{l:List ByteArray}(h:W.ownsRow base 9 1 v l.length (l.map Value.string)):StrsAt W v l:=by
 rcases own_zero_or h with⟨hn,rfl⟩|⟨g,cap,rfl⟩
 ·exact .inl ⟨List.eq_nil_of_length_eq_zero hn,_,_,rfl⟩
 ·exact own_strs h rfl
theorem own_ints2 {W:World}{base:Nat}{v:Value}{l:List Int}(h:W.ownsRow base 3 1 v l.length (l.map (Value.int .i64))):IntsAt W v l:=by
 rcases own_zero_or h with⟨hn,rfl⟩|⟨g,cap,rfl⟩
 ·exact .inl ⟨List.eq_nil_of_length_eq_zero hn,_,_,rfl⟩
 ·exact own_ints h rfl
theorem row_cells {W:World}{lo g n cap:Nat}{L:List Mb}(h:W.ownsRow lo 44 9 (.slice (some ⟨g,0,none⟩) n cap) n (cMbs L)) {i:Nat}{x:Mb}(hx:L[i]?=some x):
  W.cell? ⟨g,i*9,none⟩=some (.int .i64 x.N.k)/\W.cell? ⟨g,i*9+1,none⟩=some (.int .i64 x.N.f)/\W.cell? ⟨g,i*9+2,none⟩=some (.int .i64 x.N.t)/\W.cell? ⟨g,i*9+3,none⟩=some (.int .i64 x.N.l)/\W.cell? ⟨g,i*9+4,none⟩=some (.int .i64 x.N.op)/\W.cell? ⟨g,i*9+5,none⟩=some (.int .i64 x.N.n)/\W.cell? ⟨g,i*9+6,none⟩=some (.string x.N.x)/\W.cell? ⟨g,i*9+7,none⟩=some x.vn/\W.cell? ⟨g,i*9+8,none⟩=some x.vk:=by
 have hlen:n*9=L.length*9:=by have:=h.1;rw[cMbs_len]at this;omega
 have hi:i<L.length:=by rcases Nat.lt_or_ge i L.length with g|g;exact g;rw[List.getElem?_eq_none g]at hx;cases hx
 have c:∀j,j<9->W.cell? ⟨g,i*9+j,none⟩=(cMb x)[j]?:=fun j hj=>by
  rw[h.cellAt (i*9+j) (by omega),cMbs_at L i j x hx hj]
 exact⟨c 0 (by omega),c 1 (by omega),c 2 (by omega),c 3 (by omega),c 4 (by omega),c 5 (by omega),c 6 (by omega),c 7 (by omega),c 8 (by omega)⟩
theorem MbsOwn.nds {W:World}{lo hi:Nat}{v:Value}{L:List Mb}(h:MbsOwn W lo hi v L):NdsAt W v (L.map Mb.N):=by
 rcases own_zero_or h.row with⟨hn,rfl⟩|⟨g,cap,rfl⟩
 ·exact .inl ⟨by rw[List.eq_nil_of_length_eq_zero hn];rfl,_,_,rfl⟩
 ·refine .inr ⟨⟨g,0,none⟩,cap,by rw[List.length_map],fun i N hN=>?_⟩
  rw[List.getElem?_map]at hN
  cases hx:L[i]? with
  |none=>rw[hx]at hN;cases hN
  |some x=>
   rw[hx]at hN
   obtain rfl:=Option.some.inj hN
   rw[add_zero9]
   obtain⟨c0,c1,c2,c3,c4,c5,c6,c7,c8⟩:=row_cells h.row hx
   have hm:=h.each x (List.mem_of_getElem? hx)
   exact⟨x.vn,x.vk,c0,c1,c2,c3,c4,c5,c6,c7,c8,own_strs2 hm.on,own_ints2 hm.ok⟩
def nxt (K:Nat) (N:Nd):Nat:=K+7+N.nm.length+N.ks.length
def cnt:Nat->List Nd->Nat
 |K,[]=>K
 |K,N::r=>cnt (nxt K N) r
theorem MbsOwn.put {w w4:World}{lo hi g n cap:Nat}{A B:List Mb}{x y:Mb}{k:Nat}(hA:A.length=k) (h:MbsOwn w lo hi (.slice (some ⟨g,0,none⟩) n cap) (A++x::B)) (hr:w4.ownsRow lo 44 9 (.slice (some ⟨g,0,none⟩) n cap) n (cMbs (A++y::B)))
  (hn:n=(A++x::B).length) (hy:MbOwn w4 lo hi y) (hvn:y.vn=x.vn) (hvk:y.vk=x.vk) (ho:∀z,z∈A\/z∈B->MbOwn w4 lo hi z):MbsOwn w4 lo hi (.slice (some ⟨g,0,none⟩) n cap) (A++y::B):=by
 refine⟨?_,h.hh,?_,?_,?_⟩
 ·rw[show(A++y::B).length=n by rw[hn];simp];exact hr
 ·intro z hz
  rcases List.mem_append.1 hz with hz|hz
  ·exact ho z (.inl hz)
  ·rcases List.mem_cons.1 hz with rfl|hz
   ·exact hy
   ·exact ho z (.inr hz)
 ·have:=h.dn;rw[List.map_append,List.map_cons]at this⊢;rw[hvn];exact this
 ·have:=h.dk;rw[List.map_append,List.map_cons]at this⊢;rw[hvk];exact this
theorem mem_sumS {l:List ByteArray}{s:ByteArray}(h:s∈l):s.size<=sumS l:=by
 induction l with
 |nil=>simp at h
 |cons a r ih=>
  rcases List.mem_cons.1 h with rfl|h
  ·simp[sumS]
  ·have:=ih h;simp[sumS];omega
theorem mem_sumN {l:List Nd}{N:Nd}(h:N∈l):bulkN N<=sumN l:=by
 induction l with
 |nil=>simp at h
 |cons a r ih=>
  rcases List.mem_cons.1 h with rfl|h
  ·simp[sumN]
  ·have:=ih h;simp[sumN];omega
theorem cnt_le (l:List Nd):∀K,cnt K l<=K+7*l.length+sumN l:=by
 induction l with
 |nil=>intro K;simp[cnt]
 |cons N r ih=>
  intro K
  have:=ih (nxt K N)
  simp only[cnt,sumN,List.length_cons]
  unfold nxt bulkN bulkS at *
  omega
structure Short (ns:List Nd):Prop where
 l:ns.length<=1048576
 n:∀N∈ns,N.nm.length<=1048576/\N.ks.length<=1048576
 a:∀N∈ns,N.nm.length<=1048576/\N.ks.length<=1048576/\N.x.size<=1048576/\∀s∈N.nm,s.size<=1048576
 c:cnt 1 ns<=40000000
theorem short_of {ns:List Nd}(h:bulkT ns<=1048576):Short ns:=by
 unfold bulkT at h
 have ha:∀N∈ns,N.nm.length<=1048576/\N.ks.length<=1048576/\N.x.size<=1048576/\∀s∈N.nm,s.size<=1048576:=fun N hN=>by
  have h1:=mem_sumN hN
  unfold bulkN bulkS at h1
  refine⟨by omega,by omega,by omega,fun s hs=>?_⟩
  have:=mem_sumS hs
  omega
 refine⟨by omega,fun N hN=>⟨(ha N hN).1,(ha N hN).2.1⟩,ha,?_⟩
 have:=cnt_le ns 1
 omega
end Go.Proofs.YtelfejiiabbpfaaGreatDoor
