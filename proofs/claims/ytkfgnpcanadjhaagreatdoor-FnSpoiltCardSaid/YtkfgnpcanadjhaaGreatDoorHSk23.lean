import Derived.Test.YtkfgnpcanadjhaaGreatDoorHSk19
import Derived.Test.YtkfgnpcanadjhaaGreatDoorHSk20
set_option linter.all false
set_option maxRecDepth 100000
set_option maxHeartbeats 25600000
namespace Go.Proofs.YtkfgnpcanadjhaaGreatDoor
open Go.RowKit Go.Maps Go.WideMaps
theorem aeD:(Tryz.prog.info? 205).map (fun i=>(i.zero,i.size,i.bytes))=some (some (.agg #[.int .i64 0,.int .i64 0,.int .i64 0,.int .i64 0,.int .i64 0,.string ⟨#[]⟩]),6,56):=by kernel_rfl
theorem E5{W f:World}{o:Obj}{base e size n:Nat}{v:Value}{xs:List Value}(j:W.ownsRow base e size v n xs)(i:(W.alloc o).grownBy f v.ownBlock){k:Nat}{cs:Array Value}{t:TypeId}{fr:Nat×Nat}(b:W.heap[k]?=some (.cells cs t fr))(ht:t≠e):f.heap[k]?=some (.cells cs t fr):=by
 refine(i.block k (by simp;have:=aw b;omega) (fun g=>?_)).trans ((eo _ _ _ (aw b)).trans b)
 have a:v.ownBlock=some k:=g.symm
 rcases j.2 with⟨c,_⟩|⟨h,l,m,c,_,d,_⟩
 ·rw[c]at a;simp[Value.ownBlock]at a
 ·rw[c]at a
  obtain rfl:h=k:=by simpa [Value.ownBlock] using a
  rw[b]at d
  simp only[fe,ia]at d
  exact ht d.2.1
theorem rl.app{W f:World}{o:Obj}{base mb:Nat}{C:List (Int×Int)}(b:rl W base mb C){g e size n:Nat}{v:Value}{xs:List Value}(d:W.ownsRow g e size v n xs)(c:(W.alloc o).grownBy f v.ownBlock)(k:180≠e)(l:222≠e):rl f base mb C:=by
 obtain⟨u,r,s,a⟩:=b.ex
 refine⟨⟨u,E5 d c r k,s,?_⟩,b.lo⟩
 rcases a with a|⟨j,h,i,q,p,m,t⟩
 ·exact .inl a
 ·exact .inr ⟨j,h,i,q,p,E5 d c m l,t⟩
theorem rl.other{W:World}{base mb b:Nat}{C:List (Int×Int)}(d:rl W base mb C){cs:Array Value}{t:TypeId}{fr:Nat×Nat}(s:W.heap[b]?=some (.cells cs t fr))(q:t≠180)(r:t≠222)(j:Nat)(v:Value):rl (W.setCell ⟨b,j,none⟩ v) base mb C:=by
 obtain⟨A,f,y,c⟩:=d.ex
 have h:∀{g:Nat}{l:Array Value}{i:TypeId}{o:Nat×Nat},W.heap[g]?=some (.cells l i o)->t≠i->g≠b:=fun a w n=>by
  subst n
  rw[s]at a
  simp only[fe,ia]at a
  exact w a.2.1
 refine⟨⟨A,(aK _ _ _ _ (h f q)).trans f,y,?_⟩,d.lo⟩
 rcases c with c|⟨p,k,m,x,u,e,z⟩
 ·exact .inl c
 ·exact .inr ⟨p,k,m,x,u,(aK _ _ _ _ (h e r)).trans e,z⟩
theorem zk{W:World}{base e size n b:Nat}{v:Value}{xs:List Value}(a:W.ownsRow base e size v n xs)(c:∀g,v.ownBlock=some g->g<b)(j:Nat)(u:Value):(W.setCell ⟨b,j,none⟩ u).ownsRow base e size v n xs:=by
 refine a.kept (row:=some b) ⟨rfl,rfl,rfl,by simp[World.setCell],fun h f d=>aK _ _ _ _ (fun e=>d (by rw[e]))⟩ ?_
 cases hv:v.ownBlock with
 |none=>exact .inl rfl
 |some g=>exact .inr (fun e=>by have:=c g hv;obtain rfl:=bh e;omega)
structure GK (w:World) (base mb:Nat) (s:ByteArray) (R:List Tk×List Int×Int) (p:Nat) (st:List Int) (top:Int) (C:List (Int×Int)) (l:Int) (out:List Tk) (f:Nat) (vo:Value) (W:World):Prop where
 m:rl W base mb C
 sk:jE C top st
 o:Li st
 bl:Below base w W
 row:W.ownsRow base 205 6 vo out.length (xI out)
 eq:tF s f st p l out=R
 cl:2<=C.length/\C.length<=2+20*p
 ol:out.length<=p
 l0:1<=l/\l<=(p:Int)+1
theorem GK.below{w:World}{base mb:Nat}{s:ByteArray}{R:List Tk×List Int×Int}{p:Nat}{st:List Int}{e:Int}{C:List (Int×Int)}{l:Int}{d:List Tk}{f:Nat}{g:Value}{W c:World}(a:GK w base mb s R p st e C l d f g W)(b:Below W.heap.size W c)(h:base<=W.heap.size):GK w base mb s R p st e C l d f g c:=
 ⟨a.m.below b,a.sk,a.o,a.bl.trans (b.mono h),cF a.row b,a.eq,a.cl,a.ol,a.l0⟩
def E6(w:World)(base mb:Nat)(s:ByteArray)(R:List Tk×List Int×Int)(e:Ending)(c:World):Prop:=
 ∃(a:Option Addr) (d:Nat) (f:Int) (b:List (Int×Int)),e= .returned (.tuple #[.slice a R.1.length d,.int .i64 f,.int .i64 R.2.2])/\c.ownsRow base 205 6 (.slice a R.1.length d) R.1.length (xI R.1)/\rl c base mb b/\jE b f R.2.1/\Li R.2.1/\Below base w c/\2<=b.length/\b.length<=2000000
theorem GL(w:World)(base mb:Nat)(s:ByteArray)(cq:rl w base mb [])(dk:s.size<=70000):
  Calls Tryz.prog 160 #[.pointer (some ⟨mb,0,none⟩),.string s] w (E6 w base mb s (js s)):=by
 unfold js
 obtain⟨K,cr⟩:=aE (tF s (s.size+1) [100,6] (blk s (s.size+1) 0) 1 [])
 rw[cr]
 have fB:base<=w.heap.size:=by obtain⟨v,fn,_⟩:=cq.ex;have:=aw fn;have:=cq.lo;omega
 have e3:=J8 w base mb cq
 have cw:=fun w=>pD s (by omega) 0 (aJ _) w
 have el:=jH s (s.size+1) 0 (aJ _)
 obtain⟨eg,ei⟩:=aE (blk s (s.size+1) 0)
 rw[ei]at cr cw el
 rw[show(((0:Nat):Int))=0 from rfl]at cw
 have ed:=aj cr
 clear cr cq ei
 go_in
 go_wp2_with fail
 refine e3.mono ?_
 rintro y w1 ⟨rfl,e4,f2,g⟩
 clear e3
 have e5:GK w base mb s K eg [100,6] 1 [(6, -1),(100,0)] 1 [] (s.size+1) (.slice none 0 0) w1:=by
  refine⟨e4,⟨1,0,rfl,rfl,0, -1,rfl,rfl,rfl⟩,?_,g,dy _ _ _ _,ed,⟨by simp,by simp⟩,by simp,⟨by omega,by omega⟩⟩
  intro h a5
  simp at a5
  omega
 have ef:=aj e5
 clear e5 e4 f2 g
 go_wp2_with (go_at_call 194;refine dj (cw _) ?_)
 clear cw
 obtain⟨dz,d0,d1,d2,d3⟩:=dD aeD
 go_loopw [7,8,9,10] (fun gt e7 gs ea wr=>∃(a:Nat) (f:List Int) (t:Int) (n:List (Int×Int)) (d:Int) (z:List Tk) (r:Nat),ea= .int .i64 a/\gs= .int .i64 d/\gt= .int .i64 t/\(∃fa fc,∃f1:Nat,e7= .slice fa f1 fc)/\a<=s.size/\s.size<a+r/\Hid (GK w base mb s K a f t n d z r e7 wr)) (fun _ _ _ ea _=>s.size+1-(intOf ea).toNat)
 case atStart=>exact⟨eg,_,1,_,1,[],s.size+1,rfl,rfl,rfl,⟨_,_,_,rfl⟩,el.2,by omega,ef⟩
 case round=>
  obtain⟨a,f,t,n,d,z,r,rfl,rfl,rfl,⟨cB,c1,mv,rfl⟩,hi,he,x⟩:=hrel
  clear ef ed
  obtain⟨r,rfl⟩:∃ba,r=ba+1:=⟨r-1,by omega⟩
  obtain⟨g7,g8,fg⟩:=bG x.row
  cases fg
  have c:=x.eq
  rw[tF]at c
  have em:=ch fB x.bl.size
  have eF:=x.ol
  by_cases bF:a<s.size
  ·rw[aa (by omega)]at c
   have fz:(a:Int)<(s.size:Int):=by omega
   have d5:=fun w=>Gy s dk a bF w
   have c5:=GA s a
   obtain⟨e,c4⟩:=aE (tE s a)
   rw[c4]at d5 c c5
   have cn:=aj c4
   obtain⟨mv,a3⟩:=aE z.length
   have B:=aj a3
   rw[a3]at eF⊢
   have bn:Hid ((if e=7 then(if(dF f 5).2=true then tF s r (dF f 5).1 (blk s (s.size+1) (fh s a).a) (d+1) (z++[⟨5,(a:Nat),((fh s a).a:Nat),d,(fh s a).n,(fh s a).x⟩]) else tF s r f (blk s (s.size+1) (fh s a).a) (d+1) z)
    else if(Gz f e).2=true then(if(fh s a).ok=true then tF s r (dF f e).1 (blk s (s.size+1) (fh s a).a) d (z++[⟨e,(a:Nat),((fh s a).a:Nat),d,(fh s a).n,(fh s a).x⟩]) else([],f,((fh s a).a:Nat)))
    else([],f,(wrongF s a (Ev f):Nat)))=K):=c
   clear c c4 a3
   go_wp2_with fail
   refine(d5 _).mono ?_
   rintro y w1 ⟨k,i,h,eh,rfl,e2,c7⟩
   have cp:=x.below c7 em
   have f0:=c7.size
   have ak:=aj e2
   clear d5 c7 x e2
   obtain⟨g,c8⟩:=aE w1.heap.size
   go_upto_region 8 with fail
   have a0:fy g (w1.alloc (.cells #[.int .i64 e,.int .i64 a,.int .i64 k,.int .i64 d,.int .i64 i,.string h] 205)) e a k d i h:=by rw[<-c8];exact ay w1 _
   have b:Hid (GK w base mb s K a f t n d z (r+1) (.slice cB z.length c1) (w1.alloc (.cells #[.int .i64 e,.int .i64 a,.int .i64 k,.int .i64 d,.int .i64 i,.string h] 205))):=cp.below (dh w1 _) (by omega)
   have cu:∀ba,(Value.slice cB mv c1).ownBlock=some ba->ba<g:=fun ba fv=>by
    have e1:=cp.row
    rw[B.out]at e1
    have:=(e1.lt ba fv).2
    omega
   have ct:g≠mb:=by
    obtain⟨eb,I,_⟩:=cp.m.ex
    have:=aw I
    omega
   have fA:(w1.alloc (.cells #[.int .i64 e,.int .i64 a,.int .i64 k,.int .i64 d,.int .i64 i,.string h] 205)).heap.size=g+1:=by rw[db,c8]
   generalize w1.alloc (.cells #[.int .i64 e,.int .i64 a,.int .i64 k,.int .i64 d,.int .i64 i,.string h] 205)=cz at a0 b fA⊢
   have hc:=b.cl.2
   have hd:=b.cl.1
   have hb:base<=g:=by omega
   have hh:=b.l0
   obtain⟨gd,ge,gf,gg,gm,gp,gr⟩:=cE a0
   clear cp c8 f0 em
   by_cases c3:e=7
   ·subst c3
    obtain⟨dn,fx⟩:=abn s a cn.out
    obtain⟨bc,dg,a4,b0,a5,df⟩:=ak.yes dn
    clear dg df
    have ad:=jB s a bF dn
    have c:=bn.out
    rw[ab rfl,<-b0,<-a5]at c
    obtain⟨A,bw⟩:=aE ((fh s a).a)
    rw[bw]at c a4 ad
    subst bc
    have ao:=fun w=>pD s (by omega) A (by omega) w
    have bb:=jH s (s.size+1) A (by omega)
    obtain⟨bo,bx⟩:=aE (blk s (s.size+1) A)
    rw[bx]at c ao bb
    rw[<-a4]at ao c
    have b4:=xG b.o (show(1:Int)<=5 by omega) (by omega)
    have l:=tB cz base mb n f t 5 b.m b.sk b.o (by omega) (by omega) (by omega)
    obtain⟨br,bA⟩:=aE (dF f 5)
    rw[bA]at l c b4
    unfold qs at l
    obtain⟨d8,b2⟩:=aE br.2
    rw[b2]at l c
    have fo:a<A/\A<=s.size:=⟨ad.1,ad.2.1⟩
    clear b0 a5 bA b2 dn fx ad bw bx cn ak bn a4
    go_wp2_with fail
    refine l.mono ?_
    rintro y m ⟨ca,D,rfl,G,ap,a2,p,F⟩
    cases d8 with
    |false=>
     rw[aa (by simp)]at c
     have bf:=aj c
     have q:=p.blk a0 (by decide) ct
     obtain⟨eb,I,_⟩:=b.m.ex
     have row3:=p.row I b.row (by decide) (by decide)
     have e8:Hid (GK w base mb s K bo f t (n++D) (d+1) z r (.slice cB mv c1) m):=
      ⟨G,b.sk.app D,b.o,b.bl.trans F,by rw[<-B.out]at *;exact row3,bf,⟨by rw[aD];omega,by rw[aD];omega⟩,by rw[B.out];omega,⟨by omega,by omega⟩⟩
     obtain⟨cb,cc,cd,ce,cf,cg,ck⟩:=cE q
     clear l c a0 q row3 I G ap p F b gd ge gf gg gm gp gr
     go_wp2_with (go_at_call 194;refine dj (ao _) ?_)
     exact⟨⟨bo,f,t,n++D,d+1,z,r,rfl,by go_num,rfl,⟨_,_,_,rfl⟩,bb.2,by omega,e8⟩,by simp[intOf];omega⟩
    |true=>
     rw[ab rfl]at c
     have bf:=aj c
     clear c
     have q:fy g m 7 a k d i h:=p.blk a0 (by decide) ct
     obtain⟨eb,I,_⟩:=b.m.ex
     have row3:=p.row I b.row (by decide) (by decide)
     rw[B.out]at row3
     have bt:=b.bl.trans F
     have E:fy g (m.setCell ⟨g,0,none⟩ (.int .i64 5)) 5 a k d i h:=q.setKind 5
     have b8:=G.other (j:=0) (v:= .int .i64 5) (show m.heap[g]?=some (.cells _ _ _) from q) (by decide) (by decide)
     have a7:=zk (j:=0) (u:= .int .i64 5) row3 cu
     have bv:Below base w (m.setCell ⟨g,0,none⟩ (.int .i64 5)):=bt.setCell (by simp;omega) _
     have bd:=eJ ap a2
     obtain⟨cb,cc,cd,ce,cf,cg,ck⟩:=cE q
     clear l q G row3 bt I ap a2 p F
     go_upto_region 24 with fail
     generalize m.setCell ⟨g,0,none⟩ (.int .i64 5)=a1 at E b8 a7 bv⊢
     obtain⟨gz,g0,g1,g2,g3,g4,g5⟩:=cE E
     have C:=aj a7
     have cx:=aj E
     have dd:g<a1.heap.size:=aw E
     clear E a7 cb cc cd ce cf cg ck
     go_wp2_with (first|(at_builtin;refine qE _ rfl _ _ 127 rfl base 205 dz _ 6 56 Tryz.underlying127 d0 d1 d2 d3 rfl (by decide) _ _ _ rfl (C.alloc _) ⟨a1.heap.size,0,none⟩ 1 1 [.int .i64 5,.int .i64 a,.int .i64 k,.int .i64 d,.int .i64 i,.string h] rfl rfl (World.news_of_block (cs:=#[.int .i64 5,.int .i64 a,.int .i64 k,.int .i64 d,.int .i64 i,.string h]) (fr:=(0,0)) (ay a1 _)) (by intro u an;simp at an;rcases an with rfl|rfl|rfl|rfl|rfl|rfl<;>rfl) (by unfold maxLen;omega) (by omega) (by simp;omega) ?_;intro e6 a8 al H ev;obtain⟨c2,c0,rfl⟩:=ownsRow_succ al;have cy:fy g a8 5 a k d i h:=(H.block g (by simp;omega) (fun y=>by have:=cu g y.symm;omega)).trans ((eo _ _ _ dd).trans cx);obtain⟨f3,f4,f5,f6,f7,f8,f9⟩:=cE cy)|(go_at_call 194;refine dj (ao _) ?_))
     have b9:=b8.app C H (by decide) (by decide)
     have bs:Below base w a8:=(bv.alloc (by omega) _).grown H (by simp;omega) (fun b5 bE=>(C.out.lt b5 bE).1)
     refine⟨⟨bo,br.1,ca,n++D,d+1,z++[⟨5,(a:Nat),k,d,i,h⟩],r,rfl,by go_num,rfl,⟨_,_,_,rfl⟩,bb.2,by omega,⟨b9,bd.1,?_,bs,?_,?_,?_,?_,?_⟩⟩,by simp[intOf];omega⟩
     ·exact b4
     ·rw[aD,B.out,xJ];exact al
     ·exact bf
     ·have:=b.cl;have:=bd.2;rw[aD];omega
     ·rw[aD,B.out];simp;omega
     ·have:=b.l0;omega
   ·have c:=bn.out
    rw[aa c3]at c
    have g9:(e==7)=false:=beq_eq_false_iff_ne.2 c3
    by_cases fk:e=0
    ·subst fk
     rw[show Gz f 0=(f,false) from rfl,aa (by simp)]at c
     have af:=aj c
     clear c bn ak cn
     obtain⟨ar,L⟩:=aE (Ev f)
     have fu:ar.length<=78:=by rw[<-L];exact rm f 78
     have a6:=Ip cz base mb n f t b.m b.sk b.o (by omega) (by omega)
     rw[L]at a6
     have J:Hid ((([]:List Tk),f,((wrongF s a ar:Nat):Int))=K):=by rw[<-L];exact af
     clear L
     go_wp2_with fail
     refine a6.mono ?_
     rintro y ec ⟨fb,ff,rfl,d9,d7,d4,cI⟩
     have d6:=vG ec s a _ ar (rj d9) (by omega) dk bF
     clear a6
     go_wp2_with (go_at_call 195;refine d6.mono ?_;rintro y gu ⟨rfl,bD⟩)
     go_ret3
     refine⟨none,0,t,n,?_,?_,d7.below bD,?_,?_,?_,?_,?_⟩
     ·rw[<-J.out];rfl
     ·rw[<-J.out];exact dy _ _ _ _
     ·rw[<-J.out];exact b.sk
     ·rw[<-J.out];exact b.o
     ·exact(b.bl.trans cI).trans (bD.mono (by have:=d4.size;first|omega|(have:=p.size;omega)))
     ·have:=b.cl;omega
     ·have:=b.cl;omega
    ·have fq:0<e:=by omega
     have es:Gz f e=dF f e:=by unfold Gz;rw[ab fq]
     rw[es]at c
     have b4:=xG b.o (show(1:Int)<=e by omega) c5.2
     have l:=tB cz base mb n f t e b.m b.sk b.o (by omega) c5.2 (by omega)
     obtain⟨br,bA⟩:=aE (dF f e)
     rw[bA]at l c b4
     unfold qs at l
     obtain⟨d8,b2⟩:=aE br.2
     rw[b2]at l c
     clear bA b2 es bn cn
     cases d8 with
     |false=>
      rw[aa (by simp)]at c
      have af:=aj c
      clear c ak
      go_wp2_with fail
      refine l.mono ?_
      rintro y m ⟨ca,D,rfl,G,ap,a2,p,F⟩
      have q:fy g m e a k d i h:=p.blk a0 (by decide) ct
      obtain⟨cb,cc,cd,ce,cf,cg,ck⟩:=cE q
      clear l
      obtain⟨ar,L⟩:=aE (Ev f)
      have fu:ar.length<=78:=by rw[<-L];exact rm f 78
      have a6:=Ip m base mb (n++D) f t G (b.sk.app D) b.o (by rw[aD];omega) (by rw[aD];omega)
      rw[L]at a6
      have J:Hid ((([]:List Tk),f,((wrongF s a ar:Nat):Int))=K):=by rw[<-L];exact af
      clear L
      go_wp2_with fail
      refine a6.mono ?_
      rintro y ec ⟨fb,ff,rfl,d9,d7,d4,cI⟩
      have d6:=vG ec s a _ ar (rj d9) (by omega) dk bF
      clear a6
      go_wp2_with (go_at_call 195;refine d6.mono ?_;rintro y gu ⟨rfl,bD⟩)
      go_ret3
      refine⟨none,0,t,n++D,?_,?_,d7.below bD,?_,?_,?_,?_,?_⟩
      ·rw[<-J.out];rfl
      ·rw[<-J.out];exact dy _ _ _ _
      ·rw[<-J.out];exact(b.sk.app D)
      ·rw[<-J.out];exact b.o
      ·exact((b.bl.trans F).trans cI).trans (bD.mono (by have:=d4.size;first|omega|(have:=p.size;omega)))
      ·have:=b.cl;rw[aD];omega
      ·have:=b.cl;rw[aD];omega
     |true=>
      rw[ab rfl]at c
      cases hokI:(fh s a).ok with
      |false=>
       rw[hokI,aa (by simp)]at c
       have bc:=ak.no hokI
       have ha:¬eh<0:=by omega
       have af:Hid ((([]:List Tk),f,eh)=K):=by rw[bc];exact c
       clear c ak bc hokI
       go_wp2_with fail
       refine l.mono ?_
       rintro y m ⟨ca,D,rfl,G,ap,a2,p,F⟩
       clear l
       go_wp2_with fail
       go_ret3
       refine⟨none,0,t,n++D,?_,?_,G,?_,?_,b.bl.trans F,?_,?_⟩
       ·rw[<-af.out];rfl
       ·rw[<-af.out];exact dy _ _ _ _
       ·rw[<-af.out];exact b.sk.app D
       ·rw[<-af.out];exact b.o
       ·rw[aD];omega
       ·rw[aD];omega
      |true=>
       rw[hokI,ab rfl]at c
       obtain⟨bc,dg,a4,b0,a5,df⟩:=ak.yes hokI
       clear dg df
       have ad:=jB s a bF hokI
       rw[<-b0,<-a5]at c
       obtain⟨A,bw⟩:=aE ((fh s a).a)
       rw[bw]at c a4 ad
       subst bc
       have ao:=fun w=>pD s (by omega) A (by omega) w
       have bb:=jH s (s.size+1) A (by omega)
       obtain⟨bo,bx⟩:=aE (blk s (s.size+1) A)
       rw[bx]at c ao bb
       rw[<-a4]at ao c
       have fo:a<A/\A<=s.size:=⟨ad.1,ad.2.1⟩
       have bf:=aj c
       clear c b0 a5 ad bw bx ak a4 hokI
       go_wp2_with fail
       refine l.mono ?_
       rintro y m ⟨ca,D,rfl,G,ap,a2,p,F⟩
       have q:fy g m e a k d i h:=p.blk a0 (by decide) ct
       obtain⟨eb,I,_⟩:=b.m.ex
       have row3:=p.row I b.row (by decide) (by decide)
       rw[B.out]at row3
       have bt:=b.bl.trans F
       have E:fy g (m.setCell ⟨g,0,none⟩ (.int .i64 e)) e a k d i h:=q.setKind e
       have b8:=G.other (j:=0) (v:= .int .i64 e) (show m.heap[g]?=some (.cells _ _ _) from q) (by decide) (by decide)
       have a7:=zk (j:=0) (u:= .int .i64 e) row3 cu
       have bv:Below base w (m.setCell ⟨g,0,none⟩ (.int .i64 e)):=bt.setCell (by simp;omega) _
       have bd:=eJ ap a2
       obtain⟨cb,cc,cd,ce,cf,cg,ck⟩:=cE q
       clear l q G row3 bt I ap a2 p F
       go_upto_region 24 with fail
       generalize m.setCell ⟨g,0,none⟩ (.int .i64 e)=a1 at E b8 a7 bv⊢
       obtain⟨gz,g0,g1,g2,g3,g4,g5⟩:=cE E
       have C:=aj a7
       have cx:=aj E
       have dd:g<a1.heap.size:=aw E
       clear E a7 cb cc cd ce cf cg ck
       go_wp2_with (first|(at_builtin;refine qE _ rfl _ _ 127 rfl base 205 dz _ 6 56 Tryz.underlying127 d0 d1 d2 d3 rfl (by decide) _ _ _ rfl (C.alloc _) ⟨a1.heap.size,0,none⟩ 1 1 [.int .i64 e,.int .i64 a,.int .i64 k,.int .i64 d,.int .i64 i,.string h] rfl rfl (World.news_of_block (cs:=#[.int .i64 e,.int .i64 a,.int .i64 k,.int .i64 d,.int .i64 i,.string h]) (fr:=(0,0)) (ay a1 _)) (by intro u an;simp at an;rcases an with rfl|rfl|rfl|rfl|rfl|rfl<;>rfl) (by unfold maxLen;omega) (by omega) (by simp;omega) ?_;intro e6 a8 al H ev;obtain⟨c2,c0,rfl⟩:=ownsRow_succ al;have cy:fy g a8 e a k d i h:=(H.block g (by simp;omega) (fun y=>by have:=cu g y.symm;omega)).trans ((eo _ _ _ dd).trans cx);obtain⟨f3,f4,f5,f6,f7,f8,f9⟩:=cE cy)|(go_at_call 194;refine dj (ao _) ?_))
       have b9:=b8.app C H (by decide) (by decide)
       have bs:Below base w a8:=(bv.alloc (by omega) _).grown H (by simp;omega) (fun b5 bE=>(C.out.lt b5 bE).1)
       refine⟨⟨bo,br.1,ca,n++D,d,z++[⟨e,(a:Nat),k,d,i,h⟩],r,rfl,rfl,rfl,⟨_,_,_,rfl⟩,bb.2,by omega,⟨b9,bd.1,?_,bs,?_,?_,?_,?_,?_⟩⟩,by simp[intOf];omega⟩
       ·exact b4
       ·rw[aD,B.out,xJ];exact al
       ·exact bf
       ·have:=b.cl;have:=bd.2;rw[aD];omega
       ·rw[aD,B.out];simp;omega
       ·have:=b.l0;omega
  ·rw[ab (by omega)]at c
   have e0:a=s.size:=by omega
   obtain⟨mv,a3⟩:=aE z.length
   have B:=eJ a3 e0
   have ds:=x.row
   rw[a3]at eF ds⊢
   have C:=aj ds
   have bk:=aj c
   have fz:¬(a:Int)<(s.size:Int):=by omega
   clear c a3 ds e0
   go_wp2_with (at_builtin;refine qE _ rfl _ _ 127 rfl base 205 dz _ 6 56 Tryz.underlying127 d0 d1 d2 d3 rfl (by decide) _ _ _ rfl (C.alloc _) ⟨wr.heap.size,0,none⟩ 1 1 [.int .i64 6,.int .i64 s.size,.int .i64 s.size,.int .i64 d,.int .i64 0,.string ⟨#[]⟩] rfl rfl (World.news_of_block (cs:=#[.int .i64 6,.int .i64 s.size,.int .i64 s.size,.int .i64 d,.int .i64 0,.string ⟨#[]⟩]) (fr:=(0,0)) (ay wr _)) (by intro u an;simp at an;rcases an with rfl|rfl|rfl|rfl|rfl<;>rfl) (by unfold maxLen;omega) (by omega) (by simp;omega) ?_;intro e6 a8 al H ev;obtain⟨c2,c0,rfl⟩:=ownsRow_succ al)
   go_ret3
   have b9:=x.m.app C H (by decide) (by decide)
   have bs:Below base w a8:=(x.bl.alloc (by omega) _).grown H (by simp;omega) (fun b5 bE=>(C.out.lt b5 bE).1)
   have et:K.1.length=mv+1:=by rw[<-bk.out,aD,B.out.1];rfl
   refine⟨some ⟨c2,0,none⟩,c0,t,n,?_,?_,b9,?_,?_,bs,x.cl.1,?_⟩
   ·rw[et,<-bk.out];rfl
   ·rw[et,<-bk.out,xJ];exact al
   ·rw[<-bk.out];exact x.sk
   ·rw[<-bk.out];exact x.o
   ·have:=x.cl.2;omega
structure TkC (cs:Array Value) (T:Tk) (q:Nat) (l:Int):Prop where
 c0:cs[q*6]?=some (.int .i64 T.k)
 c1:cs[q*6+1]?=some (.int .i64 T.f)
 c2:cs[q*6+2]?=some (.int .i64 T.t)
 c3:cs[q*6+3]?=some (.int .i64 l)
 c4:cs[q*6+4]?=some (.int .i64 T.n)
 c5:cs[q*6+5]?=some (.string T.x)
 hl:T.k≠6->l=T.l
def TkR(cs:Array Value)(tk:Nat->Tk)(n:Nat):Prop:=∀q,q<n->∃l,TkC cs (tk q) q l
structure Pe where
 base:Nat
 pb:Nat
 tb:Nat
 cap:Nat
 n:Nat
 tk:Nat->Tk
abbrev pV(E:Pe):Value:= .pointer (some ⟨E.pb,0,none⟩)
abbrev s0:Value:= .slice none 0 0
abbrev Kv(k:Int)(T:Tk):Array Value:=#[.int .i64 k,.int .i64 T.f,.int .i64 T.t,.int .i64 T.l,.int .i64 T.n,.string T.x]
abbrev Bxs:=List (Nat×TypeId×Array Value)
abbrev Rws:=List (TypeId×Value×List Value)
abbrev Kw(t:TypeId):Prop:=t=9\/t=3
abbrev iv:Int->Value:= .int .i64
def Ac(s:Nat)(L c:List Mb)(R:Fo):Prop:=∃a,c=L++a/\a.map Mb.N=R.flat L.length/\∀x∈a,∀b,x.vn.ownBlock=some b\/x.vk.ownBlock=some b->s<=b
theorem Ac.nil(s:Nat)(L:List Mb):Ac s L L .nil:=⟨[],(dA L).symm,rfl,fun b a=>by cases a⟩
theorem Ac.len{s:Nat}{L b:List Mb}{R:Fo}(c:Ac s L b R):b.length=L.length+R.sz:=by
 obtain⟨d,rfl,a,_⟩:=c
 have a:=congrArg List.length a
 rw[aI,Fo.flat_len]at a
 rw[aD,a]
theorem Ac.app{s t:Nat}{L a b:List Mb}{x f:Fo}(d:Ac s L a x)(k:Ac t a b f)(ht:s<=t):Ac s L b (x.app f):=by
 have o:=d.len
 obtain⟨h,rfl,j,m⟩:=d
 obtain⟨i,rfl,l,n⟩:=k
 refine⟨h++i,by rw[cG],by rw[dm,j,l,Fo.flat_app,o],fun g hz c e=>?_⟩
 rcases List.mem_append.1 hz with hz|hz
 ·exact m g hz c e
 ·exact ch ht (n g hz c e)
theorem Ac.add{s:Nat}{L a:List Mb}{R:Fo}(h:Ac s L a R)(N:Nd){vn vk:Value}(i:N.ks=R.tops L.length)(f:∀g,vn.ownBlock=some g\/vk.ownBlock=some g->s<=g):Ac s L (a++[⟨N,vn,vk⟩]) (one {N with ks:=[]} R):=by
 obtain⟨c,rfl,d,e⟩:=h
 refine⟨c++[⟨N,vn,vk⟩],by rw[cG],by rw[dm,d,El,<-i];rfl,fun j hz g b=>?_⟩
 rcases List.mem_append.1 hz with hz|hz
 ·exact e j hz g b
 ·obtain rfl:=List.mem_singleton.1 hz
  exact f g b
def Ap(a b:TypeId×Value×List Value):Prop:=∀c,a.2.1.ownBlock=some c->b.2.1.ownBlock≠some c
def Ng(E:Pe)(w:World)(g:Nat):Prop:=∃v,w.cell? ⟨E.pb,2,none⟩=some v/\v.ownBlock=some g
abbrev pC(E:Pe)(i:Int)(v:Value):Obj:= .cells #[.slice (some ⟨E.tb,0,none⟩) E.n E.cap,.int .i64 i,v] 186 (0,0)
theorem I0{E:Pe}{w:World}{i:Int}{v:Value}{g:Nat}(a:w.heap[E.pb]?=some (pC E i v)):Ng E w g↔v.ownBlock=some g:=by
 have b:w.cell? ⟨E.pb,2,none⟩=some v:=by rw[au _ _ _ _ _ _ a];rfl
 exact⟨fun ⟨e,c,d⟩=>by rw[b]at c;cases c;exact d,fun a=>⟨v,b,a⟩⟩
structure Sq (E:Pe) (W:World) (G:Option Nat) (L:List Mb) (w:World) (i:Nat) (L1:List Mb) (D:Fo) (zs:List Int) (B:Bxs) (R:Rws):Prop where
 lo:E.base<=E.pb/\E.pb<W.heap.size/\E.tb<W.heap.size/\E.n<=1048576
 tks:∃cs fr,w.heap[E.tb]?=some (.cells cs 205 fr)/\TkR cs E.tk E.n
 row:∃v,w.heap[E.pb]?=some (pC E i v)/\w.ownsRow E.base 50 9 v L1.length (im L1)
 nb:(∀g,Ng E w g->G=some g\/W.heap.size<=g)/\∀p∈B,¬Ng E w p.1
 each:∀x∈L1,w.ownsRow E.base 9 1 x.vn x.N.nm.length (x.N.nm.map Value.string)/\w.ownsRow E.base 3 1 x.vk x.N.ks.length (x.N.ks.map iv)
 ac:Ac W.heap.size L L1 D
 tp:D.tops L.length=zs
 bl:Below E.base W w
 fz:∀k,k<W.heap.size->k≠E.pb->G≠some k->w.heap[k]?=W.heap[k]?
 bx:∀p∈B,W.heap.size<=p.1/\¬Kw p.2.1/\w.heap[p.1]?=some (.cells p.2.2 p.2.1 (0,0))
 bd:(B.map Prod.fst).Nodup
 rw:∀r∈R,Kw r.1/\w.ownsRow W.heap.size r.1 1 r.2.1 r.2.2.length r.2.2/\∀x∈L1,∀g,r.2.1.ownBlock=some g->x.vn.ownBlock≠some g/\x.vk.ownBlock≠some g
 rs:R.Pairwise Ap
section
variable {E : Pe} {W w w' : World} {G o : Option Nat} {L L1 L2 : List Mb} {i j b : Nat} {D X : Fo} {zs ys : List Int} {B : Bxs} {R R2 : Rws} {t : TypeId} {cs : Array Value} {v : Value} {xs : List Value}
theorem Kw.ne{t u:TypeId}(a:Kw t)(b:u=50\/u=186\/u=205):u≠t:=by
 rcases a with rfl|rfl<;>rcases b with rfl|rfl|rfl<;>decide
theorem Sq.to(S:Sq E W G L w i L1 D zs B R)(K:Below E.base w w')(h:∀k,k<w.heap.size->k≠E.pb->some k≠o->w'.heap[k]?=w.heap[k]?)(ak:∀v,w.heap[E.pb]?=some (pC E i v)->w'.heap[E.pb]?=some (pC E j v))
  (d:∀k,o=some k->W.heap.size<=k/\¬Ng E w k/\(∀x∈L1,x.vn.ownBlock≠some k/\x.vk.ownBlock≠some k)/\(∀p∈B,p.1≠k)/\∀r∈R,r.2.1.ownBlock≠some k):Sq E W G L w' j L1 D zs B R:=by
 obtain⟨H,I,n,al⟩:=S.tks
 obtain⟨v,e,p2⟩:=S.row
 have u:=S.lo
 have am:=S.bl.size
 have C:=ak v e
 have m:∀{y b size z:Nat}{q:Value}{F:List Value},w.ownsRow y b size q z F->b≠186->(∀k,o=some k->q.ownBlock≠some k)->w'.ownsRow y b size q z F:=fun s ad af=>mh s fun c t f g=>⟨h c g (fun b=>ee s e (eA ad) (b ▸ t)) fun b=>af c b.symm t,f⟩
 have A:∀k,k<W.heap.size->some k≠o:=fun k a b=>by have:=(d k b.symm).1;omega
 have b:∀c,Ng E w' c↔Ng E w c:=fun c=>(I0 C).trans (I0 e).symm
 exact⟨u,⟨H,I,(h _ (by omega) (fun b=>by rw[b,e]at n;cases n) (A _ u.2.2.1)).trans n,al⟩,⟨v,C,m p2 (by decide) fun k a=>fun b=>(d k a).2.1 ((I0 e).2 b)⟩,⟨fun c a=>S.nb.1 c ((b c).1 a),fun p a=>fun k=>S.nb.2 p a ((b _).1 k)⟩,fun x l=>⟨m (S.each x l).1 (by decide) fun k a=>((d k a).2.2.1 x l).1,m (S.each x l).2 (by decide) fun k a=>((d k a).2.2.1 x l).2⟩,S.ac,S.tp,S.bl.trans K,fun k f g J=>(h k (by omega) g (A k f)).trans (S.fz k f g J),fun p a=>⟨(S.bx p a).1,(S.bx p a).2.1,(h _ (aw (S.bx p a).2.2) (by have:=(S.bx p a).1;omega) fun b=>(d _ b.symm).2.2.2.1 p a rfl).trans (S.bx p a).2.2⟩,S.bd,fun r a=>⟨(S.rw r a).1,m (S.rw r a).2.1 ((S.rw r a).1.ne (.inr (.inl rfl))).symm fun k b=>(d k b).2.2.2.2 r a,(S.rw r a).2.2⟩,S.rs⟩
theorem Sq.low(S:Sq E W G L w i L1 D zs B R):E.base<=W.heap.size/\W.heap.size<=w.heap.size:=by have:=S.lo;have:=S.bl.size;omega
theorem Sq.below(S:Hid (Sq E W G L w i L1 D zs B R))(b:Below w.heap.size w w'):Hid (Sq E W G L w' i L1 D zs B R):=
 S.to (o:=none) (b.mono (by have:=S.low;omega)) (fun c a _ _=>b.block c a) (fun d a=>(b.block _ (aw a)).trans a) fun c a=>by cases a
theorem Sq.sub(S:Sq E W G L w i L1 D zs B R){a:Bxs}(c:∀p∈a,p∈B)(d:(a.map Prod.fst).Nodup):Sq E W G L w i L1 D zs a R:=
 {S with nb:=⟨S.nb.1,fun p b=>S.nb.2 p (c p b)⟩,bx:=fun p b=>S.bx p (c p b),bd:=d}
theorem Sq.less(S:Hid (Sq E W G L w i L1 D zs B R)){a:Rws}(b:a.Sublist R):Hid (Sq E W G L w i L1 D zs B a):={S.out with rw:=fun d c=>S.rw d (b.subset c),rs:=S.rs.sublist b}
theorem Sq.with(S:Sq E W G L w i L1 D zs B R)(e:w.heap[b]?=some (.cells cs t (0,0)))(a:W.heap.size<=b)(ht:¬Kw t)(g:¬Ng E w b)(f:∀p∈B,p.1≠b):Sq E W G L w i L1 D zs ((b,t,cs)::B) R:=
 {S with
  nb:=⟨S.nb.1,fun p h=>by rcases List.mem_cons.1 h with rfl|h;exact g;exact S.nb.2 p h⟩
  bx:=fun p h=>by rcases List.mem_cons.1 h with rfl|h;exact⟨a,ht,e⟩;exact S.bx p h
  bd:=by rw[jh,List.nodup_cons];exact⟨fun h=>by obtain⟨p,c,d⟩:=List.mem_map.1 h;exact f p c d,S.bd⟩}
theorem Sq.nlt(S:Sq E W G L w i L1 D zs B R){g:Nat}(d:Ng E w g):g<w.heap.size/\∃cs fr,w.heap[g]?=some (.cells cs 50 fr):=by
 obtain⟨k,f,p2⟩:=S.row
 have a:=(I0 f).1 d
 refine⟨(p2.lt g a).2,?_⟩
 rcases p2.2 with⟨b,_⟩|⟨c,h,j,b,_,e,_⟩
 ·rw[b]at a;simp[Value.ownBlock]at a
 ·rw[b]at a
  obtain rfl:c=g:=by simpa [Value.ownBlock] using a
  exact⟨_,_,e⟩
theorem Sq.box(S:Hid (Sq E W G L w i L1 D zs B R))(ht:¬Kw t:=by decide):Hid (Sq E W G L (w.alloc (.cells cs t)) i L1 D zs ((w.heap.size,t,cs)::B) R):=by
 have d:=Sq.below S (dh w (.cells cs t))
 obtain⟨e,b,p2⟩:=S.row
 exact d.with (ay w _) S.low.2 ht (fun a=>by have:=(p2.lt _ ((I0 (((dh w (.cells cs t)).block _ (aw b)).trans b)).1 a)).2;omega) fun c a=>by have:=aw (S.bx c a).2.2;omega
theorem Sq.set{q:Nat}{u:Value}(S:Hid (Sq E W G L w i L1 D zs ((b,t,cs)::B) R)):Hid (Sq E W G L (w.setCell ⟨b,q,none⟩ u) i L1 D zs ((b,t,cs.setIfInBounds q u)::B) R):=by
 obtain⟨h,j,k⟩:=S.bx _ (.head _)
 obtain⟨v,x⟩:=List.nodup_cons.1 S.bd
 have K:=S.lo
 have J:=S.low
 have g:∀d,d≠b->(w.setCell ⟨b,q,none⟩ u).heap[d]?=w.heap[d]?:=fun d a=>aK _ _ _ _ a
 have l:∀e∈B,e.1≠b:=fun e a c=>v (List.mem_map.2 ⟨e,a,c⟩)
 have f:∀{z c F A:Nat}{u:Value}{I:List Value},w.ownsRow z c F u A I->Kw c->u.ownBlock≠some b:=fun s y=>ee s k fun c=>j (c ▸ y)
 have C:Sq E W G L (w.setCell ⟨b,q,none⟩ u) i L1 D zs B R:=(S.sub (fun e a=> .tail _ a) x).to (o:=some b) ((ag _ w).setCell (show E.base<=b by omega) _) (fun d _ _ a=>g d fun c=>a (by rw[c])) (fun H a=>(g _ (by omega)).trans a) fun d a=>by
  cases a
  exact⟨h,S.nb.2 _ (.head _),fun r m=>⟨f (S.each r m).1 (.inl rfl),f (S.each r m).2 (.inr rfl)⟩,l,fun p a=>f (S.rw p a).2.1 (S.rw p a).1⟩
 obtain⟨H,n,p2⟩:=S.row
 exact C.with (bI _ b q _ _ _ k) h j (fun a=>S.nb.2 _ (.head _) ((I0 n).2 ((I0 ((g _ (by omega)).trans n)).1 a))) l
theorem Sq.hd(S:Hid (Sq E W G L w i L1 D zs ((b,t,cs)::B) R)):w.heap[b]?=some (.cells cs t (0,0)):=(S.bx _ (.head _)).2.2
theorem Sq.tail{p:Nat×TypeId×Array Value}(S:Hid (Sq E W G L w i L1 D zs (p::B) R)):Hid (Sq E W G L w i L1 D zs B R):=S.sub (fun p a=> .tail _ a) (List.nodup_cons.1 S.bd).2
theorem Sq.drop1{p r:Nat×TypeId×Array Value}(S:Hid (Sq E W G L w i L1 D zs (p::r::B) R)):Hid (Sq E W G L w i L1 D zs (p::B) R):=S.sub (fun a h=>by rcases List.mem_cons.1 h with rfl|h;exact .head _;exact .tail _ (.tail _ h)) (by have:=S.bd;simp only[jh,List.nodup_cons,gi,not_or]at this⊢;exact⟨this.1.2,this.2.2⟩)
theorem Sq.swapB{p r:Nat×TypeId×Array Value}(S:Hid (Sq E W G L w i L1 D zs (p::r::B) R)):Hid (Sq E W G L w i L1 D zs (r::p::B) R):=S.sub (fun a h=>by simp only[gi]at h⊢;rcases h with h|h|h<;>simp[h]) (by
 have h:=S.bd
 simp only[jh,List.nodup_cons,gi,not_or]at h⊢
 exact⟨⟨eA h.1.1,h.2.1⟩,h.1.2,h.2.2⟩)
theorem Sq.rowA(S:Sq E W G L w i L1 D zs B R)(ht:Kw t)(o:w.ownsRow W.heap.size t 1 v xs.length xs)(a:∀x∈L1,∀g,v.ownBlock=some g->x.vn.ownBlock≠some g/\x.vk.ownBlock≠some g)(b:∀r∈R,Ap (t,v,xs) r):Sq E W G L w i L1 D zs B ((t,v,xs)::R):=
 {S with rw:=fun r k=>by rcases List.mem_cons.1 k with rfl|k;exact⟨ht,o,a⟩;exact S.rw r k,rs:=List.pairwise_cons.2 ⟨b,S.rs⟩}
theorem Sq.nil(S:Hid (Sq E W G L w i L1 D zs B R))(ht:Kw t:=by decide):Hid (Sq E W G L w i L1 D zs B ((t,s0,[])::R)):=S.rowA ht (dy _ _ _ _) (fun f d b a=>by simp[Value.ownBlock]at a) fun e c b a=>by simp[Value.ownBlock]at a
theorem Sq.elt(S:Sq E W G L w i L1 D zs B R){x:Mb}(b:x∈L1){g:Nat}(c:w.heap.size<=g):x.vn.ownBlock≠some g/\x.vk.ownBlock≠some g:=
 ⟨fun a=>by have:=((S.each x b).1.lt g a).2;omega,fun a=>by have:=((S.each x b).2.lt g a).2;omega⟩
theorem Sq.lit(S:Hid (Sq E W G L w i L1 D zs B R))(ht:Kw t:=by decide)(d:Nat.ble xs.length 100=true:=by rfl):Hid (Sq E W G L (w.alloc (.cells xs.toArray t)) i L1 D zs B ((t,.slice (some ⟨w.heap.size,0,none⟩) xs.length xs.length,xs)::R)):=by
 have h:=wH (base:=W.heap.size) (e:=t) (size:=1) w xs.toArray xs.length S.low.2 (by have:=Nat.le_of_ble_eq_true d;unfold maxLen;omega) (by simp)
 have e:∀{a},(Value.slice (some ⟨w.heap.size,0,none⟩) xs.length xs.length).ownBlock=some a->w.heap.size=a:=fun b=>by simpa [Value.ownBlock] using b
 exact(Sq.below S (dh w (.cells xs.toArray t))).rowA ht (by simpa using h) (fun k g a c=>S.elt g (Nat.le_of_eq (e c))) fun j f a c b=>by have:=e c;have:=((S.rw j f).2.1.lt a b).2;omega
theorem Sq.lit1{V:World}{o:Obj}(S:Hid (Sq E W G L (V.alloc o) i L1 D zs B R))(ht:Kw t:=by decide)(a:Nat.ble xs.length 100=true:=by rfl):Hid (Sq E W G L ((V.alloc o).alloc (.cells xs.toArray t)) i L1 D zs B ((t,.slice (some ⟨V.heap.size+1,0,none⟩) xs.length xs.length,xs)::R)):=db V o ▸ Sq.lit S ht a
theorem Sq.lit2{V:World}{a:Addr}{u:Value}(S:Hid (Sq E W G L (V.setCell a u) i L1 D zs B R))(ht:Kw t:=by decide)(b:Nat.ble xs.length 100=true:=by rfl):Hid (Sq E W G L ((V.setCell a u).alloc (.cells xs.toArray t)) i L1 D zs B ((t,.slice (some ⟨V.heap.size,0,none⟩) xs.length xs.length,xs)::R)):=(show(V.setCell a u).heap.size=V.heap.size by simp[World.setCell]) ▸ Sq.lit S ht b
theorem Sq.litm{m:Nat}(S:Hid (Sq E W G L w i L1 D zs B R))(a:w.heap.size=m)(ht:Kw t:=by decide)(b:Nat.ble xs.length 100=true:=by rfl):Hid (Sq E W G L (w.alloc (.cells xs.toArray t)) i L1 D zs B ((t,.slice (some ⟨m,0,none⟩) xs.length xs.length,xs)::R)):=a ▸ Sq.lit S ht b
theorem Sq.put{c:Value}{h:List Value}(S:Sq E W G L w i L1 D zs B ((t,v,xs)::R))(k:w.grownBy w' v.ownBlock)(A:w'.ownsRow W.heap.size t 1 c h.length h)(q:c.ownBlock=v.ownBlock\/c.ownBlock=some w.heap.size):Sq E W G L w' i L1 D zs B ((t,c,h)::R):=by
 obtain⟨l,m,u⟩:=S.rw _ (.head _)
 have J:=S.lo
 have I:=S.low
 have n:=fun b a=>(m.lt b a).1
 have x:=(List.pairwise_cons.1 S.rs).1
 refine((Sq.less S (List.sublist_cons_self _ _)).to (o:=v.ownBlock) ((ag _ w).grown k (by omega) fun b a=>by have:=n b a;omega) (fun b a _ y=>k.block b a y) (fun K a=>(k.block _ (by omega) fun e=>by have:=n _ e.symm;omega).trans a) fun b a=>⟨n b a,fun z=>?_,fun p f=>u p f b a,fun s r e=>?_,fun g d=>x g d b a⟩).rowA l A (fun p f j a=>?_) fun g d j a=>?_
 ·obtain⟨_,F,H,C⟩:=S.nlt z
  exact ee m C (l.ne (.inl rfl)) a
 ·exact ee m (S.bx s r).2.2 (fun e=>(S.bx s r).2.1 (e ▸ l)) (e ▸ a)
 ·rcases q with e|e
  ·exact u p f j (e ▸ a)
  ·rw[e]at a
   cases a
   exact S.elt f (ah _)
 ·rcases q with e|e
  ·exact x g d j (e ▸ a)
  ·rw[show(t,c,h).2.1.ownBlock=_ from e]at a
   cases a
   exact fun e=>by have:=((S.rw g (.tail _ d)).2.1.lt _ e).2;omega
theorem Sq.swap{r a:TypeId×Value×List Value}(S:Hid (Sq E W G L w i L1 D zs B (r::a::R))):Hid (Sq E W G L w i L1 D zs B (a::r::R)):=
 {S.out with
  rw:=fun e h=>S.rw e (by simp only[gi]at h⊢;rcases h with h|h|h<;>simp[h])
  rs:=by
   have h:=S.rs
   simp only[List.pairwise_cons,gi,forall_eq_or_imp]at h⊢
   exact⟨⟨fun d b c=>h.1.1 d c b,h.2.1⟩,h.1.2,h.2.2⟩}
theorem Sq.here(S:Sq E W G L w i L1 D zs B R):∃c,(∀g,c=some g->Ng E w g)/\Sq E w c L1 w i L1 .nil [] [] []:=by
 obtain⟨f,b,p2⟩:=S.row
 have d:=S.lo
 have h:=S.low
 exact⟨f.ownBlock,fun g a=>(I0 b).2 a,⟨d.1,by omega,by omega,d.2.2.2⟩,S.tks,⟨f,b,p2⟩,⟨fun g a=> .inl ((I0 b).1 a),fun e a=>(by cases a)⟩,S.each,Ac.nil _ _,rfl,ag _ _,fun _ _ _ _=>rfl,fun e a=>(by cases a),xi,fun e a=>(by cases a),.nil⟩
theorem Sq.join{p:Option Nat}(S:Sq E W G L w i L1 D zs B R)(m:∀g,p=some g->Ng E w g)(s:Sq E w p L1 w' j L2 X ys [] R2):Sq E W G L w' j L2 (D.app X) (zs++ys) B (R2++R):=by
 have A:=S.lo
 have r:=S.low
 have ak:=s.bl.size
 have t:∀a,W.heap.size<=a->a<w.heap.size->¬Ng E w a->w'.heap[a]?=w.heap[a]?:=fun a h f l=>s.fz a f (by omega) fun e=>l (m a e)
 have F:∀b∈R,∀g,b.2.1.ownBlock=some g->¬Ng E w g:=fun b hr g k C=>by
  obtain⟨_,ad,af,H⟩:=S.nlt C
  exact ee (S.rw b hr).2.1 H ((S.rw b hr).1.ne (.inl rfl)) k
 refine⟨A,s.tks,s.row,⟨fun g k=>?_,fun d c k=>?_⟩,s.each,S.ac.app s.ac r.2,by rw[Fo.tops_app,S.tp,<-S.ac.len,s.tp],S.bl.trans s.bl,fun a h f l=>(s.fz a (by omega) f fun e=>?_).trans (S.fz a h f l),fun d c=>⟨(S.bx d c).1,(S.bx d c).2.1,(t _ (S.bx d c).1 (aw (S.bx d c).2.2) (S.nb.2 d c)).trans (S.bx d c).2.2⟩,S.bd,fun b hr=>?_,List.pairwise_append.2 ⟨s.rs,S.rs,fun v y x z g h f=>by have:=((s.rw v y).2.1.lt g h).1;have:=((S.rw x z).2.1.lt g f).2;omega⟩⟩
 ·rcases s.nb.1 g k with e|e
  ·exact S.nb.1 g (m g e)
  ·exact .inr (by omega)
 ·rcases s.nb.1 _ k with e|e
  ·exact S.nb.2 d c (m _ e)
  ·have:=aw (S.bx d c).2.2
   omega
 ·rcases S.nb.1 a (m a e) with e|e
  ·exact l e
  ·omega
 ·rcases List.mem_append.1 hr with hr|hr
  ·exact⟨(s.rw b hr).1,us (s.rw b hr).2.1 r.2,(s.rw b hr).2.2⟩
  ·obtain⟨I,u,J⟩:=S.rw b hr
   refine⟨I,mh u fun g n h f=>⟨t g h f (F b hr g n),h⟩,fun o hx g n=>?_⟩
   obtain⟨K,rfl,_,q⟩:=s.ac
   have:=(u.lt g n).2
   rcases List.mem_append.1 hx with hx|hx
   ·exact J o hx g n
   ·exact⟨fun e=>by have:=q o hx g (.inl e);omega,fun e=>by have:=q o hx g (.inr e);omega⟩
end
def CQ(E:Pe)(f:FuncId)(args:Array Value)(i:Nat)(X:Fo)(j:Nat)(a:Value->List Int->Rws->Prop):Prop:=
 ∀(W:World)(G:Option Nat)(L:List Mb),Sq E W G L W i L .nil [] [] []->L.length+X.sz<=50000000->Calls Tryz.prog f args W fun b w'=>∃v L2 ys R2,b= .returned v/\a v ys R2/\Hid (Sq E W G L w' j L2 X ys [] R2)
abbrev CI(E:Pe)(f:FuncId)(args:Array Value)(i:Nat)(X:Fo)(j:Nat):Prop:=CQ E f args i X j fun v ys R2=>∃a,v= .int .i64 a/\ys=[a]/\R2=[]
abbrev CL(E:Pe)(f:FuncId)(args:Array Value)(i:Nat)(X:Fo)(j:Nat):Prop:=CQ E f args i X j fun v ys R2=>∃a b,v= .slice a ys.length b/\R2=[(3,v,ys.map iv)]
abbrev CM(E:Pe)(i:Nat)(b:List ByteArray)(j:Nat):Prop:=CQ E 234 #[pV E] i .nil j fun v ys R2=>∃a c,v= .slice a b.length c/\ys=[]/\R2=[(9,v,b.map Value.string)]
theorem Sq.cq{E:Pe}{W w:World}{c:Option Nat}{L a:List Mb}{i j:Nat}{D X:Fo}{g:List Int}{b:Bxs}{R:Rws}{f:FuncId}{args:Array Value}{e:Value->List Int->Rws->Prop}{d:Ending->World->Prop}(S:Hid (Sq E W c L w i a D g b R))(C:CQ E f args i X j e)(n:a.length+X.sz<=50000000)(k:∀w' v L2 ys R2,e v ys R2->Hid (Sq E W c L w' j L2 (D.app X) (g++ys) b (R2++R))->d (.returned v) w'):Calls Tryz.prog f args w d:=by
 obtain⟨h,l,m⟩:=S.here
 refine(C w h a m n).mono ?_
 rintro q w' ⟨v,L2,ys,R2,rfl,o,p⟩
 exact k w' v L2 ys R2 o (S.join l p)
def gj(p:Nat->Bool):Nat->Nat->Option Nat
 |0,_=>none
 |f+1,j=>if p j=true then some j else gj p f (j+1)
structure sj (p:Nat->Bool) (f j:Nat) (R:Option Nat):Prop where
 out:gj p f j=R
def FA(i:Nat):List Int->List Int->List Int
 |[],D=>D
 |k::r,D=>FA i r (D.set k.toNat (D.getD i 0+1))
def dpN(a:List Nd):Nat->List Int->List Int
 |0,D=>D
 |m+1,D=>dpN a m (FA m (a.getD m Hy).ks D)
def C8(a:List Nd):List Int:=dpN a a.length (List.replicate a.length 0)
def iI(a:List Nd):Bool:=decide (a.length=0\/3000<a.length\/(a.getD (a.length-1) Hy).k≠1)
def eG(a:List Nd)(i:Nat):Bool:=!(gJ a i (a.getD i Hy))
def fD(S:List Int)(i:Nat):Bool:=S.getD i 0==0
def gy(D:List Int)(i:Nat):Bool:=decide (100<D.getD i 0)
def tf4:Option Nat->Int×Int
 |some i=>(4,(i:Int))
 |none=>(0,0)
def tf3(S D:List Int)(n:Nat):Option Nat->Int×Int
 |some i=>(3,(i:Int))
 |none=>if S.getD (n-1) 0≠(n:Int) then(3,(n:Int)-1) else tf4 (gj (gy D) n 0)
def tf2(S D:List Int)(n:Nat):Option Nat->Int×Int
 |some i=>(2,(i:Int))
 |none=>tf3 S D n (gj (fD S) n 0)
def bu(a:List Nd):Int×Int:=if iI a=true then(1,0) else tf2 (gE a) (C8 a) a.length (gj (eG a) a.length 0)
def Kx(n:Nat)(D:List Int):Prop:=D.length=n/\∀(j:Nat) z,D[j]?=some z->0<=z/\z<=(n:Int)-1-j
theorem Kx.set{n:Nat}{D:List Int}(e:Kx n D)(i q:Nat)(h:i<n)(j:q<i):Kx n (D.set q (D.getD i 0+1)):=by
 obtain⟨f,b⟩:=e
 refine⟨by simp[f],fun d g a=>?_⟩
 by_cases c:q=d
 ·subst c
  rw[List.getElem?_set_self (by omega)]at a
  obtain rfl:=bh a
  rw[aL,aF (by omega)]
  have:=b i D[i] (aF (by omega))
  simp
  omega
 ·rw[List.getElem?_set_ne c]at a;exact b d g a
theorem oA{p:Nat->Bool}:∀{f j:Nat},gj p f j=none->∀k,j<=k->k<j+f->p k=false
 |0,j,_,k,b,c=>by omega
 |f+1,j,a,k,b,c=>by
  rw[gj]at a
  split at a
  ·cases a
  ·rename_i d
   rcases iD b with rfl|g
   ·simpa using d
   ·exact oA a k g (by omega)
def ix(b:Nat)(W:World)(c n:Int):Prop:=W.heap[b]?=some (.cells #[.int .i64 c,.int .i64 n] 28 (0,0))
theorem gD{b:Nat}{W:World}{c n:Int}(a:ix b W c n):W.cell? ⟨b,0,none⟩=some (.int .i64 c)/\W.cell? ⟨b,1,none⟩=some (.int .i64 n)/\∀j,W.frozen? ⟨b,j,none⟩=false:=by
 unfold ix at a
 exact⟨by rw[au _ _ _ _ _ _ a];rfl,by rw[au _ _ _ _ _ _ a];rfl,fun j=>cA _ _ _ _ _ a⟩
theorem mu{b:Nat}{W:World}{c n:Int}(e:ix b W c n)(a d:Int):ix b ((W.setCell ⟨b,0,none⟩ (.int .i64 a)).setCell ⟨b,1,none⟩ (.int .i64 d)) a d:=bI _ b 1 _ _ _ (bI _ b 0 _ _ _ e)
theorem ix.below{b:Nat}{W a:World}{c n:Int}(d:ix b W c n)(e:Below W.heap.size W a):ix b a c n:=(e.block _ (aw d)).trans d
theorem E7(w:World)(v:Value)(a:List Nd)(i:dK w v a)(x:a.length<=1048576)(p:iI a=true):
  Calls Tryz.prog 6 #[.agg #[v]] w fun e w'=>e= .returned (.agg #[.int .i64 1,.int .i64 0])/\Below w.heap.size w w':=by
 obtain⟨F,G,rfl⟩:=i.form
 have j:∀c d,Below w.heap.size w ((w.alloc c).alloc d):=fun c d=>((ag _ w).alloc (ah _) c).alloc (by simp) d
 have s:∀c (g:Array Value) (l:TypeId),((w.alloc c).alloc (.cells g l)).heap[w.heap.size+1]?=some (.cells g l (0,0)):=fun c g l=>by
  have:=ay (w.alloc c) (.cells g l)
  rw[db]at this
  exact this
 have q:=bi p
 by_cases f:a.length=0
 ·rw[f]
  go_in
  go_wp2
  exact aH (du rfl _ _ (w.heap.size+1) _ _ _ _ rfl (s _ _ _) Tryz.underlying28 rfl (by kernel_rfl)) rfl ⟨rfl,j _ _⟩
 by_cases h:3000<a.length
 ·have B:(3000:Int)<(a.length:Int):=by omega
  have A:¬(a.length:Int)=0:=by omega
  generalize a.length=t at A B x⊢
  clear i p q f h
  go_in
  go_wp2
  exact aH (du rfl _ _ (w.heap.size+1) _ _ _ _ rfl (s _ _ _) Tryz.underlying28 rfl (by kernel_rfl)) rfl ⟨rfl,j _ _⟩
 ·have C:(a.getD (a.length-1) Hy).k≠1:=by rcases q with e|e|e;exact absurd e f;exact absurd e h;exact e
  have r:a.length-1<a.length:=by omega
  obtain⟨m,o⟩:∃m,a[a.length-1]?=some m:=⟨_,aF r⟩
  rw[aL,o,fH]at C
  obtain⟨z,rfl,an,am,u⟩:=i.get o
  have n:=u.c0
  obtain⟨t,y⟩:=aE a.length
  rw[y]at n f h x r⊢
  obtain⟨b,E⟩:∃b:Nat,t=b+1:=⟨t-1,by omega⟩
  subst E
  rw[lm]at n
  have J:((b+1:Nat):Int)-1=(b:Int):=by omega
  have ad:¬((b+1:Nat):Int)=0:=by omega
  have af:¬(3000:Int)<((b+1:Nat):Int):=by omega
  have ak:(b:Int)<((b+1:Nat):Int):=by omega
  have L:(0:Int)<=(b:Int):=by omega
  have H:(((b:Int)+1)==0)=false:=by rw[cJ];omega
  have I:decide ((3000:Int)<(b:Int)+1)=false:=az (by omega)
  have al:(b:Int)<(b:Int)+1:=by omega
  have K:∀c d,((w.alloc c).alloc d).cell? (z.add (b*9))=some (.int .i64 m.k):=fun c d=>ai (j c d) n
  clear i p q f h o u y r
  go_in
  go_wp2
  exact aH (du rfl _ _ (w.heap.size+1) _ _ _ _ rfl (s _ _ _) Tryz.underlying28 rfl (by kernel_rfl)) rfl ⟨rfl,j _ _⟩
structure E8 (w:World) (v:Value) (W:World):Prop where
 tb:W.heap[w.heap.size]?=some (.cells #[v] 25 (0,0))
 fb:ix (w.heap.size+1) W 0 0
 bl:Below w.heap.size w W
theorem E8.below{w:World}{v:Value}{W c:World}(a:E8 w v W)(b:Below W.heap.size W c):E8 w v c:=
 ⟨(b.block _ (aw a.tb)).trans a.tb,a.fb.below b,a.bl.trans (b.mono a.bl.size)⟩
structure ag9 (w:World) (v:Value) (gd n:Nat) (ns:List Nd) (t:Nat) (D:List Int) (W:World):Prop where
 tk:E8 w v W
 row:W.ownsRow w.heap.size 3 1 (.slice (some ⟨gd,0,none⟩) n n) n (D.map (Value.int .i64))
 ok:Kx n D
 rest:dpN ns t D=C8 ns
structure aha (w:World) (v:Value) (gd n t:Nat) (ks D:List Int) (j:Nat) (E:List Int) (W:World):Prop where
 tk:E8 w v W
 row:W.ownsRow w.heap.size 3 1 (.slice (some ⟨gd,0,none⟩) n n) n (E.map (Value.int .i64))
 ok:Kx n E
 rest:FA t (ks.drop j) E=FA t ks D
theorem cK{b:Nat}{W:World}{v:Value}{t:TypeId}(a:W.heap[b]?=some (.cells #[v] t (0,0))):W.cell? ⟨b,0,none⟩=some v:=by
 rw[au _ _ _ _ _ _ a];rfl
theorem E9(w:World)(v:Value)(c:List Nd)(bk:dK w v c)(e3:c.length<=1048576)(ds:∀N∈c,fm N)(b5:iI c=false):
  Calls Tryz.prog 6 #[.agg #[v]] w fun e w'=>e= .returned (.agg #[.int .i64 (bu c).1,.int .i64 (bu c).2])/\Below w.heap.size w w':=by
 obtain⟨f3,y,rfl⟩:=bk.form
 have br:=iA b5
 have H:=jw bk ds b5
 have cy:¬c.length=0:=fun e=>br (.inl e)
 have ei:¬3000<c.length:=fun e=>br (.inr (.inl e))
 have b1:(c.getD (c.length-1) Hy).k=1:=by
  by_cases a7:(c.getD (c.length-1) Hy).k=1
  ·exact a7
  ·exact absurd (.inr (.inr a7)) br
 obtain⟨N,E⟩:∃N,c[c.length-1]?=some N:=⟨_,aF (by omega)⟩
 rw[aL,E,fH]at b1
 obtain⟨s,rfl,he,ha,c5⟩:=bk.get E
 have a6:=c5.c0
 rw[b1]at a6
 have ev:∀ao A,Below w.heap.size w ((w.alloc ao).alloc A):=fun ao A=>((ag _ w).alloc (ah _) ao).alloc (by simp) A
 obtain⟨an,ca⟩:=aE c.length
 obtain⟨B,hF⟩:=aE (bu c)
 have o:=eJ ca hF
 rw[hF]
 rw[ca]at H a6 cy ei⊢
 obtain⟨a,e8⟩:∃a:Nat,an=a+1:=⟨an-1,by omega⟩
 have dg:an-1=a:=by omega
 rw[dg]at a6
 have dn:(0:Int)<=(a:Int):=by omega
 have fv:¬(an:Int)=0:=by omega
 have fx:¬(3000:Int)<(an:Int):=by omega
 have fz:(a:Int)<(an:Int):=by omega
 have fA:(an:Int)-1=(a:Int):=by omega
 have f8:(((a:Int)+1)==0)=false:=by rw[cJ];omega
 have f9:decide ((3000:Int)<(a:Int)+1)=false:=az (by omega)
 have g9:(a:Int)<(a:Int)+1:=by omega
 have ex:∀ao A,((w.alloc ao).alloc A).cell? (s.add (a*9))=some (.int .i64 1):=fun ao A=>ai (ev ao A) a6
 clear bk b5 br cy b1 E c5 ca e3 ds hF dg a6 fv fx fz fA
 subst e8
 go_in
 go_wp2_with fail
 generalize c2:(w.alloc _).alloc _=d9
 obtain⟨cx,cm,cl, -⟩:=Dy c2
 have dz:E8 w (.slice (some s) (a+1) y) d9:=⟨cx,cm,cl⟩
 clear c2
 obtain⟨bE,b3⟩:=aE (gj (eG c) (a+1) 0)
 have bA:=aj b3
 have cp:sj (eG c) (a+1-0) 0 bE:=⟨b3⟩
 clear b3 cx cm cl ex
 go_loopw [39] (fun j wr=>∃b:Nat,b<=a+1/\j= .int .i64 b/\sj (eG c) (a+1-b) b bE/\E8 w (.slice (some s) (a+1) y) wr) (fun j _=>a+1-(intOf j).toNat)
 case atStart=>exact⟨0,aJ _,rfl,cp,dz⟩
 case round=>
  obtain⟨b,c9,rfl,m,x⟩:=hrel
  clear dz cp
  have d:=m.out
  by_cases e5:b<a+1
  ·obtain⟨bd,a8⟩:=bC o.1 e5
   have df:(b:Int)<(a:Int)+1:=by omega
   have dd:(0:Int)<=(b:Int):=by omega
   have bw:=CG wr (.slice (some s) (a+1) y) c b bd (H.1.below x.bl) (by rw[o.out.1];omega) a8 (H.2.1 bd (bJ a8))
   have av:=cK x.tb
   obtain⟨ad,af,al⟩:=gD x.fb
   rw[show a+1-b=(a+1-(b+1))+1 by omega,gj]at d
   have z:eG c b=!(gJ c b bd):=by unfold eG;rw[aL,a8];rfl
   rw[z]at d
   have bc:=aj x
   cases hx:gJ c b bd with
   |true=>
    rw[hx]at bw d
    rw[aa (by decide)]at d
    have ba:sj (eG c) (a+1-(b+1)) (b+1) bE:=⟨d⟩
    clear d hx z a8 x m ad af al
    go_wp2_with (go_at_call 18;refine bw.mono ?_;rintro e J ⟨rfl,am⟩)
    exact⟨⟨b+1,by omega,by go_num,ba,bc.below am⟩,by simp[intOf];omega⟩
   |false=>
    rw[hx]at bw d
    rw[ab (by decide)]at d
    have G:Hid (B=(2,(b:Int))):=by
     show B=(2,(b:Int))
     rw[<-o.out.2]
     unfold bu
     rw[H.out.2.2,aa (by decide),o.out.1,bA.out,<-d]
     rfl
    clear d hx z a8 x m ad af al
    go_wp2_with fail
    refine bw.mono ?_
    rintro e J ⟨rfl,am⟩
    have h:=bc.below am
    obtain⟨ad,af,al⟩:=gD h.fb
    have p:=aj h
    clear h am
    go_wp2_with fail
    have h:=p.out
    exact aH (du rfl _ _ (w.heap.size+1) _ _ _ _ rfl (mu h.fb 2 b) Tryz.underlying28 rfl (by kernel_rfl)) rfl ⟨by rw[G.out],(h.bl.setCell (by simp) _).setCell (by simp) _⟩
  ·obtain rfl:b=a+1:=by omega
   rw[fw,gj]at d
   have d6:=aj d.symm
   have c3:=oA (show gj (eG c) (a+1) 0=none by rw[bA.out];exact d.symm)
   have a4:∀(F:Nat) N,c[F]?=some N->∀i∈N.ks,0<=i/\i<(F:Int):=fun F N E i f=>by
    have bt:F<a+1:=by rw[<-o.out.1];exact(List.getElem?_eq_some_iff.1 E).1
    have I:=c3 F (aJ _) (by omega)
    unfold eG at I
    rw[aL,E,fH]at I
    have b2:gJ c F N=true:=by simpa using I
    unfold gJ at b2
    have el:Dw N.ks F N.ks.length 0=true:=by
     rw[dr,dr]at b2;exact b2.2.1
    obtain⟨n,cd,rfl⟩:=gh f
    have:=tG N.ks F N.ks.length 0 el n (by omega) (by omega)
    rw[aL,aF cd]at this
    simpa using this
   have ce:=EA wr (.slice (some s) (a+1) y) c (H.1.below x.bl) (by rw[o.out.1];omega) (fun N E=>(H.2.1 N E).l2) a4
   rw[o.out.1]at ce
   have cs:=aj a4
   have av:=cK x.tb
   have bc:=aj x
   have fk:=x.bl.size
   have g7:w.heap.size+1<wr.heap.size:=aw x.fb
   clear d c3 a4 x m
   go_wp2_with fail
   refine ce.mono ?_
   rintro e J ⟨a7,rfl,cb,am⟩
   have h:=bc.below am
   obtain⟨q,hS⟩:=aE (gE c)
   have cI:q.length=a+1:=by rw[<-hS,ie,o.out.1]
   rw[hS]at cb
   have cu:Hid (gE c=q/\q.length=a+1/\yB q):=⟨hS,cI,by rw[<-hS];exact uE c (fun N E i f=>by
    obtain⟨F,bt,e⟩:=gh E
    exact(cs F N (by rw[aF bt,e]) i f).1)⟩
   have p:=eJ h cb
   obtain⟨bf,bo⟩:=aE (gj (fD q) (a+1) 0)
   have f2:=aj bo
   have ba:sj (fD q) (a+1-0) 0 bf:=⟨bo⟩
   have bD:Hid (bu c=tf3 q (C8 c) (a+1) bf):=by
    show bu c=_
    unfold bu
    rw[H.out.2.2,aa (by decide),o.out.1,bA.out,d6.out,hS]
    show tf3 q (C8 c) (a+1) (gj (fD q) (a+1) 0)=_
    rw[bo]
   clear hS cI bo h cb am ce av
   go_wp2_with fail
   go_loop [53] (fun j=>∃b:Nat,b<=a+1/\j= .int .i64 b/\sj (fD q) (a+1-b) b bf) (fun j=>a+1-(intOf j).toNat)
   case atStart=>exact⟨0,aJ _,rfl,ba⟩
   case round=>
    obtain⟨b,gs,rfl,m⟩:=hrel
    clear ba
    have d:=m.out
    by_cases e6:b<a+1
    ·have df:(b:Int)<(a:Int)+1:=by omega
     have dd:(0:Int)<=(b:Int):=by omega
     obtain⟨i,f⟩:=bC cu.2.1 e6
     have b0:J.cell? ⟨a7,b,none⟩=some (.int .i64 i):=by rw[p.out.2.cellAt b (by omega),bq,f];rfl
     rw[show a+1-b=(a+1-(b+1))+1 by omega,gj]at d
     have z:fD q b=(i==0):=by unfold fD;rw[aL,f];rfl
     rw[z]at d
     by_cases bv:i=0
     ·subst bv
      rw[ab (by decide)]at d
      have G:Hid (B=(3,(b:Int))):=by
       show B=(3,(b:Int))
       rw[<-o.out.2,bD.out,<-d]
       rfl
      obtain⟨ad,af,al⟩:=gD p.1.fb
      clear d z f m
      go_wp2_with fail
      have h:=p.1
      exact aH (du rfl _ _ (w.heap.size+1) _ _ _ _ rfl (mu h.fb 3 b) Tryz.underlying28 rfl (by kernel_rfl)) rfl ⟨by rw[G.out],(h.bl.setCell (by simp) _).setCell (by simp) _⟩
     ·rw[aa (by simpa using bv)]at d
      have bx:sj (fD q) (a+1-(b+1)) (b+1) bf:=⟨d⟩
      clear d z f m
      go_wp2_with fail
      go_round
      case rel=>exact⟨b+1,by omega,by go_num,bx⟩
      case measure=>simp[intOf];omega
    ·obtain rfl:b=a+1:=by omega
     rw[fw,gj]at d
     have d7:=aj d.symm
     obtain⟨i,f⟩:=bC cu.2.1 (show a<a+1 by omega)
     have b0:J.cell? ⟨a7,a,none⟩=some (.int .i64 i):=by rw[p.out.2.cellAt a (by omega),bq,f];rfl
     have a1:q.getD a 0=i:=by rw[aL,f];rfl
     have t:=bD.out
     rw[d7.out,tf3,lm,a1]at t
     by_cases fu:i=(a:Int)+1
     ·rw[aa (by omega)]at t
      have d8:=aj t
      subst fu
      have av:=cK p.1.tb
      clear d t f a1 m
      obtain⟨dn,bt,bv,fo,fr⟩:=dD rh
      have fc:=p.1.bl.size
      go_wp2_with (at_make;refine xh _ rfl _ _ 31 rfl w.heap.size 3 dn (.int .i64 0) 1 Tryz.underlying31 bt bv fo .i64 .i64 _ _ (a+1) rfl rfl rfl rfl (by rw[fr];omega) (by unfold maxLen;omega) fc ?_;intro d3 cc a3;have b6:Below J.heap.size J d3:=⟨a3.os,a3.tape,a3.output,a3.size,fun b c9=>a3.block b c9 (by simp)⟩;have ec:=ai b6 av)
      rw[show(madeCells (Value.int .i64 0).cells ((a+1)*1)).toList=List.replicate (a+1) (Value.int .i64 0) by rw[oL];exact sC _ _]at cc
      have cg:ag9 w (.slice (some s) (a+1) y) J.heap.size (a+1) c (a+1) (List.replicate (a+1) 0) d3:=by
       refine⟨p.1.below b6,?_,⟨by simp,fun u i f=>?_⟩,?_⟩
       ·rw[List.map_replicate];exact cc
       ·rw[By]at f
        split at f
        ·obtain rfl:=bh f;omega
        ·cases f
       ·unfold C8;rw[o.out.1]
      have fg:w.heap.size+1<J.heap.size:=aw p.1.fb
      clear cc a3 b6 ec av b0
      obtain⟨r,a1⟩:=aE J.heap.size
      rw[a1]at cg fg⊢
      have cv:=aj cg
      clear cg a1 p bD
      go_loopw [8] (fun j wr=>∃(g:Nat) (D:List Int),g<=a+1/\j= .int .i64 ((g:Int)-1)/\Hid (ag9 w (.slice (some s) (a+1) y) r (a+1) c g D wr)) (fun j _=>(intOf j+1).toNat)
      case atStart=>exact⟨a+1,_,ah _,by congr 1;omega,cv⟩
      case round=>
       obtain⟨g,D,g4,rfl,l⟩:=hrel
       clear cv
       cases g with
       |zero=>
        have gu:¬(0:Int)<=((0:Nat):Int)-1:=by omega
        have cB:D=C8 c:=l.rest
        have ap:=jw l.tk l.row l.ok.1
        have t:=d8.out
        rw[<-cB]at t
        obtain⟨bF,b4⟩:=aE (gj (gy D) (a+1) 0)
        rw[b4,o.out.2]at t
        have cw:=aj t
        have cr:sj (gy D) (a+1-0) 0 bF:=⟨b4⟩
        clear t b4 cB l
        go_wp2_with fail
        go_loop [110] (fun j=>∃b:Nat,b<=a+1/\j= .int .i64 b/\sj (gy D) (a+1-b) b bF) (fun j=>a+1-(intOf j).toNat)
        case atStart=>exact⟨0,aJ _,rfl,cr⟩
        case round=>
         obtain⟨b,gt,rfl,m⟩:=hrel
         clear cr
         have d:=m.out
         by_cases e7:b<a+1
         ·have df:(b:Int)<(a:Int)+1:=by omega
          have dd:(0:Int)<=(b:Int):=by omega
          obtain⟨i,f⟩:=bC ap.2.2 e7
          have b0:wr.cell? ⟨r,b,none⟩=some (.int .i64 i):=by rw[ap.out.2.1.cellAt b (by omega),bq,f];rfl
          rw[show a+1-b=(a+1-(b+1))+1 by omega,gj]at d
          have z:gy D b=decide (100<i):=by unfold gy;rw[aL,f];rfl
          rw[z]at d
          by_cases dk:100<i
          ·rw[ab (bB dk)]at d
           have G:Hid (B=(4,(b:Int))):=by
            show B=(4,(b:Int))
            rw[cw.out,<-d]
            rfl
           obtain⟨ad,af,al⟩:=gD ap.1.fb
           clear d z f m
           go_wp2_with fail
           have h:=ap.1
           exact aH (du rfl _ _ (w.heap.size+1) _ _ _ _ rfl (mu h.fb 4 b) Tryz.underlying28 rfl (by kernel_rfl)) rfl ⟨by rw[G.out],(h.bl.setCell (by simp) _).setCell (by simp) _⟩
          ·rw[aa (by simpa using dk)]at d
           have bx:sj (gy D) (a+1-(b+1)) (b+1) bF:=⟨d⟩
           clear d z f m
           go_wp2_with fail
           go_round
           case rel=>exact⟨b+1,by omega,by go_num,bx⟩
           case measure=>simp[intOf];omega
         ·obtain rfl:b=a+1:=by omega
          rw[fw,gj]at d
          have G:Hid (B=(0,0)):=by
           show B=(0,0)
           rw[cw.out,<-d]
           rfl
          obtain⟨ad,af,al⟩:=gD ap.1.fb
          clear d m
          go_wp2_with fail
          have h:=ap.1
          exact aH (du rfl _ _ (w.heap.size+1) _ _ _ _ rfl (mu h.fb 0 0) Tryz.underlying28 rfl (by kernel_rfl)) rfl ⟨by rw[G.out],(h.bl.setCell (by simp) _).setCell (by simp) _⟩
       |succ g=>
        have eg:(((g+1:Nat)):Int)-1=(g:Int):=by omega
        rw[eg]
        have g6:(g:Int)<(a:Int)+1:=by omega
        have g5:(0:Int)<=(g:Int):=by omega
        obtain⟨C,a0⟩:=bC o.1 (show g<a+1 by omega)
        obtain⟨f4,eq,hg,hc,b7⟩:=H.1.get a0
        obtain rfl:=bh eq
        have ed:=ai l.tk.bl b7.c8
        have a4:=cs.out g C a0
        have b9:=b7.hk
        obtain⟨ea,ef,rfl⟩:=b9.form
        obtain⟨ar,bn⟩:=aE C.ks.length
        have e4:=(H.2.1 C (bJ a0)).l2
        rw[bn]at ed e4
        have e2:l.rest=l.rest:=rfl
        have a9:dpN c g (FA g C.ks D)=C8 c:=by
         have:=l.rest
         rw[dpN,aL,a0,fH]at this
         exact this
        have bb:=FC bn a4 a9 a0
        have av:=cK l.tk.tb
        have d5:Hid (cH w (.slice ea ar ef) C.ks):=by rw[<-bn];exact b9
        have cn:Hid (aha w (.slice (some s) (a+1) y) r (a+1) g C.ks D 0 D wr):=⟨l.tk,l.row,l.ok,rfl⟩
        have fk:=l.tk.bl.size
        clear a4 b9 a9 b7 a0 bn l e2
        go_wp2_with fail
        go_loopw [95] (fun j fB=>∃(u:Nat) (L:List Int),u<=ar/\j= .int .i64 u/\Hid (aha w (.slice (some s) (a+1) y) r (a+1) g C.ks D u L fB)) (fun j _=>ar-(intOf j).toNat)
        case atStart=>exact⟨0,D,aJ _,rfl,cn⟩
        case round=>
         obtain⟨u,L,gm,rfl,k⟩:=hrel
         clear cn
         by_cases e1:u<ar
         ·have gr:(u:Int)<(ar:Int):=by omega
          have gp:(0:Int)<=(u:Int):=by omega
          obtain⟨i,f⟩:=bC bb.1 e1
          obtain⟨f5,es,gg⟩:=(d5.below k.tk.bl).get f
          subst es
          obtain⟨fn,g8⟩:=bb.2.1 i (bJ f)
          obtain⟨n,rfl⟩:=dv fn
          have cd:n<g:=by omega
          obtain⟨K,bs⟩:=bC k.ok.1 (show g<a+1 by omega)
          obtain⟨eh,c6⟩:=bC k.ok.1 (show n<a+1 by omega)
          have gf:=k.ok.2 g K bs
          have a5:=k.row
          have f7:wr.cell? ⟨r,g,none⟩=some (.int .i64 K):=by rw[a5.cellAt g (by omega),bq,bs];rfl
          have f6:wr.cell? ⟨r,n,none⟩=some (.int .i64 eh):=by rw[a5.cellAt n (by omega),bq,c6];rfl
          have ge:=a5.frozenAt n
          have e0:=(a5.lt r rfl).1
          have b8:L.getD g 0=K:=by rw[aL,bs];rfl
          have A:=(a5.stored n (.int .i64 (K+1))).1
          rw[<-xk]at A
          have cf:=k.ok.set g n (by omega) cd
          rw[b8]at cf
          have a9:FA g (C.ks.drop (u+1)) (L.set n (K+1))=FA g C.ks D:=by
           have I:=k.rest
           have c7:=(List.getElem?_eq_some_iff.1 f)
           rw[ju c7.1,c7.2,FA,b8]at I
           exact I
          have fa:r≠w.heap.size:=by omega
          have e9:r≠w.heap.size+1:=by omega
          have d0:E8 w (.slice (some s) (a+1) y) (wr.setCell ⟨r,n,none⟩ (.int .i64 (K+1))):=
           ⟨(aK _ _ _ _ (eA fa)).trans k.tk.tb,(aK _ _ _ _ (eA e9)).trans k.tk.fb,k.tk.bl.setCell e0 _⟩
          have d4:Hid (aha w (.slice (some s) (a+1) y) r (a+1) g C.ks D (u+1) (L.set n (K+1)) (wr.setCell ⟨r,n,none⟩ (.int .i64 (K+1)))):=⟨d0,A,cf,a9⟩
          have g0:(n:Int)<(a:Int)+1:=by omega
          have gz:(0:Int)<=(n:Int):=by omega
          clear f k A cf a9 d0 a5 bs c6 b8
          go_wp2_with fail
          exact⟨⟨u+1,_,by omega,by go_num,d4⟩,by simp[intOf];omega⟩
         ·obtain rfl:u=ar:=by omega
          have eF:Hid (ag9 w (.slice (some s) (a+1) y) r (a+1) c g L wr):=by
           refine⟨k.tk,k.row,k.ok,?_⟩
           have I:=k.rest
           rw[oJ (by rw[bb.out.1];exact ah _),FA]at I
           rw[I]
           exact bb.2.2.1
          clear k
          go_wp2_with fail
          exact⟨⟨g,L,by omega,rfl,eF⟩,by simp[intOf]⟩
     ·rw[ab (by omega)]at t
      have G:Hid (B=(3,(a:Int))):=by
       show B=(3,(a:Int))
       rw[<-o.out.2,t]
       congr 1
       omega
      obtain⟨ad,af,al⟩:=gD p.1.fb
      clear d t f a1 m
      go_wp2_with fail
      have h:=p.1
      exact aH (du rfl _ _ (w.heap.size+1) _ _ _ _ rfl (mu h.fb 3 a) Tryz.underlying28 rfl (by kernel_rfl)) rfl ⟨by rw[G.out],(h.bl.setCell (by simp) _).setCell (by simp) _⟩
theorem so(w:World)(v:Value)(a:List Nd)(b:dK w v a)(c:a.length<=1048576)(d:∀N∈a,fm N):
  Calls Tryz.prog 6 #[.agg #[v]] w fun e w'=>e= .returned (.agg #[.int .i64 (bu a).1,.int .i64 (bu a).2])/\Below w.heap.size w w':=by
 cases hb:iI a with
 |true=>
  have e:bu a=(1,0):=by unfold bu;rw[ab hb]
  rw[e]
  exact E7 w v a b c hb
 |false=>exact E9 w v a b c d hb
structure ahb (ns:List Nd):Prop where
 len:1<=ns.length/\ns.length<=3000
 kid:∀(i:Nat) N,ns[i]?=some N->∀z∈N.ks,0<=z/\z<(i:Int)
 kn:∀N∈ns,N.ks.length<=200
theorem zl{c:List Nd}(d:(bu c).1=0):ahb c:=by
 unfold bu at d
 by_cases j:iI c=true
 ·rw[ab j]at d;exact absurd d (by decide)
 rw[aa j]at d
 have r:iI c=false:=by simpa using j
 have l:=iA r
 obtain⟨h,k⟩:∃h,gj (eG c) c.length 0=h:=⟨_,rfl⟩
 rw[k]at d
 cases h with
 |some a=>rw[tf2]at d;exact absurd d (by simp)
 |none=>
  have q:=oA k
  have n:∀(a:Nat) b,c[a]?=some b->gJ c a b=true:=fun a b f=>by
   have m:a<c.length:=(List.getElem?_eq_some_iff.1 f).1
   have i:=q a (aJ _) (by omega)
   unfold eG at i
   rw[aL,f,fH]at i
   simpa using i
  refine⟨⟨?_,?_⟩,fun a b f v t=>?_,fun b f=>?_⟩
  ·rcases mJ c.length with g|g
   ·exact absurd (.inl g) l
   ·exact g
  ·rcases ci 3000 c.length with g|g
   ·exact absurd (.inr (.inl g)) l
   ·exact g
  ·have e:=n a b f
   unfold gJ at e
   have p:Dw b.ks a b.ks.length 0=true:=by
    rw[dr,dr]at e;exact e.2.1
   obtain⟨u,s,rfl⟩:=gh t
   have:=tG b.ks a b.ks.length 0 p u (by omega) (by omega)
   rw[aL,aF s]at this
   simpa using this
  ·obtain⟨a,m,o⟩:=gh f
   have e:=n a b (by rw[aF m,o])
   unfold gJ GD at e
   rw[dr]at e
   exact(bi e.1).2.2.2
section
variable (w0 : World) (vt : Value) (t : Nat)
inductive BrO (p1:Addr) (n i:Nat) (ns:List Nd) (N:Nd) (vn vk:Value):FuncId->Array Value->ByteArray->Prop
 |br3 {word E Y Z:ByteArray}{q r c:Nat}:N.ks.length=3->N.ks[0]?=some (q:Int)->N.ks[1]?=some (r:Int)->N.ks[2]?=some (c:Int)->Hid (WE w0 vt t q E)->Hid (WB w0 vt t r Y)->c<n/\(ae ns c).k≠7->Hid (WB w0 vt t c Z)->BrO p1 n i ns N vn vk 97 #[pW w0,gF N vn vk,.string word] (word++E++⟨#[32]⟩++Y++⟨#[32,101,108,115,101,32]⟩++Z)
 |bre {word E Y Z:ByteArray}{q r c:Nat}:N.ks.length=3->N.ks[0]?=some (q:Int)->N.ks[1]?=some (r:Int)->N.ks[2]?=some (c:Int)->Hid (WE w0 vt t q E)->Hid (WB w0 vt t r Y)->c<n/\(ae ns c).k=7->Hid (∀an M cn ak L ck,NdR w0 p1 c (ae ns c) an M cn ak L ck->Wr w0 vt t 97 #[pW w0,gF (ae ns c) (.slice an M cn) (.slice ak L ck),.string ⟨#[32,101,108,105,102,32]⟩] Z)->BrO p1 n i ns N vn vk 97 #[pW w0,gF N vn vk,.string word] (word++E++⟨#[32]⟩++Y++Z)
 |neg {A E:ByteArray}{c:Nat}:N.ks.length=1->N.ks[0]?=some (c:Int)->Hid (N.op=19)->c<n/\((ae ns c).k=30/\((ae ns c).op=19/\A=⟨#[45]⟩++⟨#[32]⟩\/(ae ns c).op≠19/\A=⟨#[45]⟩)\/(ae ns c).k≠30/\A=⟨#[45]⟩)->Hid (Wr w0 vt t 95 #[pW w0,.int .i64 (c:Int),.int .i64 11] E)->BrO p1 n i ns N vn vk 156 #[pW w0,gF N vn vk] (A++E)
end
theorem zm{l:World}{d:Addr}{n p:Nat}{c:List Nd}(y:dK l (.slice (some d) n p) c)(z:zg l d c)(bs:c.length=n)(bE:n<=1048576){tab i:Nat}{N:Nd}{a3 a2:Option Addr}{M a4 L ck:Nat}(R:NdR l d i N a3 M a4 a2 L ck){f:FuncId}{args:Array Value}{ba:ByteArray}(bo:BrO l (.slice (some d) n p) tab d n i c N (.slice a3 M a4) (.slice a2 L ck) f args ba):
  Wr l (.slice (some d) n p) tab f args ba:=by
 intro bv bc a6 br
 have bb:=a6.lt
 have bn:=R.hL
 have bx:=R.cap
 have a:=aj (Bx.new a6 N (.slice a3 M a4) (.slice a2 L ck))
 cases bo
 case' br3 b _ _ _ _ _ _ h hX=>
  obtain⟨v,t,x,u,s,w,o⟩:=tK y z (show b<c.length by omega)
  obtain⟨h,q⟩:=h
  have a5:((ae c b).k==7)=false:=by simpa using q
  clear q
 case' bre b _ _ _ _ _ _ h hX=>
  obtain⟨v,t,x,u,s,w,o⟩:=tK y z (show b<c.length by omega)
  obtain⟨h,q⟩:=h
  have a5:=Hz q
  clear q
  have bf:=aj (hX _ _ _ _ _ _ o)
  unfold gF at bf
  clear hX
 case' neg b _ _ ho h hX=>
  obtain⟨v,t,x,u,s,w,o⟩:=tK y z (show b<c.length by omega)
  have bw:=Lj ho.out
  obtain⟨h,⟨A,⟨B,rfl⟩|⟨B,rfl⟩⟩|⟨A,rfl⟩⟩:=h
  all_goals first|have a5:=Hz A|have a5:((ae c b).k==30)=false:=by simpa using A
  all_goals first|have bl:=Hz B|have bl:((ae c b).op==19)=false:=by simpa using B|skip
  all_goals clear A;try clear B
 all_goals
  try simp only[ax]at br
  have bD:(b:Int)<(n:Int):=by omega
  have bA:(0:Int)<=(b:Int):=by omega
  generalize ae c b=a9 at *
  have a1:=aj o
  obtain⟨r,rfl⟩:=R.ks.ptr
  have e:=aj R
  have bt:=bn.symm.trans (by with_reducible assumption:N.ks.length=_)
  subst bt
  obtain⟨af,al,am,ao,ap,ar,av,a0,m⟩:=a.cells
  have a7:=a.kid0 e.ks (by with_reducible assumption)
  (try have bd:=a.kid e.ks (j:=1) (by with_reducible assumption) (by decide))
  (try have a8:=a.kid e.ks (j:=2) (by with_reducible assumption) (by decide))
  obtain⟨C,E,F,G,H,I,J,K,ad,_,_⟩:=a1.rd _ a.pr.bel
  have z0:=a.pr.cells.1
  clear a6 R o y z bs
  unfold gF
  go_in
  repeat (go_wp2_with fail;refine Bx.stp a (by first|exact ag _ _|exact aq (dh _ _)) (by with_reducible first|exact aj (ze _)|assumption) bb (by(try simp only[ax]);omega) ?_;intro bk a;have a:=aj a;clear af al am ao ap ar av a0 m;obtain⟨af,al,am,ao,ap,ar,av,a0,m⟩:=a.cells;have a7:=a.kid0 e.ks (by with_reducible assumption);(try have bd:=a.kid e.ks (j:=1) (by with_reducible assumption) (by decide));(try have a8:=a.kid e.ks (j:=2) (by with_reducible assumption) (by decide));obtain⟨C,E,F,G,H,I,J,K,ad,_,_⟩:=a1.rd _ a.pr.bel;have z0:=a.pr.cells.1)
  go_wp2_with fail
  first|go_region_held3 (fun g=>g.cell? ⟨l.heap.size,0,none⟩=some (.slice (some d) n p)/\g.cell? ⟨bc.heap.size,8,none⟩=some (.slice (some r) 1 ck)/\g.cell? r=some (.int .i64 (b:Int))/\NdC g (d.add (b*9)) a9 (.slice v t x) (.slice u s w)) (first|exact⟨z0,m,a7,C,E,F,G,H,I,J,K,ad⟩|((repeat' refine And.intro ?_ ?_)<;>go_keep)) (fail)|go_region_held3 (fun g=>g.cell? ⟨l.heap.size,0,none⟩=some (.slice (some d) n p)/\g.cell? ⟨bc.heap.size,8,none⟩=some (.slice (some r) 3 ck)/\g.cell? ⟨r.block,r.off+2,none⟩=some (.int .i64 (b:Int))/\NdC g (d.add (b*9)) a9 (.slice v t x) (.slice u s w)) (first|exact⟨z0,m,a8,C,E,F,G,H,I,J,K,ad⟩|((repeat' refine And.intro ?_ ?_)<;>go_keep)) (fail)
  repeat (go_wp2_with fail;refine Bx.stp a (by first|exact ag _ _|exact aq (dh _ _)) (by with_reducible first|exact aj (ze _)|assumption) bb (by(try simp only[ax]);omega) ?_;intro bk a;have a:=aj a;clear af al am ao ap ar av a0 m;obtain⟨af,al,am,ao,ap,ar,av,a0,m⟩:=a.cells;have a7:=a.kid0 e.ks (by with_reducible assumption);(try have bd:=a.kid e.ks (j:=1) (by with_reducible assumption) (by decide));(try have a8:=a.kid e.ks (j:=2) (by with_reducible assumption) (by decide));obtain⟨C,E,F,G,H,I,J,K,ad,_,_⟩:=a1.rd _ a.pr.bel;have z0:=a.pr.cells.1)
  go_wp2_with fail
  first|go_end0|refine aH (gx rfl _ _ _) rfl ?_
  exact Bx.fin a (by simp only[be])
def abK(a:List Nd)(b:Nat)(c:List Int):Prop:=∀d∈c,∃k:Nat,d=(k:Int)/\k<b/\k<a.length/\eB (ae a k).k=true
theorem Ky(c:World)(n v:Value)(an:List Nd)(E:Int->ByteArray)(t:Int)(A:Nat)(ad:OkE c n an E t A)(d:List Int)(x:cH c v d)(L:abK an A d)(a1:d.length<=1048576)(T:ByteArray)(w:World)(H:Pr c n T t w)(av:T.size+(bK (d.map E)).size<=140737488355328):
  Calls Tryz.prog 94 #[.pointer (some ⟨c.heap.size,0,none⟩),v] w fun e w'=>e= .returned (.tuple #[])/\Pr c n (T++bK (d.map E)) t w'/\Kq c.heap.size w w':=by
 have l:=FC H x L ad
 obtain⟨a4,a5,rfl⟩:=x.form
 clear H x L ad
 obtain⟨m,u⟩:=aE d.length
 rw[u]at a1 l⊢
 have F:=aj u
 clear u
 obtain⟨b,r⟩:=aE (d.map E)
 rw[r]at av⊢
 have C:Hid (d.map E=b/\b.length=m):=⟨r,by rw[<-r,aI];exact F⟩
 clear r
 go_in
 go_wp2_with fail
 go_loopw [8] (fun y wr=>∃a:Nat,a<=m/\y= .int .i64 a/\Hid (Pr c n (T++bK (b.take a)) t wr/\Kq c.heap.size w wr)) (fun y _=>m-(intOf y).toNat)
 case atStart=>exact⟨0,by omega,rfl,by rw[show T++bK (b.take 0)=T from ByteArray.append_empty];exact l.1,Kq.refl _ _⟩
 case round=>
  obtain⟨a,a7,rfl,f⟩:=hrel
  by_cases a0:a<m
  ·obtain⟨a3,s⟩:=bC F.out a0
   obtain⟨i,rfl,af,a2,ak⟩:=l.2.2.1 a3 (bJ s)
   obtain⟨ap,rfl,ar⟩:=(l.2.1.below f.1.bel).get s
   have a9:(a:Int)<(m:Int):=by omega
   have a8:(0:Int)<=(a:Int):=by omega
   have al:b[a]?=some (E i):=by rw[<-C.out.1,bq,s];rfl
   have J:=lE b a (E i) al
   have K:=xo b (a+1)
   have k:=eJ J K
   have q:=eJ af ak
   clear J K s al af a2 ak
   by_cases I:a=0
   ·subst I
    have g:bK (b.take (0+1))=bK (b.take 0)++E i:=by rw[k.out.1,ab rfl]
    have h:=k.2
    rw[g,ax]at h
    have j:=eJ g h
    clear g h k
    have a6:wr.cell? ap=some (.int .i64 (i:Int)):=by simpa [Addr.add] using ar
    go_wp2_with fail
    refine(l.2.2.2.zero i _ _ q.1 q.2 f.1 (by have:=j.2;rw[ax];omega)).mono ?_
    rintro e z ⟨rfl,p2,p⟩
    have o:=eJ p2 p
    clear p2 p
    go_wp2_with fail
    refine⟨⟨1,by omega,by go_num,?_,f.2.trans o.2⟩,by simp[intOf];omega⟩
    rw[show(1:Nat)=0+1 from rfl,j.out.1,<-be]
    exact o.1
   ·have g:bK (b.take (a+1))=bK (b.take a)++dx++E i:=by rw[k.out.1,aa I]
    have h:=k.2
    rw[g,ax,ax]at h
    have G:dx.size=2:=rfl
    have j:=jw g h G
    clear g h G k
    have ba:(0:Int)<(a:Int):=by omega
    go_wp2_with fail
    refine(eD c n _ _ _ _ f.1 (by have:=j.2;rw[ax];show _+dx.size<=_;omega)).mono ?_
    rintro e z ⟨rfl,p2,p⟩
    have o:Hid (Pr c n (T++bK (b.take a)++dx) t z/\Kq c.heap.size wr z):=⟨p2,p⟩
    clear p2 p
    go_wp2_with fail
    refine(l.2.2.2.zero i _ _ q.1 q.2 o.1 (by have:=j.2;rw[ax,ax];omega)).mono ?_
    rintro e bb ⟨rfl,ao,am⟩
    have B:=eJ ao am
    clear ao am
    go_wp2_with fail
    refine⟨⟨a+1,by omega,by go_num,?_,(f.2.trans o.2).trans B.2⟩,by simp[intOf];omega⟩
    rw[j.out.1,<-be,<-be]
    exact B.1
  ·obtain rfl:a=m:=by omega
   go_wp2_with fail
   go_end0
   refine⟨rfl,?_,f.2⟩
   have:=f.1
   rwa [bH (by rw[C.out.2];exact ah _)]at this
theorem oB(l:List ByteArray)(k:Nat)(x:ByteArray)(c:l[k]?=some x):fC (l.take (k+1))=fC (l.take k)++x:=by
 obtain⟨a,b⟩:=List.getElem?_eq_some_iff.1 c
 unfold fC
 rw[List.take_succ_eq_append_getElem a,List.foldl_append,b];rfl
theorem abL(l:List ByteArray)(k:Nat):(fC (l.take k)).size<=(fC (l.take (k+1))).size:=by
 by_cases a:k<l.length
 ·rw[oB l k _ (aF a),ax];omega
 ·rw[bH (by omega),bH (by omega)]
  exact ah _
theorem I1(l:List ByteArray)(k:Nat):(fC (l.take k)).size<=(fC l).size:=by
 have b:∀a,(fC (l.take k)).size<=(fC (l.take (k+a))).size:=by
  intro a
  induction a with
  |zero=>exact ah _
  |succ a c=>exact ch c (abL l (k+a))
 have:=b l.length
 rwa [bH (show l.length<=k+l.length by omega)]at this
def aiB(b:World)(e:Value)(g:List Nd)(S:Int->Nat->ByteArray)(d:Nat):Prop:=
 ∀(k a:Nat)(c:ByteArray)(W:World),k<d->gI (ae g k).k=true->a+d<=500000->Pr b e c a W->c.size+(S k a).size<=140737488355328->
  Calls Tryz.prog 31 #[.pointer (some ⟨b.heap.size,0,none⟩),.int .i64 (k:Int)] W fun f w'=>f= .returned (.tuple #[])/\Pr b e (c++S k a) a w'/\Kq b.heap.size W w'
def aiC(a:List Nd)(b:Nat)(c:List Int):Prop:=∀d∈c,∃k:Nat,d=(k:Int)/\k<b/\k<a.length/\gI (ae a k).k=true
theorem Kz(a:World)(F:Value)(f:List Nd)(S:Int->Nat->ByteArray)(I:Nat)(ap:aiB a F f S I)(ao:dK a F f)(b3:f.length<=1048576)(i:Nat)(bd:i<f.length)(am:aiC f I (ae f i).ks)(bf:(ae f i).ks.length<=1048576)(tab:Nat)(cx:tab+I<500000)
  (T:ByteArray) (w:World) (u:Pr a F T tab w) (z:T.size+(wA S (ae f i).ks tab).size<=140737488355328):
  Calls Tryz.prog 92 #[.pointer (some ⟨a.heap.size,0,none⟩),.int .i64 (i:Int)] w fun e w'=>e= .returned (.tuple #[])/\Pr a F (T++wA S (ae f i).ks tab) tab w'/\Kq a.heap.size w w':=by
 have bl:=C2 bd
 obtain⟨ck,k,rfl⟩:=ao.form
 obtain⟨m,rfl,cB,cz,ak⟩:=ao.get bl
 obtain⟨z0,cc,cd⟩:=u.cells
 have a9:=ai u.bel ak.c8
 have v:=ak.hk
 obtain⟨r,bk⟩:=aE ((ae f i).ks)
 rw[bk]at am bf z v⊢
 obtain⟨cl,cm,rfl⟩:=v.form
 obtain⟨g,bc⟩:=aE f.length
 obtain⟨j,an⟩:=aE r.length
 rw[bc]at z0 u ap b3 bd⊢
 rw[an]at a9 v bf
 have h:=ac9 u v am ap an
 have cv:(i:Int)<(g:Int):=by omega
 have cw:(0:Int)<=(i:Int):=by omega
 obtain⟨a8,l⟩:=aE (wA S r tab)
 rw[l]at z⊢
 clear u ao ak bl am ap v bk bc an
 unfold wA at l
 by_cases q:r=[]
 ·have b0:j=0:=by have:=h.2.2.2.2;rw[q]at this;simpa using this.symm
  rw[ab q]at l
  subst l b0
  clear q
  go_in
  go_wp2_with fail
  refine(eD a _ T _ _ _ h.1 z).mono ?_
  rintro e G ⟨rfl,x,C⟩
  go_wp2_with fail
  exact aH (gx rfl _ _ _) rfl ⟨rfl,x,C⟩
 ·rw[aa q]at l
  have b1:0<j:=by
   have:=h.2.2.2.2
   cases r with
   |nil=>exact absurd rfl q
   |cons cg cy=>simp at this;omega
  have cq:((j:Int)==0)=false:=by simp;omega
  obtain⟨c,A⟩:∃c,(r.map fun b=>fK (tab+1)++S b (tab+1))=c:=⟨_,rfl⟩
  rw[A]at l
  have af:Hid (⟨#[123]⟩++fC c++fK tab++⟨#[125]⟩=a8/\(r.map fun b=>fK (tab+1)++S b (tab+1))=c/\c.length=j):=⟨l,A,by rw[<-A,aI];exact h.2.2.2.2⟩
  have bs:T.size+(1+(fC c).size+(tab+1)+1)<=140737488355328:=by
   have e:a8.size=1+(fC c).size+(tab+1)+1:=by rw[<-l,ax,ax,ax,jk];rfl
   omega
  have t:=aj bs
  clear l A z q bs b1
  go_in
  go_wp2_with fail
  refine(eD a _ T ⟨#[123]⟩ _ _ h.1 (by have:=t.out;show T.size+1<=_;omega)).mono ?_
  rintro e G ⟨rfl,x,C⟩
  obtain⟨a3,H,y⟩:=x.cells
  have a4:=y 2
  have bv:=x.putTab ((tab:Int)+1)
  have J:Hid (Pr a (.slice (some m) g k) (T++⟨#[123]⟩) ((tab+1:Nat):Int) (G.setCell ⟨a.heap.size,2,none⟩ (.int .i64 ((tab:Int)+1)))/\Kq a.heap.size w (G.setCell ⟨a.heap.size,2,none⟩ (.int .i64 ((tab:Int)+1)))):=⟨by rw[show((tab+1:Nat):Int)=(tab:Int)+1 by omega];exact bv,C.trans (Kq.putP _ _ _ _)⟩
  clear x C bv y
  go_wp2_with fail
  generalize G.setCell ⟨a.heap.size,2,none⟩ (.int .i64 ((tab:Int)+1))=ce at J⊢
  clear a3 H a4 z0 cc cd a9
  go_loopw [32] (fun a0 wr=>∃b:Nat,b<=j/\a0= .int .i64 b/\Hid (Pr a (.slice (some m) g k) (T++⟨#[123]⟩++fC (c.take b)) ((tab+1:Nat):Int) wr/\Kq a.heap.size w wr)) (fun a0 _=>j-(intOf a0).toNat)
  case atStart=>exact⟨0,by omega,rfl,by rw[show T++⟨#[123]⟩++fC (c.take 0)=T++⟨#[123]⟩ from ByteArray.append_empty];exact J.1,J.2⟩
  case round=>
   obtain⟨b,cr,rfl,p⟩:=hrel
   by_cases b4:b<j
   ·obtain⟨cb,B⟩:=bC h.2.2.2.2 b4
    obtain⟨s,rfl,bn,b5,bo⟩:=h.2.2.1 cb (bJ B)
    obtain⟨bE,rfl,bF⟩:=(h.2.1.below p.1.bel).get B
    have cu:(b:Int)<(j:Int):=by omega
    have ct:(0:Int)<=(b:Int):=by omega
    have br:c[b]?=some (fK (tab+1)++S s (tab+1)):=by rw[<-af.out.2.1,bq,B];rfl
    have al:=oB c b _ br
    have ba:=I1 c (b+1)
    have bb:(fC (c.take b)).size+(tab+2+(S s (tab+1)).size)<=(fC c).size:=by rw[al,ax,ax,jk]at ba;omega
    have ad:=eJ al bb
    have a6:=eJ bn bo
    have ar:b=0->wr.cell? bE=some (.int .i64 (s:Int)):=fun e=>by subst e;simpa [Addr.add] using bF
    clear al ba bb B br bn b5 bo
    have bx:∀d,Pr a (.slice (some m) g k) (T++⟨#[123]⟩++fC (c.take b)++fK (tab+1)) ((tab+1:Nat):Int) d->Kq a.heap.size wr d->Calls Tryz.prog 31 #[.pointer (some ⟨a.heap.size,0,none⟩),.int .i64 (s:Int)] d fun e w'=>e= .returned (.tuple #[])/\Hid (Pr a (.slice (some m) g k) (T++⟨#[123]⟩++fC (c.take (b+1))) ((tab+1:Nat):Int) w'/\Kq a.heap.size w w'):=by
     intro d o n
     refine(h.2.2.2.1 s (tab+1) _ d a6.1 a6.2 (by omega) o (by have:=ad.2;have:=t.out;rw[ax,ax,ax,jk];show T.size+1+_+_+_<=_;omega)).mono ?_
     rintro e bA ⟨rfl,b8,b6⟩
     refine⟨rfl,?_,(p.2.trans n).trans b6⟩
     rw[ad.out.1,<-be,<-be]
     exact b8
    have a7:Hid (∀d,Pr a (.slice (some m) g k) (T++⟨#[123]⟩++fC (c.take b)++fK (tab+1)) ((tab+1:Nat):Int) d->Kq a.heap.size wr d->Calls Tryz.prog 31 #[.pointer (some ⟨a.heap.size,0,none⟩),.int .i64 (s:Int)] d fun e w'=>e= .returned (.tuple #[])/\Hid (Pr a (.slice (some m) g k) (T++⟨#[123]⟩++fC (c.take (b+1))) ((tab+1:Nat):Int) w'/\Kq a.heap.size w w')):=bx
    have E:=Eo a (.slice (some m) g k) (T++⟨#[123]⟩++fC (c.take b)) (tab+1) wr p.1 (by omega) (by have:=ad.2;have:=t.out;rw[ax,ax];show T.size+1+_+_<=_;omega)
    clear bx
    by_cases b2:b=0
    ·subst b2
     have cn:=ar rfl
     clear ar
     go_wp2_with fail
     refine E.mono ?_
     rintro e d ⟨rfl,o,n⟩
     have ks:=a7.out d o n
     clear o n E
     go_wp2_with fail
     refine ks.mono ?_
     rintro e bA ⟨rfl,K⟩
     go_wp2_with fail
     exact⟨⟨1,by omega,by go_num,K⟩,by simp[intOf];omega⟩
    ·clear ar
     go_wp2_with fail
     refine E.mono ?_
     rintro e d ⟨rfl,o,n⟩
     have ks:=a7.out d o n
     clear o n E
     go_wp2_with fail
     refine ks.mono ?_
     rintro e bA ⟨rfl,K⟩
     go_wp2_with fail
     exact⟨⟨b+1,by omega,by go_num,K⟩,by simp[intOf];omega⟩
   ·obtain rfl:b=j:=by omega
    obtain⟨a3,H,y⟩:=p.1.cells
    have ca:wr.cell? ⟨a.heap.size,2,none⟩=some (.int .i64 ((tab:Int)+1)):=by rw[H];rw[show((tab+1:Nat):Int)=(tab:Int)+1 by omega]
    have a4:=y 2
    have av:=p.1.putTab (tab:Int)
    rw[bH (by rw[af.out.2.2];exact ah _)]at av
    have L:Hid (Pr a (.slice (some m) g k) (T++⟨#[123]⟩++fC c) (tab:Int) (wr.setCell ⟨a.heap.size,2,none⟩ (.int .i64 (tab:Int)))/\Kq a.heap.size w (wr.setCell ⟨a.heap.size,2,none⟩ (.int .i64 (tab:Int)))):=⟨av,p.2.trans (Kq.putP _ _ _ _)⟩
    have cp:(tab:Int)+1-1=(tab:Int):=by omega
    clear av H y a3
    go_wp2_with fail
    generalize wr.setCell ⟨a.heap.size,2,none⟩ (.int .i64 (tab:Int))=cf at L⊢
    refine(Eo a _ _ tab _ L.1 (by omega) (by have:=t.out;rw[ax,ax];show T.size+1+_+_<=_;omega)).mono ?_
    rintro e bD ⟨rfl,bw,bt⟩
    have a5:Hid (Pr a (.slice (some m) g k) (T++⟨#[123]⟩++fC c++fK tab) (tab:Int) bD/\Kq a.heap.size w bD):=⟨bw,L.2.trans bt⟩
    clear bw bt ca a4
    go_wp2_with fail
    refine(eD a _ _ ⟨#[125]⟩ _ _ a5.1 (by have:=t.out;rw[ax,ax,ax,jk];show T.size+1+_+_+1<=_;omega)).mono ?_
    rintro e cI ⟨rfl,b9,b7⟩
    go_wp2_with fail
    go_end0
    refine⟨rfl,?_,a5.2.trans b7⟩
    rw[<-af.out.1,<-be,<-be,<-be]
    exact b9
section
variable {E : Pe} {W w w' : World} {G : Option Nat} {L L1 : List Mb} {i j b q : Nat} {D : Fo} {zs : List Int} {B : Bxs} {R : Rws} {k : Int}
theorem Sq.cells(S:Sq E W G L w i L1 D zs B R):w.cell? ⟨E.pb,0,none⟩=some (.slice (some ⟨E.tb,0,none⟩) E.n E.cap)/\w.cell? ⟨E.pb,1,none⟩=some (.int .i64 i)/\∀j,w.frozen? ⟨E.pb,j,none⟩=false:=by
 obtain⟨b,a,_⟩:=S.row
 exact⟨by rw[au _ _ _ _ _ _ a];rfl,by rw[au _ _ _ _ _ _ a];rfl,fun j=>cA _ _ _ _ _ a⟩
theorem Sq.tok(S:Sq E W G L w i L1 D zs B R)(d:q<E.n):∃l,((E.tk q).k≠6->l=(E.tk q).l)/\w.cell? ⟨E.tb,q*6,none⟩=some (.int .i64 (E.tk q).k)/\w.cell? ⟨E.tb,q*6+1,none⟩=some (.int .i64 (E.tk q).f)/\w.cell? ⟨E.tb,q*6+2,none⟩=some (.int .i64 (E.tk q).t)/\w.cell? ⟨E.tb,q*6+3,none⟩=some (.int .i64 l)/\w.cell? ⟨E.tb,q*6+4,none⟩=some (.int .i64 (E.tk q).n)/\w.cell? ⟨E.tb,q*6+5,none⟩=some (.string (E.tk q).x):=by
 obtain⟨e,g,b,c⟩:=S.tks
 obtain⟨l,a⟩:=c q d
 exact⟨l,a.hl,by rw[au _ _ _ _ _ _ b];exact a.c0,by rw[au _ _ _ _ _ _ b];exact a.c1,by rw[au _ _ _ _ _ _ b];exact a.c2,by rw[au _ _ _ _ _ _ b];exact a.c3,by rw[au _ _ _ _ _ _ b];exact a.c4,by rw[au _ _ _ _ _ _ b];exact a.c5⟩
theorem aiD(S:Sq E W G L w i L1 D zs B R)(a:i<E.n):Calls Tryz.prog 199 #[pV E] w fun e w'=>e= .returned (.int .i64 (E.tk i).k)/\Below w.heap.size w w':=by
 have b:=S.cells
 obtain⟨g,f,h⟩:=S.tok a
 have d:(i:Int)<(E.n:Int):=by omega
 have c:(0:Int)<=(i:Int):=by omega
 clear S a
 go_in
 go_wp2_with fail
 go_quiet (fail)
 go_wp2
 go_ret
 exact⟨rfl,rfl,rfl,rfl,ah _,fun _ _=>rfl⟩
theorem Sq.kind(S:Hid (Sq E W G L w i L1 D zs B R))(c:(E.tk i).k=k)(b:i<E.n:=by omega):Calls Tryz.prog 199 #[pV E] w fun e w'=>e= .returned (.int .i64 k)/\Hid (Sq E W G L w' i L1 D zs B R):=c ▸ (aiD S b).mono fun _ _ a=>⟨a.1,Sq.below S a.2⟩
def TkW(E:Pe)(q:Nat)(w:World):Prop:=w.cell? ⟨E.tb,q*6,none⟩=some (.int .i64 (E.tk q).k)/\w.cell? ⟨E.tb,q*6+1,none⟩=some (.int .i64 (E.tk q).f)/\w.cell? ⟨E.tb,q*6+2,none⟩=some (.int .i64 (E.tk q).t)/\w.cell? ⟨E.tb,q*6+3,none⟩=some (.int .i64 (E.tk q).l)/\w.cell? ⟨E.tb,q*6+4,none⟩=some (.int .i64 (E.tk q).n)/\w.cell? ⟨E.tb,q*6+5,none⟩=some (.string (E.tk q).x)
theorem Sq.tkw(S:Sq E W G L w i L1 D zs B R)(d:q<E.n)(b:(E.tk q).k≠6):TkW E q w:=by
 obtain⟨l,c,e,f,g,a,h,j⟩:=S.tok d
 rw[c b]at a
 exact⟨e,f,g,a,h,j⟩
theorem Sq.next(S:Sq E W G L w i L1 D zs B R):Sq E W G L (w.setCell ⟨E.pb,1,none⟩ (.int .i64 ((i:Int)+1))) (i+1) L1 D zs B R:=
 S.to (o:=none) ((ag _ w).setCell S.lo.1 _) (fun b _ a _=>aK _ _ _ _ a) (fun c a=>(bI _ E.pb 1 _ _ _ a).trans (by rw[show((i+1:Nat):Int)=(i:Int)+1 by omega];rfl)) fun b a=>by cases a
theorem Sq.take(S:Hid (Sq E W G L w i L1 D zs B R))(v:(E.tk i).k=k)(s:i<E.n:=by omega)(r:k≠6:=by omega):Calls Tryz.prog 232 #[pV E] w fun e w'=>e= .returned (.agg (Kv k (E.tk i)))/\Hid (Sq E W G L w' (i+1) L1 D zs B R):=by
 subst v
 have d:=Sq.box (cs:=#[.int .i64 0,.int .i64 0,.int .i64 0,.int .i64 0,.int .i64 0,.string ⟨#[]⟩]) (t:=205) S
 have p:=d.cells
 have F:=S.lo
 have C:=S.low
 have b:=aj d.next
 have j:=b.cells
 have t:=b.tkw s r
 unfold TkW at t
 rw[show((i+1:Nat):Int)=(i:Int)+1 by omega]at j
 have A:(i:Int)<(E.n:Int):=by omega
 have z:(0:Int)<=(i:Int):=by omega
 have J:IntKind.i64.wrap ((i:Int)+1-1)=(i:Int):=by rw[bm];omega
 have K:IntKind.i64.wrap (i:Int)=(i:Int):=by rw[bm];omega
 have ad:IntKind.i64.wrap ((i:Int)+1)=(i:Int)+1:=by rw[bm];omega
 go_in
 go_wp2_with fail
 clear p d S
 generalize World.setCell _ _ _=h at b j t⊢
 have af:=FH (Sq.hd b)
 have ak:=aac (Sq.hd b)
 have H:E.pb≠w.heap.size:=by omega
 have I:E.tb≠w.heap.size:=by omega
 have m:=fun k (c:k≠w.heap.size) a=>aae (W:=h) c a
 unfold six at m
 go_region_held3 (fun o=>∀k,k≠w.heap.size->∀a,o.cell? ⟨k,a,none⟩=h.cell? ⟨k,a,none⟩) (first|with_reducible exact fun k c a=>m k c a _ _ _ _ _ _|exact fun _ _ _=>rfl) (fail)
 have g:=Sq.below (Sq.set (q:=5) (u:= .string (E.tk i).x) (Sq.set (q:=4) (u:= .int .i64 (E.tk i).n) (Sq.set (q:=3) (u:= .int .i64 (E.tk i).l) (Sq.set (q:=2) (u:= .int .i64 (E.tk i).t) (Sq.set (q:=1) (u:= .int .i64 (E.tk i).f) (Sq.set (q:=0) (u:= .int .i64 (E.tk i).k) b)))))) (aq (ag _ _))
 generalize World.drew _=y at g⊢
 go_wp2
 exact aH (du rfl _ _ w.heap.size _ _ _ _ rfl (Sq.hd g) Tryz.underlying205 rfl (by kernel_rfl)) rfl ⟨rfl,Sq.tail g⟩
theorem xz(k c:Int)(T:Tk)(w:World):Calls Tryz.prog 233 #[.int .i64 k,.agg (Kv c T)] w fun e w'=>e= .returned (.agg #[.int .i64 k,.int .i64 T.f,.int .i64 0,.int .i64 T.l,.int .i64 0,.int .i64 0,.string ⟨#[]⟩,s0,s0])/\Below w.heap.size w w':=by
 go_in
 go_wp2_with fail
 exact aH (du rfl _ _ (w.heap.size+1) _ _ _ _ rfl (Dy rfl).2.1 Tryz.underlying50 rfl (by kernel_rfl)) rfl ⟨rfl,(dh w _).alloc (by simp) _⟩
theorem Sq.node(S:Hid (Sq E W G L w i L1 D zs B R)){c:Int}{T:Tk}:Calls Tryz.prog 233 #[.int .i64 k,.agg (Kv c T)] w fun e w'=>e= .returned (.agg #[.int .i64 k,.int .i64 T.f,.int .i64 0,.int .i64 T.l,.int .i64 0,.int .i64 0,.string ⟨#[]⟩,s0,s0])/\Hid (Sq E W G L w' i L1 D zs B R):=(xz k c T w).mono fun _ _ a=>⟨a.1,Sq.below S a.2⟩
theorem Sq.isY(S:Hid (Sq E W G L w i L1 D zs B R))(b:(E.tk i).k=k)(c:i<E.n:=by omega):Calls Tryz.prog 200 #[pV E,.int .i64 k] w fun e w'=>e= .returned (.bool true)/\Hid (Sq E W G L w' (i+1) L1 D zs B R):=by
 have g:(k !=k)=false:=by simp
 have j:=S.lo.2.2.2
 have d:=Sq.kind S b c
 clear S b
 go_in
 go_wp2_with fail
 refine dG d fun w1 a=>?_
 have f:=a.cells
 have h:=a.lo.1
 go_wp2_with fail
 go_ret
 exact⟨rfl,a.next⟩
theorem Sq.isN(S:Hid (Sq E W G L w i L1 D zs B R))(b:(E.tk i).k≠k)(a:i<E.n:=by omega):Calls Tryz.prog 200 #[pV E,.int .i64 k] w fun e w'=>e= .returned (.bool false)/\Hid (Sq E W G L w' i L1 D zs B R):=by
 have f:((E.tk i).k !=k)=true:=by simp[b]
 have c:=Sq.kind S rfl a
 clear S b a
 go_in
 go_wp2_with fail
 refine dG c fun w1 d=>?_
 go_wp2_with fail
 go_ret
 exact⟨rfl,d⟩
end
def Rin(R:Rws)(t:TypeId)(v:Value)(xs:List Value):Prop:=(v=s0/\xs=[])\/(t,v,xs)∈R
section
variable {E : Pe} {W w w' : World} {G : Option Nat} {L L1 : List Mb} {i j b q : Nat} {D : Fo} {zs : List Int} {B : Bxs} {R : Rws} {k f t l op n : Int} {x : ByteArray}
theorem Rin.own{u:TypeId}{v:Value}{xs:List Value}(h:Rin R u v xs)(S:Sq E W G L w i L1 D zs B R):w.ownsRow W.heap.size u 1 v xs.length xs:=by
 rcases h with⟨rfl,rfl⟩|h
 ·exact dy _ _ _ _
 ·exact(S.rw _ h).2.1
theorem Sq.push(S:Sq E W G L w i L1 D zs B R){v:Value}(K:w.heap[E.pb]?=some (pC E i v)){c:World}{g r cap:Nat}(a1:L1.length+1=r)(x:Mb)(ak:c.ownsRow E.base 50 9 (.slice (some ⟨g,0,none⟩) r cap) r (im (L1++[x])))(n:w.grownBy c v.ownBlock)(I:v.ownBlock=some g\/g=w.heap.size)
  (on:Rin R 9 x.vn (x.N.nm.map Value.string)) (a3:Rin R 3 x.vk (x.N.ks.map iv)) (a0:x.N.ks=zs):
  Sq E W G L (c.setCell ⟨E.pb,2,none⟩ (.slice (some ⟨g,0,none⟩) r cap)) i (L1++[x]) (one {x.N with ks:=[]} D) [(L1.length:Int)] B []/\c.heap[E.pb]?=some (pC E i v):=by
 subst a1
 obtain⟨a5,f,p2⟩:=S.row
 obtain rfl:a5=v:=by rw[f]at K;cases K;rfl
 have J:=S.lo
 have q:=S.low
 obtain⟨ap,p,o,a4⟩:=S.tks
 have H:∀a,a<w.heap.size->¬Ng E w a->c.heap[a]?=w.heap[a]?:=fun a h l=>n.block a h fun e=>l ((I0 f).2 e.symm)
 have a2:¬Ng E w E.pb:=fun h=>by obtain⟨_,C,p,j⟩:=S.nlt h;rw[f]at j;cases j
 have A:=(H _ (by omega) a2).trans f
 have s:∀a,a<w.heap.size->a≠E.pb->¬Ng E w a->(c.setCell ⟨E.pb,2,none⟩ (.slice (some ⟨g,0,none⟩) (L1.length+1) cap)).heap[a]?=w.heap[a]?:=fun a m d k=>(aK _ _ _ _ d).trans (H a m k)
 have t:∀{ad af e size l:Nat}{am:Value}{an:List Value},w.ownsRow ad e size am l an->af<=ad->e≠50->e≠186->(c.setCell ⟨E.pb,2,none⟩ (.slice (some ⟨g,0,none⟩) (L1.length+1) cap)).ownsRow af e size am l an:=fun u q m d=>mh u fun g n k ar=>⟨s g ar (fun e=>ee u f (eA d) (e ▸ n)) fun l=>(by obtain⟨_,C,p,j⟩:=S.nlt l;exact ee u j (eA m) n),ch q k⟩
 have al:=bI c E.pb 2 _ _ (.slice (some ⟨g,0,none⟩) (L1.length+1) cap) A
 have z:=on.own S
 have y:=a3.own S
 have F:∀{a},Ng E (c.setCell ⟨E.pb,2,none⟩ (.slice (some ⟨g,0,none⟩) (L1.length+1) cap)) a->g=a:=fun h=>by simpa [Value.ownBlock] using(I0 al).1 h
 refine⟨⟨J,⟨ap,p,(s _ (aw o) (fun e=>by rw[e,f]at o;cases o) fun h=>?_).trans o,a4⟩,⟨_,al,by rw[aD];exact jA ak (ee ak A (by decide)) 2 _⟩,⟨fun a h=>?_,fun b h d=>?_⟩,fun ao hy=>?_,S.ac.add x.N (a0.trans S.tp.symm) fun a h=>?_,by rw[aaH,S.ac.len],S.bl.trans (((ag _ w).grown n (by omega) fun a av=>(p2.lt a av).1).setCell J.1 _),fun a m d k=>(s a (by omega) d fun h=>?_).trans (S.fz a m d k),fun b h=>⟨(S.bx b h).1,(S.bx b h).2.1,(s _ (aw (S.bx b h).2.2) (by have:=(S.bx b h).1;omega) (S.nb.2 b h)).trans (S.bx b h).2.2⟩,S.bd,fun r h=>(by cases h),.nil⟩,A⟩
 ·obtain⟨_,C,p,j⟩:=S.nlt h
  rw[o]at j;cases j
 ·obtain rfl:=F h
  rcases I with e|e
  ·exact S.nb.1 g ((I0 f).2 e)
  ·exact .inr (by omega)
 ·obtain rfl:=F d
  rcases I with e|e
  ·exact S.nb.2 b h ((I0 f).2 e)
  ·have:=aw (S.bx b h).2.2
   omega
 ·rcases List.mem_append.1 hy with hy|hy
  ·exact⟨t (S.each ao hy).1 (ah _) (by decide) (by decide),t (S.each ao hy).2 (ah _) (by decide) (by decide)⟩
  ·obtain rfl:=List.mem_singleton.1 hy
   rw[aI]at z y
   exact⟨t z q.1 (by decide) (by decide),t y q.1 (by decide) (by decide)⟩
 ·rcases h with h|h
  ·exact(z.lt a h).1
  ·exact(y.lt a h).1
 ·rcases S.nb.1 a h with e|e
  ·exact k e
  ·omega
theorem Sq.add(S:Hid (Sq E W G L w i L1 D zs B R)){vn vk:Value}{nm:List ByteArray}(bd:(vn=s0/\nm=[])\/(9,vn,nm.map Value.string)∈R)(af:Rin R 3 vk (zs.map iv))(bw:L1.length<=50000000)(cb:1<=i:=by omega)(ce:i<=E.n:=by omega):
  Calls Tryz.prog 236 #[pV E,.agg #[.int .i64 k,.int .i64 f,.int .i64 t,.int .i64 l,.int .i64 op,.int .i64 n,.string x,vn,vk]] w fun e w'=>∃z,e= .returned (.int .i64 z)/\∃L2,Hid (Sq E W G L w' i L2 (one ⟨k,f,(E.tk (i-1)).t,l,op,n,x,nm,[]⟩ D) [z] B []):=by
 have am:Rin R 9 vn (nm.map Value.string):=bd.imp (fun u=>⟨u.1,by rw[u.2];rfl⟩) id
 clear bd
 obtain⟨q,rfl⟩:∃q,i=q+1:=⟨i-1,by omega⟩
 obtain⟨j,o,rfl⟩:=bG (am.own S)
 obtain⟨h,m,rfl⟩:=bG (af.own S)
 simp only[aI]at am af⊢
 rw[lm]
 obtain⟨c,al⟩:=aE L1.length
 obtain⟨r,bE⟩:=aE nm.length
 obtain⟨p,bD⟩:=aE zs.length
 rw[al]at bw
 rw[bE]at am⊢
 rw[bD]at af⊢
 have cl:=S.lo
 have bA:=S.low
 have bv:((q+1:Nat):Int)=(q:Int)+1:=by omega
 have K:=fun s=>(Sq.below S (dh w s)).cells
 have ao:∀s,(w.alloc s).cell? ⟨E.tb,q*6+2,none⟩=some (.int .i64 (E.tk q).t):=fun s=>by
  obtain⟨l,bA,ct,cu,ao,cw,cx,cy⟩:=(Sq.below S (dh w s)).tok (q:=q) (by omega)
  exact ao
 rw[bv]at K
 have cd:(q:Int)<(E.n:Int):=by omega
 have cc:(0:Int)<=(q:Int):=by omega
 have cm:IntKind.i64.wrap ((q:Int)+1-1)=(q:Int):=by rw[bm];omega
 have cp:IntKind.i64.wrap (q:Int)=(q:Int):=by rw[bm];omega
 have bn:=Sq.box (cs:=pu ⟨k,f,(E.tk q).t,l,op,n,x,nm,zs⟩ (.slice j r o) (.slice h p m)) (t:=50) S
 go_in
 go_wp2_with fail
 go_region_held3 (fun w'=>w'.cell? ⟨E.pb,0,none⟩=some (.slice (some ⟨E.tb,0,none⟩) E.n E.cap)/\w'.cell? ⟨E.pb,1,none⟩=some (.int .i64 ((q:Int)+1))/\w'.cell? ⟨E.tb,q*6+2,none⟩=some (.int .i64 (E.tk q).t)) (exact⟨(K _).1,(K _).2.1,ao _⟩) (fail)
 have J:=Sq.below bn (aq (ag _ _))
 have bk:(w.alloc (.cells (pu ⟨k,f,(E.tk q).t,l,op,n,x,nm,zs⟩ (.slice j r o) (.slice h p m)) 50)).drew.heap.size=w.heap.size+1:=db _ _
 generalize World.drew _=g at J bk⊢
 clear bn K ao
 obtain⟨v,ad,a3⟩:=J.row
 obtain⟨A,H,rfl⟩:=bG a3
 have a2:g.cell? ⟨E.pb,2,none⟩=some (.slice A L1.length H):=by rw[au _ _ _ _ _ _ ad];rfl
 rw[al]at a2 ad a3
 go_wp2_with fail
 have a4:=Sq.hd J
 refine wp_region_held_drew (S:=fun a0=>a0.heap[w.heap.size]?=some (.cells (pu ⟨k,f,(E.tk q).t,l,op,n,x,nm,zs⟩ (.slice j r o) (.slice h p m)) 50 (0,0))) (by kernel_rfl) a4 (fun hS=>?_)
 simp only[gG,co,dB,Nat.reduceAdd,je,jf,jg,er,fl]
 refine cj 0 (.pointer (some ⟨E.pb,0,none⟩)) rfl rfl (by kernel_rfl) (fun _ _ _=>id) hS (fun w' y=>by go_simp) ?_
 simp only[List.set]
 refine cj 1 (.pointer (some ⟨E.pb,0,none⟩)) rfl rfl (by kernel_rfl) (fun _ _ _=>id) hS (fun w' y=>by go_simp) ?_
 simp only[List.set]
 refine cj 2 (.pointer (some ⟨E.pb,0,none⟩)) rfl rfl (by kernel_rfl) (fun _ _ _=>id) hS (fun w' y=>by go_simp) ?_
 simp only[List.set]
 refine cj 3 (.pointer (some ⟨E.pb,2,none⟩)) rfl rfl (by kernel_rfl) (fun _ _ _=>id) hS (fun w' y=>by go_simp) ?_
 simp only[List.set]
 refine eK 5 23 (.agg (pu ⟨k,f,(E.tk q).t,l,op,n,x,nm,zs⟩ (.slice j r o) (.slice h p m))) rfl rfl (by kernel_rfl) (by kernel_rfl) (by kernel_rfl) (fun _ _ _ u=>u) (by rfl) hS (fun w' y=>by have z:=bz (N:=⟨k,f,(E.tk q).t,l,op,n,x,nm,zs⟩) y;go_simp) ?_
 simp only[Act.put,aB,aA,aC]
 have bx:=a2
 refine oc (S:=fun a0=>a0.cell? ⟨E.pb,2,none⟩=some (.slice A c H)) (C:=fun I=>!(I==7||I==8||I==9||I==10)) (i:=4) (v:= .slice A c H) rfl (sA (by kernel_rfl)) (fun _ _ _ u=>u) ?hC _ _ _ _ (sB rfl (by kernel_rfl)) (List.contains_iff_mem.1 (by kernel_rfl)) (Or.inl ⟨by rfl,fun w' y=>by go_simp⟩) hS bx ?_
 case hC=>
  intro I cr bc b
  simp only[Bool.not_eq_false',sD,ib]at b
  rcases b with((rfl|rfl)|rfl)|rfl
  ·obtain rfl:=bh bc
   exact⟨{on:=4,ground:=Ground.data},by simp,rfl,rfl⟩
  all_goals
   obtain rfl:=bh bc
   exact⟨{on:=4,ground:=Ground.phase},by simp,rfl,rfl⟩
 simp only[Act.put,aB,aA,aC]
 refine dI (i:=6) (by kernel_rfl) rfl (fun d a=>?_)
 go_simp
 have a1:∀s,Below g.heap.size g (g.drew.alloc s):=fun s=>(aq (ag _ _)).alloc (by simp) _
 refine a _ _ (((a1 _).block _ (aw a4)).trans a4) (fun _=>ai (a1 _) a2) ?_
 clear a d hS a1
 try simp only[aB,aA,aC]
 have F:=aq (dh g (.cells (pu ⟨k,f,(E.tk q).t,l,op,n,x,nm,zs⟩ (.slice j r o) (.slice h p m)) 50))
 have bo:(g.alloc (.cells (pu ⟨k,f,(E.tk q).t,l,op,n,x,nm,zs⟩ (.slice j r o) (.slice h p m)) 50)).drew.heap[g.heap.size]?=_:=ay g _
 generalize World.drew (World.alloc _ _)=bs at F bo⊢
 have b7:=Sq.below J F
 have b6:=(F.block _ (aw ad)).trans ad
 have cf:=J.low
 obtain⟨bF,b0,b1,b2,b5⟩:=dD tA
 refine dI (i:=7) (by kernel_rfl) rfl (fun d a=>?_)
 refine step_append_lies _ (by rfl) _ _ 23 (by rfl) E.base 50 bF _ 9 112 Tryz.underlying23 b0 b1 b2 b5 rfl (by decide) (.slice A c H) c _ (by rfl) (cF a3 F) ⟨g.heap.size,0,none⟩ 1 1 (pu ⟨k,f,(E.tk q).t,l,op,n,x,nm,zs⟩ (.slice j r o) (.slice h p m)).toList (by rw[bk];rfl) rfl (World.news_of_block bo) (by intro cz bf;simp at bf;rcases bf with rfl|rfl|rfl|rfl|rfl|rfl|rfl|rfl|rfl<;>rfl) (by decide) (by unfold maxLen;omega) (by omega) (by have:=F.size;omega) bs.heap.size rfl ?_
 intro a9 a8 a7 bl bb ba cg
 obtain⟨a6,a5⟩:=b7.push b6 (by rw[al]) ⟨⟨k,f,(E.tk q).t,l,op,n,x,nm,zs⟩,.slice j r o,.slice h p m⟩ (by rw[og];exact bl) bb ba am af rfl
 have br:=Sq.hd a6
 have ap:=br
 rw[aK _ _ _ _ (by show w.heap.size≠E.pb;omega)]at ap
 have b9:a7.cell? ⟨E.pb,2,none⟩=some (.slice A c H):=by rw[au _ _ _ _ _ _ a5];rfl
 have ca:a7.frozen? ⟨E.pb,2,none⟩=false:=cA _ _ _ _ _ a5
 have ar:=Sq.tail a6
 clear a6 bl bb ba
 refine a _ _ ap (fun b=>by cases b) ?_
 clear a d
 simp only[Act.put,aB,aA,aC]
 refine dI (i:=8) (by kernel_rfl) rfl (fun d a=>?_)
 go_simp
 refine a _ _ ap (fun b=>by cases b) ?_
 clear a d
 try simp only[aB,aA,aC]
 refine dI (i:=9) (by kernel_rfl) rfl (fun d a=>?_)
 go_simp
 refine a _ _ ap (fun b=>by cases b) ?_
 clear a d
 try simp only[aB,aA,aC]
 refine dI (i:=10) (by kernel_rfl) rfl (fun d a=>?_)
 go_simp
 refine a _ _ br (fun b=>by cases b) ?_
 clear a d
 refine qi (by kernel_rfl) ?_ _
 have bt:(a7.setCell ⟨E.pb,2,none⟩ (.slice (some ⟨a9,0,none⟩) (c+1) a8)).cell? ⟨E.pb,2,none⟩=some (.slice (some ⟨a9,0,none⟩) (c+1) a8):=by rw[au _ _ _ _ _ _ (bI _ E.pb 2 _ _ _ a5)];rfl
 rw[al]at ar
 generalize World.setCell _ _ _=b8 at ar bt⊢
 have cq:IntKind.i64.wrap ((c:Int)+1-1)=(c:Int):=by rw[bm];omega
 go_wp2_with fail
 go_ret
 exact⟨c,by go_num,_,ar⟩
end
def Trw(st t:TypeId):Prop:=∃a b,Tryz.prog.underlying st=some (.slice t)/\(Tryz.prog.info? t).map (fun i=>(i.zero,i.size,i.bytes))=some (some a,1,b)/\a.cells.size=1/\b<=100
theorem tI:Trw 31 3:=⟨.int .i64 0,8,Tryz.underlying31,by kernel_rfl,rfl,by decide⟩
theorem tS:Trw 48 9:=⟨.string ⟨#[]⟩,16,Tryz.underlying48,by kernel_rfl,rfl,by decide⟩
section
variable {E : Pe} {W w w' : World} {G : Option Nat} {L L1 : List Mb} {i j b q : Nat} {D : Fo} {zs : List Int} {B : Bxs} {R : Rws} {k : Int} {t : TypeId} {cs : Array Value}
theorem Sq.rd(S:Hid (Sq E W G L w i L1 D zs ((b,t,cs)::B) R)):(∀q,w.cell? ⟨b,q,none⟩=cs[q]?)/\(∀q,w.frozen? ⟨b,q,none⟩=false)/\b<w.heap.size:=by
 have a:=Sq.hd S
 exact⟨fun q=>by rw[au _ _ _ _ _ _ a],fun q=>cA _ _ _ _ _ a,aw a⟩
theorem Sq.fin(S:Hid (Sq E W G L w i L1 D zs B R)):Hid (Sq E W G L w i L1 D zs [] R):=S.sub (fun b a=>by cases a) xi
theorem Sq.fin0(S:Hid (Sq E W G L w i L1 D zs B R)):Hid (Sq E W G L w i L1 D zs [] []):=Sq.fin (Sq.less S (List.nil_sublist _))
theorem Sq.ln(S:Hid (Sq E W G L w i L1 D zs B R)):L1.length=L.length+D.sz:=S.ac.len
theorem ahc{t:Int}{b:Bool}(a:kC t=b)(w:World):Calls Tryz.prog 258 #[.int .i64 t] w fun e w'=>e= .returned (.bool b)/\w'=w:=a ▸ pp w t
theorem ahd(k:Int)(w:World):Calls Tryz.prog 272 #[.int .i64 k] w fun e w'=>e= .returned (.int .i64 (J3 k))/\w'=w:=by
 unfold J3
 by_cases a:k=25
 ·subst a
  go_in
  go_wp2
  go_ret
  exact⟨rfl,rfl⟩
 by_cases b:k=50
 ·subst b
  go_in
  go_wp2
  go_ret
  exact⟨rfl,rfl⟩
 by_cases c:k=69
 ·subst c
  go_in
  go_wp2
  go_ret
  exact⟨rfl,rfl⟩
 ·rw[aa a,aa b,aa c]
  have d:(k==25)=false:=by simp[a]
  have f:(k==50)=false:=by simp[b]
  have g:(k==69)=false:=by simp[c]
  go_in
  go_wp2
  go_ret
  exact⟨rfl,rfl⟩
theorem ajE{t:Int}{b:Bool}(a:dw t=b)(w:World):Calls Tryz.prog 227 #[.int .i64 t] w fun e w'=>e= .returned (.bool b)/\w'=w:=a ▸ pq w t
theorem ajF(a b c d e v5:Value)(w:World):(Instr.field 205 (.agg #[a,b,c,d,e,v5]) 0).run Tryz.prog w= .ok a w:=by kernel_rfl
theorem Sq.rn{av:Option Addr}{n cv:Nat}{xs:List Value}(S:Hid (Sq E W G L w i L1 D zs B ((t,.slice av n cv,xs)::R))):xs.length=n:=by
 obtain⟨b,c,a⟩:=bG (S.rw _ (.head _)).2.1
 simp at a
 exact a.2.1.symm
theorem Sq.at2{r:TypeId×Value×List Value}{a:Option Addr}{n c q:Nat}{k:List Int}{x:Int}(S:Hid (Sq E W G L w i L1 D zs B (r::(3,.slice a n c,k.map iv)::R)))(h:k[q]?=some x):∃g,a=some ⟨g,0,none⟩/\w.cell? ⟨g,q,none⟩=some (.int .i64 x):=by
 have j:=(S.rw _ (.tail _ (.head _))).2.1
 have e:=(List.getElem?_eq_some_iff.1 h).1
 rcases bg j with⟨d,_⟩|⟨g,l,f⟩
 ·simp at d;rw[d]at e;simp at e
 ·simp only[Value.slice.injEq]at f
  obtain⟨rfl,_,_⟩:=f
  have b:=j.cells rfl q (.int .i64 x) (by rw[bq,h];rfl)
  rw[show(⟨g,0,none⟩:Addr).add q=⟨g,q,none⟩ by unfold Addr.add;split<;>simp_all]at b
  exact⟨g,rfl,b⟩
section
variable {ops : Array Oper} {rest : List Oper} {o : Oper} {a : Act} {Q : Exit → Act → World → Prop} {av : Option Addr} {n cv : Nat} {xs : List Value}
theorem Sq.apG{st:TypeId}{u:Value}{m:Nat}(T:Trw st t)(S:Hid (Sq E W G L w i L1 D zs B ((t,.slice av n cv,xs)::R)))(ak:n<=50000000)(C:u.oneCell'=true)(v:o.guard=none)(s x:Operand)(z:o.op= .call {callee:= .builtin .append,args:=#[s,x],argTypes:=#[st,st]})(A:a.eval s= .slice av n cv)(H:a.eval x= .slice (some ⟨m,0,none⟩) 1 1)(d:w.heap.size=m)
  (h:∀g cap w1,Hid (Sq E W G L w1 i L1 D zs B ((t,.slice (some ⟨g,0,none⟩) (n+1) cap,xs++[u])::R))->wpList Tryz.prog ops Q rest (a.put o.dst (.slice (some ⟨g,0,none⟩) (n+1) cap)) w1):wpList Tryz.prog ops Q (o::rest) a (w.alloc (.cells #[u] t)):=by
 subst d
 obtain⟨af,c,j,k,l,p⟩:=T
 obtain⟨ad,y,I,J,K⟩:=dD k
 have b:=Sq.below S (dh w (.cells #[u] t))
 have f:=(b.rw _ (.head _)).2.1
 simp only[Sq.rn S]at f
 have d:(n+1)*c<=50000001*100:=Nat.mul_le_mul (by omega) p
 refine wpList_append_own_at _ v s x st z W.heap.size t ad af 1 c j y I J K l (by decide) _ _ _ A f ⟨w.heap.size,0,none⟩ 1 1 [u] H rfl (cell_one_new _ _ _) (by intro al F;rw[List.mem_singleton.1 F];exact C) (by unfold maxLen;omega) (by omega) (Sq.low b).2 ?_
 intro am w1 e r _ q
 obtain⟨g,cap,rfl⟩:=ownsRow_succ e
 exact h g cap w1 (Sq.put b r (by simpa [Sq.rn S] using e) q)
theorem Sq.app{l:List Int}{z:Int}(S:Hid (Sq E W G L w i L1 D (l++[z]) B ((3,.slice av n cv,xs)::R)))(r:L1.length<=50000000)(f:o.guard=none)(s x:Operand)(h:o.op= .call {callee:= .builtin .append,args:=#[s,x],argTypes:=#[31,31]})(j:a.eval s= .slice av n cv)(k:a.eval x= .slice (some ⟨w.heap.size,0,none⟩) 1 1)(m:xs=l.map iv)
  (c:∀g cap w1,Hid (Sq E W G L w1 i L1 D (l++[z]) B ((3,.slice (some ⟨g,0,none⟩) (n+1) cap,(l++[z]).map iv)::R))->wpList Tryz.prog ops Q rest (a.put o.dst (.slice (some ⟨g,0,none⟩) (n+1) cap)) w1):wpList Tryz.prog ops Q (o::rest) a (w.alloc (.cells #[.int .i64 z] 3)):=by
 subst m
 have d:=Sq.rn S
 have e:=congrArg List.length S.tp
 have p:=D.len_le
 have q:=S.ac.len
 rw[Fo.tops_len,aD]at e
 rw[aI]at d
 exact Sq.apG tI S (by omega) rfl f s x h j k rfl fun g cap w1 b=>c g cap w1 (by rw[dm];exact b)
end
end
abbrev tkV(k:Int)(T:Tk):Value:= .agg (Kv k T)
abbrev fnV(T:Tk):Value:= .agg #[.int .i64 36,.int .i64 T.f,.int .i64 0,.int .i64 T.l,.int .i64 0,.int .i64 0,.string ⟨#[]⟩,s0,s0]
abbrev ndA(k op n:Int)(x:ByteArray)(T:Tk)(vn vk:Value):Array Value:=#[.int .i64 k,.int .i64 T.f,.int .i64 0,.int .i64 T.l,.int .i64 op,.int .i64 n,.string x,vn,vk]
section
variable (E : Pe)
abbrev CX(p:Int)(i:Nat)(x:Fo)(j:Nat):Prop:=CI E 237 #[pV E,.int .i64 p] i x j
abbrev CU(i:Nat)(x:Fo)(j:Nat):Prop:=CI E 262 #[pV E] i x j
abbrev CB(i:Nat)(x:Fo)(j:Nat):Prop:=CI E 241 #[pV E] i x j
abbrev CK(i:Nat)(x:Fo)(j:Nat):Prop:=CI E 230 #[pV E] i x j
abbrev CLx(i:Nat)(x:Fo)(j:Nat):Prop:=CL E 235 #[pV E] i x j
abbrev CSs(i:Nat)(x:Fo)(j:Nat):Prop:=CL E 162 #[pV E,.int .i64 43] i x j
abbrev CBd(T:Tk)(i:Nat)(x:Fo)(j:Nat):Prop:=CI E 238 #[pV E,fnV T] i x j
abbrev CBr(k:Int)(i:Nat)(x:Fo)(j:Nat):Prop:=CI E 239 #[pV E,tkV k (E.tk i)] (i+1) x j
inductive Wu (i:Nat):FuncId->Fo->Nat->Prop
 |leaf {k nk:Int}:(k=24/\nk=20)\/(k=29/\nk=21)\/(k=17/\nk=22)\/(k=49/\nk=27)->(E.tk i).k=k->i+1<E.n->Wu i 262 (one (kD nk (E.tk i) (E.tk i).t) .nil) (i+1)
 |int:(E.tk i).k=2->i+1<E.n->Wu i 262 (one (nd 23 (E.tk i) (E.tk i).t 0 (E.tk i).n z0 []) .nil) (i+1)
 |word {k nk:Int}:(k=3/\nk=24)\/(k=4/\nk=25)->(E.tk i).k=k->i+1<E.n->Wu i 262 (one (nd nk (E.tk i) (E.tk i).t 0 0 (E.tk i).x []) .nil) (i+1)
 |pre {k:Int}{x:Fo}{j:Nat}:k=25\/k=50\/k=62\/k=69->(E.tk i).k=k->i<E.n->CU E (i+1) x j->i+1<=j->j<=E.n->Wu i 262 (one (nd 30 (E.tk i) (E.tk (j-1)).t (J3 k) 0 z0 []) x) j
 |fn {x:Fo}{j:Nat}:(E.tk i).k=18->i<E.n->CBd E (E.tk i) (i+1) x j->Wu i 262 x j
 |base {k:Int}{x:Fo}{j:Nat}:k=1\/k=40->(E.tk i).k=k->i<E.n->CB E i x j->Wu i 262 x j
 |block {k:Nat}{x:Fo}:(E.tk i).k=42->i<E.n->CSs E (i+1) x k->(E.tk k).k=43->k+1<E.n->Wu i 230 (one (kD 1 (E.tk i) (E.tk k).t) x) (k+1)
end
theorem mw{E:Pe}{i j:Nat}{f:FuncId}{X:Fo}(c:Wu E i f X j):CI E f #[pV E] i X j:=by
 cases c
 case' leaf c _ _=>rcases c with⟨rfl,rfl⟩|⟨rfl,rfl⟩|⟨rfl,rfl⟩|⟨rfl,rfl⟩
 case' word c _ _=>rcases c with⟨rfl,rfl⟩|⟨rfl,rfl⟩
 case' pre c _ _ _ _ _=>rcases c with rfl|rfl|rfl|rfl
 case' base c _ _ _=>rcases c with rfl|rfl
 all_goals
  intro n l m c h
  have a:=aj c
  clear c
  try simp only[dq,Fo.sz_app,Fo.sz]at h
  go_in
  repeat' (go_wp2_with fail;first
   |(go_at_call 199;refine dG (Sq.kind a (by assumption)) fun d a=>?_)
   |(go_at_call 232;refine dG (Sq.take (by first|exact a|exact Sq.set a) (by assumption)) fun d a=>?_;(try have g:=Sq.rd a))
   |(go_at_call 258;first|refine dj (ahc (b:=true) (by decide) _) ?_|refine dj (ahc (b:=false) (by decide) _) ?_)
   |(go_at_call 272;refine dj (ahd _ _) ?_)
   |(go_at_call 233;refine dG (Sq.node (by first|exact a|exact Sq.box a)) fun d a=>?_;(try have g:=Sq.rd a))
   |(go_at_call 236;refine(Sq.add (by first|exact a|exact Sq.lit1 (Sq.box a)|exact Sq.box a) (.inl ⟨rfl,rfl⟩) (by first|exact .inl ⟨rfl,rfl⟩|exact .inr (.head _)) (by have:=Sq.ln a;simp only[Fo.sz_app,Fo.sz]at this;omega)).mono ?_;rintro q d ⟨k,rfl,e,a⟩)
   |(refine Sq.cq (by first|exact a|exact Sq.box a) (by assumption) (by have:=Sq.ln a;simp only[Fo.sz_app,Fo.sz]at this;omega) ?_;(first|rintro d _ e _ _ ⟨k,rfl,rfl,rfl⟩ a|rintro d _ e r _ ⟨o,p,rfl,rfl⟩ a);(try have g:=Sq.rd a)))
  all_goals
   go_wp2_with fail
   go_ret
   exact⟨_,_,_,_,rfl,⟨_,rfl,rfl,rfl⟩,Sq.fin a⟩
