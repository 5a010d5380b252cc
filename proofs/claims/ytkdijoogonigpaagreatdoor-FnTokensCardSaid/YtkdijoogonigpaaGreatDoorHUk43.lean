import Derived.Test.YtkdijoogonigpaaGreatDoorHUk42
import Derived.Test.YtkdijoogonigpaaGreatDoorHUk40
set_option linter.all false
set_option maxRecDepth 100000
set_option maxHeartbeats 6400000
open Go.Value renaming slice->M,int->Z
open Option renaming none->O,some->Q
open Go.Proofs.Tryz renaming prog->R
open Go.Obj renaming cells->S
open Go renaming World->U,Value->Y,maxLen->Ax
open Go.RowKit renaming Below->V
open Bool renaming false->X
namespace Go.Proofs.YtkdijoogonigpaaGreatDoor
open Go.RowKit Go.Maps Go.WideMaps
theorem acw:sH 93 1 10 5 5:=acq (mb:=3) (me:=2) (cb:=2) (ce:=1) (by decide) (by decide) (by decide) (acp (me:=2) (ce:=1) (by decide) (by decide) (wh (by decide))) (wh (by decide))
theorem D7{d:Int}(a:d<=0):sH 102 d 16 1 7:=J9 (ms:=15) (cs:=6) (by decide) (by decide) (aeo (C:=5) a (by decide) (by decide) (acw.weak.up (by decide) (by decide) (by decide) (by decide)))
theorem abK:∀(b:Nat)(d:Int),b<=1000->d<=0-> -1000+(b:Int)<=d->FBl 101 d (17+b) 4 (10+((b / 2:Nat):Int)) b:=by
 intro b
 induction b using Nat.strongRecOn with
 |_ b e=>
  intro d f a g;rcases be b 2 with hb2|hb2
  ·refine Ad (me:=2) (mk:=16) (mr:=15) (ce:=1) (ck:=7) (cr:=0) (by omega) (by omega) (by omega) (wh a) (D7 (by omega)).weak (fun c=>by omega)
  refine Ad (me:=2) (mk:=16) (mr:=15+b) (ce:=1) (ck:=7) (cr:=9+((b / 2:Nat):Int)) (by omega) (by omega) (by omega) (wh a) (D7 (by omega)).weak (fun c=>?_);have:=e (b-2) (by omega) (d-1) (by omega) (by omega) (by omega);rw[show((b-2:Nat):Int)=(b:Int)-2 by omega,show(17:Int)+((b:Int)-2)=15+b by omega,show(10:Int)+(((b-2) / 2:Nat):Int)=9+((b / 2:Nat):Int) by omega]at this;exact this
theorem FBl.all{a:FuncId}{d m s c:Int}(e:FBl a d m s c 140):sH a d m s c:=fun _ _ _ _ _ _ b=>e b (by have:=b.sum;omega)
structure Lv (d m Ce Ck Cr:Int):Prop where
 e:FB 98 d m 1 Ce
 k:sH 102 d m 1 Ck
 r:sH 101 d m 4 Cr
theorem lv0:Lv 0 160 1 7 80:=⟨(wh (by decide)).up (by decide) (by decide) (by decide) (by decide),(D7 (by decide)).up (by decide) (by decide) (by decide) (by decide),(FBl.all (abK 140 0 (by decide) (by decide) (by decide))).up (by decide) (by decide) (by decide) (by decide)⟩
theorem lvS{d m a b c cc cb:Int}(h:Lv d m a b c)(G:0<=d/\d<=10)(H:20<=m/\m<=1200)(B:1<=a/\1<=b/\1<=c)(F:a+10<=cc/\b+1<=cc)(C:cc+4<=cb/\b+3<=cb/\c+1<=cb/\cb<=3000):FB 75 (d+1) (m+9) 6 (cb+5)/\Lv (d+1) (m+10) (cc+1) (cb+6) cb:=by
 have g:d+1-1=d:=by omega
 have f:FB 98 (d+1-1) m 1 a:=by rw[g];exact h.e
 have l:sH 102 (d+1-1) m 1 b:=by rw[g];exact h.k
 have s:sH 101 (d+1-1) m 4 c:=by rw[g];exact h.r
 have i:FB 125 (d+1-1) (m+1) 2 (a+1):=acp (by omega) (by omega) f;have o:sH 93 (d+1) (m+3) 5 (a+1+3):=acq (by omega) (by omega) (by omega) i f;have x:sH 128 (d+1) (m+1) 10 (a+10):=adH (by omega) (by omega) (by omega) f;have p:sH 99 (d+1) (m+1) 2 (b+1):=fnB (by omega) (by omega) (by omega) l.weak;have j:FB 98 (d+1) (m+5) 1 (cc+1):=adI (mc:=m+4) (cc:=cc) (by omega) (by omega) (by omega) f i (o.up (by omega) (by omega) (by omega) (by omega)) (x.up (by omega) (by omega) (by omega) (by omega)) (p.up (by omega) (by omega) (by omega) (by omega));have u:FB 100 (d+1) (m+2) 4 (a+1+3):=abp (by omega) (by omega) (by omega) i f;have n:sH 101 (d+1) (m+6) 4 cb:=FBl.all (Ad (me:=m+5) (mk:=m) (ce:=cc+1) (ck:=b) (mr:=m) (cr:=c) (by omega) (by omega) (by omega) j l.weak (fun _=>fun _ _ _ _ _ _ A _=>s A));have hS:FB 75 (d+1) (m+9) 6 (cb+5):=afH (mm:=m+7) (by omega) (by omega) (by omega) (j.up (by omega) (by omega) (by omega) (by omega)) (p.weak.up (by omega) (by omega) (by omega) (by omega)) (u.up (by omega) (by omega) (by omega) (by omega)) (o.weak.up (by omega) (by omega) (by omega) (by omega)) (acw.weak.up (by decide) (by omega) (by omega) (by omega)) (n.up (by omega) (by omega) (by omega) (by omega)) (l.up (by omega) (by omega) (by omega) (by omega));have q:sH 102 (d+1) (m+10) 1 (cb+5+1):=J9 (ms:=m+9) (cs:=cb+5) (by omega) (by omega) hS;exact⟨hS,j.up (by omega) (by omega) (by omega) (by omega),q.up (by omega) (by omega) (by omega) (by omega),n.up (by omega) (by omega) (by omega) (by omega)⟩
theorem Ll{d:Int}(g:1<=d/\d<=5):FB 75 d 220 6 130:=by
 have a:=lvS (cc:=11) (cb:=81) lv0 (by decide) (by decide) (by decide) (by decide) (by decide);have b:=lvS (cc:=88) (cb:=92) a.2 (by decide) (by decide) (by decide) (by decide) (by decide);have c:=lvS (cc:=99) (cb:=103) b.2 (by decide) (by decide) (by decide) (by decide) (by decide);have e:=lvS (cc:=110) (cb:=114) c.2 (by decide) (by decide) (by decide) (by decide) (by decide);have f:=lvS (cc:=121) (cb:=125) e.2 (by decide) (by decide) (by decide) (by decide) (by decide);rcases(show d=1\/d=2\/d=3\/d=4\/d=5 by omega) with rfl|rfl|rfl|rfl|rfl
 ·exact a.1.up (by decide) (by decide) (by decide) (by decide)
 ·exact b.1.up (by decide) (by decide) (by decide) (by decide)
 ·exact c.1.up (by decide) (by decide) (by decide) (by decide)
 ·exact e.1.up (by decide) (by decide) (by decide) (by decide)
 ·exact f.1.up (by decide) (by decide) (by decide) (by decide)
section
variable {E : Bs} {W W' : World} {y z : Int}
theorem Cu.start(a:Cu E W y)(n:y<=50)(l:Int)(r:Rwx)(h:TO r.t)(g:W.ownsRow E.base r.t 1 r.v r.xs.length r.xs):Bd ⟨E.base,E.cb,W.heap.size,E.a0,E.len,E.cap,50,0⟩ (W.alloc (S #[cV E,M O 0 0,.int .i64 l] 93)) [] l 0 [r]:=by
 have c:=dF W (S #[cV E,M O 0 0,.int .i64 l] 93);obtain⟨i,j,k,e,f,m,b⟩:=a.cur;exact⟨⟨a.lo.1,a.lo.2⟩,⟨a.hl,(by decide:(50:Int)<=100)⟩,a.code.below (c.mono a.lo.2),⟨i,j,k,e.below c a.lt,f,by simp;omega,b.1,b.2.1,b.1⟩,⟨_,ax W _,dB _ _ _ _⟩,fun z d=>(by cases d),fun z d=>by rw[List.mem_singleton.1 d];exact⟨h,ei g c⟩,by simp[bR,bL];cases r.v.ownBlock<;>simp⟩
end
def TrP(E:Bs)(W:U)(e:Ending)(w':U):Prop:=
 ∃(c b d:Nat) (a:List Mb),e= .returned (.agg #[M (Q ⟨c,0,O⟩) b d])/\a.length=b/\b<=265/\Lw w' E.base (M (Q ⟨c,0,O⟩) b d) a/\(∀y∈a,sj y.N)/\Cu {E with g:=bigs a} w' 20000000/\V E.base W w'
theorem Cu.same{E a:Bs}{W:U}{y:Int}(o:Cu a W y)(e:a.base=E.base/\a.cb=E.cb/\a.a0=E.a0/\a.len=E.len/\a.cap=E.cap/\a.g=E.g):Cu E W y:=by
 obtain⟨c,d,f,b,m,n⟩:=e;obtain⟨h,i,j,p,q,r,k,l⟩:=o;rw[c,d]at h;rw[b]at i;rw[c,f,b]at j;rw[d,f,b,m]at k;rw[n]at l;exact⟨h,i,j,p,q,r,k,l⟩
theorem Lm{c:Bs}{wr f:U}{a:List Mb}{l:Int}{q g u:Nat}{b s:Option Addr}{ks:List Int}{ak:Y}
  (J:Bd c wr a l 2 (⟨9,M O 0 0,([]:List ByteArray).map Value.string⟩::⟨3,M b ks.length g,ks.map (Z .i64)⟩::[⟨76,M (Q ⟨q,0,O⟩) 1 1,[M O 0 0]⟩]))
  (G:wr.heap[c.bb]?=Q (S #[cV c,M s a.length u,.int .i64 l] 93 (0,0))) (a2:sj (dN 1 0 0 ⟨#[]⟩ [] ks)) (bp:a.length<=25000)
  (B:f.ownsRow c.base 96 9 ak (a.length+1) (lz a++(xi (dN 1 0 0 ⟨#[]⟩ [] ks) (M O 0 0) (M b ks.length g)).toList))
  (a5:(wr.alloc (S (xi (dN 1 0 0 ⟨#[]⟩ [] ks) (M O 0 0) (M b ks.length g)) 96)).grownBy f (Value.slice s a.length u).ownBlock):
  ∃e d,ak= M (Q ⟨e,0,O⟩) (a.length+1) d/\f.cell? ⟨c.bb,1,O⟩=Q (M s a.length u)/\f.frozen? ⟨c.bb,1,O⟩=X/\f.cell? ⟨q,0,O⟩=Q (M O 0 0)/\f.frozen? ⟨q,0,O⟩=X/\q≠c.bb/\c.bb≠q/\
   Hid (∀j,j=(f.setCell ⟨c.bb,1,O⟩ (M (Q ⟨e,0,O⟩) (a.length+1) d)).setCell ⟨q,0,O⟩ (M (Q ⟨e,0,O⟩) (a.length+1) d)->
    Lw j c.base (M (Q ⟨e,0,O⟩) (a.length+1) d) (a++[⟨dN 1 0 0 ⟨#[]⟩ [] ks,M O 0 0,M b ks.length g⟩])/\(∀y∈a++[(⟨dN 1 0 0 ⟨#[]⟩ [] ks,M O 0 0,M b ks.length g⟩:Mb)],sj y.N)/\Cu {c with g:=bigs (a++[(⟨dN 1 0 0 ⟨#[]⟩ [] ks,M O 0 0,M b ks.length g⟩:Mb)])} j 20000000/\V c.base wr j/\j.heap[q]?=Q (S #[M (Q ⟨e,0,O⟩) (a.length+1) d] 76 (0,0))):=by
 have m:=dF wr (S (xi (dN 1 0 0 ⟨#[]⟩ [] ks) (M O 0 0) (M b ks.length g)) 96);have K:=J.below m;have a8:=(m.block _ (au G)).trans G;rcases cL B with⟨bo,_⟩|⟨e,d,rfl⟩
 ·omega
 have ap:lz a++(xi (dN 1 0 0 ⟨#[]⟩ [] ks) (M O 0 0) (M b ks.length g)).toList=lz (a++[⟨dN 1 0 0 ⟨#[]⟩ [] ks,M O 0 0,M b ks.length g⟩]):=by rw[BC];show _=lz a++(cMb _++[]);rw[fL];rfl
 rw[ap]at B;obtain⟨af,al,r⟩:=Bd.push (N:=dN 1 0 0 ⟨#[]⟩ [] ks) K a8 rfl B a5 a2 (by rw[I9 (show(dN 1 0 0 ⟨#[]⟩ [] ks).x.size<=19 from aG _)];exact K.bg0);have a7:=(af.rows _ dt).2;obtain⟨i,n,a4⟩:∃i,(f.setCell ⟨c.bb,1,O⟩ (M (Q ⟨e,0,O⟩) (a.length+1) d)).heap[q]?=Q (S i 76 (0,0))/\i=#[M O 0 0]:=by
  rcases a7.2 with⟨k,_⟩|⟨a0,bn,i,k,_,a3,H,I,o,A⟩
  ·cases k
  ·cases k;refine⟨i,a3,?_⟩;have:i.toList=[M O 0 0]:=by
    have a1:i.toList.take (1*1)=[M O 0 0]:=A;rw[<-a1,cC];rw[cJ,o];exact ag _
   exact Array.toList_inj.1 this
 subst a4;have p:q≠c.bb:=fun k=>by
  rw[k,bK _ c.bb 1 _ _ _ r]at n;simp only[io,oD]at n;exact absurd n.2.1 (by decide)
 have L:f.heap[q]?=Q (S #[M O 0 0] 76 (0,0)):=(bC _ _ _ _ p).symm.trans n;refine⟨e,d,rfl,by rw[ay _ _ _ _ _ _ r];rfl,dp _ _ _ _ _ r,by rw[ay _ _ _ _ _ _ L];rfl,dp _ _ _ _ _ L,p,p.symm,?_⟩;rintro j rfl;obtain⟨h,am⟩:=af.hot (r':=⟨76,M O 0 0,[]⟩) (pI (lH _ q) 0 (M (Q ⟨e,0,O⟩) (a.length+1) d)) (by show TO 76;decide) (dB _ _ _ _) (fun b m=>by cases m);have a6:=bK (f.setCell ⟨c.bb,1,O⟩ (M (Q ⟨e,0,O⟩) (a.length+1) d)) q 0 _ _ (M (Q ⟨e,0,O⟩) (a.length+1) d) n;obtain⟨bl,F,bf⟩:=h.row;have an:bl= M (Q ⟨e,0,O⟩) (a.length+1) d:=by
  rw[bC _ _ _ _ p.symm,bK _ c.bb 1 _ _ _ r]at F;simp at F;exact F.symm
 subst an;obtain⟨a9,bd,bj,H,I,o,A⟩:=h.cur;refine⟨⟨by simpa using bf,fun y C=>(h.each y C).1⟩,fun y C=>(h.each y C).2,⟨⟨h.lo.1,h.lt.2.2.1⟩,h.hl.1,h.code,a9,bd,bj,H,I,?_,A⟩,((m.mono J.lt.2.2.1).trans al).trans am,a6⟩;have:=h.hl.2;rw[aH]at o;simp at o;omega
theorem afI{E:Bs}{W:U}{y:Int}(m:Cu E W y)(dx:y<=10):Calls R 58 #[cV E] W (TrP E W):=by
 have cl:=m.lt;have K:=ar fun (cu:Obj)=>fv (m.below (dF W cu) cl) 120 (by decide) (by decide) (by omega);go_in;go_wp2_with fail;refine(K.out _).mono ?_;rintro r w1 ⟨z,rfl,bj,k,L,ak⟩;have a9:=L.blk (ax W _) (by decide);have a2:V E.base W w1:=((dF W _).mono m.lo.2).trans ak;have a8:w1.ownsRow E.base 76 1 (.slice (Q ⟨W.heap.size,0,O⟩) 1 1) 1 [.slice O 0 0]:=⟨rfl,.inr ⟨W.heap.size,1,#[.slice O 0 0],rfl,m.lo.2,a9,ag _,by unfold Ax;omega,rfl,rfl⟩⟩;have o:=k.start (by omega) (20+z) ⟨76,.slice (Q ⟨W.heap.size,0,O⟩) 1 1,[.slice O 0 0]⟩ (by show TO 76;decide) a8;have ds:IntKind.i64.wrap (20+z)=20+z:=by rw[cB];omega
 have cm:=k.lt;have J:=ar a2;clear K L a9 ak a2 a8;go_wp2_with fail;obtain⟨cz,x⟩:=aD (w1.alloc (.cells #[cV E,.slice O 0 0,.int .i64 (20+z)] 93));have A:=dF w1 (.cells #[cV E,.slice O 0 0,.int .i64 (20+z)] 93);obtain⟨a,hF⟩:=aD (⟨E.base,E.cb,w1.heap.size,E.a0,E.len,E.cap,50,0⟩:Bs);have l:a.base=E.base/\a.cb=E.cb/\w1.heap.size=a.bb/\a.a0=E.a0/\a.len=E.len/\a.cap=E.cap:=by rw[<-hF];exact⟨rfl,rfl,rfl,rfl,rfl,rfl⟩
 have ap:cV E=cV a:=by show Value.pointer _=Value.pointer _;rw[l.2.1]
 rw[hF,x]at o;rw[x]at A⊢;have i:=cH (J.out.trans (A.mono k.lo.2)) l;rw[l.2.2.1,ap];clear x A hF cm ap J k l;have bn:=lL o 5 (by decide) (by decide) (by decide) (by decide);refine bn.mono ?_;rintro r d6 ⟨q,c0,c3,rfl,H,_,al⟩;have bo:=lL H 8 (by decide) (by decide) (by decide) (by decide);have dn:IntKind.i64.wrap (1+q)=1+q:=by rw[cB];omega
 have bt:=ar (i.out.1.trans (by rw[<-i.out.2.1];exact al));clear bn al o H;go_wp2_with fail;refine bo.mono ?_;rintro r G ⟨br,ct,d2,rfl,I,_,am⟩;obtain⟨br,rfl⟩:=fe ct;have bw:=ar (bt.out.trans (by rw[<-i.out.2.1];exact am));have F:nJ a G [] (20+z) 2 [⟨76,.slice (Q ⟨W.heap.size,0,O⟩) 1 1,[.slice O 0 0]⟩] 221:=⟨I.wide (by decide),by simp;omega,by omega,by decide,by decide⟩;have hS:=Ll (d:=1+q) (by omega);clear bo am I;go_wp2_with fail;go_loopw [5,6] (fun v C wr=>∃(b:Nat) (e:List Mb) (c:List Int),C= .int .i64 b/\c.length+b<=7/\Pl c/\At a G [] (20+z) 2 wr e 2 (⟨3,v,c.map (Z .i64)⟩::[⟨76,.slice (Q ⟨W.heap.size,0,O⟩) 1 1,[.slice O 0 0]⟩])/\ -125<=20+z-e.length) (fun _ C _=>(intOf C).toNat)
 case atStart=>exact⟨br,[],[],rfl,by simp;omega,(fun z bj=>by cases bj),F.at.nil toI,by simp;omega⟩
 case round=>
  obtain⟨b,e,c,rfl,B,n,f,c9⟩:=hrel;have b7:=f.c2;have da:b<=7:=by omega
  by_cases a3:0<b/\5<20+z-e.length
  ·have ce:(0:Int)<(b:Int):=by omega
   have ck:=a3.2;have bp:=f.sub F hS (by decide) (by omega) (by decide);have p:=cH B n;clear B n;go_wp2_with fail;refine bp.mono ?_;rintro r cy ⟨bE,bs,rfl,bl,c8,b0,a1⟩;unfold Lf at a1;clear bp b7;go_wp2_with (at_builtin;refine b0.app bs rfl (by have:=p.out.1;omega) rfl _ _ rfl rfl rfl ?_;intro af an d8 b2);go_roundw
   case rel=>exact⟨b-1,bE,c++[bs],by go_num,by have:=p.out.1;simp;omega,p.out.2.add bl.1 bl.2,b2,by omega⟩
   case measure=>simp[intOf];omega
  ·obtain⟨b5,b6,rfl⟩:=f.formI;have dc:=f.len F;have h:=(f.nil BD).bd;rw[jF]at h;obtain⟨v,s,u⟩:=h.row;obtain⟨af,an,rfl⟩:=ey u;have cF:wr.cell? ⟨a.bb,1,O⟩=Q (.slice af e.length an):=by rw[ay _ _ _ _ _ _ s];rfl
   have ca:sj (dN 1 0 0 ⟨#[]⟩ [] c):=kv (by decide) (by decide) (by decide) (lA (by first|decide|omega)) (by decide) rF (by omega) n;have df:=h.lt;have j:=wI h s u f.bel;obtain⟨cn,cp,cq,cr,cs⟩:=fd Fh;clear n B h s u;by_cases ce:0<b;all_goals
    first
    |(have cf:(0:Int)<(b:Int):=by omega
      have ck:¬5<20+z-e.length:=by omega)
    |(have cf:¬(0:Int)<(b:Int):=by omega)
    clear a3;go_wp2_with (at_builtin;refine wpList_append_own_at _ rfl _ _ 74 rfl a.base 96 cn _ 9 112 Tryz.underlying74 cp cq cr cs rfl (by decide) _ _ _ rfl (ei j.out.2.2.1 (dF wr _)) ⟨wr.heap.size,0,O⟩ 1 1 (xi (dN 1 0 0 ⟨#[]⟩ [] c) (.slice O 0 0) (.slice b5 c.length b6)).toList rfl rfl (World.news_of_block (ax wr _)) (by intro d3 bf;simp at bf;rcases bf with rfl|rfl|rfl|rfl|rfl|rfl|rfl|rfl|rfl<;>rfl) (by unfold Ax;omega) (by omega) (by simp;omega) ?_;intro d4 cy a7 a4 _ cc;obtain⟨b9,b8,rfl,c4,a1,c6,c7,dg,dk,bx⟩:=Lm j.out.1 j.out.2.1 ca (by omega) a7 a4;clear a7 a4 cc);have hF:=bx.out _ rfl;have g:=i.out.2;rw[g.1]at hF;exact bg (fz rfl _ _ W.heap.size _ _ _ _ rfl hF.2.2.2.2 Tryz.underlying76 rfl (by kernel_rfl)) rfl ⟨b9,e.length+1,b8,_,rfl,by simp,by omega,hF.1,hF.2.1,hF.2.2.1.same ⟨rfl,g.2.1,g.2.2.2.1,g.2.2.2.2.1,g.2.2.2.2.2,rfl⟩,bw.out.trans ((by rw[<-g.1];exact j.out.2.2.2:V E.base G wr).trans hF.2.2.2.1)⟩
open Go.Lib (strCells strCells_length wpList_append_own_string)
theorem xu(a b:ByteArray):strCells (a++b)=strCells a++strCells b:=by
 unfold strCells;rw[lC,yL,eL]
theorem Hc{w:U}{base c n b:Nat}{a:ByteArray}(d:w.ownsRow base 5 1 (M (Q ⟨c,0,O⟩) n b) n (strCells a)):
  (convert 22 9 (M (Q ⟨c,0,O⟩) n b)).run R w= .ok (.string a) w:=by
 have e:strCells a=B8 (qh a.data.toList):=by
  unfold strCells B8 qh;rw[List.map_map];rfl
 rw[e]at d;rw[ir d,sy]
theorem tH(k:Int)(w:U):Calls R 77 #[.int .i64 k] w fun e w'=>e= .returned (.bool (Le k))/\w'=w:=by
 by_cases b:k=46\/k=47\/k=40\/k=44\/k=10\/k=25
 ·rcases b with rfl|rfl|rfl|rfl|rfl|rfl;all_goals
   go_in;go_wp2;go_ret;exact⟨rfl,rfl⟩
 ·have c:(k==46)=X:=by rw[aC];omega
  have d:(k==47)=X:=by rw[aC];omega
  have f:(k==40)=X:=by rw[aC];omega
  have g:(k==44)=X:=by rw[aC];omega
  have h:(k==10)=X:=by rw[aC];omega
  have i:(k==25)=X:=by rw[aC];omega
  by_cases j:60<k
  ·have a:Le k=true:=by unfold Le;exact cG (by omega)
   rw[a];clear b a;go_in;go_wp2;go_ret;exact⟨rfl,rfl⟩
  ·have a:Le k=X:=by unfold Le;exact bk (by omega)
   rw[a];clear b a;go_in;go_wp2;go_ret;exact⟨rfl,rfl⟩
section
variable {E : Bs} {W w w' : World} {y : Int}
theorem Lp(a:Cu E W y)(n:y<=800000000):
  Calls R 78 #[cV E] W fun e w'=>∃s:ByteArray,e= .returned (.string s)/\(s.size<=5/\uT s<=6)/\Cu E w' (y+1)/\Kb W w'/\V E.base W w':=by
 have j:=a.lt;have i:=a.lo;have c:=ar fun (l:Obj)=>fv (a.below (dF W l) j) 7 (by decide) (by decide) (by omega);go_in;go_wp2_with fail;refine(c.out _).mono ?_;rintro e w1 ⟨z,rfl,o,d,b,f⟩;have g:=b.blk (ax W _) (by decide);have m:=fun k=>ay w1 W.heap.size k _ _ _ g;have h:=gy d ((Kb.of_below (dF W _)).trans b) (((dF W _).mono i.2).trans f);clear d b f g c;rcases(show z=0\/z=1\/z=2\/z=3\/z=4\/z=5\/z=6 by omega) with rfl|rfl|rfl|rfl|rfl|rfl|rfl;all_goals
  go_wp2_with fail;go_ret;exact⟨_,rfl,⟨by decide,by decide⟩,h.out⟩
theorem abL{f c o k g d p l:Nat}{a e:Y}{q x2:List Y}(m:w.ownsRow f c o a k q)(n:w.ownsRow g d p e l x2)(j:c≠d):a.ownBlock=O\/a.ownBlock≠e.ownBlock:=by
 rcases n.2 with⟨b,_⟩|⟨x,s,u,b,_,i,_⟩
 ·rw[b];cases h:a.ownBlock with
  |none=>exact .inl rfl
  |some r=>exact .inr (by simp[Value.ownBlock])
 ·right;rw[b];exact mq m i (de j)
structure Lo (E:Bs) (W w:U) (y:Int) (v:Y) (t:ByteArray) (tv:Y) (ts:List Tk):Prop where
 cu:Cu E w y
 out:w.ownsRow E.base 5 1 v t.size (strCells t)
 tok:w.ownsRow E.base 29 6 tv ts.length (jB ts)
 bel:V E.base W w
variable {v tv : Value} {t : ByteArray} {ts : List Tk}
theorem Lo.kb(a:Lo E W w y v t tv ts){z:Int}(d:Cu E w' z)(b:Kb w w')(c:V E.base w w'):Lo E W w' z v t tv ts:=
 ⟨d,b.row a.out (by decide),b.row a.tok (by decide),a.bel.trans c⟩
theorem Lo.below(a:Lo E W w y v t tv ts)(b:V w.heap.size w w'):Lo E W w' y v t tv ts:=
 a.kb (a.cu.below b a.cu.lt) (Kb.of_below b) (b.mono a.cu.lo.2)
theorem Lo.app{p:Array Oper}{q:List Oper}{f:Oper}{a:Act}{o:Exit->Act->U->Prop}(c:Lo E W w y v t tv ts)(s:ByteArray)(m:Nat)(an:s.size<=m)(ap:t.size+m<=4000000)(A:f.guard=O)(n x:Operand)
  (B:f.op= .call {callee:= .builtin .append,args:=#[n,x],argTypes:=#[22,9]}) (G:a.eval n=v) (H:a.eval x= .string s)
  (k:∀h w1,Lo E W w1 y h (t++s) tv ts->(t++s).size<=t.size+m->(∀(b:Nat)(cs:Array Y)(g:TypeId)(fr:Nat×Nat),w.heap[b]?=Q (.cells cs g fr)->g≠5->w1.heap[b]?=Q (.cells cs g fr))->wpList R p o q (a.put f.dst h) w1):wpList R p o (f::q) a w:=by
 obtain⟨I,J,K,L,af⟩:=fd Tryz.info5;refine wpList_append_own_string _ A n x 22 9 B E.base 5 I Tryz.underlying22 Tryz.underlying9 J K L af _ _ _ G c.out s H (by unfold Ax;omega) (by omega) c.cu.lo.2 ?_;intro h r C e _;have l:V E.base w r:=(aq _ w).grown e c.cu.lo.2 (fun k d=>(c.out.lt k d).1);obtain⟨ak,al,am,i,u⟩:=c.cu.cur;refine k h r ⟨⟨⟨c.cu.lo.1,bA c.cu.lo.2 l.size⟩,c.cu.hl,c.cu.code.below l,ak,al,am,(e.block _ i.lt (fun j=>mq c.out i (by decide) j.symm)).trans i,u⟩,by rw[ae,xu];exact C,c.tok.kept e (abL c.tok c.out (by decide)),c.bel.trans l⟩ (by rw[ae];omega) (fun b cs g fr d F=>(e.block _ (au d) (fun j=>mq c.out d F j.symm)).trans d)
end
end Go.Proofs.YtkdijoogonigpaaGreatDoor
namespace Go.Proofs.YtkdijoogonigpaaGreatDoor
open Go.Lib (strCells strCells_length)
open Go.RowKit Go.Maps Go.WideMaps
structure TkO (n:Nat) (ts:List Tk):Prop where
 each:∀T∈ts,0<=T.f/\T.f<=T.t/\T.t<=(n:Int)
 next:ts.Pairwise fun a b=>a.t<=b.f
theorem F9(s:ByteArray):∀(f:Nat)(st:List Int)(p:Nat)(l:Int)(b:List Tk),p<=s.size->TkO s.size b->(∀a∈b,a.t<=(p:Int))->TkO s.size (AF s f st p l b).1
 |0,st,p,l,b,_,_,_=>⟨fun a hT=>(by cases hT),.nil⟩
 |f+1,st,p,l,b,L,i,j=>by
  have h:∀(d:Tk)(q c:Nat),d.f=(p:Int)->d.t=(q:Int)->p<=q->q<=s.size->q<=c->TkO s.size (b++[d])/\∀a∈b++[d],a.t<=(c:Int):=fun d q c m o I J K=>by
   refine⟨⟨fun a hT=>?_,List.pairwise_append.2 ⟨i.next,List.pairwise_singleton _ _,fun u B H e=>?_⟩⟩,fun a hT=>?_⟩
   ·rcases List.mem_append.1 hT with hT|hT
    ·exact i.each a hT
    ·rw[List.mem_singleton.1 hT,m,o];omega
   ·rw[List.mem_singleton.1 e,m];exact j u B
   ·rcases List.mem_append.1 hT with hT|hT
    ·have:=j a hT;omega
    ·rw[List.mem_singleton.1 hT,o];omega
  have G:∀c,p<=c->∀a∈b,a.t<=(c:Int):=fun c r a hT=>by have:=j a hT;omega
  have e:∀q,q<=s.size->q<=blk s (s.size+1) q/\blk s (s.size+1) q<=s.size:=fun q F=>gC s (s.size+1) q F;rw[AF];split
  ·rename_i r;exact(h ⟨6,(s.size:Nat),(s.size:Nat),l,0,⟨#[]⟩⟩ s.size s.size (by show((s.size:Nat):Int)=_;omega) rfl (by omega) (by omega) (by omega)).1
  ·rename_i r;split
   ·rename_i A;have k:=gb s p (by omega) (abb s p A).1;have g:=e _ k.2.1;split
    ·have:=h ⟨5,(p:Nat),((bB s p).a:Nat),l,(bB s p).n,(bB s p).x⟩ (bB s p).a (blk s (s.size+1) (bB s p).a) rfl rfl (by omega) (by omega) (by omega);exact F9 s f _ _ _ _ g.2 this.1 this.2
    ·exact F9 s f _ _ _ _ g.2 i (G _ (by omega))
   ·split
    ·split
     ·rename_i C;have k:=gb s p (by omega) C;have g:=e _ k.2.1;have:=h ⟨vL s p,(p:Nat),((bB s p).a:Nat),l,(bB s p).n,(bB s p).x⟩ (bB s p).a (blk s (s.size+1) (bB s p).a) rfl rfl (by omega) (by omega) (by omega);exact F9 s f _ _ _ _ g.2 this.1 this.2
     ·exact⟨fun a hT=>(by cases hT),.nil⟩
    ·exact⟨fun a hT=>(by cases hT),.nil⟩
theorem acx(s:ByteArray):TkO s.size (oz s).1:=by
 have b:TkO s.size []:=⟨fun c a=>(by cases a),.nil⟩;unfold oz;split
 ·exact b
 split
 ·exact F9 s _ _ _ _ _ (gC s (s.size+1) 0 (aG _)).2 b (fun c a=>by cases a)
 ·exact b
theorem Ga{n:Int}:∀(l:List Tk)(c:Int),l.Pairwise (fun a b=>a.f<b.f)->(∀T∈l,c<=T.f/\T.f<=n)->c<=n+1->(l.length:Int)<=n+1-c
 |[],c,_,_,h=>by simp;omega
 |T::r,c,k,g,h=>by
  have m:=g T dt;obtain⟨i,j⟩:=List.pairwise_cons.1 k;have:=Ga (n:=n) r (T.f+1) j (fun d e=>by have:=i d e;have:=g d (dJ _ e);omega) (by omega);rw[db];simp;omega
theorem ab0(s:ByteArray):(oz s).1.length<=s.size+1:=by
 have e:=acx s;have g:(oz s).1.Pairwise fun c d=>c.f<d.f:=by
  unfold oz;split
  ·exact .nil
  split
  ·exact(F5 s (s.size+1) [100,6] (blk s (s.size+1) 0) 1 [] (gC s (s.size+1) 0 (aG _)).2 .nil (fun b a=>by cases a)).1
  ·exact .nil
 have:=Ga (n:=(s.size:Int)) _ 0 g (fun b a=>by have:=e.each b a;omega) (by omega);omega
theorem TkO.at_{n:Nat}{ts:List Tk}(h:TkO n ts){i:Nat}{a b:Tk}(j:ts[i]?=Q a)(k:ts[i+1]?=Q b):a.t<=b.f:=by
 obtain⟨e,c⟩:=List.getElem?_eq_some_iff.1 j;obtain⟨g,d⟩:=List.getElem?_eq_some_iff.1 k;rw[<-c,<-d];exact(List.pairwise_iff_getElem.1 h.next) i (i+1) e g (by omega)
