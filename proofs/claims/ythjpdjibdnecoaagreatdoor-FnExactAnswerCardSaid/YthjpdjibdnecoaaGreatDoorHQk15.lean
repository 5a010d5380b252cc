import Derived.Test.YthjpdjibdnecoaaGreatDoorHQk14
set_option linter.all false
set_option maxRecDepth 100000
set_option maxHeartbeats 6400000
open Go.Value renaming int->M,string->S,pointer->A4
open Go.IntKind renaming i64->O
open ByteArray renaming empty->Q
open Go.Lib renaming hasPrefix->T
open Go.Proofs.Tryz renaming prog->U
open Bool renaming false->W,true->X
open Option renaming none->Y,some->A1
open Go renaming World->Z,Value->A0
open Go.Obj renaming cells->Ax
open Go.Calls renaming quiet_of_same->A2
open Go.Instr renaming index->A3
namespace Go.Proofs.YthjpdjibdnecoaaGreatDoor
open Go.RowKit Go.Maps Go.WideMaps
theorem amx(k:Nat)(a:k<11)(w:Z):(A3 271 (.agg iI) (M O (k:Int))).run U w= .ok (S (ci iI k)) w:=by
 rcases(show k=0\/k=1\/k=2\/k=3\/k=4\/k=5\/k=6\/k=7\/k=8\/k=9\/k=10 by omega) with rfl|rfl|rfl|rfl|rfl|rfl|rfl|rfl|rfl|rfl|rfl;all_goals kernel_rfl
theorem amy(k:Nat)(a:k<18)(w:Z):(A3 272 (.agg lC) (M O (k:Int))).run U w= .ok (S (ci lC k)) w:=by
 rcases(show k=0\/k=1\/k=2\/k=3\/k=4\/k=5\/k=6\/k=7\/k=8\/k=9\/k=10\/k=11\/k=12\/k=13\/k=14\/k=15\/k=16\/k=17 by omega) with rfl|rfl|rfl|rfl|rfl|rfl|rfl|rfl|rfl|rfl|rfl|rfl|rfl|rfl|rfl|rfl|rfl|rfl;all_goals kernel_rfl
theorem osz:∀k:Fin 11,(ci iI k.val).size<=3:=by decide
theorem bsz:∀k:Fin 18,(ci lC k.val).size<=3:=by decide
def DB(V:Array A0)(base:Int)(r:ByteArray):Nat->Nat->Int×Nat->Int×Nat
 |0,_,a=>a
 |f+1,i,a=>DB V base r f (i+1) (if a.2<(ci V i).size/\T r.data.toList (ci V i).data.toList=X then(base+(i:Int),(ci V i).size) else a)
structure C7 (V:Array A0) (base:Int) (r:ByteArray) (f i:Nat) (a R:Int×Nat):Prop where
 out:DB V base r f i a=R
def se(r:ByteArray):Int:=if az r 0=59 then 5 else if az r 0=10 then 7 else(DB lC 61 r 18 0 (DB iI 40 r 11 0 (0,0))).1
theorem E4(r:ByteArray)(a8:r.size<=70000)(a0:0<r.size)(w:Z)(a1:qo w):Calls U 210 #[.string r] w fun e a4=>e= .returned (.int .i64 (se r))/\a4=w:=by
 unfold se;have H:∀w,(A3 9 (.string r) (.int .i64 0)).run U w= .ok (.int .u8 (az r 0)) w:=fun w=>cD a0 w;by_cases t:az r 0=59
 ·rw[ab t];rw[t]at H;go_in;go_wp2;go_ret;exact⟨rfl,rfl⟩
 rw[aa t];by_cases q:az r 0=10
 ·rw[ab q];rw[q]at H;go_in;go_wp2;go_ret;exact⟨rfl,rfl⟩
 rw[aa q];have av:(az r 0==59)=W:=by rw[aK];exact t
 have ar:(az r 0==10)=W:=by rw[aK];exact q
 generalize az r 0=a7 at H av ar;clear t q;obtain⟨-,⟨a2,ao,ak⟩,⟨a3,ap,af⟩⟩:=a1;have al:=fun a u w=>amx a u w;have ad:=fun a u w=>amy a u w;obtain⟨z,B⟩:∃z:Array A0,iI=z:=⟨_,rfl⟩;obtain⟨y,A⟩:∃y:Array A0,lC=y:=⟨_,rfl⟩;have an:Hid (∀a:Nat,a<11->∀w,(A3 271 (.agg z) (.int .i64 (a:Int))).run U w= .ok (.string (ci iI a)) w):=by rw[<-B];exact al
 have am:Hid (∀a:Nat,a<18->∀w,(A3 272 (.agg y) (.int .i64 (a:Int))).run U w= .ok (.string (ci lC a)) w):=by rw[<-A];exact ad
 rw[B]at ak;rw[A]at af;have a5:z.size=11:=by rw[<-B];rfl
 have a6:y.size=18:=by rw[<-A];rfl
 clear al ad B A;obtain⟨k,E⟩:=ay (DB iI 40 r 11 0 (0,0));rw[E];obtain⟨o,F⟩:=ay (DB lC 61 r 18 0 k);rw[F];have K:C7 iI 40 r 11 0 (0,0) k:=⟨E⟩;have L:C7 lC 61 r 18 0 k o:=⟨F⟩;clear E F;go_in;go_wp2_with (refine tL rfl 271 _ rfl 6 rfl a2 _ ao _ ak Tryz.underlying271 rfl (by rw[a5];kernel_rfl) ?_);go_loop [3,4,16] (fun I J m=>∃(a c:Nat) (d:Int),a<=11/\c<=3/\I= .int .i64 d/\J= .int .i64 c/\m= .int .i64 a/\C7 iI 40 r (11-a) a (d,c) k) (fun _ _ m=>11-(intOf m).toNat)
 case atStart=>exact⟨0,0,0,by omega,by omega,rfl,rfl,rfl,K⟩
 case round=>
  obtain⟨a,c,d,u,n,rfl,rfl,rfl,j⟩:=hrel;by_cases v:a<11
  ·have G:=an.out a v;have x:(ci iI a).size<=3:=osz ⟨a,v⟩;have b:=j.out;rw[show 11-a=(11-(a+1))+1 by omega,DB]at b;have i:=fun w=>Tryz.strings_HasPrefix r (ci iI a) w;generalize ci iI a=f at G x b i;by_cases p:c<f.size
   ·have C:(c:Int)<(f.size:Int):=by omega
    by_cases g:T r.data.toList f.data.toList=X
    ·rw[ab ⟨p,g⟩]at b;have h:C7 iI 40 r (11-(a+1)) (a+1) (40+(a:Int),f.size) k:=⟨b⟩;rw[g]at i;clear b g;go_wp2_with (go_at_call 124;refine dK (i _) ?_);go_round
     case rel=>exact⟨a+1,f.size,40+(a:Int),by omega,x,by go_num,rfl,by go_num,h⟩
     case measure=>simp[intOf];omega
    ·have s:T r.data.toList f.data.toList=W:=by simpa using g
     rw[aa (fun l=>g l.2)]at b;have h:C7 iI 40 r (11-(a+1)) (a+1) (d,c) k:=⟨b⟩;rw[s]at i;clear b g s;go_wp2_with (go_at_call 124;refine dK (i _) ?_);go_round
     case rel=>exact⟨a+1,c,d,by omega,n,rfl,rfl,by go_num,h⟩
     case measure=>simp[intOf];omega
   ·have C:¬(c:Int)<(f.size:Int):=by omega
    rw[aa (fun l=>p l.1)]at b;have h:C7 iI 40 r (11-(a+1)) (a+1) (d,c) k:=⟨b⟩;clear b;go_wp2;go_round
    case rel=>exact⟨a+1,c,d,by omega,n,rfl,rfl,by go_num,h⟩
    case measure=>simp[intOf];omega
  ·obtain rfl:a=11:=by omega
   have b:=j.out;rw[eB,DB]at b;subst b;clear j K;go_wp2_with (refine tL rfl 272 _ rfl 7 rfl a3 _ ap _ af Tryz.underlying272 rfl (by rw[a6];kernel_rfl) ?_);go_loop [3,4,35] (fun I J m=>∃(a c:Nat) (d:Int),a<=18/\c<=3/\I= .int .i64 d/\J= .int .i64 c/\m= .int .i64 a/\C7 lC 61 r (18-a) a (d,c) o) (fun _ _ m=>18-(intOf m).toNat)
   case atStart=>exact⟨0,c,d,by omega,n,rfl,rfl,rfl,L⟩
   case round=>
    obtain⟨a,c,d,u,n,rfl,rfl,rfl,j⟩:=hrel;by_cases v:a<18
    ·have G:=am.out a v;have x:(ci lC a).size<=3:=bsz ⟨a,v⟩;have b:=j.out;rw[show 18-a=(18-(a+1))+1 by omega,DB]at b;have i:=fun w=>Tryz.strings_HasPrefix r (ci lC a) w;generalize ci lC a=f at G x b i;by_cases p:c<f.size
     ·have C:(c:Int)<(f.size:Int):=by omega
      by_cases g:T r.data.toList f.data.toList=X
      ·rw[ab ⟨p,g⟩]at b;have h:C7 lC 61 r (18-(a+1)) (a+1) (61+(a:Int),f.size) o:=⟨b⟩;rw[g]at i;clear b g;go_wp2_with (go_at_call 124;refine dK (i _) ?_);go_round
       case rel=>exact⟨a+1,f.size,61+(a:Int),by omega,x,by go_num,rfl,by go_num,h⟩
       case measure=>simp[intOf];omega
      ·have s:T r.data.toList f.data.toList=W:=by simpa using g
       rw[aa (fun l=>g l.2)]at b;have h:C7 lC 61 r (18-(a+1)) (a+1) (d,c) o:=⟨b⟩;rw[s]at i;clear b g s;go_wp2_with (go_at_call 124;refine dK (i _) ?_);go_round
       case rel=>exact⟨a+1,c,d,by omega,n,rfl,rfl,by go_num,h⟩
       case measure=>simp[intOf];omega
     ·have C:¬(c:Int)<(f.size:Int):=by omega
      rw[aa (fun l=>p l.1)]at b;have h:C7 lC 61 r (18-(a+1)) (a+1) (d,c) o:=⟨b⟩;clear b;go_wp2;go_round
      case rel=>exact⟨a+1,c,d,by omega,n,rfl,rfl,by go_num,h⟩
      case measure=>simp[intOf];omega
    ·obtain rfl:a=18:=by omega
     have b:=j.out;rw[eB,DB]at b;subst b;clear j L;go_wp2;go_ret;exact⟨rfl,rfl⟩
theorem qo.setCell{w:Z}(h:qo w){a:Addr}(l:14<=a.block)(v:A0):qo (w.setCell a v):=by
 obtain⟨⟨i,b,e⟩,⟨j,c,f⟩,⟨k,d,g⟩⟩:=h;exact⟨⟨i,b,(aD w a _ v (by omega)).trans e⟩,⟨j,c,(aD w a _ v (by omega)).trans f⟩,⟨k,d,(aD w a _ v (by omega)).trans g⟩⟩
theorem qo.drewN{w:Z}(h:qo w)(n:Nat):qo (w.drewN n):=⟨h.word,h.mark,h.bin⟩
theorem E5:∀k:Fin 79,(gc (k.val:Int)).size<=6:=by decide+kernel
theorem ac1(k:Int):(gc k).size<=6:=by
 by_cases a:0<=k/\k<=78
 ·have:=E5 ⟨k.toNat,by omega⟩;simp only[show((k.toNat:Nat):Int)=k by omega]at this;exact this
 ·unfold gc;rw[aa (by omega),aa (by omega),aa (by omega),aa (by omega),aa (by omega)];decide
theorem JJ(V:Array A0)(base:Int)(r:ByteArray)(d:0<=base)(N:Int):∀(f i:Nat)(a:Int×Nat),0<=a.1->a.1<=N->base+((i+f:Nat):Int)<=N+1->0<=(DB V base r f i a).1/\(DB V base r f i a).1<=N
 |0,i,a,b,c,_=>⟨b,c⟩
 |f+1,i,a,b,c,e=>by
  unfold DB;refine JJ V base r d N f (i+1) _ ?_ ?_ (by omega)
  ·split
   ·simp only;omega
   ·exact b
  ·split
   ·simp only;omega
   ·exact c
theorem ac3(r:ByteArray):0<=se r/\se r<=78:=by
 unfold se;split
 ·omega
 split
 ·omega
 have a:=JJ iI 40 r (by omega) 50 11 0 (0,0) (by simp) (by simp) (by simp);exact JJ lC 61 r (by omega) 78 18 0 _ a.1 (by omega) (by simp)
def JK(b t:Nat)(a:Z)(s:ByteArray)(m:A0)(fr:Int)(p:Nat)(l c k:Int):Prop:=
 if k=0 then fH b a s m fr p l X/\dj t a 0 p 0 c 0 Q else fH b a s m fr ((p:Int)+((gc k).size:Int)) (if k=7 then l+1 else l) W/\dj t a k p 0 c 0 Q
theorem E6{fr:Int}(s:ByteArray)(a6:s.size<=70000)(b t:Nat)(w:Z)(m:A0)(p:Nat)(l K:Int)(a7:p<s.size)(a5:0<=l)(a4:l<=100000)(h:b≠t)(hS:fH b w s m fr p l W)(n:dj t w 0 p 0 K 0 Q)(d:qo w)(a1:14<=b)(a2:14<=t):
  Calls U 169 #[A4 (A1 ⟨b,0,Y⟩),A4 (A1 ⟨t,0,Y⟩)] w fun e E=>e= .returned (.tuple #[])/\ql b t w E/\JK b t E s m fr p l K (se (s.extract p s.size)):=by
 have a3:b<w.heap.size:=ah hS;have a9:t<w.heap.size:=ah n;have a8:(s.extract p s.size).size=s.size-p:=oE s p s.size (ae _);have i:=fun w d=>E4 (s.extract p s.size) (by omega) (by omega) w d;have ar:=ac3 (s.extract p s.size);generalize se (s.extract p s.size)=c at i ar;obtain⟨u,v,x,y,z,A,B,C⟩:=eI hS;obtain⟨L,ad,af,ak,al,am,an⟩:=bf n;unfold JK;by_cases G:c=0
 ·subst G;simp only[jh];go_in;go_upto_region 0 with fail
  go_quiet ((go_at_call 210;exact A2 (i _ (d.drewN _))))
  go_wp2;refine ba (jg rfl _ _ _) rfl ?_;exact⟨rfl,((ql.refl b t w).drewN _).setB 5 _,(hS.drewN _).setK _,(n.drewN _).other (dD h) _⟩
 have av:(c==0)=W:=by rw[aK];exact G
 have r:=fun w d=>uF c (by omega) (by omega) w d;have ao:=ac1 c;generalize gc c=F at r ao;simp only[aa G];by_cases H:c=7
 ·subst H;simp only[jh];go_in;go_upto_region 0 with fail
  go_quiet ((go_at_call 210;exact A2 (i _ (d.drewN _))))
  have g:=((hS.drewN nq).setL (l+1)).other (a:=⟨t,0,Y⟩) h (M O 7);have o:=((n.drewN nq).other (a:=⟨b,4,Y⟩) (dD h) (M O (l+1))).setKind 7;have q:=(((ql.refl b t w).drewN nq).setB 4 (M O (l+1))).setT 0 (M O 7);have f:=((d.drewN nq).setCell (a:=⟨b,4,Y⟩) (by simp;omega) (M O (l+1))).setCell (a:=⟨t,0,Y⟩) (by simp;omega) (M O 7);go_upto_region 6 with fail
  generalize ((w.drewN nq).setCell ⟨b,4,Y⟩ (M O (l+1))).setCell ⟨t,0,Y⟩ (M O 7)=j at g o q f⊢;clear u v x y z A B C L ad af ak al am an i;obtain⟨u,v,x,y,z,A,B,C⟩:=eI g;have k:qo j.drew:=⟨f.word,f.mark,f.bin⟩;have J:=r j.drew k;have ap:IntKind.i64.wrap ((p:Int)+(F.size:Int))=(p:Int)+(F.size:Int):=by rw[di];omega
  clear k f d r;go_region_with (first|(go_at_call 172;refine J.mono ?_;rintro e E ⟨rfl,I⟩;obtain rfl:=I.symm))
  all_goals
   go_end0
   exact⟨rfl,(q.setB 3 _).drew,g.setP _,o.other (dD h) _⟩
 ·have a0:(c==7)=W:=by rw[aK];exact H
  simp only[aa H];go_in;go_upto_region 0 with fail
  go_quiet ((go_at_call 210;exact A2 (i _ (d.drewN _))))
  have g:=(hS.drewN nq).other (a:=⟨t,0,Y⟩) h (M O c);have o:=(n.drewN nq).setKind c;have q:=((ql.refl b t w).drewN nq).setT 0 (M O c);have f:=(d.drewN nq).setCell (a:=⟨t,0,Y⟩) (by simp;omega) (M O c);go_upto_region 6 with fail
  generalize (w.drewN nq).setCell ⟨t,0,Y⟩ (M O c)=j at g o q f⊢;clear u v x y z A B C L ad af ak al am an i;obtain⟨u,v,x,y,z,A,B,C⟩:=eI g;have k:qo j.drew:=⟨f.word,f.mark,f.bin⟩;have J:=r j.drew k;have ap:IntKind.i64.wrap ((p:Int)+(F.size:Int))=(p:Int)+(F.size:Int):=by rw[di];omega
  clear k f d r;go_region_with (first|(go_at_call 172;refine J.mono ?_;rintro e E ⟨rfl,I⟩;obtain rfl:=I.symm))
  all_goals
   go_end0
   exact⟨rfl,(q.setB 3 _).drew,g.setP _,o.other (dD h) _⟩
structure Rd where
 ok:Bool
 a:Nat
 d:Int
 k:Int
 n:Int
 x:ByteArray
def rdI(s:ByteArray)(p:Nat):Rd:=
 if cd (az s p)=X then⟨X,mo s (s.size+1) p,0,(JI s p).1,0,(JI s p).2⟩
 else if cu (az s p)=X then(if(dl s p).2=X then⟨X,(dl s p).1,0,(vI s p).1,(vI s p).2.1,(vI s p).2.2⟩ else⟨W,(dl s p).1,0,0,0,Q⟩)
 else if az s p=34 then(if(gx s (s.size+1) (p+1) []).1=X then⟨X,(gx s (s.size+1) (p+1) []).2.1,0,4,0,ic (gx s (s.size+1) (p+1) []).2.2⟩ else⟨W,(gx s (s.size+1) (p+1) []).2.1,0,0,0,Q⟩)
 else if se (s.extract p s.size)=0 then⟨W,p,0,0,0,Q⟩ else⟨X,p+(gc (se (s.extract p s.size))).size,if se (s.extract p s.size)=7 then 1 else 0,se (s.extract p s.size),0,Q⟩
def ak6(b t:Nat)(w c:Z)(s:ByteArray)(m:A0)(fr:Int)(p:Nat)(l:Int)(R:Rd):Prop:=ql b t w c/\fH b c s m fr (R.a:Int) (l+R.d) (!R.ok)/\dj t c R.k p 0 l R.n R.x
theorem Hg.blocks{w f:Z}(h:Hg w)(a:∀k,k<14->f.heap[k]?=w.heap[k]?):Hg f:=by
 obtain⟨⟨⟨q,g,n⟩,⟨r,i,o⟩,⟨s,j,p⟩⟩,⟨⟨t,l,c⟩,⟨u,m,d⟩⟩,b,e⟩:=h;refine⟨⟨⟨q,g,(a _ (by decide)).trans n⟩,⟨r,i,(a _ (by decide)).trans o⟩,⟨s,j,(a _ (by decide)).trans p⟩⟩,⟨⟨t,l,?_⟩,⟨u,m,?_⟩⟩,?_,?_⟩
 ·unfold World.cell? at c⊢;rw[a _ (by decide)];exact c
 ·unfold World.cell? at d⊢;rw[a _ (by decide)];exact d
 ·unfold Lib.TabIs World.var? at b⊢;rw[show Tryz.prog.globalNamed "internal/strconv.uint64pow10" =A1 5 by kernel_rfl]at b⊢;simp only[Ay]at b⊢;rw[a _ (by decide)];exact b
 ·unfold World.cell? at e⊢;rw[a _ (by decide)];exact e
theorem lF{x e z:Z}{b:Option Nat}(h:x.grownBy e b)(k:e.grownBy z b):x.grownBy z b:=
 ⟨k.os.trans h.os,k.tape.trans h.tape,k.output.trans h.output,bF h.size k.size,fun d a c=>(k.block d (eF a h.size) c).trans (h.block d a c)⟩
theorem abq{fr:Int}(s:ByteArray)(a7:s.size<=70000)(b mb:Nat)(w:Z)(p:Nat)(l:Int)(C:p<s.size)(cr:0<=l)(cq:l<=100000)(br:mb≠b)(cm:14<=b)(hS:fH b w s (.map (A1 mb)) fr p l W)(bd:w.ownsMap U 9 (plainElem (H:=Unit) U 3) mb 22 (yl 22))(b6:Hg w):
  Calls U 125 #[A4 (A1 ⟨b,0,Y⟩)] w fun e o=>e= .returned (.agg #[M O (rdI s p).k,M O p,M O ((rdI s p).a:Int),M O l,M O (rdI s p).n,S (rdI s p).x])/\w.grownBy o (A1 b)/\fH b o s (.map (A1 mb)) (p:Int) ((rdI s p).a:Int) (l+(rdI s p).d) (!(rdI s p).ok):=by
 have bn:b<w.heap.size:=ah hS;have cc:mb<w.heap.size:=bd.lt;have cs:=fun w=>cD C w;obtain⟨J,K,L,ad,af,ak,al,am⟩:=eI hS;obtain⟨cg,ck⟩:=ED hS;obtain⟨bt,bh⟩:=ay (rdI s p);rw[bh];have bb:=aw bh;clear bh;go_in;go_wp2_with fail;have a3:=hS.setF (p:Int);have a0:=LG (t:=b) bd ((ql.refl b b w).setB 2 (M O (p:Int))) br br;have av:Hg (w.setCell ⟨b,2,Y⟩ (M O (p:Int))):=b6.blocks (fun k a6=>aD _ _ _ _ (by simp only;omega));have bo:w.grownBy (w.setCell ⟨b,2,Y⟩ (M O (p:Int))) (A1 b):=⟨rfl,rfl,rfl,by simp[World.setCell],fun k a6 A=>aD _ _ _ _ (fun e=>A (by rw[e]))⟩;have a8:(w.setCell ⟨b,2,Y⟩ (M O (p:Int))).heap.size=w.heap.size:=by simp[World.setCell]
 obtain⟨bx,bA,bD,bE,b0,b2,b3,b4⟩:=eI a3;obtain⟨b1,b5⟩:=ED a3;rw[<-a8];rw[<-a8]at bn cc;generalize w.setCell ⟨b,2,Y⟩ (M O (p:Int))=d at a3 a0 av bo a8 bn cc bx bA bD bE b0 b2 b3 b4 b1 b5⊢;have ce:=aw bo;clear hS bd b6 bo a8 J K L ad af ak al am cg ck;go_region
 have b9:∀x:Z,dj x.heap.size (x.alloc (Ax #[M O 0,M O 0,M O 0,M O 0,M O 0,S ⟨#[]⟩] 96)) 0 0 0 0 0 Q:=fun x=>aj x _;have ao:Below d.heap.size d ((d.alloc (Ax #[M O 0,M O 0,M O 0,M O 0,M O 0,S ⟨#[]⟩] 96)).alloc (Ax #[M O 0,M O p,M O 0,M O l,M O 0,S ⟨#[]⟩] 96)):=
  (((ag _ d).alloc (ae _) _).alloc (by simp) _)
 have a5:dj d.heap.size ((d.alloc (Ax #[M O 0,M O 0,M O 0,M O 0,M O 0,S ⟨#[]⟩] 96)).alloc (Ax #[M O 0,M O p,M O 0,M O l,M O 0,S ⟨#[]⟩] 96)) 0 0 0 0 0 Q:=
  (bm _ _ _ (by simp)).trans (b9 d)
 have bl:dj (d.heap.size+1) ((d.alloc (Ax #[M O 0,M O 0,M O 0,M O 0,M O 0,S ⟨#[]⟩] 96)).alloc (Ax #[M O 0,M O p,M O 0,M O l,M O 0,S ⟨#[]⟩] 96)) 0 p 0 l 0 Q:=by
  have:=aj (d.alloc (Ax #[M O 0,M O 0,M O 0,M O 0,M O 0,S ⟨#[]⟩] 96)) (Ax #[M O 0,M O p,M O 0,M O l,M O 0,S ⟨#[]⟩] 96);rw[aF]at this;exact this
 have a4:=a3.below ao bn;have r:=av.below ao (ae _);have a1:=(a0.alloc (Ax #[M O 0,M O 0,M O 0,M O 0,M O 0,S ⟨#[]⟩] 96)).alloc (Ax #[M O 0,M O p,M O 0,M O l,M O 0,S ⟨#[]⟩] 96);obtain⟨i,b8⟩:=ay ((d.alloc (Ax #[M O 0,M O 0,M O 0,M O 0,M O 0,S ⟨#[]⟩] 96)).alloc (Ax #[M O 0,M O p,M O 0,M O l,M O 0,S ⟨#[]⟩] 96));rw[b8]at ao a5 bl a4 r a1⊢;clear b8 b9 bx bA bD bE b0 b2 b3 b4 b1 b5;obtain⟨J,K,L,ad,af,ak,al,am⟩:=eI a4;have A:b≠d.heap.size+1:=by omega
 go_wp2_with fail;go_quiet (fail)
 go_upto_block 0 with fail
 have y:fH b (i.drew.drewN nq) s (.map (A1 mb)) p p l W:=a4;have z:dj (d.heap.size+1) (i.drew.drewN nq) 0 p 0 l 0 Q:=bl;have j:ql b (d.heap.size+1) i (i.drew.drewN nq):=((ql.refl _ _ _).drew).drewN nq;have a2:(i.drew.drewN nq).ownsMap U 9 (plainElem (H:=Unit) U 3) mb 22 (yl 22):=a1;have ap:qo (i.drew.drewN nq):=⟨r.tabs.word,r.tabs.mark,r.tabs.bin⟩;have ar:mI (i.drew.drewN nq):=⟨r.errs.syn,r.errs.rng⟩;generalize i.drew.drewN nq=I at y z j a2 ap ar⊢;clear J K L ad af ak al am cs;go_cut [] from 4 (fun cw=>ak6 b (d.heap.size+1) i cw s (.map (A1 mb)) p p l bt)
 case first=>
  have a9:=E3 s a7 b (d.heap.size+1) mb I p l l C A br (by omega) y z a2;have E:=fun cn=>BB s a7 b (d.heap.size+1) I (.map (A1 mb)) p l l C cn A y z ar (by omega) (by omega);have F:=Bn s a7 b (d.heap.size+1) I (.map (A1 mb)) p l p l C A y z;have G:=E6 s a7 b (d.heap.size+1) I (.map (A1 mb)) p l l C cr cq A y z ap cm (by omega);have f:=bb.out;unfold rdI at f;clear a2 ap ar r a1 av a0 bb;cases hlt:cd (az s p) with
  |true=>
   rw[hlt,ab rfl]at f;have q:=aw f;have g:=fun w=>kL (az s p) w;rw[hlt]at g;clear f hlt E F G;generalize az s p=bw at g⊢;go_wp2_with (first|(go_at_call 164;refine(g _).mono ?_;rintro e o ⟨rfl,rfl⟩)|(go_at_call 165;refine a9.mono ?_;rintro e bs ⟨rfl,h,c,an⟩));go_meet
   case rel=>rw[<-q.out];exact⟨j.trans h,by simpa using c,an⟩
  |false=>
   rw[hlt,aa (by simp)]at f;have g:=fun w=>kL (az s p) w;rw[hlt]at g;cases hdg:cu (az s p) with
   |true=>
    rw[hdg,ab rfl]at f;have m:=fun w=>ip (az s p) w;rw[hdg]at m;have q:=aw f;have ct:=E hdg;clear f hlt hdg a9 E F G;generalize az s p=bw at g m⊢;go_wp2_with (first|(go_at_call 164;refine(g _).mono ?_;rintro e o ⟨rfl,rfl⟩)|(go_at_call 166;refine(m _).mono ?_;rintro e o ⟨rfl,rfl⟩)|(go_at_call 167;refine ct.mono ?_;rintro e bs ⟨rfl,h,c⟩;have B:Hid _:=c;clear c));go_meet
    case rel=>
     rw[<-q.out];have c:=B.out;cases hok:(dl s p).2 with
     |true=>rw[hok]at c;simp only[jh]at c⊢;exact⟨j.trans h,by simpa using c.1,c.2⟩
     |false=>rw[hok]at c;simp only[Ar,if_false]at c⊢;exact⟨j.trans h,by simpa using c.1,c.2⟩
   |false=>
    rw[hdg,aa (by simp)]at f;have m:=fun w=>ip (az s p) w;rw[hdg]at m;by_cases u:az s p=34
    ·rw[ab u]at f;have q:=aw f;rw[u]at g m⊢;generalize gx s (s.size+1) (p+1) []=cf at F q;clear f hlt hdg u a9 E G;go_wp2_with (first|(go_at_call 164;refine(g _).mono ?_;rintro e o ⟨rfl,rfl⟩)|(go_at_call 166;refine(m _).mono ?_;rintro e o ⟨rfl,rfl⟩)|(go_at_call 168;refine F.mono ?_;rintro e bs ⟨rfl,h,c⟩;have B:Hid _:=c;clear c));go_meet
     case rel=>
      rw[<-q.out];have c:=B.out;unfold lB at c;obtain⟨cv,c8,c9⟩:=cf;cases cv with
      |true=>simp only[jh]at c⊢;exact⟨j.trans h,by simpa using c.1,c.2⟩
      |false=>simp only[Ar,if_false]at c⊢;exact⟨j.trans h,by simpa using c.1,c.2⟩
    ·rw[aa u]at f;have cl:(az s p==34)=W:=by rw[aK];exact u
     generalize se (s.extract p s.size)=k at G f;have q:=aw f;clear f hlt hdg u a9 E F;generalize az s p=bw at g m cl⊢;go_wp2_with (first|(go_at_call 164;refine(g _).mono ?_;rintro e o ⟨rfl,rfl⟩)|(go_at_call 166;refine(m _).mono ?_;rintro e o ⟨rfl,rfl⟩)|(go_at_call 169;refine G.mono ?_;rintro e bs ⟨rfl,h,c⟩;have B:Hid _:=c;clear c));go_meet
     case rel=>
      rw[<-q.out];have c:=B.out;unfold JK at c;by_cases a6:k=0
      ·rw[ab a6]at c⊢;exact⟨j.trans h,by simpa using c.1,c.2⟩
      ·rw[aa a6]at c⊢;refine⟨j.trans h,?_,c.2⟩;have an:=c.1;have ch:(if k=7 then l+1 else l)=l+(if k=7 then 1 else 0):=by split<;>omega
       rw[ch]at an;simpa using an
 case rest=>
  obtain⟨cb,bk,b7⟩:=hcut;have ca:dj d.heap.size wc 0 0 0 0 0 Q:=(cb.block d.heap.size (ah a5) (by omega) (by omega)).trans a5;clear a4 bl a5 y z j a2 ap ar r a1 av a0 bb;obtain⟨c7,a,c5,k,n,x⟩:=bt;simp only at bk b7⊢;obtain⟨J,K,L,ad,af,ak,al,am⟩:=eI bk;obtain⟨df,dk,dn,dq,ds,dz,d0⟩:=bf b7;obtain⟨z0,cx,cy,cz,cB,cI,d1⟩:=bf ca;have c6:d.heap.size<wc.heap.size:=ah ca;go_wp2;refine ba (v:= .agg #[M O k,M O p,M O (a:Int),M O l,M O n,S x]) (by simp[results,Tryz.results125,go_sem,z0,cx,cy,cz,cB,cI]) rfl ⟨rfl,?_,?_⟩
  ·refine lF ce.out ?_;exact vA (vA (vA (vA (vA (vA (vA (aiu ao cb (by omega)) _ (by simp)) _ (by simp)) _ (by simp)) _ (by simp)) _ (by simp)) _ (by simp)) _ (by simp)
  ·exact((((((bk.other (by simp;omega) _).other (by simp;omega) _).other (by simp;omega) _).other (by simp;omega) _).other (by simp;omega) _).other (by simp;omega) _).other (by simp;omega) _
def vJ(b:Nat)(w:Z)(s:ByteArray)(m:A0)(p l:Int)(k:Bool):Prop:=∃a,fH b w s m a p l k
theorem vJ.cells{b:Nat}{w:Z}{s:ByteArray}{m:A0}{p l:Int}{k:Bool}(h:vJ b w s m p l k):w.cell? ⟨b,0,Y⟩=A1 (S s)/\w.cell? ⟨b,1,Y⟩=A1 m/\w.cell? ⟨b,3,Y⟩=A1 (M O p)/\w.cell? ⟨b,4,Y⟩=A1 (M O l)/\w.cell? ⟨b,5,Y⟩=A1 (.bool k)/\
  w.frozen? ⟨b,3,Y⟩=W/\w.frozen? ⟨b,4,Y⟩=W/\w.frozen? ⟨b,5,Y⟩=W:=by obtain⟨a,h⟩:=h;exact eI h
theorem vJ.pos{b:Nat}{w:Z}{s:ByteArray}{m:A0}{p:Nat}{l:Int}{k:Bool}(h:vJ b w s m p l k):Dp b w=p:=by obtain⟨a,h⟩:=h;exact sr h
theorem vJ.lt{b:Nat}{w:Z}{s:ByteArray}{m:A0}{p l:Int}{k:Bool}(h:vJ b w s m p l k):b<w.heap.size:=by obtain⟨a,h⟩:=h;exact ah h
theorem vJ.setP{b:Nat}{w:Z}{s:ByteArray}{m:A0}{p l:Int}{k:Bool}(h:vJ b w s m p l k)(x:Int):vJ b (w.setCell ⟨b,3,Y⟩ (M O x)) s m x l k:=by obtain⟨a,h⟩:=h;exact⟨a,h.setP x⟩
theorem vJ.heap{b:Nat}{w a:Z}{s:ByteArray}{m:A0}{p l:Int}{k:Bool}(h:vJ b w s m p l k)(d:a.heap[b]?=w.heap[b]?):vJ b a s m p l k:=by obtain⟨c,h⟩:=h;exact⟨c,d.trans h⟩
theorem ags(i:Nat)(h:i<11):gc (40+(i:Int))=ci iI i:=by
 unfold gc;rw[aa (by omega),aa (by omega),aa (by omega),ab (by omega)];rw[show(40+(i:Int)-40).toNat=i by omega]
theorem agt(i:Nat)(h:i<18):gc (61+(i:Int))=ci lC i:=by
 unfold gc;rw[aa (by omega),aa (by omega),aa (by omega),aa (by omega),ab (by omega)];rw[show(61+(i:Int)-61).toNat=i by omega]
def Sgn(r:ByteArray)(k:Int)(n:Nat):Prop:=(k=0/\n=0)\/(n=(gc k).size/\1<=n/\T r.data.toList (gc k).data.toList=X/\k≠0)
theorem E7(V:Array A0)(base:Int)(r:ByteArray)(N:Nat)(c:0<base)(b:∀i,i<N->gc (base+(i:Int))=ci V i):∀(f i:Nat)(a:Int×Nat),i+f<=N->Sgn r a.1 a.2->Sgn r (DB V base r f i a).1 (DB V base r f i a).2
 |0,i,a,_,h=>h
 |f+1,i,a,e,h=>by
  unfold DB;refine E7 V base r N c b f (i+1) _ (by omega) ?_;split
  ·rename_i d;refine .inr ⟨?_,?_,?_,?_⟩
   ·show(ci V i).size=_;rw[b i (by omega)]
   ·show 1<=(ci V i).size;omega
   ·show T _ (gc (base+(i:Int))).data.toList=X;rw[b i (by omega)];exact d.2
   ·show base+(i:Int)≠0;omega
  ·exact h
theorem agu(r x:ByteArray)(h:T r.data.toList x.data.toList=X):x.size<=r.size:=by
 unfold T at h;rw[Ao]at h;have:=h.length_le
 rwa [iv,iv]at this
theorem LJ(r:ByteArray)(h:0<r.size)(a:se r≠0):1<=(gc (se r)).size/\(gc (se r)).size<=r.size:=by
 unfold se at a⊢;split
 ·exact⟨by decide,by show 1<=r.size;omega⟩
 split
 ·exact⟨by decide,by show 1<=r.size;omega⟩
 rename_i c d;rw[aa c,aa d]at a;have f:=E7 iI 40 r 11 (by omega) ags 11 0 (0,0) (by omega) (.inl ⟨rfl,rfl⟩);have g:=E7 lC 61 r 18 (by omega) agt 18 0 _ (by omega) f;rcases g with⟨b,_⟩|⟨b,i,e,_⟩
 ·exact absurd b a
 ·exact⟨by omega,agu r _ e⟩
theorem E8(s:ByteArray)(p:Nat)(h:cd (az s p)=X):p<mo s (s.size+1) p:=by
 have a:p<s.size:=by
  rcases co p s.size with h1|h1
  ·exact h1
  ·exact absurd (.inl h) (Bq (by omega))
 rw[mo,ab (.inl h)];have:=vD s s.size (p+1) (by omega);omega
theorem mq(s:ByteArray)(p:Nat)(i:p<s.size)(b:(rdI s p).ok=X):p<(rdI s p).a/\(rdI s p).a<=s.size/\0<=(rdI s p).d/\(rdI s p).d<=1:=by
 unfold rdI at b⊢;split
 ·rename_i h;exact⟨E8 s p h,(vD s _ p (by omega)).2,by simp,by simp⟩
 split
 ·rename_i c e;rw[aa c,ab e]at b;have:=uh s p i;split
  ·exact⟨this.1,this.2,by simp,by simp⟩
  ·rename_i f;rw[aa f]at b;cases b
 split
 ·rename_i c e f;rw[aa c,aa e,ab f]at b;have:=so s (s.size+1) (p+1) [] (by omega);split
  ·exact⟨by simp only;omega,this.2.1,by simp,by simp⟩
  ·rename_i g;rw[aa g]at b;cases b
 ·rename_i c e f;rw[aa c,aa e,aa f]at b;split
  ·rename_i g;rw[ab g]at b;cases b
  ·rename_i g;have j:=oE s p s.size (ae _);have:=LJ (s.extract p s.size) (by omega) g;refine⟨by simp only;omega,by simp only;omega,?_,?_⟩
   ·simp only;split<;>omega
   ·simp only;split<;>omega
def nnB(c:Int):Bool:=decide (c≠10/\c≠ -1)
theorem ac4:nnB (-1)=W:=by decide
def nlE(s:ByteArray)(p:Nat):Nat:=iJ nnB s (s.size+1) p
def blk(s:ByteArray):Nat->Nat->Nat
 |0,p=>p
 |f+1,p=>if s.size<=p then p else if kK (az s p)=X then blk s f (p+1) else if az s p=45/\az s (p+1)=45 then blk s f (nlE s p) else p
theorem BC(s:ByteArray)(p:Nat)(h:p<=s.size):p<=nlE s p/\nlE s p<=s.size:=pA nnB ac4 s _ p h
theorem Bd(s:ByteArray)(p:Nat)(h:az s p=45):p<nlE s p:=by
 have a:=dv h (by omega);unfold nlE;rw[iJ,ab (by rw[h];decide)];have:=pA nnB ac4 s s.size (p+1) (by omega);omega
theorem xB(s:ByteArray):∀(f g p:Nat),p<=s.size->s.size<p+f->s.size<p+g->blk s f p=blk s g p
 |0,g,p,h,a,b=>by omega
 |f+1,0,p,h,a,b=>by omega
 |f+1,g+1,p,h,a,b=>by
  unfold blk;split
  ·rfl
  split
  ·exact xB s f g (p+1) (by omega) (by omega) (by omega)
  split
  ·rename_i d;have e:=Bd s p d.1;have c:=BC s p h;exact xB s f g _ c.2 (by omega) (by omega)
  ·rfl
theorem mJ(s:ByteArray):∀(f p:Nat),p<=s.size->p<=blk s f p/\blk s f p<=s.size
 |0,p,h=>⟨ae _,h⟩
 |f+1,p,h=>by
  unfold blk;split
  ·exact⟨ae _,h⟩
  split
  ·have:=mJ s f (p+1) (by omega);omega
  split
  ·have a:=BC s p h;have:=mJ s f (nlE s p) a.2;omega
  ·exact⟨ae _,h⟩
def scn(s:ByteArray):Nat->Nat->Int->Bool×Nat×List Tk
 |0,_,_=>(X,0,[])
 |f+1,p,l=>
  if s.size<=blk s (s.size+1) p then(X,0,[])
  else if(rdI s (blk s (s.size+1) p)).ok=X then
   ((scn s f (rdI s (blk s (s.size+1) p)).a (l+(rdI s (blk s (s.size+1) p)).d)).1,(scn s f (rdI s (blk s (s.size+1) p)).a (l+(rdI s (blk s (s.size+1) p)).d)).2.1,
    ⟨(rdI s (blk s (s.size+1) p)).k,(blk s (s.size+1) p:Nat),((rdI s (blk s (s.size+1) p)).a:Nat),l,(rdI s (blk s (s.size+1) p)).n,(rdI s (blk s (s.size+1) p)).x⟩::(scn s f (rdI s (blk s (s.size+1) p)).a (l+(rdI s (blk s (s.size+1) p)).d)).2.2)
  else(W,(rdI s (blk s (s.size+1) p)).a,[])
structure Rel (s:ByteArray) (E:Bool×Nat×List Tk) (pre:List Tk) (p:Nat) (l:Int) (f:Nat):Prop where
 fu:s.size<p+f
 le:p<=s.size
 l0:0<=l
 l1:l<=(p:Int)+1
 cn:pre.length<=p
 eq:E=((scn s f p l).1,(scn s f p l).2.1,pre++(scn s f p l).2.2)
theorem abr(s:ByteArray)(p:Nat)(a:p<s.size)(h:kK (az s p)=X):blk s (s.size+1) p=blk s (s.size+1) (p+1):=by
 rw[blk,aa (by omega),ab h];exact xB s _ _ _ (by omega) (by omega) (by omega)
theorem ac5(c:Int)(h:c=45):¬kK c=X:=by subst h;decide
theorem ac6(s:ByteArray)(p:Nat)(h:az s p=45)(a:az s (p+1)=45):blk s (s.size+1) p=blk s (s.size+1) (nlE s p):=by
 have d:=dv h (by omega);have c:=Bd s p h;have b:=BC s p (by omega);rw[blk,aa (by omega),aa (ac5 _ h),ab ⟨h,a⟩];exact xB s _ _ _ b.2 (by omega) (by omega)
theorem E9(s:ByteArray)(p:Nat)(a:¬kK (az s p)=X)(b:¬(az s p=45/\az s (p+1)=45)):blk s (s.size+1) p=p:=by
 rw[blk,aa a,aa b];split<;>rfl
theorem agv(s:ByteArray)(p:Nat)(h:s.size<=p):blk s (s.size+1) p=p:=by rw[blk,ab h]
theorem Rel.tok{s:ByteArray}{E:Bool×Nat×List Tk}{pre:List Tk}{p f:Nat}{l:Int}(h:Rel s E pre p l f)(i:p<s.size)(e:¬kK (az s p)=X)(g:¬(az s p=45/\az s (p+1)=45))(b:(rdI s p).ok=X):
  Rel s E (pre++[⟨(rdI s p).k,(p:Nat),((rdI s p).a:Nat),l,(rdI s p).n,(rdI s p).x⟩]) (rdI s p).a (l+(rdI s p).d) (f-1):=by
 have j:=mq s p i b;have m:=h.fu;obtain⟨f,rfl⟩:∃c,f=c+1:=⟨f-1,by omega⟩;refine⟨by omega,j.2.1,by have:=h.l0;omega,by have:=h.l1;omega,by have:=h.cn;simp;omega,?_⟩;rw[h.eq,scn,E9 s p e g,aa (by omega),ab b];simp
theorem Rel.bad{s:ByteArray}{E:Bool×Nat×List Tk}{pre:List Tk}{p f:Nat}{l:Int}(h:Rel s E pre p l f)(i:p<s.size)(c:¬kK (az s p)=X)(d:¬(az s p=45/\az s (p+1)=45))(e:(rdI s p).ok=W):
  E=(W,(rdI s p).a,pre):=by
 have g:=h.fu;obtain⟨f,rfl⟩:∃b,f=b+1:=⟨f-1,by omega⟩;rw[h.eq,scn,E9 s p c d,aa (by omega),aa (by rw[e];simp)];simp
