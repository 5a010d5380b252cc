import Derived.Test.YtiaechpcebhcdaaGreatDoorHYk32
import Derived.Test.YtiaechpcebhcdaaGreatDoorHYk24
import Derived.Test.YtiaechpcebhcdaaGreatDoorHYk20
import Derived.Test.YtiaechpcebhcdaaGreatDoorHYk21
import Derived.Test.YtiaechpcebhcdaaGreatDoorHYk28
set_option linter.all false
set_option maxRecDepth 100000
set_option maxHeartbeats 12800000
open List renaming length->Q,range->D3
open Bool renaming true->Y,false->A6
open Go.Value renaming slice->Ax,int->A0,string->B3,string->B5,agg->Ck,bool->D4
open Option renaming some->A2,none->B1
open Go.IntKind renaming i64->A3
open Go.Obj renaming cells->A5
open Go.Proofs.Tryz renaming prog->A9
open ByteArray renaming empty->Br
open Go.RowKit renaming Below->B0,intOf->B7,Hid->C2
open Go renaming World->B2,Value->B6,Calls->Ce
open Go.Ending renaming returned->B4
namespace Go.Proofs.YtiaechpcebhcdaaGreatDoor
open Go.RowKit Go.Maps Go.WideMaps
variable{E:Int->Bz}{N:Nd}{R:Fo}{S:Int->Nat->Bz}{W w:World}{a c k t:Int}{b:Bool}{i j m n p tab:Nat}{ns:List Nd}{s:Bz}{st st':List Int}
theorem agx(w:B2)(i j:B6)(l:List Int)(q:dz w i l)(r:dz w j l)(t:Q l<=1048576):
  Ce A9 99 #[i,j] w λe v=>e= B4 (D4 Y)/\B0 w.heap.size w v:=by
 obtain⟨m,o,rfl⟩:=q.form;obtain⟨n,p,rfl⟩:=r.form;have⟨b,g⟩:=aw (Q l);have k:=aj g;have f:C2 (dz w (Ax m b o) l/\dz w (Ax n b p) l):=U;rw[g]at t⊢;go_in;go_wp21
 go_loopw [13] (λd wr=>∃a:Nat,a<=b/\d= A0 A3 a/\B0 w.heap.size w wr) (λd _=>b-(B7 d).toNat)
 case atStart=>exact⟨0,O,rfl,ai _ _⟩
 case round=>
  obtain⟨a,B,rfl,c⟩:=hrel;by_cases u:a<b
  .obtain⟨C,h⟩:=dh k.out u;obtain⟨x,rfl,z⟩:=(f.1.below c).get h;obtain⟨y,rfl,A⟩:=(f.2.below c).get h;have s:(a:Int)<(b:Int):=O;go_wp21
   go_quiet (fail)
   go_wp21
   exact⟨⟨a+1,O,by go_num,mi c _⟩,by simp[B7];omega⟩
  .obtain rfl:a=b:=O;have s:¬(a:Int)<(a:Int):=O;go_wp21
   go_ret
   simp_all
theorem acJ(w:B2)(i j:B6)(l:List Bz)(q:dv w i l)(r:dv w j l)(t:Q l<=1048576):
  Ce A9 98 #[i,j] w λe v=>e= B4 (D4 Y)/\B0 w.heap.size w v:=by
 obtain⟨m,o,rfl⟩:=q.form;obtain⟨n,p,rfl⟩:=r.form;have⟨b,g⟩:=aw (Q l);have k:=aj g;have f:C2 (dv w (Ax m b o) l/\dv w (Ax n b p) l):=U;rw[g]at t⊢;go_in;go_wp21
 go_loopw [13] (λd wr=>∃a:Nat,a<=b/\d= A0 A3 a/\B0 w.heap.size w wr) (λd _=>b-(B7 d).toNat)
 case atStart=>exact⟨0,O,rfl,ai _ _⟩
 case round=>
  obtain⟨a,B,rfl,c⟩:=hrel;by_cases u:a<b
  .obtain⟨C,h⟩:=dh k.out u;obtain⟨x,rfl,z⟩:=(f.1.below c).get h;obtain⟨y,rfl,A⟩:=(f.2.below c).get h;have s:(a:Int)<(b:Int):=O;go_wp21
   go_quiet (fail)
   go_wp21
   exact⟨⟨a+1,O,by go_num,mi c _⟩,by simp[B7];omega⟩
  .obtain rfl:a=b:=O;have s:¬(a:Int)<(a:Int):=O;go_wp21
   go_ret
   simp_all
def fj.rd{a:Addr}{c k:Nat}{l:List Nd}(h:fj W (Ax (A2 a) n c) l)(m:l[k]?=A2 N):
  ∃d i e b g ck,(W.cell? (a.add (k*9))=A2 (A0 A3 N.k)/\W.cell? ⟨(a.add (k*9)).block,(a.add (k*9)).off+1,B1⟩=A2 (A0 A3 N.f)/\W.cell? ⟨(a.add (k*9)).block,(a.add (k*9)).off+2,B1⟩=A2 (A0 A3 N.t)/\W.cell? ⟨(a.add (k*9)).block,(a.add (k*9)).off+3,B1⟩=A2 (A0 A3 N.l)/\W.cell? ⟨(a.add (k*9)).block,(a.add (k*9)).off+4,B1⟩=A2 (A0 A3 N.op)/\W.cell? ⟨(a.add (k*9)).block,(a.add (k*9)).off+5,B1⟩=A2 (A0 A3 N.n)/\W.cell? ⟨(a.add (k*9)).block,(a.add (k*9)).off+6,B1⟩=A2 (B3 N.x)/\W.cell? ⟨(a.add (k*9)).block,(a.add (k*9)).off+7,B1⟩=A2 (Ax d i e)/\W.cell? ⟨(a.add (k*9)).block,(a.add (k*9)).off+8,B1⟩=A2 (Ax b g ck))/\Q N.ks=g/\dz W (Ax b g ck) N.ks/\dv W (Ax d i e) N.nm:=by
 have⟨o,j,q,p,h⟩:=h.get m;cases j;obtain⟨d,e,rfl⟩:=h.hn.form;obtain⟨b,ck,rfl⟩:=h.hk.form;exact⟨d,_,e,b,_,ck,⟨h.c0,h.c1,h.c2,h.c3,h.c4,h.c5,h.c6,h.c7,h.c8⟩,rfl,h.hk,h.hn⟩
theorem ck9{V:B2}(l:B0 W.heap.size W V){a b c d e f g i j:Addr}{p q r s t u v x k:B6}(h:W.cell? a=A2 p/\W.cell? b=A2 q/\W.cell? c=A2 r/\W.cell? d=A2 s/\W.cell? e=A2 t/\W.cell? f=A2 u/\W.cell? g=A2 v/\W.cell? i=A2 x/\W.cell? j=A2 k):
  V.cell? a=A2 p/\V.cell? b=A2 q/\V.cell? c=A2 r/\V.cell? d=A2 s/\V.cell? e=A2 t/\V.cell? f=A2 u/\V.cell? g=A2 v/\V.cell? i=A2 x/\V.cell? j=A2 k:=by
 obtain⟨m,n,o,w,y,z,A,B,C⟩:=h;have E:=λ{a v}=>aq l (a:=a) (v:=v);grind
def agy(w:B2)(N:Nd)(h f i g:B6)(n:dv w h N.nm)(k:dz w f N.ks)(n2:dv w i N.nm)(l:dz w g N.ks)(y:Q N.nm<=1048576)(z:Q N.ks<=1048576):
  Ce A9 47 #[jA N h f,jA N i g] w λe B=>e= B4 (D4 Y)/\B0 w.heap.size w B:=by
 have ks:=λb (a:B0 w.heap.size w b)=>acJ b h i N.nm (n.below a) (n2.below a) y;have m:=λb (a:B0 w.heap.size w b)=>agx b f g N.ks (k.below a) (l.below a) z;obtain⟨E,G,rfl⟩:=n.form;obtain⟨F,H,rfl⟩:=n2.form;obtain⟨p,s,rfl⟩:=k.form;obtain⟨q,t,rfl⟩:=l.form;unfold jA;generalize Q N.nm=C at ks⊢;generalize Q N.ks=j at m⊢;go_in;go_wp2_with fail;generalize x:(w.alloc _).alloc _=o;obtain⟨u,v,d, -⟩:=Da x;refine dm (ks o d) λw1 c=>?_;have K:w1.cell? ⟨w.heap.size,8,B1⟩=A2 (Ax p j s):=aq c ((au _ _ _ _ _ _ u).trans rfl);have L:w1.cell? ⟨w.heap.size+1,8,B1⟩=A2 (Ax q j t):=aq c ((au _ _ _ _ _ _ v).trans rfl);have a:=d.trans (c.mono d.size);have A:=m w1 a;go_wp2_with (go_at_call 99;refine dm A λad r=>?_);go_ret;exact⟨rfl,a.trans (r.mono a.size)⟩
theorem agz(w:B2)(y z:B6)(l:List Nd)(k:fj w y l)(m:fj w z l)(L:Q l<=1048576)(H:∀N∈l,Q N.nm<=1048576/\Q N.ks<=1048576):
  Ce A9 21 #[Ck #[y],Ck #[z]] w λe ar=>e= B4 (D4 Y)/\B0 w.heap.size w ar:=by
 obtain⟨A,C,rfl⟩:=k.form;obtain⟨B,E,rfl⟩:=m.form;have⟨b,v⟩:=aw (Q l);rw[v]at k m L⊢;have c:=Dy v k m H;go_in;go_wp2_with fail;generalize K:(w.alloc _).alloc _=g;obtain⟨F,G,s, -⟩:=Da K;have o:g.cell? ⟨w.heap.size,0,B1⟩=A2 (Ax A b C):=(au _ _ _ _ _ _ F).trans rfl;have p:g.cell? ⟨w.heap.size+1,0,B1⟩=A2 (Ax B b E):=(au _ _ _ _ _ _ G).trans rfl;have f:=jB s o p;go_loopw [16] (λq wr=>∃a:Nat,a<=b/\q= A0 A3 a/\B0 g.heap.size g wr) (λq _=>b-(B7 q).toNat)
 case atStart=>exact⟨0,nH,rfl,ai _ _⟩
 case round=>
  obtain⟨a,a7,rfl,h⟩:=hrel;have o:=aq h f.2.1;have p:=aq h f.2.2;have n:=f.1.trans (h.mono f.1.size);by_cases ad:a<b
  .obtain⟨N,d⟩:=dh c.1 ad;have⟨ao,ap⟩:=c.2.2.2 N (da d);obtain⟨a4,rfl, -⟩:=c.2.1.get d;obtain⟨s,rfl, -⟩:=c.2.2.1.get d;have⟨bc,av,bh,bf,aL,bk,am,a5,af,ak⟩:=(c.2.1.below n).rd d;have⟨bd,a0,bj,bg,a3,bl,an,a6,ag,al⟩:=(c.2.2.1.below n).rd d;have x:=agy wr.drew N _ _ _ _ ak af al ag ao ap;unfold jA at x;have a9:(a:Int)<(b:Int):=O;have a8:(0:Int)<=(a:Int):=O;have u:B0 wr.heap.size wr wr.drew:=bu (ai _ wr);have ba:=λj (i:B0 wr.heap.size wr j)=>(⟨⟨aq i o,aq i p⟩,ck9 i am,ck9 i an⟩:(_/\_)/\_/\_);have r:=fD n h;go_wp2_with fail;go_region_held3 (λj=>B0 wr.heap.size wr j) (first|exact u.trans t|exact u) ((go_at_call 47;refine dm x λbb t=>?_))
   go_wp2;exact⟨⟨a+1,O,by go_num,(bu r.2).trans (t.mono r.2.size)⟩,by simp[B7];omega⟩
  .obtain rfl:a=b:=O;go_wp2;go_ret
   simp_all
theorem amH{C:Cd}{a:Option Addr}{cap:Nat}(b:Code C w.heap.size w a)(i:Int)(t:0<=i)(u:i<=100):
  Ce A9 9 #[Ax a C.len cap,A0 A3 i] w λe r=>∃z:Int,e= B4 (A0 A3 z)/\0<=z/\z<=255/\r=w:=by
 have p:=C.ok;have h:=C.bt;have j:∀i,i<C.len->∃z,0<=z/\z<256/\∀f g,(∀i,i<C.len->w.cell? ⟨f,g+i,B1⟩=A2 (A0 .u8 (C.cd i)))->w.cell? ⟨f,g+i,B1⟩=A2 (A0 .u8 z):=λi o=>⟨C.cd i,(h i).1,(h i).2,λf g n=>n i o⟩;unfold Code at b;have⟨c,l⟩:=aw C.len;rw[l]at b p j⊢;clear h l;by_cases k:c=0
 .subst k;go_in;go_wp2;go_ret
  simp_all
 .rcases b with b|⟨f,g,rfl,_,b⟩
  .exact absurd b k
  .obtain⟨d,y⟩:∃d:Nat,i%(c:Int)=(d:Int):=eJ (Int.emod_nonneg _ O);have q:d<c:=by have:=Int.emod_lt_of_pos i ((O:(0:Int)<(c:Int)));omega
   obtain⟨z,z0,E,m⟩:=j d q;have v:=m f g b;have s:((c:Int)==0)=A6:=U;have x:(0:Int)<(c:Int):=O;have B:(d:Int)<(c:Int):=O;have A:(0:Int)<=(d:Int):=O;clear b k j m;go_in;go_wp2;go_ret;exact⟨z,rfl,z0,O,rfl⟩
def aa5(W:B2)(u v:B6)(c a:Int)(ns:List Nd)(l:fj W u ns)(m:fj W v ns)(q:Q ns<=1048576)(p:∀N∈ns,Q N.nm<=1048576/\Q N.ks<=1048576):
  Ce A9 7 #[Ck #[A0 A3 c,A0 A3 a,u],Ck #[A0 A3 c,A0 A3 a,v]] W λe n=>e= B4 (D4 Y)/\B0 W.heap.size W n:=by
 have s:∀d,B0 W.heap.size W d->Ce A9 21 #[Ck #[u],Ck #[v]] d λe n=>e= B4 (D4 Y)/\B0 d.heap.size d n:=λd o=>agz d u v ns (l.below o) (m.below o) q p;obtain⟨g,j,rfl⟩:=l.form;obtain⟨h,k,rfl⟩:=m.form;have⟨f,r⟩:=aw (Q ns);rw[r]at s⊢;have w:∀b:B2,(Instr.field 28 (Ck #[A0 A3 c,A0 A3 a,Ax g f j]) 2).run A9 b= .ok (Ck #[Ax g f j]) b:=λb=>by rfl
 have x:∀b:B2,(Instr.field 28 (Ck #[A0 A3 c,A0 A3 a,Ax h f k]) 2).run A9 b= .ok (Ck #[Ax h f k]) b:=λb=>by rfl
 clear l m q p r;go_in;go_wp2_with fail;have i:=(de W (A5 #[A0 A3 c,A0 A3 a,Ax g f j] 28)).trans ((de _ (A5 #[A0 A3 c,A0 A3 a,Ax h f k] 28)).mono (de W _).size);refine dm (s _ i) λw1 t=>?_;go_wp2;go_ret;exact⟨rfl,i.trans (t.mono i.size)⟩
structure aqm (ns:List Nd):Prop where
 len:1<=Q ns/\Q ns<=3000
 kid:∀(i:Nat) N,ns[i]?=A2 N->∀z∈N.ks,0<=z/\z<(i:Int)
 kn:∀N∈ns,Q N.ks<=200
theorem Ar(h:(dF ns).1=0):aqm ns:=by
 unfold dF at h;by_cases l:kL ns=Y
 .grind
 rw[aa l]at h;have m:kL ns=A6:=U;have r:=jE m;obtain⟨d,f⟩:∃d,iK (gc ns) (Q ns) 0=d:=⟨_,rfl⟩;rw[f]at h;cases d with
 |some a=>rw[tf2]at h;omega
 |none=>
  have k:=qF f;have g:∀(a:Nat) b,ns[a]?=A2 b->jD ns a b=Y:=λa b c=>by
   have n:a<Q ns:=(List.getElem?_eq_some_iff.1 c).1;have i:=k a nH O;unfold gc at i;grind
  refine⟨⟨?_,?_⟩,λa b c t o=>?_,λb c=>?_⟩
  .omega
  .omega
  .have e:=g a b c;unfold jD at e;have j:klB b.ks a (Q b.ks) 0=Y:=by
    grind
   obtain⟨p,s,rfl⟩:=jd o;have:=Ao b.ks a (Q b.ks) 0 j p O O;grind
  .obtain⟨a,n,q⟩:=jd c;have e:=g a b U;unfold jD acE at e;grind
theorem ajx(h:(dF ns).1=0):∀(i:Nat) N,ns[i]?=A2 N->jD ns i N=Y:=by
 unfold dF at h;by_cases f:kL ns=Y
 .grind
 rw[aa f]at h;have⟨b,a⟩:=aw (iK (gc ns) (Q ns) 0);rw[a]at h;cases b with
 |some i=>rw[tf2]at h;omega
 |none=>
  have e:=qF a;intro i N d;have g:i<Q ns:=(List.getElem?_eq_some_iff.1 d).1;have c:=e i nH O;unfold gc at c;grind
theorem aqn{a d:Bool}(h:bK N a b A6 d=Y):N.x.size<=4000:=by
 unfold bK at h;simp only[cH,Bool.false_or]at h;have:=be h.1.2;have c:Q N.x.toList=0:=U;rw[fL]at c
 simp_all
def ajy(h:qp s=Y):s.size<=4000:=by
 have:=(be h).1;omega
theorem asu(h:fok s=Y):s.size<=4000:=by
 unfold fok at h;grind
def mG(h:jD ns i N=Y):qk ns N=Y/\Q N.ks<=200:=by
 unfold jD at h;rw[cH,cH]at h;exact⟨h.2.2,(be h.1).2.2.2⟩
theorem yl(h:qk ns N=Y)(a:17<=N.k:=by omega):kI ns N=Y:=by
 unfold qk at h
 rwa [aa (by unfold ll;grind)]at h
theorem qJ(h:qk ns N=Y)(a:1<=N.k/\N.k<=16:=by omega):stB ns N=Y:=by
 unfold qk at h
 rwa [ab (by unfold ll;grind)]at h
theorem aa6(h:qk ns N=Y):(1<=N.k/\N.k<=16)\/(20<=N.k/\N.k<=37)\/(40<=N.k/\N.k<=42):=by
 by_cases a:1<=N.k/\N.k<=16
 .omega
 .unfold qk at h;rw[aa (by unfold ll;grind)]at h;by_cases b:(20<=N.k/\N.k<=37)\/(40<=N.k/\N.k<=42)
  .omega
  .unfold kI at h
   repeat rw[aa O]at h
   cases h
theorem ae2(h:qk ns N=Y):bK N (decide (N.k=30\/N.k=31\/N.k=36)) (decide (N.k=5\/N.k=23)) (decide (N.k=24\/N.k=25\/N.k=26\/N.k=33\/N.k=42)) (decide (N.k=2\/N.k=3\/N.k=4\/N.k=9\/N.k=10\/N.k=14\/N.k=36))=Y:=by
 rcases aa6 h with g|g|g
 .have h:=qJ h g;unfold stB at h;rcases(O:N.k=1\/N.k=2\/N.k=3\/N.k=4\/N.k=5\/N.k=6\/N.k=7\/N.k=8\/N.k=9\/N.k=10\/N.k=11\/N.k=12\/N.k=13\/N.k=14\/N.k=15\/N.k=16) with e|e|e|e|e|e|e|e|e|e|e|e|e|e|e|e;all_goals (simp[e]at h;simp[e,h])
 .have h:=yl h;unfold kI at h;rcases(O:N.k=20\/N.k=21\/N.k=22\/N.k=23\/N.k=24\/N.k=25\/N.k=26\/N.k=27\/N.k=28\/N.k=29\/N.k=30\/N.k=31\/N.k=32\/N.k=33\/N.k=34\/N.k=35\/N.k=36\/N.k=37) with e|e|e|e|e|e|e|e|e|e|e|e|e|e|e|e|e|e;all_goals (simp[e]at h;simp[e,h])
 .have h:=yl h;unfold kI at h;rcases(O:N.k=40\/N.k=41\/N.k=42) with e|e|e;all_goals simp_all
def acK(h:jD ns i N=Y):N.x.size<=4000:=by
 have b:=(mG h).1;have a:=ae2 b;by_cases c:N.k=24\/N.k=25\/N.k=26\/N.k=33\/N.k=42
 .have h:=yl b;unfold kI at h;rcases c with e|e|e|e|e<;>simp[e]at h
  .exact asu h.2
  .omega
  all_goals exact ajy h.2
 .rw[aG c]at a;exact aqn a
theorem ae3(ns:List Nd):∀i,jk (ns.take i)=(jk ns).take i:=by
 refine uC (p:=λns=>∀i,jk (ns.take i)=(jk ns).take i) ?_ ?_ ns
 .intro i;simp[jk]
 .intro a d c i;rcases aH i (Q (a++[d])) with h|h
  .have b:i<=Q a:=U;rw[List.take_append_of_le_length b,c,uB,List.take_append_of_le_length (by rw[kJ];exact b)]
  .rw[dH h,dH (by rw[kJ];exact h)]
theorem ajz(h:ns[i]?=A2 N):(jk ns).getD i 0=tu ((jk ns).take i) i N.ks:=by
 have d:i<Q ns:=(List.getElem?_eq_some_iff.1 h).1;have b:ns.take (i+1)=ns.take i++[N]:=by rw[il,h];rfl
 have a:=ae3 ns (i+1);rw[b,uB,ae3,oq,kJ,Ir O,il]at a;have c:(jk ns)[i]?=A2 ((jk ns).getD i 0):=by
  rw[er,bi (by rw[kJ];exact d)];rfl
 rw[c]at a;have e:=List.append_cancel_left a;grind
def vv(S:List Int):List Int->Int
 |[]=>0
 |k::l=>S.getD k.toNat 0+vv S l
def ajA(S:List Int)(a b:List Int):vv S (a++b)=vv S a+vv S b:=by
 induction a with
 |nil=>simp[vv]
 |cons d e c=>simp only[dt,vv,c];omega
def ajB(S:List Int)(l:List Int):vv S l.reverse=vv S l:=by
 induction l with
 |nil=>rfl
 |cons b l a=>rw[List.reverse_cons,ajA,a];simp only[vv];omega
theorem ae4{S:List Int}:∀(l:List Int)(a b:Int),yD S l a=A2 b->b=a-vv S l
 |[],a,b,h=>by simp[yD]at h;simp[vv];omega
 |k::r,a,b,h=>by
  rw[yD]at h;split at h
  .have:=ae4 r _ _ h;simp only[vv];omega
  grind
theorem ajC(S:List Int)(i:Nat)(l:List Int)(h:∀k∈l,0<=k/\k<(i:Int)):vv (S.take i) l=vv S l:=by
 induction l with
 |nil=>rfl
 |cons k l c=>
  have a:=h k bH;have b:(S.take i).getD k.toNat 0=S.getD k.toNat 0:=by
   grind
  simp only[vv,b,c λk a=>h k (dC _ a)]
structure asv (ns:List Nd):Prop where
 at_:∀(i:Nat) N,ns[i]?=A2 N->(jk ns).getD i 0=1+vv (jk ns) N.ks
 le:∀i,(jk ns).getD i 0<=3000
theorem amI(h:(dF ns).1=0):asv ns:=by
 have g:=Ar h;unfold dF at h;by_cases p:kL ns=Y
 .grind
 rw[aa p]at h;have⟨k,n⟩:=aw (iK (gc ns) (Q ns) 0);rw[n]at h;cases k with
 |some a=>rw[tf2]at h;omega
 |none=>
  rw[tf2]at h;have⟨l,j⟩:=aw (iK (ia (jk ns)) (Q ns) 0);rw[j]at h;cases l with
  |some a=>rw[tf3]at h;omega
  |none=>
   have o:=qF j;have q:EB (jk ns):=Bi ns (λc b f e=>by
    have⟨a,hi,i⟩:=jd b;exact(g.kid a c U f e).1)
   refine⟨λa c b=>?_,λa=>?_⟩
   .have hi:a<Q ns:=(List.getElem?_eq_some_iff.1 b).1;have d:=o a nH O;unfold ia at d;rw[ajz b]at d⊢;unfold tu at d⊢;cases hw:yD ((jk ns).take a) c.ks.reverse a with
    |none=>grind
    |some r=>
     have i:=ae4 _ _ _ hw;rw[ajB,ajC _ _ _ (λf e=>g.kid a c b f e)]at i;grind
   .rcases aH a (Q ns) with hi|hi
    .have m:(jk ns)[a]?=A2 ((jk ns).getD a 0):=by
      rw[er,bi (by rw[kJ];exact hi)];rfl
     have:=q a _ m;have:=g.len;omega
    .rw[er,CH (by rw[kJ];exact hi)];decide
def oD(ns:List Nd)(N:Nd)(j:Nat):gq ns N j=(nodeI ns (eo N j)).k:=rfl
def nI:∀(f j:Nat),mD ns N f j=Y->∀q,j<=q->q<j+f->io (nodeI ns (eo N q)).k=Y
 |0,j,_,q,a,b=>O
 |f+1,j,h,q,a,b=>by
  rw[mD,cH]at h;rcases js a with rfl|h3
  .exact h.1
  .exact nI f (j+1) h.2 q h3 O
def ajD:∀(f j:Nat),sbB ns N f j=Y->∀q,j<=q->q<j+f->ll (nodeI ns (eo N q)).k=Y
 |0,j,_,q,a,b=>O
 |f+1,j,h,q,a,b=>by
  rw[sbB,cH]at h;rcases js a with rfl|h3
  .exact h.1
  .exact ajD f (j+1) h.2 q h3 O
def agA(h:BE k=Y):io k=Y:=by
 have:=be h;exact dB O
def aoh:∀(f j:Nat),tgB ns N f j=Y->∀q,j<=q->q<j+f->io (nodeI ns (eo N q)).k=Y
 |0,j,_,q,a,b=>O
 |f+1,j,h,q,a,b=>by
  rw[tgB,cH]at h;rcases js a with rfl|h3
  .exact agA h.1
  .exact aoh f (j+1) h.2 q h3 O
def ae5:∀(f j:Nat),enB ns N f j=Y->∀q,j<=q->q<j+f->40<=(nodeI ns (eo N q)).k/\(nodeI ns (eo N q)).k<=42
 |0,j,_,q,a,b=>O
 |f+1,j,h,q,a,b=>by
  rw[enB,cH]at h;rcases js a with rfl|h3
  .exact be h.1
  .exact ae5 f (j+1) h.2 q h3 O
structure Kid (ns:List Nd) (i:Nat) (N:Nd) (j q:Nat):Prop where
 at_:N.ks[j]?=A2 (q:Int)
 lt:q<i
 len:q<Q ns
 id:eo N j=(q:Int)
theorem iG(h:jD ns i N=Y)(c:i<Q ns)(j:Nat)(d:j<Q N.ks):∃q,Kid ns i N j q:=by
 unfold jD at h;rw[cH,cH]at h;have b:=Ao N.ks i (Q N.ks) 0 h.2.1 j O O;have a:N.ks[j]?=A2 (N.ks.getD j 0):=U;refine⟨(N.ks.getD j 0).toNat,?_,O,O,?_⟩
 .grind
 .show N.ks.getD j 0=_;omega
theorem oE{z:Int}(h:z∈N.ks):∃j,j<Q N.ks/\eo N j=z:=by
 have⟨j,a,b⟩:=jd h;exact⟨j,a,by unfold eo;grind⟩
def og(h:qk ns N=Y)(a:N.k=28\/N.k=29\/N.k=31\/N.k=32\/N.k=41:=by omega):Q N.ks=2/\mD ns N 2 0=Y/\(N.k=31->1<=N.op/\N.op<=18):=by
 have h:=yl h;unfold kI at h;rcases a with e|e|e|e|e<;>simp[e]at h<;>exact⟨O,by simp[h],O⟩
def pq(h:qk ns N=Y)(a:N.k=30\/N.k=33\/N.k=37\/N.k=40\/N.k=42:=by omega):Q N.ks=1/\io (nodeI ns (eo N 0)).k=Y/\(N.k=30->19<=N.op/\N.op<=22):=by
 have h:=yl h;unfold kI at h;rcases a with e|e|e|e|e<;>simp[e,oD]at h
 .exact⟨O,nI 1 0 h.1.1.1.2 0 O O,O⟩
 .exact⟨O,nI 1 0 h.1.1.1.2 0 O O,O⟩
 .exact⟨O,dB O,O⟩
 .exact⟨O,nI 1 0 h.1.2 0 O O,O⟩
 .exact⟨O,nI 1 0 h.1.1.2 0 O O,O⟩
theorem J7(h:qk ns N=Y)(a:N.k=34):1<=Q N.ks/\mD ns N (Q N.ks) 0=Y:=by
 have h:=yl h;unfold kI at h;simp[a,oD]at h;grind
theorem Fy(h:qk ns N=Y)(a:N.k=35):enB ns N (Q N.ks) 0=Y:=by
 have h:=yl h;unfold kI at h
 simp_all
theorem wA{b:Int}(h:gg N a b=Y)(c:b<=200):a<=(Q N.nm:Int)/\Q N.nm<=200:=by
 unfold gg at h;grind
def ajE(h:qk ns N=Y)(a:N.k=36):Q N.ks=1/\(nodeI ns (eo N 0)).k=1/\Q N.nm<=200/\(N.op=0\/N.op=1):=by
 have h:=yl h;unfold kI at h;simp[a,oD]at h;exact⟨O,h.1.1.1.2,(wA h.1.2 O).2,h.2⟩
theorem aa7(h:qk ns N=Y)(a:N.k=1):sbB ns N (Q N.ks) 0=Y:=by
 have h:=qJ h;unfold stB at h;grind
theorem ajF(h:qk ns N=Y)(a:20<=N.k/\N.k<=27):Q N.ks=0:=by
 have h:=yl h;unfold kI at h;grind
def sN(ns:List Nd)(i:Int):Nat:=((jk ns).getD i.toNat 0).toNat
def sK(ns:List Nd):List Int->Nat
 |[]=>0
 |k::l=>sN ns k+sK ns l
def aqo(ns:List Nd)(a b:List Int):sK ns (a++b)=sK ns a+sK ns b:=by
 induction a with
 |nil=>simp[sK]
 |cons d e c=>simp only[dt,sK,c];omega
def Fz(ns:List Nd)(l:List Int)(n:Nat):sK ns l=sK ns (l.take n)+sK ns (l.drop n):=by rw[<-aqo,wG]
structure Szd (ns:List Nd):Prop where
 nb:∀i:Nat,i<Q ns->jD ns i (nodeI ns i)=Y
 at_:∀i:Nat,i<Q ns->sN ns i=1+sK ns (nodeI ns i).ks
 le:∀i:Int,sN ns i<=3000
theorem acL(h:(dF ns).1=0):Szd ns:=by
 have g:=amI h;have p:=Ar h;have n:=ajx h;have l:EB (jk ns):=Bi ns (λi j e k=>by
  have⟨a,b,c⟩:=jd j;exact(p.kid a i U e k).1)
 have o:∀a:Nat,0<=(jk ns).getD a 0:=by
  intro a;rw[er];cases c:(jk ns)[a]? with
  |none=>decide
  |some r=>exact(l a r c).1
 have q:∀d:List Int,vv (jk ns) d=(sK ns d:Int):=by
  intro d
  induction d with
  |nil=>rfl
  |cons e s m=>
   have:=o e.toNat;simp only[vv,sK,m,sN];omega
 have f:∀a:Nat,a<Q ns->ns[a]?=A2 (nodeI ns a):=λa b=>by
  unfold nodeI;grind
 refine⟨λa b=>n a _ (f a b),λa b=>?_,λa=>?_⟩
 .have c:=g.at_ a _ (f a b);rw[q]at c;show((jk ns).getD (a:Int).toNat 0).toNat=_;grind
 .have:=g.le a.toNat;unfold sN;omega
theorem Hu(l:List Bz):(gx l).size<=(l.map λx=>x.size+2).sum:=by
 have c:∀a,(gx (l.take a)).size<=((l.take a).map λx=>x.size+2).sum:=by
  intro a
  induction a with
  |zero=>show(Br).size<=_;simp_all
  |succ a b=>
   rcases aH a (Q l) with h|h
   .rw[qh l a _ (bi h),ax,List.take_succ_eq_append_getElem h,fy,List.sum_append];have d:lm.size=2:=rfl;grind
   .rw[dH O];rw[dH O]at b;exact b
 have:=c (Q l);grind
theorem ac0(ns:List Nd)(b:Int->Nat)(d:Nat)(a:List Int)(h:∀z∈a,b z+10000<=2000000*sN ns z)(j:d<=10000):(a.map λz=>b z+d).sum<=2000000*sK ns a:=by
 induction a with
 |nil=>grind
 |cons z k e=>
  have g:=h z bH;have i:=e λf c=>h f (dC _ c);simp only[wI,List.sum_cons,sK,Nat.mul_add];omega
def uE(ns:List Nd)(E:Int->Bz)(a:List Int)(h:∀z∈a,(E z).size+10000<=2000000*sN ns z):(gx (a.map E)).size<=2000000*sK ns a:=by
 refine aK (Hu _) ?_;rw[List.map_map];exact ac0 ns (λz=>(E z).size) 2 a h O
theorem aa8(l:List Bz)(h:∀s∈l,s.size<=4000):(gx l).size<=4002*Q l:=by
 refine aK (Hu _) ?_
 induction l with
 |nil=>grind
 |cons c b a=>
  grind
theorem Hv(l:List Bz):(jz l).size=(l.map ByteArray.size).sum:=by
 have b:∀(a:Bz),(l.foldl (· ++·) a).size=a.size+(l.map ByteArray.size).sum:=by
  induction l with
  |nil=>grind
  |cons e d c=>grind
 have:=b Br;rw[show ByteArray.empty.size=0 from rfl]at this;unfold jz;omega
def aqp(ns:List Nd)(S:Int->Nat->Bz)(a:List Int)(tab:Nat)(ht:tab<=9000)(h:∀z∈a,(S z (tab+1)).size+10000<=2000000*sN ns z):(Ha S a tab).size+10000<=2000000*(1+sK ns a)-900000:=by
 unfold Ha;by_cases b:a=[]
 .rw[ab b];show 2+10000<=_;omega
 .rw[aa b,ax,ax,ax,Hv,ue,List.map_map];have c:(a.map (ByteArray.size ∘ λd=>mF (tab+1)++S d (tab+1)))=a.map λz=>(S z (tab+1)).size+(tab+2):=by
   apply List.map_congr_left;intro z e;simp only[Function.comp];rw[ax,ue];omega
  rw[c];have:=ac0 ns (λz=>(S z (tab+1)).size) (tab+2) a h O;show 1+_+(tab+1)+1+10000<=_;omega
def As(h:mD ns N 1 0=Y):io (nodeI ns (eo N 0)).k=Y:=nI 1 0 h 0 O O
def ajG(h:qk ns N=Y)(a:N.k=2):mD ns N (Q N.ks) 0=Y/\Q N.nm<=200:=by
 have h:=qJ h;unfold stB at h;simp only[a]at h;simp at h;exact⟨h.2,(wA h.1.2 O).2⟩
def FA(h:qk ns N=Y)(b:N.k=3):Q N.ks=1/\io (nodeI ns (eo N 0)).k=Y/\Q N.nm=1:=by
 have h:=qJ h;unfold stB at h;simp[b]at h;have:=wA h.1.1.2 O;have a:=h.1.1.2;unfold gg at a;rw[cH]at a;have:=be a.1;exact⟨O,As h.2,O⟩
theorem ac1(h:qk ns N=Y)(b:N.k=4):Q N.ks=1/\(nodeI ns (eo N 0)).k=36/\Q N.nm=1:=by
 have h:=qJ h;unfold stB at h;simp[b,oD]at h;have a:=h.1.1.2;unfold gg at a;grind
theorem aqq(h:qk ns N=Y)(a:N.k=5):1<=N.n/\N.n<(Q N.ks:Int)/\tgB ns N N.n.toNat 0=Y/\mD ns N (Q N.ks-N.n.toNat) N.n.toNat=Y:=by
 have h:=qJ h;unfold stB at h;grind
def Hw(h:qk ns N=Y)(a:N.k=6\/N.k=16):Q N.ks=1/\(nodeI ns (eo N 0)).k=34:=by
 have h:=qJ h;unfold stB at h;rcases a with e|e<;>simp[e,oD]at h<;>exact⟨O,h.2⟩
def ajH(h:qk ns N=Y)(a:N.k=7):2<=Q N.ks/\Q N.ks<=3/\io (nodeI ns (eo N 0)).k=Y/\(nodeI ns (eo N 1)).k=1/\(Q N.ks=2\/(nodeI ns (eo N 2)).k=1\/(nodeI ns (eo N 2)).k=7):=by
 have h:=qJ h;unfold stB at h;simp[a,oD]at h;exact⟨h.2.1.1,h.2.1.2,As h.2.2.1,h.2.2.2.1,O⟩
def FC(h:qk ns N=Y)(a:N.k=8):Q N.ks=2/\io (nodeI ns (eo N 0)).k=Y/\(nodeI ns (eo N 1)).k=1:=by
 have h:=qJ h;unfold stB at h;simp[a,oD]at h;exact⟨O,As h.1.2,h.2⟩
theorem ac2(h:qk ns N=Y)(b:N.k=9):(Q N.ks=3\/Q N.ks=4)/\mD ns N (Q N.ks-1) 0=Y/\(nodeI ns (eo N (Q N.ks-1))).k=1/\Q N.nm=1:=by
 have h:=qJ h;unfold stB at h;simp[b,oD]at h;have a:=h.2.1;unfold gg at a;grind
def J8(h:qk ns N=Y)(a:N.k=10):Q N.ks=2/\io (nodeI ns (eo N 0)).k=Y/\(nodeI ns (eo N 1)).k=1/\Q N.nm<=200:=by
 have h:=qJ h;unfold stB at h;simp[a,oD]at h;exact⟨O,As h.1.2,h.2,(wA h.1.1.1.2 O).2⟩
theorem aqr(h:qk ns N=Y)(a:N.k=13):mD ns N (Q N.ks) 0=Y:=by
 have h:=qJ h;unfold stB at h
 simp_all
def ac3(h:qk ns N=Y)(a:N.k=14):Q N.ks=2/\(nodeI ns (eo N 0)).k=1/\(nodeI ns (eo N 1)).k=1/\Q N.nm<=200:=by
 have h:=qJ h;unfold stB at h;simp[a,oD]at h;exact⟨O,h.1.2,h.2,(wA h.1.1.1.2 O).2⟩
def FD(h:qk ns N=Y)(a:N.k=15):Q N.ks=1/\io (nodeI ns (eo N 0)).k=Y:=by
 have h:=qJ h;unfold stB at h;simp[a]at h;exact⟨O,As h.2⟩
theorem ae6{l:List Bz}:∀(f j:Nat),wh l f j=Y->∀q,j<=q->q<j+f->qp (l.getD q Br)=Y
 |0,j,_,q,a,b=>O
 |f+1,j,h,q,a,b=>by
  rw[wh,cH]at h;rcases js a with rfl|h3
  .grind
  .exact ae6 f (j+1) h.2 q h3 O
theorem oh{b:Int}(h:gg N a b=Y):(∀s∈N.nm,qp s=Y)/\a<=(Q N.nm:Int)/\(Q N.nm:Int)<=b:=by
 unfold gg at h;rw[cH]at h;refine⟨λs c=>?_,be h.1⟩;have⟨d,f,e⟩:=jd c;have:=ae6 _ 0 h.2 d O O;grind
theorem asw(h:qk ns N=Y):∀s∈N.nm,qp s=Y:=by
 have a:=ae2 h;by_cases b:N.k=2\/N.k=3\/N.k=4\/N.k=9\/N.k=10\/N.k=14\/N.k=36
 .by_cases c:N.k=36
  .have h:=yl h;unfold kI at h;simp[c]at h;exact(oh h.1.2).1
  .have h:=qJ h;unfold stB at h;rcases b with e|e|e|e|e|e|e<;>simp[e]at h
   .exact(oh h.1.2).1
   .exact(oh h.1.1.2).1
   .exact(oh h.1.1.2).1
   .exact(oh h.2.1).1
   .exact(oh h.1.1.1.2).1
   .exact(oh h.1.1.1.2).1
 .rw[aG b]at a;unfold bK at a;grind
def FE(h:qk ns N=Y):∀s∈N.nm,s.size<=4000:=λs a=>ajy (asw h s a)
theorem FG(h:j<Q N.ks):N.ks[j]=eo N j:=by unfold eo;grind
def sx(ns:List Nd)(h:Q N.ks=1):sK ns N.ks=sN ns (eo N 0):=by
 unfold eo
 match e:N.ks,h with
 |[a],_=>rfl
def Bq(ns:List Nd)(h:Q N.ks=2):sK ns N.ks=sN ns (eo N 0)+sN ns (eo N 1):=by
 unfold eo
 match e:N.ks,h with
 |[a,b],_=>rfl
def ajI(ns:List Nd)(h:Q N.ks=3):sK ns N.ks=sN ns (eo N 0)+sN ns (eo N 1)+sN ns (eo N 2):=by
 unfold eo
 match e:N.ks,h with
 |[a,b,c],_=>simp[sK];omega
def amJ(ns:List Nd)(h:0<Q N.ks):sK ns N.ks=sK ns (N.ks.take (Q N.ks-1))+sN ns (eo N (Q N.ks-1)):=by
 rw[Fz ns N.ks (Q N.ks-1)]
 congr 1
 rw[ja O,FG,kD O];rfl
def amK(ns:List Nd)(h:0<Q N.ks):sK ns N.ks=sN ns (eo N 0)+sK ns (N.ks.drop 1):=by
 rw[Fz ns N.ks 1]
 congr 1
 unfold eo
 match e:N.ks,h with
 |a::b,_=>rfl
theorem Hx(n:Int)(a:n<=9223372036854775807):(Lz n).size<=30:=by
 unfold Lz;split
 .rw[vJ];omega
 .rename_i b;have:=Lib.itoa_length_le n O a;show(Lib.decDigits n.toNat).toArray.size<=30;rw[iB];unfold Lib.itoa at this;grind
theorem ajJ(N:Nd)(a:N.x.size<=4000)(hn:N.n<=9223372036854775807):(plB N).size<=20000:=by
 unfold plB
 (repeat' split)
 .show 3<=_;omega
 .show 4<=_;omega
 .show 5<=_;omega
 .have:=Hx N.n hn;omega
 .omega
 .have:=afw N.x;unfold aoB at this;omega
 .show 3<=_;omega
 simp_all
def Bt(ns:List Nd)(E:Int->Bz)(k a:Int):(uI ns E k a).size<=(E k).size+2:=by
 unfold uI;split
 .rw[xq];omega
 .omega
def J9(ns:List Nd)(E:Int->Bz)(k:Int):(bsB ns E k).size<=(E k).size+2:=by
 unfold bsB;split
 .omega
 .rw[xq];omega
def amL(ns:List Nd)(N:Nd):(unS ns N).size<=4:=by
 unfold unS
 (repeat' split)
 .show 4<=4;omega
 .show 1<=4;omega
 .show 1<=4;omega
 .show 2<=4;omega
 .show 1<=4;omega
def aa9{op:Int}(h:1<=op/\op<=18):(eI (60+op)).size<=4:=by
 obtain⟨a,b⟩:=h;rcases(O:op=1\/op=2\/op=3\/op=4\/op=5\/op=6\/op=7\/op=8\/op=9\/op=10\/op=11\/op=12\/op=13\/op=14\/op=15\/op=16\/op=17\/op=18) with rfl|rfl|rfl|rfl|rfl|rfl|rfl|rfl|rfl|rfl|rfl|rfl|rfl|rfl|rfl|rfl|rfl|rfl;all_goals decide+kernel
structure SzE (ns:List Nd) (E:Int->Bz) (S:Int->Nat->Bz) (i:Nat) (tab:Nat):Prop where
 e:∀z:Nat,z<i->(E z).size+10000<=2000000*sN ns z
 s:∀z:Nat,z<i->(S z (tab+1)).size+10000<=2000000*sN ns z
def SzE.kid(h:SzE ns E S i tab)(d:Szd ns){q:Nat}(k:q<=i)(a:q<Q ns):∀z∈(nodeI ns q).ks,(E z).size+10000<=2000000*sN ns z/\(S z (tab+1)).size+10000<=2000000*sN ns z:=by
 intro z g;obtain⟨j,f,rfl⟩:=oE g;have⟨c,b⟩:=iG (d.nb q a) a j f;rw[b.id];have:=b.lt;exact⟨h.e c O,h.s c O⟩
def SzE.blk(h:SzE ns E S i tab)(d:Szd ns)(ht:tab<=9000){q:Nat}(b:q<=i)(a:q<Q ns):(Ha S (nodeI ns q).ks tab).size+910000<=2000000*sN ns q:=by
 have:=aqp ns S (nodeI ns q).ks tab ht (λe c=>(h.kid d b a e c).2);rw[d.at_ q a];omega
theorem ajK(h:qk ns N=Y)(hn:Q N.nm<=200):(afL N).size<=810000:=by
 unfold afL;have:=aa8 N.nm (FE h);simp only[ax];have a:(if N.op=1 then(if N.nm=[] then(⟨#[46,46,46]⟩:Bz) else lm++⟨#[46,46,46]⟩) else Br).size<=5:=by
  (repeat' split)
  .show 3<=5;omega
  .show 5<=5;omega
  simp_all
 show 1+_+_+2<=_;omega
def SzE.bod(h:SzE ns E S i tab)(d:Szd ns)(ht:tab<=9000){q:Nat}(g:q<=i)(a:q<Q ns)(f:(nodeI ns q).k=36):(LI ns S (nodeI ns q) tab).size+20000<=2000000*sN ns q:=by
 have⟨c,l,e,m⟩:=ajE (mG (d.nb q a)).1 f;have⟨n,b⟩:=iG (d.nb q a) a 0 O;have j:=h.blk d ht (aK (fs b.lt) g) b.len;unfold LI;rw[ax,b.id,d.at_ q a,sx ns c,b.id];have:=ajK (mG (d.nb q a)).1 e;omega
def ajL(h:SzE ns E S i tab)(d:Szd ns){q:Nat}(s:q<=i)(b:q<Q ns)(r:40<=(nodeI ns q).k/\(nodeI ns q).k<=42):(A4 ns E (nodeI ns q)).size+10000<=2000000*sN ns q:=by
 have m:=(mG (d.nb q b)).1;have t:=acK (d.nb q b);have g:=λp o=>iG (d.nb q b) b p o;rw[d.at_ q b];unfold A4;by_cases j:(nodeI ns q).k=41
 .rw[ab j];have⟨f,_,_⟩:=og m;have⟨c,a⟩:=g 0 O;have⟨n,l⟩:=g 1 O;rw[Bq ns f,a.id,l.id];have:=h.e c (by have:=a.lt;omega);have:=h.e n (by have:=l.lt;omega);simp only[ax];show 1+_+4+_+_<=_;omega
 .rw[aa j];obtain⟨f,_,_⟩:=pq m (O:_);have⟨c,a⟩:=g 0 O;rw[sx ns f,a.id];have:=h.e c (by have:=a.lt;omega);split
  .simp only[ax];show 1+_+3+_+_<=_;omega
  .omega
theorem aj0(h:SzE ns E S i tab)(d:Szd ns)(ht:tab<=9000)(c:i<Q ns)(hn:(nodeI ns i).n<=9223372036854775807):(prE ns E S (nodeI ns i) tab).size+10000<=2000000*sN ns i:=by
 have j:=(mG (d.nb i c)).1;have L:=acK (d.nb i c);have g:=λm s=>iG (d.nb i c) c m s;have v:∀(x:Bz)(w:Int),x.size<=100->((nodeI ns i).k=28\/(nodeI ns i).k=29\/(nodeI ns i).k=31\/(nodeI ns i).k=32\/(nodeI ns i).k=41)->(I6 ns E (nodeI ns i) x w).size+10000<=2000000*sN ns i:=by
  intro x w af K;have⟨f,_,_⟩:=og j K;have⟨b,a⟩:=g 0 O;have⟨l,k⟩:=g 1 O;rw[d.at_ i c,Bq ns f,a.id,k.id];unfold I6;rw[a.id,k.id];have:=h.e b a.lt;have:=h.e l k.lt;have:=Bt ns E b (G9 (nodeI ns i) w);have:=Bt ns E l (yy (nodeI ns i).k (nodeI ns i).op);grind
 unfold prE;by_cases y:(nodeI ns i).k=28
 .rw[ab y];exact v _ _ (by show 5<=100;omega) O
 rw[aa y];by_cases A:(nodeI ns i).k=29
 .rw[ab A];exact v _ _ (by show 4<=100;omega) O
 rw[aa A];by_cases o:(nodeI ns i).k=31
 .rw[ab o];have:=aa9 ((og j).2.2 o);exact v _ _ (by simp only[ax];show 1+_+1<=_;omega) O
 rw[aa o];by_cases B:(nodeI ns i).k=30
 .rw[ab B];have⟨f,_,_⟩:=pq j;have⟨b,a⟩:=g 0 O;rw[d.at_ i c,sx ns f,a.id];unfold unB;rw[a.id];have:=h.e b a.lt;have:=Bt ns E b 11;have:=amL ns (nodeI ns i);grind
 rw[aa B];by_cases C:(nodeI ns i).k=32
 .rw[ab C];have⟨f,_,_⟩:=og j;have⟨b,a⟩:=g 0 O;have⟨l,k⟩:=g 1 O;rw[d.at_ i c,Bq ns f,a.id,k.id];have:=h.e b a.lt;have:=h.e l k.lt;have:=J9 ns E b;simp only[ax];show _+1+_+1+_<=_;omega
 rw[aa C];by_cases F:(nodeI ns i).k=33
 .rw[ab F];have⟨f,_,_⟩:=pq j;have⟨b,a⟩:=g 0 O;rw[d.at_ i c,sx ns f,a.id];have:=h.e b a.lt;have:=J9 ns E b;simp only[ax];show _+(1+_)+_<=_;omega
 rw[aa F];by_cases p:(nodeI ns i).k=34
 .rw[ab p];have⟨f,_⟩:=J7 j p;have⟨b,a⟩:=g 0 O;rw[d.at_ i c,amK ns O,a.id];have:=h.e b a.lt;have:=J9 ns E b;have:=uE ns E ((nodeI ns i).ks.drop 1) (λH u=>(h.kid d cJ c H (List.mem_of_mem_drop u)).1);simp only[ax];show _+1+_+1+_<=_;omega
 rw[aa p];by_cases q:(nodeI ns i).k=35
 .rw[ab q];unfold ahJ;have f:=Fy j q;have:=uE ns (λad=>A4 ns E (nodeI ns ad)) (nodeI ns i).ks (λH u=>by
   obtain⟨m,s,rfl⟩:=oE u;have⟨ag,t⟩:=g m s;have G:=ae5 _ 0 f m O O;rw[t.id]at G⊢;exact ajL h d (fs t.lt) t.len G)
  rw[d.at_ i c];simp only[ax];show 1+_+1+_<=_;omega
 rw[aa q];by_cases r:(nodeI ns i).k=36
 .rw[ab r];have:=h.bod d ht cJ c r;simp only[ax];show 2+_+_<=_;omega
 rw[aa r];by_cases z:(nodeI ns i).k=37
 .rw[ab z];have⟨f,_,_⟩:=pq j;have⟨b,a⟩:=g 0 O;rw[d.at_ i c,sx ns f,a.id,xq];have:=h.e b a.lt;omega
 rw[aa z];have:=ajJ (nodeI ns i) L hn;rw[d.at_ i c];omega
def agB{l:Int->Bz->Bz}(h:SzE ns E S i tab)(d:Szd ns)(ht:tab<=9000)(e:i<Q ns)(s:(nodeI ns i).k=7)
  (q:∀(z:Nat)(w:Bz),z<i->(nodeI ns z).k=7->w.size<=10->(l z w).size+10000<=2000000*sN ns z) (n:Bz) (G:n.size<=10):(Ec ns E S l (nodeI ns i) n tab).size+10000<=2000000*sN ns i:=by
 have t:=(mG (d.nb i e)).1;have j:=λu r=>iG (d.nb i e) e u r;have⟨A,B,C,F,p⟩:=ajH t s;have⟨o,b⟩:=j 0 O;have⟨v,a⟩:=j 1 O;have x:=h.e o b.lt;have y:=h.blk d ht (fs a.lt) a.len;unfold Ec;rw[b.id,a.id,d.at_ i e];simp only[ax];rcases aH (nodeI ns i).ks.length 3 with g|g
 .rw[ab g,Bq ns O,b.id,a.id];show _+_+1+_+0+_<=_;omega
 .rw[aa O,ajI ns O,b.id,a.id];have⟨m,c⟩:=j 2 O;rw[c.id]at p⊢;by_cases f:(nodeI ns m).k=7
  .rw[ab f];have:=q m ⟨#[32,101,108,105,102,32]⟩ c.lt f (by show 6<=10;omega);show _+_+1+_+_+_<=_;omega
  .rw[aa f];have:=h.blk d ht (fs c.lt) c.len;rw[ax];show _+_+1+_+(6+_)+_<=_;omega
theorem aj1(h:qk ns N=Y):(nm0 N).size<=4000:=by
 unfold nm0;rw[er];cases e:N.nm[0]? with
 |none=>simp_all
 |some a=>exact FE h a (da e)
theorem aj2{z:Int->Bz->Bz}(h:SzE ns E S i tab)(d:Szd ns)(ht:tab<=9000)(b:i<Q ns)
  (am:(nodeI ns i).k=7->(z (-1) ⟨#[105,102,32]⟩).size+10000<=2000000*sN ns i):(prS ns E S z (nodeI ns i) tab).size+10000<=2000000*sN ns i:=by
 have f:=(mG (d.nb i b)).1;have m:=λal ag=>iG (d.nb i b) b al ag;have r:=λp o=>(h.kid d cJ b p o).1;have nm0:=aj1 f;have ao:=aa8 (nodeI ns i).nm (FE f);unfold prS;by_cases B:(nodeI ns i).k=1
 .rw[ab B];have:=h.blk d ht cJ b;omega
 rw[aa B];by_cases u:(nodeI ns i).k=2
 .rw[ab u,d.at_ i b];have⟨c,j⟩:=ajG f u;have:=uE ns E (nodeI ns i).ks r;simp only[ax];split
  .show 4+_+0+_<=_;omega
  .rw[ax];show 4+_+(3+_)+_<=_;omega
 rw[aa u];by_cases v:(nodeI ns i).k=3
 .rw[ab v,d.at_ i b];have⟨c,j,q⟩:=FA f v;have⟨g,a⟩:=m 0 O;rw[sx ns c,a.id];have:=h.e g a.lt;simp only[ax];show 6+_+3+_+_<=_;omega
 rw[aa v];by_cases w:(nodeI ns i).k=4
 .rw[ab w,d.at_ i b];have⟨c,j,q⟩:=ac1 f w;have⟨g,a⟩:=m 0 O;rw[sx ns c];rw[a.id]at j⊢;have:=h.bod d ht (fs a.lt) a.len j;simp only[ax];show 3+_+_+_<=_;omega
 rw[aa w];by_cases K:(nodeI ns i).k=5
 .rw[ab K,d.at_ i b,Fz ns (nodeI ns i).ks (nodeI ns i).n.toNat];have:=uE ns E ((nodeI ns i).ks.take (nodeI ns i).n.toNat) (λp o=>r p (xh o));have:=uE ns E ((nodeI ns i).ks.drop (nodeI ns i).n.toNat) (λp o=>r p (List.mem_of_mem_drop o));simp only[ax];show _+3+_+_<=_;omega
 rw[aa K];by_cases L:(nodeI ns i).k=6
 .rw[ab L,d.at_ i b];have⟨c,j⟩:=Hw f O;have⟨g,a⟩:=m 0 O;rw[sx ns c,a.id];have:=h.e g a.lt;omega
 rw[aa L];by_cases af:(nodeI ns i).k=7
 .grind
 rw[aa af];by_cases x:(nodeI ns i).k=8
 .rw[ab x,d.at_ i b];have⟨c,j,q⟩:=FC f x;have⟨g,a⟩:=m 0 O;have⟨A,l⟩:=m 1 O;rw[Bq ns c,a.id,l.id];have:=h.e g a.lt;have:=h.blk d ht (fs l.lt) l.len;simp only[ax];show 6+_+1+_+_<=_;omega
 rw[aa x];by_cases y:(nodeI ns i).k=9\/(nodeI ns i).k=10
 .rw[ab y,d.at_ i b];have ak:0<(nodeI ns i).ks.length/\(nodeI ns i).nm.length<=200:=by
   rcases y with e|e
   .obtain⟨c,j,q,ad⟩:=ac2 f e;omega
   .obtain⟨c,j,q,ad⟩:=J8 f e;omega
  have⟨A,l⟩:=m ((nodeI ns i).ks.length-1) O;rw[amJ ns ak.1,l.id];have:=uE ns E ((nodeI ns i).ks.take ((nodeI ns i).ks.length-1)) (λp o=>r p (xh o));have:=h.blk d ht (fs l.lt) l.len;have an:(if(nodeI ns i).k=9 then(⟨#[32,61,32]⟩:Bz) else⟨#[32,105,110,32]⟩).size<=4:=by
   split
   .show 3<=4;omega
   .show 4<=4;omega
  simp only[ax];show 4+_+_+_+1+_+_<=_;omega
 rw[aa y];by_cases C:(nodeI ns i).k=11
 .rw[ab C,d.at_ i b];show 5+_<=_;omega
 rw[aa C];by_cases F:(nodeI ns i).k=12
 .rw[ab F,d.at_ i b];show 4+_<=_;omega
 rw[aa F];by_cases G:(nodeI ns i).k=13
 .rw[ab G,d.at_ i b];have:=uE ns E (nodeI ns i).ks r;simp only[ax];split
  .show 6+0+_<=_;omega
  .rw[ax];show 6+(1+_)+_<=_;omega
 rw[aa G];by_cases s:(nodeI ns i).k=14
 .rw[ab s,d.at_ i b];have⟨c,j,q,ad⟩:=ac3 f s;have⟨g,a⟩:=m 0 O;have⟨A,l⟩:=m 1 O;rw[Bq ns c,a.id,l.id];have:=h.blk d ht (fs a.lt) a.len;have:=h.blk d ht (fs l.lt) l.len;simp only[ax];show 4+_+7+_+1+_+_<=_;omega
 rw[aa s];by_cases t:(nodeI ns i).k=15
 .rw[ab t,d.at_ i b];have⟨c,j⟩:=FD f t;have⟨g,a⟩:=m 0 O;rw[sx ns c,a.id];have:=h.e g a.lt;simp only[ax];show 6+_+_<=_;omega
 rw[aa t];by_cases H:(nodeI ns i).k=16
 .rw[ab H,d.at_ i b];have⟨c,j⟩:=Hw f O;have⟨g,a⟩:=m 0 O;rw[sx ns c,a.id];have:=h.e g a.lt;simp only[ax];show 6+_+_<=_;omega
 rw[aa H,d.at_ i b];show 0+_<=_;omega
theorem ae7(d:Szd ns)(hn:∀i:Int,(nodeI ns i).n<=9223372036854775807):∀(f i tab:Nat),i<Q ns->tab+f<=8000->
  (A7 ns f i tab).size+10000<=2000000*sN ns i/\(ve ns f i tab).size+10000<=2000000*sN ns i/\((nodeI ns i).k=7->∀w:Bz,w.size<=10->(Ad ns f i w tab).size+10000<=2000000*sN ns i)
 |0,i,tab,g,ht=>by
  have:=d.at_ i g;refine⟨?_,?_,λ_ w _=>?_⟩;all_goals (first|(rw[A7];show 0+_<=_;omega)|(rw[ve];show 0+_<=_;omega)|(rw[Ad];show 0+_<=_;omega))
 |f+1,i,tab,g,ht=>by
  have j:=λ(a e:Nat) (c:a<i) (o:e+f<=8000)=>ae7 d hn f a e O o;have l:SzE ns (λk=>A7 ns f k tab) (λk e=>ve ns f k e) i tab:=⟨λa c=>(j a tab c O).1,λa c=>(j a (tab+1) c O).2.1⟩;have m:(nodeI ns i).k=7->∀w:Bz,w.size<=10->(Ec ns (λk=>A7 ns f k tab) (λk e=>ve ns f k e) (λk w=>Ad ns f k w tab) (nodeI ns i) w tab).size+10000<=2000000*sN ns i:=λb w h=>
   agB l d O g b (λa w c b h=>(j a tab c O).2.2 b w h) w h
  refine⟨?_,?_,?_⟩
  .rw[A7];exact aj0 l d O g (hn _)
  .rw[ve];exact aj2 l d O g (λb=>m b _ (by show 3<=10;omega))
  .intro b w h;rw[Ad];grind
theorem ac4(d:Szd ns)(hn:∀i:Int,(nodeI ns i).n<=9223372036854775807)(r:Q ns<=3000)(m:0<Q ns):(nF ns).size<=6000000000:=by
 unfold nF;rw[Hv,List.map_map];have e:((Q ns:Int)-1)=((Q ns-1:Nat):Int):=O;rw[e];have g:∀a∈(nodeI ns ((Q ns-1:Nat):Int)).ks,(ve ns (Q ns) a 0).size+10000<=2000000*sN ns a:=by
  intro a c;obtain⟨h,f,rfl⟩:=oE c;obtain⟨k,b⟩:=iG (d.nb _ O) O h f;rw[b.id];exact(ae7 d hn (Q ns) k 0 b.len O).2.1
 have o:=ac0 ns (λa=>(ve ns (Q ns) a 0).size) 1 _ g O;have p:=d.at_ (Q ns-1) O;have q:=d.le ((Q ns-1:Nat):Int);have l:((nodeI ns ((Q ns-1:Nat):Int)).ks.map (ByteArray.size ∘ λj=>ve ns (Q ns) j 0++⟨#[10]⟩))=(nodeI ns ((Q ns-1:Nat):Int)).ks.map λa=>(ve ns (Q ns) a 0).size+1:=by
  apply List.map_congr_left;intro a c;simp only[Function.comp];rw[ax];rfl
 grind
structure Mp (w0:B2) (p1:Addr) (n c1:Nat) (ns:List Nd):Prop where
 nds:fj w0 (.slice (A2 p1) n c1) ns
 cap:Co w0 p1 ns
 len:Q ns=n
 big:n<=3000
 sz:Szd ns
 n0:∀i:Int, -9223372036854775808<=(nodeI ns i).n
 n1:∀i:Int,(nodeI ns i).n<=9223372036854775807
abbrev vT(b:Addr)(n a:Nat):B6:= Ax (A2 b) n a
def OkB(a:B2)(h:Addr)(n j:Nat)(ns:List Nd)(f:Nat):Prop:=
 ∀(k tab:Nat)(i:Bz),k<f->(nodeI ns k).k=7->tab+f<=500000->∀{d c:Option Addr}{m g b e:Nat},NdR a h k (nodeI ns k) d m g c b e->Wr a (vT h n j) tab 182 #[pW a,jA (nodeI ns k) (Ax d m g) (Ax c b e),B3 i] (Ad ns f k i tab)
structure OkA (w0:B2) (p1:Addr) (n c1:Nat) (ns:List Nd) (f:Nat):Prop where
 e:∀tab:Nat,tab+f<=500000->OkE w0 (vT p1 n c1) ns (λk=>A7 ns f k tab) tab f
 s:ar7 w0 (vT p1 n c1) ns (λk t=>ve ns f k t) f
 b:OkB w0 p1 n c1 ns f
def OkA.zero(e:B2)(d:Addr)(n c:Nat)(ns:List Nd):OkA e d n c ns 0:=
 ⟨λ_ _ b _ _ _ a=>absurd a O,λb _ _ _ a=>absurd a O,λb _ _ a=>absurd a O⟩
section
variable {w0 : World} {p1 : Addr} {n c1 : Nat} {ns : List Nd} (M : Mp w0 p1 n c1 ns) {f : Nat} (A : OkA w0 p1 n c1 ns f)
def Wr.expr0(a:OkA w0 p1 n c1 ns f){q:Nat}(ht:tab+f<=500000)(i:q<f)(g:io (nodeI ns q).k=Y):Wr w0 (vT p1 n c1) tab 180 #[pW w0,A0 A3 (q:Int),A0 A3 0] (A7 ns f q tab):=
 λb c d h=>(a.e tab ht).zero q b c i g d h
def Wr.blk(a:Mp w0 p1 n c1 ns)(e:OkA w0 p1 n c1 ns f){q:Nat}(ht:tab+f<500000)(w:q<=f)(b:q<Q ns)(m:(nodeI ns q).k=1):Wr w0 (vT p1 n c1) tab 177 #[pW w0,A0 A3 (q:Int)] (Ha (λk t=>ve ns f k t) (nodeI ns q).ks tab):=by
 intro g h i o;have⟨p,v⟩:=mG (a.sz.nb q b);have j:=aa7 p m;refine agh w0 _ ns _ f e.s a.nds (by rw[a.len];have:=a.big;omega) q b (λx r=>?_) O tab ht g h i o;obtain⟨d,l,rfl⟩:=oE r;have⟨u,c⟩:=iG (a.sz.nb q b) b d l;have:=ajD _ 0 j d O O;rw[c.id]at this⊢;exact⟨u,rfl,by have:=c.lt;omega,c.len,this⟩
def Wr.exs(b:OkA w0 p1 n c1 ns f)(ht:tab+f<=500000){a:List Int}(h:ajl ns f a)(hn:Q a<=1048576)(v:B6)(j:dz w0 v a):Wr w0 (vT p1 n c1) tab 179 #[pW w0,v] (gx (a.map λk=>A7 ns f k tab)):=
 λc d g i=>agv w0 _ v ns _ tab f (b.e tab ht) a j h hn c d g i
theorem Wr.bod(a:Mp w0 p1 n c1 ns)(g:OkA w0 p1 n c1 ns f){q:Nat}(ht:tab+f<500000)(s:q<=f)(b:q<Q ns)(m:(nodeI ns q).k=36):Wr w0 (vT p1 n c1) tab 181 #[pW w0,A0 A3 (q:Int)] (LI ns (λk t=>ve ns f k t) (nodeI ns q) tab):=by
 have⟨o,r⟩:=mG (a.sz.nb q b);have⟨i,d,j,l⟩:=ajE o m;have⟨v,c⟩:=iG (a.sz.nb q b) b 0 O;have⟨_,_,_,_,_,_,h⟩:=Ae a.nds a.cap b;have:=a.len;have:=a.big;have:=c.lt;unfold LI afL;rw[c.id]at d⊢;refine acv a.nds a.cap a.len O O O h (.bod j ?_ i c.at_ (Wr.blk a g ht O c.len d));rcases l with e|e
 .grind
 .refine .inr ⟨e,?_⟩;rw[ab e];cases (nodeI ns q).nm with
  |nil=>grind
  |cons p u=>exact .inr ⟨Nat.succ_pos _,rfl⟩
def uF(e:Mp w0 p1 n c1 ns)(d:i<Q ns)(q:i<=f){a:Nat}(h:∀j,a<=j->j<a+m->io (nodeI ns (eo (nodeI ns i) j)).k=Y)(r:a+m<=(nodeI ns i).ks.length):ajl ns f (((nodeI ns i).ks.drop a).take m):=by
 intro s o;have⟨j,l,c⟩:=jd o;rw[oq,wE]at l;rw[List.getElem_take,List.getElem_drop]at c;have⟨p,b⟩:=iG (e.sz.nb i d) d (a+j) O;have g:=FG (N:=nodeI ns i) (j:=a+j) O;rw[g,b.id]at c;have:=h (a+j) O O;rw[b.id]at this;exact⟨p,c.symm,by have:=b.lt;omega,b.len,this⟩
end
section
variable {w0 : World} {p1 : Addr} {n c1 : Nat} {ns : List Nd} {f : Nat}
def Wr.bas(a:Mp w0 p1 n c1 ns)(b:OkA w0 p1 n c1 ns f){q:Nat}(ht:tab+f<=500000)(j:q<f)(l:q<Q ns)(h:io (nodeI ns q).k=Y):Wr w0 (vT p1 n c1) tab 219 #[pW w0,A0 A3 (q:Int)] (bsB ns (λk=>A7 ns f k tab) q):=
 λc d g i=>ahK w0 _ ns _ tab f (b.e tab ht) a.nds (by rw[a.len];have:=a.big;omega) q j l h c d g i
theorem aba(c:Mp w0 p1 n c1 ns)(h:OkA w0 p1 n c1 ns f)(tab i:Nat)(ht:tab+f<500000)(a9:i<=f)(y:i<Q ns)(bn:io (nodeI ns i).k=Y)(bb:Int)(o:¬lr (nodeI ns i).k (nodeI ns i).op<bb):
  Wr w0 (vT p1 n c1) tab 180 #[pW w0,A0 A3 (i:Int),A0 A3 bb] (prE ns (λq=>A7 ns f q tab) (λq t=>ve ns f q t) (nodeI ns i) tab):=by
 have bt:=c.big;have bD:=c.len;have⟨s,bx⟩:=mG (c.sz.nb i y);have p:=λu F=>iG (c.sz.nb i y) y u F;have a1:(nodeI ns i).k=31->1<=(nodeI ns i).op/\(nodeI ns i).op<=18:=λbk=>(og s).2.2 bk;have bv:=be bn;have bE:=Ee (nodeI ns i).k (nodeI ns i).op;have⟨bg,m,bj,bf,bd,bh,C⟩:=Ae c.nds c.cap y;have d:=@aiu w0 p1 n c1 ns c.nds c.cap c.len O tab i O _ O a1 _ _ _ _ _ _ C;have a2:∀a7:Bz,((nodeI ns i).k=28\/(nodeI ns i).k=29\/(nodeI ns i).k=31)->Wr w0 (vT p1 n c1) tab 217 #[pW w0,jA (nodeI ns i) (Ax bg m bj) (Ax bf bd bh),B3 a7,A0 A3 (lr (nodeI ns i).k (nodeI ns i).op)] (I6 ns (λq=>A7 ns f q tab) (nodeI ns i) a7 (lr (nodeI ns i).k (nodeI ns i).op)):=by
  intro a7 bw;have⟨g,e,x⟩:=og s;have⟨a,b⟩:=p 0 O;have⟨G,l⟩:=p 1 O;have j:=nI 2 0 e 0 O O;have r:=nI 2 0 e 1 O O;have:=aep (nodeI ns i).k (nodeI ns i).op;have A:=b.lt;have bc:=l.lt;unfold I6;rw[b.id]at j⊢;rw[l.id]at r⊢;exact amo (λH K=>x O) C g b.at_ l.at_ O (λv d w z=>h.e tab O a _ v d O j (by unfold G9;omega) (by unfold G9;omega) w z) (λv d w z=>h.e tab O G _ v d O r O O w z)
 unfold prE;by_cases H:(nodeI ns i).k=28
 .rw[ab H];exact d (.inf (.inl ⟨H,rfl⟩) o (a2 _ O))
 rw[aa H];by_cases K:(nodeI ns i).k=29
 .rw[ab K];exact d (.inf (.inr ⟨K,rfl⟩) o (a2 _ O))
 rw[aa K];by_cases L:(nodeI ns i).k=31
 .rw[ab L];exact aiJ O O a1 C L o (aa9 (a1 L)) (a2 _ O)
 rw[aa L];by_cases ad:(nodeI ns i).k=30
 .rw[ab ad];have⟨g,e,x⟩:=pq s;have⟨a,b⟩:=p 0 O;have A:=b.lt;have b1:=b.len;unfold unB unS;rw[b.id]at e⊢;have am:=aj λv d w z=>h.e tab O a 11 v d O e O O w z;refine d (.nod (.inl ⟨ad,rfl⟩) o ?_);have:=x ad;by_cases a4:(nodeI ns i).op=21
  .rw[ab a4];exact d (.un (.inl ⟨a4,rfl⟩) g b.at_ am)
  rw[aa a4];by_cases a5:(nodeI ns i).op=22
  .rw[ab a5];exact d (.un (.inr (.inl ⟨a5,rfl⟩)) g b.at_ am)
  rw[aa a5];by_cases a6:(nodeI ns i).op=20
  .rw[ab a6];exact d (.un (.inr (.inr ⟨a6,rfl⟩)) g b.at_ am)
  rw[aa a6];refine E8 c.nds c.cap c.len O C (.neg g b.at_ (O:_=_) ⟨O,?_⟩ am);unfold arD;grind
 rw[aa ad];by_cases av:(nodeI ns i).k=32
 .rw[ab av];have⟨g,e,x⟩:=og s;have⟨a,b⟩:=p 0 O;have⟨G,l⟩:=p 1 O;have j:=nI 2 0 e 0 O O;have r:=nI 2 0 e 1 O O;have A:=b.lt;have bc:=l.lt;rw[b.id]at j⊢;rw[l.id]at r⊢;exact d (.idx av o g b.at_ l.at_ (Wr.bas c h O O b.len j) (Wr.expr0 h O O r))
 rw[aa av];by_cases aL:(nodeI ns i).k=33
 .rw[ab aL];have⟨g,e,x⟩:=pq s;have⟨a,b⟩:=p 0 O;have A:=b.lt;rw[b.id]at e⊢;exact d (.fld aL o g b.at_ (Wr.bas c h O O b.len e))
 rw[aa aL];by_cases af:(nodeI ns i).k=34
 .rw[ab af];have⟨g,e⟩:=J7 s af;have⟨a,b⟩:=p 0 O;have j:=nI _ 0 e 0 O O;have A:=b.lt;have a8:=uF c y a9 (a:=1) (m:=(nodeI ns i).ks.length-1) (λu x bs=>nI _ 0 e u O O) O;rw[dH U]at a8;rw[b.id]at j⊢;exact d (.cal af o g b.at_ (Wr.bas c h O O b.len j) λbr bo=>Wr.exs h O a8 U br bo)
 rw[aa af];by_cases ag:(nodeI ns i).k=35
 .rw[ab ag];have g:=Fy s ag;refine d (.nod (.inr (.inl ⟨ag,rfl⟩)) o (agc c.nds c.cap c.len O C.ks O λb2 bp=>?_));obtain⟨u,F,rfl⟩:=oE bp;have⟨ao,B⟩:=p u F;have e:=ae5 _ 0 g u O O;rw[B.id]at e⊢;refine⟨ao,rfl,B.len,?_⟩;have⟨ba,bA⟩:=mG (c.sz.nb ao B.len);have a3:=λu F=>iG (c.sz.nb ao B.len) B.len u F;have b0:=B.lt;unfold A4;by_cases ar:(nodeI ns ao).k=41
  .obtain⟨a0,E,bl⟩:=og ba;have⟨a,b⟩:=a3 0 O;have⟨G,l⟩:=a3 1 O;have j:=nI 2 0 E 0 O O;have r:=nI 2 0 E 1 O O;have A:=b.lt;have bc:=l.lt;rw[b.id]at j⊢;rw[l.id]at r⊢;exact .inl ⟨ar,a0,a,G,_,_,b.at_,l.at_,Wr.expr0 h O O j,Wr.expr0 h O O r,ab ar⟩
  .obtain⟨a0,E,bl⟩:=pq ba;have⟨a,b⟩:=a3 0 O;have A:=b.lt;rw[aa ar];rw[b.id]at E⊢;refine .inr ⟨a0,a,_,b.at_,Wr.expr0 h O O E,?_⟩;grind
 rw[aa ag];by_cases al:(nodeI ns i).k=36
 .rw[ab al];exact d (.fn al o (Wr.bod c h ht a9 y al))
 rw[aa al];by_cases ap:(nodeI ns i).k=37
 .rw[ab ap];have⟨g,e,x⟩:=pq s;have⟨a,b⟩:=p 0 O;have A:=b.lt;rw[b.id]at e⊢;exact d (.one ap o g b.at_ (Wr.expr0 h O O e))
 rw[aa ap];exact d (.nod (.inr (.inr ⟨O,rfl⟩)) o λv d w z=>af0 w0 _ _ _ _ v tab d w O (c.n0 i) (c.n1 i) (λ_=>acK (c.sz.nb i y)) z)
def agC(a:Mp w0 p1 n c1 ns)(e:OkA w0 p1 n c1 ns f)(w:f<Q ns)(tab:Nat)(ht:tab+(f+1)<=500000):OkE w0 (vT p1 n c1) ns (λk=>A7 ns (f+1) k tab) tab (f+1):=by
 intro k l g h x i t u j b;have v:=a.big;have z:=a.len;have⟨r,y⟩:=mG (a.sz.nb k O);have q:(nodeI ns k).k=31->1<=(nodeI ns k).op/\(nodeI ns k).op<=18:=λo=>(og r).2.2 o;have p:A7 ns (f+1) k tab=prE ns (λd=>A7 ns f d tab) (λd s=>ve ns f d s) (nodeI ns k) tab:=by rw[A7]
 unfold uI at b⊢;simp only[p]at b⊢;by_cases c:lr (nodeI ns k).k (nodeI ns k).op<l
 .rw[ab c]at b⊢;have A:=Ee (nodeI ns k).k (nodeI ns k).op;have⟨_,_,_,_,_,_,m⟩:=Ae a.nds a.cap (O:k<Q ns);exact aiu a.nds a.cap a.len O O O q m (.par c (aba a e tab k O O O i 0 O)) g h j b
 .rw[aa c]at b⊢;exact aba a e tab k O O O i l c g h j b
end
section
variable {w0 : World} {p1 : Addr} {n c1 : Nat} {ns : List Nd} {f : Nat}
def FH(a:Mp w0 p1 n c1 ns)(h:OkA w0 p1 n c1 ns f)(tab i:Nat)(ht:tab+f<500000)(am:i<=f)(p:i<Q ns)(H:(nodeI ns i).k=7)(A:Bz){v u:Option Addr}{x L ck:Nat}(R:NdR w0 p1 i (nodeI ns i) v m x u L ck):
  Wr w0 (vT p1 n c1) tab 182 #[pW w0,jA (nodeI ns i) (Ax v m x) (Ax u L ck),B3 A] (Ec ns (λq=>A7 ns f q tab) (λq t=>ve ns f q t) (λq w=>Ad ns f q w tab) (nodeI ns i) A tab):=by
 have al:=a.big;have ap:=a.len;have⟨K,ao⟩:=mG (a.sz.nb i p);have r:=λad G=>iG (a.sz.nb i p) p ad G;have⟨af,ag,y,z,F⟩:=ajH K H;have⟨C,c⟩:=r 0 O;have⟨E,b⟩:=r 1 O;have ar:=c.lt;have av:=b.lt;rw[c.id]at y;rw[b.id]at z;have o:=aj (Wr.expr0 h (tab:=tab) O (O:C<f) y);have l:=aj (Wr.blk a h ht (O:E<=f) b.len z);have B:=@acv w0 p1 n c1 ns a.nds a.cap a.len O tab i O _ O _ _ _ _ _ _ R;unfold Ec;rw[c.id,b.id];rcases aH (nodeI ns i).ks.length 3 with g|g
 .rw[ab g,show ∀s:Bz,s++Br=s from λs=>ByteArray.append_empty];exact B (.br2 O c.at_ b.at_ o l)
 .rw[aa O];have⟨j,d⟩:=r 2 O;have wc:=d.lt;have aL:=d.len;rw[d.id]at F⊢;by_cases e:(nodeI ns j).k=7
  .rw[ab e];exact E8 a.nds a.cap a.len O R (.bre O c.at_ b.at_ d.at_ o l ⟨O,e⟩ λ_ _ _ _ _ _ R=>h.b j tab _ O e O R)
  .rw[aa e,<-dJ];exact E8 a.nds a.cap a.len O R (.br3 O c.at_ b.at_ d.at_ o l ⟨O,e⟩ (Wr.blk a h ht (O:j<=f) d.len ((O:(nodeI ns j).k=1))))
theorem aj3(h:Q N.nm=1):N.nm[0]?=A2 (nm0 N):=by
 unfold nm0;grind
theorem aj4(d:Mp w0 p1 n c1 ns)(h:OkA w0 p1 n c1 ns f)(tab i:Nat)(ht:tab+f<500000)(z:i<=f)(p:i<Q ns)(bb:ll (nodeI ns i).k=Y):
  Wr w0 (vT p1 n c1) tab 110 #[pW w0,A0 A3 (i:Int)] (prS ns (λq=>A7 ns f q tab) (λq t=>ve ns f q t) (λ_ w=>Ec ns (λq=>A7 ns f q tab) (λq t=>ve ns f q t) (λq w=>Ad ns f q w tab) (nodeI ns i) w tab) (nodeI ns i) tab):=by
 have bc:=d.big;have bg:=d.len;have⟨r,bf⟩:=mG (d.sz.nb i p);have v:=λs a7=>iG (d.sz.nb i p) p s a7;have a5:(nodeI ns i).ks.length<=1048576:=O;have⟨_,_,_,_,_,_,a0⟩:=Ae d.nds d.cap p;have l:=@acv w0 p1 n c1 ns d.nds d.cap d.len O tab i O _ O _ _ _ _ _ _ a0;have bd:=be bb;have a3:∀k:Int,k=34->io k=Y:=λk a6=>by rw[a6];rfl
 unfold prS;by_cases G:(nodeI ns i).k=1
 .rw[ab G];exact l (.blk G (Wr.blk d h ht z p G))
 rw[aa G];by_cases F:(nodeI ns i).k=2
 .rw[ab F];have⟨g,c⟩:=ajG r F;by_cases A:(nodeI ns i).ks=[]
  .rw[ab A,show ∀B:Bz,B++Br=B from λB=>ByteArray.append_empty];exact l (.let0 c F U)
  .rw[aa A];have o:=uF d p z (a:=0) (m:=(nodeI ns i).ks.length) (λs e y=>nI _ 0 g s O O) O;rw[ni,dH cJ]at o;exact l (.let1 c F (List.length_pos_iff.2 A) λx u=>Wr.exs h O o a5 x u)
 rw[aa F];by_cases L:(nodeI ns i).k=3
 .rw[ab L];have⟨g,c,e⟩:=FA r L;have⟨a,b⟩:=v 0 O;have C:=b.lt;rw[b.id]at c⊢;exact l (.cst L g e (aj3 e) b.at_ (Wr.expr0 h O O c))
 rw[aa L];by_cases ad:(nodeI ns i).k=4
 .rw[ab ad];have⟨g,c,e⟩:=ac1 r ad;have⟨a,b⟩:=v 0 O;have C:=b.lt;rw[b.id]at c⊢;exact l (.fns ad g e (aj3 e) b.at_ (Wr.bod d h ht O b.len c))
 rw[aa ad];by_cases af:(nodeI ns i).k=5
 .rw[ab af];have⟨g,c,e,y⟩:=aqq r af;obtain⟨m,a9⟩:∃m:Nat,(nodeI ns i).n=(m:Int):=⟨(nodeI ns i).n.toNat,O⟩;have ba:(nodeI ns i).n.toNat=m:=O;rw[ba]at e y⊢;have o:=uF d p z (a:=0) (m:=m) (λs ar av=>aoh _ 0 e s O O) O;rw[ni]at o;have a4:=uF d p z (a:=m) (m:=(nodeI ns i).ks.length-m) (λs ar av=>nI _ m y s O O) O;rw[dH U]at a4;exact l (.set af O a9 (λx u=>Wr.exs h O o U x u) λx u=>Wr.exs h O a4 U x u)
 rw[aa af];by_cases ao:(nodeI ns i).k=6
 .rw[ab ao];have⟨g,c⟩:=Hw r O;have⟨a,b⟩:=v 0 O;have C:=b.lt;rw[b.id]at c⊢;exact l (.one ao g b.at_ (Wr.expr0 h O O (a3 _ c)))
 rw[aa ao];by_cases ag:(nodeI ns i).k=7
 .rw[ab ag];exact l (.iff ag (FH d h tab i ht z p ag _ a0))
 rw[aa ag];by_cases ak:(nodeI ns i).k=8
 .rw[ab ak];have⟨g,c,e⟩:=FC r ak;have⟨a,b⟩:=v 0 O;have⟨al,j⟩:=v 1 O;have C:=b.lt;have aL:=j.lt;rw[b.id]at c⊢;rw[j.id]at e⊢;exact l (.whl ak g b.at_ j.at_ (Wr.expr0 h O O c) (Wr.blk d h ht O j.len e))
 rw[aa ak];by_cases a2:(nodeI ns i).k=9\/(nodeI ns i).k=10
 .rw[ab a2];by_cases a1:(nodeI ns i).k=10
  .rw[aa O];have⟨g,c,e,y⟩:=J8 r a1;rw[g];have o:=uF d p z (a:=0) (m:=1) (λs ar av=>U) O;rw[ni]at o;have⟨al,j⟩:=v 1 O;have aL:=j.lt;show Wr _ _ _ _ _ (_++_++_++_++_++Ha _ (nodeI ns (eo (nodeI ns i) 1)).ks tab);rw[j.id]at e⊢;exact l (.fr y (.inr ⟨a1,rfl,rfl⟩) g j.at_ (λx u=>Wr.exs h O o U x u) (Wr.blk d h ht O j.len e))
  .have ap:(nodeI ns i).k=9:=O;rw[ab ap];have⟨g,c,e,y⟩:=ac2 r ap;obtain⟨k,a8⟩:∃k,(nodeI ns i).ks.length=k+1:=⟨(nodeI ns i).ks.length-1,O⟩;rw[(O:(nodeI ns i).ks.length-1=k)]at c e⊢;have o:=uF d p z (a:=0) (m:=k) (λs ar av=>nI _ 0 c s O O) O;rw[ni]at o;have⟨al,j⟩:=v k O;have aL:=j.lt;rw[j.id]at e⊢;exact l (.fr O (.inl ⟨ap,rfl,O⟩) a8 j.at_ (λx u=>Wr.exs h O o U x u) (Wr.blk d h ht O j.len e))
 rw[aa a2];by_cases am:(nodeI ns i).k=11
 .rw[ab am];exact l (.brk am)
 rw[aa am];by_cases an:(nodeI ns i).k=12
 .rw[ab an];exact l (.nxt an)
 rw[aa an];by_cases E:(nodeI ns i).k=13
 .rw[ab E];have g:=aqr r E;by_cases A:(nodeI ns i).ks=[]
  .rw[ab A,show ∀B:Bz,B++Br=B from λB=>ByteArray.append_empty];exact l (.ret0 E U)
  .rw[aa A];have o:=uF d p z (a:=0) (m:=(nodeI ns i).ks.length) (λs e y=>nI _ 0 g s O O) O;rw[ni,dH cJ]at o;exact l (.ret1 E (List.length_pos_iff.2 A) λx u=>Wr.exs h O o a5 x u)
 rw[aa E];by_cases H:(nodeI ns i).k=14
 .rw[ab H];have⟨g,c,e,y⟩:=ac3 r H;have⟨a,b⟩:=v 0 O;have⟨al,j⟩:=v 1 O;have C:=b.lt;have aL:=j.lt;rw[b.id]at c⊢;rw[j.id]at e⊢;exact l (.try_ y H g b.at_ j.at_ (Wr.blk d h ht O b.len c) (Wr.blk d h ht O j.len e))
 rw[aa H];by_cases K:(nodeI ns i).k=15
 .rw[ab K];have⟨g,c⟩:=FD r K;have⟨a,b⟩:=v 0 O;have C:=b.lt;rw[b.id]at c⊢;exact l (.thr K g b.at_ (Wr.expr0 h O O c))
 rw[aa K,ab O];have⟨g,c⟩:=Hw r O;have⟨a,b⟩:=v 0 O;have C:=b.lt;rw[b.id]at c⊢;exact l (.dfr (O:_=_) g b.at_ (Wr.expr0 h O O (a3 _ c)))
def aj5(d:Mp w0 p1 n c1 ns)(c:OkA w0 p1 n c1 ns f)(m:f<Q ns):OkA w0 p1 n c1 ns (f+1):=
 ⟨λb i=>agC d c m b i,
  λj b e g o p i h a=>by
  simp only[ve]at a⊢;exact aj4 d c b j O O O p e g h a,
  λj b q o l i _ _ _ _ _ _ k e g h a=>by
  simp only[Ad]at a⊢;exact FH d c b j O O O l q k e g h a⟩
def okA(a:Mp w0 p1 n c1 ns):∀f,f<=Q ns->OkA w0 p1 n c1 ns f
 |0,_=>OkA.zero w0 p1 n c1 ns
 |f+1,h=>aj5 a (okA a f O) O
end
open Go.Lib (strCells strCells_length)
theorem Ka(T:Bz):strCells T=B8 (Ab T.data.toList):=by
 unfold strCells B8 Ab
 simp_all
def Hy{base g cap:Nat}{T:Bz}(a:w.ownsRow base 5 1 (Ax (A2 ⟨g,0,B1⟩) n cap) n (strCells T)):
  (convert 22 9 (Ax (A2 ⟨g,0,B1⟩) n cap)).run A9 w= .ok (B3 T) w:=by
 rw[Ka]at a;rw[oF a,AL]
def iH(ns:List Nd):Bz:=if(dF ns).1=0 then I7 ns else⟨#[]⟩
theorem Co.below{a:Addr}{g:Nat}(h:Co w a ns)(j:fj w (Ax (A2 a) n g) ns)(k:B0 w.heap.size w W):Co W a ns:=by
 intro m b c d f l;have⟨p,i,q,o,e⟩:=j.get f;cases i;have:=aq k e.c8;rw[this]at l;obtain rfl:o= Ax c (Q b.ks) d:=U;exact h m b c d f e.c8
theorem ac5(h:(dF ns).1=0):0<Q ns/\Q ns<=3000/\(nodeI ns ((Q ns:Int)-1)).k=1:=by
 have b:=Ar h;have:=b.len;unfold dF at h;by_cases d:kL ns=Y
 .grind
 .have a:kL ns=A6:=U;have e:=jE a;refine⟨O,O,?_⟩;by_cases c:(ns.getD (Q ns-1) zNd).k=1
  .unfold nodeI;rw[(O:((Q ns:Int)-1).toNat=Q ns-1)];grind
  omega
def Pr.new(a:B2)(b:B6):Pr a b Br 0 (a.alloc (A5 #[b,Ax B1 0 0,A0 A3 0] 187)):=
 ⟨(ai _ a).alloc cJ _,Ax B1 0 0,ay a _,dA _ _ _ _⟩
theorem Kb(w:B2)(f:Addr)(n c:Nat)(ns:List Nd)(h:fj w (Ax (A2 f) n c) ns)(b8:Co w f ns)(hn:Q ns=n)(dk:n<=1048576)(cw:∀N∈ns,jK N)(ca:∀N∈ns,ahm N)(p:(dF ns).1=0->(nF ns).size<=6000000000):
  Ce A9 62 #[Ck #[Ax (A2 f) n c]] w λe cx=>e= B4 (B3 (iH ns))/\B0 w.heap.size w cx:=by
 have bt:=aj p;clear p;have a8:∀r,B0 w.heap.size w (w.alloc r):=λr=>(ai _ w).alloc cJ r;have l:=Dy h b8 ca hn;have bj:=λr=>Fl (w.alloc r) (Ax (A2 f) n c) ns (h.below (a8 r)) O cw;have⟨am,a7⟩:=aw ((dF ns).1);have⟨j,b1⟩:=aw ((dF ns).2);rw[a7,b1]at bj;have G:=aj a7;go_in;go_wp2_with fail;have bo:=ay w (A5 #[Ax (A2 f) n c] 26);have d2:(w.alloc (A5 #[Ax (A2 f) n c] 26)).heap.size=w.heap.size+1:=fp _ _;refine dm (bj _) λw1 A=>?_;have E:=(A.block _ O).trans bo;have B:B0 w.heap.size w w1:=(a8 _).trans (A.mono O);by_cases a4:am=0
 .subst a4;have a0:=dE E;have ds:=ah E;have bA:((0:Int)!=0)=A6:=rfl;have ag:B0 w1.heap.size w1 (w1.alloc (A5 #[A0 A3 0,A0 A3 j] 57)):=(ai _ w1).alloc cJ _;have o:B0 w.heap.size w (w1.alloc (A5 #[A0 A3 0,A0 A3 j] 57)):=B.trans (ag.mono B.size);have af:(w1.alloc (A5 #[A0 A3 0,A0 A3 j] 57)).cell? ⟨w.heap.size,0,B1⟩=A2 (Ax (A2 f) n c):=aq ag a0;have⟨d5,ct,bk⟩:=ac5 G.out;have hn:=l.2.2.2;obtain⟨b,rfl⟩:∃b,n=b+1:=⟨n-1,O⟩;have b2:nodeI ns ((Q ns:Int)-1)=nodeI ns (b:Int):=U;rw[b2]at bk;have⟨cI,cA,c4,aL,i,a2,L⟩:=Ae l.1 l.2.1 (O:b<Q ns);have a3:=(L.rd _ (o.trans (((ai _ _).alloc cJ (A5 #[Ax (A2 f) (b+1) c,Ax B1 0 0,A0 A3 0] 187)).mono o.size))).c8;have c6:((b:Int)+1)-1=(b:Int):=O;have d0:(0:Int)<=(b:Int):=O;have d1:(b:Int)<(b:Int)+1:=O;have y:Mp (w1.alloc (A5 #[A0 A3 0,A0 A3 j] 57)) f (b+1) c ns:=by
   refine⟨l.1.below o,l.2.1.below l.1 o,hn,O,acL G,λbf=>?_,λbf=>?_⟩;all_goals
    unfold nodeI;rw[er];cases e:ns[bf.toNat]? with
    |none=>decide
    |some N=>have:=(l.2.2.1 N (da e)).n;grind
  have cg:=bt.out G.out;have ar:=Pr.new (w1.alloc (A5 #[A0 A3 0,A0 A3 j] 57)) (Ax (A2 f) (b+1) c);have H:=aj ar;have a1:((w1.alloc (A5 #[A0 A3 0,A0 A3 j] 57)).alloc (A5 #[Ax (A2 f) (b+1) c,Ax B1 0 0,A0 A3 0] 187)).cell? ⟨w.heap.size,0,B1⟩=A2 (Ax (A2 f) (b+1) c):=aq ((ai _ _).alloc cJ _) af;generalize b4:w1.alloc (A5 #[A0 A3 0,A0 A3 j] 57)=m at y H ar a1 af a3 o ag;have bn:=okA y (Q ns) cJ;have⟨cm,dl⟩:=mG (y.sz.nb b O);have b7:=aa7 cm bk;have dq:=L.hL;have⟨q,a9⟩:=aw ((nodeI ns (b:Int)).ks);obtain⟨d,cd⟩:∃d,(q.map λa=>ve ns (Q ns) a 0++(⟨#[10]⟩:Bz))=d:=⟨_,rfl⟩;have cf:nF ns=jz d:=by unfold nF;grind
  have cq:∀t∈q,∃g:Nat,t=(g:Int)/\g<Q ns/\ll (nodeI ns g).k=Y:=by
   intro t p;rw[<-a9]at p;obtain⟨bg,cb,rfl⟩:=oE p;have⟨cz,bc⟩:=iG (y.sz.nb b O) O bg cb;have:=ajD _ 0 b7 bg O O;rw[bc.id]at this⊢;exact⟨cz,rfl,bc.len,this⟩
  have cc:dz m (Ax aL i a2) q:=by rw[<-a9];exact L.ks.below o
  have k:C2 (OkA m f (b+1) c ns (Q ns)/\dz m (Ax aL i a2) q/\(∀t∈q,∃g:Nat,t=(g:Int)/\g<Q ns/\ll (nodeI ns g).k=Y)/\Q q=i/\(q.map λa=>ve ns (Q ns) a 0++(⟨#[10]⟩:Bz))=d/\nF ns=jz d/\(nF ns).size<=6000000000/\Q ns<=3000/\Q d=i):=⟨bn,cc,cq,U,cd,cf,cg,ct,U⟩;have c9:i<=200:=O;have F:=aj o;subst b4;go_wp2_with fail;have ba:(w1.alloc (A5 #[A0 A3 0,A0 A3 j] 57)).heap.size=w1.heap.size+1:=fp _ _;generalize w1.alloc (A5 #[A0 A3 0,A0 A3 j] 57)=m at H k F af a1 a3 ba⊢;have K:=aj ba;go_loopw [25] (λal wr=>∃a:Nat,a<=i/\al= A0 A3 a/\C2 (Pr m (Ax (A2 f) (b+1) c) (jz (d.take a)) 0 wr)) (λal _=>i-(B7 al).toNat)
  case atStart=>exact⟨0,O,rfl,H⟩
  case round=>
   obtain⟨a,dd,rfl,u⟩:=hrel;by_cases ce:a<i
   .obtain⟨t,bb⟩:=dh k.2.2.2.1 ce;obtain⟨g,rfl,ch,cl⟩:=k.2.2.1 t (da bb);obtain⟨cF,rfl,c5⟩:=(k.2.1.below u.bel).get bb;have dg:(a:Int)<(i:Int):=O;have df:(0:Int)<=(a:Int):=O;have cp:d[a]?=A2 (ve ns (Q ns) g 0++⟨#[10]⟩):=U;have a5:=Bl d a _ cp;have a6:=aeq d (a+1);have bD:=k.2.2.2.2.2.2.1;rw[k.out.2.2.2.2.2.1]at bD;rw[a5]at a6;simp only[ax]at a6;have p:(jz (d.take a)).size+((ve ns (Q ns) g 0).size+1)<=6000000000:=by
     have e:(⟨#[10]⟩:Bz).size=1:=rfl;omega
    have C:=k.1.s g 0 (jz (d.take a)) wr ch cl O u U;have ao:=aj a5;simp only at C;have⟨cB,b5⟩:=aw (ve ns (Q ns) g 0);rw[b5]at C ao p;rw[K.out]at C;go_wp2_with fail;refine C.mono ?_;rintro e d6 ⟨rfl,cu,d3⟩;have bp:=aj cu;go_wp2_with fail;have bh:=gw m _ _ ⟨#[10]⟩ _ _ bp U;rw[K.out]at bh;refine bh.mono ?_;rintro e d7 ⟨rfl,bl,d4⟩;rw[dJ,<-ao.out]at bl;have br:=aj bl;go_wp2;exact⟨⟨a+1,O,by go_num,br⟩,by simp[B7];omega⟩
   .obtain rfl:a=i:=O;have b3:d.take a=d:=dH U;rw[b3,<-k.out.2.2.2.2.2.1]at u;have ad:B0 w.heap.size w wr:=F.out.trans (u.bel.mono F.size);have⟨r,b6,v⟩:=u.row;have ap:C2 (iH ns=if 65536<(nF ns).size then Br else nF ns):=by show _=_;unfold iH I7;grind
    have bd:=k.2.2.2.2.2.2.1;have⟨D,bE⟩:=aw (nF ns);rw[bE]at v ap bd;have⟨z,b9⟩:=aw D.size;rw[b9]at v ap bd;obtain⟨bv,bx,rfl⟩:=cG v;have cy:wr.cell? ⟨m.heap.size,1,B1⟩=A2 (Ax bv z bx):=by rw[au _ _ _ _ _ _ b6];rfl
    rw[K.out]at cy;by_cases dc:65536<z
    .have x:C2 (iH ns=Br):=U;have A:(65536:Int)<(z:Int):=O;go_wp2;go_ret;exact⟨by rw[x.out];rfl,ad⟩
    .have x:C2 (iH ns=D):=U;have A:¬(65536:Int)<(z:Int):=O;rcases bm v with⟨a4,e⟩|⟨c7,c0,e⟩
     .cases e;have b0:D=⟨#[]⟩:=by
       apply mq
       simp_all
      have cr:(convert 22 9 (Ax B1 0 0)).run A9 wr= .ok (B3 ⟨#[]⟩) wr:=by rfl
      go_wp2;go_ret;exact⟨by rw[x.out,b0];rfl,ad⟩
     .cases e;have cr:=Hy v;go_wp2;go_ret;exact⟨by rw[x.out];rfl,ad⟩
 .have bA:(am !=0)=Y:=U;have a0:=dE E;have bs:C2 (iH ns=⟨#[]⟩):=by show _=_;unfold iH;grind
  go_wp2;go_ret;exact⟨by rw[bs.out];rfl,B.trans (((ai _ w1).alloc cJ _).mono B.size)⟩
def Gu(w:B2)(a:Addr)(n c:Nat)(ns:List Nd)(h:fj w (Ax (A2 a) n c) ns)(f:Co w a ns)(hn:Q ns=n)(g:n<=1048576)(j:∀N∈ns,jK N)(d:∀N∈ns,ahm N):
  Ce A9 62 #[Ck #[Ax (A2 a) n c]] w λe k=>e= B4 (B3 (iH ns))/\B0 w.heap.size w k:=
 Kb w a n c ns h f hn g j d λb=>ac4 (acL b) (λi=>by
  unfold nodeI;rw[er];cases e:ns[i.toNat]? with
  |none=>decide
  |some N=>exact(d N (da e)).n.2) (ac5 b).2.1 (ac5 b).1
end Go.Proofs.YtiaechpcebhcdaaGreatDoor
namespace Go.Proofs.YtiaechpcebhcdaaGreatDoor
variable{E:Int->Bz}{N:Nd}{R:Fo}{S:Int->Nat->Bz}{W w:World}{a c k t:Int}{b:Bool}{i j m n p tab:Nat}{ns:List Nd}{s:Bz}{st st':List Int}
section
variable {T s : Bz} {p : Nat}
theorem am0(s:Bz)(p:Nat):(vK s p).1=1\/(10<=(vK s p).1/\(vK s p).1<=31/\eI (vK s p).1=s.extract p (mh s (s.size+1) p)):=by
 unfold vK;cases e:zj fG (s.extract p (mh s (s.size+1) p)) 22 0 with
 |none=>grind
 |some a=>
  have⟨c,d,b⟩:=rC fG _ 22 0 a e;refine .inr ⟨U,U,?_⟩;simp only;unfold eI;rw[aa O,ab O,(O:(10+(a:Int)-10).toNat=a)];rw[fL,fL]at b;exact mq (Array.toList_inj.1 b)
theorem k7(h:gD s p=7)(f:p<s.size):ae s p=10:=by
 have c:=Cz s p h;have j:=(rd7 h f).2;have a:=c.2;have b:=c.1;unfold rdI at a b;by_cases d:aJ (ae s p)=Y
 .rw[ab d]at a;have:=am0 s p;grind
 rw[aa d,aa U]at a b;by_cases e:ae s p=34
 .grind
 rw[aa e]at a b;refine Decidable.byContradiction λg=>?_;have i:=xx (s.extract p s.size) (by rw[eA];exact g);unfold wn at i;grind
theorem n10(h:ae s p=10):gD s p=7:=by
 have a:rdI s p=⟨Y,p+1,1,7,0,Br⟩:=by
  unfold rdI;rw[h,aa Z,aa Z,aa Z];have:lH (s.extract p s.size)=7:=by unfold lH;rw[eA,du,h,aa Z,ab rfl]
  rw[this];rfl
 unfold gD;grind
theorem FI{K:List Int}(a:k∈K)(hn:p+n<=s.size)(b:n<=(eI k).size)(c:∀i,i<n->ae s (p+i)=ae (eI k) i):jI K (s.extract p (p+n))=Y:=by
 unfold jI;split
 .rfl
 .have e:=ey s p (p+n) hn;refine(Ak _ _).2 ⟨k,a,.inr (xA.2 ⟨O,λi d=>?_⟩)⟩;rw[eu s p _ i hn O];grind
theorem aj6(h:¬aJ (ae s p)=Y)(l:¬aC (ae s p)=Y)(h3:ae s p≠34)(j:ae s p≠10)(f:(rdI s p).ok=Y):(rdI s p).a=p+(eI (rdI s p).k).size/\∀i,i<(eI (rdI s p).k).size->ae s (p+i)=ae (eI (rdI s p).k) i:=by
 unfold rdI at f⊢;simp only[aa h,aa l,aa h3]at f⊢;by_cases m:lH (s.extract p s.size)=0
 .grind
 simp only[aa m];have n:=uw je 40 (s.extract p s.size) 11 O Jh 11 0 (0,0) O (.inl ⟨rfl,rfl⟩);have g:=uw lK 61 (s.extract p s.size) 18 O Ji 18 0 _ O n;have o:lH (s.extract p s.size)≠7:=λc=>by
  have q:=xx (s.extract p s.size) (by rw[eA];omega);unfold wn at q;grind
 rw[ut _ o];refine⟨rfl,?_⟩;by_cases b:ae s p=59
 .have:lH (s.extract p s.size)=5:=by unfold lH;rw[eA,du,ab b]
  rw[this];intro i e;obtain rfl:i=0:=by have:(fJ 5).size=1:=(by rfl);omega
  rw[du,b];rfl
 .have c:lH (s.extract p s.size)=(xG lK 61 (s.extract p s.size) 18 0 (xG je 40 (s.extract p s.size) 11 0 (0,0))).1:=by unfold lH;rw[eA,du,aa b,aa j]
  rw[<-c]at g;rcases g with⟨d,_⟩|⟨_,_,d,_⟩
  .omega
  .intro i e;have:=(Dq _ _).1 d i e
   rwa [eA]at this
theorem aqs(hn:NoL st)(ao:p<s.size)(E:gD s p≠7)(b:(pc st (gD s p)).2=A6)(B:Hi s p (jH st) (s.size+1) 0=n)(G:p+n<s.size)(h:∀i,i<=p+n->ae T i=ae s i):(pc st (gD T p)).2=A6:=by
 cases hT:(pc st (gD T p)).2 with
 |false=>rfl
 |true=>
 exfalso;obtain⟨_,v,w,d⟩:=Fq (s:=s) (p:=p) (K:=jH st) (s.size+1) 0 O;rw[B]at v w d;have x:=h p O;have an:p+n<T.size:=aF (h _ cJ) (gI G).1;have H:0<gD T p/\(feedL st (gD T p)).2=Y:=by
  unfold pc at hT;grind
 have t:gD T p∈jH st:=(xB st _ 78).2 ⟨O,(Bj T p).2,H.2⟩;have al:ae s p≠10:=λg=>E (n10 g);have a0:∀{a:Nat},(rdI T p).ok=Y->(rdI T p).a=a->a<=p+n->False:=λ{a} q F ar=>by
  have u:jq s T (aC (ae T p)) (rdI T p).a:=by
   rw[F];rcases aH a (p+n) with g|g
   .exact⟨λi l=>(h i O).symm,.inr ⟨(h a O).symm,λ_ _ av=>U⟩⟩
   .refine⟨λi l=>(h i O).symm,.inr ⟨(h a O).symm,λf _ _=>?_⟩⟩;have:=su f;rw[x]at f;have:=su f;have ad:=hn.two;unfold pc at b;grind
  have j:=u.rd O q;rw[act j q,hT]at b;cases b
 by_cases C:aC (ae s p)=Y
 .have ad:=hn.two;unfold pc at b;have y:=su (s:=T) (p:=p) U;have z:=su C;grind
 by_cases am:ae s p=34
 .have aL:∀{m:Bz},ae m p=34->gD m p=4:=λ{m} g=>by
   unfold gD;split
   .rename_i c;unfold rdI at c⊢;rw[g,aa Z,aa Z,ab rfl]at c⊢;grind
   .unfold od;grind
  grind
 by_cases ak:aJ (ae s p)=Y
 .have c:rdI T p=⟨Y,mh T (T.size+1) p,0,(vK T p).1,0,(vK T p).2⟩:=by unfold rdI;grind
  have r:gD T p=(vK T p).1:=by unfold gD;grind
  rcases aH (p+n) (mh T (T.size+1) p) with g|g
  .have ap:aJ (ae s (p+n))=Y\/aC (ae s (p+n))=Y:=by
    have:=acz T (T.size+1) p (p+n) O g;grind
   have e:jI (jH st) (s.extract p (p+(n+1)))=Y:=by
    rcases am0 T p with j|⟨y,z,A⟩
    .unfold jI;split
     .rfl
     .refine(Ak _ _).2 ⟨1,U,.inl ?_⟩;unfold bgC;rw[eu s p _ 0 O,du];grind
    .have o:=sa T (T.size+1) p O;have a1:=ey T p (mh T (T.size+1) p) o.2;refine FI (k:=gD T p) t O U λi l=>?_;rw[r,A,eu T p _ i o.2 O,h _ O]
   have st:=(d O e).2;unfold my lk at st;grind
  grind
 .have L:(rdI T p).ok=Y:=by
   cases c:(rdI T p).ok with
   |true=>rfl
   |false=>
    have j:gD T p=0:=by
     unfold gD od;grind
    omega
  have r:gD T p=(rdI T p).k:=by unfold gD;grind
  obtain⟨af,ag⟩:=aj6 (s:=T) (p:=p) U U O O L;rcases aH (p+n) (rdI T p).a with g|g
  .have e:=FI (s:=s) (p:=p) (k:=gD T p) t (n:=n+1) O U λi l=>by
    grind
   have st:=(d O e).2;unfold my at st;grind
  grind
theorem ac6{z:Nat}(ad:z<s.size)(h:∀i,i<=z->ae T i=ae s i)(aL:tokF s=([],(z:Int))):tokF T=([],(z:Int)):=by
 obtain⟨st,q,l,a6,k,o⟩:=E6 s _ [100,6] 0 A6 cJ nH;have iv:=k.iv iv0;have t:=k.bd;have a7:=Aj k o;have bf:z<T.size:=aF (h _ cJ) (gI ad).1;have e:a6=z:=by
  unfold tokF at aL;grind
 have E:∀{st:List Int}{q:Nat}{l:Bool},Tq T [100,6] 0 A6 st q l->Gr T st q z->tokF T=([],(z:Int)):=λk o=>by
  unfold tokF;rw[Aj k o];grind
 have G:=ft s (s.size+1) q t.2.1;have n:∀(L:blk s (s.size+1) q<=z)(H:blk s (s.size+1) q<s.size)(c:blk s (s.size+1) q=z->ae s z≠45/\(l=Y->ae s z≠46)),Tq T [100,6] 0 A6 st q l/\blk T (T.size+1) q=blk s (s.size+1) q:=λL H c=>by
  refine⟨k.to ⟨λi m=>h i O,.inr ⟨h q O,λF bc bg=>?_⟩⟩,tz _ q cJ t.2.1 rfl (λi m=>h i O) (.inr (.inr ⟨h _ L,λg=>?_⟩))⟩
  .grind
  .have nd:=acs _ q cJ t.2.1 H;grind
 cases o with
 |end_ bb=>omega
 |wrong c j d=>
  unfold wrongF at e;obtain⟨p,w⟩:∃p,blk s (s.size+1) q=p:=⟨_,rfl⟩;rw[w]at c j d e G n;obtain⟨f,v⟩:∃f,Hi s p (jH st) (s.size+1) 0=f:=⟨_,rfl⟩;rw[v]at e;have e:p+f=z:=O;obtain⟨_,ak,al,am⟩:=Fq (s:=s) (p:=p) (K:=jH st) (s.size+1) 0 O;rw[v]at ak al am;have ag:jI (jH st) (s.extract p (p+1))=Y->1<=f:=λg=>by
   grind
  obtain⟨B,C⟩:=n O c λu=>by
   have a8:f=0:=O;have bj:=ey s p (p+1) O;have a5:=eu s p (p+1) 0 O;rw[du]at a5;constructor
   .intro g;have:=ag (by unfold jI;grind);omega
   .intro F g;have b:(72:Int)∈jH st:=(xB st _ 78).2 ⟨Z,Z,iv.cat F⟩;have:=ag (FI b O (by decide+kernel) λi m=>by
     obtain rfl:i=0:=O;rw[du,u,g];decide+kernel)
    omega
  refine E B ?_;have an:∀i,i<=p+f->ae T i=ae s i:=λi m=>h i O;have ba:=aqs iv.no c j d v O an;have ar:∀b,1<=b->p+b<=z+1->T.extract p (p+b)=s.extract p (p+b):=λb y av=>by
   have ao:=ey T p (p+b) O;have ap:=ey s p (p+b) O;refine yH O λi m=>?_;rw[eu T p _ i O O,eu s p _ i O O,h _ O]
  have a9:∀b,p+b<=z->my T p b=my s p b:=λb av=>by
   unfold my lk;grind
  have wr:wrongF T p (jH st)=z:=by
   unfold wrongF;rw[JG (r:=f) (λb y A=>⟨O,U⟩) (λb y A=>U) (λy A=>by
    rw[ar (f+1) O O]at A;grind) (T.size+1) 0 O O (λu b=>O)]
   exact e
  have:=Gr.wrong (s:=T) (st:=st) (q:=q) O (by rw[C];intro g;exact j (n10 (by rw[<-h p O];exact k7 g O))) U;grind
 |bad c j d=>
  obtain⟨p,w⟩:∃p,blk s (s.size+1) q=p:=⟨_,rfl⟩;rw[w]at c j d e G n;have e:(rdI s p).a=z:=O;have bh:p<z:=by
   have x:0<gD s p:=by
    unfold pc at j;grind
   rcases aH p (rdI s p).a with g|g
   .omega
   .exfalso;unfold gD od at x;rw[aa U]at x;unfold rdI at g d;by_cases a0:aJ (ae s p)=Y
    .grind
    rw[aa a0]at g d;by_cases af:aC (ae s p)=Y
    .rw[ab af]at g d;have:=kG s p c;grind
    rw[aa af]at g d x;by_cases a1:ae s p=34
    .rw[ab a1]at g d;have:=qD (s:=s) (s.size+1) (p+1) [];grind
    omega
  obtain⟨B,C⟩:=n O c λu=>O;refine E B ?_;obtain⟨ao,ap⟩:=ar6 h ad c d e;have:=Gr.bad (s:=T) (st:=st) (q:=q) O U U;grind
end
def pu:List Bz:=[⟨#[34]⟩,⟨#[110,34]⟩,⟨#[48,48,34]⟩,⟨#[48,34]⟩,⟨#[48]⟩,⟨#[95]⟩]
section
variable {s : Bz} {a : Nat}
def Bv(b:a<=s.size)(c:Bz)(e:i<a):ae (s.extract 0 a++c) i=ae s i:=by
 have d:=ey s 0 a b;rw[fh,ab O,eu s 0 a i b O,ny]
theorem ac7(b:a<=s.size)(c:Bz)(i:Nat):ae (s.extract 0 a++c) (a+i)=ae c i:=by
 have d:=ey s 0 a b;rw[fh,aa O];grind
theorem wC(b:a<=s.size)(c:Bz):(s.extract 0 a++c).size=a+c.size:=by
 simp_all
theorem Kc(h:a<=s.size):∀(f x0:Nat)(e:List Int),(bC s f x0 e).1=A6->(bC s f x0 e).2.1=a->s.size<x0+f->x0<=s.size->∃c∈pu,(∀g,a+c.size<=x0+g->(bC (s.extract 0 a++c) g x0 e).1=Y/\(bC (s.extract 0 a++c) g x0 e).2.1=a+c.size)/\∀g,(bC (s.extract 0 a++⟨#[]⟩) g x0 e).1=A6
 |0,x0,e,m,b,ao,al=>O
 |f+1,x0,e,m,b,ao,al=>by
  have av:=qD (s:=s) (f+1) x0 e;rw[b]at av;have z0:(s.extract 0 a++⟨#[]⟩).size=a:=wC h _;have a1:a=x0->∃c∈pu,(∀g,a+c.size<=x0+g->(bC (s.extract 0 a++c) g x0 e).1=Y/\(bC (s.extract 0 a++c) g x0 e).2.1=a+c.size)/\∀g,(bC (s.extract 0 a++⟨#[]⟩) g x0 e).1=A6:=λak=>by
   refine⟨⟨#[34]⟩,by simp[pu],λg y=>?_,λg=>?_⟩
   .have x:(⟨#[34]⟩:Bz).size=1:=rfl;have B:=wC h ⟨#[34]⟩;have G:=ac7 h ⟨#[34]⟩ 0;rw[du]at G;obtain⟨g,rfl⟩:∃l,g=l+1:=⟨g-1,O⟩;rw[bC,aa O,<-ak,ab (by rw[G];rfl)];grind
   .obtain _|g:=g
    .rfl
    .rw[bC,ab O]
  rw[bC]at m b;by_cases x:s.size<=x0
  .grind
  rw[aa x]at m b;by_cases L:ae s x0=34
  .grind
  rw[aa L]at m b;by_cases ad:ae s x0=10
  .grind
  rw[aa ad]at m b;have A:∀{c:Bz}{g:Nat},x0<a->bC (s.extract 0 a++c) (g+1) x0 e=if ae s x0=92 then(if(ej (s.extract 0 a++c) (x0+1)).2.2=Y then bC (s.extract 0 a++c) g (ej (s.extract 0 a++c) (x0+1)).2.1 (e++[(ej (s.extract 0 a++c) (x0+1)).1]) else(A6,(ej (s.extract 0 a++c) (x0+1)).2.1,e)) else bC (s.extract 0 a++c) g (x0+1) (e++[ae s x0]):=λ{c g} af=>by
   have B:=wC h c;rw[bC,aa O,Bv h c af,aa L,aa ad]
  by_cases r:ae s x0=92
  .rw[ab r]at m b;have a0:=acq (s:=s) (x0+1);by_cases j:(ej s (x0+1)).2.2=Y
   .rw[ab j]at m b;have ap:=qD (s:=s) f (ej s (x0+1)).2.1 (e++[(ej s (x0+1)).1]);have ar:=E4 _ j;have ag:=Db s (x0+1) O;obtain⟨c,E,am,an⟩:=Kc h f _ _ m b O ag.2.1;have aL:∀c:Bz,ej (s.extract 0 a++c) (x0+1)=ej s (x0+1):=λc=>Jr (a:=(ej s (x0+1)).2.1) (λd i=>Bv h c O) j cJ ar;refine⟨c,E,λg y=>?_,λg=>?_⟩
    .obtain⟨g,rfl⟩:∃l,g=l+1:=⟨g-1,O⟩;grind
    .obtain _|g:=g
     .rfl
     grind
   .rw[aa j]at b;simp only at b;have F:∀g,(bC (s.extract 0 a++⟨#[]⟩) g x0 e).1=A6:=λg=>by
     obtain _|g:=g
     .rfl
     .rw[A O,ab r];have:¬(ej (s.extract 0 a++⟨#[]⟩) (x0+1)).2.2=Y:=λk=>by
       have af:=E4 _ k;have H:∀d,a<=d->ae (s.extract 0 a++⟨#[]⟩) d= -1:=λd i=>di O;have z:∀d,d<a->ae (s.extract 0 a++⟨#[]⟩) d=ae s d:=λd i=>Bv h _ i;unfold ej hexI at j b k;rcases aH (x0+1) a with g1|g1
       .rw[z _ g1]at k;by_cases t:ae s (x0+1)=110
        .grind
        by_cases u:ae s (x0+1)=116
        .grind
        by_cases v:ae s (x0+1)=34\/ae s (x0+1)=92
        .grind
        rw[aa t,aa u,aa v]at j b k;by_cases p:ae s (x0+1)=120
        .rw[ab p]at j b k;by_cases q:gj (ae s (x0+1+1))<0
         .rw[ab q]at b;rw[H (x0+1+1) U,ab Z]at k;cases k
         rw[aa q]at j b;by_cases C:gj (ae s (x0+1+1+1))<0
         .rw[ab C]at b;simp only at b;rw[H (x0+1+1+1) O]at k;split at k
          .cases k
          .rw[ab Z]at k;cases k
         grind
        grind
       grind
      grind
    have z:∀(c:Bz) d,d<a->ae (s.extract 0 a++c) d=ae s d:=λc d i=>Bv h c i;have i:∀(c:Bz) d,ae (s.extract 0 a++c) (a+d)=ae c d:=λc d=>ac7 h c d;unfold ej hexI at j b;by_cases t:ae s (x0+1)=110
    .grind
    by_cases u:ae s (x0+1)=116
    .grind
    by_cases v:ae s (x0+1)=34\/ae s (x0+1)=92
    .grind
    rw[aa t,aa u,aa v]at j b;by_cases p:ae s (x0+1)=120
    .rw[ab p]at j b;by_cases q:gj (ae s (x0+1+1))<0
     .rw[ab q]at b;simp only at b;refine⟨⟨#[48,48,34]⟩,by simp[pu],λg y=>?_,F⟩;have x:(⟨#[48,48,34]⟩:Bz).size=3:=rfl;have B:=wC h ⟨#[48,48,34]⟩;have K:=i ⟨#[48,48,34]⟩ 0;have n:=i ⟨#[48,48,34]⟩ 1;have o:=i ⟨#[48,48,34]⟩ 2;rw[(O:a+0=x0+1+1)]at K;rw[(O:a+1=x0+1+1+1)]at n;rw[(O:a+2=x0+1+1+1+1)]at o;have w:ej (s.extract 0 a++⟨#[48,48,34]⟩) (x0+1)=(0,x0+1+1+1+1,Y):=by
       unfold ej hexI;rw[z _ _ (O:x0+1<a),aa t,aa u,aa v,ab p,K,n];rfl
      obtain⟨g,rfl⟩:∃l,g=l+2:=⟨g-2,O⟩;rw[A O,ab r,w,ab rfl,bC,aa U];rw[ab (by show ae _ (x0+1+1+1+1)=34;rw[o];rfl)];grind
     rw[aa q]at j b;by_cases C:gj (ae s (x0+1+1+1))<0
     .rw[ab C]at b;simp only at b;refine⟨⟨#[48,34]⟩,by simp[pu],λg y=>?_,F⟩;have x:(⟨#[48,34]⟩:Bz).size=2:=rfl;have B:=wC h ⟨#[48,34]⟩;have n:=i ⟨#[48,34]⟩ 0;have o:=i ⟨#[48,34]⟩ 1;rw[(O:a+0=x0+1+1+1)]at n;rw[(O:a+1=x0+1+1+1+1)]at o;have w:(ej (s.extract 0 a++⟨#[48,34]⟩) (x0+1)).2=(x0+1+1+1+1,Y):=by
       unfold ej hexI;rw[z _ _ (O:x0+1<a),aa t,aa u,aa v,ab p,z _ _ (O:x0+1+1<a),aa q,n];rfl
      obtain⟨g,rfl⟩:∃l,g=l+2:=⟨g-2,O⟩;rw[A O,ab r,w,ab rfl,bC,aa O];rw[ab (by show ae _ (x0+1+1+1+1)=34;rw[o];rfl)];grind
     grind
    .rw[aa p]at b;simp only at b;refine⟨⟨#[110,34]⟩,by simp[pu],λg y=>?_,F⟩;have x:(⟨#[110,34]⟩:Bz).size=2:=rfl;have B:=wC h ⟨#[110,34]⟩;have n:=i ⟨#[110,34]⟩ 0;have o:=i ⟨#[110,34]⟩ 1;rw[(O:a+0=x0+1)]at n;rw[(O:a+1=x0+1+1)]at o;have w:ej (s.extract 0 a++⟨#[110,34]⟩) (x0+1)=(10,x0+1+1,Y):=by
      unfold ej;rw[n];rfl
     obtain⟨g,rfl⟩:∃l,g=l+2:=⟨g-2,O⟩;rw[A O,ab r,w,ab rfl,bC,aa U];rw[ab (by show ae _ (x0+1+1)=34;rw[o];rfl)];grind
  .rw[aa r]at m b;have ap:=qD (s:=s) f (x0+1) (e++[ae s x0]);obtain⟨c,E,am,an⟩:=Kc h f _ _ m b O O;refine⟨c,E,λg y=>?_,λg=>?_⟩
   .obtain⟨g,rfl⟩:∃l,g=l+1:=⟨g-1,O⟩;grind
   .obtain _|g:=g
    .rfl
    grind
theorem am1(j:a<=s.size)(t:p<s.size)(c:(ci s p).2=A6)(b:(ci s p).1=a):(ci (s.extract 0 a++⟨#[]⟩) p=(a,Y)\/(ci (s.extract 0 a++⟨#[]⟩) p).2=A6)/\((ci (s.extract 0 a++⟨#[]⟩) p).2=A6->ci (s.extract 0 a++⟨#[48]⟩) p=(a+1,Y)):=by
 have H:=kG s p t;have g:∀(d:Bz) h,h<a->ae (s.extract 0 a++d) h=ae s h:=λd h k=>Bv j d k;have z0:(s.extract 0 a++⟨#[]⟩).size=a:=wC j _;have av:(s.extract 0 a++⟨#[48]⟩).size=a+1:=wC j _;have l:ae (s.extract 0 a++⟨#[]⟩) a= -1:=di O;have F:ae (s.extract 0 a++⟨#[48]⟩) a=48:=by have:=ac7 j ⟨#[48]⟩ 0;rw[du]at this;rw[this];rfl
 have G:ae (s.extract 0 a++⟨#[48]⟩) (a+1)= -1:=di O;have one:∀q:Int->Bool,q 48=Y->q (-1)=A6->gB q (s.extract 0 a++⟨#[48]⟩) ((s.extract 0 a++⟨#[48]⟩).size+1) a=a+1:=λq ao ap=>by
  rw[oB q _ 1 _ a (λh k=>U) U O]
 by_cases d:ae s p=48/\ae s (p+1)=120
 .have y:=aF d.2;unfold ci at c b;rw[ab d]at c b;unfold lh at c b;by_cases i:p+2+16<uH s (p+2)
  .rw[ab i]at b;simp only at b;have v:=jx jo s (s.size+1) (p+2);have an:uH (s.extract 0 a++⟨#[]⟩) (p+2)=a:=by
    unfold uH;rw[oB jo _ (a-(p+2)) _ (p+2) (λh k=>by rw[g _ _ O];exact v _ O (by unfold uH at i;omega)) (by rw[(O:p+2+(a-(p+2))=a),l];decide) O];omega
   have e:ci (s.extract 0 a++⟨#[]⟩) p=(a,Y):=by
    unfold ci;rw[g _ p O,g _ (p+1) O,ab d];unfold lh;grind
   grind
  .rw[aa i]at c b;simp only[wF]at c b;have E:=kF jo oy s (s.size+1) (p+2) y;have n:p+2=a:=by unfold uH at *;omega
   refine⟨.inr ?_,λ_=>?_⟩
   .unfold ci;rw[g _ p O,g _ (p+1) O,ab d,n];unfold lh;have:uH (s.extract 0 a++⟨#[]⟩) a=a:=Js jo (by rw[l];decide);grind
   .unfold ci;rw[g _ p O,g _ (p+1) O,ab d,n];unfold lh;have:uH (s.extract 0 a++⟨#[48]⟩) a=a+1:=one jo Z Z;grind
 .unfold ci at c b;rw[aa d]at c b;have w:=uj s p t;have x:=uk s (nA0 s p) w.2;obtain⟨e,o⟩:∃e,nA1 s (nA0 s p)=e:=⟨_,rfl⟩;rw[o]at c b x;have u:ae s e=101/\nA2 s e=a:=by
   unfold mu at c b;split at c
   .rename_i i;rw[ab i]at b;simp only[wF]at c b;have:nA2 s e<=s.size:=by
     have:=aF i;unfold nA2;split
     .rename_i q;have:e+1<s.size:=by rcases q with q|q<;>exact aF q
      omega
     .omega
    have:=lL s _ this;omega
   grind
  have ak:e+1<=a:=by rw[<-u.2];unfold nA2;grind
  have r:∀f:Bz,(∀ag:a=e+1,ae (s.extract 0 a++f) a≠43/\ae (s.extract 0 a++f) a≠45)->ci (s.extract 0 a++f) p=(lg (s.extract 0 a++f) a,decide (a<lg (s.extract 0 a++f) a)):=λf am=>by
   have m:jq (s.extract 0 a++f) s Y e:=⟨λh k=>g _ h O,.inr ⟨g _ e O,λ_ i=>O⟩⟩;have B:=m.a0 O (p:=p) O O;have C:=m.a1 O (e:=nA0 s p) O O;have ar:nA2 (s.extract 0 a++f) e=a:=by
    have A:=u.2;unfold nA2 at A⊢;grind
   unfold ci;have z:¬(ae (s.extract 0 a++f) p=48/\ae (s.extract 0 a++f) (p+1)=120):=by
    grind
   rw[aa z,B,C,o];unfold mu;grind
  have ad:=r ⟨#[]⟩ λ_=>O;have af:=r ⟨#[48]⟩ λ_=>O;have K:lg (s.extract 0 a++⟨#[]⟩) a=a:=Js aC (by rw[l];decide);have L:lg (s.extract 0 a++⟨#[48]⟩) a=a+1:=one aC Z Z;grind
end
def aqt:((D3 34).all λs=>(D3 78).all λt=>match fi 8 [(s:Int)+100] ((t:Int)+1) 0 with|some (lo,some true,_)=>lo.all λc=>c !=6|_=>Y)=Y:=by rfl
def asx:∀j:Fin 30,yq (bq ju j.val)≠6:=by decide+kernel
theorem abb:∀{st:List Int}{t:Int},Ft st 6=Y->Kx st=Y->1<=t->t<=78->t≠6->(feedL st t).2=Y->Kx (feedL st t).1=Y
 |[],t,_,h,_,_,_,a=>by cases h
 |s::r,t,c,h,j,k,l,a=>by
  rw[Ft,cH,ga]at c;rw[Kx]at h;rw[feedL]at a⊢;by_cases g:s<100
  .grind
  have f:=c.1;rw[aa O]at h;rw[aa g]at a⊢ f;by_cases d:(xE s t).1=[]/\(xE s t).2=Y
  .rw[ab d]at a⊢;exact abb c.2 h j k l a
  rw[aa d]at a⊢;have b:=List.all_eq_true.1 (List.all_eq_true.1 aqt (s-100).toNat U) (t-1).toNat U;rw[(O:(((s-100).toNat:Nat):Int)+100=s),(O:(((t-1).toNat:Nat):Int)+1=t)]at b;revert a b;cases e:fi 8 [s] t 0 with
  |none=>simp
  |some m=>
   obtain⟨i,_|b',n⟩:=m
   .simp
   simp only;rintro rfl b;exact aeG i b h
section
variable {s : Bz}
theorem asy(c:(rdI s p).ok=Y):gD s p≠6:=by
 by_cases j:ae s p=10
 .rw[n10 j];decide
 by_cases h:aC (ae s p)=Y
 .have:=su h;omega
 unfold gD;rw[ab c];unfold rdI at c⊢;by_cases g:aJ (ae s p)=Y
 .rw[ab g];have:=am0 s p;grind
 rw[aa g,aa h]at c⊢;by_cases k:ae s p=34
 .grind
 rw[aa k]at c⊢;have f:=xx (s.extract p s.size) (by rw[eA];omega);unfold wn at f;split
 .grind
 .rename_i o;simp only;split at f
  .rename_i a m;rw[f.1];have l:a<30:=by
    have:∀(i:Bz->Bool)(b d a:Nat),vq i b d=A2 a->a<d+b:=λi b=>by
     induction b with
     |zero=>intro d a e;simp[vq]at e
     |succ b n=>
      intro d a e;rw[vq]at e;grind
    grind
   exact asx ⟨a,l⟩
  omega
theorem Tq.cv{q i:Nat}{c:Bool}(t:Tq s st q b st' i c)(h:Ft st 6=Y/\Kx st=Y):Ft st' 6=Y/\Kx st'=Y:=by
 induction t with
 |nil _=>exact h
 |line _ _ _ _ _ f=>grind
 |@tok st st' q i b c g l m j k d e t f=>
  have a:g<=78/\g≠6:=by
   have:=(Bj s (blk s (s.size+1) q)).2;have:=asy j;rw[<-k];unfold sepK;omega
  exact f ⟨aa0 h.1 d a.1 e,abb h.1 h.2 d a.1 a.2 e⟩
def cv0:Ft [100,6] 6=Y/\Kx [100,6]=Y:=Z
end
theorem atG:∀{st:List Int},Kx st=Y->ae (iF st) 0∈CA
 |[],h=>by cases h
 |d::r,h=>by
  rw[Kx]at h;rw[iF];by_cases a:d=6
  .rw[ab a]at h;have:r=[]:=U;subst this;rw[ab a,iF];exact bH
  .rw[aa a,dJ,fh,ab Z];decide
theorem aj7:∀{st:List Int},Ft st 6=Y->Kx st=Y->(feedL st 5).2=Y->∃(n:Nat) (r:List Int),(feedL st 5).1=100::r/\Ft r 6=Y/\Kx r=Y/\J5 (J4 r 6) 100=Y/\(∀i,i<n->ae (iF st) i=32)/\∀i,ae (iF st) (n+i)=ae (iF r) i
 |[],_,h,_=>by cases h
 |s::r,f,h,b=>by
  rw[Ft,cH,ga]at f;rw[Kx]at h;rw[feedL]at b⊢;have e:=f.1;by_cases g:s<100
  .rw[ab g]at b e;have:s=5:=be b;subst this;exact absurd e Z
  rw[aa O]at h;rw[aa g]at b⊢ e;have a:=List.all_eq_true.1 aqf (s-100).toNat U;rw[(O:(((s-100).toNat:Nat):Int)+100=s)]at a;have l:J3 s=[]->(∀i,i<1->ae (iF (s::r)) i=32)/\∀i,ae (iF (s::r)) (1+i)=ae (iF r) i:=λd=>by
   have B:=(aog (c:=s) U).2.2.1.1 d;have o:qc s=⟨#[]⟩:=mq (Array.eq_empty_of_size_eq_zero B);have p:iF (s::r)=⟨#[32]⟩++iF r:=by rw[iF,aa O,o];rfl
   rw[p];refine⟨λi u=>?_,λi=>?_⟩
   .obtain rfl:i=0:=O;rfl
   .rw[fh,aa (by show ¬1+i<1;omega)]
    congr 1
    show 1+i-1=i;omega
  by_cases c:(xE s 5).1=[]/\(xE s 5).2=Y
  .rw[ab c]at b⊢ a;have d:J3 s=[]:=U;obtain⟨n,z,v,w,x,y,E,F⟩:=aj7 f.2 h b;obtain⟨k,p2⟩:=l d;refine⟨n+1,z,v,w,x,y,λi u=>?_,λi=>?_⟩
   .obtain _|i:=i;all_goals grind
   grind
  rw[aa c]at b⊢ a;revert b a;cases d:fi 8 [s] 5 0 with
  |none=>simp
  |some A=>
   obtain⟨G,_|b',n⟩:=A
   .simp
   simp only;rintro rfl a;simp only[cH,mL]at a;obtain⟨k,p2⟩:=l a.2;have j:=(aaL O e.1 e.2).2 (t:=5) Z Z d;rw[a.1,Ft,Ft,Bool.and_true,ga,aa Z]at j;obtain⟨m,C,q⟩:=(aaL (s:=100) Z Z j.2).1;have:m=[100]:=by
    have:xJ [100] (J3 100)=A2 [100]:=Z;grind
   subst this;refine⟨1,r,U,f.2,h,?_,k,p2⟩;rw[show J4 [] (J4 r 6)=J4 r 6 from rfl]at q;grind
section
variable {T : Bz}
theorem xK.blanks:∀(n q:Nat),(∀i,i<n->ae T (q+i)=32)->xK T st (q+n) b st'->xK T st q b st'
 |0,q,_,t=>t
 |n+1,q,h,t=>by
  have e:=h 0 O;rw[du]at e;exact xK.blank (aF e) e (xK.blanks n (q+1) (λi a=>U) U)
theorem aj8{x:Bz}{q:Nat}(t:Tq x [100,6] 0 A6 st q b)(e:blk x (x.size+1) q=x.size):(tokF (x++(⟨#[10]⟩++iF st))).2= -1:=by
 obtain⟨s,r⟩:=t.cv cv0;have y:=t.bd;obtain⟨T,h⟩:∃T,x++(⟨#[10]⟩++iF st)=T:=⟨_,rfl⟩;have ag:T.size=x.size+(1+(iF st).size):=by rw[<-h,ax,ax];rfl
 have k:∀c,c<x.size->ae T c=ae x c:=λc i=>by rw[<-h,fh,ab i]
 have d:ae T x.size=10:=by rw[<-h,fh,aa O,fI,fh,ab Z];rfl
 have p:∀c,ae T (x.size+1+c)=ae (iF st) c:=λc=>by
  rw[<-h,fh,aa O,fh,aa U];grind
 rw[h];have v:=t.to (T:=T) (by
  refine⟨λc i=>k c O,?_⟩;rcases aH q x.size with g|g
  .refine .inr ⟨k q g,λ_ _ G=>?_⟩;rcases aH (q+1) x.size with g2|g2
   .grind
   .rw[(O:q+1=x.size),d];decide
  .left;rw[(O:q=x.size),d];decide)
 have z:blk T (T.size+1) q=x.size:=tz _ q cJ y.2.1 e (λc i=>k c i) (.inl d);have u:=n10 d;have af:=rd7 u O;have ad:(rdI T x.size).a=x.size+1:=by
  unfold rdI;rw[d,aa Z,aa Z,aa Z];have:lH (T.extract x.size T.size)=7:=by unfold lH;rw[eA,du,d,aa Z,ab rfl]
  rw[this];rfl
 cases h5:(feedL st 5).2 with
 |false=>
  obtain⟨w,⟨m,j,n,o⟩,l⟩:=Fv (T:=T) st [] (x.size+1) A6 s r rfl O p;exact xK.tokF v ⟨m,j,.line O O U h5 U,o⟩ l
 |true=>
  obtain⟨f,F,H,B,C,K,E,L⟩:=aj7 s r h5;have A:x.size+1+f<=T.size:=by
   rcases rp f with g|g
   .omega
   .have:=p (f-1);rw[E (f-1) O]at this;have:=aF this;omega
  obtain⟨w,n,l⟩:=Fv (T:=T) F [100] (x.size+1+f) (aC (ae T x.size)) B C U A (λc=>U);obtain⟨m,j,n,o⟩:=xK.blanks f (x.size+1) (λc i=>U) n;exact xK.tokF v ⟨m,j,.tok O O U (by rw[z,u];rfl) Z h5 U,o⟩ l
theorem asz{X:Bz}(t:Tq X [100,6] 0 A6 st X.size b):(tokF (X++iF st)).2= -1:=by
 obtain⟨h,d⟩:=t.cv cv0;have e:∀a,a<X.size->ae (X++iF st) a=ae X a:=λa g=>by rw[fh,ab g]
 have c:∀a,ae (X++iF st) (X.size+a)=ae (iF st) a:=λa=>by
  rw[fh,aa O];grind
 have i:=t.to (T:=X++iF st) ⟨e,.inl (by have:=c 0;rw[du]at this;rw[this];exact atG d)⟩;obtain⟨k,j,f⟩:=Fv (T:=X++iF st) st [] X.size b h d rfl U c;exact xK.tokF i j f
end
def Dt(st:List Int)(x:Bz)(p:Nat)(c:Bz):Bool:=(rdI (x++c) p).ok&&(decide ((rdI (x++c) p).a=(x++c).size)&&(feedL st (rdI (x++c) p).k).2)
def pd(x:Bz)(p:Nat):List Int->List Bz
 |[]=>[]
 |k::r=>if x.size-p<(eI k).size/\(eI k).extract 0 (x.size-p)=x.extract p x.size then(eI k).extract (x.size-p) (eI k).size::pd x p r else pd x p r
def Kd(st:List Int)(x:Bz)(p:Nat):Option (Bz×List Int):=match (pu++pd x p (jH st)).find? (Dt st x p) with
 |some c=>A2 (c,(feedL st (rdI (x++c) p).k).1)
 |none=>if x.extract p x.size=⟨#[45]⟩ then A2 (⟨#[45,10]⟩,st) else B1
def pv(x:Bz):Nat->List Int->Nat->Option (Bz×List Int)
 |0,_,_=>B1
 |f+1,st,p=>if x.size<=p then A2 (⟨#[]⟩,st) else if gD x p=7 then pv x f (if(feedL st 5).2=Y then(feedL st 5).1 else st) (blk x (x.size+1) (rdI x p).a)
  else if(rdI x p).ok=Y/\(feedL st (gD x p)).2=Y then pv x f (feedL st (gD x p)).1 (blk x (x.size+1) (rdI x p).a) else Kd st x p
def Ke(x:Bz):Option Bz:=match pv x (x.size+1) [100,6] (blk x (x.size+1) 0) with
 |some (a,st)=>A2 ((if a.size=0 then⟨#[10]⟩ else a)++iF st)
 |none=>B1
section
variable {x : Bz}
theorem Tq.fin{q a:Nat}{d:Bool}(t:Tq x st q b st' a d):∃n,n<=a-q/\∀g,pv x (g+n) st (blk x (x.size+1) q)=pv x g st' (blk x (x.size+1) a):=by
 induction t with
 |nil l=>grind
 |@line st st' q a b d e c f j t h=>
  obtain⟨n,k,i⟩:=h;have:=t.bd;have:=eD x _ c (rd7 f c).1;have:=ft x (x.size+1) q e;refine⟨n+1,O,λg=>?_⟩
  simp_all [eH,pv,aa,ab]
 |@tok st st' q a b d p e c f j m o t h=>
  obtain⟨n,k,i⟩:=h;have:=t.bd;have:=eD x _ c f;have:=ft x (x.size+1) q e;refine⟨n+1,O,λg=>?_⟩;rw[<-eH,pv,aa O];grind [gD,blk,sepK]
theorem am2{q:Nat}(t:Tq x [100,6] 0 A6 st q b):Ke x=match pv x (x.size-q+1+(q-0-(t.fin.choose))) st (blk x (x.size+1) q) with|some (o,st)=>A2 ((if o.size=0 then⟨#[10]⟩ else o)++iF st)|none=>B1:=by
 have c:=t.fin.choose_spec;have a:=t.bd;grind [Ke]
theorem Kf{q:Nat}(t:Tq x [100,6] 0 A6 st q b){o:Bz}(h:∀f,pv x (f+1) st (blk x (x.size+1) q)=A2 (o,st')):Ke x=A2 ((if o.size=0 then⟨#[10]⟩ else o)++iF st'):=by
 grind [am2]
theorem aj9(l:ae x p≠10)(r:p<x.size):∀(m q:Nat),x.size-q<=m->q<=x.size->blk x (x.size+1) q=p->∀i,q<=i->i<p->ic (ae x i)=Y:=by
 intro m
 induction m with
 |zero=>omega
 |succ m s=>
  intro q o c a i j n;rw[Ai x q c]at a;by_cases h:x.size<=q
  .omega
  rw[aa h]at a;by_cases b:ic (ae x q)=Y
  .rw[ab b]at a;rcases js j with rfl|g;all_goals grind
  rw[aa b]at a;by_cases d:ae x q=45/\ae x (q+1)=45
  .rw[ab d]at a;exfalso;have k:=pj x q c;have f:=jy Ct Bh x (x.size+1) q O;rw[Ai x _ k.2]at a;split at a
   .omega
   have e:ae x (vh x q)=10:=an8 f (gI O).1;rw[e,aa Z,aa (λq=>absurd q.1 Z)]at a;grind
  grind
theorem ae8{T:Bz}:∀(n q:Nat),(∀i,i<n->ic (ae T (q+i))=Y)->q+n<=T.size->blk T (T.size+1) q=blk T (T.size+1) (q+n)
 |0,q,_,_=>rfl
 |n+1,q,h,a=>by
  have e:=h 0 O;rw[du]at e;rw[qj T q O e,ae8 n (q+1) (λi b=>U) O,(O:q+1+n=q+(n+1))]
def am3:∀k:Fin 79,ae (eI (k.val:Int)) 0=46->2<=(eI (k.val:Int)).size->ae (eI (k.val:Int)) 1=46:=by decide+kernel
theorem aka:∀k:Fin 79,ae (eI (k.val:Int)) 0=45->(eI (k.val:Int)).size=1:=by decide+kernel
theorem aqu{q:Nat}(t:Tq x [100,6] 0 A6 st q b)(w:blk x (x.size+1) q=p)(j:p<x.size)(v:ae x p≠10)
  (aL:(rdI x p).ok=Y->(rdI x p).a=x.size) (a7:¬((rdI x p).ok=Y/\(feedL st (gD x p)).2=Y)->(∃c∈pu++pd x p (jH st),Dt st x p c=Y)\/x.extract p x.size=⟨#[45]⟩):∃r,Ke x=A2 r/\(tokF (x++r)).2= -1:=by
 have k:=t.bd;have a5:=ft x (x.size+1) q k.2.1;have a9:gD x p≠7:=λg=>v (k7 g j);by_cases y:(rdI x p).ok=Y/\(feedL st (gD x p)).2=Y
 .have F:=aL y.1;have a2:gD x p=(rdI x p).k:=by grind [gD]
  have L:=wo x p y.1;have n:Tq x [100,6] 0 A6 (feedL st (gD x p)).1 x.size (aC (ae x p)):=t.trans (.tok k.2.1 O U (by grind [sepK]) O y.2 (by rw[w,F];exact .nil cJ));refine⟨_,Kf n (o:=⟨#[]⟩) (st':=(feedL st (gD x p)).1) (λi=>by simp[pv,oA,ix,ab]),?_⟩;exact aj8 n (oA _ _ cJ)
 have a4:∀i,pv x (i+1) st (blk x (x.size+1) q)=Kd st x p:=λi=>by simp_all [pv,aa]
 cases ef:(pu++pd x p (jH st)).find? (Dt st x p) with
 |some c=>
  have g:=List.find?_some ef;unfold Dt at g;simp only[cH,ga]at g;obtain⟨H,ao,ap⟩:=g;have bb:(x++c).size=x.size+c.size:=ax;have a3:1<=c.size:=by
   rcases rp c.size with z|z
   .simp_all [mq,Array.eq_empty_of_size_eq_zero,yH,absurd,gD]
   omega
  have e:∀d,d<x.size->ae (x++c) d=ae x d:=λd f=>by rw[fh,ab f]
  have L:=wo (x++c) p H;obtain⟨a1,am⟩:∃a0:Fin 79,(rdI (x++c) p).k=(a0.val:Int):=⟨⟨(rdI (x++c) p).k.toNat,O⟩,U⟩;have af:∀h:Int,ae x p=h->h=45\/h=46->ae (eI (rdI (x++c) p).k) 0=h/\(eI (rdI (x++c) p).k).size=(x++c).size-p/\ae (x++c) (p+1)=ae (eI (rdI (x++c) p).k) 1:=λh a8 K=>by
   have C:ae (x++c) p=h:=U;obtain⟨F,m⟩:=aj6 (s:=x++c) (p:=p) (by rw[C];rcases K with rfl|rfl<;>decide) (by rw[C];rcases K with rfl|rfl<;>decide) O O H;grind
  have u:jq (x++c) x b q:=by
   refine⟨λd f=>e d O,.inr ⟨e q O,λa6 ar av=>?_⟩⟩;rcases aH (q+1) x.size with l|l
   .grind
   .have an:q=p:=O;obtain⟨A,ad,B⟩:=af 46 U (.inr rfl);rw[am]at A ad B;rw[an,B,am3 a1 A O];decide
  have m:blk (x++c) ((x++c).size+1) q=p:=by
   refine tz _ q cJ k.2.1 w (λd f=>e d O) (.inr (.inr ⟨e p j,λE=>?_⟩));rw[e p j]at E;obtain⟨A,ad,B⟩:=af 45 E.1 (.inl rfl);grind [aka]
  have a2:gD (x++c) p=(rdI (x++c) p).k:=by grind [gD]
  have ba:gD (x++c) p≠7:=λg=>v (by grind [k7]);have n:Tq (x++c) [100,6] 0 A6 (feedL st (rdI (x++c) p).k).1 (x++c).size (aC (ae (x++c) p)):=(t.to u).trans (.tok O O U (by grind [sepK]) L.1 ap (by rw[m,ao];exact .nil cJ));refine⟨_,Kf t (o:=c) (st':=(feedL st (rdI (x++c) p).k).1) (λi=>by grind [Kd]),?_⟩;rw[aa O,<-dJ];exact asz n
 |none=>
  have G:x.extract p x.size=⟨#[45]⟩:=by
   grind
  have ag:=ey x p x.size cJ;rw[G]at ag;have ag:x.size=p+1:=by have:(⟨#[45]⟩:Bz).size=1:=rfl;omega
  have ak:ae x p=45:=by
   have:=eA x p 0;rw[G,du]at this;rw[<-this];rfl
  have bc:(x++⟨#[45]⟩).size=x.size+1:=ax;have e:∀d,d<x.size->ae (x++⟨#[45]⟩) d=ae x d:=λd f=>by rw[fh,ab f]
  have al:ae (x++⟨#[45]⟩) x.size=45:=by rw[fh,aa O,fI];rfl
  have u:jq (x++⟨#[45]⟩) x b q:=by
   refine⟨λd f=>e d O,.inr ⟨e q O,λ_ ar av=>?_⟩⟩;grind
  have m:blk (x++⟨#[45]⟩) ((x++⟨#[45]⟩).size+1) q=(x++⟨#[45]⟩).size:=by
   have on:=aj9 v j _ q cJ k.2.1 w;rw[ae8 (p-q) q (λd f=>U) O,(O:q+(p-q)=p)];rw[Ep _ p U U];have:vh (x++⟨#[45]⟩) p=(x++⟨#[45]⟩).size:=by
    unfold vh;rw[oB Ct _ 2 _ p (λd f=>by
     rcases(O:d=0\/d=1) with rfl|rfl
     .rw[du,e p j,ak];decide
     .rw[(O:p+1=x.size),al];decide) (by rw[di O];decide) O]
    omega
   rw[this,oA _ _ cJ]
  refine⟨_,Kf t (o:=⟨#[45,10]⟩) (st':=st) (λi=>by grind [Kd]),?_⟩;have:=aj8 (t.to u) m;rw[aa Z]
  rwa [show x++(⟨#[45,10]⟩++iF st)=x++⟨#[45]⟩++(⟨#[10]⟩++iF st) from by rw[show(⟨#[45,10]⟩:Bz)=⟨#[45]⟩++⟨#[10]⟩ from rfl];simp[dJ]]
end
open Go.RowKit Go.Maps Go.WideMaps
def am4{d:B2}{o:Obj}{base e size f b u n2:Nat}{v c:B6}{xs w:List B6}(h:W.ownsRow base e size v n xs)(p:W.ownsRow f b u c n2 w)(l:(W.alloc o).grownBy d c.ownBlock)(r:e≠b):d.ownsRow base e size v n xs:=by
 obtain⟨s,a⟩:=h;refine⟨s,?_⟩;rcases a with a|⟨j,g,i,q,m,k,t⟩
 .exact .inl a
 .exact .inr ⟨j,g,i,q,m,EL p l k r,t⟩
def Kp.app{mb:Nat}{d:B2}{o:Obj}{r:Option Nat}(h:Kp mb w W)(b:(W.alloc o).grownBy d r)(i:∀k,r=A2 k->w.heap.size<=k):Kp mb w d:=by
 have a:=h.trans (Kp.of_below (de W o));exact⟨b.os.trans a.os,b.tape.trans a.tape,b.output.trans a.output,aK a.size b.size,λk c g f=>(b.block k (gF c a.size) (λe=>by have:=i k e.symm;omega)).trans (a.block k c g f)⟩
def abc(x:Bz)(p:Nat):∀a b:List Int,pd x p (a++b)=pd x p a++pd x p b
 |[],b=>rfl
 |k::a,b=>by
  rw[dt,pd,pd,abc x p a b];split<;>rfl
def akb(h:1<=k/\k<=78):(eI k).size<=11:=by
 have:=(apw ⟨k.toNat,O⟩).1;simpa only[(O:((k.toNat:Nat):Int)=k)] using this
def ac8(x:Bz)(p:Nat):∀(L:List Int),(∀k∈L,1<=k/\k<=78)->∀c∈pd x p L,c.size<=11
 |[],_,c,h=>by cases h
 |k::L,a,c,h=>by
  rw[pd]at h;have b:=ac8 x p L λe d=>a e (dC _ d);split at h
  .rcases List.mem_cons.1 h with rfl|h
   .rw[im];have:=akb (a k bH);omega
   .exact b c h
  .exact b c h
structure Rs1 (w:B2) (base mb:Nat) (C:List (Int×Int)) (x:Bz) (p:Nat) (ks:List Int) (vk:B6) (j:Nat) (L:List Bz) (vm:B6) (W:B2):Prop where
 m:sj W base mb C
 kp:Kp mb w W
 bl:B0 base w W
 ro:W.ownsRow w.heap.size 9 1 vm (Q L) (L.map B5)
 ri:W.ownsRow w.heap.size 3 1 vk (Q ks) (ks.map (Value.int .i64))
 e:L=pu++pd x p (ks.take j)
structure Rs2 (w:B2) (base mb:Nat) (C:List (Int×Int)) (st:List Int) (top:Int) (x:Bz) (p:Nat) (L:List Bz) (vm:B6) (i:Nat) (D:List (Int×Int)) (W:B2):Prop where
 m:sj W base mb (C++D)
 kp:Kp mb w W
 bl:B0 base w W
 ro:W.ownsRow w.heap.size 9 1 vm (Q L) (L.map B5)
 d:Q D<=20*i
 f:L.find? (Dt st x p)=(L.drop i).find? (Dt st x p)
def asA(w:B2)(base mb:Nat)(C:List (Int×Int))(st:List Int)(f:Int)(R:Option (Bz×List Int))(e:Ending)(a:B2):Prop:=
 ∃(D:List (Int×Int)) (b:Int) (c:Bz),(match R with|some (d,st')=>c=d/\kH (C++D) b st'/\e= B4 (.tuple #[B3 c,A0 A3 b,D4 Y])|none=>e= B4 (.tuple #[B3 ⟨#[]⟩,A0 A3 f,D4 A6]))/\Q D<=2000/\sj a base mb (C++D)/\Kp mb w a/\B0 base w a
def Rs1.below{base mb:Nat}{C:List (Int×Int)}{x:Bz}{ks:List Int}{vk:B6}{L:List Bz}{c:B6}{b:B2}(h:Rs1 w base mb C x p ks vk j L c W)(a:B0 W.heap.size W b)(d:base<=w.heap.size):Rs1 w base mb C x p ks vk j L c b:=
 ⟨h.m.below a,h.kp.trans (Kp.of_below a),h.bl.trans (a.mono (aK d h.kp.size)),bz h.ro a,bz h.ri a,h.e⟩
def ac9(a b:Bz):(a.toList==b.toList)=decide (a=b):=by
 rw[zw,mL,ga,fL,fL];exact⟨λc=>mq (Array.toList_inj.1 c),λc=>by rw[c]⟩
theorem akc(w:B2)(base mb:Nat)(C:List (Int×Int))(st:List Int)(q:Int)(x:Bz)(p:Nat)(h:sj w base mb C)(cg:kH C q st)(ce:yu st)(el:0<Q C)(f4:Q C<=40000000)(f8:p<x.size)(f5:x.size<=65536):
  Ce A9 26 #[.pointer (A2 ⟨mb,0,B1⟩),A0 A3 q,B3 x,A0 A3 p] w (asA w base mb C st q (Kd st x p)):=by
 have K:base<=w.heap.size:=by obtain⟨gb,b6,_⟩:=h.ex;have:=ah b6;have:=h.lo;omega
 have⟨fk,bb⟩:=aw (Kd st x p);rw[bb];have ag:∀o∈jH st,1<=o/\o<=78:=λo h=>by have:=(xB st o 78).1 h;exact⟨this.1,O⟩
 have dc:Q (jH st)<=78:=tq st 78;have bw:=λd0=>Je (w.alloc d0) base mb C st q (h.alloc d0) cg ce el O;have d3:(w.alloc (A5 (pu.map B5).toArray 9)).ownsRow w.heap.size 9 1 (Ax (A2 ⟨w.heap.size,0,B1⟩) 6 6) 6 (pu.map B5):=by
  have:=qL (base:=w.heap.size) (e:=9) (size:=1) w (pu.map B5).toArray 6 cJ py (by simp[pu]);simpa using this
 unfold Kd at bb;have⟨v,dd⟩:=aw (jH st);rw[dd]at ag dc bw bb;have cu:=aj bb;have ap:=Dy cg ce ag d3;have d9:=aj h;have⟨A,b9⟩:=aw (Q v);rw[b9]at bw dc;have a4:=aj b9;clear bb cg ce ag d3 dd b9 h;go_in;go_wp2_with fail;refine(bw _).mono ?_;clear bw;rintro e w1 ⟨c3,bn,rfl,d1,dn,a0,bk⟩;have bD:=de w (A5 (pu.map B5).toArray 9);have cA:C2 (Rs1 w base mb C x p v (Ax c3 A bn) 0 pu (Ax (A2 ⟨w.heap.size,0,B1⟩) 6 6) w1):=by
  have⟨fd,bv,_⟩:=(d9.out.alloc (A5 (pu.map B5).toArray 9)).ex;exact⟨dn,(Kp.of_below bD).trans a0,(bD.mono K).trans bk,a0.row bv ap.2.2.2 Z Z,by rw[a4.out];exact nK d1 (by rw[fp];omega),by simp[pd]⟩
 clear dn a0 bk d1 bD;go_wp2;go_loopw [11,26] (λff am wr=>∃(l g:Nat) (d:List Bz) (cI:Option Addr) (a:Nat),ff= Ax cI g a/\am= A0 A3 l/\l<=A/\Q d=g/\g<=6+l/\C2 (Rs1 w base mb C x p v (Ax c3 A bn) l d (Ax cI g a) wr)) (λ_ am _=>A-(B7 am).toNat)
 case atStart=>exact⟨0,6,pu,_,_,rfl,rfl,nH,rfl,O,cA⟩
 case round=>
  clear cA;obtain⟨l,g,d,a8,u,rfl,rfl,f2,bt,f6,b⟩:=hrel;have F:=aj bt;clear bt;by_cases e0:l<A
  .have eF:(l:Int)<(A:Int):=O;have f3:(0:Int)<=(l:Int):=O;obtain⟨o,H⟩:=dh a4.out e0;have cd:=ap.2.2.1 o (da H);have ri:=b.ri;rw[a4.out]at ri;obtain⟨c0,rfl,es⟩:=(sL (by rw[a4.out];exact ri)).get H;have cm:=λw=>uf o w;have em:=akb cd;have cs:=fD H cd;have⟨j,b4⟩:=aw (eI o);rw[b4]at cm em;have ea:=aj b4;clear H cd b4 ri;have cB:=b;clear b;go_wp2_with fail;refine dm (cm _) λE s=>?_;have r:=aj (cB.out.below s K);clear cm es s cB;obtain⟨k,bc⟩:∃k:Nat,x.size-p=k:=⟨_,rfl⟩;have fB:(x.size:Int)-(p:Int)=(k:Int):=O;have fF:IntKind.i64.wrap ((x.size:Int)-(p:Int))=(k:Int):=by rw[bJ];omega
   have fA:(0:Int)<=(k:Int):=O;have e2:(0:Int)<=(p:Int):=O;have e3:(p:Int)<=(x.size:Int):=O;have c9:pd x p (v.take (l+1))=pd x p (v.take l)++pd x p [o]:=by
    rw[il,cs.out.1,abc];rfl
   have c7:pd x p [o]=if k<j.size/\j.extract 0 k=x.extract p x.size then [j.extract k j.size] else []:=by
    rw[pd,pd,ea.out,bc]
   have a3:=fD c9 c7;have fg:=aj bc;clear c9 c7 bc;have aL:∀{ad:B2},Rs1 w base mb C x p v (Ax (A2 c0) A bn) l d (Ax a8 g u) ad->¬(k<j.size/\j.extract 0 k=x.extract p x.size)->C2 (Rs1 w base mb C x p v (Ax (A2 c0) A bn) (l+1) d (Ax a8 g u) ad):=λ{ad} t cn=>by
    refine⟨t.m,t.kp,t.bl,t.ro,t.ri,?_⟩;rw[a3.out.1,a3.out.2,aa cn,dD];exact t.e
   by_cases c5:k<j.size
   .have ef:(k:Int)<(j.size:Int):=O;have fl:(k:Int)<=(j.size:Int):=O;obtain⟨cq,ei⟩:=aw (j.extract 0 k);obtain⟨an,b7⟩:=aw (x.extract p x.size);have ba:=ac9 cq an;rw[ei,b7]at aL a3;by_cases a9:cq=an
    .rw[dB a9]at ba;have e4:j.extract k j.size=j.extract k j.size:=rfl;have cr:C2 (pu++pd x p (v.take (l+1))=d++[j.extract k j.size]):=by
      show _=_;rw[a3.out.1,a3.out.2,ab ⟨c5,a9⟩,<-eB,<-r.out.e]
     obtain⟨af,bp⟩:=aw (j.extract k j.size);rw[bp]at cr;clear aL a9 e4;go_wp2_with fail;go_quiet (fail)
     have c:=aj (r.out.below (wt (ai _ _) nq) K);generalize E.drewN nq=a1 at c⊢;have f9:=c.out.kp.size;have cp:=c.out.ro;rw[F.out]at cp;have a6:=aj cp;clear r cp;go_wp2_with (at_builtin;refine Ez rfl _ _ rfl w.heap.size a8 g u d rfl F.out (bz a6.out (de a1 _)) (by rw[fp];omega) a1.heap.size af rfl (ay a1 _) O ?_;intro fn fm gd e5 bs fu);exact⟨⟨l+1,g+1,d++[af],_,_,rfl,by go_num,O,by rw[aB,F.out];rfl,O,⟨c.m.app a6.out bs Z Z,c.kp.app bs λo H=>(a6.out.lt o H).1,(c.bl.alloc O _).grown bs byT (λo H=>aK K (a6.out.lt o H).1),by rw[aB,F.out];exact e5,am4 c.ri a6.out bs Z,cr.out.symm⟩⟩,by simp[B7];omega⟩
    .rw[aG a9]at ba;have y:=aL r.out (λb5=>a9 b5.2);clear aL r;go_wp2_with fail;go_quiet (fail)
     go_wp2;exact⟨⟨l+1,g,d,_,_,rfl,by go_num,O,F.out,O,aj (y.out.below (wt (ai _ _) nq) K)⟩,by simp[B7];omega⟩
   .have ef:¬(k:Int)<(j.size:Int):=O;have y:=aL r.out (λb5=>c5 b5.1);clear aL r;go_wp2_with fail;go_quiet (fail)
    go_wp2;exact⟨⟨l+1,g,d,_,_,rfl,by go_num,O,F.out,O,aj (y.out.below (wt (ai _ _) nq) K)⟩,by simp[B7];omega⟩
  .obtain rfl:l=A:=O;have eF:¬(l:Int)<(l:Int):=O;have bE:d=pu++pd x p v:=by have:=b.out.e;rwa [dH (by rw[a4.out];exact ix _)]at this
   have c6:∀a∈d,a.size<=11:=λa al=>by
    rw[bE]at al;rcases List.mem_append.1 al with h|h
    .have:a.size<=3:=by
      simp only[pu,gG,iC,iD]at h;rcases h with rfl|rfl|rfl|rfl|rfl|rfl<;>decide
     omega
    .exact ac8 x p v ap.2.2.1 a h
   have bA:=cu.out;rw[<-bE]at bA;have cw:=aj bA;have eb:=aj c6;have cF:C2 (Rs2 w base mb C st q x p d (Ax a8 g u) 0 [] wr):=⟨by rw[dD];exact b.m,b.kp,b.bl,b.ro,nH,rfl⟩;clear bA c6 bE b cu;go_wp2;go_loopw [63] (λam wr=>∃(i:Nat) (D:List (Int×Int)),am= A0 A3 i/\i<=g/\C2 (Rs2 w base mb C st q x p d (Ax a8 g u) i D wr)) (λam _=>g-(B7 am).toNat)
   case atStart=>exact⟨0,[],rfl,nH,cF⟩
   case round=>
    clear cF;obtain⟨i,D,rfl,f0,b⟩:=hrel;by_cases ez:i<g
    .have ew:(i:Int)<(g:Int):=O;have f1:(0:Int)<=(i:Int):=O;obtain⟨a,al⟩:=dh F.out ez;have fz:=eb.out a (da al);obtain⟨a7,rfl,ep⟩:=(AI b.ro).get al;have c8:(d.drop i).find? (Dt st x p)=if Dt st x p a=Y then A2 a else(d.drop (i+1)).find? (Dt st x p):=by
      obtain⟨b6,eh⟩:=List.getElem?_eq_some_iff.1 al;rw[ja b6,eh,List.find?_cons];split<;>simp_all
     have bx:=aj c8;have d7:(x++a).size=x.size+a.size:=ax;have cl:=λw=>yG (x++a) O p O w;have b8:=Bj (x++a) p;have⟨G,ag⟩:=aw (gD (x++a) p);rw[ag]at cl b8;have cs:=aj ag;have f7:¬9223372036854775807<x.size+a.size:=O;have⟨af,bp⟩:=aw (x.size+a.size);have fr:IntKind.i64.wrap ((x.size:Int)+(a.size:Int))=(af:Int):=by rw[bJ];omega
     have cx:=fD bp d7;clear c8 al ag bp d7;go_wp2_with fail;refine(cl _).mono ?_;rintro e E ⟨L,bf,bh,ee,rfl,df,s⟩;clear cl;have a5:=aj df;have r:C2 (Rs2 w base mb C st q x p d (Ax (A2 a7) g u) i D E):=⟨b.m.below s,b.kp.trans (Kp.of_below s),b.bl.trans (s.mono (aK K b.kp.size)),bz b.ro s,b.d,b.f⟩;clear df s b ep;have⟨bk,en⟩:=aw E.heap.size;have ec:dL bk (E.alloc (A5 #[A0 A3 G,A0 A3 p,A0 A3 L,A0 A3 0,A0 A3 bf,B3 bh] 48)) G p L 0 bf bh:=by rw[<-en];exact ay E _
     have c:C2 (Rs2 w base mb C st q x p d (Ax (A2 a7) g u) i D (E.alloc (A5 #[A0 A3 G,A0 A3 p,A0 A3 L,A0 A3 0,A0 A3 bf,B3 bh] 48))):=by
      have s:=de E (A5 #[A0 A3 G,A0 A3 p,A0 A3 L,A0 A3 0,A0 A3 bf,B3 bh] 48);have b:=r.out;exact⟨b.m.below s,b.kp.trans (Kp.of_below s),b.bl.trans (s.mono (aK K b.kp.size)),bz b.ro s,b.d,b.f⟩
     have⟨e6,e7,e8,e9,fa,fb,fc⟩:=aE ec;have next:∀{ad:B2}{bj:List (Int×Int)},Rs2 w base mb C st q x p d (Ax (A2 a7) g u) i bj ad->Q bj<=20*(i+1)->Dt st x p a=A6->C2 (Rs2 w base mb C st q x p d (Ax (A2 a7) g u) (i+1) bj ad):=λ{ad bj} t bc cn=>⟨t.m,t.kp,t.bl,t.ro,bc,by rw[t.f,bx.out,aa (by rw[cn];simp)]⟩
     cases hok:(rdI (x++a) p).ok with
     |false=>
      have cb:=a5.out.no hok;have fv:(0:Int)<=ee:=O;have bg:Dt st x p a=A6:=by unfold Dt;rw[hok];rfl
      have y:=next c.out (by have:=c.out.d;omega) bg
      clear next a5 cb hok r c bg
      go_wp2;exact⟨⟨i+1,D,by go_num,O,y⟩,by simp[B7];omega⟩
     |true=>
      obtain⟨cb,cc,dg, -, -, -⟩:=a5.out.yes hok;have a0:=wo (x++a) p hok;have fq:(G==0)=A6:=beq_eq_false_iff_ne.2 O;subst cb;by_cases br:(rdI (x++a) p).a=(x++a).size
      .have dk:L=(af:Int):=by have:=cx.out;omega
       have bt:(L==(af:Int))=Y:=by rw[dk];simp
       have bd:=qA (E.alloc (A5 #[A0 A3 G,A0 A3 p,A0 A3 L,A0 A3 0,A0 A3 bf,B3 bh] 48)) base mb (C++D) st q G c.out.m (ap.out.1.app D) ap.out.2.1 b8.1 b8.2 (by rw[aB];have:=c.out.d;omega);have⟨cy,ca⟩:=aw (feedL st G);rw[ca]at bd;unfold oK at bd;have⟨d2,cf⟩:=aw cy.2;rw[cf]at bd;have z:=jB ca cf cc;have ct:=fD hok br;subst dk;clear ca cf cc hok br a5 a0 dg;go_wp2_with fail;refine bd.mono ?_;clear bd;rintro e a1 ⟨d6,ao,rfl,dq,d4,fo,ch,c4⟩;have eg:=c.out.d;have⟨fd,bv,_⟩:=c.out.m.ex;have ds:sj a1 base mb (C++(D++ao)):=by rw[<-eB];exact dq
       have d5:kH (C++(D++ao)) d6 cy.1:=by rw[<-eB];exact d4
       have B:=It ds (c.out.kp.trans ch) (c.out.bl.trans c4) (ch.row bv c.out.ro Z Z) d5;have et:Q (D++ao)<=20*(i+1):=by rw[aB];omega
       have bo:Dt st x p a=d2:=by
        unfold Dt;rw[ct.out.1,dB ct.out.2,<-z.out.2.2,z.out.1,z.out.2.1];simp
       clear dq d4 ch c4 ds d5 bv e6 e7 e8 e9 fa fb fc;cases d2 with
       |false=>
        have y:C2 (Rs2 w base mb C st q x p d (Ax (A2 a7) g u) (i+1) (D++ao) a1):=⟨B.out.1,B.out.2.1,B.out.2.2.1,B.out.2.2.2.1,et,by rw[c.out.f,bx.out,aa (by rw[bo];simp)]⟩;clear next r c bo B
        go_wp2;exact⟨⟨i+1,D++ao,by go_num,O,y⟩,by simp[B7];omega⟩
       |true=>
        have ar:d.find? (Dt st x p)=A2 a:=by rw[c.out.f,bx.out,ab bo]
        have n:=cw.out;rw[ar]at n;simp only at n;have d8:=aj n;clear next r c bo ar n
        go_wp2;go_ret3
        refine⟨D++ao,d6,a,?_,O,B.out.1,B.out.2.1,B.out.2.2.1⟩;rw[<-d8.out];exact⟨rfl,by rw[<-z.out.2.2,z.out.1];exact B.out.2.2.2.2,rfl⟩
      .have bt:(L==(af:Int))=A6:=beq_eq_false_iff_ne.2 (by have:=cx.out;omega);have bg:Dt st x p a=A6:=by unfold Dt;rw[hok,aG br];rfl
       have y:=next c.out (by have:=c.out.d;omega) bg
       clear next a5 hok r c bg br dg cc a0
       go_wp2;exact⟨⟨i+1,D,by go_num,O,y⟩,by simp[B7];omega⟩
    .obtain rfl:i=g:=O;have ew:¬(i:Int)<(i:Int):=O;have ar:d.find? (Dt st x p)=B1:=by rw[b.out.f,kD (by rw[F.out];exact ix _)];rfl
     have n:=cw.out;rw[ar]at n;simp only at n;have e2:(0:Int)<=(p:Int):=O;have e3:(p:Int)<=(x.size:Int):=O;obtain⟨an,b7⟩:=aw (x.extract p x.size);have ba:(an.toList==[45])=decide (an=⟨#[45]⟩):=by rw[<-ac9,show(⟨#[45]⟩:Bz).toList=[45] by rw[fL]]
     rw[b7]at n;have eg:=b.out.d;by_cases a:an=⟨#[45]⟩
     .rw[dB a]at ba;rw[ab a]at n;have z:=aj n;clear n a ar;go_wp2;go_ret3
      refine⟨D,q,⟨#[45,10]⟩,?_,O,b.m,b.kp,b.bl⟩;rw[<-z.out];exact⟨rfl,ap.out.1.app D,rfl⟩
     .rw[aG a]at ba;rw[aa a]at n;have z:=aj n;clear n a ar;go_wp2;go_ret3
      refine⟨D,q,⟨#[]⟩,?_,O,b.m,b.kp,b.bl⟩;rw[<-z.out];exact rfl
def am5:∀k:Fin 79,1<=(eI (k.val:Int)).size->(rdI (eI (k.val:Int)) 0).ok=Y/\(rdI (eI (k.val:Int)) 0).a=(eI (k.val:Int)).size/\(rdI (eI (k.val:Int)) 0).k=(k.val:Int):=by decide+kernel
def asB:∀k:Fin 79,10<=k.val->k.val<=31->∀i:Fin 7,ae (eI (k.val:Int)) i.val≠48/\(eI (k.val:Int)).size<=6:=by decide+kernel
section
variable {s x : Bz}
theorem akd(n:1<=k/\k<=78){X:Bz}(b:1<=(eI k).size)(l:X.size=p+(eI k).size)(c:∀i,i<(eI k).size->ae X (p+i)=ae (eI k) i):(rdI X p).ok=Y/\(rdI X p).a=X.size/\(rdI X p).k=k:=by
 obtain⟨d,h⟩:∃j:Fin 79,k=(j.val:Int):=⟨⟨k.toNat,O⟩,U⟩;rw[h]at b l c⊢;obtain⟨f,g,m⟩:=am5 d b;have e:Ag X p (eI (d.val:Int)):=⟨c,O,by rw[di O];exact bH⟩;have o:=e.rd O f g;grind
theorem aqv{z:Nat}(bs:z<=s.size)(E:tokF s=([],(z:Int))):∃r,Ke (s.extract 0 z)=A2 r/\(tokF (s.extract 0 z++r)).2= -1:=by
 obtain⟨e,k,b6,b1,a8,ak⟩:=E6 s _ [100,6] 0 A6 cJ nH;have iv:=a8.iv iv0;have an:=a8.bd;have b2:=Aj a8 ak;have j:(b1= -1/\z=s.size)\/b1=z:=by
  unfold tokF at E;rw[b2]at E;simp only at E;split at E
  .grind
  .split at E
   .grind
   .have:=congrArg Prod.snd E;simp only at this;refine .inl ⟨?_,O⟩;cases ak<;>omega
 have cu:(s.extract 0 z).size=z:=byS;have l:∀i,i<z->ae (s.extract 0 z) i=ae s i:=λi f=>by simp_all [eu,ny]
 have al:∀i,z<=i->ae (s.extract 0 z) i= -1:=λi f=>di O;have bl:s.extract 0 z++⟨#[]⟩=s.extract 0 z:=Dm _;obtain⟨b,bc⟩:∃b,s.extract 0 z=b:=⟨_,rfl⟩;rw[bc]at cu l al bl⊢;have bA:=ft s (s.size+1) k an.2.1;have bE:blk s (s.size+1) k<=z->Tq b [100,6] 0 A6 e k b6:=λa1=>a8.to (by
  refine⟨λi f=>l i O,?_⟩;rcases aH k z with g|g
  .refine .inr ⟨l k g,λ_ _ v=>?_⟩;rcases aH (k+1) z with g2|g2
   .grind
   .rw[al _ g2];decide
  .left;rw[al k g];decide)
 have b5:Unit->blk s (s.size+1) k=z->∃r,Ke b=A2 r/\(tokF (b++r)).2= -1:=λ_ q=>by
  have ag:=bE O;have A:blk b (b.size+1) k=b.size:=by
   rw[tz (T:=b) _ k cJ an.2.1 q (λi f=>l i f) (.inr (.inl (al z cJ)))];omega
  exact⟨_,Kf ag (o:=⟨#[]⟩) (st':=e) (λC=>by rw[pv,A,ab cJ]),aj8 ag A⟩
 have ba:∀{p:Nat},blk s (s.size+1) k=p->p<z->ae s p≠10->((rdI b p).ok=Y->(rdI b p).a=b.size)->(¬((rdI b p).ok=Y/\(feedL e (gD b p)).2=Y)->(∃n∈pu++pd b p (jH e),Dt e b p n=Y)\/b.extract p b.size=⟨#[45]⟩)->∃r,Ke b=A2 r/\(tokF (b++r)).2= -1:=λ{p} x y ar cb bj=>by
  have a1:blk s (s.size+1) k<=z:=O;have ch:p<b.size:=O;refine aqu (bE a1) ?_ ch U cb bj;refine tz (T:=b) _ k cJ an.2.1 x (λi f=>l i O) (.inr (.inr ⟨l p y,λv=>?_⟩));have nd:=acs _ k cJ an.2.1 (by omega:blk s (s.size+1) k<s.size);grind
 have a5:∀{c:Int},c∈jH e->1<=c/\c<=78/\(feedL e c).2=Y:=λ{c} h=>by
  have:=(xB e c 78).1 h;omega
 have c8:=iv.no.two;cases ak with
 |end_ cA=>simp_all
 |wrong L ad w=>
  unfold wrongF at j;obtain⟨p,x⟩:∃p,blk s (s.size+1) k=p:=⟨_,rfl⟩;rw[x]at L ad w j bA b5;obtain⟨d,ap⟩:∃d,Hi s p (jH e) (s.size+1) 0=d:=⟨_,rfl⟩;rw[ap]at j;have j:p+d=z:=O;rcases rp d with n0|n0
  .simp_all
  obtain⟨_,bn,bo,b3⟩:=Fq (s:=s) (p:=p) (K:=jH e) (s.size+1) 0 O;rw[ap]at bn bo b3;have u:=(bn d O cJ).2;have b7:=l p O;have c4:=ey s p (p+d) O;have F:∀i,i<d->ae (s.extract p (p+d)) i=ae s (p+i):=λi f=>eu s p _ i O O;have ar:ae s p≠10:=λg=>ad (n10 g);have cy:∀{c:Int},0<c->gD s p=c->(feedL e c).2=A6:=λ{c} cI q=>by
   simp_all [pc,ab]
  have nd:¬aC (ae s p)=Y:=λv=>by
   have:∃c∈jH e,c=2\/c=3:=by
    unfold jI at u;rw[aa (λg=>by rw[F 0 n0,du]at g;rw[g.2]at v;exact absurd v Z)]at u;obtain⟨c,t,h⟩:=(Ak _ _).1 u;rw[F 0 n0,du]at h;refine⟨c,t,?_⟩;rcases h with h|h
    .simp_all [bgC,be,aJ,ae,aC,ga,absurd];omega
    .exfalso;obtain⟨bt,av⟩:=xA.1 h;have:=av 0 O;rw[F 0 n0,du]at this;obtain⟨aL,bb⟩:∃C:Fin 79,c=(C.val:Int):=⟨⟨c.toNat,U⟩,U⟩;rw[this]at v;by_cases B:c=7
     .rw[B]at v;exact absurd v (by decide+kernel)
     grind [ut,fx2]
   obtain⟨c,t,q⟩:=this;have m:=a5 t;rcases su v with r|r;all_goals grind
  have nq:ae s p≠34:=λg=>by
   have c5:gD s p=4:=by
    unfold gD;split
    .rename_i o;unfold rdI at o⊢;rw[g,aa Z,aa Z,ab rfl]at o⊢;grind
    .unfold od;grind
   unfold jI at u;rw[aa (λdd=>U)]at u;obtain⟨c,t,h⟩:=(Ak _ _).1 u;rw[F 0 n0,du]at h;have m:=a5 t;rcases h with h|h
   .unfold bgC at h;have h:=be h;rw[g]at h;rcases h with h|h|h
    .exact absurd h.2 Z
    all_goals grind
   .obtain⟨bt,av⟩:=xA.1 h;have:=av 0 O;rw[F 0 n0,du,g]at this;obtain⟨aL,bb⟩:∃C:Fin 79,c=(C.val:Int):=⟨⟨c.toNat,O⟩,U⟩;by_cases B:c=7
    .rw[B]at this;exact absurd this (by decide+kernel)
    grind [ut,fx2]
  have br:(d=1/\ae s p=45)\/(1∈jH e/\aJ (ae s p)=Y)\/∃c∈jH e,d<=(eI c).size/\∀i,i<d->ae s (p+i)=ae (eI c) i:=by
   unfold jI at u;split at u
   .grind
   obtain⟨c,t,h⟩:=(Ak _ _).1 u;rw[F 0 n0,du]at h;rcases h with h|h
   .unfold bgC at h;grind
   .obtain⟨bt,av⟩:=xA.1 h;grind
  have c9:1∈jH e->aJ (ae s p)=Y->∀i,i<d->aJ (ae s (p+i))=Y\/aC (ae s (p+i))=Y:=λ_ bx i f=>by
   obtain _|i:=i
   .grind
   .have ak:=bo (i+1) O f;unfold my lk at ak;grind
  have ck:p<z:=O;refine ba x ck ar (λa6=>?_) (λa7=>?_)
  .have a1:=(eD b p O a6).2.1;rcases br with⟨A,_⟩|⟨cl,bx⟩|⟨c,t,bk,bv⟩
   .have:=(eD b p O a6).1;omega
   .have o:(rdI b p).a=mh b (b.size+1) p:=by unfold rdI;grind
    rw[o,oC,oB _ b d _ p (λi f=>U) (by rw[al _ O];decide) O];omega
   .have m:=a5 t;have B:c≠7:=λq=>by
     have:=bv 0 n0;rw[q,du]at this;have:(eI 7).size=0:=by decide+kernel
     grind
    have:=aew (s:=b) (p:=p) O ⟨m.1,m.2.1⟩ B (m:=d) n0 (by rw[<-ut c B];exact bk) (λi f=>by rw[l _ O,<-ut c B];grind);omega
  .rcases br with⟨A,ao⟩|⟨cl,bx⟩|⟨c,t,bk,bv⟩
   .right;refine yH (by rw[ey b p _ cJ];show _=1;omega) λi f=>?_;rw[ey b p _ cJ]at f;obtain rfl:i=0:=O;rw[eA,du,b7,ao];rfl
   .left;refine⟨⟨#[48]⟩,by simp[pu],?_⟩;have a9:(b++⟨#[48]⟩).size=b.size+1:=ax;have c2:∀i,i<b.size->ae (b++⟨#[48]⟩) i=ae s i:=λi f=>by rw[fh,ab f,l _ O]
    have am:ae (b++⟨#[48]⟩) b.size=48:=by rw[fh,aa O,fI];rfl
    have cm:mh (b++⟨#[48]⟩) ((b++⟨#[48]⟩).size+1) p=(b++⟨#[48]⟩).size:=by
     rw[oC,oB _ _ (d+1) _ p (λi f=>by
      rcases aH i d with g|g
      .grind
      .rw[(O:p+i=b.size),am];decide) (by rw[di O];decide) O]
     omega
    have bk:(vK (b++⟨#[48]⟩) p).1=1:=by
     rcases am0 (b++⟨#[48]⟩) p with q|⟨A,ao,H⟩
     .exact q
     .exfalso;rw[cm]at H;have dc:=ey (b++⟨#[48]⟩) p _ cJ;obtain⟨aL,bb⟩:∃C:Fin 79,(vK (b++⟨#[48]⟩) p).1=(C.val:Int):=⟨⟨(vK (b++⟨#[48]⟩) p).1.toNat,O⟩,U⟩;rw[bb]at H A ao;have cp:=(asB aL O O 0).2;rw[H]at cp;have:=(asB aL O O ⟨d,O⟩).1;rw[H,eA,(O:p+d=b.size),am]at this;omega
    have o:rdI (b++⟨#[48]⟩) p=⟨Y,(b++⟨#[48]⟩).size,0,1,0,(vK (b++⟨#[48]⟩) p).2⟩:=by
     unfold rdI;grind
    unfold Dt;grind
   .left;have m:=a5 t;have c1:d<(eI c).size:=by
     rcases aH d (eI c).size with g|g
     .exact g
     .exfalso;obtain⟨ag,cq,cr⟩:=akd (X:=b) (p:=p) ⟨m.1,m.2.1⟩ O O (λi f=>U);refine a7 ⟨ag,?_⟩;unfold gD;grind
    have cx:=ey (eI c) d (eI c).size cJ;have b9:(eI c).extract (b.size-p) (eI c).size∈pd b p (jH e):=by
     have cz:∀G:List Int,c∈G->(eI c).extract (b.size-p) (eI c).size∈pd b p G:=λG=>by
      induction G with
      |nil=>grind
      |cons v G cF=>
       intro h;rw[pd];rcases List.mem_cons.1 h with rfl|h
       .have A:=ey (eI c) 0 (b.size-p) O;have ao:=ey b p b.size cJ;have H:(eI c).extract 0 (b.size-p)=b.extract p b.size:=yH O λi f=>by
         rw[eu (eI c) 0 _ i O O,eA,ny,l _ O];grind
        grind
       grind
     grind
    refine⟨_,List.mem_append.2 (.inr b9),?_⟩;have ap:b.size-p=d:=O;rw[ap];have a9:(b++(eI c).extract d (eI c).size).size=p+(eI c).size:=U;obtain⟨ag,cq,cr⟩:=akd (X:=b++(eI c).extract d (eI c).size) (p:=p) ⟨m.1,m.2.1⟩ O a9 (λi f=>by
     rw[fh];split
     .grind
     .rw[eA];grind)
    unfold Dt;grind
 |bad L ad w=>
  obtain⟨p,x⟩:∃p,blk s (s.size+1) k=p:=⟨_,rfl⟩;rw[x]at L ad w j bA;have j:(rdI s p).a=z:=O;have bf:0<gD s p/\(feedL e (gD s p)).2=Y:=by
   unfold pc at ad;grind
  have bw:gD s p=od s p:=by unfold gD;grind
  have cB:=w;unfold rdI at w j;by_cases cf:aJ (ae s p)=Y
  .grind
  rw[aa cf]at w j;by_cases af:aC (ae s p)=Y
  .rw[ab af]at w j;have cw:=kG s p L;by_cases a0:(ci s p).2=Y
   .grind
   rw[aa a0]at j;simp only at j;have y:p<z:=O;have bh:=am1 bs L U j;rw[bc,bl]at bh;have ar:ae s p≠10:=λg=>by rw[g]at af;exact absurd af Z
   have ct:∀{c:Int},c=2\/c=3->(feedL e c).2=Y:=λ{c} q=>by
    have:=bf.2;rcases su af with r|r<;>rcases q with rfl|rfl<;>simp_all
   have bD:∀X:Bz,ae X p=ae s p->(rdI X p).ok=(ci X p).2/\(rdI X p).a=(ci X p).1:=λX q=>by
    unfold rdI;grind
   refine ba x y ar (λa6=>?_) (λa7=>?_)
   .grind
   .left;have r:=bD b (l p y);rcases bh.1 with g|g
    .refine absurd ⟨U,ct (su U)⟩ a7
    .have ca:=bh.2 g;refine⟨⟨#[48]⟩,by simp[pu],?_⟩;have a9:(b++⟨#[48]⟩).size=b.size+1:=ax;have am:ae (b++⟨#[48]⟩) p=ae s p:=by rw[fh,ab O,l p y]
     have cn:=bD (b++⟨#[48]⟩) am;rw[ca]at cn;have ce:=su (s:=b++⟨#[48]⟩) (p:=p) U;have cd:gD (b++⟨#[48]⟩) p=(rdI (b++⟨#[48]⟩) p).k:=by unfold gD;grind
     rw[cd]at ce;unfold Dt;grind
  rw[aa af]at w j;by_cases a0:ae s p=34
  .rw[ab a0]at w j;by_cases cg:(bC s (s.size+1) (p+1) []).1=Y
   .grind
   rw[aa cg]at j;simp only at j;have a1:=qD (s:=s) (s.size+1) (p+1) [];have y:p<z:=O;obtain⟨n,bj,bp,g2⟩:=Kc bs (s.size+1) (p+1) [] U j O O;rw[bc]at bp g2;rw[bl]at g2;have c3:(rdI b p).ok=A6:=by
    unfold rdI;grind
   have c0:(feedL e 4).2=Y:=by
    have:=bf.2;rw[bw]at this;unfold od at this;grind
   refine ba x y O (λa6=>U) (λa7=> .inl ⟨n,List.mem_append.2 (.inl bj),?_⟩);have a9:(b++n).size=b.size+n.size:=ax;have cv:ae (b++n) p=34:=by rw[fh,ab O,l p y,a0]
   obtain⟨c6,c7⟩:=bp ((b++n).size+1) O;have o:rdI (b++n) p=⟨Y,(b++n).size,0,4,0,gL (bC (b++n) ((b++n).size+1) (p+1) []).2.2⟩:=by
    unfold rdI;grind
   unfold Dt;grind
  .exfalso;have:=bf.1;rw[bw]at this;unfold od at this;grind
end
theorem ae9(s:Bz):∀(f:Nat)(st:List Int)(p:Nat)(l:Int)(c:List Tk),p<=s.size->c.Pairwise (λa b=>a.f<b.f)->(∀T∈c,0<=T.f/\T.f<(p:Int))->(wlk s f st p l c).1.Pairwise (λa b=>a.f<b.f)/\∀T∈(wlk s f st p l c).1,0<=T.f
 |0,st,p,l,c,_,_,_=>⟨.nil,λT k=>by cases k⟩
 |f+1,st,p,l,c,z,q,y=>by
  have j:∀(g:Tk)(d:Nat),g.f=(p:Int)->p<d->(c++[g]).Pairwise (λa b=>a.f<b.f)/\∀T∈c++[g],0<=T.f/\T.f<(d:Int):=λg d w o=>by
   grind
  have v:∀d,p<d->∀T∈c,0<=T.f/\T.f<(d:Int):=λd o T k=>U;have m:∀e,e<=s.size->e<=blk s (s.size+1) e/\blk s (s.size+1) e<=s.size:=λe u=>ft s (s.size+1) e u;rw[wlk];split
  .grind
  .rename_i o;split
   .rename_i r;have i:=eD s p O (Cz s p r).1;have h:=m _ i.2.1;split
    .have:=j ⟨5,(p:Nat),((rdI s p).a:Nat),l,(rdI s p).n,(rdI s p).x⟩ (blk s (s.size+1) (rdI s p).a) rfl O;exact ae9 s f _ _ _ _ h.2 this.1 this.2
    .exact ae9 s f _ _ _ _ h.2 q (v _ O)
   .split
    .split
     .rename_i t;have i:=eD s p O t;have h:=m _ i.2.1;have:=j ⟨gD s p,(p:Nat),((rdI s p).a:Nat),l,(rdI s p).n,(rdI s p).x⟩ (blk s (s.size+1) (rdI s p).a) rfl O;exact ae9 s f _ _ _ _ h.2 this.1 this.2
     simp_all
    simp_all
open Go.Lib (strCells strCells_length)
structure TkO (n:Nat) (ts:List Tk):Prop where
 each:∀T∈ts,0<=T.f/\T.f<=T.t/\T.t<=(n:Int)/\0<=T.l
 next:ts.Pairwise λa b=>a.t<=b.f
theorem afa(s:Bz):∀(f:Nat)(st:List Int)(p:Nat)(l:Int)(a:List Tk),p<=s.size->TkO s.size a->(∀T∈a,T.t<=(p:Int))->0<=l->TkO s.size (wlk s f st p l a).1
 |0,st,p,l,a,_,_,_,_=>⟨λT hT=>(by cases hT),.nil⟩
 |f+1,st,p,l,a,H,e,F,h=>by
  have j:∀(c:Tk)(q b:Nat),c.f=(p:Int)->c.t=(q:Int)->p<=q->q<=s.size->q<=b->0<=c.l->TkO s.size (a++[c])/\∀T∈a++[c],T.t<=(b:Int):=λc q b y z A B C E=>by
   refine⟨⟨λT hT=>?_,List.pairwise_append.2 ⟨e.next,List.pairwise_singleton _ _,λv G w g=>?_⟩⟩,λT hT=>?_⟩
   .rcases List.mem_append.1 hT with hT|hT
    .exact e.each T hT
    grind
   all_goals grind
  have u:∀b,p<=b->∀T∈a,T.t<=(b:Int):=λb o T hT=>U;have g:∀q,q<=s.size->q<=blk s (s.size+1) q/\blk s (s.size+1) q<=s.size:=λq r=>ft s (s.size+1) q r;rw[wlk];split
  .grind
  .rename_i o;split
   .rename_i k;have i:=eD s p O (Cz s p k).1;have d:=g _ i.2.1;split
    .have:=j ⟨5,(p:Nat),((rdI s p).a:Nat),l,(rdI s p).n,(rdI s p).x⟩ (rdI s p).a (blk s (s.size+1) (rdI s p).a) rfl rfl O O O h;exact afa s f _ _ _ _ d.2 this.1 this.2 O
    .exact afa s f _ _ _ _ d.2 e (u _ O) O
   .split
    .split
     .rename_i m;have i:=eD s p O m;have d:=g _ i.2.1;have:=j ⟨gD s p,(p:Nat),((rdI s p).a:Nat),l,(rdI s p).n,(rdI s p).x⟩ (rdI s p).a (blk s (s.size+1) (rdI s p).a) rfl rfl O O O h;exact afa s f _ _ _ _ d.2 this.1 this.2 h
     .exact⟨λT hT=>(by cases hT),.nil⟩
    .exact⟨λT hT=>(by cases hT),.nil⟩
def ake(s:Bz):TkO s.size (tokF s).1:=by
 have b:TkO s.size []:=⟨λc a=>(by cases a),.nil⟩;unfold tokF;split
 .exact b
 split
 .exact afa s _ _ _ _ _ (ft s (s.size+1) 0 nH).2 b (λc a=>(by cases a)) Z
 omega
theorem afb{n:Int}:∀(l:List Tk)(lo:Int),l.Pairwise (λa b=>a.f<b.f)->(∀T∈l,lo<=T.f/\T.f<=n)->lo<=n+1->(Q l:Int)<=n+1-lo
 |[],lo,_,_,h=>U
 |T::r,lo,e,d,h=>by
  have j:=d T bH;have⟨i,c⟩:=List.pairwise_cons.1 e;have:=afb (n:=n) r (T.f+1) c (λg k=>U) O;grind
theorem abd(s:Bz):(tokF s).1.length<=s.size+1:=by
 have e:=ake s;have g:(tokF s).1.Pairwise λc d=>c.f<d.f:=by
  unfold tokF;split
  .exact .nil
  split
  .exact(ae9 s (s.size+1) [100,6] (blk s (s.size+1) 0) 1 [] (ft s (s.size+1) 0 nH).2 .nil (λb a=>by cases a)).1
  simp_all
 have:=afb (n:=(s.size:Int)) _ 0 g (λb a=>by have:=e.each b a;omega) O;omega
def TkO.at_{n:Nat}{ts:List Tk}(h:TkO n ts){i:Nat}{T a:Tk}(g:ts[i]?=A2 T)(j:ts[i+1]?=A2 a):T.t<=a.f:=by
 obtain⟨d,b⟩:=List.getElem?_eq_some_iff.1 g;obtain⟨e,c⟩:=List.getElem?_eq_some_iff.1 j;rw[<-b,<-c];exact(List.pairwise_iff_getElem.1 h.next) i (i+1) d e O
end Go.Proofs.YtiaechpcebhcdaaGreatDoor
namespace Go.Proofs.YtiaechpcebhcdaaGreatDoor
open Go.RowKit Go.Maps Go.WideMaps
variable{E:Int->Bz}{N:Nd}{R:Fo}{S:Int->Nat->Bz}{W w:World}{a c k t:Int}{b:Bool}{i j m n p tab:Nat}{ns:List Nd}{s:Bz}{st st':List Int}
def Do.small(h:Do N):jK N:=⟨by have:=h.nm;omega,by have:=h.ks;omega,by have:=h.x.size;omega,λb a=>by have:=(h.s b a).sz;omega⟩
def uG(w:B2)(s:Bz)(ar:s.size<=65536):Ce A9 18 #[B3 s] w (TkP s w):=by
 have x:sj (w.alloc (A5 #[Ax B1 0 0] 66)) w.heap.size w.heap.size []:=⟨⟨_,ay w _,dA _ _ _ _⟩,cJ⟩;have b:=acu _ w.heap.size w.heap.size s x O;have l:C2 (B0 w.heap.size w (w.alloc (A5 #[Ax B1 0 0] 66))):=de w _;have e:C2 (tokF s=if 0<=(jn s).2.2 then([],(jn s).2.2) else if(feedL (jn s).2.1 6).2=Y then((jn s).1, -1) else([],(s.size:Nat))):=rfl;obtain⟨⟨m,n,A⟩,p⟩:∃E,jn s=E:=⟨_,rfl⟩;rw[p]at b e;unfold aan at b;simp only at b e;obtain⟨av,f⟩:=aw (Q m);rw[f]at b;clear p x;go_in;go_wp2_with fail;generalize w.alloc (A5 #[Ax B1 0 0] 66)=am at b l⊢;refine b.mono ?_;rintro a z ⟨F,K,ak,B,rfl,i,h,k,j,G,an,ao⟩;have r:B0 w.heap.size w z:=l.out.trans (G.mono cJ);clear b;by_cases o:0<=A
 .have a:=e.out;rw[ab o]at a;have c:=aj a;clear i h k j a f;go_wp2;go_ret2;exact(show TkP _ _ _ _ from⟨B1,0,by rw[c.out];rfl,by rw[c.out];exact dA _ _ _ _,r⟩)
 .have a:=e.out;rw[aa o]at a;have g:=qA z w.heap.size w.heap.size B n ak 6 h k j Z Z O;unfold oK at g;obtain⟨a0,u,_⟩:=h.ex;have d:=jB i u f;obtain⟨L,t⟩:=aw ((feedL n 6).2);rw[t]at g a;have c:=aj a;clear a i h k j f u t;go_wp2_with fail;refine g.mono ?_;rintro a al ⟨aL,D,rfl,af,ag,ap,v,H⟩;have q:B0 w.heap.size w al:=r.trans (H.mono cJ);have y:=v.row d.2.1 d.1 Z Z;have C:=aj y;clear g af ag v y;cases L with
  |true=>
   go_wp2;go_ret2;have a:=c.out;rw[ab trivial]at a;have ad:(tokF s).1=m:=by rw[a]
   exact(show TkP _ _ _ _ from⟨F,K,by rw[a];simp only[d.out.2.2];rfl,by rw[ad,d.out.2.2];exact C,q⟩)
  |false=>
   go_wp2;go_ret2;have a:=c.out;rw[aa I]at a;exact(show TkP _ _ _ _ from⟨B1,0,by rw[a];rfl,by rw[a];exact dA _ _ _ _,q⟩)
def FJ(s:Bz)(p:Nat):Nat:=stL 0 ((fK s).take p)
def rsA(s:Bz)(p:Nat):Nat:=pz (FJ s p) ((fK s).drop p)
theorem abe(h:p<s.size):(fK s)[p]?=A2 (ae s p):=by
 have a:p<Q s.data.toList:=byS;unfold fK;rw[dw,bi a];rw[((gH s p _).1 (bi a)).2];rfl
def pf(h:p<s.size):FJ s (p+1)=wm (FJ s p) (ae s p):=by
 unfold FJ;rw[il,abe h,aeg];rfl
theorem Au(h:p<s.size):rsA s p=so (FJ s p) (ae s p)+rsA s (p+1):=by
 have b:p<Q (fK s):=by rw[abE];exact h
 have a:(fK s).drop p=ae s p::(fK s).drop (p+1):=by
  rw[ja b]
  congr 1
  have:=abe h;grind
 unfold rsA;rw[a,pz,pf h]
theorem asC{q:Nat}(h:c≠9\/q≠3):2<=so q c:=by unfold so;grind
theorem asD{q:Nat}(h:c≠9\/q≠3)(a:c≠10):wm q c≠3:=by unfold wm;grind
theorem aoi:∀(n p:Nat),p+n<=s.size->(∀i,p<=i->i<p+n->ae s i≠10)->(ae s p≠9\/FJ s p≠3)->2*n+rsA s (p+n)<=rsA s p
 |0,p,_,_,_=>I
 |n+1,p,g,h,b=>by
  have c:=Au (s:=s) (p:=p) O;have d:=asC b;have a:=asD b (h p cJ O);rw[<-pf O]at a;have i:=aoi n (p+1) O (λi e f=>h i O O) (.inr a);grind
theorem Du{a:Nat}(d:p<a)(j:a<=s.size)(h:∀i,p<=i->i<a->ae s i≠10)(c:ae s p≠9):2*(a-p)+so (FJ s p) (ae s p)+rsA s a<=rsA s p+2:=by
 have e:=Au (s:=s) (p:=p) O;have b:=asD (q:=FJ s p) (.inl c) (h p cJ d);rw[<-pf O]at b;have i:=aoi (s:=s) (a-(p+1)) (p+1) O (λi f g=>h i O O) (.inr b);grind
def crA(s:Bz)(p:Nat):Nat:=if(FJ s p=1\/FJ s p=2)/\vw (ae s p)=Y then 10 else 0
def gA(s:Bz)(p:Nat):Nat:=rsA s p+crA s p
def Bnd(s:Bz)(p:Nat):Prop:=FJ s p=1->aC (ae s p)=A6
theorem Bw(h:vw (ae s p)=A6\/FJ s p=0\/FJ s p=3):Bnd s p/\crA s p=0:=by
 unfold Bnd crA;have:vw (ae s p)=A6->aC (ae s p)=A6:=by unfold vw;simp
 grind
def Stp(s:Bz)(p:Nat):Prop:=2*((rdI s p).a-p)+10+gA s (rdI s p).a<=gA s p/\Bnd s (rdI s p).a
theorem abf:∀n,p+n<=s.size->rsA s (p+n)<=rsA s p
 |0,_=>ix _
 |n+1,h=>by
  have:=abf n O;have:=Au (s:=s) (p:=p+n) O;grind
def aqw(s:Bz):∀(f p i:Nat),p<=i->i<mh s f p->vw (ae s i)=Y:=λf p i b a=>by
 rw[oC]at a;exact jx _ s f p i b a
def am6(s:Bz)(p:Nat)(a:p<=s.size):vw (ae s (mh s (s.size+1) p))=A6:=by
 rw[oC];exact jy _ Z s _ p O
theorem am7(o:p<s.size)(h:aJ (ae s p)=Y):Stp s p:=by
 have q:=D2 h;obtain⟨a,i⟩:∃a,mh s (s.size+1) p=a:=⟨_,rfl⟩;have m:rdI s p=⟨Y,a,0,(vK s p).1,0,(vK s p).2⟩:=by unfold rdI;grind
 have c:=Dj s p h;have e:=sa s (s.size+1) p O;have b:=aqw s (s.size+1) p;have f:=am6 s p O;rw[i]at c e b f;obtain⟨k,l⟩:=Bw (.inl f);have r:=Du (s:=s) (p:=p) (a:=a) c e.2 (λj d g=>by have:=EE (b j d g);omega) O;have d:=b p cJ c;have n:12<=so (FJ s p) (ae s p)+crA s p:=by unfold so crA;grind
 unfold Stp gA;grind
def xC(s:Bz)(p i:Nat)(a:p<=i)(b:i<lg s p):aC (ae s i)=Y:=jx aC s _ p i a b
theorem agD(s:Bz)(p:Nat)(C:p<s.size)(w:aC (ae s p)=Y):(∀i,p<=i->i<(ci s p).1->43<=ae s i)/\((ci s p).2=Y->vw (ae s ((ci s p).1-1))=Y/\(aC (ae s (ci s p).1)=Y->(ci s p).1=p+1/\ae s p=48)):=by
 have F:∀a,a<=s.size->aC (ae s (lg s a))=A6:=λa o=>jy aC pI s _ a O;unfold ci;by_cases f:ae s p=48/\ae s (p+1)=120
 .rw[ab f];have c:=aF f.2;have t:=ahx s (p+2) O;have r:∀i,p+2<=i->i<uH s (p+2)->jo (ae s i)=Y:=λi d c=>jx jo s _ (p+2) i d c;have G:jo (ae s (uH s (p+2)))=A6:=jy jo oy s _ (p+2) O;have z:∀i,p<=i->i<uH s (p+2)->43<=ae s i:=λi d c=>by
   rcases(O:i=p\/i=p+1\/p+2<=i) with rfl|rfl|g
   .omega
   .omega
   .have:=(oG _).1 (r i g c);omega
  unfold lh;by_cases g:p+2+16<uH s (p+2)
  .grind
  .rw[aa g];refine⟨z,λm=>?_⟩;have v:p+2<uH s (p+2):=be m;refine⟨?_,λx=>?_⟩
   .have:=(oG _).1 (r (uH s (p+2)-1) O O);unfold vw aJ aC;grind
   .have:=iq x;have:jo (ae s (uH s (p+2)))=Y:=(oG _).2 (.inl this);grind
 .rw[aa f];have y:∀{k:Int},aC k=Y->vw k=Y:=λm=>by unfold vw;grind
  have h:=uj s p C;have e:=uk s (nA0 s p) h.2;have j:=IJ s (nA1 s (nA0 s p)) e.2;have s0:(∀i,p<=i->i<nA0 s p->43<=ae s i)/\aC (ae s (nA0 s p-1))=Y/\(aC (ae s (nA0 s p))=Y->nA0 s p=p+1/\ae s p=48):=by
   unfold nA0;by_cases g:ae s p=48
   .grind
   .rw[aa g];have u:=lL s (p+1) O;refine⟨λi d c=>?_,?_,λl=>U⟩
    .rcases(O:i=p\/p+1<=i) with rfl|q
     .have:=iq w;omega
     .have:=iq (xC s (p+1) i q c);omega
    .rcases((O:lg s (p+1)=p+1\/p+1<lg s (p+1))) with q|q
     .grind
     .exact xC s (p+1) _ O O
  obtain⟨a,o⟩:∃a,nA0 s p=a:=⟨_,rfl⟩;rw[o]at h e j s0⊢;have E:(∀i,p<=i->i<nA1 s a->43<=ae s i)/\aC (ae s (nA1 s a-1))=Y/\(aC (ae s (nA1 s a))=Y->nA1 s a=p+1/\ae s p=48):=by
   unfold nA1;by_cases g:ae s a=46/\aC (ae s (a+1))=Y
   .rw[ab g];have v:=qr g.2;have u:=lL s (a+1) O;have A:a+1<lg s (a+1):=by
     grind
    refine⟨λi d c=>?_,xC s (a+1) _ O O,λl=>U⟩;rcases(O:i<a\/i=a\/a+1<=i) with q|rfl|q
    .grind
    .omega
    .have:=iq (xC s (a+1) i q c);omega
   grind
  obtain⟨b,t⟩:∃b,nA1 s a=b:=⟨_,rfl⟩;rw[t]at e j E⊢;unfold mu;by_cases g:ae s b=101
  .rw[ab g];have v:=aF g;have c:b+1<=nA2 s b/\nA2 s b<=s.size/\∀i,b+1<=i->i<nA2 s b->43<=ae s i:=by
    unfold nA2;by_cases q:ae s (b+1)=43\/ae s (b+1)=45
    .have:b+1<s.size:=by rcases q with q|q<;>exact aF q
     grind
    grind
   have u:=lL s (nA2 s b) c.2.1;refine⟨λi d n=>?_,λB=>?_⟩
   .simp only at n;rcases((O:i<b\/i=b\/(b+1<=i/\i<nA2 s b)\/nA2 s b<=i)) with q|rfl|q|q
    .grind
    .omega
    .grind
    .have:=iq (xC s (nA2 s b) i q n);omega
   .have A:nA2 s b<lg s (nA2 s b):=be B;simp only;exact⟨y (xC s (nA2 s b) _ O O),λl=>U⟩
  grind
theorem am8(d:p<s.size)(g:Bnd s p)(h:aC (ae s p)=Y)(j:(rdI s p).ok=Y):Stp s p:=by
 have y:=iq h;have w:aJ (ae s p)=A6:=by simp[aJ];omega
 have x:FJ s p≠1:=λb=>by have:=g b;grind
 obtain⟨l,m⟩:=agD s p d h;have c:=kG s p d;have k:(ci s p).2=Y:=by
  unfold rdI at j;grind
 obtain⟨n,f⟩:=m k;have e:rdI s p=⟨Y,(ci s p).1,0,(th s p).1,(th s p).2.1,(th s p).2.2⟩:=by unfold rdI;grind
 obtain⟨a,i⟩:∃a,(ci s p).1=a:=⟨_,rfl⟩;rw[i]at l n f c e;have A:=Du (s:=s) (p:=p) (a:=a) c.1 c.2 (λz r t=>U) O;have v:crA s a<=10:=by unfold crA;grind
 have u:so (FJ s p) (ae s p)=32:=by unfold so;grind
 unfold Stp gA;rw[e];refine⟨U,λb=>?_⟩;simp only at b⊢;cases hd2:aC (ae s a) with
 |false=>rfl
 |true=>
  obtain⟨o,q⟩:=f hd2;rw[o,pf d,q]at b;unfold wm at b;grind
theorem ada(s:Bz):∀(f p:Nat)(c:List Int),(bC s f p c).1=Y->p<=s.size->(∀i,p<=i->i<(bC s f p c).2.1->ae s i≠10)/\p<(bC s f p c).2.1/\ae s ((bC s f p c).2.1-1)=34
 |0,p,c,a,_=>by rw[bC]at a;cases a
 |f+1,p,c,a,y=>by
  rw[bC]at a⊢;by_cases o:s.size<=p
  .grind
  rw[aa o]at a⊢;by_cases r:ae s p=34
  .grind
  rw[aa r]at a⊢;by_cases h:ae s p=10
  .grind
  rw[aa h]at a⊢;by_cases h3:ae s p=92
  .rw[ab h3]at a⊢;by_cases b:(ej s (p+1)).2.2=Y
   .rw[ab b]at a⊢;have t:=Db s (p+1) O;have z:=KF s (p+1) O b;obtain⟨u,v,k⟩:=ada s f _ _ a t.2.1;refine⟨λi e g=>?_,O,k⟩;rcases((O:i=p\/(p+1<=i/\i<(ej s (p+1)).2.1)\/(ej s (p+1)).2.1<=i)) with rfl|q|q
    .exact h
    .revert q;unfold ej at b⊢;by_cases e:ae s (p+1)=110
     .grind
     rw[aa e]at b⊢;by_cases g:ae s (p+1)=116
     .grind
     rw[aa g]at b⊢;by_cases m:ae s (p+1)=34\/ae s (p+1)=92
     .grind
     rw[aa m]at b⊢;by_cases n:ae s (p+1)=120
     .rw[ab n]at b⊢;unfold hexI at b⊢;by_cases w:gj (ae s (p+1+1))<0
      .grind
      rw[aa w]at b⊢;by_cases x:gj (ae s (p+1+1+1))<0
      .grind
      rw[aa x];intro q;have A:∀d:Int,¬gj d<0->d≠10:=λd j l=>by rw[l]at j;exact j Z
      grind
     grind
    grind
   grind
  rw[aa h3]at a⊢;obtain⟨u,v,k⟩:=ada s f _ _ a O;grind
structure Tm (ns:List Nd):Prop where
 n:Q ns<=1048576
 l:∀N∈ns,Q N.nm<=1048576/\Q N.ks<=1048576
section
variable {s : Bz} {ns : List Nd}
def aso.tm(h:aso s ns):Tm ns:=by
 obtain⟨_,_,d,_,_,_,_,a,_,rfl⟩:=h;refine⟨?_,λb c=>⟨(a.sm b c).l1,(a.sm b c).l2⟩⟩;have:=a.sz;unfold ss;rw[Fo.flat_len,dj];omega
end
inductive Out (s:Bz):Int->Int->List Nd->Prop where
 |big:65536<s.size->Out s 2 0 []
 |at_ {z:Int}:s.size<=65536->0<=z->tokF s=([],z)->Out s 1 z []
 |ok {toks:List Tk}{m:Nat}{R:Fo}{lz:Int}:s.size<=65536->tokF s=(toks, -1)->PF s toks m R lz->Out s (okC (ss s R)) 0 (okN (ss s R))
section
variable {s : Bz}
def Out.code(h:Out s c a ns)(g:s.size<=65536):(c≠1↔(tokF s).2= -1)/\(c=1->a=(tokF s).2):=by
 cases h with
 |big h=>omega
 |at_ h f d=>rw[d];exact⟨⟨λb=>absurd rfl b,λb=>by simp only at b;omega⟩,λ_=>rfl⟩
 |ok h d e=>
  rw[d];unfold okC;split
  .exact⟨⟨λ_=>rfl,λ_=>O⟩,λb=>O⟩
  .exact⟨⟨λ_=>rfl,λ_=>O⟩,λb=>O⟩
end
def PM(E:Pe):Ay->Nat->Fo->Nat->Prop
 | .unit,i,R,j=>CU E i R j
 | .expr p,i,R,j=>CX E p i R j
 | .more p s x,i,R,j=>∃m,Ms E (CX E) p s m x i R j
 | .base,i,R,j=>CB E i R j
 | .post s x,i,R,j=>∃m,Pss E (CX E 0) (CLx E) s m x i R j
 | .exprs,i,R,j=>CLx E i R j
 | .moreE,i,R,j=>∃m,Ls E (CX E 0) m i R j
 | .moreB,i,R,j=>∃m,Ls E (CB E) m i R j
 | .stat,i,R,j=>CI E 94 #[pV E] i R j
 | .stats,i,R,j=>∃m,Ss E (CI E 94 #[pV E]) m i R j
 | .block,i,R,j=>CK E i R j
 | .body s,i,R,j=>CBd E s i R j
 | .entry,i,R,j=>CI E 243 #[pV E] i R j
 | .entries,i,R,j=>∃m,Es E (CI E 243 #[pV E]) m i R j
 | .branch,i,R,j=>CBr E (E.tk i).k i R j
def aqx(h:k=5\/k=6\/k=43):fC k=A6:=by rcases h with rfl|rfl|rfl<;>decide
def aqy(h:nD k=Y):k=25\/k=50\/k=62\/k=69:=by
 have:=be h;omega
def brK{E:Pe}(h:CBr E (E.tk i).k i R j)(e:(E.tk i).k=k):CBr E k i R j:=e ▸ h
def agE{E:Pe}(A:∀q,(E.tk q).k<=78){t:Ay}(h:P E.tk E.n t i R j):PM E t i R j:=by
 induction h with
 |upre a b d c=>have:=d.pos;simp only[gC]at this;exact qx (.pre (aqy a) rfl b c O O)
 |uint a b=>exact qx (.intg a b)
 |uflt a b=>exact qx (.word (.inl ⟨rfl,rfl⟩) a b)
 |ustr a b=>exact qx (.word (.inr ⟨rfl,rfl⟩) a b)
 |unil a b=>exact qx (.leaf (.inl ⟨rfl,rfl⟩) a b)
 |utru a b=>exact qx (.leaf (.inr (.inl ⟨rfl,rfl⟩)) a b)
 |ufls a b=>exact qx (.leaf (.inr (.inr (.inl ⟨rfl,rfl⟩))) a b)
 |urst a b=>exact qx (.leaf (.inr (.inr (.inr ⟨rfl,rfl⟩))) a b)
 |ufn a b d c=>exact qx (.fn a b c)
 |utab a b d e f c=>obtain⟨g,c⟩:=c;exact aim a b c e f
 |ubas a b d c=>exact qx (.base a rfl b c)
 |ex a b d e l o=>obtain⟨g,c⟩:=o;exact apL a b A l c
 |mstop a b=>exact⟨0,.stop a b⟩
 |mgo a b d e f o w=>obtain⟨g,c⟩:=w;have:=e.pos;simp only[gC]at this;exact⟨g+1,.go a b d o O O c⟩
 |bname a b d c=>obtain⟨g,c⟩:=c;have:=d.pos;simp only[gC]at this;exact ajc a b .name O c
 |@bopen i k j u z R a b d e f m l r=>
  obtain⟨g,c⟩:=r;have:=d.pos;have:=m.pos;simp only[gC]at *;by_cases v:u.k=34\/u.k=27
  .rw[show oI u z (E.tk i) (E.tk k).t=_ from ab v]at c;exact ajc a b (.held l e O v rfl) O c
  .rw[show oI u z (E.tk i) (E.tk k).t=_ from aa v]at c;exact ajc a b (.par l e O byT byT) O c
 |pstop a b=>exact⟨0,.stop a b⟩
 |pdot a b d e c=>obtain⟨g,c⟩:=c;have:=e.pos;exact⟨g+1,.dot a b O c⟩
 |psq a b d e f m l r=>obtain⟨g,c⟩:=r;have:=d.pos;simp only[gC]at this;have:=m.pos;exact⟨g+1,.sq a b l e O c⟩
 |pcall0 a b d e c=>obtain⟨g,c⟩:=c;have:=e.pos;exact⟨g+1,.call0 a b O c⟩
 |pcall a b d e f m p o s=>obtain⟨g,c⟩:=s;have:=e.pos;simp only[gC]at this;have:=p.pos;exact⟨g+1,.call a b d o f O c⟩
 |es a b C F=>obtain⟨g,c⟩:=F;exact al6 C c
 |estop a b=>exact⟨0,.stop a b⟩
 |ego a b d e l o=>obtain⟨g,c⟩:=o;exact⟨g+1,.go a b l c⟩
 |bstop a b=>exact⟨0,.stop a b⟩
 |bgo a b d e l o=>obtain⟨g,c⟩:=o;exact⟨g+1,.go a b l c⟩
 |@body i k j am ag al af a b d e c=>
  have⟨g,K,L,ak,ad⟩:=Pt.of d;have:=e.pos;simp only[gC]at this;obtain⟨y,rfl⟩:∃y,k=y+1:=⟨k-1,O⟩;exact ao8 a b K L ad c O O
 |block a b d e f c=>obtain⟨g,c⟩:=c;exact qx (.block a b (aea (.inl rfl) e c) e f)
 |sstop a b=>exact⟨0,.stop b⟩
 |ssep a b d c=>obtain⟨g,c⟩:=c;exact⟨g+1,.sep a b c⟩
 |sgo a b d e f m w r=>obtain⟨g,c⟩:=r;exact⟨g+1,.go a b d e w c⟩
 |nstop a b=>exact⟨0,.stop a b⟩
 |ncom a b d e f m l r=>obtain⟨g,c⟩:=r;exact⟨g+1,.com a b l e f c⟩
 |nlast a b d e f m l r=>obtain⟨g,c⟩:=r;exact⟨g+1,.last a b l e f c⟩
 |item a b d e f c=>have:=f.pos;simp only[gC]at this;exact Ju d e (.item a b c O O)
 |pair a b d e f m p l s=>have:=d.pos;have:=p.pos;simp only[gC]at *;exact Ju O O (.pair a l e f m s O O)
 |named a b d e f c=>have:=f.pos;simp only[gC]at this;exact Ju O O (.named a b d e c O O)
 |belif a b d e f m p l o s=>have:=d.pos;have:=e.pos;have:=p.pos;simp only[gC]at *;exact iJ (.belif a rfl b l o m f (brK s f) O O)
 |belse a b d e f m p l o s=>have:=d.pos;have:=e.pos;have:=p.pos;simp only[gC]at *;exact iJ (.belse a rfl b l o m f s O O)
 |bno a b d e f m p l o=>have:=d.pos;have:=e.pos;simp only[gC]at *;exact iJ (.bno a rfl b l o O p f m)
 |tlet0 a b d e f=>have:=e.pos;exact iJ (.let0 a O (xw d b e) O O f)
 |tlet a b d e f m c=>have:=e.pos;have:=m.pos;simp only[gC]at *;exact iJ (.let1 a O (xw d b e) O f c O O)
 |@tcon i j an a b d e f c=>have:=f.pos;simp only[gC]at *;exact iJ (.con a O (xw b O (.stop (by rw[d];decide) O)) O d c O O)
 |tfn a b d e f c=>have:=f.pos;simp only[gC]at *;exact amp a b d e c O O
 |tif a b d c=>exact iJ (.iff a b (brK c a))
 |twhile a b d e l o=>have:=d.pos;have:=e.pos;simp only[gC]at *;exact iJ (.whl a b l o O O)
 |tfor a b d e f m p r s=>have:=e.pos;have:=m.pos;have:=p.pos;simp only[gC]at *;exact iJ (.for_ a O (iJ (.lfor a O (xw d b e) O f r s O O)))
 |teach a b d e f m p x B r H=>have:=e.pos;have:=m.pos;have:=B.pos;simp only[gC]at *;exact iJ (.for_ a O (iJ (.leach a O (xw d b e) O f r H O O)))
 |tbreak a b=>exact iJ (.leaf (.inl ⟨rfl,rfl⟩) a b)
 |tnext a b=>exact iJ (.leaf (.inr ⟨rfl,rfl⟩) a b)
 |tret0 a b d=>exact iJ (.ret0 a b (aqx d))
 |tret a b d e c=>have:=e.pos;simp only[gC]at *;exact iJ (.ret1 a b d c O O)
 |ttry a b d e f m p x l G=>have:=d.pos;have:=p.pos;have:=x.pos;simp only[gC]at *;exact iJ (.try_ a b l e O (xw m f p) G O O)
 |tthrow a b d c=>have:=d.pos;simp only[gC]at *;exact iJ (.thr a b c O O)
 |tdefer a b d c=>have:=d.pos;simp only[gC]at *;exact iJ (.dfr a b c O O)
 |tblock a b d c=>exact iJ (.blk a b c)
 |tdo a b d e f m c=>have:=d.pos;simp only[gC]at *;exact iJ (.smp a rfl b (aaA a rfl b c (.inl ⟨e,f,m,rfl,rfl⟩) O))
 |tset a b d e f m p l o s=>obtain⟨g,o⟩:=o;have:=d.pos;have:=e.pos;have:=p.pos;simp only[gC]at *;exact iJ (.smp a rfl b (aaA a rfl b l (.inr ⟨_,_,_,g,by cases o with|stop _ _=>exact .inr f|go h _ _ _=>exact .inl h,o,f,m,s,O,O,rfl⟩) O))
def Gv(w:B2)(s:Bz)(c:65536<s.size)(b:s.size<=1048576):Ce A9 6 #[B3 s] w (PsP w 2 0 []):=by
 have d:∀w:B2,(zeroValue 28).run A9 w= .ok (Ck #[A0 A3 0,A0 A3 0,Ax B1 0 0]) w:=λw=>J;have a:(65536:Int)<(s.size:Int):=O;go_in;go_wp2;exact aD (fE rfl _ _ w.heap.size _ _ _ _ rfl (ay w _) Tryz.underlying28 rfl J) rfl (show PsP _ _ _ _ _ _ from⟨_,rfl,acF _,de w _⟩)
def Kg(w:B2)(s:Bz)(r:s.size<=65536){z:Int}(u:0<=z)(a:agu s)(e:tokF s=([],z)):Ce A9 6 #[B3 s] w (PsP w 1 z []):=by
 have t:∀w:B2,(zeroValue 28).run A9 w= .ok (Ck #[A0 A3 0,A0 A3 0,Ax B1 0 0]) w:=λw=>J;have q:¬(65536:Int)<(s.size:Int):=O;unfold agu TkP at a;rw[e]at a;clear e;have b:=de w (A5 #[A0 A3 0,A0 A3 0,Ax B1 0 0] 28);have c:=ay w (A5 #[A0 A3 0,A0 A3 0,Ax B1 0 0] 28);go_in;go_wp2_with fail;generalize w.alloc (A5 #[A0 A3 0,A0 A3 0,Ax B1 0 0] 28)=i at b c⊢;refine(a _).mono ?_;rintro o h ⟨j,k,rfl,_,d⟩;have f:=(d.block _ (ah c)).trans c;have g:B0 w.heap.size w h:=b.trans (d.mono b.size);have⟨l,m,n,p⟩:=row3 f;clear a;go_wp2;exact aD (fE rfl _ _ w.heap.size _ _ _ _ rfl (set3 f _ _ _) Tryz.underlying28 rfl J) rfl (show PsP _ _ _ _ _ _ from⟨_,rfl,acF _,Ht g _ _ _⟩)
def Kh(w:B2)(s:Bz)(ch:s.size<=65536){toks:List Tk}{b1:Int}(y:agu s)(a7:tokF s=(toks, -1))(a2:PF s toks m R b1):Ce A9 6 #[B3 s] w (PsP w (okC (ss s R)) 0 (okN (ss s R))):=by
 have ck:∀w:B2,(zeroValue 28).run A9 w= .ok (Ck #[A0 A3 0,A0 A3 0,Ax B1 0 0]) w:=λw=>J;have cf:¬(65536:Int)<(s.size:Int):=O;unfold agu TkP at y;rw[a7]at y;clear a7;have⟨f,am⟩:=aw (Q toks);have a:=fD a2 am;simp only[am]at y;clear a2 am;have af:=de w (A5 #[A0 A3 0,A0 A3 0,Ax B1 0 0] 28);have an:=ay w (A5 #[A0 A3 0,A0 A3 0,Ax B1 0 0] 28);go_in;go_wp2_with fail;generalize w.alloc (A5 #[A0 A3 0,A0 A3 0,Ax B1 0 0] 28)=b7 at af an⊢;refine(y _).mono ?_;rintro br b ⟨o,e,rfl,bj,a4⟩;have ao:=(a4.block _ (ah an)).trans an;have a6:B0 w.heap.size w b:=af.trans (a4.mono af.size);have bc:f=m+1:=by rw[<-a.out.2];exact a.out.1.len
 obtain⟨i,C,rfl,bb,a8⟩:∃i C,o=A2 ⟨i,0,B1⟩/\b.heap[i]?=A2 (A5 C 48 (0,0))/\TkR C (xy toks) f:=by
  rcases bj.2 with⟨_,j⟩|⟨bt,b8,bp,b0,ce,bx,ca,cc,cd,bw⟩
  .omega
  .cases b0;exact⟨bt,bp,rfl,bx,ajk bw a.out.2 (λb4 b5 bd=>by rw[EK bd];exact⟨rfl,λ_=>rfl⟩)⟩
 obtain⟨b4,hS⟩:PM ⟨b.heap.size,b.heap.size+1,i,e,f,xy toks⟩ .stats 0 R m:=agE (E:=⟨b.heap.size,b.heap.size+1,i,e,f,xy toks⟩) a.out.1.k78 (bc ▸ a.out.1.p);have bh:=alL s b i e f m (xy toks) C (0,0) bb a8 (by have:=a.out.1.le;omega) O (R:=R) (aea (E:=⟨b.heap.size,b.heap.size+1,i,e,f,xy toks⟩) (.inr rfl) (by show(xy toks m).k=6;rw[a.out.1.end_]) hS) (by have:=a.out.1.sz;omega);clear hS;clear y bj bb a8 bc;go_wp2_with fail;refine bh.mono ?_;rintro br d ⟨bk,K,rfl,aL,al,a5⟩;have a0:fj d bk (ss s R):=by have:=aL.nds;rw[al]at this;exact this
 have v:=(a5.block _ (ah ao)).trans ao;have ag:B0 w.heap.size w d:=a6.trans (a5.mono a6.size);obtain⟨q,z,t,rfl⟩:∃o f e,bk= Ax o f e:=by obtain⟨o,e,F⟩:=a0.form;exact⟨o,_,e,F⟩
 have bA:=a.out.1.ct;have bD:Q (ss s R)<=1048576:=by
  have:=a.out.1.sz;unfold ss;rw[Fo.flat_len,dj];omega
 have ar:=λk=>Fl (d.alloc k) (Ax q z t) (ss s R) (a0.below (de d k)) bD a.out.1.sm;have a3:C2 (Lw d b.heap.size (Ax q z t) K/\K.map Mb.N=ss s R):=⟨aL,al⟩;have l:C2 (okC (ss s R)=(if(dF (ss s R)).1=0 then 0 else 2)/\okN (ss s R)=(if(dF (ss s R)).1=0 then ss s R else [])):=⟨rfl,rfl⟩;have⟨H,ap⟩:=aw ((dF (ss s R)).1);have⟨B,bg⟩:=aw ((dF (ss s R)).2);rw[ap]at l;simp only[ap,bg]at ar;have a9:=ay d (A5 #[Ax q z t] 26);have u:=de d (A5 #[Ax q z t] 26);have bE:=u.size;clear bh a0 ap bg bA aL al;go_wp2_with fail;refine dm (ar _) λc r=>?_;have ba:=(r.block _ (ah a9)).trans a9;have bf:=(r.block _ (ah ((u.block _ (ah v)).trans v))).trans ((u.block _ (ah v)).trans v);have G:B0 w.heap.size w c:=(ag.trans (u.mono ag.size)).trans (r.mono (aK ag.size bE));have cb:=ah ba;clear ar;have A:∀(h:Nat)(L:Array B6)(a1:TypeId)(ad:Nat×Nat)(k:Obj),c.heap[h]?=A2 (A5 L a1 ad)->(c.alloc k).heap[h]?=A2 (A5 L a1 ad):=λh L a1 ad k F=>((de c k).block _ (ah F)).trans F;have cg:w.heap.size≠d.heap.size:=by have:=ah v;omega
 by_cases j:H=0
 .subst j;have x:=A _ _ _ _ (A5 #[A0 A3 0,A0 A3 B] 57) bf;have⟨bl,bn,bo,bs⟩:=row3 x;have cl:(c.alloc (A5 #[A0 A3 0,A0 A3 B] 57)).cell? ⟨d.heap.size,0,B1⟩=A2 (Ax q z t):=by rw[au _ _ _ _ _ _ (A _ _ _ _ _ ba)];rfl
  have g:=l.out;rw[ab rfl,ab rfl]at g;have n:=aj g;have ak:B0 w.heap.size w (c.alloc (A5 #[A0 A3 0,A0 A3 B] 57)):=G.trans ((de c _).mono G.size);clear g l A;go_wp2;exact aD (fE rfl _ _ w.heap.size _ _ _ _ rfl (set3 x _ _ _) Tryz.underlying28 rfl J) rfl (show PsP w (okC (ss s R)) 0 (okN (ss s R)) _ _ from by rw[n.out.1,n.out.2];exact⟨_,rfl,⟨K,_,a3.out.2,a3.out.1.mono λh b9 bv=>(aoe (by have:=ah ao;omega) _ _ _).trans (((de c _).block h (by have:=r.size;omega)).trans ((r.block h O).trans (u.block h bv)))⟩,Ht ak _ _ _⟩)
 .have x:=A _ _ _ _ (A5 #[A0 A3 H,A0 A3 B] 57) bf;have⟨bl,bn,bo,bs⟩:=row3 x;have g:=l.out;rw[aa j,aa j]at g;have n:=aj g;have bd:(H==0)=A6:=by simpa using j
  have ak:B0 w.heap.size w (c.alloc (A5 #[A0 A3 H,A0 A3 B] 57)):=G.trans ((de c _).mono G.size);clear g l j A;go_wp2;exact aD (fE rfl _ _ w.heap.size _ _ _ _ rfl (set3 x _ _ _) Tryz.underlying28 rfl J) rfl (show PsP w (okC (ss s R)) 0 (okN (ss s R)) _ _ from by rw[n.out.1,n.out.2];exact⟨_,rfl,acF _,Ht ak _ _ _⟩)
def Gw(w:B2)(s:Bz)(h:s.size<=1048576)(g:Out s c a ns):Ce A9 6 #[B3 s] w (PsP w c a ns):=by
 cases g with
 |big b=>exact Gv w s b h
 |at_ b f d=>exact Kg w s b f (λw=>uG w s b) d
 |ok b d e=>exact Kh w s b (λw=>uG w s b) d e
section
variable {tk : Nat → Tk} {n : Nat}
theorem akf(ht:(tk i).k=t)(b:i<n):∀(f:Nat)(st:List Int)(c:Nat)(lo r:List Int)(m a:Nat),fi f st t c=A2 (lo,A2 Y,a)->D tk n m (lo++r) (i+1) j->∃d,D tk n d (st++r) i j
 |0,_,_,_,_,_,_,h,_=>by simp[fi]at h
 |f+1,[],_,_,_,_,_,h,_=>by simp[fi]at h
 |f+1,s::q,c,lo,r,m,a,h,o=>by
  by_cases g:s<100
  .obtain⟨rfl,e,_⟩:=sF h g;have e:decide (s=t)=Y:=U;exact⟨m+1,.tok g U b o⟩
  .rcases lI h O with⟨u,l⟩|⟨_,_,l,_⟩
   .obtain⟨d,p⟩:=akf ht b f _ _ lo r m a l o;exact⟨d+1,.exp (r:=q++r) O b U U⟩
   grind
theorem adb(ht:(tk i).k=t)(b:i<n):∀(st:List Int),(feedL st t).2=Y->D tk n m (feedL st t).1 (i+1) j->∃e,D tk n e st i j
 |[],h,_=>by simp[feedL]at h
 |s::r,h,a=>by
  by_cases c:s<100
  .rw[jw c]at h a;exact⟨m+1,.tok c U b a⟩
  .by_cases hn:(xE s t).1=[]/\(xE s t).2=Y
   .rw[mA O hn]at h a;obtain⟨e,d⟩:=adb ht b r h a;exact⟨e+1,.exp O b U U⟩
   .rw[feedL,aa c,aa hn]at h a;split at h
    .rename_i p g l f;have o:g=Y:=h;subst o;rw[f]at a;exact akf ht b 8 [s] 0 p r m l f a
    grind
theorem asE:∀(ts:List Tk)(st st':List Int)(i m j:Nat),Fd st ts st'->(∀q T,ts[q]?=A2 T->tk (i+q)=T)->i+Q ts<=n->D tk n m st' (i+Q ts) j->∃g,D tk n g st i j
 |[],st,st',i,m,j,h,_,_,f=>by cases h;grind
 |T::ts,st,st',i,m,j,h,ht,hn,f=>by
  cases h with
  |cons a b c d e=>
   rw[db]at hn f;obtain⟨g,k⟩:=asE ts _ st' (i+1) m j e (λq l o=>by rw[(O:i+1+q=i+(q+1))];simp_all) O U;exact adb (by rw[show tk i=T from ht 0 T rfl]) O st d k
end
def No6(st:List Int):Prop:=∀x∈st,x≠6/\x<=133
def am9:((D3 34).all λs=>(D3 78).all λt=>(xE ((s:Int)+100) ((t:Int)+1)).1.all λx=>decide (x≠6)||!(xE ((s:Int)+100) ((t:Int)+1)).2)=Y:=by rfl
theorem aqz{s:Int}(e:100<=s)(f:s<=133)(k:1<=t)(i:t<=78)(h:(xE s t).2=Y):No6 (xE s t).1:=by
 have a:=List.all_eq_true.1 am9 (s-100).toNat U;have b:=List.all_eq_true.1 a (t-1).toNat U;have c:(((s-100).toNat:Nat):Int)+100=s:=O;have d:(((t-1).toNat:Nat):Int)+1=t:=O;rw[c,d]at b;refine λj g=>⟨?_,(adz e f O i).1 j g⟩;grind
theorem abg(e:1<=t)(g:t<=78):∀(f:Nat)(st:List Int)(c:Nat)(lo:List Int)(b:Nat),No6 st->fi f st t c=A2 (lo,A2 Y,b)->No6 lo/\t≠6
 |0,_,_,_,_,_,h=>by simp[fi]at h
 |f+1,[],_,_,_,_,h=>by simp[fi]at h
 |f+1,s::q,c,lo,b,hn,h=>by
  have k:No6 q:=λa hx=>hn a (dC _ hx);have l:=hn s (bH ..);by_cases i:s<100
  .obtain⟨rfl,m,_⟩:=sF h i;grind
  .rcases lI h O with⟨j,d⟩|⟨_,_,d,_⟩
   .refine abg e g f _ _ lo b (λa hx=>?_) d;rcases List.mem_append.1 hx with hx|hx
    .exact aqz O l.2 e g j a hx
    .exact k a hx
   grind
theorem akg(i:1<=t)(d:t<=78):∀(a:List Int),No6 a->(feedL (a++[6]) t).2=Y->(t=6/\(feedL (a++[6]) t).1=[])\/(t≠6/\∃b,(feedL (a++[6]) t).1=b++[6]/\No6 b)
 |[],_,h=>by
  rw[dI,jw O]at h⊢;grind
 |s::a,hn,h=>by
  have f:No6 a:=λc hx=>hn c (dC _ hx);have o:=hn s (bH ..);rw[dt]at h⊢;by_cases m:s<100
  .rw[jw m]at h⊢;grind
  .by_cases hx:(xE s t).1=[]/\(xE s t).2=Y
   .rw[mA O hx]at h⊢;exact akg i d a f h
   .obtain⟨g,b,j,e,_⟩:=vC O o.2 O d hx;rw[mC O hx e]at h⊢;have n:b=Y:=h;subst n;obtain⟨k,l⟩:=abg i d 8 [s] 0 g j (λc hx=>U) e;refine .inr ⟨l,g++a,U,λc hx=>?_⟩;rcases List.mem_append.1 hx with hx|hx
    .exact k c hx
    .exact f c hx
theorem akh:∀(ts:List Tk)(a:List Int)(st':List Int),No6 a->Fd (a++[6]) ts st'->∃b,st'=b++[6]/\No6 b
 |[],a,st',hn,h=>by cases h;grind
 |T::ts,a,st',hn,h=>by
  cases h with
  |cons d f h3 g c=>
   rcases akg d f a hn g with⟨e,_⟩|⟨_,b,e,i⟩
   .omega
   .rw[e]at c;exact akh ts b st' i c
theorem aqA{toks:List Tk}(h:jn s=(toks,st, -1))(d:(feedL st 6).2=Y):∃(m:Nat) (R:Fo) (e:Int),Q toks=m+1/\xy toks m=⟨6,(s.size:Nat),(s.size:Nat),e,0,⟨#[]⟩⟩/\P (xy toks) (m+1) .stats 0 R m/\∀q,q<m->(xy toks q).k≠6:=by
 obtain⟨a,e,v,c⟩:=EJ s _ _ _ _ _ toks st h;rw[dI]at v;have G:No6 [100]:=λan ag=>U;obtain⟨f,x,C⟩:=akh a [100] st G c;have af:Q toks=Q a+1:=U;have ad:xy toks (Q a)=⟨6,(s.size:Nat),(s.size:Nat),e,0,⟨#[]⟩⟩:=EK U;have y:(feedL st 6).1=[]:=by
  rw[x]at d⊢;rcases akg O O f C d with⟨_,g⟩|⟨g,_⟩;all_goals omega
 have B:∀q b,a[q]?=A2 b->xy toks q=b:=λq b A=>EK U;have z:∀i,(xy toks i).k<100/\(i<Q a->(xy toks i).k≠6):=λi=>by
  rcases Nat.lt_trichotomy i (Q a) with g|g|g
  .rw[B i _ (bi g)];have:=an6 c (xd g);omega
  .grind
  .unfold xy;rw[er,CH O];exact⟨by simp[zTk],λg=>O⟩
 obtain⟨E,l⟩:=adb (tk:=xy toks) (n:=Q a+1) (t:=6) (i:=Q a) (j:=Q a+1) (m:=0) U O st d (by rw[y];exact .nil);obtain⟨ak,o⟩:=asE (tk:=xy toks) (n:=Q a+1) a _ st 0 E _ c (λq b A=>U) O (by rw[ny];exact l);obtain⟨F,al,k,p,r,_⟩:=D.split o [100] [6] rfl;obtain⟨w,K,am,u,_⟩:=r.toks;have L:=u.nils;obtain rfl:k=Q a:=O;obtain⟨R,H⟩:=(amF (n:=Q a+1) (λi=>(z i).1) F).stats p (Nat.lt_succ_self _) (.inr w);grind
def aki{S:List Int}(hS:EB S)(b:Q S=n)(hn:1<=n):S.getD (n-1) 0≠(n:Int)↔S.getD (n-1) 0<(n:Int):=by
 obtain⟨c,a⟩:=dh b (O:n-1<n);have d:=hS _ c a;rw[er,a,jF];omega
